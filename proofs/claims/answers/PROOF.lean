import PyProof.Rows.All
import Wide.All
import OpenK.AllK
import Wide.FinOn
import PyProof.EqAt
import PyProof.EqKinds
import PyProof.TupleCall
import KE.BitLaws
import Open.SpecLaws
import KE.OsHead
import KE.OsGo
import KE.KSortTupG
import KE.KDictList
import PySem.Challenge.RW_firsttree_s01_answers
set_option Elab.async false
set_option linter.all false
set_option compiler.extract_closed false
section
set_option maxRecDepth 100000
namespace L2
open PySem PySem.Spec PyProof.Rows
abbrev Key:=Sum Int Str
def WN:Key→Value→Bool
  | .inl k,v=>Value.isInt k v
  | .inr x,v=>Value.isStrOf x v
def Axw (w:World):Key→Int
  | .inl k=>hashInt k
  | .inr x=>hashStr w x
theorem CV:∀ {k:Key} {v:Value},WN k v=true→(∃ i t,k=Sum.inl i∧v=Value.int i t)∨(∃ x t,k=Sum.inr x∧v=Value.str x t)
  | .inl i,v,h=>by
    obtain ⟨t,e⟩:=Value.isInt_shape (k:=i) (v:=v) h
    exact .inl ⟨i,t,rfl,e⟩
  | .inr x,v,h=>by
    obtain ⟨t,e⟩:=Value.isStrOf_shape (x:=x) (v:=v) h
    exact .inr ⟨x,t,rfl,e⟩
theorem L5 (i:Int) (t:Tok):WN (.inl i) (.int i t)=true:=by simp [WN,Value.isInt]
theorem Ap3 (x:Str) (t:Tok):WN (.inr x) (.str x t)=true:=by simp [WN,Value.isStrOf]
theorem Av2 (a b:Int):decide ((Sum.inl a:Key)=Sum.inl b)=(a == b):=by
  by_cases e:a=b
  · subst e; simp
  · have h : ¬ (Sum.inl a:Key)=Sum.inl b:=fun q=>e (Sum.inl.inj q)
    rw [decide_eq_false h]
    exact (beq_eq_false_iff_ne.mpr e).symm
theorem Av5 (a b:Str):decide ((Sum.inr a:Key)=Sum.inr b)=decide (a=b):=by
  by_cases e:a=b
  · subst e; simp
  · have h : ¬ (Sum.inr a:Key)=Sum.inr b:=fun q=>e (Sum.inr.inj q)
    rw [decide_eq_false h,decide_eq_false e]
theorem Av3 (a:Int) (b:Str):decide ((Sum.inl a:Key)=Sum.inr b)=false:=decide_eq_false (fun q=>nomatch q)
theorem Av4 (a:Str) (b:Int):decide ((Sum.inr a:Key)=Sum.inl b)=false:=decide_eq_false (fun q=>nomatch q)
def C0 (prog:Program) (w:World):PySem.KeyKind prog w Key where
  is:=WN
  hash:=Axw w
  inj:=fun v a b ha hb=>by
    rcases CV ha with ⟨i,t,rfl,rfl⟩ | ⟨x,t,rfl,rfl⟩
    · rcases CV hb with ⟨j,u,rfl,e⟩ | ⟨y,u,rfl,e⟩
      · injection e with e1 _; rw [e1]
      · exact nomatch e
    · rcases CV hb with ⟨j,u,rfl,e⟩ | ⟨y,u,rfl,e⟩
      · exact nomatch e
      · injection e with e1 _; rw [e1]
  byValue:=fun k v h=>by
    rcases CV h with ⟨i,t,rfl,rfl⟩ | ⟨x,t,rfl,rfl⟩ <;> rfl
  pyHash:=fun hv h=>by
    rcases CV hv with ⟨i,t,rfl,rfl⟩ | ⟨x,t,rfl,rfl⟩
    · exact wpAny_pyHash_int h
    · exact wpAny_pyHash_str h
  eqBool:=fun hu hv h=>by
    rcases CV hu with ⟨i,t,rfl,rfl⟩ | ⟨x,t,rfl,rfl⟩
    · rcases CV hv with ⟨j,u,rfl,rfl⟩ | ⟨y,u,rfl,rfl⟩
      · rw [Av2] at h; exact wpAny_eqBool_int h
      · rw [Av3] at h; exact SeqAt.EqAt.int_str i t y u _ _ _ _ h
    · rcases CV hv with ⟨j,u,rfl,rfl⟩ | ⟨y,u,rfl,rfl⟩
      · rw [Av4] at h; exact SeqAt.EqAt.str_int x t j u _ _ _ _ h
      · rw [Av5] at h; exact wpAny_eqBool_str h
  «strs»:=fun k x t v h=>by
    rcases CV h with ⟨i,u,rfl,e⟩ | ⟨y,u,rfl,e⟩
    · exact nomatch e
    · injection e with e1 _
      subst e1
      cases v <;> rfl
theorem AiQ (prog:Program) (w:World) (i:Int) (t:Tok):(C0 prog w).is (.inl i) (.int i t)=true:=L5 i t
theorem AiR (prog:Program) (w:World) (x:Str) (t:Tok):(C0 prog w).is (.inr x) (.str x t)=true:=Ap3 x t
end L2
namespace L2
open PySem PySem.Spec PyProof.Rows
inductive V where
  | non | bl (b:Bool) | int (i:Int) | str (x:Str) | byt (b:Array UInt8) | flt (b:UInt64) | ref (a:Addr) | ty (n:String)
  deriving DecidableEq
def RelV:V→Value→Prop
  | .non,u=>u=Value.none
  | .bl b,u=>u=Value.bool b
  | .int i,u=>∃ t,u=Value.int i t
  | .str x,u=>∃ t,u=Value.str x t
  | .byt b,u=>∃ t,u=Value.bytes b t
  | .flt b,u=>∃ t,u=Value.float b t
  | .ref a,u=>u=Value.ref a
  | .ty n,u=>u=Value.type n
abbrev Vals:List V→List Value→Prop:=Paired RelV
theorem Vals.length {xs:List V} {us:List Value} (r:Vals xs us):xs.length=us.length:=Paired.length r
theorem Vals.get:∀ {xs:List V} {us:List Value} {i:Nat} {x:V},Vals xs us→xs[i]? = some x→∃ u,us[i]? = some u∧RelV x u
  | _,_,_,_,.nil,e=>by simp at e
  | _,_,0,_,.cons r _,e=>by simp at e; subst e; exact ⟨_,rfl,r⟩
  | _,_,i + 1,x,.cons _ t,e=>by
    obtain ⟨u,h1,h2⟩:=Vals.get (i:=i) (x:=x) t (by simpa using e)
    exact ⟨u,by simpa using h1,h2⟩
theorem Vals.append:∀ {xs ys:List V} {us ws:List Value},Vals xs us→Vals ys ws→Vals (xs++ys) (us++ws)
  | _,_,_,_,.nil,s=>s
  | _,_,_,_,.cons r t,s=>.cons r (Vals.append t s)
theorem Vals.take:∀ {xs:List V} {us:List Value} (n:Nat),Vals xs us→Vals (xs.take n) (us.take n)
  | _,_,0,_=>.nil
  | _,_,_ + 1,.nil=>.nil
  | _,_,n + 1,.cons r t=>.cons r (Vals.take n t)
theorem Vals.drop:∀ {xs:List V} {us:List Value} (n:Nat),Vals xs us→Vals (xs.drop n) (us.drop n)
  | _,_,0,r=>r
  | _,_,_ + 1,.nil=>.nil
  | _,_,n + 1,.cons _ t=>Vals.drop n t
def Ln:Option V→Option Value→Prop
  | some v,some u=>RelV v u
  | none,none=>True
  | _,_=>False
def KV {κ:Type}:List (κ × V)→List (κ × Value)→Prop:=Paired fun (p:κ × V) (q:κ × Value)=>p.1=q.1∧RelV p.2 q.2
def kV:Key→V
  | .inl i=>.int i
  | .inr x=>.str x
inductive HO where
  /-- a list -/
  | lst (xs:List V)
  /-- a tuple (never changes) -/
  | tup (xs:List V)
  /-- a dict whose keys are ints and texts; one whose keys are tuples of ints and texts (the empty one is both) -/
  | dK (kvs:List (Key × V)) | dT (kvs:List (List Key × V))
  /-- a set of ints: its members,its size -/
  | set (S:Int→Bool) (n:Nat)
  /-- an instance of the class at C,its dict at dx,its attributes -/
  | ins (C dx:Addr) (fs:List (Str × V))
  /-- the dict of the instance at x -/
  | own (x:Addr)
  /-- the dict of an exception -/
  | xd (fs:List (Str × V))
  /-- a bound method,f of x -/
  | met (f x:Addr)
  /-- a range object lo,lo + 1,.. below hi -/
  | rng (lo hi:Int)
  /-- a thing that is known to the object (the script; a dict while a loop walks it): read,never written while it is so -/
  | frz (o:Obj) (u:HO)
  /-- a code object's table -/
  | tbl (ps:Array Value)
  /-- any other thing,by what is true of its one object (a def of one's own: SetO a S n:=HO.ext fun h=>..) -/
  | ext (φ:Heap→Prop)
abbrev Hp:=Addr→Option HO
def upd (H:Hp) (a:Addr) (o:HO):Hp:=fun b=>if b=a then some o else H b
theorem Ab {H:Hp} {a:Addr} {o:HO}:upd H a o a=some o:=by unfold upd; rw [if_pos rfl]
theorem A9 {H:Hp} {a b:Addr} {o:HO} (h:b≠a):upd H a o b=H b:=by unfold upd; rw [if_neg h]
theorem Jh {H:Hp} {a:Addr} {o u:HO}:upd (upd H a o) a u=upd H a u:=by
  funext b; unfold upd; split <;> rfl
theorem Vb {H:Hp} {a b:Addr} {o u:HO} (h:H a=some o) (h':H b=some u) (d:o≠u):a≠b:=by
  intro e; subst e; rw [h] at h'; exact d (Option.some.inj h')
theorem Au {H:Hp} {a b:Addr} {o:HO} (h:H a=some o) (h':H b=none):a≠b:=by
  intro e; subst e; rw [h] at h'; cases h'
section
variable (P:Program) (w:World)
def DK (H:Hp) (h:Heap) (a:Addr):HO→Prop
  | .lst xs=>xs.length≤sizeLine∧∃ (its:List Value) (n:Nat),Vals xs its∧h.get? a=some { cls:=.type "list",data:=.seq its.toArray n }
  | .tup xs=>xs.length≤sizeLine∧∃ its:List Value,Vals xs its∧IsTup h a its.toArray
  | .dK kvs=>kvs.length≤sizeLine∧(a == sysModules)=false∧∃ vs,KV kvs vs∧h.DictOf (C0 P w) a vs
  | .dT kvs=>kvs.length≤sizeLine∧(a == sysModules)=false∧∃ xs:List (List Key × Addr × Value),
      Paired (fun (p:List Key × V) (q:List Key × Addr × Value)=>p.1=q.1∧H q.2.1=some (.tup (p.1.map kV))∧RelV p.2 q.2.2) kvs xs ∧
      ∃ o es ep,h.get? a=some o∧o.ExactDict∧o.data=.dict es ep∧es.toList=xs.map (entryOfKey (tupleKind (C0 P w)))∧(xs.map (·.1)).Nodup
  | .set S n=>h.SetOf (intKind P w) a S n
  | .ins C dx fs=>H dx=some (.own a)∧fs.length≤1000∧dx≠a∧h.get? a=some (PySem.W.instObj C dx) ∧
      ∃ mA,h.Ns1 dx mA∧(∀ f,Ln (fs.lookup f) (mA f))∧PySem.Within mA (fs.map (·.1))
  | .own _=>∃ o,h.get? a=some o
  | .xd fs=>∃ mA,h.Ns1 a mA∧∀ f,Ln (fs.lookup f) (mA f)
  | .rng lo hi=>∃ t u v,h.get? a=some { cls:=.type "range",data:=.fields #[.int lo t,.int hi u,.int 1 v] }
  | .frz o u=>h.get? a=some o∧DK H h a u
  | .tbl ps=>h.get? a=some { cls:=.none,data:=.fields ps }
  | .met f x=>h.get? a=some (PySem.W.methodObj (.ref f) (.ref x))
  | .ext φ=>φ h∧(∃ o,h.get? a=some o)∧∀ h1 h2:Heap,φ h1→(∀ o,h1.get? a=some o→h2.get? a=some o)→φ h2
def HOk (H:Hp) (h:Heap):Prop:=∀ a o,H a=some o→DK P w H h a o
end
section
variable {P:Program} {w:World} {H H':Hp} {h h':Heap} {a:Addr} {o:HO}
theorem DK.lt (x:DK P w H h a o):a < h.objs.size:=by
  cases o with
  | lst xs=>obtain ⟨_,_,_,_,e⟩:=x; exact Heap.lt_size e
  | tup xs=>obtain ⟨_,_,_,p⟩:=x; exact p.lt
  | dK kvs=>obtain ⟨_,_,_,_,o,_,_,e,_⟩:=x; exact Heap.lt_size e
  | dT kvs=>obtain ⟨_,_,_,_,o,_,_,e,_⟩:=x; exact Heap.lt_size e
  | set S n=>obtain ⟨o,_,_,_,e,_⟩:=x; exact Heap.lt_size e
  | ins C dx fs=>obtain ⟨_,_,_,e,_⟩:=x; exact Heap.lt_size e
  | own y=>obtain ⟨_,e⟩:=x; exact Heap.lt_size e
  | xd fs=>obtain ⟨_,⟨_,_,_,e,_⟩,_⟩:=x; exact Heap.lt_size e
  | rng lo hi=>obtain ⟨_,_,_,e⟩:=x; exact Heap.lt_size e
  | frz ob u=>obtain ⟨e,_⟩:=x; exact Heap.lt_size e
  | tbl ps=>exact Heap.lt_size (show h.get? a=some _ from x)
  | met f y=>exact Heap.lt_size (show h.get? a=some _ from x)
  | ext φ=>obtain ⟨_,⟨_,e⟩,_⟩:=x; exact Heap.lt_size e
theorem Paired.AvC {α β:Type} {F G:α→β→Prop}:∀ {l₁:List α} {l₂:List β},Paired F l₁ l₂→(∀ a b,F a b→G a b)→Paired G l₁ l₂
  | _,_,.nil,_=>.nil
  | _,_,.cons r t,f=>.cons (f _ _ r) (Paired.AvC t f)
theorem DK.AjM (x:DK P w H h a o) (k:∀ b u,(b=a∨H b=some (.own a))→h.get? b=some u→h'.get? b=some u)
    (ho:∀ b,H b=some (.own a)→H' b=some (.own a)) (ht:∀ b xs,H b=some (.tup xs)→H' b=some (.tup xs)):DK P w H' h' a o:=by
  induction o with
  | lst xs=>obtain ⟨z,its,n,r,e⟩:=x; exact ⟨z,its,n,r,k _ _ (.inl rfl) e⟩
  | tup xs=>obtain ⟨z,its,r,ob,e,c⟩:=x; exact ⟨z,its,r,ob,k _ _ (.inl rfl) e,c⟩
  | dK kvs=>obtain ⟨z,y,vs,r,ob,es,ep,e,c⟩:=x; exact ⟨z,y,vs,r,ob,es,ep,k _ _ (.inl rfl) e,c⟩
  | dT kvs =>
    obtain ⟨z,y,xs,r,ob,es,ep,e,c⟩:=x
    exact ⟨z,y,xs,Paired.AvC r fun p q z=>⟨z.1,ht _ _ z.2.1,z.2.2⟩,ob,es,ep,k _ _ (.inl rfl) e,c⟩
  | set S n=>obtain ⟨ob,es,ep,t,e,c⟩:=x; exact ⟨ob,es,ep,t,k _ _ (.inl rfl) e,c⟩
  | ins C dx fs =>
    obtain ⟨d,z,ne,e,mA,⟨od,es,ep,e2,c⟩,r⟩:=x
    exact ⟨ho _ d,z,ne,k _ _ (.inl rfl) e,mA,⟨od,es,ep,k _ _ (.inr d) e2,c⟩,r⟩
  | own y=>obtain ⟨ob,e⟩:=x; exact ⟨ob,k _ _ (.inl rfl) e⟩
  | xd fs=>obtain ⟨mA,⟨od,es,ep,e,c⟩,r⟩:=x; exact ⟨mA,⟨od,es,ep,k _ _ (.inl rfl) e,c⟩,r⟩
  | rng lo hi=>obtain ⟨t,u,v,e⟩:=x; exact ⟨t,u,v,k _ _ (.inl rfl) e⟩
  | frz ob u ih=>obtain ⟨e,q⟩:=x; exact ⟨k _ _ (.inl rfl) e,ih q⟩
  | tbl ps =>
    have e:h.get? a=some { cls:=.none,data:=.fields ps }:=x
    show h'.get? a=some { cls:=.none,data:=.fields ps }
    exact k a _ (.inl rfl) e
  | met f y =>
    have e:h.get? a=some (PySem.W.methodObj (.ref f) (.ref y)):=x
    show h'.get? a=some (PySem.W.methodObj (.ref f) (.ref y))
    exact k a _ (.inl rfl) e
  | ext φ=>obtain ⟨p,⟨o,e⟩,st⟩:=x; exact ⟨st _ _ p fun o q=>k _ _ (.inl rfl) q,⟨o,k _ _ (.inl rfl) e⟩,st⟩
theorem HOk.lt (x:HOk P w H h) (e:H a=some o):a < h.objs.size:=(x a o e).lt
theorem HOk.fresh (x:HOk P w H h) (e:h.objs.size≤a):H a=none:=by
  cases q:H a with
  | none=>rfl
  | some u=>exact absurd (Nat.lt_of_lt_of_le (x.lt q) e) (Nat.lt_irrefl _)
theorem HOk.kept (x:HOk P w H h) (k:∀ b u,h.get? b=some u→h'.get? b=some u):HOk P w H h':=fun a o e =>
  (x a o e).AjM (fun b u _ q=>k b u q) (fun _ q=>q) fun _ _ q=>q
theorem HOk.laid (x:HOk P w H h) (k:∀ b u,h.get? b=some u→h'.get? b=some u) (hp:h.objs.size≤a) (new:DK P w (upd H a o) h' a o):HOk P w (upd H a o) h':=fun b u e=>by
  have hn:=x.fresh hp
  by_cases hb:b=a
  · subst hb; rw [Ab] at e; cases e; exact new
  · rw [A9 hb] at e
    exact (x b u e).AjM (fun c v _ q=>k c v q) (fun c q=>by rw [A9 (Au q hn)]; exact q) fun c xs q=>by rw [A9 (Au q hn)]; exact q
end
def Rd (H:Hp) (a:Addr) (u:HO):Prop:=H a=some u∨∃ o,H a=some (.frz o u)
theorem Rd.ok {P:Program} {w:World} {H:Hp} {h:Heap} {a:Addr} {u:HO} (r:Rd H a u) (x:HOk P w H h):DK P w H h a u:=by
  rcases r with r | ⟨o,r⟩
  · exact x a u r
  · obtain ⟨_,q⟩:=x a _ r
    exact q
def Mut:Option HO→Prop
  | some (.lst _)=>True
  | some (.dK _)=>True
  | some (.dT _)=>True
  | some (.set _ _)=>True
  | some (.ins _ _ _)=>True
  | some (.ext _)=>True
  | _=>False
section
variable {P:Program} {w:World} {H:Hp} {h h':Heap} {x e:Addr} {o':HO}
theorem HOk.write (ok:HOk P w H h) (mu:Mut (H x)) (he:e=x∨H e=some (.own x)) (k:∀ b u,b≠e→h.get? b=some u→h'.get? b=some u) (heo:∃ u,h'.get? e=some u)
    (new:DK P w (upd H x o') h' x o'):HOk P w (upd H x o') h':=fun b u q=>by
  have nown:∀ c y,H c=some (.own y)→c≠x:=fun c y r z=>by subst z; rw [r] at mu; exact mu
  have ntup:∀ c xs,H c=some (.tup xs)→c≠x:=fun c xs r z=>by subst z; rw [r] at mu; exact mu
  by_cases hb:b=x
  · subst hb; rw [Ab] at q; cases q; exact new
  · rw [A9 hb] at q
    by_cases hbe:b=e
    · have q':H b=some (.own x):=by
        rcases he with z | z
        · exact absurd (hbe.trans z) hb
        · rw [hbe]; exact z
      rw [q] at q'; cases q'
      obtain ⟨v,hv⟩:=heo
      exact ⟨v,by rw [hbe]; exact hv⟩
    · refine (ok b u q).AjM (fun c v hc r=>k c v ?_ r) (fun c r=>by rw [A9 (nown c b r)]; exact r) fun c xs r=>by rw [A9 (ntup c xs r)]; exact r
      rcases hc with rfl | hc
      · exact hbe
      · rintro rfl
        rcases he with z | z
        · exact nown c b hc z
        · rw [hc] at z; cases z; exact hb rfl
end
structure Un (fs ex:List Addr) (H H':Hp) (h h':Heap):Prop where
  keep:∀ b o,h.get? b=some o→H b=none→b ∉ fs→b ∉ ex→h'.get? b=some o
  slot:∀ b o,h.get? b=some o→H b=none→b ∈ fs→b ∉ ex→∃ sl,h'.get? b=some { o with slots:=sl }
  free:∀ b o,h.get? b=some o→H b=none→b ∉ ex→H' b=none
  there:∀ b o,h.get? b=some o→b ∉ ex→∃ o',h'.get? b=some o'
  YA:∀ b xs,H b=some (.tup xs)→H' b=some (.tup xs)
  ZT:∀ b o u,H b=some (.frz o u)→H' b=some (.frz o u)
  AgW:∀ b ps,H b=some (.tbl ps)→∃ more,H' b=some (.tbl (ps++more))
section
variable {fs fs' ex ex':List Addr} {H H1 H2:Hp} {h h1 h2 h':Heap} {a x e:Addr} {o:HO}
theorem Un.any (u:Un fs ex H H1 h h1) {b:Addr} {ob:Obj} (q:h.get? b=some ob) (n:H b=none) (hx:b ∉ ex):∃ sl,h1.get? b=some { ob with slots:=sl }:=by
  by_cases hb:b ∈ fs
  · exact u.slot b ob q n hb hx
  · exact ⟨ob.slots,u.keep b ob q n hb hx⟩
theorem Un.kept (k:∀ b u,h.get? b=some u→h'.get? b=some u):Un fs ex H H h h' :=
  ⟨fun b ob q _ _ _=>k b ob q,fun b ob q _ _ _=>⟨ob.slots,k b ob q⟩,fun _ _ _ n _=>n,fun b ob q _=>⟨ob,k b ob q⟩,fun _ _ q=>q,fun _ _ _ q=>q,fun _ ps q=>⟨#[],by rw [q]; simp⟩⟩
theorem Un.refl:Un fs ex H H h h:=Un.kept fun _ _ q=>q
theorem Un.laid (k:∀ b u,h.get? b=some u→h'.get? b=some u) (hp:h.objs.size≤a) (hn:H a=none):Un fs ex H (upd H a o) h h' where
  keep:=fun b u q _ _ _=>k b u q
  slot:=fun b u q _ _ _=>⟨u.slots,k b u q⟩
  free:=fun b u q n _=>by rw [A9 (Nat.ne_of_lt (Nat.lt_of_lt_of_le (Heap.lt_size q) hp))]; exact n
  there:=fun b u q _=>⟨u,k b u q⟩
  YA:=fun b xs q=>by rw [A9 (Au q hn)]; exact q
  ZT:=fun b u xs q=>by rw [A9 (Au q hn)]; exact q
  AgW:=fun b ps q=>⟨#[],by rw [A9 (Au q hn),q]; simp⟩
theorem Un.write (mu:Mut (H x)) (he:e=x∨H e=some (.own x)) (k:∀ b u,b≠e→h.get? b=some u→h'.get? b=some u) (heo:∃ u,h'.get? e=some u):Un fs ex H (upd H x o) h h':=by
  have hx:∀ b,H b=none→b≠x:=fun b n z=>by subst z; rw [n] at mu; exact mu
  have hb:∀ b,H b=none→b≠e:=fun b n z=>by
    subst z
    rcases he with r | r
    · exact hx b n r
    · rw [n] at r; cases r
  have hm:∀ b u,H b=some u→¬ Mut (some u)→b≠x:=fun b u q nm z=>by subst z; rw [q] at mu; exact nm mu
  refine ⟨fun b u q n _ _=>k b u (hb b n) q,fun b u q n _ _=>⟨u.slots,k b u (hb b n) q⟩,fun b u q n _=>by rw [A9 (hx b n)]; exact n,fun b u q _=>?_,
    fun b xs q=>by rw [A9 (hm b _ q fun z=>z)]; exact q,fun b u xs q=>by rw [A9 (hm b _ q fun z=>z)]; exact q,fun b ps q=>⟨#[],by rw [A9 (hm b _ q fun z=>z),q]; simp⟩⟩
  by_cases hbe:b=e
  · subst hbe; exact heo
  · exact ⟨u,k b u hbe q⟩
end
def trk (h:Heap) (H:Hp):List Addr:=(List.range h.objs.size).filter fun a=>(H a).isSome
def Afj (h:Heap) (H:Hp):Heap:=PySem.W.hideAll h (trk h H)
theorem Aps (h:Heap) (H:Hp):(Afj h H).objs.size=h.objs.size:=PySem.W.hideAll_size _ _
theorem Arf {h:Heap} {H:Hp} {b:Addr} {o:Obj} (e:h.get? b=some o) (n:H b=none):(Afj h H).get? b=some o :=
  PySem.W.hideAll_get _ e fun hm=>by
    have q:(H b).isSome=true:=(List.mem_filter.mp hm).2
    rw [n] at q; simp at q
theorem AtH {h:Heap} {H:Hp} {b:Addr} {o:Obj} (e:(Afj h H).get? b=some o):h.get? b=some o∧H b=none:=by
  have e':h.get? b=some o:=PySem.W.of_hideAll (trk h H) e
  refine ⟨e',?_⟩
  cases q:H b with
  | none=>rfl
  | some x =>
    have hm:b ∈ trk h H:=List.mem_filter.mpr ⟨List.mem_range.mpr (Heap.lt_size e'),by simp [q]⟩
    have z:(Afj h H).get? b=none:=PySem.W.hideAll_none (trk h H) hm
    rw [z] at e; cases e
end L2
namespace L2
open PySem PySem.Spec PyProof.Rows
structure Mod (K:PySem.W.Frag) (mg:Str→Option Value) (base:Heap):Prop where
  kin:K.In base
  glob:base.Ns mainGlobals mg
  blt:∃ mb,base.Ns builtinsNs mb∧∀ x:Str,x≠"__name__"→mb x=bootBuiltins x
  nolimit:base.NoLimit
structure Cx where
  prog:Program
  w:World
  K:PySem.W.Frag
  mg:Str→Option Value
  base:Heap
  A:Around
  N:List Str
  s_0:Shared
  H_0:Hp
  env:Env
  outer:List Env
  stack:List Env
  ex:List Addr
  fn:Str→Bool
  calm:Bool
  pn:List (Addr × Obj)
  xe:Value→Shared→Prop
def frs (l:List Env):List Addr:=l.filterMap (·.frame)
abbrev Cx.fs (X:Cx):List Addr:=frs X.outer
def Vis (sc:Scope) (x:Str):Prop:=sc.names.lookup x=some .local∨sc.names.lookup x=some .cell∨sc.names.lookup x=some .free
def Loc (sc:Scope) (x:Str):Prop:=sc.names.lookup x=some .local∨sc.names.lookup x=some .cell
def Look (env:Env) (h:Heap) (m:Str→Option Value) (x:Str) (u:Value):Prop :=
  (env.kindOf x=some .local∧m x=some u)∨((env.kindOf x=some .cell∨env.kindOf x=some .free)∧∃ c,env.cells.lookup x=some c∧h.IsCell c (some u))
structure Cx.Ok (X:Cx):Prop where
  mod:Mod X.K X.mg X.base
  kind:X.env.scope.kind=.function
  glob:X.env.globals=mainGlobals
  blt:X.env.builtins=builtinsNs
  above:X.s_0.heap.objs.size≤X.env.locals
  inj:∀ x y c,X.env.cells.lookup x=some c→X.env.cells.lookup y=some c→x=y
  has:∀ x,(X.env.kindOf x=some .cell∨X.env.kindOf x=some .free)→∃ c,X.env.cells.lookup x=some c
  cab:∀ x c,X.fn x=true→X.env.cells.lookup x=some c→X.s_0.heap.objs.size≤c
  hd:X.calm=true→X.A.handled=none
  frames:X.A.frames=some X.stack
  stk:X.stack=X.outer∨(X.stack=X.env::X.outer∧X.env.frame=some X.env.locals)
  exf:∀ b ∈ X.ex,b≠X.env.locals∧∀ x c,X.env.cells.lookup x=some c→c≠b
  bs:∀ b o,X.base.get? b=some o→X.s_0.heap.get? b=some o∧X.H_0 b=none
  bsz:X.base.objs.size≤X.s_0.heap.objs.size
  Ar0:∀ b o,X.base.get? b=some o→b ∉ X.ex
  AqY:∀ b ∈ X.ex,b ∉ X.fs
  XD:X.s_0.heap.FunFrames X.base X.outer
  frf:∀ b ∈ X.fs,X.H_0 b=none
structure Inv (X:Cx) (pins:List (Addr × Obj)) (σ:List (Option V)) (H:Hp) (s:Shared):Prop where
  ok:X.Ok
  os:s.os=X.s_0.os
  bare:AllBare s.gens
  base:Un X.fs X.ex X.H_0 H X.s_0.heap s.heap
  loc:∃ m,s.heap.Ns X.env.locals m∧∀ (i:Nat) (x:Str) (v:V),X.N[i]? = some x→σ[i]? = some (some v)→Vis X.env.scope x→∃ u,RelV v u∧Look X.env s.heap m x u
  cell:∀ x c,X.env.cells.lookup x=some c→∃ v,s.heap.IsCell c v
  free:H X.env.locals=none
  Lz:∀ x c,X.env.cells.lookup x=some c→H c=none
  pin:∀ p ∈ X.pn++pins,s.heap.get? p.1=some p.2∧H p.1=none∧p.1≠X.env.locals∧p.1 ∉ X.fs∧∀ v,p.2.data≠.cell v
  hok:HOk X.prog X.w H s.heap
  len:σ.length=X.N.length
section
variable {X:Cx} {pins:List (Addr × Obj)} {σ:List (Option V)} {H H':Hp} {s:Shared} {h':Heap}
theorem Cx.Ok.Axy (ok:X.Ok) {b:Addr} {o:Obj} (e:X.base.get? b=some o):b ∉ X.fs:=fun hb=>by
  have:=(ok.XD.mem hb).1
  rw [e] at this; cases this
theorem Inv.bs (I:Inv X pins σ H s):∀ b o,X.base.get? b=some o→s.heap.get? b=some o∧H b=none:=fun b o e =>
  ⟨I.base.keep b o (I.ok.bs b o e).1 (I.ok.bs b o e).2 (I.ok.Axy e) (I.ok.Ar0 b o e),I.base.free b o (I.ok.bs b o e).1 (I.ok.bs b o e).2 (I.ok.Ar0 b o e)⟩
theorem Inv.bk (I:Inv X pins σ H s):∀ b o,X.base.get? b=some o→s.heap.get? b=some o:=fun b o e=>(I.bs b o e).1
theorem Inv.mod (I:Inv X pins σ H s):Mod X.K X.mg X.base:=I.ok.mod
theorem Inv.kIn (I:Inv X pins σ H s):X.K.In s.heap:=I.ok.mod.kin.keeps I.bk
theorem Inv.lt (I:Inv X pins σ H s):X.env.locals < s.heap.objs.size:=let ⟨_,hn,_⟩:=I.loc; hn.lt
theorem Inv.sz (I:Inv X pins σ H s):X.s_0.heap.objs.size≤s.heap.objs.size:=Nat.le_trans I.ok.above (Nat.le_of_lt I.lt)
theorem Inv.Axz (I:Inv X pins σ H s) {a:Addr} (h:s.heap.objs.size≤a):a ∉ X.fs:=fun hb=>by
  obtain ⟨_,o,ho,_⟩:=I.ok.XD.mem hb
  exact absurd (Nat.lt_of_lt_of_le (Heap.lt_size ho) (Nat.le_trans I.sz h)) (Nat.lt_irrefl _)
theorem Inv.cne (I:Inv X pins σ H s):∀ x c,X.env.cells.lookup x=some c→c≠X.env.locals:=fun x c e z=>by
  obtain ⟨v,o,ho,hd⟩:=I.cell x c e
  obtain ⟨m,⟨o',es,ep,ho',hd',_⟩,_⟩:=I.loc
  rw [z,ho'] at ho; cases ho; rw [hd'] at hd; cases hd
theorem Inv.XD (I:Inv X pins σ H s):s.heap.FunFrames X.base X.outer:=by
  have all:∀ (l:List Env),(∀ b ∈ frs l,b ∈ X.fs)→X.s_0.heap.FunFrames X.base l→s.heap.FunFrames X.base l:=by
    intro l
    induction l with
    | nil=>intro _ _; trivial
    | cons env r ih =>
      intro hs hl
      obtain ⟨hk,⟨L,o,hf,hn,ho,hd⟩,hr⟩:=hl
      have hL:L ∈ X.fs:=hs L (by unfold frs; rw [List.filterMap_cons,hf]; exact List.mem_cons_self)
      obtain ⟨sl,e⟩:=I.base.slot L o ho (I.ok.frf L hL) hL fun z=>I.ok.AqY L z hL
      exact ⟨hk,⟨L,_,hf,hn,e,hd⟩,ih (fun b hb=>hs b (by unfold frs; rw [List.filterMap_cons,hf]; exact List.mem_cons_of_mem _ hb)) hr⟩
  exact all X.outer (fun _ hb=>hb) I.ok.XD
theorem Inv.stack (I:Inv X pins σ H s):s.heap.FunFrames X.base X.stack:=by
  rcases I.ok.stk with e | ⟨e,hf⟩
  · rw [e]; exact I.XD
  · rw [e]
    obtain ⟨m,hn,_⟩:=I.loc
    refine .cons (by rw [I.ok.kind]; decide) hf hn ?_ I.XD
    exact Heap.get?_none_of_le (Nat.le_trans I.ok.bsz I.ok.above)
theorem Inv.AmL (I:Inv X pins σ H s):∀ b ∈ frs X.stack,b ∈ X.env.locals::X.fs:=fun b hb=>by
  rcases I.ok.stk with e | ⟨e,hf⟩
  · rw [e] at hb; exact List.mem_cons_of_mem _ hb
  · rw [e] at hb
    unfold frs at hb
    rw [List.filterMap_cons,hf] at hb
    exact hb
theorem Inv.Aox (I:Inv X pins σ H s):∀ b ∈ frs X.stack,H b=none:=fun b hb=>by
  rcases List.mem_cons.mp (I.AmL b hb) with e | hb
  · rw [e]; exact I.free
  · obtain ⟨_,o,ho,_⟩:=I.ok.XD.mem hb
    exact I.base.free b o ho (I.ok.frf b hb) fun z=>I.ok.AqY b z hb
theorem Inv.step {g':Array GenState} {t':Nat} {d':Drawn} {ch:List Addr} (I:Inv X pins σ H s)
    (hch:∀ b ∈ ch,(b ∈ X.ex∨X.s_0.heap.objs.size≤b)∧b≠X.env.locals∧(∀ x c,X.env.cells.lookup x=some c→c≠b)∧∀ p ∈ X.pn++pins,p.1≠b)
    (keep:∀ b o,b≠X.env.locals→b ∉ X.fs→b ∉ ch→s.heap.get? b=some o→H b=none→h'.get? b=some o)
    (slot:∀ b o,b≠X.env.locals→b ∈ X.fs→b ∉ ch→s.heap.get? b=some o→H b=none→∃ sl,h'.get? b=some { o with slots:=sl }) (free:∀ b o,b ∉ ch→s.heap.get? b=some o→H b=none→H' b=none)
    (there:∀ b o,b ∉ ch→s.heap.get? b=some o→∃ o',h'.get? b=some o')
    (YA:∀ b xs,H b=some (.tup xs)→H' b=some (.tup xs)) (ZT:∀ b o u,H b=some (.frz o u)→H' b=some (.frz o u)) (AgW:∀ b ps,H b=some (.tbl ps)→∃ more,H' b=some (.tbl (ps++more)))
    (ns:∀ m,s.heap.Ns X.env.locals m→h'.Ns X.env.locals m) (hok:HOk X.prog X.w H' h') (hg:AllBare g') :
    Inv X pins σ H' { s with heap:=h',gens:=g',drawn:=d',toks:=t' }:=by
  have neL:∀ b o,X.s_0.heap.get? b=some o→b≠X.env.locals:=fun b o e=>Nat.ne_of_lt (Nat.lt_of_lt_of_le (Heap.lt_size e) I.ok.above)
  have neC:∀ b o,X.s_0.heap.get? b=some o→b ∉ X.ex→b ∉ ch:=fun b o e hx hb=>by
    rcases (hch b hb).1 with z | z
    · exact hx z
    · exact absurd (Nat.lt_of_lt_of_le (Heap.lt_size e) z) (Nat.lt_irrefl _)
  have cellK:∀ x c,X.env.cells.lookup x=some c→∀ v,s.heap.IsCell c v→h'.IsCell c v:=fun x c e v ⟨o,ho,hd⟩=>by
    have nch:c ∉ ch:=fun z=>(hch c z).2.2.1 x c e rfl
    by_cases hc:c ∈ X.fs
    · obtain ⟨sl,q⟩:=slot c o (I.cne x c e) hc nch ho (I.Lz x c e)
      exact ⟨_,q,hd⟩
    · exact ⟨o,keep c o (I.cne x c e) hc nch ho (I.Lz x c e),hd⟩
  refine ⟨I.ok,I.os,hg,⟨fun b o e n hb hx=>?_,fun b o e n hb hx=>?_,fun b o e n hx=>?_,fun b o e hx=>?_,fun b xs e=>YA b xs (I.base.YA b xs e),fun b o xs e=>ZT b o xs (I.base.ZT b o xs e),fun b ps e=>?_⟩,?_,fun x c e=>?_,?_,fun x c e=>?_,fun p hp=>?_,hok,I.len⟩
  · exact keep b o (neL b o e) hb (neC b o e hx) (I.base.keep b o e n hb hx) (I.base.free b o e n hx)
  · obtain ⟨sl,e1⟩:=I.base.slot b o e n hb hx
    obtain ⟨sl',e2⟩:=slot b _ (neL b o e) hb (neC b o e hx) e1 (I.base.free b o e n hx)
    exact ⟨sl',e2⟩
  · obtain ⟨o',e1⟩:=I.base.there b o e hx
    exact free b o' (neC b o e hx) e1 (I.base.free b o e n hx)
  · obtain ⟨o',e1⟩:=I.base.there b o e hx
    exact there b o' (neC b o e hx) e1
  · obtain ⟨m1,e1⟩:=I.base.AgW b ps e
    obtain ⟨m2,e2⟩:=AgW b _ e1
    exact ⟨m1++m2,by rw [e2,Array.append_assoc]⟩
  · obtain ⟨m,hn,hl⟩:=I.loc
    refine ⟨m,ns m hn,fun i x v e1 e2 e3=>?_⟩
    obtain ⟨u,r,l⟩:=hl i x v e1 e2 e3
    refine ⟨u,r,?_⟩
    rcases l with l | ⟨k,c,e,z⟩
    · exact .inl l
    · exact .inr ⟨k,c,e,cellK x c e _ z⟩
  · obtain ⟨v,z⟩:=I.cell x c e
    exact ⟨v,cellK x c e v z⟩
  · obtain ⟨m,⟨o,_,_,ho,_⟩,_⟩:=I.loc
    exact free _ o (fun z=>(hch _ z).2.1 rfl) ho I.free
  · obtain ⟨v,o,ho,hd⟩:=I.cell x c e
    exact free c o (fun z=>(hch c z).2.2.1 x c e rfl) ho (I.Lz x c e)
  · obtain ⟨e,n,ne,nf,d⟩:=I.pin p hp
    have nch:p.1 ∉ ch:=fun z=>(hch p.1 z).2.2.2 p hp rfl
    exact ⟨keep p.1 p.2 ne nf nch e n,free p.1 p.2 nch e n,ne,nf,d⟩
theorem Inv.un {t':Nat} (I:Inv X pins σ H s) (u:Un X.fs [] H H' s.heap h') (hok:HOk X.prog X.w H' h'):Inv X pins σ H' { s with heap:=h',toks:=t' }:=by
  obtain ⟨m,⟨o,es,ep,ho,r⟩,_⟩:=id I.loc
  obtain ⟨sl,hL⟩:=u.any ho I.free (by simp)
  exact I.step (g':=s.gens) (d':=s.drawn) (ch:=[]) (fun _ z=>nomatch z) (fun b o _ hb _ e n=>u.keep b o e n hb (by simp)) (fun b o _ hb _ e n=>u.slot b o e n hb (by simp)) (fun b o _ e n=>u.free b o e n (by simp)) (fun b o _ e=>u.there b o e (by simp)) u.YA u.ZT u.AgW (fun m' hm=>by
    obtain ⟨o',es',ep',ho',r'⟩:=hm
    rw [ho] at ho'; cases ho'
    exact ⟨_,es',ep',hL,r'⟩) hok I.bare
theorem Inv.call {g':Array GenState} {t':Nat} {d':Drawn} {ch:List Addr} (I:Inv X pins σ H s) (u:Un (frs X.stack) ch H H' s.heap h') (hok:HOk X.prog X.w H' h') (hg:AllBare g')
    (hch:∀ b ∈ ch,(b ∈ X.ex∨X.s_0.heap.objs.size≤b)∧b≠X.env.locals∧(∀ x c,X.env.cells.lookup x=some c→c≠b)∧∀ p ∈ X.pn++pins,p.1≠b) :
    Inv X pins σ H' { s with heap:=h',gens:=g',drawn:=d',toks:=t' }:=by
  obtain ⟨m,⟨o,es,ep,ho,r⟩,_⟩:=id I.loc
  obtain ⟨sl,hL⟩:=u.any ho I.free fun z=>(hch _ z).2.1 rfl
  exact I.step (ch:=ch) hch (fun b o hL hb hc e n=>u.keep b o e n (fun z=>(List.mem_cons.mp (I.AmL b z)).elim hL hb) hc) (fun b o _ _ hc e n=>u.any e n hc) (fun b o hc e n=>u.free b o e n hc) (fun b o hc e=>u.there b o e hc) u.YA u.ZT u.AgW (fun m' hm=>by
    obtain ⟨o',es',ep',ho',r'⟩:=hm
    rw [ho] at ho'; cases ho'
    exact ⟨_,es',ep',hL,r'⟩) hok hg
theorem Inv.turned {t':Nat} {it:Addr} (I:Inv X pins σ H s) (k:∀ b o,b≠it→s.heap.get? b=some o→h'.get? b=some o) (hn:H it=none) (hL:it≠X.env.locals)
    (h1:it ∈ X.ex∨X.s_0.heap.objs.size≤it) (h2:∀ x c,X.env.cells.lookup x=some c→c≠it) (h3:∀ p ∈ X.pn++pins,p.1≠it):Inv X pins σ H { s with heap:=h',toks:=t' }:=by
  have nit:∀ b u,H b=some u→b≠it:=fun b u e z=>by rw [z,hn] at e; cases e
  refine I.step (g':=s.gens) (d':=s.drawn) (ch:=[it]) (fun b hb=>?_) (fun b o _ _ hc e _=>k b o (fun z=>hc (by simp [z])) e) (fun b o _ _ hc e _=>⟨o.slots,k b o (fun z=>hc (by simp [z])) e⟩) (fun _ _ _ _ n=>n)
    (fun b o hc e=>⟨o,k b o (fun z=>hc (by simp [z])) e⟩) (fun _ _ e=>e) (fun _ _ _ e=>e) (fun b ps e=>⟨#[],by rw [e]; simp⟩) (fun m hm=>?_) (fun b u e=>?_) I.bare
  · have e:b=it:=by simpa using hb
    subst e
    exact ⟨h1,hL,h2,h3⟩
  · obtain ⟨o,es,ep,ho,r⟩:=hm
    exact ⟨o,es,ep,k _ o (Ne.symm hL) ho,r⟩
  · refine (I.hok b u e).AjM (fun c v hc q=>k c v ?_ q) (fun _ q=>q) fun _ _ q=>q
    rcases hc with z | z
    · rw [z]; exact nit b u e
    · exact nit c _ z
theorem Inv.tok (I:Inv X pins σ H s) (t:Nat):Inv X pins σ H { s with toks:=t }:=I.un (h':=s.heap) (t':=t) Un.refl I.hok
theorem Inv.kept {t':Nat} (I:Inv X pins σ H s) (k:∀ b u,s.heap.get? b=some u→h'.get? b=some u):Inv X pins σ H { s with heap:=h',toks:=t' }:=I.un (Un.kept k) (I.hok.kept k)
theorem Inv.laid {a:Addr} {o:HO} {t':Nat} (I:Inv X pins σ H s) (k:∀ b u,s.heap.get? b=some u→h'.get? b=some u) (hp:s.heap.objs.size≤a) (new:DK X.prog X.w (upd H a o) h' a o) :
    Inv X pins σ (upd H a o) { s with heap:=h',toks:=t' }:=I.un (Un.laid k hp (I.hok.fresh hp)) (I.hok.laid k hp new)
theorem Inv.write {x e:Addr} {o:HO} {t':Nat} (I:Inv X pins σ H s) (mu:Mut (H x)) (he:e=x∨H e=some (.own x)) (k:∀ b u,b≠e→s.heap.get? b=some u→h'.get? b=some u) (heo:∃ u,h'.get? e=some u)
    (new:DK X.prog X.w (upd H x o) h' x o):Inv X pins σ (upd H x o) { s with heap:=h',toks:=t' }:=I.un (Un.write mu he k heo) (I.hok.write mu he k heo new)
theorem Inv.weak {σ':List (Option V)} (I:Inv X pins σ H s) (hl:σ'.length=σ.length) (w:∀ (i:Nat) v,σ'[i]? = some (some v)→σ[i]? = some (some v)):Inv X pins σ' H s :=
  ⟨I.ok,I.os,I.bare,I.base,let ⟨m,hn,hl'⟩:=I.loc; ⟨m,hn,fun i x v e1 e2 e3=>hl' i x v e1 (w i v e2) e3⟩,I.cell,I.free,I.Lz,I.pin,I.hok,hl.trans I.len⟩
theorem Inv.Aon {pins':List (Addr × Obj)} (I:Inv X pins σ H s) (h:∀ p ∈ pins',s.heap.get? p.1=some p.2∧H p.1=none∧p.1≠X.env.locals∧p.1 ∉ X.fs∧∀ v,p.2.data≠.cell v):Inv X pins' σ H s :=
  ⟨I.ok,I.os,I.bare,I.base,I.loc,I.cell,I.free,I.Lz,fun p hp=>(List.mem_append.mp hp).elim (fun z=>I.pin p (List.mem_append_left _ z)) (h p),I.hok,I.len⟩
theorem AaF {N:List Str} (hN:N.Nodup) {i j:Nat} {x:Str} (a:N[i]? = some x) (b:N[j]? = some x):i=j:=by
  obtain ⟨h1,e1⟩:=List.getElem?_eq_some_iff.mp a
  obtain ⟨h2,e2⟩:=List.getElem?_eq_some_iff.mp b
  exact (List.getElem_inj hN).mp (e1.trans e2.symm)
theorem Aqz {M:Model} {A:Around} {E:Value→Shared→Prop} {i:Nat} {x:Str} {v:V} {u:Value} {Q:Unit→Shared→Prop} (I:Inv X pins σ H s) (hN:X.N.Nodup) (hi:X.N[i]? = some x) (hx:Loc X.env.scope x) (r:RelV v u)
    (h:∀ s',Inv X pins (σ.set i (some v)) H s'→(∃ a,Heap.SameBut a s.heap s'.heap∧(a=X.env.locals∨X.env.cells.lookup x=some a))→Q () s') (hf:X.fn x=true∨X.env.scope.names.lookup x=some .local:=by first | exact .inl rfl | exact .inr rfl | assumption):wpAny M A (storeName X.env x u) Q E s:=by
  obtain ⟨m,hn,hl⟩:=id I.loc
  have hcls:(X.env.scope.kind == .class || (X.env.scope.kind == .module && X.env.locals != X.env.globals))=false:=by rw [I.ok.kind]; rfl
  have hiσ:i < σ.length:=by rw [I.len]; exact (List.getElem?_eq_some_iff.mp hi).1
  have cne:=I.cne
  have tracked:∀ {a:Addr} {h':Heap},(∃ o,s.heap.get? a=some o∧H a=none)→Heap.SameBut a s.heap h'→HOk X.prog X.w H h':=fun {a h'} ha hs b ob e=>by
    obtain ⟨_,_,hfree⟩:=ha
    refine (I.hok b ob e).AjM (fun c w' hc q=>(hs.2 c ?_).trans q) (fun _ q=>q) fun _ _ q=>q
    rintro rfl
    rcases hc with rfl | hc
    · rw [hfree] at e; cases e
    · rw [hfree] at hc; cases hc
  rcases hx with hk | hk
  · refine wpAny_storeName_local hk hn (fun h' hn' hs=>?_) hcls
    obtain ⟨oL,_,_,hoL,_⟩:=id hn
    refine h _ ⟨I.ok,I.os,I.bare,⟨fun b o e n hb hx=>?_,fun b o e n hb hx=>?_,I.base.free,fun b o e hx=>?_,I.base.YA,I.base.ZT,I.base.AgW⟩,⟨_,hn',fun j y v' e1 e2 e3=>?_⟩,fun y c e=>?_,I.free,I.Lz,fun p hp=>?_,tracked ⟨oL,hoL,I.free⟩ hs,by simpa using I.len⟩ ⟨_,hs,.inl rfl⟩
    · exact (hs.2 b (Nat.ne_of_lt (Nat.lt_of_lt_of_le (Heap.lt_size e) I.ok.above))).trans (I.base.keep b o e n hb hx)
    · obtain ⟨sl,e1⟩:=I.base.slot b o e n hb hx
      exact ⟨sl,(hs.2 b (Nat.ne_of_lt (Nat.lt_of_lt_of_le (Heap.lt_size e) I.ok.above))).trans e1⟩
    · obtain ⟨o',e1⟩:=I.base.there b o e hx
      exact ⟨o',(hs.2 b (Nat.ne_of_lt (Nat.lt_of_lt_of_le (Heap.lt_size e) I.ok.above))).trans e1⟩
    · by_cases hj:j=i
      · subst hj
        rw [hi] at e1; cases e1
        rw [List.getElem?_set_self hiσ] at e2
        cases e2
        exact ⟨u,r,.inl ⟨hk,by simp⟩⟩
      · rw [List.getElem?_set_ne (Ne.symm hj)] at e2
        obtain ⟨u',r',q⟩:=hl j y v' e1 e2 e3
        refine ⟨u',r',?_⟩
        rcases q with ⟨k,e⟩ | ⟨k,c,e,z⟩
        · refine .inl ⟨k,?_⟩
          have:y≠x:=fun e=>hj (AaF hN e1 (e ▸ hi))
          simp [this,e]
        · exact .inr ⟨k,c,e,z.sameBut hs (cne y c e)⟩
    · obtain ⟨w',z⟩:=I.cell y c e
      exact ⟨w',z.sameBut hs (cne y c e)⟩
    · obtain ⟨e,n,ne,nf,d⟩:=I.pin p hp
      exact ⟨(hs.2 p.1 ne).trans e,n,ne,nf,d⟩
  · have hfn:X.fn x=true:=by
      rcases hf with z | z
      · exact z
      · rw [z] at hk; cases hk
    obtain ⟨c,hc⟩:=I.ok.has x (.inl hk)
    obtain ⟨w',z⟩:=I.cell x c hc
    refine wpAny_storeName_cell I.ok.kind hk hc z (fun h' hc' hs=>?_)
    obtain ⟨oc,hoc,hocd⟩:=id z
    refine h { s with heap:=h' } ⟨I.ok,I.os,I.bare,⟨fun b o e n hb hx=>?_,fun b o e n hb hx=>?_,I.base.free,fun b o e hx=>?_,I.base.YA,I.base.ZT,I.base.AgW⟩,⟨m,hn.sameBut hs (Ne.symm (cne x c hc)),fun j y v' e1 e2 e3=>?_⟩,fun y c' e=>?_,I.free,I.Lz,fun p hp=>?_,tracked ⟨oc,hoc,I.Lz x c hc⟩ hs,by simpa using I.len⟩ ⟨c,hs,.inr hc⟩
    · exact (hs.2 b (Nat.ne_of_lt (Nat.lt_of_lt_of_le (Heap.lt_size e) (I.ok.cab x c hfn hc)))).trans (I.base.keep b o e n hb hx)
    · obtain ⟨sl,e1⟩:=I.base.slot b o e n hb hx
      exact ⟨sl,(hs.2 b (Nat.ne_of_lt (Nat.lt_of_lt_of_le (Heap.lt_size e) (I.ok.cab x c hfn hc)))).trans e1⟩
    · obtain ⟨o',e1⟩:=I.base.there b o e hx
      exact ⟨o',(hs.2 b (Nat.ne_of_lt (Nat.lt_of_lt_of_le (Heap.lt_size e) (I.ok.cab x c hfn hc)))).trans e1⟩
    · by_cases hj:j=i
      · subst hj
        rw [hi] at e1; cases e1
        rw [List.getElem?_set_self hiσ] at e2
        cases e2
        exact ⟨u,r,.inr ⟨.inl hk,c,hc,hc'⟩⟩
      · rw [List.getElem?_set_ne (Ne.symm hj)] at e2
        obtain ⟨u',r',q⟩:=hl j y v' e1 e2 e3
        refine ⟨u',r',?_⟩
        rcases q with q | ⟨k,c',e,z'⟩
        · exact .inl q
        · refine .inr ⟨k,c',e,z'.sameBut hs ?_⟩
          rintro rfl
          exact hj (AaF hN e1 (I.ok.inj _ _ _ e hc ▸ hi))
    · by_cases hcc:c'=c
      · subst hcc; exact ⟨_,hc'⟩
      · obtain ⟨w2,z2⟩:=I.cell y c' e
        exact ⟨w2,z2.sameBut hs hcc⟩
    · obtain ⟨e,n,ne,nf,d⟩:=I.pin p hp
      refine ⟨(hs.2 p.1 ?_).trans e,n,ne,nf,d⟩
      intro q
      rw [q,hoc] at e
      have q':oc=p.2:=Option.some.inj e
      exact d w' (by rw [← q']; exact hocd)
theorem AbL {M:Model} {A:Around} {E:Value→Shared→Prop} {i:Nat} {x:Str} {v:V} {u:Value} {Q:Unit→Shared→Prop} (I:Inv X pins σ H s) (hN:X.N.Nodup) (hi:X.N[i]? = some x) (hx:Loc X.env.scope x) (r:RelV v u)
    (h:∀ s',Inv X pins (σ.set i (some v)) H s'→Q () s') (hf:X.fn x=true∨X.env.scope.names.lookup x=some .local:=by first | exact .inl rfl | exact .inr rfl | assumption):wpAny M A (storeName X.env x u) Q E s :=
  Aqz I hN hi hx r (fun s' I' _=>h s' I') hf
theorem Inv.AwL {s':Shared} {ch:List Addr} (I:Inv X pins σ H s) (ho:s'.os=s.os) (u:Un (frs X.stack) ch H H' s.heap s'.heap) (hok:HOk X.prog X.w H' s'.heap) (hg:AllBare s'.gens)
    (hch:∀ b ∈ ch,(b ∈ X.ex∨X.s_0.heap.objs.size≤b)∧b≠X.env.locals∧(∀ x c,X.env.cells.lookup x=some c→c≠b)∧∀ p ∈ X.pn++pins,p.1≠b):Inv X pins σ H' s':=by
  obtain ⟨h',g',d',t',o'⟩:=s'
  have e:o'=s.os:=ho
  subst e
  exact I.call (g':=g') (t':=t') (d':=d') u hok hg hch
end
abbrev XK:=Value→Option Addr→Hp→Prop
abbrev St:=List (Option V)
abbrev VK:=V→Hp→Prop
abbrev TE:=St→Hp→VK→Prop
abbrev TT:=St→Hp→(Bool→Hp→Prop)→Prop
abbrev TA:=St→Hp→(List V→Hp→Prop)→Prop
structure Ends where
  nx:St→Hp→Prop
  rt:VK
  bk:St→Hp→Prop:=fun _ _=>False
  ct:St→Hp→Prop:=fun _ _=>False
abbrev TS:=Ends→St→Hp→Prop
def EP (X:Cx) (pins:List (Addr × Obj)) (σ:St) (Q:VK) (u:Value) (s':Shared):Prop:=∃ v H',Inv X pins σ H' s'∧RelV v u∧Q v H'
def TP (X:Cx) (pins:List (Addr × Obj)) (σ:St) (Q:Bool→Hp→Prop) (b:Bool) (s':Shared):Prop:=∃ H',Inv X pins σ H' s'∧Q b H'
def AP (X:Cx) (pins:List (Addr × Obj)) (σ:St) (Q:List V→Hp→Prop) (us:List Value) (s':Shared):Prop:=∃ vs H',Inv X pins σ H' s'∧Vals vs us∧Q vs H'
def SP (X:Cx) (pins:List (Addr × Obj)) (D:Ends) (f:Flow) (s':Shared):Prop :=
  match f with
  | .next=>∃ σ' H',Inv X pins σ' H' s'∧D.nx σ' H'
  | .brk=>∃ σ' H',Inv X pins σ' H' s'∧D.bk σ' H'
  | .cont=>∃ σ' H',Inv X pins σ' H' s'∧D.ct σ' H'
  | .ret u=>∃ v σ' H',Inv X pins σ' H' s'∧RelV v u∧D.rt v H'
def PE (X:Cx) (e:Expr) (t:TE):Prop :=
  ∀ (pins:List (Addr × Obj)) (s:Shared) (σ:St) (H:Hp) (Q:VK),Inv X pins σ H s→t σ H Q→wpAny (model X.prog X.w) X.A (eval e X.env) (EP X pins σ Q) X.xe s
def PT (X:Cx) (e:Expr) (t:TT):Prop :=
  ∀ (pins:List (Addr × Obj)) (s:Shared) (σ:St) (H:Hp) (Q:Bool→Hp→Prop),Inv X pins σ H s→t σ H Q→wpAny (model X.prog X.w) X.A (isTrue e X.env (eval e X.env)) (TP X pins σ Q) X.xe s
def PW (X:Cx) (e:Expr) (t:TT):Prop :=
  ∀ (whole:Sem Value) (pins:List (Addr × Obj)) (s:Shared) (σ:St) (H:Hp) (Q:Bool→Hp→Prop),Inv X pins σ H s→t σ H Q→wpAny (model X.prog X.w) X.A (isTrue e X.env whole) (TP X pins σ Q) X.xe s
theorem PW.pt {X:Cx} {e:Expr} {t:TT} (h:PW X e t):PT X e t:=h _
def PA (X:Cx) (es:List Expr) (t:TA):Prop :=
  ∀ (pos:Pos) (pins:List (Addr × Obj)) (s:Shared) (σ:St) (H:Hp) (Q:List V→Hp→Prop),Inv X pins σ H s→t σ H Q→wpAny (model X.prog X.w) X.A (spliced (backTo pos (starEach es X.env))) (AP X pins σ Q) X.xe s
def PS (X:Cx) (st:Stmt) (t:TS):Prop :=
  ∀ (pins:List (Addr × Obj)) (s:Shared) (σ:St) (H:Hp) (D:Ends),Inv X pins σ H s→t D σ H→wpAny (model X.prog X.w) X.A (exec st X.env) (SP X pins D) X.xe s
def PSs (X:Cx) (st:List Stmt) (t:TS):Prop :=
  ∀ (pins:List (Addr × Obj)) (s:Shared) (σ:St) (H:Hp) (D:Ends),Inv X pins σ H s→t D σ H→wpAny (model X.prog X.w) X.A (execs st X.env) (SP X pins D) X.xe s
theorem thn {α:Type} {t:Sem α} {Q Q':α→Shared→Prop} {M:Model} {A:Around} {E:Value→Shared→Prop} {s:Shared} (h:wpAny M A t Q E s) (hQ:∀ a s,Q a s→Q' a s):wpAny M A t Q' E s:=wpAny_mono h hQ fun _ _ x=>x
end L2
namespace L2
open PySem PySem.Spec PyProof.Rows
section
variable {X:Cx}
def Qe (i:Nat):TE:=fun σ H Q=>∃ v,σ[i]? = some (some v)∧Q v H
def tC (v:V):TE:=fun _ H Q=>Q v H
theorem AvN {i:Nat} {x:Str} {pos:Pos} (hN:X.N[i]? = some x) (hv:Vis X.env.scope x) (hd:(x == ("__debug__" : Str))=false:=by decide) (hcd:(x == ("__classdict__" : Str))=false:=by decide):PE X (.Name x pos) (Qe i):=by
  intro pins s σ H Q I h
  obtain ⟨v,e,h⟩:=h
  obtain ⟨m,hn,hl⟩:=I.loc
  obtain ⟨u,r,l⟩:=hl i x v hN e hv
  have fin:EP X pins σ Q u s:=⟨v,H,I,r,h⟩
  rcases l with ⟨hk,hm⟩ | ⟨hk,c,hc,hcell⟩
  · exact wpAny_Name (wpAny_loadName_local I.ok.kind hk hn hm fin) hd
  · rcases hk with hk | hk
    · exact wpAny_Name (wpAny_loadName_cell I.ok.kind hk hc hcell fin) hd
    · exact wpAny_Name (wpAny_loadName_free I.ok.kind hk hc hcell fin hcd) hd
theorem Ap {i j pos}:PE X (.Constant (.int i) j pos) (tC (.int i)):=fun _ _ _ H _ I h=>wpAny_Constant_int ⟨.int i,H,I.tok _,⟨_,rfl⟩,h⟩
theorem Rq {b j pos}:PE X (.Constant (.bool b) j pos) (tC (.bl b)):=fun _ _ _ H _ I h=>Constant_bool ⟨.bl b,H,I,rfl,h⟩
theorem Ar8 {j pos}:PE X (.Constant .none j pos) (tC .non):=fun _ _ _ H _ I h=>Constant_none ⟨.non,H,I,rfl,h⟩
def Gl (X:Cx) (x:Str):Prop:=X.env.kindOf x=some .globalImplicit
theorem YF {E:Value→Shared→Prop} {pins:List (Addr × Obj)} {s:Shared} {σ:St} {H:Hp} {x:Str} {u:Value} {pos:Pos} {Q:Value→Shared→Prop} (I:Inv X pins σ H s) (hg:Gl X x) (hm:X.mg x=some u) (h:Q u s)
    (hd:(x == ("__debug__" : Str))=false:=by decide):wpAny (model X.prog X.w) X.A (eval (.Name x pos) X.env) Q E s :=
  Calls.Name_function_global I.ok.kind hg (Calls.loadGlobal_global (by rw [I.ok.glob]; exact I.mod.glob.keeps I.bk) hm h) hd
theorem Art {E:Value→Shared→Prop} {pins:List (Addr × Obj)} {s:Shared} {σ:St} {H:Hp} {x:Str} {u:Value} {pos:Pos} {Q:Value→Shared→Prop} (I:Inv X pins σ H s) (hg:Gl X x) (hm:X.mg x=none) (hv:bootBuiltins x=some u) (h:Q u s)
    (hn:x≠"__name__":=by decide) (hd:(x == ("__debug__" : Str))=false:=by decide):wpAny (model X.prog X.w) X.A (eval (.Name x pos) X.env) Q E s:=by
  obtain ⟨mb,h1,h2⟩:=I.mod.blt
  exact Calls.Name_function_global I.ok.kind hg (Calls.loadGlobal_builtin (by rw [I.ok.glob]; exact I.mod.glob.keeps I.bk) hm (by rw [I.ok.blt]; exact h1.keeps I.bk) ((h2 x hn).trans hv) h) hd
theorem YG {x:Str} {v:V} {u:Value} {pos:Pos} (hg:Gl X x) (hm:X.mg x=some u) (r:RelV v u) (hd:(x == ("__debug__" : Str))=false:=by decide):PE X (.Name x pos) (tC v) :=
  fun _ _ _ H _ I h=>YF I hg hm ⟨v,H,I,r,h⟩ hd
def t2I (ta tb:TE) (k:Int→Int→Hp→Prop):St→Hp→Prop:=fun σ H=>ta σ H fun x H1=>tb σ H1 fun y H2=>∃ i j,x=.int i∧y=.int j∧k i j H2
variable {a b:Expr} {ta tb:TE} {pos:Pos}
def PC (X:Cx) (op:CmpOp) (a b:Expr) (t:TE):Prop :=
  ∀ (pins:List (Addr × Obj)) (s:Shared) (σ:St) (H:Hp) (Q:VK),Inv X pins σ H s→t σ H Q →
    wpAny (model X.prog X.w) X.A (eval a X.env) (fun v s₁=>wpAny (model X.prog X.w) X.A (eval b X.env) (fun u s₂=>wpAny (model X.prog X.w) X.A (compareOp op v u) (EP X pins σ Q) X.xe s₂) X.xe s₁) X.xe s
theorem AiT (b:Expr) {op:CmpOp} (h:op≠.In) (h2:op≠.NotIn):behindInMarks op b=false:=by
  have e1:(op == CmpOp.In)=false:=by cases op <;> first | rfl | exact absurd rfl h
  have e2:(op == CmpOp.NotIn)=false:=by cases op <;> first | rfl | exact absurd rfl h2
  cases b <;> simp [behindInMarks,e1,e2]
def Axg (p:Int→Int→Bool) (ta tb:TE):TE:=fun σ H Q=>t2I ta tb (fun i j H2=>Q (.bl (p i j)) H2) σ H
def Awq (ta:TE):TE:=fun σ H Q=>ta σ H fun x H1=>Q (.bl (decide (x=.non))) H1
def Asz (ta:TE):TE:=fun σ H Q=>ta σ H fun x H1=>Q (.bl (!decide (x=.non))) H1
theorem RelV.AiV {x:V} {v:Value} (r:RelV x v):(v == Value.none)=decide (x=.non):=by
  cases x with
  | non=>cases r; rfl
  | bl _=>cases r; rfl
  | int _=>obtain ⟨t,rfl⟩:=r; rfl
  | str _=>obtain ⟨t,rfl⟩:=r; rfl
  | byt _=>obtain ⟨t,rfl⟩:=r; rfl
  | flt _=>obtain ⟨t,rfl⟩:=r; rfl
  | ref _=>cases r; rfl
  | ty _=>cases r; rfl
theorem AvK {j pos'} (ha:PE X a ta):PC X .Is a (.Constant .none j pos') (Awq ta):=by
  intro pins s σ H Q I h
  refine thn (ha pins s σ H _ I h) fun v s1 ⟨x,H1,I1,r1,q1⟩=>?_
  exact Constant_none (is_none_gen ⟨.bl _,H1,I1,by rw [r1.AiV]; rfl,q1⟩)
theorem AtP {j pos'} (ha:PE X a ta):PC X .IsNot a (.Constant .none j pos') (Asz ta):=by
  intro pins s σ H Q I h
  refine thn (ha pins s σ H _ I h) fun v s1 ⟨x,H1,I1,r1,q1⟩=>?_
  exact Constant_none (isnot_none_gen ⟨.bl _,H1,I1,by rw [r1.AiV]; rfl,q1⟩)
def tB (t:TE):TT:=fun σ H Q=>t σ H fun x H1=>∃ c,x=.bl c∧Q c H1
theorem AvM {op:CmpOp} {t:TE} (h:PC X op a b t) (h1:behindInMarks op b=false:=by first | exact AiT _ (by decide) (by decide) | rfl):PE X (.Compare a [op] [b] pos) t:=fun pins s σ H Q I hw=>wpAny_Compare1 (h pins s σ H Q I hw) h1
theorem Amz {op:CmpOp} {t:TE} (h:PC X op a b t) (h1:behindInMarks op b=false:=by first | exact AiT _ (by decide) (by decide) | rfl):PT X (.Compare a [op] [b] pos) (tB t):=by
  intro pins s σ H Q I hw
  refine wpAny_isTrue_Compare1 (thn (h pins s σ H _ I hw) fun v s1 h1=>thn h1 fun u s2 h2=>thn h2 fun c s3 ⟨x,H1,I1,r1,q1⟩=>?_) h1
  obtain ⟨d,rfl,q⟩:=q1
  cases r1
  exact wpAny_truthy_bool ⟨H1,I1,q⟩
theorem Lg {e:Expr} {t:TE} (h:PE X e t) (he:∀ whole,isTrue e X.env whole=(do let v ← whole; standAt e.pos; holding [v] (truthy v)):=by intro _; rfl):PT X e (tB t):=by
  intro pins s σ H Q I hw
  refine isTrue_plain (thn (h pins s σ H _ I hw) fun v s1 ⟨x,H1,I1,r1,q1⟩=>?_) (he _)
  obtain ⟨d,rfl,q⟩:=q1
  cases r1
  exact wpAny_truthy_bool ⟨H1,I1,q⟩
variable {tA tB':TT} {rest:List Expr}
def Aus (t u:TT):TT:=fun σ H Q=>t σ H fun c H1=>if c=true then u σ H1 Q else Q false H1
def tOr (t u:TT):TT:=fun σ H Q=>t σ H fun c H1=>if c=true then Q true H1 else u σ H1 Q
def Awt (t:TT):TT:=fun σ H Q=>t σ H fun c H1=>Q (!c) H1
theorem Jd (ha:PT X a tA):PW X (.BoolOp .And [a] pos) tA:=by
  intro wh pins s σ H Q I h
  refine isTrue_and (thn (ha pins s σ H Q I h) fun c s1 e=>?_)
  cases c with
  | true=>exact isTrue_and_nil e
  | false=>exact e
theorem Agt (ha:PT X a tA):PW X (.BoolOp .Or [a] pos) tA:=by
  intro wh pins s σ H Q I h
  refine isTrue_or (thn (ha pins s σ H Q I h) fun c s1 e=>?_)
  cases c with
  | false=>exact isTrue_or_nil e
  | true=>exact e
theorem M6 (ha:PT X a tA) (hb:PW X (.BoolOp .And (b::rest) pos) tB'):PW X (.BoolOp .And (a::b::rest) pos) (Aus tA tB'):=by
  intro wh pins s σ H Q I h
  refine isTrue_and (thn (ha pins s σ H _ I h) fun c s1 ⟨H1,I1,q1⟩=>?_)
  cases c with
  | true=>exact hb wh pins s1 σ H1 Q I1 q1
  | false=>exact ⟨H1,I1,q1⟩
theorem Aor (ha:PT X a tA) (hb:PW X (.BoolOp .Or (b::rest) pos) tB'):PW X (.BoolOp .Or (a::b::rest) pos) (tOr tA tB'):=by
  intro wh pins s σ H Q I h
  refine isTrue_or (thn (ha pins s σ H _ I h) fun c s1 ⟨H1,I1,q1⟩=>?_)
  cases c with
  | true=>exact ⟨H1,I1,q1⟩
  | false=>exact hb wh pins s1 σ H1 Q I1 q1
theorem Wt (ha:PT X a tA):PT X (.UnaryOp .Not a pos) (Awt tA):=by
  intro pins s σ H Q I h
  exact isTrue_not (ha pins s σ H (fun c H1=>Q (!c) H1) I h)
def Asq (ta tb:TE):TE:=fun σ H Q=>ta σ H fun x H1=>∃ c,x=.bl c∧if c=true then tb σ H1 Q else Q (.bl false) H1
def Axh (ta tb:TE):TE:=fun σ H Q=>ta σ H fun x H1=>∃ c,x=.bl c∧if c=true then Q (.bl true) H1 else tb σ H1 Q
def AuJ (ta:TE):TE:=fun σ H Q=>ta σ H fun x H1=>∃ c,x=.bl c∧Q (.bl (!c)) H1
theorem Amo {op} {t:TE} (h:PE X a t):PE X (.BoolOp op [a] pos) t:=fun pins s σ H Q I hw=>BoolOp_one (h pins s σ H Q I hw)
theorem Amn (ha:PE X a ta) (hb:PE X (.BoolOp .And (b::rest) pos) tb):PE X (.BoolOp .And (a::b::rest) pos) (Asq ta tb):=by
  intro pins s σ H Q I h
  refine BoolOp_and (thn (ha pins s σ H _ I h) fun v s1 ⟨x,H1,I1,r1,q1⟩=>?_)
  obtain ⟨c,rfl,q1⟩:=q1
  cases r1
  refine wpAny_truthy_bool ?_
  cases c with
  | true=>exact hb pins s1 σ H1 Q I1 q1
  | false=>exact ⟨.bl false,H1,I1,rfl,q1⟩
def tIf (t:TT) (ta tb:TE):TE:=fun σ H Q=>t σ H fun c H1=>if c=true then ta σ H1 Q else tb σ H1 Q
theorem Ajr {c:Expr} (hc:PT X c tA) (ha:PE X a ta) (hb:PE X b tb):PE X (.IfExp c a b pos) (tIf tA ta tb):=by
  intro pins s σ H Q I h
  refine wpAny_IfExp (thn (hc pins s σ H _ I h) fun d s1 ⟨H1,I1,q1⟩=>?_)
  cases d with
  | true=>exact ha pins s1 σ H1 Q I1 q1
  | false=>exact hb pins s1 σ H1 Q I1 q1
end
end L2
namespace L2
open PySem PySem.Spec PyProof.Rows
def SqL (K:PySem.W.Frag) (H:Hp) (a:Addr) (xs:List V):Prop :=
  Rd H a (.lst xs) ∨
    ∃ (o:Obj) (its:Array Value) (n:Nat),K.lookup a=some o∧o.cls=.type "list"∧o.dict=none∧o.data=.seq its n∧its.size≤sizeLine∧Vals xs its.toList
def SqT (K:PySem.W.Frag) (H:Hp) (a:Addr) (xs:List V):Prop :=
  Rd H a (.tup xs) ∨
    ∃ (o:Obj) (its:Array Value) (n:Nat),K.lookup a=some o∧o.cls=.type "tuple"∧o.data=.seq its n∧its.size≤sizeLine∧Vals xs its.toList
def Axs:Value→Option V
  | .none=>some .non
  | .bool b=>some (.bl b)
  | .int i _=>some (.int i)
  | .str x _=>some (.str x)
  | .bytes b _=>some (.byt b)
  | .float b _=>some (.flt b)
  | .ref a=>some (.ref a)
  | .type n=>some (.ty n)
  | _=>none
theorem RelV.abs {x:V} {u:Value} (r:RelV x u):Axs u=some x:=by
  cases x with
  | non=>cases r; rfl
  | bl _=>cases r; rfl
  | int _=>obtain ⟨t,rfl⟩:=r; rfl
  | str _=>obtain ⟨t,rfl⟩:=r; rfl
  | byt _=>obtain ⟨t,rfl⟩:=r; rfl
  | flt _=>obtain ⟨t,rfl⟩:=r; rfl
  | ref _=>cases r; rfl
  | ty _=>cases r; rfl
theorem RelV.inj {x y:V} {u:Value} (r:RelV x u) (q:RelV y u):x=y:=Option.some.inj (r.abs.symm.trans q.abs)
theorem Vals.inj:∀ {xs ys:List V} {us:List Value},Vals xs us→Vals ys us→xs=ys
  | _,_,_,.nil,.nil=>rfl
  | _,_,_,.cons r t,.cons r' t'=>by rw [r.inj r',Vals.inj t t']
section
variable {X:Cx} {pins:List (Addr × Obj)} {σ:St} {H:Hp} {s:Shared} {a:Addr} {xs ys:List V}
theorem SqL.of {K:PySem.W.Frag} (h:H a=some (.lst xs)):SqL K H a xs:=.inl (.inl h)
theorem SqT.of {K:PySem.W.Frag} (h:H a=some (.tup xs)):SqT K H a xs:=.inl (.inl h)
theorem Inv.list (I:Inv X pins σ H s) (h:SqL X.K H a xs):∃ its:List Value,Vals xs its∧PlainL s.heap a its.toArray∧xs.length≤sizeLine:=by
  rcases h with h | ⟨o,its,n,hk,hc,hd,hs,hz,r⟩
  · obtain ⟨z,its,n,r,e⟩:=h.ok I.hok
    exact ⟨its,r,⟨_,n,e,rfl,rfl,rfl⟩,z⟩
  · refine ⟨its.toList,r,⟨o,n,I.kIn a o hk,hc,hd,by simpa using hs⟩,?_⟩
    have e:=r.length
    simp only [Array.length_toList] at e
    omega
theorem Inv.tuple (I:Inv X pins σ H s) (h:SqT X.K H a xs):∃ its:List Value,Vals xs its∧IsTup s.heap a its.toArray∧xs.length≤sizeLine:=by
  rcases h with h | ⟨o,its,n,hk,hc,hs,hz,r⟩
  · obtain ⟨z,its,r,p⟩:=h.ok I.hok
    exact ⟨its,r,p,z⟩
  · refine ⟨its.toList,r,⟨o,I.kIn a o hk,hc,n,by simpa using hs⟩,?_⟩
    have e:=r.length
    simp only [Array.length_toList] at e
    omega
theorem Inv.Arv (I:Inv X pins σ H s) (h:SqL X.K H a xs) (h':SqL X.K H a ys):xs=ys:=by
  obtain ⟨its,r,⟨o,n,e,_,_,d⟩,_⟩:=I.list h
  obtain ⟨its',r',⟨o',n',e',_,_,d'⟩,_⟩:=I.list h'
  rw [e] at e'; cases e'
  rw [d] at d'
  injection d' with d1 _
  have:its=its':=by simpa using congrArg Array.toList d1
  subst this
  exact r.inj r'
theorem Inv.Aq7 (I:Inv X pins σ H s) (h:SqT X.K H a xs) (h':SqT X.K H a ys):xs=ys:=by
  obtain ⟨its,r,⟨o,e,_,n,d⟩,_⟩:=I.tuple h
  obtain ⟨its',r',⟨o',e',_,n',d'⟩,_⟩:=I.tuple h'
  rw [e] at e'; cases e'
  rw [d] at d'
  injection d' with d1 _
  have:its=its':=by simpa using congrArg Array.toList d1
  subst this
  exact r.inj r'
end
abbrev Cx.Adq (X:Cx) (E:Value→Shared→Prop):Cx:={ X with xe:=E }
abbrev Cx.nox (X:Cx):Cx:=X.Adq fun _ _=>False
theorem Cx.Ok.Adq {X:Cx} (ok:X.Ok) (E:Value→Shared→Prop):(X.Adq E).Ok :=
  ⟨ok.mod,ok.kind,ok.glob,ok.blt,ok.above,ok.inj,ok.has,ok.cab,ok.hd,ok.frames,ok.stk,ok.exf,ok.bs,ok.bsz,ok.Ar0,ok.AqY,ok.XD,ok.frf⟩
theorem Cx.Ok.Qg {X:Cx} {E:Value→Shared→Prop} (ok:(X.Adq E).Ok):X.Ok :=
  ⟨ok.mod,ok.kind,ok.glob,ok.blt,ok.above,ok.inj,ok.has,ok.cab,ok.hd,ok.frames,ok.stk,ok.exf,ok.bs,ok.bsz,ok.Ar0,ok.AqY,ok.XD,ok.frf⟩
section
variable {X:Cx} {pins:List (Addr × Obj)} {σ:St} {H:Hp} {s:Shared} {E:Value→Shared→Prop}
theorem Inv.Adq (I:Inv X pins σ H s) (E:Value→Shared→Prop):Inv (X.Adq E) pins σ H s:=⟨I.ok.Adq E,I.os,I.bare,I.base,I.loc,I.cell,I.free,I.Lz,I.pin,I.hok,I.len⟩
theorem Inv.Qg (I:Inv (X.Adq E) pins σ H s):Inv X pins σ H s:=⟨I.ok.Qg,I.os,I.bare,I.base,I.loc,I.cell,I.free,I.Lz,I.pin,I.hok,I.len⟩
theorem SP.Qg {D:Ends} {f:Flow} {s':Shared} (h:SP (X.Adq E) pins D f s'):SP X pins D f s':=by
  cases f with
  | next=>obtain ⟨σ',H',I,q⟩:=h; exact ⟨σ',H',I.Qg,q⟩
  | brk=>obtain ⟨σ',H',I,q⟩:=h; exact ⟨σ',H',I.Qg,q⟩
  | cont=>obtain ⟨σ',H',I,q⟩:=h; exact ⟨σ',H',I.Qg,q⟩
  | ret u=>obtain ⟨v,σ',H',I,r,q⟩:=h; exact ⟨v,σ',H',I.Qg,r,q⟩
theorem PSs.nox {st:List Stmt} {t:TS} (h:PSs X.nox st t):PSs X st t:=fun pins s σ H D I hw =>
  wpAny_mono (h pins s σ H D (I.Adq _) hw) (fun _ _ q=>q.Qg) fun _ _ z=>False.elim z
end
section
variable {X:Cx} {st:Stmt} {rest:List Stmt} {t u:TS} {e:Expr} {te:TE} {pos:Pos}
def Asy:TS:=fun D σ H=>D.nx σ H
def Awv (t u:TS):TS:=fun D σ H=>t { D with nx:=u D } σ H
theorem A7:PSs X [] Asy:=fun _ _ σ H _ I h=>wpAny_execs_nil ⟨σ,H,I,h⟩
theorem Ac (h1:PS X st t) (h2:PSs X rest u):PSs X (st::rest) (Awv t u):=by
  intro pins s σ H D I h
  refine wpAny_execs_cons (thn (h1 pins s σ H { D with nx:=u D } I h) fun f s1 q=>?_)
  cases f with
  | next =>
    obtain ⟨σ',H',I',q⟩:=q
    exact h2 pins s1 σ' H' D I' q
  | ret v=>exact q
  | brk=>exact q
  | cont=>exact q
theorem Ae (h1:PS X st t):PSs X [st] t:=by
  intro pins s σ H D I h
  refine wpAny_execs_cons (thn (h1 pins s σ H D I h) fun f s1 q=>?_)
  cases f with
  | next=>exact wpAny_execs_nil q
  | ret v=>exact q
  | brk=>exact q
  | cont=>exact q
theorem Inv.quiet {pins:List (Addr × Obj)} {σ:St} {H:Hp} {s:Shared} (I:Inv X pins σ H s):interactive X.env=false:=by simp [interactive,I.ok.kind]
def Ast (te:TE):TS:=fun D σ H=>te σ H fun _ H1=>D.nx σ H1
theorem AE (he:PE X e te) (hs:swapsWith e none pos.line X.env=pure false:=by rfl):PS X (.Expr e pos) (Ast te):=by
  intro pins s σ H D I h
  exact wpAny_Expr_any (thn (he pins s σ H _ I h) fun v s1 ⟨x,H1,I1,r1,q1⟩=>⟨σ,H1,I1,q1⟩) I.quiet hs
def Awu (te:TE):TS:=fun D σ H=>te σ H D.rt
theorem Av (he:PE X e te):PS X (.Return (some e) pos) (Awu te):=by
  intro pins s σ H D I h
  exact wpAny_Return_some (thn (he pins s σ H _ I h) fun v s1 ⟨x,H1,I1,r1,q1⟩=>⟨x,σ,H1,I1,r1,q1⟩)
def As1:TS:=fun D _ H=>D.rt .non H
theorem Qu:PS X (.Return none pos) As1:=fun _ _ σ H _ I h=>wpAny_Return_none ⟨.non,σ,H,I,rfl,h⟩
def Awp (c:TT) (t u:TS):TS:=fun D σ H=>c σ H fun b H1=>if b=true then t D σ H1 else u D σ H1
theorem AD {c:Expr} {a b:List Stmt} {tc:TT} (hc:PT X c tc) (ha:PSs X a t) (hb:PSs X b u):PS X (.If c a b pos) (Awp tc t u):=by
  intro pins s σ H D I h
  refine wpAny_If (thn (hc pins s σ H _ I h) fun d s1 ⟨H1,I1,q1⟩=>?_)
  cases d with
  | true=>exact ha pins s1 σ H1 D I1 q1
  | false=>exact hb pins s1 σ H1 D I1 q1
def Aws:TS:=fun _ _ _=>False
theorem Fo:PS X st Aws:=fun _ _ _ _ _ _ h=>h.elim
end
abbrev TG:=V→St→Hp→(St→Hp→Prop)→Prop
def PG (X:Cx) (target:Expr) (t:TG):Prop :=
  ∀ (pins:List (Addr × Obj)) (s:Shared) (σ:St) (H:Hp) (v:V) (u:Value) (Q:St→Hp→Prop),Inv X pins σ H s→RelV v u→t v σ H Q →
    wpAny (model X.prog X.w) X.A (assign target X.env u) (fun _ s'=>∃ σ' H',Inv X pins σ' H' s'∧Q σ' H') X.xe s
abbrev TIp:=V→V→Hp→VK→Prop
def PIp (X:Cx) (op:Operator) (t:TIp):Prop :=
  ∀ (pins:List (Addr × Obj)) (s:Shared) (σ:St) (H:Hp) (x y:V) (v u:Value) (Q:VK),Inv X pins σ H s→RelV x v→RelV y u→t x y H Q →
    wpAny (model X.prog X.w) X.A (inplaceOp op v u) (EP X pins σ Q) X.xe s
section
variable {X:Cx} {pos:Pos}
def AnY (i:Nat):TG:=fun v σ H Q=>Q (σ.set i (some v)) H
theorem ET {i:Nat} {x:Str} (hN:X.N.Nodup) (hi:X.N[i]? = some x) (hx:Loc X.env.scope x) (hf:X.fn x=true∨X.env.scope.names.lookup x=some .local:=by first | exact .inl rfl | exact .inr rfl | assumption):PG X (.Name x pos) (AnY i):=by
  intro pins s σ H v u Q I r h
  exact wpAny_assign_Name (AbL I hN hi hx r (fun s' I'=>⟨_,H,I',h⟩) hf)
def Awk (te:TE) (g:TG):TS:=fun D σ H=>te σ H fun x H1=>g x σ H1 D.nx
theorem Be {i:Nat} {x:Str} {e:Expr} {te:TE} {pos':Pos} (hN:X.N.Nodup) (hi:X.N[i]? = some x) (hx:Loc X.env.scope x) (he:PE X e te) (hs:swapsWith e (some (.Name x pos')) pos.line X.env=pure false:=by rfl) (hf:X.fn x=true∨X.env.scope.names.lookup x=some .local:=by first | exact .inl rfl | exact .inr rfl | assumption) :
    PS X (.Assign [.Name x pos'] e pos) (Awk te (AnY i)):=by
  intro pins s σ H D I h
  refine wpAny_Assign_Name (thn (he pins s σ H _ I h) fun v s1 ⟨y,H1,I1,r1,q1⟩=>?_) hs
  exact AbL I1 hN hi hx r1 (fun s2 I2=>⟨_,H1,I2,q1⟩) hf
def Awl (i:Nat) (te:TE) (ti:TIp):TS:=fun D σ H=>∃ x,σ[i]? = some (some x)∧te σ H fun y H1=>ti x y H1 fun z H2=>D.nx (σ.set i (some z)) H2
theorem Tj {i:Nat} {x:Str} {e:Expr} {te:TE} {op:Operator} {ti:TIp} {pos':Pos} (hN:X.N.Nodup) (hi:X.N[i]? = some x) (hx:Loc X.env.scope x) (he:PE X e te) (ho:PIp X op ti) (hf:X.fn x=true∨X.env.scope.names.lookup x=some .local:=by first | exact .inl rfl | exact .inr rfl | assumption) :
    PS X (.AugAssign (.Name x pos') op e pos) (Awl i te ti):=by
  intro pins s σ H D I h
  obtain ⟨v,e1,h⟩:=h
  obtain ⟨m,hn,hl⟩:=I.loc
  have vis:Vis X.env.scope x:=by rcases hx with k | k; exact .inl k; exact .inr (.inl k)
  obtain ⟨u,r,l⟩:=hl i x v hi e1 vis
  refine wpAny_AugAssign_Name ?_
  have go:wpAny (model X.prog X.w) X.A (eval e X.env) (fun w s₂=>wpAny (model X.prog X.w) X.A (inplaceOp op u w) (fun r s₃=>wpAny (model X.prog X.w) X.A (storeName X.env x r) (fun _=>SP X pins D .next) X.xe s₃) X.xe s₂) X.xe s:=by
    refine thn (he pins s σ H _ I h) fun w s1 ⟨y,H1,I1,r1,q1⟩=>?_
    refine thn (ho pins s1 σ H1 v y u w _ I1 r r1 q1) fun z s2 ⟨zv,H2,I2,r2,q2⟩=>?_
    exact AbL I2 hN hi hx r2 (fun s3 I3=>⟨_,H2,I3,q2⟩) hf
  rcases l with ⟨hk,hm⟩ | ⟨hk,c,hc,hcell⟩
  · exact wpAny_loadName_local I.ok.kind hk hn hm go
  · rcases hk with hk | hk
    · exact wpAny_loadName_cell I.ok.kind hk hc hcell go
    · rcases hx with k | k
      · have:X.env.scope.names.lookup x=some .free:=hk
        rw [k] at this; cases this
      · have:X.env.scope.names.lookup x=some .free:=hk
        rw [k] at this; cases this
def ipI (f:Int→Int→Int):TIp:=fun x y H Q=>∃ i j,x=.int i∧y=.int j∧Q (.int (f i j)) H
theorem Aaj:PIp X .Add (ipI fun i j=>i + j):=by
  intro pins s σ H x y v u Q I r1 r2 h
  obtain ⟨i,j,e1,e2,q⟩:=h
  subst e1; subst e2
  obtain ⟨t,rfl⟩:=r1
  obtain ⟨t',rfl⟩:=r2
  exact iadd_int ⟨.int _,H,I.tok _,⟨_,rfl⟩,q⟩
theorem Av0:PIp X .Sub (ipI fun i j=>i - j):=by
  intro pins s σ H x y v u Q I r1 r2 h
  obtain ⟨i,j,e1,e2,q⟩:=h
  subst e1; subst e2
  obtain ⟨t,rfl⟩:=r1
  obtain ⟨t',rfl⟩:=r2
  exact isub_int ⟨.int _,H,I.tok _,⟨_,rfl⟩,q⟩
end
section
variable {X:Cx} {pos:Pos}
def AmU (c:TT) (tb:TS):TS:=fun D σ H=>∃ W:Nat→St→Hp→Prop,(∃ m,W m σ H)∧∀ m σ H,W m σ H →
  c σ H fun b H1=>if b=true then ∃ N:St→Hp→Prop,(∀ σ' H',N σ' H'→∃ m',m' < m∧W m' σ' H')∧tb { D with nx:=N,ct:=N,bk:=D.nx } σ H1 else D.nx σ H1
theorem Vj {c:Expr} {body:List Stmt} {tc:TT} {tb:TS} (hp:PassesOwn (model X.prog X.w) X.A X.env X.xe) (hc:PT X c tc) (hb:PSs X body tb):PS X (.While c body [] pos) (AmU tc tb):=by
  intro pins s σ H D I h
  obtain ⟨W,⟨m0,w0⟩,turn⟩:=h
  refine wpAny_While (codeAny_whileLoop (fun n s'=>∃ σ' H',Inv X pins σ' H' s'∧W n σ' H') ?_ m0 ⟨σ,H,I,w0⟩)
  rintro n s1 ⟨σ1,H1,I1,w1⟩
  refine wpAny_passesOwn hp (thn (hc pins s1 σ1 H1 _ I1 (turn n σ1 H1 w1)) fun b s2 ⟨H2,I2,q2⟩=>?_)
  cases b with
  | true =>
    obtain ⟨N,hN,q2⟩:=q2
    rw [if_pos rfl]
    refine wpAny_passesOwn hp (thn (hb pins s2 σ1 H2 _ I2 q2) fun f s3 q3=>?_)
    cases f with
    | next =>
      obtain ⟨σ3,H3,I3,n3⟩:=q3
      obtain ⟨m',hm,w3⟩:=hN σ3 H3 n3
      exact ⟨m',hm,σ3,H3,I3,w3⟩
    | cont =>
      obtain ⟨σ3,H3,I3,n3⟩:=q3
      obtain ⟨m',hm,w3⟩:=hN σ3 H3 n3
      exact ⟨m',hm,σ3,H3,I3,w3⟩
    | brk=>exact q3
    | ret v=>exact q3
  | false =>
    rw [if_neg Bool.false_ne_true]
    exact wpAny_execs_nil ⟨σ1,H2,I2,q2⟩
end
structure It where
  go:Nat→Hp→Prop
  yld:Nat→Hp→V→Hp→Prop
  stop:Nat→Hp→Prop
def AbW (X:Cx) (pins:List (Addr × Obj)) (H:Hp) (b:Addr):Prop :=
  H b=none∧b≠X.env.locals∧b ∉ X.fs∧(b ∈ X.ex∨X.s_0.heap.objs.size≤b)∧(∀ x c,X.env.cells.lookup x=some c→c≠b)∧∀ p ∈ X.pn++pins,p.1≠b
theorem Inv.AsY {X:Cx} {pins:List (Addr × Obj)} {σ:St} {H H':Hp} {s:Shared} {b:Addr} (I:Inv X pins σ H s) (hb:s.heap.objs.size≤b) (hn:H' b=none):AbW X pins H' b:=by
  refine ⟨hn,Nat.ne_of_gt (Nat.lt_of_lt_of_le I.lt hb),I.Axz hb,.inr (Nat.le_trans I.sz hb),fun x c e z=>?_,fun p hp z=>?_⟩
  · obtain ⟨v,q⟩:=I.cell x c e
    exact absurd (Nat.lt_of_lt_of_le q.lt (by rw [z]; exact hb)) (Nat.lt_irrefl _)
  · exact absurd (Nat.lt_of_lt_of_le (Heap.lt_size (I.pin p hp).1) (by rw [z]; exact hb)) (Nat.lt_irrefl _)
structure Turn (P:Program) (w:World) (K:PySem.W.Frag) (tg:Expr) (J:It) (fp:List Addr) (it:Addr) (tn:Nat→Heap→Prop):Prop where
  mem:it ∈ fp
  obj:∀ i h,tn i h→∀ b ∈ fp,∃ o,h.get? b=some o∧∀ v,o.data≠.cell v
  keep:∀ i h h',tn i h→(∀ b ∈ fp,∀ o,h.get? b=some o→h'.get? b=some o)→tn i h'
  item:∀ (X:Cx),X.prog=P→X.w=w→X.K=K→X.calm=true→∀ (i:Nat) (pins:List (Addr × Obj)) (s:Shared) (σ:St) (H:Hp) (E:Value→Shared→Prop),Inv X pins σ H s→(∀ b ∈ fp,AbW X pins H b)→tn i s.heap→J.go i H →
    wpAny (model P w) X.A (pyNext (.ref it)) (fun r s1=>∃ u,r=some u ∧
      wpAny (model P w) X.A (letOwnedTupleGo tg (.ref it) u) (fun _ s2=>∃ x H',Inv X pins σ H' s2∧RelV x u∧J.yld i H x H'∧tn (i + 1) s2.heap∧∀ b ∈ fp,H' b=none) E s1) E s
  done:∀ (X:Cx),X.prog=P→X.w=w→X.K=K→X.calm=true→∀ (i:Nat) (pins:List (Addr × Obj)) (s:Shared) (σ:St) (H:Hp) (E:Value→Shared→Prop),Inv X pins σ H s→(∀ b ∈ fp,AbW X pins H b)→tn i s.heap→J.stop i H →
    wpAny (model P w) X.A (pyNext (.ref it)) (fun r s1=>r=none∧Inv X pins σ H s1) E s
  self:∀ (A:Around) (i:Nat) (s:Shared) (Q:Value→Shared→Prop) (E:Value→Shared→Prop),tn i s.heap→Q (.ref it) s→wpAny (model P w) A (pyIter (.ref it)) Q E s
abbrev TI:=St→Hp→(It→Hp→Prop)→Prop
def PIE (X:Cx) (pins:List (Addr × Obj)) (σ:St) (tg:Expr) (R:It→Hp→Prop) (itv:Value) (s2:Shared):Prop :=
  ∃ (it:Addr) (fp:List Addr) (tn:Nat→Heap→Prop) (J:It) (H':Hp),itv=.ref it∧Inv X pins σ H' s2∧Turn X.prog X.w X.K tg J fp it tn∧tn 0 s2.heap∧(∀ b ∈ fp,AbW X pins H' b)∧R J H'
def PI (X:Cx) (tg iter:Expr) (wi:TI):Prop :=
  ∀ (pins:List (Addr × Obj)) (s:Shared) (σ:St) (H:Hp) (R:It→Hp→Prop),Inv X pins σ H s→wi σ H R →
    wpAny (model X.prog X.w) X.A (eval iter X.env) (fun v s1=>wpAny (model X.prog X.w) X.A (pyIter v) (PIE X pins σ tg R) X.xe s1) X.xe s
theorem Aig {M:Model} {A:Around} {E:Value→Shared→Prop} {s:Shared} {tg:Expr} {it:Addr} {u:Value} {o:Obj} {n:String} {vs:Array Value} {Q:Unit→Shared→Prop} (ho:s.heap.get? it=some o) (hc:o.cls=.type n) (hd:o.data=.fields vs)
    (hn:["enumerate","zip","dict_itemiterator","dict_reverseitemiterator","odict_iterator","itertools.zip_longest","itertools.pairwise"].contains n=false) (hQ:Q () s):wpAny M A (letOwnedTupleGo tg (.ref it) u) Q E s:=by
  unfold letOwnedTupleGo
  cases tg <;> first
    | exact wpAny_pure hQ
    | (cases u <;> first
        | exact wpAny_pure hQ
        | (refine wpAny_bind (wpAny_load ho ?_)
           rw [hc,hd]
           show wpAny M A (if (["enumerate","zip","dict_itemiterator","dict_reverseitemiterator","odict_iterator","itertools.zip_longest","itertools.pairwise"].contains n && vs[0]? == some (rawInt _))=true then _ else _) Q E s
           rw [if_neg (by intro h; rw [hn,Bool.false_and] at h; cases h)]
           exact wpAny_pure hQ))
def Itl (K:PySem.W.Frag) (a:Addr):It :=
  ⟨fun i H=>∃ xs x,SqL K H a xs∧xs[i]? = some x,fun i H x H'=>H'=H∧∀ xs,SqL K H a xs→xs[i]? = some x,fun i H=>∃ xs,SqL K H a xs∧xs.length≤i⟩
def Itt (K:PySem.W.Frag) (a:Addr):It :=
  ⟨fun i H=>∃ xs x,SqT K H a xs∧xs[i]? = some x,fun i H x H'=>H'=H∧∀ xs,SqT K H a xs→xs[i]? = some x,fun i H=>∃ xs,SqT K H a xs∧xs.length≤i⟩
theorem Aq9 {P:Program} {w:World} {K:PySem.W.Frag} {tg:Expr} (a it:Addr):Turn P w K tg (Itl K a) [it] it (fun i h=>h.IsListIter it a i) where
  mem:=by simp
  obj:=fun i h st b hb=>by
    have e:b=it:=by simpa using hb
    subst e
    obtain ⟨o,e,c,d⟩:=st
    exact ⟨o,e,fun v z=>by rw [d] at z; cases z⟩
  keep:=fun i h h' st k=>st.at fun o e=>k it (by simp) o e
  item:=by
    intro X hP hw hK hc i pins s σ H E I hf st hg
    subst hP hw hK
    obtain ⟨xs,x,hq,hx⟩:=hg
    obtain ⟨its,rv,p,hz⟩:=I.list hq
    obtain ⟨u,hu,ru⟩:=rv.get hx
    obtain ⟨f0,f1,f2,f3,f4,f5⟩:=hf it (by simp)
    refine wpAny_pyNext_list_item st p.isList (x:=u) (by simpa using hu) fun h' st' sb=>?_
    have I1:Inv X pins σ H { s with heap:=h' }:=I.turned (t':=s.toks) (fun b o hb e=>(sb.2 b hb).trans e) f0 f1 f3 f4 f5
    obtain ⟨o,e,c,d⟩:=id st'
    exact ⟨u,rfl,Aig (s:={ s with heap:=h' }) e c d (by decide) ⟨x,H,I1,ru,⟨rfl,fun ys hy=>by rw [I.Arv hy hq]; exact hx⟩,st',fun b hb=>(hf b hb).1⟩⟩
  done:=by
    intro X hP hw hK hc i pins s σ H E I hf st hg
    subst hP hw hK
    obtain ⟨xs,hq,hx⟩:=hg
    obtain ⟨its,rv,p,hz⟩:=I.list hq
    obtain ⟨f0,f1,f2,f3,f4,f5⟩:=hf it (by simp)
    have hl:=rv.length
    exact wpAny_pyNext_list_end (I.ok.hd hc) st p.isList (by simp; omega) fun h' eb=>⟨rfl,I.turned (t':=s.toks) (fun b o hb e=>eb b o hb e) f0 f1 f3 f4 f5⟩
  self:=fun _ _ _ _ _ st h=>wpAny_pyIter_listiter st h
theorem An7 {P:Program} {w:World} {K:PySem.W.Frag} {tg:Expr} (a it:Addr):Turn P w K tg (Itt K a) [it] it (fun i h=>h.IsTupleIter it a i) where
  mem:=by simp
  obj:=fun i h st b hb=>by
    have e:b=it:=by simpa using hb
    subst e
    obtain ⟨o,e,c,d⟩:=st
    exact ⟨o,e,fun v z=>by rw [d] at z; cases z⟩
  keep:=fun i h h' st k=>st.at fun o e=>k it (by simp) o e
  item:=by
    intro X hP hw hK hc i pins s σ H E I hf st hg
    subst hP hw hK
    obtain ⟨xs,x,hq,hx⟩:=hg
    obtain ⟨its,rv,p,hz⟩:=I.tuple hq
    obtain ⟨u,hu,ru⟩:=rv.get hx
    obtain ⟨f0,f1,f2,f3,f4,f5⟩:=hf it (by simp)
    refine wpAny_pyNext_tuple_item st (show s.heap.IsTuple a its.toArray from p) (x:=u) (by simpa using hu) fun h' st' sb=>?_
    have I1:Inv X pins σ H { s with heap:=h' }:=I.turned (t':=s.toks) (fun b o hb e=>(sb.2 b hb).trans e) f0 f1 f3 f4 f5
    obtain ⟨o,e,c,d⟩:=id st'
    exact ⟨u,rfl,Aig (s:={ s with heap:=h' }) e c d (by decide) ⟨x,H,I1,ru,⟨rfl,fun ys hy=>by rw [I.Aq7 hy hq]; exact hx⟩,st',fun b hb=>(hf b hb).1⟩⟩
  done:=by
    intro X hP hw hK hc i pins s σ H E I hf st hg
    subst hP hw hK
    obtain ⟨xs,hq,hx⟩:=hg
    obtain ⟨its,rv,p,hz⟩:=I.tuple hq
    obtain ⟨f0,f1,f2,f3,f4,f5⟩:=hf it (by simp)
    have hl:=rv.length
    exact wpAny_pyNext_tuple_end (I.ok.hd hc) st (show s.heap.IsTuple a its.toArray from p) (by simp; omega) fun h' eb=>⟨rfl,I.turned (t':=s.toks) (fun b o hb e=>eb b o hb e) f0 f1 f3 f4 f5⟩
  self:=fun _ _ _ _ _ st h=>wpAny_pyIter_tupleiter st h
end L2
namespace L2
open PySem PySem.Spec PyProof.Rows
section
variable {X:Cx} {tg:Expr}
def Ari (K:PySem.W.Frag) (tl:TE):TI:=fun σ H R=>tl σ H fun x H1=>∃ a,x=.ref a∧(∃ xs,SqL K H1 a xs)∧R (Itl K a) H1
def Avs (K:PySem.W.Frag) (tl:TE):TI:=fun σ H R=>tl σ H fun x H1=>∃ a,x=.ref a∧(∃ xs,SqT K H1 a xs)∧R (Itt K a) H1
theorem K6 {l:Expr} {tl:TE} (hl:PE X l tl):PI X tg l (Ari X.K tl):=by
  intro pins s σ H R I h
  refine thn (hl pins s σ H _ I h) fun v s1 ⟨x,H1,I1,r1,q1⟩=>?_
  obtain ⟨a,e,⟨xs,hq⟩,q⟩:=q1
  subst e
  cases r1
  obtain ⟨its,rv,p,hz⟩:=I1.list hq
  refine wpAny_pyIter_list p.isList ?_
  refine ⟨s1.heap.objs.size,[s1.heap.objs.size],_,_,H1,rfl,I1.kept (t':=s1.toks) fun b o e=>Heap.get?_push_of_some _ e,Aq9 a _,⟨_,Heap.get?_push_size _ rfl,rfl,rfl⟩,fun b hb=>?_,q⟩
  have e:b=s1.heap.objs.size:=by simpa using hb
  subst e
  exact I1.AsY (Nat.le_refl _) (I1.hok.fresh (Nat.le_refl _))
theorem Ar9 {l:Expr} {tl:TE} (hl:PE X l tl):PI X tg l (Avs X.K tl):=by
  intro pins s σ H R I h
  refine thn (hl pins s σ H _ I h) fun v s1 ⟨x,H1,I1,r1,q1⟩=>?_
  obtain ⟨a,e,⟨xs,hq⟩,q⟩:=q1
  subst e
  cases r1
  obtain ⟨its,rv,p,hz⟩:=I1.tuple hq
  refine wpAny_pyIter_tuple (show s1.heap.IsTuple a its.toArray from p) ?_
  refine ⟨s1.heap.objs.size,[s1.heap.objs.size],_,_,H1,rfl,I1.kept (t':=s1.toks) fun b o e=>Heap.get?_push_of_some _ e,An7 a _,⟨_,Heap.get?_push_size _ rfl,rfl,rfl⟩,fun b hb=>?_,q⟩
  have e:b=s1.heap.objs.size:=by simpa using hb
  subst e
  exact I1.AsY (Nat.le_refl _) (I1.hok.fresh (Nat.le_refl _))
def Awo (wi:TI) (g:TG) (tb:TS):TS:=fun D σ H=>wi σ H fun J H1=>∃ W:Nat→Nat→St→Hp→Prop,(∃ m,W 0 m σ H1)∧∀ i m σ H,W i m σ H →
  (J.stop i H∧D.nx σ H)∨(J.go i H∧∃ N:St→Hp→Prop,(∀ σ' H',N σ' H'→∃ m',m' < m∧W (i + 1) m' σ' H')∧∀ x H',J.yld i H x H'→g x σ H' fun σ2 H2=>tb { D with nx:=N,ct:=N,bk:=D.nx } σ2 H2)
def Abn (fp:List Addr) (h:Heap):List (Addr × Obj):=fp.filterMap fun b=>(h.get? b).map fun o=>(b,o)
theorem S4 {fp:List Addr} {h:Heap} {b:Addr} {o:Obj} (hb:b ∈ fp) (e:h.get? b=some o):(b,o) ∈ Abn fp h:=List.mem_filterMap.mpr ⟨b,hb,by rw [e]; rfl⟩
theorem ApS {fp:List Addr} {h:Heap} {p:Addr × Obj} (hp:p ∈ Abn fp h):p.1 ∈ fp∧h.get? p.1=some p.2:=by
  obtain ⟨b,hb,e⟩:=List.mem_filterMap.mp hp
  cases q:h.get? b with
  | none=>rw [q] at e; cases e
  | some o =>
    rw [q] at e
    have e':(b,o)=p:=Option.some.inj e
    subst e'
    exact ⟨hb,q⟩
theorem Inv.pinned {pins:List (Addr × Obj)} {σ:St} {H:Hp} {s:Shared} {fp:List Addr} (I:Inv X pins σ H s) (hf:∀ b ∈ fp,AbW X pins H b) (ho:∀ b ∈ fp,∃ o,s.heap.get? b=some o∧∀ v,o.data≠.cell v):Inv X (pins++Abn fp s.heap) σ H s :=
  I.Aon fun p hp=>(List.mem_append.mp hp).elim (fun z=>I.pin p (List.mem_append_right _ z)) fun z=>by
    obtain ⟨hb,e⟩:=ApS z
    obtain ⟨f0,f1,f2,_⟩:=hf p.1 hb
    obtain ⟨o,e',d⟩:=ho p.1 hb
    rw [e] at e'; cases e'
    exact ⟨e,f0,f1,f2,d⟩
theorem Inv.Vq {pins pl:List (Addr × Obj)} {σ:St} {H:Hp} {s:Shared} (I:Inv X (pins++pl) σ H s):Inv X pins σ H s:=I.Aon fun p hp=>I.pin p (List.mem_append_right _ (List.mem_append_left _ hp))
theorem PH {iter:Expr} {body:List Stmt} {wi:TI} {g:TG} {tb:TS} {pos:Pos} (hp:PassesOwn (model X.prog X.w) X.A X.env X.xe) (hc:X.calm=true) (hi:PI X tg iter wi) (hg:PG X tg g) (hb:PSs X body tb)
    (hs:∀ x,foldedSetIterable iter X.env x=pure x:=by intro _; rfl):PS X (.For tg iter body [] pos) (Awo wi g tb):=by
  intro pins s σ H D I h
  refine wpAny_For (thn (hi pins s σ H _ I h) fun v s1 h1=>thn h1 fun itv s2 h2=>?_) hs
  obtain ⟨it,fp,tn,J,H2,e,I2,T,st2,f2,W,⟨m0,w0⟩,turn⟩:=h2
  subst e
  -- what stays true of the iterator's objects through the loop
  have stat:∀ {H':Hp},(∀ b ∈ fp,H' b=none)→∀ b ∈ fp,AbW X pins H' b:=fun hn b hb=>⟨hn b hb,(f2 b hb).2⟩
  refine codeAny_forLoop_any (fun n s'=>∃ i σ' H',Inv X pins σ' H' s'∧tn i s'.heap∧(∀ b ∈ fp,H' b=none)∧W i n σ' H') ?_ m0 ⟨0,σ,H2,I2,st2,fun b hb=>(f2 b hb).1,w0⟩
  rintro n s3 ⟨i,σ3,H3,I3,st3,fr3,w3⟩
  rcases turn i n σ3 H3 w3 with ⟨stop,qn⟩ | ⟨go,N,hN,step⟩
  · refine wpAny_passesOwn hp (thn (T.done X rfl rfl rfl hc i pins s3 σ3 H3 X.xe I3 (stat fr3) st3 stop) fun r s4 ⟨hr,I4⟩=>?_)
    subst hr
    exact wpAny_execs_nil ⟨σ3,H3,I4,qn⟩
  · refine wpAny_passesOwn hp (thn (T.item X rfl rfl rfl hc i pins s3 σ3 H3 X.xe I3 (stat fr3) st3 go) fun r s4 ⟨u,hr,h4⟩=>?_)
    subst hr
    refine wpAny_passesOwn hp (thn h4 fun _ s5 ⟨x,H5,I5,r5,y5,st5,fr5⟩=>?_)
    have I5':=I5.pinned (stat fr5) (T.obj _ _ st5)
    refine wpAny_passesOwn hp (thn (hg _ s5 σ3 H5 x u _ I5' r5 (step x H5 y5)) fun _ s6 ⟨σ6,H6,I6,q6⟩=>?_)
    refine wpAny_passesOwn hp (thn (hb _ s6 σ6 H6 _ I6 q6) fun f s7 q7=>?_)
    have again:∀ {σ7:St} {H7:Hp},Inv X (pins++Abn fp s5.heap) σ7 H7 s7→N σ7 H7→∃ m,m < n∧∃ i σ' H',Inv X pins σ' H' s7∧tn i s7.heap∧(∀ b ∈ fp,H' b=none)∧W i m σ' H':=fun {σ7 H7} I7 n7=>by
      obtain ⟨m',hm,w7⟩:=hN σ7 H7 n7
      refine ⟨m',hm,i + 1,σ7,H7,I7.Vq,T.keep _ _ _ st5 fun b hb o e=>(I7.pin (b,o) (List.mem_append_right _ (List.mem_append_right _ (S4 hb e)))).1,fun b hb=>?_,w7⟩
      obtain ⟨o,e,d⟩:=T.obj _ _ st5 b hb
      exact (I7.pin (b,o) (List.mem_append_right _ (List.mem_append_right _ (S4 hb e)))).2.1
    cases f with
    | next=>obtain ⟨σ7,H7,I7,n7⟩:=q7; exact again I7 n7
    | cont=>obtain ⟨σ7,H7,I7,n7⟩:=q7; exact again I7 n7
    | brk=>obtain ⟨σ7,H7,I7,q7⟩:=q7; exact ⟨σ7,H7,I7.Vq,q7⟩
    | ret v=>obtain ⟨x7,σ7,H7,I7,r7,q7⟩:=q7; exact ⟨x7,σ7,H7,I7.Vq,r7,q7⟩
end
theorem AqZ {K:PySem.W.Frag} {a:Addr} {xs:List V} {g:TG} {tb:TS} {D:Ends} {σ:St} {H:Hp} (Pv:Nat→St→Hp→Prop) (h0:Pv 0 σ H) (hl:∀ i σ H,i≤xs.length→Pv i σ H→SqL K H a xs)
    (hs:∀ i x σ H,xs[i]? = some x→Pv i σ H→g x σ H fun σ2 H2=>tb { D with nx:=Pv (i + 1),ct:=Pv (i + 1),bk:=D.nx } σ2 H2) (hd:∀ σ H,Pv xs.length σ H→D.nx σ H) :
    ∃ W:Nat→Nat→St→Hp→Prop,(∃ m,W 0 m σ H)∧∀ i m σ H,W i m σ H →
      ((Itl K a).stop i H∧D.nx σ H)∨((Itl K a).go i H∧∃ N:St→Hp→Prop,(∀ σ' H',N σ' H'→∃ m',m' < m∧W (i + 1) m' σ' H')∧∀ x H',(Itl K a).yld i H x H'→g x σ H' fun σ2 H2=>tb { D with nx:=N,ct:=N,bk:=D.nx } σ2 H2):=by
  refine ⟨fun i m σ H=>m=xs.length - i∧i≤xs.length∧Pv i σ H,⟨xs.length,by simp,Nat.zero_le _,h0⟩,?_⟩
  rintro i m σ H ⟨rfl,hi,p⟩
  have q:=hl i σ H hi p
  by_cases hlt:i < xs.length
  · refine .inr ⟨⟨xs,xs[i],q,by simp [hlt]⟩,Pv (i + 1),fun σ' H' p'=>⟨xs.length - (i + 1),by omega,rfl,hlt,p'⟩,fun x H' y=>?_⟩
    obtain ⟨e,y⟩:=y
    subst e
    exact hs i x σ _ (y xs q) p
  · have e:i=xs.length:=by omega
    subst e
    exact .inl ⟨⟨xs,q,Nat.le_refl _⟩,hd σ H p⟩
theorem AsV {K:PySem.W.Frag} {a:Addr} {xs:List V} {g:TG} {tb:TS} {D:Ends} {σ:St} {H:Hp} (Pv:Nat→St→Hp→Prop) (h0:Pv 0 σ H) (hl:∀ i σ H,i≤xs.length→Pv i σ H→SqT K H a xs)
    (hs:∀ i x σ H,xs[i]? = some x→Pv i σ H→g x σ H fun σ2 H2=>tb { D with nx:=Pv (i + 1),ct:=Pv (i + 1),bk:=D.nx } σ2 H2) (hd:∀ σ H,Pv xs.length σ H→D.nx σ H) :
    ∃ W:Nat→Nat→St→Hp→Prop,(∃ m,W 0 m σ H)∧∀ i m σ H,W i m σ H →
      ((Itt K a).stop i H∧D.nx σ H)∨((Itt K a).go i H∧∃ N:St→Hp→Prop,(∀ σ' H',N σ' H'→∃ m',m' < m∧W (i + 1) m' σ' H')∧∀ x H',(Itt K a).yld i H x H'→g x σ H' fun σ2 H2=>tb { D with nx:=N,ct:=N,bk:=D.nx } σ2 H2):=by
  refine ⟨fun i m σ H=>m=xs.length - i∧i≤xs.length∧Pv i σ H,⟨xs.length,by simp,Nat.zero_le _,h0⟩,?_⟩
  rintro i m σ H ⟨rfl,hi,p⟩
  have q:=hl i σ H hi p
  by_cases hlt:i < xs.length
  · refine .inr ⟨⟨xs,xs[i],q,by simp [hlt]⟩,Pv (i + 1),fun σ' H' p'=>⟨xs.length - (i + 1),by omega,rfl,hlt,p'⟩,fun x H' y=>?_⟩
    obtain ⟨e,y⟩:=y
    subst e
    exact hs i x σ _ (y xs q) p
  · have e:i=xs.length:=by omega
    subst e
    exact .inl ⟨⟨xs,q,Nat.le_refl _⟩,hd σ H p⟩
theorem AsE {c:TT} {tb:TS} {D:Ends} {σ:St} {H:Hp} (Pv:St→Hp→Prop) (μ:St→Hp→Nat) (h0:Pv σ H)
    (hs:∀ σ H,Pv σ H→c σ H fun b H1=>if b=true then tb { D with nx:=fun σ' H'=>Pv σ' H'∧μ σ' H' < μ σ H,ct:=fun σ' H'=>Pv σ' H'∧μ σ' H' < μ σ H,bk:=D.nx } σ H1 else D.nx σ H1)
    (mono:∀ σ H Q Q',(∀ b H1,Q b H1→Q' b H1)→c σ H Q→c σ H Q'):AmU c tb D σ H:=by
  refine ⟨fun m σ H=>m=μ σ H∧Pv σ H,⟨_,rfl,h0⟩,?_⟩
  rintro m σ H ⟨rfl,p⟩
  refine mono σ H _ _ (fun b H1 q=>?_) (hs σ H p)
  cases b with
  | true=>exact ⟨_,fun σ' H' ⟨p',l⟩=>⟨_,l,rfl,p'⟩,q⟩
  | false=>exact q
end L2
namespace L2
open PySem PySem.Spec PyProof.Rows
abbrev R2:=V→V→Hp→VK→Prop
def OpR (X:Cx) (f:Value→Value→Sem Value) (r:R2):Prop :=
  ∀ (pins:List (Addr × Obj)) (s:Shared) (σ:St) (H:Hp) (x y:V) (v u:Value) (Q:VK),Inv X pins σ H s→RelV x v→RelV y u→r x y H Q →
    wpAny (model X.prog X.w) X.A (f v u) (EP X pins σ Q) X.xe s
def UnR (X:Cx) (f:Value→Sem Value) (r:V→Hp→VK→Prop):Prop :=
  ∀ (pins:List (Addr × Obj)) (s:Shared) (σ:St) (H:Hp) (x:V) (v:Value) (Q:VK),Inv X pins σ H s→RelV x v→r x H Q →
    wpAny (model X.prog X.w) X.A (f v) (EP X pins σ Q) X.xe s
def MO (X:Cx) (f:Value) (r:List V→Hp→VK→Prop):Prop :=
  ∀ (pins:List (Addr × Obj)) (s:Shared) (σ:St) (H:Hp) (xs:List V) (us:List Value) (Q:VK),Inv X pins σ H s→Vals xs us→r xs H Q →
    wpAny (model X.prog X.w) X.A (call f us) (EP X pins σ Q) X.xe s
def tOp (r:R2) (ta tb:TE):TE:=fun σ H Q=>ta σ H fun x H1=>tb σ H1 fun y H2=>r x y H2 Q
def tUn (r:V→Hp→VK→Prop) (ta:TE):TE:=fun σ H Q=>ta σ H fun x H1=>r x H1 Q
def rI (C:Int→Int→Prop) (g:Int→Int→V):R2:=fun x y H Q=>∃ i j,x=.int i∧y=.int j∧C i j∧Q (g i j) H
def rI0 (g:Int→Int→V):R2:=fun x y H Q=>∃ i j,x=.int i∧y=.int j∧Q (g i j) H
def rU (g:Int→V):V→Hp→VK→Prop:=fun x H Q=>∃ i,x=.int i∧Q (g i) H
section
variable {X:Cx} {a b c:Expr} {ta tb tc:TE} {pos:Pos}
theorem AuT (ha:PE X a ta) (hb:PE X b tb) {pins:List (Addr × Obj)} {s:Shared} {σ:St} {H:Hp} {R:V→V→Hp→Prop} (I:Inv X pins σ H s)
    (h:ta σ H fun x H1=>tb σ H1 fun y H2=>R x y H2) {Q:Value→Shared→Prop} {f:Value→Value→Sem Value}
    (hf:∀ v u s2 x y H2,Inv X pins σ H2 s2→RelV x v→RelV y u→R x y H2→wpAny (model X.prog X.w) X.A (f v u) Q X.xe s2) :
    wpAny (model X.prog X.w) X.A (eval a X.env) (fun v s₁=>wpAny (model X.prog X.w) X.A (eval b X.env) (fun u s₂=>wpAny (model X.prog X.w) X.A (f v u) Q X.xe s₂) X.xe s₁) X.xe s:=by
  refine thn (ha pins s σ H _ I h) fun v s1 ⟨x,H1,I1,r1,q1⟩=>?_
  refine thn (hb pins s1 σ H1 _ I1 q1) fun u s2 ⟨y,H2,I2,r2,q2⟩=>?_
  exact hf v u s2 x y H2 I2 r1 r2 q2
theorem CY {op:Operator} {r:R2} (ho:OpR X (binaryOp op) r) (ha:PE X a ta) (hb:PE X b tb):PE X (.BinOp a op b pos) (tOp r ta tb):=by
  intro pins s σ H Q I h
  exact wpAny_BinOp (AuT ha hb I h fun v u s2 x y H2 I2 rx ry q=>ho pins s2 σ H2 x y v u Q I2 rx ry q)
theorem Abm {op:UnaryOp} {r:V→Hp→VK→Prop} (ho:UnR X (unaryOp op) r) (ha:PE X a ta):PE X (.UnaryOp op a pos) (tUn r ta):=by
  intro pins s σ H Q I h
  exact UnaryOp_ (thn (ha pins s σ H _ I h) fun v s1 ⟨x,H1,I1,r1,q1⟩=>ho pins s1 σ H1 x v Q I1 r1 q1)
theorem opI {f:Value→Value→Sem Value} {C:Int→Int→Prop} {g:Int→Int→Int}
    (rule:∀ (i j:Int) (t u:Tok) (s:Shared) (Q:Value→Shared→Prop) (E:Value→Shared→Prop),C i j→Q (.int (g i j) s.toks) { s with toks:=s.toks + 1 }→wpAny (model X.prog X.w) X.A (f (.int i t) (.int j u)) Q E s) :
    OpR X f (rI C fun i j=>.int (g i j)):=by
  intro pins s σ H x y v u Q I rx ry h
  obtain ⟨i,j,rfl,rfl,hc,q⟩:=h
  obtain ⟨t,rfl⟩:=rx
  obtain ⟨t',rfl⟩:=ry
  exact rule i j t t' s _ _ hc ⟨.int (g i j),H,I.tok _,⟨_,rfl⟩,q⟩
theorem Axb {f:Value→Value→Sem Value} {g:Int→Int→Int}
    (rule:∀ (i j:Int) (t u:Tok) (s:Shared) (Q:Value→Shared→Prop) (E:Value→Shared→Prop),Q (.int (g i j) s.toks) { s with toks:=s.toks + 1 }→wpAny (model X.prog X.w) X.A (f (.int i t) (.int j u)) Q E s) :
    OpR X f (rI0 fun i j=>.int (g i j)):=by
  intro pins s σ H x y v u Q I rx ry h
  obtain ⟨i,j,rfl,rfl,q⟩:=h
  obtain ⟨t,rfl⟩:=rx
  obtain ⟨t',rfl⟩:=ry
  exact rule i j t t' s _ _ ⟨.int (g i j),H,I.tok _,⟨_,rfl⟩,q⟩
theorem AtN {f:Value→Value→Sem Value} {g:Int→Int→Bool}
    (rule:∀ (i j:Int) (t u:Tok) (s:Shared) (Q:Value→Shared→Prop) (E:Value→Shared→Prop),Q (.bool (g i j)) s→wpAny (model X.prog X.w) X.A (f (.int i t) (.int j u)) Q E s) :
    OpR X f (rI0 fun i j=>.bl (g i j)):=by
  intro pins s σ H x y v u Q I rx ry h
  obtain ⟨i,j,rfl,rfl,q⟩:=h
  obtain ⟨t,rfl⟩:=rx
  obtain ⟨t',rfl⟩:=ry
  exact rule i j t t' s _ _ ⟨.bl (g i j),H,I,rfl,q⟩
def AuK (i j:Int):Prop:=0 < j∧j < 1073741824
def AuL (i j:Int):Prop:=(-(2 ^ 64) < i∧i < 2 ^ 64)∨(-(2 ^ 64) < j∧j < 2 ^ 64)
theorem AuL.ok {i j:Int} (h:AuL i j):IntMulOk i j:=by
  rcases h with ⟨h1,h2⟩ | ⟨h1,h2⟩
  · exact .of_left (intBits_le_64 h1 h2)
  · exact .of_right (intBits_le_64 h1 h2)
theorem Ge:OpR X (binaryOp .Add) (rI0 fun i j=>.int (i + j)):=Axb fun _ _ _ _ _ _ _ q=>add_int q
theorem Agd:OpR X (binaryOp .Sub) (rI0 fun i j=>.int (i - j)):=Axb fun _ _ _ _ _ _ _ q=>sub_int q
theorem Ar3:OpR X (binaryOp .Mult) (rI AuL fun i j=>.int (i * j)):=opI fun _ _ _ _ _ _ _ hc q=>mul_int q hc.ok
theorem AtO:OpR X (binaryOp .FloorDiv) (rI AuK fun i j=>.int (i / j)):=opI fun i j _ _ _ _ _ hc q=>by
  have h1:(0:Int) < j:=hc.1
  have h2:j < 1073741824:=hc.2
  exact floordiv_int (by omega) (by rw [Int.fdiv_eq_ediv_of_nonneg i (by omega)]; exact q) (.inl (PyProof.noPylong_small (by omega)))
theorem Ar2:OpR X (binaryOp .Mod) (rI (fun _ j=>0 < j) fun i j=>.int (i % j)):=opI fun i j _ _ _ _ _ hc q=>by
  have h1:(0:Int) < j:=hc
  exact mod_int' (by omega) (by rw [Int.fmod_eq_emod_of_nonneg i (by omega)]; exact q)
theorem Arm:OpR X (inplaceOp .FloorDiv) (rI AuK fun i j=>.int (i / j)):=opI fun i j _ _ _ _ _ hc q=>by
  have h1:(0:Int) < j:=hc.1
  have h2:j < 1073741824:=hc.2
  exact ifloordiv_int (by omega) (by rw [Int.fdiv_eq_ediv_of_nonneg i (by omega)]; exact q) (.inl (PyProof.noPylong_small (by omega)))
theorem unI {f:Value→Sem Value} {g:Int→Int}
    (rule:∀ (i:Int) (t:Tok) (s:Shared) (Q:Value→Shared→Prop) (E:Value→Shared→Prop),Q (.int (g i) s.toks) { s with toks:=s.toks + 1 }→wpAny (model X.prog X.w) X.A (f (.int i t)) Q E s) :
    UnR X f (rU fun i=>.int (g i)):=by
  intro pins s σ H x v Q I rx h
  obtain ⟨i,rfl,q⟩:=h
  obtain ⟨t,rfl⟩:=rx
  exact rule i t s _ _ ⟨.int (g i),H,I.tok _,⟨_,rfl⟩,q⟩
theorem T7:UnR X (unaryOp .USub) (rU fun i=>.int (-i)):=unI fun _ _ _ _ _ q=>neg_int q
end
def Aj5:V→V→Bool
  | .non,.non=>true | .non,.int _=>true | .int _,.non=>true | .non,.bl _=>true | .bl _,.non=>true | .non,.str _=>true | .str _,.non=>true
  | .int _,.int _=>true | .bl _,.bl _=>true | .str _,.str _=>true | .byt _,.byt _=>true
  | .int _,.str _=>true | .str _,.int _=>true | .bl _,.str _=>true | .str _,.bl _=>true
  | _,_=>false
def rEq:R2:=fun x y H Q=>Aj5 x y=true∧Q (.bl (decide (x=y))) H
def rNe:R2:=fun x y H Q=>Aj5 x y=true∧Q (.bl (!decide (x=y))) H
theorem AnV {i j:Int}:decide (V.int i=V.int j)=(i == j):=by
  rw [Bool.eq_iff_iff]
  simp
theorem AqN {i j:Bool}:decide (V.bl i=V.bl j)=(i == j):=by
  rw [Bool.eq_iff_iff]
  simp
theorem AnW {i j:Str}:decide (V.str i=V.str j)=(i == j):=by
  rw [Bool.eq_iff_iff]
  simp
theorem AnU {i j:Array UInt8}:decide (V.byt i=V.byt j)=(i.toList == j.toList):=by
  rw [Bool.eq_iff_iff]
  cases i
  cases j
  simp
section
variable {X:Cx} {a b c:Expr} {ta tb tc:TE} {pos:Pos}
theorem BX {pins:List (Addr × Obj)} {σ:St} {H:Hp} {s:Shared} {Q:VK} {k k':Bool} (I:Inv X pins σ H s) (q:Q (.bl k) H) (e:k=k'):EP X pins σ Q (.bool k') s:=by
  subst e
  exact ⟨.bl k,H,I,rfl,q⟩
theorem AX:OpR X (compareOp .Eq) rEq:=by
  intro pins s σ H x y v u Q I rx ry h
  obtain ⟨hs,q⟩:=h
  cases x with
  | non =>
    cases rx
    cases y with
    | non=>cases ry; exact PySem.EqNone.eq_none_none (BX I q (by simp))
    | bl j=>cases ry; exact PySem.EqNone.eq_none_bool (BX I q (by simp))
    | int j=>obtain ⟨t',rfl⟩:=ry; exact PySem.EqNone.eq_none_int (BX I q (by simp))
    | str j=>obtain ⟨t',rfl⟩:=ry; exact PySem.EqNone.eq_none_str (BX I q (by simp))
    | _=>exact absurd (show false=true from hs) Bool.false_ne_true
  | bl i =>
    cases rx
    cases y with
    | non=>cases ry; exact PySem.EqNone.eq_bool_none (BX I q (by simp))
    | bl j=>cases ry; exact eq_bool (BX I q AqN)
    | str j=>obtain ⟨t',rfl⟩:=ry; exact PySem.EqMixed.eq_bool_str (BX I q (by simp))
    | _=>exact absurd (show false=true from hs) Bool.false_ne_true
  | int i =>
    obtain ⟨t,rfl⟩:=rx
    cases y with
    | non=>cases ry; exact PySem.EqNone.eq_int_none (BX I q (by simp))
    | int j=>obtain ⟨t',rfl⟩:=ry; exact eq_int (BX I q AnV)
    | str j=>obtain ⟨t',rfl⟩:=ry; exact PySem.EqMixed.eq_int_str (BX I q (by simp))
    | _=>exact absurd (show false=true from hs) Bool.false_ne_true
  | str i =>
    obtain ⟨t,rfl⟩:=rx
    cases y with
    | non=>cases ry; exact PySem.EqNone.eq_str_none (BX I q (by simp))
    | bl j=>cases ry; exact PySem.EqMixed.eq_str_bool (BX I q (by simp))
    | int j=>obtain ⟨t',rfl⟩:=ry; exact PySem.EqMixed.eq_str_int (BX I q (by simp))
    | str j=>obtain ⟨t',rfl⟩:=ry; exact eq_str (BX I q AnW)
    | _=>exact absurd (show false=true from hs) Bool.false_ne_true
  | byt i =>
    obtain ⟨t,rfl⟩:=rx
    cases y with
    | byt j=>obtain ⟨t',rfl⟩:=ry; exact PySem.W.eq_bytes (BX I q AnU)
    | _=>exact absurd (show false=true from hs) Bool.false_ne_true
  | _=>cases y <;> exact absurd (show false=true from hs) Bool.false_ne_true
theorem IW:OpR X (compareOp .NotEq) rNe:=by
  intro pins s σ H x y v u Q I rx ry h
  obtain ⟨hs,q⟩:=h
  cases x with
  | non =>
    cases rx
    cases y with
    | non=>cases ry; exact PySem.EqNone.ne_none_none (BX I q (by simp))
    | bl j=>cases ry; exact PySem.EqNone.ne_none_bool (BX I q (by simp))
    | int j=>obtain ⟨t',rfl⟩:=ry; exact PySem.EqNone.ne_none_int (BX I q (by simp))
    | str j=>obtain ⟨t',rfl⟩:=ry; exact PySem.EqNone.ne_none_str (BX I q (by simp))
    | _=>exact absurd (show false=true from hs) Bool.false_ne_true
  | bl i =>
    cases rx
    cases y with
    | non=>cases ry; exact PySem.EqNone.ne_bool_none (BX I q (by simp))
    | bl j=>cases ry; exact ne_bool (BX I q (congrArg not AqN))
    | str j=>obtain ⟨t',rfl⟩:=ry; exact PySem.EqMixed.ne_bool_str (BX I q (by simp))
    | _=>exact absurd (show false=true from hs) Bool.false_ne_true
  | int i =>
    obtain ⟨t,rfl⟩:=rx
    cases y with
    | non=>cases ry; exact PySem.EqNone.ne_int_none (BX I q (by simp))
    | int j=>obtain ⟨t',rfl⟩:=ry; exact ne_int (BX I q (congrArg not AnV))
    | str j=>obtain ⟨t',rfl⟩:=ry; exact PySem.EqMixed.ne_int_str (BX I q (by simp))
    | _=>exact absurd (show false=true from hs) Bool.false_ne_true
  | str i =>
    obtain ⟨t,rfl⟩:=rx
    cases y with
    | non=>cases ry; exact PySem.EqNone.ne_str_none (BX I q (by simp))
    | bl j=>cases ry; exact PySem.EqMixed.ne_str_bool (BX I q (by simp))
    | int j=>obtain ⟨t',rfl⟩:=ry; exact PySem.EqMixed.ne_str_int (BX I q (by simp))
    | str j=>obtain ⟨t',rfl⟩:=ry; exact ne_str (BX I q (congrArg not AnW))
    | _=>exact absurd (show false=true from hs) Bool.false_ne_true
  | byt i =>
    obtain ⟨t,rfl⟩:=rx
    cases y with
    | byt j=>obtain ⟨t',rfl⟩:=ry; exact PySem.W.ne_bytes (BX I q (congrArg not AnU))
    | _=>exact absurd (show false=true from hs) Bool.false_ne_true
  | _=>cases y <;> exact absurd (show false=true from hs) Bool.false_ne_true
theorem Xa:OpR X (compareOp .Lt) (rI0 fun i j=>.bl (decide (i < j))):=AtN fun _ _ _ _ _ _ _ q=>lt_int q
theorem WZ:OpR X (compareOp .LtE) (rI0 fun i j=>.bl (decide (i≤j))):=AtN fun _ _ _ _ _ _ _ q=>le_int q
theorem AuG:OpR X (compareOp .Gt) (rI0 fun i j=>.bl (decide (j < i))):=AtN fun _ _ _ _ _ _ _ q=>gt_int q
theorem Ar1:OpR X (compareOp .GtE) (rI0 fun i j=>.bl (decide (j≤i))):=AtN fun _ _ _ _ _ _ _ q=>ge_int q
theorem As (b:Expr) {op:CmpOp} (h:op≠.In:=by decide) (h2:op≠.NotIn:=by decide):behindInMarks op b=false:=by
  have e1:(op == CmpOp.In)=false:=by cases op <;> first | rfl | exact absurd rfl h
  have e2:(op == CmpOp.NotIn)=false:=by cases op <;> first | rfl | exact absurd rfl h2
  cases b <;> simp [behindInMarks,e1,e2]
theorem Eo {op:CmpOp} {r:R2} (ho:OpR X (compareOp op) r) (ha:PE X a ta) (hb:PE X b tb) (hm:behindInMarks op b=false):PE X (.Compare a [op] [b] pos) (tOp r ta tb):=by
  intro pins s σ H Q I h
  exact wpAny_Compare1 (AuT ha hb I h fun v u s2 x y H2 I2 rx ry q=>ho pins s2 σ H2 x y v u Q I2 rx ry q) hm
def AbO (t:TE):TT:=fun σ H Q=>t σ H fun x H'=>∃ k,x=.bl k∧Q k H'
theorem Ao {op:CmpOp} {r:R2} (ho:OpR X (compareOp op) r) (ha:PE X a ta) (hb:PE X b tb) (hm:behindInMarks op b=false):PT X (.Compare a [op] [b] pos) (AbO (tOp r ta tb)):=by
  intro pins s σ H Q I h
  refine wpAny_isTrue_Compare1 (thn (ha pins s σ H _ I h) fun v s1 ⟨x,H1,I1,r1,q1⟩=>thn (hb pins s1 σ H1 _ I1 q1) fun u s2 ⟨y,H2,I2,r2,q2⟩ =>
    thn (ho pins s2 σ H2 x y v u _ I2 r1 r2 q2) fun c s3 ⟨z,H3,I3,r3,k,e,q3⟩=>?_) hm
  subst e
  cases r3
  exact wpAny_truthy_bool ⟨H3,I3,q3⟩
def AmN (r r':R2) (ta tb tc:TE):TE:=fun σ H Q=>ta σ H fun x H1=>tb σ H1 fun y H2=>r x y H2 fun z H3=>∃ k,z=.bl k ∧
  (if k=true then tc σ H3 fun w' H4=>r' y w' H4 Q else Q (.bl false) H3)
theorem Aby {op op':CmpOp} {r r':R2} (ho:OpR X (compareOp op) r) (ho':OpR X (compareOp op') r') (ha:PE X a ta) (hb:PE X b tb) (hc:PE X c tc)
    (hm:lastMarks [op,op'] [b,c]=false:=by with_unfolding_all rfl):PT X (.Compare a [op,op'] [b,c] pos) (AbO (AmN r r' ta tb tc)):=by
  intro pins s σ H Q I h
  refine isTrue_chain (thn (ha pins s σ H _ I h) fun v s1 ⟨x,H1,I1,r1,q1⟩=>test_link (thn (hb pins s1 σ H1 _ I1 q1) fun u s2 ⟨y,H2,I2,r2,q2⟩ =>
    thn (ho pins s2 σ H2 x y v u _ I2 r1 r2 q2) fun d s3 ⟨z,H3,I3,r3,k,e,q3⟩=>?_)) hm
  subst e
  cases r3
  refine wpAny_truthy_bool ?_
  cases k with
  | false =>
    obtain ⟨k',e',q'⟩:=q3
    cases e'
    exact ite_ff ⟨H3,I3,q'⟩
  | true =>
    refine ite_tt (test_last (thn (hc pins s3 σ H3 _ I3 q3) fun w' s4 ⟨z',H4,I4,r4,q4⟩=>thn (ho' pins s4 σ H4 y z' u w' _ I4 r2 r4 q4) fun d' s5 ⟨z2,H5,I5,r5,k2,e2,q5⟩=>?_))
    subst e2
    cases r5
    exact wpAny_truthy_bool ⟨H5,I5,q5⟩
theorem AlO:(sizeLine:Nat) < 2 ^ 63:=by rw [sizeLine_eq]; decide
theorem vals1 {x:V} {us:List Value} (r:Vals [x] us):∃ u,us=[u]∧RelV x u:=by
  cases r with
  | cons r1 r2=>cases r2; exact ⟨_,rfl,r1⟩
end
end L2
namespace L2
open PySem PySem.Spec PyProof.Rows
structure Ak9 (h:Heap) (x dx C:Addr) (mA:Str→Option Value):Prop where
  obj:h.get? x=some (PySem.W.instObj C dx)
  ns:h.Ns1 dx mA
  ne:dx≠x
theorem ApO {h:Heap} {dx:Addr} {mA:Str→Option Value} (n:h.Ns1 dx mA):∃ od,h.get? dx=some od∧∀ name,PySem.W.lookIn name od=some (mA name):=by
  obtain ⟨o,es,ep,ho,hd,hk,_,hm⟩:=n
  refine ⟨o,ho,fun name=>?_⟩
  have e:=hm name
  unfold nsFind findBy at e
  rw [← Array.find?_toList] at e
  unfold PySem.W.lookIn
  rw [hd]
  dsimp only
  split
  · rename_i y q
    rw [q] at e
    exact congrArg some e
  · rename_i q
    rw [q] at e
    have a:es.toList.any (·.refKey)=false:=by
      rw [List.any_eq_false]
      intro y hy
      obtain ⟨z,t,hkey⟩:=hk y (Array.mem_toList_iff.mp hy)
      simp [DictEntry.refKey,hkey]
    have a' : ¬ es.toList.any (·.refKey)=true:=by rw [a]; exact Bool.false_ne_true
    rw [if_neg a']
    exact congrArg some e
theorem Ak9.look {h:Heap} {x dx C:Addr} {mA:Str→Option Value} (I:Ak9 h x dx C mA):∃ od,PySem.W.InstAt h x (PySem.W.instObj C dx) C (some od)∧∀ name,PySem.W.lookIn name od=some (mA name) :=
  let ⟨od,ho,hl⟩:=ApO I.ns
  ⟨od,⟨I.obj,rfl,rfl,ho⟩,hl⟩
section
variable {prog:Program} {w:World} {A:Around} {E:Value→Shared→Prop} {s:Shared} {K:PySem.W.Frag} {x dx C f:Addr} {mA:Str→Option Value} {name:Str} {v:Value}
theorem get_map {expr:Bool} {Q:Value→Shared→Prop} (X:K.In s.heap) (I:Ak9 s.heap x dx C mA) (hg:PySem.W.plainGet K C name=true) (hh:PySem.W.hasDictIn K C=true)
    (ha:PySem.W.findIn K (.ref C) name=some none) (hv:mA name=some v) (hv':PySem.W.handedIn v=true) (h:Q v { s with toks:=s.toks + 1 }) :
    wpAny (model prog w) A (getAttr (.ref x) name expr) Q E s:=by
  obtain ⟨od,J,hl⟩:=I.look
  exact PySem.W.get_value X J (PySem.W.plainGet_of hg).1 (PySem.W.findObj_own hh ha rfl (by rw [hl,hv])) hv' h
theorem Arc {pl:Sem Bool} {Q:Value × List Value→Shared→Prop} (X:K.In s.heap) (I:Ak9 s.heap x dx C mA) (hg:PySem.W.plainGet K C name=true)
    (hf:PySem.W.findIn K (.ref C) name=some (some (.ref f))) (ht:PySem.W.isFn K (.ref f)=true) (hv:mA name=none) (h:Q (.ref f,[.ref x]) s) :
    wpAny (model prog w) A (getMethod (.ref x) name pl) Q E s:=by
  obtain ⟨od,J,hl⟩:=I.look
  exact PySem.W.method_fn X J (PySem.W.plainGet_of hg).1 (PySem.W.plainGet_of hg).2 hf (beq_iff_eq.mp ht) (by show (PySem.W.lookIn name od).map (·.isSome)=some false; rw [hl,hv]; rfl) h
theorem Auk {ns:List Str} {Q:Unit→Shared→Prop} (X:K.In s.heap) (I:Ak9 s.heap x dx C mA)
    (hs:PySem.W.findIn K (.ref C) "__setattr__" = some (some (.builtin "object.__setattr__"))) (hp:PySem.W.plainOver K C=true) (ht:PySem.W.takerIn K C name=some none) (hh:PySem.W.hasDictIn K C=true)
    (hw:PySem.Within mA ns) (hsz:ns.length≤sizeLine)
    (h:∀ h',Ak9 h' x dx C (fun y=>if y=name then some v else mA y)→Heap.SameBut dx s.heap h'→Q () { s with heap:=h',toks:=s.toks + 2 }) :
    wpAny (model prog w) A (setAttr (.ref x) name v) Q E s:=by
  obtain ⟨od,J,hl⟩:=I.look
  refine PySem.W.set_plain X J hs (PySem.W.osa_open (s:={ s with toks:=s.toks + 1 }) (r:=none) X J hp ht fun b=>?_)
  obtain ⟨cd,hc,hd'⟩:=PySem.W.any_some hh
  have hx:s.heap.get? x=some ⟨.ref C,some dx,.plain,#[]⟩:=I.obj
  refine wpAny_bind (wpAny_pure (wpAny_bind (wpAny_bind (wpAny_loadPart hx (wpAny_bind (PySem.W.Looks.here (s:={ s with toks:=s.toks + 1 }) (PySem.W.looks_clsIn X hc) ?_))))))
  rw [hd']
  refine wpAny_pure (a:=some dx) (wpAny_bind (wpAny_pure (wpAny_bind ?_)))
  refine wpAny_nsSet1 (s:={ s with toks:=s.toks + 1 }) I.ns fun h' hn2 hs2=>?_
  obtain ⟨oD,esD,epD,hoD,hdD,hcD⟩:=hn2.count (PySem.Within.cons name v hw)
  refine wpAny_bind (wpAny_lookBehind hoD (by rw [hdD]; exact pastItsLine_dict (Nat.le_trans hcD (by rw [List.length_cons]; omega))) ?_)
  exact wpAny_pure (h _ ⟨(hs2.2 _ (Ne.symm I.ne)).trans I.obj,hn2,I.ne⟩ hs2)
theorem Arx {R:Result→Shared→Prop} {vs:List Value} {kw:List (Str × Value)} (X:K.In s.heap) (hm:PySem.W.makesIn K C=true)
    (hi:PySem.W.findIn K (.ref C) "__init__" = some (some (.ref f))) (hf:PySem.W.typeIn K (.ref f)=some (.type "function"))
    (h:codeAny (model prog w) (A.under (.builtin "type.__call__" ⟨.ref C::vs,kw⟩)) (.call (.ref f) ⟨.ref (s.heap.objs.size + 1)::vs,kw⟩) (PySem.W.InitBack (s.heap.objs.size + 1) R)
      { s with heap:=(s.heap.push PySem.W.emptyDict).push (PySem.W.instObj C s.heap.objs.size) }) :
    codeAny (model prog w) A (.call (.ref C) ⟨vs,kw⟩) R s:=by
  obtain ⟨hh,g,d,t,os⟩:=s
  exact PySem.W.make_core (PySem.W.makes_of X hm) (PySem.W.looks_findIn X hi) (fun self=>PySem.W.bind_fn X self hf) (.inl rfl) h
end
def Bj (f:Str) (v:V):List (Str × V)→List (Str × V)
  | []=>[(f,v)]
  | (g,x)::r=>if g=f then (g,v)::r else (g,x)::Bj f v r
theorem WS (f g:Str) (v:V):∀ fs:List (Str × V),(Bj f v fs).lookup g=if g=f then some v else fs.lookup g
  | []=>by
    show List.lookup g [(f,v)]=_
    by_cases h:g=f
    · have hb:(g == f)=true:=beq_iff_eq.mpr h
      simp only [List.lookup,hb,if_pos h]
    · have hb:(g == f)=false:=beq_eq_false_iff_ne.mpr h
      simp only [List.lookup,hb,if_neg h]
  | (k,x)::r=>by
    have ih:=WS f g v r
    rw [show Bj f v ((k,x)::r)=(if k=f then (k,v)::r else (k,x)::Bj f v r) from rfl]
    by_cases hk:k=f
    · rw [if_pos hk]
      by_cases h:g=k
      · have hb:(g == k)=true:=beq_iff_eq.mpr h
        simp only [List.lookup,hb,if_pos (h.trans hk)]
      · have hb:(g == k)=false:=beq_eq_false_iff_ne.mpr h
        simp only [List.lookup,hb,if_neg (fun e:g=f=>h (e.trans hk.symm))]
    · rw [if_neg hk]
      by_cases h:g=k
      · have hb:(g == k)=true:=beq_iff_eq.mpr h
        simp only [List.lookup,hb,if_neg (fun e:g=f=>hk (h.symm.trans e))]
      · have hb:(g == k)=false:=beq_eq_false_iff_ne.mpr h
        simp only [List.lookup,hb]
        exact ih
theorem Wc (f:Str) (v:V):∀ fs:List (Str × V),f ∈ (Bj f v fs).map (·.1)∧∀ g,g ∈ fs.map (·.1)→g ∈ (Bj f v fs).map (·.1)
  | []=>⟨by simp [Bj],fun g h=>by simp at h⟩
  | (k,x)::r=>by
    obtain ⟨i1,i2⟩:=Wc f v r
    rw [show Bj f v ((k,x)::r)=(if k=f then (k,v)::r else (k,x)::Bj f v r) from rfl]
    by_cases hk:k=f
    · rw [if_pos hk]
      subst hk
      exact ⟨by simp,fun g h=>by simpa using h⟩
    · rw [if_neg hk]
      refine ⟨?_,fun g h=>?_⟩
      · rw [List.map_cons]
        exact List.mem_cons_of_mem _ i1
      · rw [List.map_cons] at h ⊢
        rcases List.mem_cons.mp h with e | e
        · exact List.mem_cons.mpr (.inl e)
        · exact List.mem_cons_of_mem _ (i2 g e)
theorem WQ (f:Str) (v:V):∀ fs:List (Str × V),(Bj f v fs).length≤fs.length + 1
  | []=>by simp [Bj]
  | (k,x)::r=>by
    have ih:=WQ f v r
    rw [show Bj f v ((k,x)::r)=(if k=f then (k,v)::r else (k,x)::Bj f v r) from rfl]
    by_cases hk:k=f
    · rw [if_pos hk,List.length_cons,List.length_cons]; omega
    · rw [if_neg hk,List.length_cons,List.length_cons]; omega
theorem Ln.some_of {v:V} {o:Option Value} (r:Ln (some v) o):∃ u,o=some u∧RelV v u:=by
  cases o with
  | none=>exact (show False from r).elim
  | some u=>exact ⟨u,rfl,r⟩
theorem Ln.none_of {o:Option Value} (r:Ln none o):o=none:=by
  cases o with
  | none=>rfl
  | some u=>exact (show False from r).elim
theorem Apq {v:V} {u:Value} (r:RelV v u):PySem.W.handedIn u=true:=by
  cases v with
  | non=>cases (show u=Value.none from r); rfl
  | bl b=>cases (show u=Value.bool b from r); rfl
  | int i=>obtain ⟨t,e⟩:=(show ∃ t,u=Value.int i t from r); cases e; rfl
  | str x=>obtain ⟨t,e⟩:=(show ∃ t,u=Value.str x t from r); cases e; rfl
  | byt b=>obtain ⟨t,e⟩:=(show ∃ t,u=Value.bytes b t from r); cases e; rfl
  | flt b=>obtain ⟨t,e⟩:=(show ∃ t,u=Value.float b t from r); cases e; rfl
  | ref a=>cases (show u=Value.ref a from r); rfl
  | ty n=>cases (show u=Value.type n from r); rfl
section
variable {P:Program} {w:World} {H H':Hp} {h h':Heap} {a C dx:Addr} {fs fs':List (Str × V)}
theorem Afo (hok:HOk P w H h) (e:H a=some (.ins C dx fs)):∃ mA,Ak9 h a dx C mA∧(∀ f,Ln (fs.lookup f) (mA f))∧PySem.Within mA (fs.map (·.1))∧fs.length≤1000∧H dx=some (.own a):=by
  obtain ⟨d,z,ne,ob,mA,n,r,q⟩:=(show DK P w H h a (.ins C dx fs) from hok a _ e)
  exact ⟨mA,⟨ob,n,ne⟩,r,q,z,d⟩
end
structure Cls (K:PySem.W.Frag) (C:Addr):Prop where
  pg:PySem.W.plainGet K C Str.empty=true
  hd:PySem.W.hasDictIn K C=true
  po:PySem.W.plainOver K C=true
  sa:PySem.W.findIn K (.ref C) "__setattr__" = some (some (.builtin "object.__setattr__"))
theorem Cls.get {K:PySem.W.Frag} {C:Addr} (c:Cls K C) (f:Str):PySem.W.plainGet K C f=true:=c.pg
def Bp (K:PySem.W.Frag) (C:Addr) (f:Str):Prop:=PySem.W.findIn K (.ref C) f=some none
theorem Bp.Axk {K:PySem.W.Frag} {C:Addr} {f:Str} (n:Bp K C f):PySem.W.takerIn K C f=some none:=by
  unfold PySem.W.takerIn
  rw [show PySem.W.findIn K (.ref C) f=some none from n]
  rfl
structure Meth (K:PySem.W.Frag) (C:Addr) (m:Str) (f:Addr):Prop where
  at_:PySem.W.findIn K (.ref C) m=some (some (.ref f))
  fn:PySem.W.isFn K (.ref f)=true
  kp:PySem.W.keepIn K (.ref f)=true
section
variable {X:Cx} {pins:List (Addr × Obj)} {σ:St} {H:Hp} {s:Shared} {a C dx:Addr} {fs:List (Str × V)} {f:Str} {v:V} {A:Around} {E:Value→Shared→Prop}
theorem ZX {b:Bool} {Q:Value→Shared→Prop} (I:Inv X pins σ H s) (e:H a=some (.ins C dx fs)) (c:Cls X.K C) (n:Bp X.K C f) (l:fs.lookup f=some v)
    (h:∀ u s',Inv X pins σ H s'→RelV v u→Q u s'):wpAny (model X.prog X.w) A (getAttr (.ref a) f b) Q E s:=by
  obtain ⟨mA,O,r,_,_,_⟩:=Afo I.hok e
  obtain ⟨u,hu,ru⟩:=Ln.some_of (v:=v) (o:=mA f) (by rw [← l]; exact r f)
  exact get_map I.kIn O (c.get f) c.hd n hu (Apq ru) (h u _ (I.tok _) ru)
theorem ZY {m:Str} {g:Addr} {pl:Sem Bool} {Q:Value × List Value→Shared→Prop} (I:Inv X pins σ H s) (e:H a=some (.ins C dx fs)) (c:Cls X.K C) (k:Meth X.K C m g) (l:fs.lookup m=none)
    (h:Q (.ref g,[.ref a]) s):wpAny (model X.prog X.w) A (getMethod (.ref a) m pl) Q E s:=by
  obtain ⟨mA,O,r,_,_,_⟩:=Afo I.hok e
  have hn:mA m=none:=Ln.none_of (by rw [← l]; exact r m)
  exact Arc I.kIn O (c.get m) k.at_ k.fn hn h
theorem Ab6 {y:V} {u:Value} {Q:Unit→Shared→Prop} (I:Inv X pins σ H s) (e:H a=some (.ins C dx fs)) (c:Cls X.K C) (n:Bp X.K C f) (hl:fs.length < 1000) (ry:RelV y u)
    (h:∀ s',Inv X pins σ (upd H a (.ins C dx (Bj f y fs))) s'→Q () s'):wpAny (model X.prog X.w) A (setAttr (.ref a) f u) Q E s:=by
  obtain ⟨mA,O,r,wi,_,ho⟩:=Afo I.hok e
  have hz:(fs.map (·.1)).length≤sizeLine:=by rw [List.length_map,sizeLine_eq]; omega
  refine Auk I.kIn O c.sa c.po n.Axk c.hd wi hz fun h' O' sb=>h _ ?_
  have hd:∃ o,h'.get? dx=some o:=let ⟨o,_,_,e',_⟩:=O'.ns; ⟨o,e'⟩
  refine I.write (x:=a) (e:=dx) (by rw [e]; exact True.intro) (.inr ho) (fun b q hb z=>(sb.2 b hb).trans z) hd ?_
  refine ⟨by rw [A9 O.ne]; exact ho,?_,O.ne,O'.obj,_,O'.ns,fun g=>?_,fun g hg=>?_⟩
  · have:=WQ f y fs; omega
  · show Ln ((Bj f y fs).lookup g) (if g=f then some u else mA g)
    rw [WS]
    by_cases q:g=f
    · rw [if_pos q,if_pos q]; exact ry
    · rw [if_neg q,if_neg q]; exact r g
  · by_cases q:g=f
    · rw [q]; exact (Wc f y fs).1
    · refine (Wc f y fs).2 g (wi g fun z=>hg ?_)
      show (if g=f then some u else mA g)=none
      rw [if_neg q]; exact z
theorem Inv.made (I:Inv X pins σ H s):Inv X pins σ (upd (upd H s.heap.objs.size (.own (s.heap.objs.size + 1))) (s.heap.objs.size + 1) (.ins C s.heap.objs.size []))
    { s with heap:=(s.heap.push PySem.W.emptyDict).push (PySem.W.instObj C s.heap.objs.size) }:=by
  have e1:(s.heap.push PySem.W.emptyDict).get? s.heap.objs.size=some PySem.W.emptyDict:=Heap.get?_push_size s.heap rfl
  have e2:((s.heap.push PySem.W.emptyDict).push (PySem.W.instObj C s.heap.objs.size)).get? (s.heap.objs.size + 1)=some (PySem.W.instObj C s.heap.objs.size):=by
    have:=Heap.get?_push_size (s.heap.push PySem.W.emptyDict) (o:=PySem.W.instObj C s.heap.objs.size) rfl
    rwa [Heap.size_push] at this
  have e3:(s.heap.push PySem.W.emptyDict).Ns s.heap.objs.size (fun _=>none):=⟨PySem.W.emptyDict,#[],_,e1,rfl,(fun e he=>absurd he (by simp)),fun _=>rfl⟩
  have I1:=I.laid (a:=s.heap.objs.size) (o:=.own (s.heap.objs.size + 1)) (h':=s.heap.push PySem.W.emptyDict) (t':=s.toks) (fun b u q=>Heap.get?_push_of_some _ q) (Nat.le_refl _) ⟨_,e1⟩
  refine I1.laid (a:=s.heap.objs.size + 1) (o:=.ins C s.heap.objs.size []) (t':=s.toks) (fun b u q=>Heap.get?_push_of_some _ q) (Nat.le_of_eq (Heap.size_push _ _)) ?_
  have ne:s.heap.objs.size≠s.heap.objs.size + 1:=Nat.ne_of_lt (Nat.lt_succ_self _)
  refine ⟨by rw [A9 ne,Ab],Nat.zero_le _,ne,e2,fun _=>none,(Heap.Ns1.of_empty e3).at fun o q=>Heap.get?_push_of_some _ q,fun _=>True.intro,fun y hy=>absurd rfl hy⟩
theorem AsQ {prog:Program} {w:World} {env:Env} {e:Expr} {f:Str} {pos:Pos} {s:Shared} {Q:Value→Shared→Prop} (hb:attributeBase e f env (eval e env)=eval e env)
    (h:wpAny (model prog w) A (eval e env) (fun o s₁=>wpAny (model prog w) A (getAttr o f true) Q E s₁) E s):wpAny (model prog w) A (eval (.Attribute e f pos) env) Q E s :=
  Attribute_any_ h (by rw [arm_eval_Attribute,hb])
end
def Asu (K:PySem.W.Frag) (ta:TE) (f:Str):TE:=fun σ H Q=>ta σ H fun x H1=>∃ a C dx fs v,x=.ref a∧H1 a=some (.ins C dx fs)∧Cls K C∧Bp K C f∧fs.lookup f=some v∧Q v H1
def AvY (K:PySem.W.Frag) (ta tv:TE) (f:Str):TS:=fun D σ H=>tv σ H fun y H1=>ta σ H1 fun x H2=>∃ a C dx fs,x=.ref a∧H2 a=some (.ins C dx fs)∧Cls K C∧Bp K C f∧fs.length < 1000 ∧
  D.nx σ (upd H2 a (.ins C dx (Bj f y fs)))
def AwD (X:Cx) (op:Operator) (rd:V→V→Hp→VK→Prop):Prop :=
  ∀ (pins:List (Addr × Obj)) (s:Shared) (σ:St) (H:Hp) (x y:V) (u v:Value) (Q:VK),Inv X pins σ H s→RelV x u→RelV y v→rd x y H Q→wpAny (model X.prog X.w) X.A (inplaceOp op u v) (EP X pins σ Q) X.xe s
def Agw (K:PySem.W.Frag) (ta tv:TE) (rd:V→V→Hp→VK→Prop) (f:Str):TS:=fun D σ H=>ta σ H fun x H1=>∃ a C dx fs v,x=.ref a∧H1 a=some (.ins C dx fs)∧Cls K C∧Bp K C f∧fs.lookup f=some v ∧
  tv σ H1 fun y H2=>rd v y H2 fun z H3=>∃ dx' fs',H3 a=some (.ins C dx' fs')∧fs'.length < 1000∧D.nx σ (upd H3 a (.ins C dx' (Bj f z fs')))
section
variable {X:Cx} {o e value:Expr} {f:Str} {pos pos' tpos:Pos} {ta tv:TE}
theorem Al (he:PE X e ta) (hb:attributeBase e f X.env (eval e X.env)=eval e X.env):PE X (.Attribute e f pos) (Asu X.K ta f):=by
  intro pins s σ H Q I h
  refine AsQ hb (thn (he pins s σ H _ I h) fun u s1 ⟨x,H1,I1,rx,a,C,dx,fs,v,ex,ea,c,n,l,q⟩=>?_)
  subst ex
  obtain rfl:u=Value.ref a:=rx
  exact ZX I1 ea c n l fun u' s2 I2 ru=>⟨v,H1,I2,ru,q⟩
theorem Bd (ha:PE X o ta) (hv:PE X value tv) (hs:swapsWith value (some (.Attribute o f pos')) pos.line X.env=pure false):PS X (.Assign [.Attribute o f pos'] value pos) (AvY X.K ta tv f):=by
  intro pins s σ H D I h
  refine plainObj_wpAny_Assign_Attribute (thn (hv pins s σ H _ I h) fun u s1 ⟨y,H1,I1,ry,q⟩=>thn (ha pins s1 σ H1 _ I1 q) fun ov s2 ⟨x,H2,I2,rx,a,C,dx,fs,ex,ea,c,n,l,q2⟩=>?_) hs
  subst ex
  obtain rfl:ov=Value.ref a:=rx
  exact Ab6 I2 ea c n l ry fun s3 I3=>⟨σ,_,I3,q2⟩
theorem AdD {op:Operator} {rd:V→V→Hp→VK→Prop} (ha:PE X o ta) (hv:PE X value tv) (hop:AwD X op rd):PS X (.AugAssign (.Attribute o f tpos) op value pos) (Agw X.K ta tv rd f):=by
  intro pins s σ H D I h
  refine wpAny_AugAssign_AttributeAny (thn (ha pins s σ H _ I h) fun ov s1 ⟨x,H1,I1,rx,a,C,dx,fs,v,ex,ea,c,n,l,q⟩=>?_)
  subst ex
  obtain rfl:ov=Value.ref a:=rx
  refine ZX I1 ea c n l fun u s2 I2 ru=>thn (hv pins s2 σ H1 _ I2 q) fun w3 s3 ⟨y,H2,I3,ry,q3⟩=>thn (hop pins s3 σ H2 v y u w3 _ I3 ru ry q3) fun w4 s4 ⟨z,H3,I4,rz,dx',fs',ea',l',q4⟩=>?_
  exact Ab6 I4 ea' c n l' rz fun s5 I5=>⟨σ,_,I5,q4⟩
def AvO:V→V→Hp→VK→Prop:=fun x y H Q=>∃ i j,x=.int i∧y=.int j∧Q (.int (i + j)) H
def Axd:V→V→Hp→VK→Prop:=fun x y H Q=>∃ i j,x=.int i∧y=.int j∧Q (.int (i - j)) H
theorem Arl:AwD X .Add AvO:=by
  rintro pins s σ H x y u v Q I rx ry ⟨i,j,rfl,rfl,q⟩
  obtain ⟨t,rfl⟩:=(show ∃ t,u=Value.int i t from rx)
  obtain ⟨t',rfl⟩:=(show ∃ t',v=Value.int j t' from ry)
  exact PyProof.Rows.iadd_int ⟨.int (i + j),H,I.tok _,⟨_,rfl⟩,q⟩
end
end L2
namespace L2
open PySem PySem.Spec PyProof.Rows
structure GC (k:Nat) (A:Around):Prop where
  hd:A.handled=none
  dp:A.depth + 3 * k + 5 < recursionLimit
  un:A.units + 16 * k + 200 < cLine
theorem GC.mono {j k:Nat} {A:Around} (r:GC k A) (h:j≤k):GC j A:=⟨r.hd,by have:=r.dp; omega,by have:=r.un; omega⟩
theorem GC.deeper {k:Nat} {A:Around} (r:GC (k + 1) A) (env:Env):GC k (A.deeper env) :=
  ⟨r.hd,by have:=r.dp; show A.depth + 1 + 3 * k + 5 < _; omega,by have:=r.un; show A.units + 3 + 16 * k + 200 < _; omega⟩
theorem AlR {A:Around} {C:Addr} {us:List Value} {kw:List (Str × Value)}:(A.under (.builtin "type.__call__" ⟨.ref C::us,kw⟩)).depth=A.depth + 1:=by
  first | rfl | simp [Around.under,Code.weight,Code.isCreation,Code.isGuard,Code.isCaller,Code.frames,Code.isFrame,guardIds]
theorem AlS {A:Around} {C:Addr} {us:List Value} {kw:List (Str × Value)}:(A.under (.builtin "type.__call__" ⟨.ref C::us,kw⟩)).units=A.units + 1:=by
  first | rfl | simp [Around.under,Code.cUnits,Code.frames,Code.isFrame]
theorem GC.make {k:Nat} {A:Around} (r:GC (k + 1) A) (C:Addr) (us:List Value) (kw:List (Str × Value)):GC k (A.under (.builtin "type.__call__" ⟨.ref C::us,kw⟩)) :=
  ⟨r.hd,by have:=r.dp; rw [AlR]; omega,by have:=r.un; rw [AlS]; omega⟩
theorem GC.depth {k:Nat} {A:Around} (r:GC k A):A.depth < recursionLimit:=by have:=r.dp; omega
theorem GC.units {k:Nat} {A:Around} (r:GC k A):A.units + 64 < cLine:=by have:=r.un; omega
theorem GC.AwA {k:Nat} {A:Around} (r:GC k A):A.units < cLine:=by have:=r.un; omega
def AgL:TA:=fun _ H Q=>Q [] H
def AbN (ta:TE) (tr:TA):TA:=fun σ H Q=>ta σ H fun x H1=>tr σ H1 fun xs H2=>Q (x::xs) H2
section
variable {X:Cx} {e:Expr} {es:List Expr} {te:TE} {t:TA} {pos:Pos}
theorem Ag:PA X [] AgL:=fun _ _ _ _ H Q I h=>Calls.spliced_nil ⟨[],H,I,.nil,h⟩
theorem Aa (ha:PE X e te) (hr:PA X es t) (hs:starEach (e::es) X.env=(false,eval e X.env)::starEach es X.env:=by rfl):PA X (e::es) (AbN te t):=by
  intro pos pins s σ H Q I h
  rw [hs]
  show wpAny _ _ (spliced ((false,eval e X.env)::backTo pos (starEach es X.env))) _ _ s
  refine Calls.spliced_cons (thn (ha pins s σ H _ I h) fun u s1 ⟨x,H1,I1,r1,q1⟩=>?_)
  exact thn (hr pos pins s1 σ H1 _ I1 q1) fun us s2 ⟨xs,H2,I2,r2,q2⟩=>⟨x::xs,H2,I2,.cons r1 r2,q2⟩
def Aww (t:TA):TE:=fun σ H Q=>t σ H fun xs H1=>xs.length≤sizeLine∧∀ p,H1 p=none→Q (.ref p) (upd H1 p (.tup xs))
def Awr (t:TA):TE:=fun σ H Q=>t σ H fun xs H1=>xs.length≤sizeLine∧∀ p,H1 p=none→Q (.ref p) (upd H1 p (.lst xs))
theorem HL {x1} (h:PA X es t):PE X (.Tuple es x1 pos) (Aww t):=by
  intro pins s σ H Q I hq
  refine wpAny_Tuple_spliced (thn (h pos pins s σ H _ I hq) fun us s1 ⟨xs,H1,I1,r,z,q⟩=>⟨by rw [← r.length]; exact z,?_⟩)
  have hf:H1 s1.heap.objs.size=none:=I1.hok.fresh (Nat.le_refl _)
  refine ⟨.ref s1.heap.objs.size,upd H1 s1.heap.objs.size (.tup xs),I1.laid (t':=s1.toks) (fun b u e=>Heap.get?_push_of_some _ e) (Nat.le_refl _) ?_,rfl,q _ hf⟩
  exact ⟨z,us,r,⟨_,Heap.get?_push_size _ rfl,rfl,_,rfl⟩⟩
theorem BI (h:PA X es t):PE X (.List es pos) (Awr t):=by
  intro pins s σ H Q I hq
  refine wpAny_List_spliced (thn (h pos pins s σ H _ I hq) fun us s1 ⟨xs,H1,I1,r,z,q⟩=>⟨by rw [← r.length]; exact z,?_⟩)
  have hf:H1 s1.heap.objs.size=none:=I1.hok.fresh (Nat.le_refl _)
  refine ⟨.ref s1.heap.objs.size,upd H1 s1.heap.objs.size (.lst xs),I1.laid (t':=s1.toks) (fun b u e=>Heap.get?_push_of_some _ e) (Nat.le_refl _) ?_,rfl,q _ hf⟩
  exact ⟨z,us,0,r,Heap.get?_push_size _ rfl⟩
end
abbrev Sp:=List V→Hp→VK→XK→Prop
abbrev CXT:=List Env→Hp→Shared→XK→Value→Shared→Prop
structure Ak5 (P:Program) (w:World) (K:PySem.W.Frag) (mg:Str→Option Value) (base:Heap) (A:Around) (outer:List Env) (s:Shared) (H:Hp):Prop where
  frames:A.frames=some outer
  mod:Mod K mg base
  bs:∀ b o,base.get? b=some o→s.heap.get? b=some o∧H b=none
  bsz:base.objs.size≤s.heap.objs.size
  XD:s.heap.FunFrames base outer
  frf:∀ b ∈ frs outer,H b=none
  hok:HOk P w H s.heap
  bare:AllBare s.gens
def CE (outer:List Env) (P:Program) (w:World) (H:Hp) (s:Shared) (Q:VK) (u:Value) (s':Shared):Prop :=
  ∃ v H',s'.os=s.os∧AllBare s'.gens∧Un (frs outer) [] H H' s.heap s'.heap∧HOk P w H' s'.heap∧RelV v u∧Q v H'
def CR (CX:CXT) (outer:List Env) (P:Program) (w:World) (H:Hp) (s:Shared) (Q:VK) (E:XK) (r:Result) (s':Shared):Prop :=
  match r with
  | .ok (.ret u)=>CE outer P w H s Q u s'
  | .ok _=>False
  | .error e=>CX outer H s E e s'
structure AY (P:Program) (w:World) (K:PySem.W.Frag) (mg:Str→Option Value) (base:Heap) (CX:CXT) (k:Nat) (f:Addr) (fd:FuncData) (ps:List Str) (sp:Sp):Prop where
  len:∀ vs H Q E,sp vs H Q E→vs.length=ps.length
  run:∀ (A:Around) (outer:List Env) (s:Shared) (H:Hp) (args:Args) (us:List Value) (vs:List V) (Q:VK) (E:XK),GC k A→Ak5 P w K mg base A outer s H→BindsTo s fd args (ps.zip us)→Vals vs us→sp vs H Q E →
    codeAny (model P w) A (.call (.ref f) args) (CR CX outer P w H s Q E) s
theorem AY.mono {P:Program} {w:World} {K:PySem.W.Frag} {mg:Str→Option Value} {base:Heap} {CX:CXT} {j k:Nat} {f:Addr} {fd:FuncData} {ps:List Str} {sp:Sp} (F:AY P w K mg base CX j f fd ps sp) (h:j≤k) :
    AY P w K mg base CX k f fd ps sp:=⟨F.len,fun A outer s H args us vs Q E hr=>F.run A outer s H args us vs Q E (hr.mono h)⟩
theorem AY.imp {P:Program} {w:World} {K:PySem.W.Frag} {mg:Str→Option Value} {base:Heap} {CX:CXT} {k:Nat} {f:Addr} {fd:FuncData} {ps:List Str} {sp sp':Sp} (F:AY P w K mg base CX k f fd ps sp)
    (h:∀ vs H Q E,sp' vs H Q E→sp vs H Q E):AY P w K mg base CX k f fd ps sp' :=
  ⟨fun vs H Q E q=>F.len vs H Q E (h _ _ _ _ q),fun A outer s H args us vs Q E hr he hb hv hs=>F.run A outer s H args us vs Q E hr he hb hv (h _ _ _ _ hs)⟩
theorem Ak5.make {P:Program} {w:World} {K:PySem.W.Frag} {mg:Str→Option Value} {base:Heap} {A:Around} {outer:List Env} {s:Shared} {H:Hp} (e:Ak5 P w K mg base A outer s H) (C:Addr) (us:List Value) (kw:List (Str × Value)) :
    Ak5 P w K mg base (A.under (.builtin "type.__call__" ⟨.ref C::us,kw⟩)) outer s H:=⟨by first | exact e.frames | (simpa [Around.under,Code.envs,Code.isFrame,pushEnvs] using e.frames),e.mod,e.bs,e.bsz,e.XD,e.frf,e.hok,e.bare⟩
section
variable {X:Cx} {pins:List (Addr × Obj)} {σ:St} {H:Hp} {s s':Shared}
theorem Inv.AwO (I:Inv X pins σ H s):Ak5 X.prog X.w X.K X.mg X.base X.A X.stack s H :=
  ⟨I.ok.frames,I.ok.mod,I.bs,Nat.le_trans I.ok.bsz I.sz,I.stack,I.Aox,I.hok,I.bare⟩
theorem Inv.after {Q:VK} {u:Value} (I:Inv X pins σ H s) (h:CE X.stack X.prog X.w H s Q u s'):EP X pins σ Q u s':=by
  obtain ⟨v,H',os,bare,un,hok,r,q⟩:=h
  obtain ⟨hh,g,d,t,os'⟩:=s'
  obtain rfl:os'=s.os:=os
  exact ⟨v,H',I.call (h':=hh) (g':=g) (d':=d) (t':=t) (ch:=[]) un hok bare (fun b z=>absurd z (by simp)),r,q⟩
end
def Asr (sp:Sp) (dvs:List V) (E:XK) (t:TA):TE:=fun σ H Q=>t σ H fun vs H1=>sp (vs++dvs) H1 Q E
def Ao1 (C:Addr) (m:Str) (sp:Sp) (dvs:List V) (E:XK) (ta:TE) (t:TA):TE:=fun σ H Q=>ta σ H fun x H1=>∃ a dx fs,x=.ref a∧H1 a=some (.ins C dx fs)∧fs.lookup m=none ∧
  t σ H1 fun vs H2=>sp (x::(vs++dvs)) H2 Q E
def Ao0 (C:Addr) (sp:Sp) (dvs:List V) (E:XK) (t:TA):TE:=fun σ H Q=>t σ H fun vs H1=>∀ x dx,H1 x=none→H1 dx=none→dx≠x →
  sp (.ref x::(vs++dvs)) (upd (upd H1 dx (.own x)) x (.ins C dx [])) (fun v H2=>v=.non∧Q (.ref x) H2) E
def Binds (K:PySem.W.Frag) (fd:FuncData) (ps:List Str) (ds:List Value):Prop :=
  ∀ (s:Shared) (us:List Value),K.In s.heap→(us++ds).length=ps.length→BindsTo s fd ⟨us,[]⟩ (ps.zip (us++ds))
theorem Binds.all {K:PySem.W.Frag} {fd:FuncData} {ps:List Str} (h:∀ us:List Value,us.length=ps.length→bindArgs fd ⟨us,[]⟩=pure (ps.zip us)):Binds K fd ps []:=fun s us _ hl=>by
  rw [List.append_nil] at hl ⊢
  exact .of_eq (h us hl)
def Passes (CX:CXT) (X:Cx) (E:XK):Prop:=∀ (pins:List (Addr × Obj)) (σ:St) (H:Hp) (s:Shared) (e:Value) (s':Shared),Inv X pins σ H s→CX X.stack H s E e s'→X.xe e s'
section
variable {X:Cx} {CX:CXT} {k:Nat} {f C:Addr} {fd:FuncData} {ps:List Str} {sp:Sp} {dvs:List V} {ds:List Value} {E:XK} {x m:Str} {p pos apos:Pos} {e o:Expr} {es:List Expr} {ta:TE} {t:TA}
theorem Am1 {pins:List (Addr × Obj)} {σ:St} {H:Hp} {s:Shared} {Q:VK} {us:List Value} {vs:List V} (F:AY X.prog X.w X.K X.mg X.base CX k f fd ps sp) (hr:GC k X.A) (hb:Binds X.K fd ps ds) (hd:Vals dvs ds) (hx:Passes CX X E)
    (I:Inv X pins σ H s) (r:Vals vs us) (h:sp (vs++dvs) H Q E):wpAny (model X.prog X.w) X.A (call (.ref f) us) (EP X pins σ Q) X.xe s:=by
  have r2:Vals (vs++dvs) (us++ds):=r.append hd
  have hl:(us++ds).length=ps.length:=by rw [← r2.length]; exact F.len _ _ _ _ h
  refine wpAny_call (codeAny_mono (F.run X.A X.stack s H ⟨us,[]⟩ (us++ds) (vs++dvs) Q E hr I.AwO (hb s us I.kIn hl) r2 h) fun r s' hq=>?_)
  cases r with
  | error e=>exact hx pins σ H s e s' I hq
  | ok fl =>
    cases fl with
    | ret u=>exact I.after hq
    | next=>exact False.elim hq
    | brk=>exact False.elim hq
    | cont=>exact False.elim hq
theorem AJ (F:AY X.prog X.w X.K X.mg X.base CX k f fd ps sp) (hr:GC k X.A) (hg:Gl X x) (hm:X.mg x=some (.ref f)) (hk:PySem.W.keepIn X.K (.ref f)=true) (hb:Binds X.K fd ps ds) (hd:Vals dvs ds) (hx:Passes CX X E)
    (ha:PA X (e::es) t) (hdb:(x == ("__debug__" : Str))=false:=by decide) (he:starEach (e::es) X.env=(false,eval e X.env)::starEach es X.env:=by rfl) (hpl:(backTo pos (starEach es X.env)).any (·.1)=false:=by rfl) :
    PE X (.Call (.Name x p) (e::es) [] pos) (Asr sp dvs E t):=by
  intro pins s σ H Q I h
  refine wpAny_Call_Name_kw (YF I hg hm ?_ hdb)
  refine PySem.W.callWith_K (h₀:=X.base) I.ok.mod.kin hk (thn (ha pos pins s σ H _ I h) fun us s1 ⟨vs,H1,I1,r,q⟩=>⟨I1.kIn,?_⟩) he hpl
  exact Am1 F hr hb hd hx I1 r q
theorem AH {pl:Sem Bool} (he:PE X o ta) (c:Cls X.K C) (hm:Meth X.K C m f) (F:AY X.prog X.w X.K X.mg X.base CX k f fd ps sp) (hr:GC k X.A) (hb:Binds X.K fd ps ds) (hd:Vals dvs ds) (hx:Passes CX X E) (ha:PA X (e::es) t)
    (hst:starEach (e::es) X.env=(false,eval e X.env)::starEach es X.env:=by rfl) (hpl:(backTo pos (starEach es X.env)).any (·.1)=false:=by rfl)
    (ht:eval (.Call (.Attribute o m apos) (e::es) [] pos) X.env=(do
      let ov ← eval o X.env
      standAt apos.atName
      let (f,first) ← holding [ov] (getMethod ov m pl)
      callWith pos f first (backTo pos (starEach (e::es) X.env)) (backToKw pos (keywordEach [] X.env))):=by rfl) :
    PE X (.Call (.Attribute o m apos) (e::es) [] pos) (Ao1 C m sp dvs E ta t):=by
  intro pins s σ H Q I h
  refine PySem.W.methodCall_KW (pl:=pl) (thn (he pins s σ H _ I h) fun u s1 ⟨x,H1,I1,rx,a,dx,fs,ex,ea,l,q⟩=>?_) ht
  subst ex
  obtain rfl:u=Value.ref a:=rx
  refine ZY I1 ea c hm l ?_
  refine PySem.W.callWith_K (first:=[.ref a]) (h₀:=X.base) I.ok.mod.kin hm.kp (thn (ha pos pins s1 σ H1 _ I1 q) fun us s2 ⟨vs,H2,I2,r,q2⟩=>⟨I2.kIn,?_⟩) hst hpl
  exact Am1 (us:=.ref a::us) (vs:=.ref a::vs) F hr hb hd hx I2 (.cons rfl r) q2
theorem CL {pl:Sem Bool} (he:PE X o ta) (c:Cls X.K C) (hm:Meth X.K C m f) (F:AY X.prog X.w X.K X.mg X.base CX k f fd ps sp) (hr:GC k X.A) (hb:Binds X.K fd ps ds) (hd:Vals dvs ds) (hx:Passes CX X E)
    (ht:eval (.Call (.Attribute o m apos) [] [] pos) X.env=(do
      let ov ← eval o X.env
      standAt apos.atName
      let (f,first) ← holding [ov] (getMethod ov m pl)
      callWith pos f first (backTo pos (starEach [] X.env)) (backToKw pos (keywordEach [] X.env))):=by rfl) :
    PE X (.Call (.Attribute o m apos) [] [] pos) (Ao1 C m sp dvs E ta AgL):=by
  intro pins s σ H Q I h
  refine PySem.W.methodCall_KW (pl:=pl) (thn (he pins s σ H _ I h) fun u s1 ⟨x,H1,I1,rx,a,dx,fs,ex,ea,l,q⟩=>?_) ht
  subst ex
  obtain rfl:u=Value.ref a:=rx
  refine ZY I1 ea c hm l ?_
  exact PySem.W.callWith_K0 (first:=[.ref a]) I1.kIn hm.kp (Am1 (us:=[.ref a]) (vs:=[.ref a]) F hr hb hd hx I1 (.cons rfl .nil) q)
structure Mk (K:PySem.W.Frag) (C f:Addr):Prop where
  makes:PySem.W.makesIn K C=true
  init:PySem.W.findIn K (.ref C) "__init__" = some (some (.ref f))
  fn:PySem.W.isFn K (.ref f)=true
  kp:PySem.W.keepIn K (.ref C)=true
theorem Aj0 {pins:List (Addr × Obj)} {σ:St} {H:Hp} {s:Shared} {Q:VK} {us:List Value} {vs:List V} (M:Mk X.K C f) (F:AY X.prog X.w X.K X.mg X.base CX k f fd ps sp) (hr:GC (k + 1) X.A) (hb:Binds X.K fd ps ds) (hd:Vals dvs ds)
    (hx:Passes CX X E) (I:Inv X pins σ H s) (r:Vals vs us)
    (h:∀ x dx,H x=none→H dx=none→dx≠x→sp (.ref x::(vs++dvs)) (upd (upd H dx (.own x)) x (.ins C dx [])) (fun v H2=>v=.non∧Q (.ref x) H2) E) :
    wpAny (model X.prog X.w) X.A (call (.ref C) us) (EP X pins σ Q) X.xe s:=by
  have hq:=h (s.heap.objs.size + 1) s.heap.objs.size (I.hok.fresh (Nat.le_succ _)) (I.hok.fresh (Nat.le_refl _)) (Nat.ne_of_lt (Nat.lt_succ_self _))
  have I2:=Inv.made (C:=C) I
  have r2:Vals (V.ref (s.heap.objs.size + 1)::(vs++dvs)) (Value.ref (s.heap.objs.size + 1)::(us++ds)):=.cons rfl (r.append hd)
  have hl:(Value.ref (s.heap.objs.size + 1)::us++ds).length=ps.length:=by
    have e:=r2.length
    rw [F.len _ _ _ _ hq] at e
    exact e.symm
  refine wpAny_call (Arx (f:=f) I.kIn M.makes M.init (beq_iff_eq.mp M.fn) (codeAny_mono (F.run _ X.stack _ _ ⟨Value.ref (s.heap.objs.size + 1)::us,[]⟩ (Value.ref (s.heap.objs.size + 1)::(us++ds)) _ _ E (hr.make C us [])
    (I2.AwO.make C us []) (hb _ (Value.ref (s.heap.objs.size + 1)::us) I2.kIn hl) r2 hq) fun r s' hq'=>?_))
  cases r with
  | error e=>exact hx pins σ _ _ e s' I2 hq'
  | ok fl =>
    cases fl with
    | ret u =>
      obtain ⟨v,H',I3,rv,ev,q3⟩:=I2.after hq'
      subst ev
      exact ⟨rv,⟨V.ref (s.heap.objs.size + 1),H',I3,rfl,q3⟩⟩
    | next=>exact False.elim hq'
    | brk=>exact False.elim hq'
    | cont=>exact False.elim hq'
theorem AtR (M:Mk X.K C f) (F:AY X.prog X.w X.K X.mg X.base CX k f fd ps sp) (hr:GC (k + 1) X.A) (hg:Gl X x) (hm:X.mg x=some (.ref C)) (hb:Binds X.K fd ps ds) (hd:Vals dvs ds) (hx:Passes CX X E)
    (ha:PA X (e::es) t) (hdb:(x == ("__debug__" : Str))=false:=by decide) (he:starEach (e::es) X.env=(false,eval e X.env)::starEach es X.env:=by rfl) (hpl:(backTo pos (starEach es X.env)).any (·.1)=false:=by rfl) :
    PE X (.Call (.Name x p) (e::es) [] pos) (Ao0 C sp dvs E t):=by
  intro pins s σ H Q I h
  refine wpAny_Call_Name_kw (YF I hg hm ?_ hdb)
  refine PySem.W.callWith_K (h₀:=X.base) I.ok.mod.kin M.kp (thn (ha pos pins s σ H _ I h) fun us s1 ⟨vs,H1,I1,r,q⟩=>⟨I1.kIn,?_⟩) he hpl
  exact Aj0 M F hr hb hd hx I1 r q
theorem P6 (M:Mk X.K C f) (F:AY X.prog X.w X.K X.mg X.base CX k f fd ps sp) (hr:GC (k + 1) X.A) (hg:Gl X x) (hm:X.mg x=some (.ref C)) (hb:Binds X.K fd ps ds) (hd:Vals dvs ds) (hx:Passes CX X E)
    (hdb:(x == ("__debug__" : Str))=false:=by decide):PE X (.Call (.Name x p) [] [] pos) (Ao0 C sp dvs E AgL):=by
  intro pins s σ H Q I h
  refine wpAny_Call_Name_kw (YF I hg hm ?_ hdb)
  exact PySem.W.callWith_K0 I.kIn M.kp (Aj0 (us:=[]) M F hr hb hd hx I .nil h)
end
structure A0 (N P:List Str) (sc:Scope):Prop where
  kind:sc.kind=.function
  co:sc.isCoroutine=false
  gen:sc.isGenerator=false
  nd:N.Nodup
  pre:N.take P.length=P
  par:∀ x ∈ P,sc.names.lookup x=some .local∨sc.names.lookup x=some .cell
  AvH:∀ y ∈ sc.names,y.2≠.free
theorem Adv {kindOf:Str→Option NameKind} {x:Str}:∀ {binds:List (Str × Value)} {m:Str→Option Value},(∀ v,(x,v) ∉ binds)→bindL kindOf binds m x=m x
  | [],_,_=>rfl
  | (n,v)::r,m,h=>by
    unfold bindL
    rw [Adv fun w hw=>h w (List.mem_cons_of_mem _ hw)]
    split
    · have:x≠n:=by rintro rfl; exact h v List.mem_cons_self
      simp [this]
    · rfl
theorem Adt {kindOf:Str→Option NameKind} {x:Str}:∀ {binds:List (Str × Value)} {m:Str→Option Value},(∀ v,(x,v) ∉ binds)→bindC kindOf binds m x=m x
  | [],_,_=>rfl
  | (n,v)::r,m,h=>by
    unfold bindC
    rw [Adt fun w hw=>h w (List.mem_cons_of_mem _ hw)]
    split
    · rfl
    · have:x≠n:=by rintro rfl; exact h v List.mem_cons_self
      simp [this]
theorem Adu {kindOf:Str→Option NameKind} {x:Str} {v:Value}:∀ {P:List Str} {vs:List Value} {i:Nat} {m:Str→Option Value},P.Nodup→P[i]? = some x→vs[i]? = some v→kindOf x=some .local →
    bindL kindOf (P.zip vs) m x=some v
  | [],_,_,_,_,h,_,_=>by simp at h
  | _::_,[],_,_,_,_,h,_=>by simp at h
  | p::P,w::vs,0,m,nd,h1,h2,hk=>by
    simp at h1 h2; subst h1; subst h2
    show bindL kindOf ((p,w)::P.zip vs) m p=_
    unfold bindL
    rw [Adv fun v hv=>(List.nodup_cons.mp nd).1 (List.of_mem_zip hv).1,if_pos hk]
    simp
  | p::P,w::vs,i + 1,m,nd,h1,h2,hk=>by
    show bindL kindOf ((p,w)::P.zip vs) m x=_
    unfold bindL
    exact Adu (i:=i) (List.nodup_cons.mp nd).2 (by simpa using h1) (by simpa using h2) hk
theorem Ads {kindOf:Str→Option NameKind} {x:Str} {v:Value}:∀ {P:List Str} {vs:List Value} {i:Nat} {m:Str→Option Value},P.Nodup→P[i]? = some x→vs[i]? = some v→kindOf x≠some .local →
    bindC kindOf (P.zip vs) m x=some v
  | [],_,_,_,_,h,_,_=>by simp at h
  | _::_,[],_,_,_,_,h,_=>by simp at h
  | p::P,w::vs,0,m,nd,h1,h2,hk=>by
    simp at h1 h2; subst h1; subst h2
    show bindC kindOf ((p,w)::P.zip vs) m p=_
    unfold bindC
    rw [Adt fun v hv=>(List.nodup_cons.mp nd).1 (List.of_mem_zip hv).1,if_neg hk]
    simp
  | p::P,w::vs,i + 1,m,nd,h1,h2,hk=>by
    show bindC kindOf ((p,w)::P.zip vs) m x=_
    unfold bindC
    exact Ads (i:=i) (List.nodup_cons.mp nd).2 (by simpa using h1) (by simpa using h2) hk
def start (N:List Str) (vs:List V):St:=vs.map some++List.replicate (N.length - vs.length) none
def AhO (CX:CXT) (P:Program) (w:World) (K:PySem.W.Frag) (mg:Str→Option Value) (base:Heap) (N:List Str) (qual:Str) (scope:Scope) (f:Addr) (cd:Value) (A:Around) (outer:List Env) (s:Shared) (H:Hp) (E:XK):Cx where
  prog:=P
  w:=w
  K:=K
  mg:=mg
  base:=base
  A:=A.deeper (envOfC qual scope s.heap.objs.size f cd)
  N:=N
  s_0:=s
  H_0:=H
  env:=envOfC qual scope s.heap.objs.size f cd
  outer:=outer
  stack:=envOfC qual scope s.heap.objs.size f cd::outer
  ex:=[]
  calm:=true
  fn:=fun _=>true
  pn:=[]
  xe:=fun e s'=>wpAny (model P w) (A.deeper (envOfC qual scope s.heap.objs.size f cd)) (leaving (envOfC qual scope s.heap.objs.size f cd) e) (fun _ s''=>CX outer H s E e s'') (fun e' s''=>CX outer H s E e' s'') s'
theorem AhF {sc:Scope} {n:Nat} {x:Str} (h:sc.names.lookup x=some .cell):∃ c,(cellsFrom n sc.names []).lookup x=some c:=by
  have q:=PySem.W.cellsFrom_some sc.names n [] (.inl h)
  exact Option.isSome_iff_exists.mp q
theorem Apu {CX:CXT} {P:Program} {w:World} {K:PySem.W.Frag} {mg:Str→Option Value} {base:Heap} {N ps:List Str} {qual:Str} {scope:Scope} {f:Addr} {cd:Value} {A:Around} {outer:List Env} {s s1:Shared} {H:Hp} {E:XK} {us:List Value} {vs:List V}
    (S:A0 N ps scope) (hd:A.handled=none) (e0:Ak5 P w K mg base A outer s H) (hl:vs.length=ps.length) (r:Vals vs us)
    (x:InCallC s s.heap.objs.size (bindL (envOfC qual scope s.heap.objs.size f cd).kindOf (ps.zip us) fun _=>none) (cellsFrom (s.heap.objs.size + 1) scope.names []) (bindC (envOfC qual scope s.heap.objs.size f cd).kindOf (ps.zip us) fun _=>none) s1) :
    Inv (AhO CX P w K mg base N qual scope f cd A outer s H E) [] (start N vs) H s1:=by
  have hpl:ps.length≤N.length:=by have:=congrArg List.length S.pre; rw [List.length_take] at this; omega
  obtain ⟨h1,tk,rfl,hk⟩:=x.done
  have noA:∀ b:Addr,b ∉ (AhO CX P w K mg base N qual scope f cd A outer s H E).ex:=fun b z=>absurd (show b ∈ ([]:List Addr) from z) (by simp)
  refine ⟨⟨e0.mod,S.kind,rfl,rfl,Nat.le_refl _,fun y z c h1 h2=>?_,fun y hy=>?_,fun y c _ h=>?_,fun _=>hd,Around.frames_deeper e0.frames,.inr ⟨rfl,rfl⟩,fun b z=>absurd z (noA b),e0.bs,e0.bsz,fun b _ _=>noA b,fun b z=>absurd z (noA b),e0.XD,e0.frf⟩,
    rfl,e0.bare,Un.kept hk,⟨_,x.toInCall.ns,fun i y v h1 h2 h3=>?_⟩,fun y c h=>⟨_,x.cell y c h⟩,e0.hok.fresh (Nat.le_refl _),fun y c h=>?_,fun p hp=>absurd (show p ∈ ([]:List (Addr × Obj)) from hp) (by simp),e0.hok.kept hk,?_⟩
  · exact name_of_addr x.apart (PySem.mem_of_lookup h1) (PySem.mem_of_lookup h2)
  · have hy:scope.names.lookup y=some .cell∨scope.names.lookup y=some .free:=hy
    rcases hy with hy | hy
    · exact AhF hy
    · exact absurd rfl (S.AvH _ (PySem.mem_of_lookup hy))
  · exact Nat.le_of_lt (x.above y c (PySem.mem_of_lookup h))
  · have hi:i < vs.length:=by
      unfold start at h2
      by_cases hi:i < vs.length
      · exact hi
      · rw [List.getElem?_append_right (by simpa using hi)] at h2
        rw [List.getElem?_replicate] at h2
        split at h2 <;> cases h2
    have ha:vs[i]? = some v:=by
      unfold start at h2
      rw [List.getElem?_append_left (by simpa using hi),List.getElem?_map] at h2
      cases e:vs[i]? with
      | none=>rw [e] at h2; cases h2
      | some a=>rw [e] at h2; cases h2; rfl
    obtain ⟨u,hu,rv⟩:=r.get ha
    have hp:ps[i]? = some y:=by
      rw [← S.pre,List.getElem?_take_of_lt (by omega)]; exact h1
    have ndP:ps.Nodup:=by rw [← S.pre]; exact S.nd.sublist (List.take_sublist _ _)
    refine ⟨u,rv,?_⟩
    rcases S.par y (List.mem_of_getElem? hp) with k | k
    · exact .inl ⟨k,Adu ndP hp hu k⟩
    · obtain ⟨c,e⟩:=AhF (n:=s.heap.objs.size + 1) k
      refine .inr ⟨.inl k,c,e,?_⟩
      have q:=x.cell y c e
      rw [Ads ndP hp hu (by show scope.names.lookup y≠_; rw [k]; decide)] at q
      exact q
  · exact e0.hok.fresh (Nat.le_of_lt (x.above y c (PySem.mem_of_lookup h)))
  · unfold start
    show _=N.length
    rw [List.length_append,List.length_map,List.length_replicate]
    omega
theorem AwQ {CX:CXT} {P:Program} {w:World} {K:PySem.W.Frag} {mg:Str→Option Value} {base:Heap} {k:Nat} {f:Addr} {name qual:Str} {params:Arguments} {body:List Stmt} {scope:Scope} {dV kV doc pm cdv ct oc:Value} {an od:Option Addr}
    {osl:Array (Option Value)} {N ps:List Str} {sp:Sp} (lk:K.lookup f=some ⟨oc,od,.func (PySem.W.fnOf name qual params body scope dV kV doc pm an cdv ct),osl⟩) (hcd:PySem.W.codeIn K cdv qual=true) (S:A0 N ps scope)
    (len:∀ vs H Q E,sp vs H Q E→vs.length=ps.length)
    (hbody:∀ (A:Around) (outer:List Env) (s:Shared) (H:Hp) (vs:List V) (Q:VK) (E:XK),GC k (A.deeper (envOfC qual scope s.heap.objs.size f cdv))→sp vs H Q E →
      ∃ t,PSs (AhO CX P w K mg base N qual scope f cdv A outer s H E) body t∧t { nx:=fun _ H'=>Q .non H',rt:=Q } (start N vs) H) :
    AY P w K mg base CX (k + 1) f (PySem.W.fnOf name qual params body scope dV kV doc pm an cdv ct) ps sp:=by
  refine ⟨len,fun A outer s H args us vs Q E hr e0 hb r hsp=>?_⟩
  have hl:=len _ _ _ _ hsp
  have KX:K.In s.heap:=e0.mod.kin.keeps fun b o e=>(e0.bs b o e).1
  have lim:s.heap.NoLimit:=e0.mod.nolimit.keeps fun b o e=>(e0.bs b o e).1
  have hkind:∀ y ∈ ps.zip us,scope.names.lookup y.1=some .local∨(scope.names.lookup y.1=some .cell∧((cellsFrom (s.heap.objs.size + 1) scope.names []).lookup y.1).isSome=true):=fun ⟨n,v⟩ hy=>by
    rcases S.par n (List.of_mem_zip hy).1 with q | q
    · exact .inl q
    · exact .inr ⟨q,PySem.W.cellsFrom_some _ _ _ (.inl q)⟩
  refine codeAny_call_function hr.depth (KX _ _ lk) rfl S.co S.gen rfl (PySem.W.codeRec_of KX hcd) (hb _ _ _ _ ?_)
  refine wpAny_newFunctionEnv_cells S.kind hkind fun env he s1 x=>?_
  subst he
  refine ⟨lim.keeps x.toInCall.keep,codeAny_func ?_⟩
  obtain ⟨t,ht,hq⟩:=hbody A outer s H vs Q E (hr.deeper _) hsp
  have I:Inv (AhO CX P w K mg base N qual scope f cdv A outer s H E) [] (start N vs) H s1:=Apu S hr.hd e0 hl r x
  refine wpAny_mono (ht [] s1 (start N vs) H _ I hq) (fun fl s' hs=>?_) fun e s' hs=>hs
  have fin:∀ {σ':St} {H':Hp} {v:V} {u:Value},Inv (AhO CX P w K mg base N qual scope f cdv A outer s H E) [] σ' H' s'→RelV v u→Q v H'→CE outer P w H s Q u s' :=
    fun {σ' H' v u} J rv q=>⟨v,H',J.os,J.bare,J.base,J.hok,rv,q⟩
  cases fl with
  | ret u =>
    obtain ⟨v,σ',H',J,rv,q⟩:=hs
    exact fin J rv q
  | next =>
    obtain ⟨σ',H',J,q⟩:=hs
    exact fin (v:=V.non) (u:=Value.none) J rfl q
  | brk =>
    obtain ⟨_,_,_,q⟩:=hs
    exact False.elim q
  | cont =>
    obtain ⟨_,_,_,q⟩:=hs
    exact False.elim q
end L2
namespace L2
open PySem PySem.Spec PyProof.Rows
section
variable {X:Cx} {x:Str} {p pos:Pos} {e:Expr} {es:List Expr} {t:TA} {id T:String} {r:List V→Hp→VK→Prop}
def tCB (r:List V→Hp→VK→Prop) (t:TA):TE:=fun σ H Q=>t σ H fun vs H1=>r vs H1 Q
theorem AS (hc:MO X (.builtin id) r) (hg:Gl X x) (hm:X.mg x=none) (hv:bootBuiltins x=some (.builtin id)) (ha:PA X (e::es) t) (hn:x≠"__name__":=by decide) (hdb:(x == ("__debug__" : Str))=false:=by decide)
    (he:starEach (e::es) X.env=(false,eval e X.env)::starEach es X.env:=by rfl) (hpl:(backTo pos (starEach es X.env)).any (·.1)=false:=by rfl):PE X (.Call (.Name x p) (e::es) [] pos) (tCB r t):=by
  intro pins s σ H Q I h
  refine wpAny_Call_Name_kw (Art I hg hm hv ?_ hn hdb)
  exact PyProof.Rows.callWith_builtin1 (thn (ha pos pins s σ H _ I h) fun us s1 ⟨vs,H1,I1,r1,q1⟩=>hc pins s1 σ H1 vs us Q I1 r1 q1) he hpl
theorem Ju (hc:MO X (.type T) r) (hg:Gl X x) (hm:X.mg x=none) (hv:bootBuiltins x=some (.type T)) (ha:PA X (e::es) t) (hn:x≠"__name__":=by decide) (hdb:(x == ("__debug__" : Str))=false:=by decide)
    (he:starEach (e::es) X.env=(false,eval e X.env)::starEach es X.env:=by rfl) (hpl:(backTo pos (starEach es X.env)).any (·.1)=false:=by rfl):PE X (.Call (.Name x p) (e::es) [] pos) (tCB r t):=by
  intro pins s σ H Q I h
  refine wpAny_Call_Name_kw (Art I hg hm hv ?_ hn hdb)
  exact PyProof.Rows.callWith_type1 (thn (ha pos pins s σ H _ I h) fun us s1 ⟨vs,H1,I1,r1,q1⟩=>hc pins s1 σ H1 vs us Q I1 r1 q1) he hpl
end
end L2
namespace HT
open PySem PyProof.Rows
def lexLt:List Int→List Int→Bool
  | [],[]=>false
  | [],_::_=>true
  | _::_,[]=>false
  | x::xs,y::ys=>if x=y then lexLt xs ys else decide (x < y)
theorem S0 (x y:Int) (xs ys:List Int):lexLt (x::xs) (y::ys)=if x=y then lexLt xs ys else decide (x < y):=rfl
theorem Ada:lexLt [] []=false:=rfl
theorem AaB (y:Int) (ys:List Int):lexLt [] (y::ys)=true:=rfl
theorem AaA (x:Int) (xs:List Int):lexLt (x::xs) []=false:=rfl
theorem AqW (A:Around) (s:Shared) (a:Int) (t:Tok) (c:Int) (u:Tok):∃ e,SeqAt.EqAt A s (.int a t) (.int c u) e∧(e=true↔a=c) :=
  ⟨(a == c),SeqAt.EqAt.int_int a t c u,by simp⟩
section
variable {prog:Program} {w:World} {A:Around} {E:Value→Shared→Prop} {s:Shared}
def sIx (n d:Nat):Option Int→Nat
  | none=>d
  | some v=>if v < 0 then (v + (n:Int)).toNat else min v.toNat n
theorem Aj1 (n d:Nat):sIx n d none=d:=rfl
theorem Je (n d k:Nat):sIx n d (some (k:Int))=min k n:=by
  show (if (k:Int) < 0 then ((k:Int) + (n:Int)).toNat else min (k:Int).toNat n)=min k n
  rw [if_neg (by omega),Int.toNat_natCast]
theorem AvZ (n d:Nat) (hd:d≤n) (o:Option Int):sIx n d o≤n:=by
  cases o with
  | none=>exact hd
  | some v =>
    show (if v < 0 then (v + (n:Int)).toNat else min v.toNat n)≤n
    by_cases hv:v < 0
    · rw [if_pos hv]; omega
    · rw [if_neg hv]; exact Nat.min_le_right _ _
theorem Ae6 (v:Int) (n d:Nat):(if v < 0 then max (v + (n:Int)) 0 else min v (n:Int))=((sIx n d (some v):Nat):Int):=by
  show (if v < 0 then max (v + (n:Int)) 0 else min v (n:Int))=(((if v < 0 then (v + (n:Int)).toNat else min v.toNat n):Nat):Int)
  by_cases hv:v < 0
  · simp only [if_pos hv]; omega
  · simp only [if_neg hv]; omega
theorem AkJ (lo hi:Option Int) (n:Nat):Builtin.Slice.sliceAdjust lo hi 1 (n:Int)=(((sIx n 0 lo:Nat):Int),((sIx n n hi:Nat):Int)):=by
  have h1 : ¬ ((1:Int) < 0):=by omega
  unfold Builtin.Slice.sliceAdjust
  simp only [h1,if_false]
  refine Prod.ext ?_ ?_
  · cases lo with
    | none=>rfl
    | some v=>exact Ae6 v n 0
  · cases hi with
    | none=>rfl
    | some v=>exact Ae6 v n n
theorem Amr (i j:Nat):Builtin.Slice.slicePlaces (i:Int) (j:Int) 1=j - i:=by
  unfold Builtin.Slice.slicePlaces
  have h1:(1:Int) > 0:=by omega
  simp only [h1,if_true,Int.ediv_one]
  split <;> omega
theorem AbH {v:Value} {o:Option Int} {Q:Option Int→Shared→Prop} (p:IsPart v o) (h:Q o s):wpAny (model prog w) A (Builtin.Slice.slicePartIndex v) Q E s:=by
  cases p with
  | none=>exact slicePart_none h
  | int i t=>exact slicePart_int h
theorem LI {sl:Addr} {vl vu:Value} {lo hi:Option Int} {n:Nat} {Q:Int × Int × Nat→Shared→Prop} (hs:s.heap.IsSliceOf sl vl vu .none) (pl:IsPart vl lo) (pu:IsPart vu hi)
    (h:Q (((sIx n 0 lo:Nat):Int),1,sIx n n hi - sIx n 0 lo) s):wpAny (model prog w) A (Builtin.Slice.sliceApplied (.ref sl) (pure (n:Int))) Q E s:=by
  obtain ⟨os,hos,hcs,hds⟩:=id hs
  unfold Builtin.Slice.sliceApplied Builtin.Slice.sliceFields
  refine wpAny_bind (wpAny_bind (wpAny_field hos hds (x:=vl) rfl (wpAny_bind (wpAny_field hos hds (x:=vu) rfl (wpAny_bind (wpAny_field hos hds (x:=.none) rfl (wpAny_pure ?_)))))))
  refine wpAny_bind (slicePart_none ?_)
  show wpAny _ _ (if ((1:Int) == 0)=true then _ else _) _ _ s
  rw [if_neg (by decide)]
  refine wpAny_bind (AbH pl (wpAny_bind (AbH pu (wpAny_bind (wpAny_pure ?_)))))
  show wpAny _ _ (match Builtin.Slice.sliceAdjust lo hi 1 (n:Int) with | (lo,hi)=>pure (lo,(1:Int),Builtin.Slice.slicePlaces lo hi 1)) _ _ s
  rw [AkJ lo hi n]
  show wpAny _ _ (pure (((sIx n 0 lo:Nat):Int),(1:Int),Builtin.Slice.slicePlaces ((sIx n 0 lo:Nat):Int) ((sIx n n hi:Nat):Int) 1)) _ _ s
  rw [Amr]
  exact wpAny_pure h
theorem ArA (xs:Array Value) (i k:Nat):((List.range k).filterMap fun (m:Nat)=>xs[((i:Int) + (m:Int) * 1).toNat]?).toArray=((xs.toList.drop i).take k).toArray:=by
  have e:(fun (m:Nat)=>xs[((i:Int) + (m:Int) * 1).toNat]?)=fun m=>xs[i + m]?:=by
    funext m
    have:((i:Int) + (m:Int) * 1).toNat=i + m:=by omega
    rw [this]
  rw [e]
  have:=pick_run xs i k
  rw [List.filterMap_map] at this
  have e2:((fun x=>xs[x]?) ∘ fun x=>i + x)=fun m=>xs[i + m]?:=rfl
  rw [e2] at this
  rw [this]
theorem U5 {t sl:Addr} {items:Array Value} {vl vu:Value} {lo hi:Option Int} {Q:Value→Shared→Prop} (ht:IsTup s.heap t items) (hs:s.heap.IsSliceOf sl vl vu .none) (pl:IsPart vl lo) (pu:IsPart vu hi)
    (hw : ¬ (sIx items.size 0 lo=0∧sIx items.size items.size hi=items.size))
    (h:Q (.ref s.heap.objs.size) { s with heap:=s.heap.push { cls:=.type "tuple",data:=.seq ((items.toList.drop (sIx items.size 0 lo)).take (sIx items.size items.size hi - sIx items.size 0 lo)).toArray } })
    (hsz:items.size≤sizeLine):wpAny (model prog w) A (getItem (.ref t) (.ref sl)) Q E s:=by
  have htake:sizeOk (.seq ((items.toList.drop (sIx items.size 0 lo)).take (sIx items.size items.size hi - sIx items.size 0 lo)).toArray):=by
    show ((items.toList.drop (sIx items.size 0 lo)).take (sIx items.size items.size hi - sIx items.size 0 lo)).toArray.size≤sizeLine
    rw [List.size_toArray,List.length_take,List.length_drop,Array.length_toList]
    omega
  have hj:sIx items.size items.size hi≤items.size:=AvZ _ _ (Nat.le_refl _) hi
  obtain ⟨os,hos,hcs,hds⟩:=id hs
  have hTs:s.TypeIs (.ref sl) "slice":=⟨os,hos,hcs⟩
  unfold getItem
  try with_reducible refine wpAny_holding ?_
  first | refine wpAny_bind (wpAny_pure ?_) | skip
  refine wpAny_bind (wpAny_sequenceKey ht.typeIs (by decide) ?_)
  refine wpAny_bind (wpAny_callSpecial?_slot (name:=Str.ofString "__getitem__") ht.typeIs PyProof.Rows.slot_tuple_getitem
    (wpAny_call_entry PyProof.Rows.slot_tuple_getitem ht.typeIs entry_tuple_getitem ?_ (args_tuple_getitem _ _)))
  show wpAny _ _ (Builtin.Tuple.tupleItemsOf (.ref t) >>= _) _ _ s
  refine wpAny_bind (tupleItemsOf_ ht ?_)
  refine wpAny_bind (wpAny_typeOf hTs ?_)
  rw [if_pos (by decide)]
  refine wpAny_bind (LI hs pl pu ?_)
  have hno : ¬ ((((sIx items.size 0 lo:Nat):Int) == 0 && (1:Int) == 1 && (sIx items.size items.size hi - sIx items.size 0 lo) == items.size)=true):=by
    intro q
    rw [Bool.and_eq_true,Bool.and_eq_true] at q
    have q1:((sIx items.size 0 lo:Nat):Int)=0:=eq_of_beq q.1.1
    have q2:sIx items.size items.size hi - sIx items.size 0 lo=items.size:=eq_of_beq q.2
    exact hw ⟨by omega,by omega⟩
  show wpAny _ _ (if (((sIx items.size 0 lo:Nat):Int) == 0 && (1:Int) == 1 && (sIx items.size items.size hi - sIx items.size 0 lo) == items.size)=true then _ else _) _ _ s
  rw [if_neg hno,ArA]
  first
    | exact wpAny_bind (m:=Builtin.Tuple.tupleExact _) (wpAny_newObj_type (wpAny_pure ⟨_,rfl,wpAny_pure h⟩) htake)
    | exact wpAny_bind (m:=Builtin.Tuple.tupleExact _) (wpAny_newObj_type (wpAny_bind (wpAny_pure (wpAny_pure ⟨_,rfl,wpAny_pure h⟩))) htake)
    | exact wpAny_bind (wpAny_bind (m:=Builtin.Tuple.tupleExact _) (wpAny_newObj_type (wpAny_pure (wpAny_pure ⟨_,rfl,wpAny_pure h⟩)) htake))
    | exact wpAny_bind (wpAny_bind (m:=Builtin.Tuple.tupleExact _) (wpAny_newObj_type (wpAny_pure ⟨_,rfl,wpAny_pure h⟩) htake))
end
end HT
namespace L2
open PySem PySem.Spec PyProof.Rows
abbrev TO:=St→Hp→(Option Int→Hp→Prop)→Prop
def PO (X:Cx) (e:Option Expr) (t:TO):Prop :=
  ∀ (pins:List (Addr × Obj)) (s:Shared) (σ:St) (H:Hp) (Q:Option Int→Hp→Prop),Inv X pins σ H s→t σ H Q →
    wpAny (model X.prog X.w) X.A (evalPart e X.env) (fun u s'=>∃ o H',Inv X pins σ H' s'∧IsPart u o∧Q o H') X.xe s
def AgM:TO:=fun _ H Q=>Q none H
def As0 (t:TE):TO:=fun σ H Q=>t σ H fun x H1=>∃ i,x=.int i∧Q (some i) H1
theorem intsAre_of {ns:List Int}:∀ {us:List Value},Vals (ns.map V.int) us→IntsAre us ns:=by
  induction ns with
  | nil=>intro us r; rw [List.map_nil] at r; cases r; exact .nil
  | cons n ns ih =>
    intro us r
    rw [List.map_cons] at r
    cases r with
    | cons r1 r2 =>
      obtain ⟨t,e⟩:=r1
      subst e
      exact .cons n t (ih r2)
section
variable {X:Cx} {e:Expr} {te:TE} {lo hi:Option Expr} {tl th:TO} {pos p2:Pos}
theorem Aoo:PO X none AgM:=by
  intro pins s σ H Q I h
  rw [evalPart_none]
  exact wpAny_pure ⟨none,H,I,.none,h⟩
theorem Ie (h:PE X e te):PO X (some e) (As0 te):=by
  intro pins s σ H Q I hw
  rw [evalPart_some]
  refine thn (h pins s σ H _ I hw) fun u s1 ⟨x,H1,I1,r1,q1⟩=>?_
  obtain ⟨i,rfl,q⟩:=q1
  obtain ⟨t,rfl⟩:=r1
  exact ⟨some i,H1,I1,.int i t,q⟩
def SlR (X:Cx) (r:V→Option Int→Option Int→Hp→VK→Prop):Prop :=
  ∀ (pins:List (Addr × Obj)) (s:Shared) (σ:St) (H:Hp) (x:V) (v vl vu:Value) (lo hi:Option Int) (sl:Addr) (Q:VK),Inv X pins σ H s→RelV x v→s.heap.IsSliceOf sl vl vu .none→IsPart vl lo→IsPart vu hi→r x lo hi H Q →
    ∃ T id,typeLookup (.type T) "__getitem__" = pure (some (.builtin id))∧s.TypeIs v T∧wpAny (model X.prog X.w) X.A (getItem v (.ref sl)) (EP X pins σ Q) X.xe s
theorem SlR.or {r r':V→Option Int→Option Int→Hp→VK→Prop} (h:SlR X r) (h':SlR X r'):SlR X (fun x lo hi H Q=>r x lo hi H Q∨r' x lo hi H Q):=by
  intro pins s σ H x v vl vu lo hi sl Q I rx hs pl pu q
  rcases q with q | q
  · exact h pins s σ H x v vl vu lo hi sl Q I rx hs pl pu q
  · exact h' pins s σ H x v vl vu lo hi sl Q I rx hs pl pu q
def tSl (r:V→Option Int→Option Int→Hp→VK→Prop) (te:TE) (tl th:TO):TE:=fun σ H Q=>te σ H fun x H1=>tl σ H1 fun l H2=>th σ H2 fun u H3=>r x l u H3 Q
theorem LD {r:V→Option Int→Option Int→Hp→VK→Prop} (hr:SlR X r) (he:PE X e te) (hl:PO X lo tl) (hu:PO X hi th):PE X (.Subscript e (.Slice lo hi none p2) pos) (tSl r te tl th):=by
  intro pins s σ H Q I h
  refine Subscript_ (thn (he pins s σ H _ I h) fun v s1 ⟨x,H1,I1,r1,q1⟩=>?_)
  refine wpAny_Slice (thn (hl pins s1 σ H1 _ I1 q1) fun vl s2 ⟨l,H2,I2,pl,q2⟩=>thn (hu pins s2 σ H2 _ I2 q2) fun vu s3 ⟨u,H3,I3,pu,q3⟩=>?_)
  rw [evalPart_none]
  refine wpAny_pure ?_
  have I4:Inv X pins σ H3 { s3 with heap:=s3.heap.push { cls:=.type "slice",data:=.fields #[vl,vu,.none] } }:=I3.kept (t':=s3.toks) fun b ob q=>Heap.get?_push_of_some _ q
  obtain ⟨T,id,hT,ht,hg⟩:=hr pins { s3 with heap:=s3.heap.push { cls:=.type "slice",data:=.fields #[vl,vu,.none] } } σ H3 x v vl vu l u s3.heap.objs.size Q I4 r1 (Heap.IsSliceOf.new ..) pl pu q3
  show wpAny (model X.prog X.w) X.A (subscriptTail e (.Slice lo hi none p2) v (.ref s3.heap.objs.size)) (EP X pins σ Q) X.xe { s3 with heap:=s3.heap.push { cls:=.type "slice",data:=.fields #[vl,vu,.none] } }
  exact tail_any (ops:=[.ref s3.heap.objs.size,v]) ht hT hg (by with_unfolding_all rfl)
def RQ (xs:List V) (lo hi:Option Int):List V:=(xs.drop (HT.sIx xs.length 0 lo)).take (HT.sIx xs.length xs.length hi - HT.sIx xs.length 0 lo)
theorem WG (xs:List V) (lo hi:Option Int):(RQ xs lo hi).length≤xs.length:=by
  unfold RQ
  rw [List.length_take,List.length_drop]
  omega
def Aub (K:PySem.W.Frag):V→Option Int→Option Int→Hp→VK→Prop:=fun x lo hi H Q=>∃ a xs,x=.ref a∧SqT K H a xs ∧
  ¬ (HT.sIx xs.length 0 lo=0∧HT.sIx xs.length xs.length hi=xs.length)∧∀ p,H p=none→Q (.ref p) (upd H p (.tup (RQ xs lo hi)))
theorem ArM:SlR X (Aub X.K):=by
  intro pins s σ H x v vl vu lo hi sl Q I rx hs pl pu h
  obtain ⟨a,xs,rfl,hx,hw,q⟩:=h
  cases rx
  obtain ⟨its,r,ht,hz⟩:=I.tuple hx
  have hlen:its.toArray.size=xs.length:=by rw [List.size_toArray]; exact r.length.symm
  refine ⟨"tuple",_,PyProof.Rows.slot_tuple_getitem.lookup,ht.typeIs,?_⟩
  refine HT.U5 ht hs pl pu (by rw [hlen]; exact hw) ?_ (by rw [hlen]; exact hz)
  rw [hlen]
  refine ⟨.ref s.heap.objs.size,_,I.laid (t':=s.toks) (o:=.tup (RQ xs lo hi)) (fun b ob q=>Heap.get?_push_of_some _ q) (Nat.le_refl _) ?_,rfl,q _ (I.hok.fresh (Nat.le_refl _))⟩
  exact ⟨Nat.le_trans (WG xs lo hi) hz,_,(r.drop (HT.sIx xs.length 0 lo)).take (HT.sIx xs.length xs.length hi - HT.sIx xs.length 0 lo),IsTup.new _ _⟩
end
end L2
namespace L2
open PySem PySem.Spec PyProof.Rows
def ixN (n:Nat) (i:Int):Option Nat:=if 0≤i then (if i < n then some i.toNat else none) else if -(n:Int)≤i then some (i + n).toNat else none
def atI {α:Type} (xs:List α) (i:Int):Option α:=(ixN xs.length i).bind fun j=>xs[j]?
theorem Ato {n:Nat} {i:Int} {j:Nat} (h:ixN n i=some j):seqIndex? i n=some j∧j < n∧-(n:Int)≤i∧i < n:=by
  unfold ixN at h
  by_cases h0:0≤i
  · rw [if_pos h0] at h
    by_cases h1:i < n
    · rw [if_pos h1] at h
      have e:i.toNat=j:=Option.some.inj h
      exact ⟨by rw [seqIndex_of h0 h1,e],by omega,by omega,h1⟩
    · rw [if_neg h1] at h; cases h
  · rw [if_neg h0] at h
    by_cases h1 : -(n:Int)≤i
    · rw [if_pos h1] at h
      have e:(i + n).toNat=j:=Option.some.inj h
      exact ⟨by rw [seqIndex_neg (by omega) h1,e],by omega,h1,by omega⟩
    · rw [if_neg h1] at h; cases h
theorem AnO {α:Type} {xs:List α} {i:Int} {v:α} (h:atI xs i=some v):∃ j,seqIndex? i xs.length=some j∧xs[j]? = some v∧j < xs.length∧-(xs.length:Int)≤i∧i < xs.length:=by
  unfold atI at h
  cases e:ixN xs.length i with
  | none=>rw [e] at h; cases h
  | some j =>
    rw [e] at h
    obtain ⟨h1,h2,h3,h4⟩:=Ato e
    exact ⟨j,h1,h,h2,h3,h4⟩
theorem Aeu {α:Type} {xs:List α} {j:Nat} {v:α} (h:xs[j]? = some v):atI xs (j:Int)=some v:=by
  have hj:j < xs.length:=(List.getElem?_eq_some_iff.mp h).1
  have e:ixN xs.length (j:Int)=some j:=by
    unfold ixN
    rw [if_pos (by omega),if_pos (by omega)]; simp
  unfold atI; rw [e]; exact h
theorem AqF {α:Type} (xs:List α) (v:α):atI (xs++[v]) (-1)=some v:=by
  have hl:(xs++[v]).length=xs.length + 1:=by simp
  have e:ixN (xs++[v]).length (-1)=some xs.length:=by
    unfold ixN
    rw [hl,if_neg (by decide),if_pos (by omega)]
    congr 1
    omega
  unfold atI
  rw [e]
  show (xs++[v])[xs.length]? = some v
  simp
def AsJ (b:Expr):Prop:=∀ o i,subscripted b false o i=operate [o,i] (getItem o i)
def IxR (X:Cx) (r:R2):Prop :=
  ∀ (value slice:Expr) (pins:List (Addr × Obj)) (s:Shared) (σ:St) (H:Hp) (x y:V) (v u:Value) (Q:VK),Inv X pins σ H s→RelV x v→RelV y u→r x y H Q →
    subscripted slice false v u=operate [v,u] (getItem v u)→wpAny (model X.prog X.w) X.A (subscriptTail value slice v u) (EP X pins σ Q) X.xe s
def MtR (X:Cx) (id:String) (r:V→List V→Hp→VK→Prop):Prop :=
  ∀ (pins:List (Addr × Obj)) (s:Shared) (σ:St) (H:Hp) (x:V) (xs:List V) (v:Value) (us:List Value) (Q:VK),Inv X pins σ H s→RelV x v→Vals xs us→r x xs H Q →
    wpAny (model X.prog X.w) X.A (call (.builtin id) (v::us)) (EP X pins σ Q) X.xe s
section
variable {X:Cx} {a b:Expr} {ta tb:TE} {pos:Pos}
theorem Ng {r:R2} (hr:IxR X r) (ha:PE X a ta) (hb:PE X b tb) (hs:AsJ b):PE X (.Subscript a b pos) (tOp r ta tb):=by
  intro pins s σ H Q I h
  exact Subscript_ (AuT ha hb I h fun v u s2 x y H2 I2 rx ry q=>hr a b pins s2 σ H2 x y v u Q I2 rx ry q (hs _ _))
def AvU (K:PySem.W.Frag):R2:=fun x y H Q=>∃ p xs i v,x=.ref p∧y=.int i∧SqL K H p xs∧atI xs i=some v∧Q v H
def AtZ (K:PySem.W.Frag):R2:=fun x y H Q=>∃ p xs i v,x=.ref p∧y=.int i∧SqT K H p xs∧atI xs i=some v∧Q v H
theorem Kr:IxR X (AvU X.K):=by
  intro value slice pins s σ H x y v u Q I rx ry h hs
  obtain ⟨p,xs,i,z,rfl,rfl,hq,he,q⟩:=h
  cases rx
  obtain ⟨t,rfl⟩:=ry
  obtain ⟨its,r,pl,hz⟩:=I.list hq
  obtain ⟨j,h1,h2,h3,h4,h5⟩:=AnO he
  obtain ⟨w,ew,rw'⟩:=r.get h2
  have hl:=r.length
  have hn:=AlO
  have fin:EP X pins σ Q w s:=⟨z,H,I,rw',q⟩
  by_cases h0:0≤i
  · have hj:i.toNat=j:=by
      rw [seqIndex_of h0 h5] at h1
      exact Option.some.inj h1
    exact item_listR pl.isList h0 (by omega) (by rw [hj]; simpa using ew) fin hs
  · have hj:(i + (its.toArray.size:Int)).toNat=j:=by
      rw [seqIndex_neg (by omega) h4] at h1
      rw [List.size_toArray,← hl]
      exact Option.some.inj h1
    exact subscriptTail_builtinR (x:=w) pl.isList.typeIs slot_list_getitem.lookup
      (wpAny_getItem_list_neg (Q:=fun r s'=>r=w∧EP X pins σ Q r s') pl.isList (by omega) (by rw [List.size_toArray] <;> omega) (by omega) (by rw [hj]; simpa using ew) ⟨rfl,fin⟩) hs
theorem Afp:IxR X (AtZ X.K):=by
  intro value slice pins s σ H x y v u Q I rx ry h hs
  obtain ⟨p,xs,i,z,rfl,rfl,hq,he,q⟩:=h
  cases rx
  obtain ⟨t,rfl⟩:=ry
  obtain ⟨its,r,pl,hz⟩:=I.tuple hq
  obtain ⟨j,h1,h2,h3,h4,h5⟩:=AnO he
  obtain ⟨w,ew,rw'⟩:=r.get h2
  have hl:=r.length
  have hn:=AlO
  have fin:EP X pins σ Q w s:=⟨z,H,I,rw',q⟩
  exact subscriptTail_builtinR (x:=w) pl.typeIs slot_tuple_getitem.lookup
    (getItem_tuple (j:=j) (Q:=fun r s'=>r=w∧EP X pins σ Q r s') pl (by omega) (by omega) (by rw [List.size_toArray,← hl]; exact h1) (by simpa using ew) ⟨rfl,fin⟩) hs
theorem AgD (lo hi:Option Int) (n:Nat):(sliceBounds lo hi none n).1=((HT.sIx n 0 lo:Nat):Int)∧(sliceBounds lo hi none n).2.1=((HT.sIx n n hi:Nat):Int)∧(sliceBounds lo hi none n).2.2=1:=by
  refine ⟨?_,?_,rfl⟩
  · cases lo with
    | none=>simp [sliceBounds,HT.sIx]
    | some i =>
      simp only [sliceBounds,HT.sIx,Option.getD_none,show (1:Int) > 0 by decide,if_true]
      by_cases h:i < 0
      · simp only [h,if_true] <;> omega
      · simp only [h,if_false] <;> omega
  · cases hi with
    | none=>simp [sliceBounds,HT.sIx]
    | some i =>
      simp only [sliceBounds,HT.sIx,Option.getD_none,show (1:Int) > 0 by decide,if_true]
      by_cases h:i < 0
      · simp only [h,if_true] <;> omega
      · simp only [h,if_false] <;> omega
theorem Adl (its:List Value) (lo hi:Option Int):slicePick its.toArray lo hi none=((its.drop (HT.sIx its.length 0 lo)).take (HT.sIx its.length its.length hi - HT.sIx its.length 0 lo)).toArray:=by
  obtain ⟨h1,h2,h3⟩:=AgD lo hi its.toArray.size
  unfold slicePick
  rw [h1,h2,h3]
  simp only [sliceRange_one,pick_run,List.size_toArray] <;> rfl
def AvW (K:PySem.W.Frag):V→Option Int→Option Int→Hp→VK→Prop:=fun x lo hi H Q=>∃ a xs,x=.ref a∧SqL K H a xs∧∀ p,H p=none→Q (.ref p) (upd H p (.lst (RQ xs lo hi)))
theorem YJ:SlR X (AvW X.K):=by
  intro pins s σ H x v vl vu lo hi sl Q I rx hs pl pu h
  obtain ⟨a,xs,rfl,hx,q⟩:=h
  cases rx
  obtain ⟨its,r,ht,hz⟩:=I.list hx
  have hlen:=r.length
  refine ⟨"list",_,slot_list_getitem.lookup,ht.isList.typeIs,?_⟩
  refine wpAny_getItem_list_slice ht.isList hs pl pu .none (by simp) ?_ (by rw [List.size_toArray] <;> omega)
  rw [Adl,← hlen]
  refine ⟨.ref s.heap.objs.size,_,I.laid (t':=s.toks) (o:=.lst (RQ xs lo hi)) (fun b ob q=>Heap.get?_push_of_some _ q) (Nat.le_refl _) ?_,rfl,q _ (I.hok.fresh (Nat.le_refl _))⟩
  exact ⟨Nat.le_trans (WG xs lo hi) hz,_,0,(r.drop (HT.sIx xs.length 0 lo)).take (HT.sIx xs.length xs.length hi - HT.sIx xs.length 0 lo),Heap.get?_push_size _ rfl⟩
def Kq:V→Bool
  | .non=>true
  | .bl _=>true
  | .int _=>true
  | .str _=>true
  | _=>false
def eqV:V→V→Bool
  | .non,.non=>true
  | .bl a,.bl b=>a == b
  | .bl a,.int b=>(if a then 1 else 0) == b
  | .int a,.bl b=>a == (if b then 1 else 0)
  | .int a,.int b=>a == b
  | .str a,.str b=>a == b
  | _,_=>false
theorem AuY {A:Around} {s:Shared} {y x:V} {u v:Value} (ry:RelV y u) (rx:RelV x v) (fy:Kq y=true) (fx:Kq x=true):SeqAt.EqAt A s u v (eqV y x):=by
  cases y with
  | non =>
    cases ry
    cases x with
    | non=>cases rx; exact SeqAt.EqAt.same _
    | bl b=>cases rx; exact SeqAt.EqAt.none_bool b
    | int b=>obtain ⟨t,rfl⟩:=rx; exact SeqAt.EqAt.none_int b t
    | str b=>obtain ⟨t,rfl⟩:=rx; exact SeqAt.EqAt.none_str b t
    | _=>exact absurd (show false=true from fx) Bool.false_ne_true
  | bl a =>
    cases ry
    cases x with
    | non=>cases rx; exact SeqAt.EqAt.bool_none a
    | bl b=>cases rx; exact SeqAt.EqAt.bool_bool a b
    | int b=>obtain ⟨t,rfl⟩:=rx; exact SeqAt.EqAt.bool_int a b t
    | str b=>obtain ⟨t,rfl⟩:=rx; exact SeqAt.EqAt.bool_str a b t
    | _=>exact absurd (show false=true from fx) Bool.false_ne_true
  | int a =>
    obtain ⟨t',rfl⟩:=ry
    cases x with
    | non=>cases rx; exact SeqAt.EqAt.int_none a t'
    | bl b=>cases rx; exact SeqAt.EqAt.int_bool a t' b
    | int b=>obtain ⟨t,rfl⟩:=rx; exact SeqAt.EqAt.int_int a t' b t
    | str b=>obtain ⟨t,rfl⟩:=rx; exact SeqAt.EqAt.int_str a t' b t
    | _=>exact absurd (show false=true from fx) Bool.false_ne_true
  | str a =>
    obtain ⟨t',rfl⟩:=ry
    cases x with
    | non=>cases rx; exact SeqAt.EqAt.str_none a t'
    | bl b=>cases rx; exact SeqAt.EqAt.str_bool a t' b
    | int b=>obtain ⟨t,rfl⟩:=rx; exact SeqAt.EqAt.str_int a t' b t
    | str b=>obtain ⟨t,rfl⟩:=rx; exact SeqAt.EqAt.str_str a t' b t
    | _=>exact absurd (show false=true from fx) Bool.false_ne_true
  | _=>exact absurd (show false=true from fy) Bool.false_ne_true
def eqU (x:V) (u:Value):Bool:=match u with
  | .none=>eqV .non x
  | .bool b=>eqV (.bl b) x
  | .int i _=>eqV (.int i) x
  | .str z _=>eqV (.str z) x
  | _=>false
theorem AqX {x y:V} {u:Value} (r:RelV y u) (f:Kq y=true):eqU x u=eqV y x:=by
  cases y with
  | non=>cases r; rfl
  | bl b=>cases r; rfl
  | int i=>obtain ⟨t,rfl⟩:=r; rfl
  | str z=>obtain ⟨t,rfl⟩:=r; rfl
  | _=>exact absurd (show false=true from f) Bool.false_ne_true
theorem Ua {x:V}:∀ {xs:List V} {us:List Value},Vals xs us→xs.all Kq=true→us.any (eqU x)=xs.any fun y=>eqV y x
  | _,_,.nil,_=>rfl
  | y::xs,u::us,.cons r t,f=>by
    rw [List.all_cons,Bool.and_eq_true] at f
    rw [List.any_cons,List.any_cons,AqX r f.1,Ua t f.2]
theorem Po {A:Around} {s:Shared} {x:V} {v:Value} (rx:RelV x v) (fx:Kq x=true):∀ {xs:List V} {us:List Value},Vals xs us→xs.all Kq=true→∀ u ∈ us,SeqAt.EqAt A s u v (eqU x u)
  | _,_,.nil,_=>fun u hu=>by cases hu
  | y::xs,u::us,.cons r t,f=>fun u' hu=>by
    rw [List.all_cons,Bool.and_eq_true] at f
    rcases List.mem_cons.mp hu with rfl | hu
    · rw [AqX r f.1]; exact AuY r rx f.1 fx
    · exact Po rx fx t f.2 u' hu
def inV (x:V) (xs:List V):Bool:=xs.any fun y=>eqV y x
def rIn (K:PySem.W.Frag) (neg:Bool):R2:=fun x y H Q=>∃ p xs,y=.ref p∧(SqL K H p xs∨SqT K H p xs)∧Kq x=true∧xs.all Kq=true∧Q (.bl (if neg then !inV x xs else inV x xs)) H
theorem Qt:OpR X (compareOp .In) (rIn X.K false):=by
  intro pins s σ H x y v u Q I rx ry h
  obtain ⟨p,xs,rfl,hq,fx,fs,q⟩:=h
  cases ry
  rcases hq with hq | hq
  · obtain ⟨its,r,pl,hz⟩:=I.list hq
    refine SeqAt.in_listAt (eqU x) pl.isList (fun w hw=>Po rx fx r fs w (by simpa using hw)) ⟨.bl _,H,I,rfl,?_⟩
    rw [show its.toArray.any (eqU x)=its.any (eqU x) by simp,Ua r fs]
    exact q
  · obtain ⟨its,r,pl,hz⟩:=I.tuple hq
    refine SeqAt.in_tupleAt (eqU x) pl (fun w hw=>Po rx fx r fs w (by simpa using hw)) ⟨.bl _,H,I,rfl,?_⟩
    rw [show its.toArray.any (eqU x)=its.any (eqU x) by simp,Ua r fs]
    exact q
theorem Agc:OpR X (compareOp .NotIn) (rIn X.K true):=by
  intro pins s σ H x y v u Q I rx ry h
  obtain ⟨p,xs,rfl,hq,fx,fs,q⟩:=h
  cases ry
  rcases hq with hq | hq
  · obtain ⟨its,r,pl,hz⟩:=I.list hq
    refine SeqAt.notIn_listAt (eqU x) pl.isList (fun w hw=>Po rx fx r fs w (by simpa using hw)) ⟨.bl _,H,I,rfl,?_⟩
    rw [show its.toArray.any (eqU x)=its.any (eqU x) by simp,Ua r fs]
    exact q
  · obtain ⟨its,r,pl,hz⟩:=I.tuple hq
    refine SeqAt.notIn_tupleAt (eqU x) pl (fun w hw=>Po rx fx r fs w (by simpa using hw)) ⟨.bl _,H,I,rfl,?_⟩
    rw [show its.toArray.any (eqU x)=its.any (eqU x) by simp,Ua r fs]
    exact q
theorem AI:MO X (.builtin "len") (fun xs H Q=>∃ p ys,xs=[.ref p]∧(SqL X.K H p ys∨SqT X.K H p ys)∧Q (.int ys.length) H):=by
  intro pins s σ H xs us Q I r h
  obtain ⟨p,ys,rfl,hq,q⟩:=h
  obtain ⟨u,rfl,rx⟩:=vals1 r
  cases rx
  have hn:=AlO
  rcases hq with hq | hq
  · obtain ⟨its,r',pl,hz⟩:=I.list hq
    have hlen:=r'.length
    exact Calls.call_len_list pl.isList (by simp only [List.size_toArray] <;> omega) ⟨.int ys.length,H,I.tok _,⟨s.toks + 1,by rw [List.size_toArray,hlen]⟩,q⟩
  · obtain ⟨its,r',pl,hz⟩:=I.tuple hq
    have hlen:=r'.length
    exact len_tuple pl (by simp only [List.size_toArray] <;> omega) ⟨.int ys.length,H,I.tok _,⟨s.toks + 1,by rw [List.size_toArray,hlen]⟩,q⟩
theorem Ma:MO X (.type "list") (fun xs H Q=>∃ p ys,xs=[.ref p]∧(SqL X.K H p ys∨SqT X.K H p ys)∧∀ l,H l=none→Q (.ref l) (upd H l (.lst ys))):=by
  intro pins s σ H xs us Q I r h
  obtain ⟨p,ys,rfl,hq,q⟩:=h
  obtain ⟨u,rfl,rx⟩:=vals1 r
  cases rx
  have fin:∀ (its:List Value),Vals ys its→ys.length≤sizeLine→∀ (h':Heap) (c':Nat),(∀ b o',s.heap.get? b=some o'→h'.get? b=some o') →
      h'.get? s.heap.objs.size=some { cls:=.type "list",dict:=none,data:=.seq its.toArray c',slots:=#[] }→EP X pins σ Q (.ref s.heap.objs.size) { s with heap:=h' }:=fun its r' hz h' c' kp e =>
    ⟨.ref s.heap.objs.size,_,I.laid (t':=s.toks) kp (Nat.le_refl _) (show DK X.prog X.w _ h' _ (.lst ys) from ⟨hz,its,c',r',e⟩),rfl,q _ (I.hok.fresh (Nat.le_refl _))⟩
  rcases hq with hq | hq
  · obtain ⟨its,r',pl,hz⟩:=I.list hq
    have hlen:=r'.length
    obtain ⟨o,ho,hc,n,hd⟩:=pl.isList
    exact call_list_seq p (.inl rfl) ho hc hd (fun h' c' kp e=>fin its r' hz h' c' kp e) (by simp only [List.size_toArray] <;> omega)
  · obtain ⟨its,r',pl,hz⟩:=I.tuple hq
    have hlen:=r'.length
    obtain ⟨o,ho,hc,n,hd⟩:=pl
    exact call_list_seq p (.inr rfl) ho hc hd (fun h' c' kp e=>fin its r' hz h' c' kp e) (by simp only [List.size_toArray] <;> omega)
theorem KQ:MO X (.type "tuple") (fun xs H Q=>∃ p ys,xs=[.ref p]∧((SqL X.K H p ys∧∀ l,H l=none→Q (.ref l) (upd H l (.tup ys)))∨(SqT X.K H p ys∧Q (.ref p) H))):=by
  intro pins s σ H xs us Q I r h
  obtain ⟨p,ys,rfl,h⟩:=h
  obtain ⟨u,rfl,rx⟩:=vals1 r
  cases rx
  rcases h with ⟨hq,q⟩ | ⟨hq,q⟩
  · obtain ⟨its,r',pl,hz⟩:=I.list hq
    have hlen:=r'.length
    refine call_tuple_list pl.isList (fun h' kp=>?_) (by simp only [List.size_toArray] <;> omega)
    have I1:Inv X pins σ H { s with heap:=h' }:=I.kept (t':=s.toks) kp
    have I2:Inv X pins σ (upd H h'.objs.size (.tup ys)) { s with heap:=h'.push { cls:=.type "tuple",data:=.seq its.toArray } } :=
      I1.laid (t':=s.toks) (fun b o e=>Heap.get?_push_of_some _ e) (Nat.le_refl _) (show DK X.prog X.w _ _ _ (.tup ys) from ⟨hz,its,r',IsTup.new _ _⟩)
    exact ⟨.ref h'.objs.size,_,I2,rfl,q _ (I1.hok.fresh (Nat.le_refl _))⟩
  · obtain ⟨its,r',pl,hz⟩:=I.tuple hq
    exact call_tuple_same pl ⟨.ref p,H,I,rfl,q⟩
def tyV (K:PySem.W.Frag) (T:String) (x:V) (H:Hp):Prop:=match x with
  | .str _=>T = "str"
  | .int _=>T = "int"
  | .ref p=>(T = "list"∧∃ xs,SqL K H p xs)∨(T = "tuple"∧∃ o,K.lookup p=some o∧o.cls=.type "tuple"∧o.dict=none) ∨
      (T = "dict"∧((∃ kvs,H p=some (.dK kvs))∨∃ kvs,H p=some (.dT kvs)))∨(T = "set"∧∃ S n,H p=some (.set S n))
  | _=>False
theorem As4 {pins:List (Addr × Obj)} {σ:St} {H:Hp} {s:Shared} {T:String} {x:V} {v:Value} (I:Inv X pins σ H s) (r:RelV x v) (ty:tyV X.K T x H) :
    s.TypeIs v T∧∀ a,v=.ref a→∃ ob,s.heap.get? a=some ob∧ob.dict=none:=by
  cases x with
  | str z =>
    obtain ⟨t,rfl⟩:=r
    cases (show T = "str" from ty)
    exact ⟨typeIs_str s z t,fun _ e=>nomatch e⟩
  | int i =>
    obtain ⟨t,rfl⟩:=r
    cases (show T = "int" from ty)
    exact ⟨typeIs_int s i t,fun _ e=>nomatch e⟩
  | ref p =>
    cases r
    rcases ty with ⟨rfl,xs,hq⟩ | ⟨rfl,o,hk,hc,hd⟩ | ⟨rfl,hk⟩ | ⟨rfl,S,n,hk⟩
    · obtain ⟨its,_,pl,_⟩:=I.list hq
      refine ⟨pl.isList.typeIs,fun a e=>?_⟩
      cases e
      obtain ⟨o,n,e,c,hd,_⟩:=pl
      exact ⟨o,e,hd⟩
    · refine ⟨⟨o,I.kIn p o hk,hc⟩,fun a e=>?_⟩
      cases e
      exact ⟨o,I.kIn _ o hk,hd⟩
    · have z:∃ o,s.heap.get? p=some o∧o.ExactDict:=by
        rcases hk with ⟨kvs,hk⟩ | ⟨kvs,hk⟩
        · obtain ⟨_,_,_,_,o,_,_,e,ex,_⟩:=I.hok p _ hk
          exact ⟨o,e,ex⟩
        · obtain ⟨_,_,_,_,o,_,_,e,ex,_⟩:=I.hok p _ hk
          exact ⟨o,e,ex⟩
      obtain ⟨o,e,ex⟩:=z
      refine ⟨⟨o,e,ex.1⟩,fun a e2=>?_⟩
      cases e2
      exact ⟨o,e,ex.2.1⟩
    · obtain ⟨o,_,_,_,e,ex,_⟩:=I.hok p _ hk
      refine ⟨⟨o,e,ex.1⟩,fun a e2=>?_⟩
      cases e2
      exact ⟨o,e,ex.2.1⟩
  | _=>exact False.elim ty
def Awm (K:PySem.W.Frag) (T:String) (r:V→List V→Hp→VK→Prop) (to:TE):TE:=fun σ H Q=>to σ H fun x H1=>tyV K T x H1∧r x [] H1 Q
def tBM (K:PySem.W.Frag) (T:String) (r:V→List V→Hp→VK→Prop) (to:TE) (t:TA):TE:=fun σ H Q=>to σ H fun x H1=>tyV K T x H1∧t σ H1 fun xs H2=>r x xs H2 Q
variable {o e:Expr} {es:List Expr} {to:TE} {t:TA} {name:Str} {apos cpos:Pos} {T id:String} {r:V→List V→Hp→VK→Prop}
theorem AvL (pa:PlainAttrs T) (slot:Slot T name id) (hty:typeOf (.builtin id)=pure (.type "method_descriptor")) (hm:MtR X id r) (ho:PE X o to)
    (hbase:attributeBase o name X.env (eval o X.env)=eval o X.env:=by rfl) (hline:(apos.endLine == cpos.line)=true:=by rfl):PE X (.Call (.Attribute o name apos) [] [] cpos) (Awm X.K T r to):=by
  intro pins s σ H Q I h
  refine wpAny_Call_method0_late hbase hline (thn (ho pins s σ H _ I h) fun v s1 ⟨x,H1,I1,r1,ty,q1⟩=>?_)
  obtain ⟨h1,h2⟩:=As4 I1 r1 ty
  exact ⟨T,id,pa,slot,hty,h1,h2,Calls.callWith_builtin rfl (PySem.evalArgs_none (hm pins s1 σ H1 x [] v [] Q I1 r1 .nil q1))⟩
theorem Gz (pa:PlainAttrs T) (slot:Slot T name id) (hty:typeOf (.builtin id)=pure (.type "method_descriptor")) (hm:MtR X id r) (ho:PE X o to) (ha:PA X (e::es) t)
    (hbase:attributeBase o name X.env (eval o X.env)=eval o X.env:=by rfl)
    (hfew:((backTo cpos (starEach (e::es) X.env)).all (fun x=>!x.1) && (backToKw cpos (keywordEach [] X.env)).all (fun x=>x.1.isSome)
      && decide ((e::es).length + ([]:List Keyword).length + (if ([]:List Keyword).isEmpty then 0 else 1) < 30))=true:=by rfl)
    (hline:(apos.endLine == cpos.line)=true:=by rfl) (hs:starEach (e::es) X.env=(false,eval e X.env)::starEach es X.env:=by rfl) (hplain:(backTo cpos (starEach es X.env)).any (·.1)=false:=by rfl) :
    PE X (.Call (.Attribute o name apos) (e::es) [] cpos) (tBM X.K T r to t):=by
  intro pins s σ H Q I h
  refine wpAny_Call_method_late hbase hfew hline rfl (thn (ho pins s σ H _ I h) fun v s1 ⟨x,H1,I1,r1,ty,q1⟩=>?_)
  obtain ⟨h1,h2⟩:=As4 I1 r1 ty
  refine ⟨T,id,pa,slot,hty,h1,h2,?_⟩
  have hA:=ha cpos pins s1 σ H1 _ I1 q1
  rw [hs] at hA ⊢
  refine Calls.callWith_builtin (by show (false || (backTo cpos (starEach es X.env)).any (·.1))=false; rw [hplain] <;> rfl) (Calls.evalArgs_plain ?_)
  exact thn hA fun us s2 ⟨vs,H2,I2,r2,q2⟩=>hm pins s2 σ H2 x vs v us Q I2 r1 r2 q2
end
end L2
namespace L2
open PySem PySem.Spec PyProof.Rows
def MtM (X:Cx) (id:String) (r:V→List V→Hp→VK→Prop):Prop :=
  ∀ (pins:List (Addr × Obj)) (s:Shared) (σ:St) (H:Hp) (x:V) (xs:List V) (v:Value) (us:List Value) (Q:VK),Inv X pins σ H s→RelV x v→Vals xs us→r x xs H Q →
    wpAny (model X.prog X.w) X.A (call (.builtin id) (v::us)) (EP X pins σ Q) X.xe s
theorem Vals.one:∀ {x:V} {us:List Value},Vals [x] us→∃ u,us=[u]∧RelV x u
  | _,_,.cons r .nil=>⟨_,rfl,r⟩
theorem Vals.zero:∀ {us:List Value},Vals [] us→us=[]
  | _,.nil=>rfl
theorem Vals.reverse {xs:List V} {us:List Value} (h:Vals xs us):Vals xs.reverse us.reverse:=by
  induction h with
  | nil=>exact .nil
  | cons r t ih=>rw [List.reverse_cons,List.reverse_cons]; exact Vals.append ih (.cons r .nil)
theorem Vals.rep {xs:List V} {us:List Value} (h:Vals xs us):∀ k:Nat,Vals (List.replicate k xs).flatten (List.replicate k us).flatten
  | 0=>.nil
  | k + 1=>by
    rw [List.replicate_succ,List.replicate_succ,List.flatten_cons,List.flatten_cons]
    exact Vals.append h (Vals.rep h k)
theorem foldl_rep (its:List Value):∀ (k:Nat) (acc:List Value),
    List.foldl (fun x1 x2=>x1++x2) acc.toArray (List.replicate k its.toArray)=(acc++(List.replicate k its).flatten).toArray
  | 0,acc=>by simp
  | k + 1,acc=>by
    have e:acc.toArray++its.toArray=(acc++its).toArray:=by simp
    have e2:(acc++its)++(List.replicate k its).flatten=acc++(List.replicate (k + 1) its).flatten:=by
      rw [List.replicate_succ,List.flatten_cons,List.append_assoc]
    rw [← e2,← foldl_rep its k (acc++its),← e,List.replicate_succ,List.foldl_cons]
section
variable {X:Cx} {pins:List (Addr × Obj)} {σ:St} {H:Hp} {s:Shared} {l b:Addr} {xs ys zs:List V}
theorem Inv.At5 {its its':List Value} {n:Nat} {f:Array Value→Array Value} {t':Nat} (I:Inv X pins σ H s) (hH:H l=some (.lst xs))
    (e:s.heap.get? l=some { cls:=.type "list",data:=.seq its.toArray n }) (hf:f its.toArray=its'.toArray) (hv:Vals ys its') (hz:ys.length≤sizeLine) :
    Inv X pins σ (upd H l (.lst ys)) { s with heap:=s.heap.update l (Obj.mapSeq f),toks:=t' }:=by
  have q:=PySem.IsL.update e f
  rw [hf] at q
  refine I.write (x:=l) (e:=l) (by rw [hH]; exact trivial) (.inl rfl) (fun b' u hb hu=>(Heap.get?_update_other s.heap (Obj.mapSeq f) (Ne.symm hb)).trans hu) ⟨_,q⟩ ?_
  exact ⟨hz,its',_,hv,q⟩
theorem Inv.AwW {its:List Value} {t':Nat} (I:Inv X pins σ H s) (hv:Vals ys its) (hz:ys.length≤sizeLine) :
    Inv X pins σ (upd H s.heap.objs.size (.lst ys)) { s with heap:=s.heap.push { cls:=.type "list",data:=.seq its.toArray },toks:=t' } :=
  I.laid (fun _ _ q=>Heap.get?_push_of_some _ q) (Nat.le_refl _) ⟨hz,its,0,hv,Heap.get?_push_size _ rfl⟩
theorem Inv.fresh (I:Inv X pins σ H s):H s.heap.objs.size=none:=I.hok.fresh (Nat.le_refl _)
theorem Inv.AiN (I:Inv X pins σ H s) (hH:H l=some (.lst xs)):xs.length≤sizeLine∧∃ (its:List Value) (n:Nat),Vals xs its∧xs.length=its.length∧s.heap.get? l=some { cls:=.type "list",data:=.seq its.toArray n }:=by
  obtain ⟨z,its,n,r,e⟩:=I.hok l _ hH
  exact ⟨z,its,n,r,r.length,e⟩
theorem AaG {n:Nat} (h:n≤sizeLine):Builtin.List.listTooLong n=false:=by
  unfold Builtin.List.listTooLong
  exact decide_eq_false (by omega)
end
section
variable {X:Cx}
def Agu:V→List V→Hp→VK→Prop:=fun x vs H Q=>∃ l xs y,x=.ref l∧vs=[y]∧H l=some (.lst xs)∧xs.length < sizeLine∧Q .non (upd H l (.lst (xs++[y])))
theorem Fv:MtM X "list.append" Agu:=by
  intro pins s σ H x vs v us Q I rx rv h
  obtain ⟨l,xs,y,rfl,rfl,hH,hz,q⟩:=h
  cases rx
  obtain ⟨u,rfl,ru⟩:=rv.one
  obtain ⟨z,its,n,r,hl,e⟩:=I.AiN hH
  refine call_meets F.slot_list_append ⟨_,e,rfl⟩ F.entry_list_append (F.args_list_append_2 _ _) (PySem.list_append l its.toArray n u (by rw [List.size_toArray]; omega)) ⟨e,?_⟩
  refine ⟨.non,_,I.At5 (its':=its++[u]) hH e (by simp) (r.append (.cons ru .nil)) ?_,rfl,q⟩
  rw [List.length_append,List.length_singleton]
  omega
def Agv:V→List V→Hp→VK→Prop:=fun x vs H Q=>∃ l b xs zs,x=.ref l∧vs=[.ref b]∧H l=some (.lst xs)∧H b=some (.lst zs)∧xs.length + zs.length≤sizeLine∧Q .non (upd H l (.lst (xs++zs)))
theorem Gx:MtM X "list.extend" Agv:=by
  intro pins s σ H x vs v us Q I rx rv h
  obtain ⟨l,b,xs,zs,rfl,rfl,hH,hB,hz,q⟩:=h
  cases rx
  obtain ⟨u,rfl,ru⟩:=rv.one
  cases ru
  obtain ⟨z,its,n,r,hl,e⟩:=I.AiN hH
  obtain ⟨z2,its2,n2,r2,hl2,e2⟩:=I.AiN hB
  have hsz:its.toArray.size + its2.toArray.size≤sizeLine:=by rw [List.size_toArray,List.size_toArray]; omega
  have hlong : ¬ (!its.toArray.isEmpty && Builtin.List.listTooLong (its.toArray.size + its2.toArray.size))=true:=by
    rw [AaG hsz,Bool.and_false]
    exact Bool.false_ne_true
  refine call_meets F.slot_list_extend ⟨_,e,rfl⟩ F.entry_list_extend (F.args_list_extend_2 _ _)
    (AutoSeq1.list_extend_list_list_0 l its.toArray n b its2.toArray n2 hlong (by rw [List.size_toArray]; omega) (by omega)) ⟨e,e2,?_⟩
  refine ⟨.non,_,I.At5 (its':=its++its2) hH e (by simp) (r.append r2) ?_,rfl,q⟩
  rw [List.length_append]
  omega
def Ab0:V→List V→Hp→VK→Prop:=fun x vs H Q=>∃ l xs,x=.ref l∧vs=[]∧H l=some (.lst xs)∧Q .non (upd H l (.lst xs.reverse))
theorem AlU:MtM X "list.reverse" Ab0:=by
  intro pins s σ H x vs v us Q I rx rv h
  obtain ⟨l,xs,rfl,rfl,hH,q⟩:=h
  cases rx
  have hus:=rv.zero
  subst hus
  obtain ⟨z,its,n,r,hl,e⟩:=I.AiN hH
  refine call_meets F.slot_list_reverse ⟨_,e,rfl⟩ F.entry_list_reverse (F.args_list_reverse_1 _) (AutoSeq1.list_reverse_list_0 l its.toArray n (by rw [List.size_toArray]; omega)) ⟨e,?_⟩
  refine ⟨.non,_,I.At5 (its':=its.reverse) hH e (by simp) r.reverse ?_,rfl,q⟩
  rw [List.length_reverse]
  omega
def AvR:R2:=fun x y H Q=>∃ l b xs zs,x=.ref l∧y=.ref b∧H l=some (.lst xs)∧H b=some (.lst zs)∧xs.length + zs.length≤sizeLine∧∀ p,H p=none→Q (.ref p) (upd H p (.lst (xs++zs)))
theorem Wm:OpR X (binaryOp .Add) AvR:=by
  intro pins s σ H x y v u Q I rx ry h
  obtain ⟨l,b,xs,zs,rfl,rfl,hH,hB,hz,q⟩:=h
  cases rx
  cases ry
  obtain ⟨z,its,n,r,hl,e⟩:=I.AiN hH
  obtain ⟨z2,its2,n2,r2,hl2,e2⟩:=I.AiN hB
  refine PySem.P.add_list e e2 ?_ (by rw [List.size_toArray,List.size_toArray]; omega)
  have ea:its.toArray++its2.toArray=(its++its2).toArray:=by simp
  rw [ea]
  exact ⟨.ref _,_,I.AwW (t':=s.toks) (r.append r2) (by rw [List.length_append]; omega),rfl,q _ I.fresh⟩
def AvV:R2:=fun x y H Q=>∃ l k xs,x=.ref l∧y=.int k∧H l=some (.lst xs)∧-(2 ^ 63)≤k∧k < 2 ^ 63∧xs.length * k.toNat≤sizeLine ∧
  ∀ p,H p=none→Q (.ref p) (upd H p (.lst (List.replicate k.toNat xs).flatten))
theorem len_rep {α:Type} (xs:List α) (k:Nat):(List.replicate k xs).flatten.length=k * xs.length:=by
  induction k with
  | zero=>simp
  | succ k ih=>rw [List.replicate_succ,List.flatten_cons,List.length_append,ih,Nat.succ_mul,Nat.add_comm]
theorem Ar4:OpR X (binaryOp .Mult) AvV:=by
  intro pins s σ H x y v u Q I rx ry h
  obtain ⟨l,k,xs,rfl,rfl,hH,h1,h2,hz,q⟩:=h
  cases rx
  obtain ⟨t,rfl⟩:=ry
  obtain ⟨z,its,n,r,hl,e⟩:=I.AiN hH
  have hlen:its.toArray.size * k.toNat≤sizeLine:=by rw [List.size_toArray,← hl]; exact hz
  have hcap : ¬ its.toArray.size * k.toNat > (2 ^ 63 - 1) / 8:=by
    have:(sizeLine:Nat)≤(2 ^ 63 - 1) / 8:=by decide
    omega
  have hfit : ¬ (!Builtin.List.listFitsIndex k)=true:=by
    rw [fitsIndex_both h1 h2]
    exact Bool.false_ne_true
  have hlong : ¬ Builtin.List.listTooLong (its.toArray.size * k.toNat)=true:=by
    rw [AaG hlen]
    exact Bool.false_ne_true
  have hnew:List.foldl (fun x1 x2=>x1++x2) #[] (List.replicate (if its.toArray.isEmpty=true then 0 else k.toNat) its.toArray)=(List.replicate k.toNat its).flatten.toArray:=by
    have f0:∀ m:Nat,List.foldl (fun x1 x2=>x1++x2) #[] (List.replicate m its.toArray)=(List.replicate m its).flatten.toArray:=fun m=>by
      have:=foldl_rep its m []
      rw [List.nil_append] at this
      exact this
    rw [f0]
    cases its with
    | nil=>simp
    | cons a r'=>rw [if_neg (by simp)]
  refine wpAny_binaryOp_repeat_ref (T:="list") (U:="int") (by decide) ⟨_,e,rfl⟩ (fun s'=>typeIs_int s' k t) noFill_list_mul F.fills_int_mul F.slot_int_rmul repeat_list F.slot_int_index.lookup
    (call_meets F.slot_int_rmul (typeIs_int s k t) F.entry_int_rmul (F.args_int_rmul_2 _ _) (int___rmul___int_list k t l its.toArray n)
      ⟨e,rfl,⟨_,e,rfl⟩,call_meets F.slot_list_mul ⟨_,e,rfl⟩ F.entry_list_mul (F.args_list_mul_2 _ _) (AutoListH.list___mul___list_int_3 l its.toArray n k t hfit hcap hlong) ⟨e,?_⟩⟩)
  rw [hnew]
  exact ⟨.ref _,_,I.AwW (t':=s.toks) (r.rep k.toNat) (by rw [len_rep,Nat.mul_comm]; exact hz),rfl,q _ I.fresh⟩
end
end L2
namespace L2
open PySem PySem.Spec PyProof.Rows
theorem Vals.ints:∀ {ns:List Int} {us:List Value},Vals (ns.map V.int) us→IntsAre us ns
  | [],us,h=>by
    rw [List.map_nil] at h
    cases h
    exact IntsAre.nil
  | n::ns,us,h=>by
    rw [List.map_cons] at h
    cases h with
    | cons r t =>
      obtain ⟨k,rfl⟩:=r
      exact IntsAre.cons n k (Vals.ints t)
theorem Vals.bls:∀ {bs:List Bool} {us:List Value},Vals (bs.map V.bl) us→us=bs.map Value.bool
  | [],us,h=>by
    rw [List.map_nil] at h
    cases h
    rfl
  | b::bs,us,h=>by
    rw [List.map_cons] at h
    cases h with
    | cons r t =>
      cases r
      rw [Vals.bls t,List.map_cons]
theorem Vals.ArH {a:Addr} {us:List Value} (r:Vals [V.ref a] us):us=[Value.ref a]:=by
  cases r with
  | cons r t =>
    cases t
    cases r
    rfl
section
variable {prog:Program} {w:World} {A:Around} {E:Value→Shared→Prop} {s:Shared} {l:Addr} {its:List Value} {ns:List Int} {Q:Value→Shared→Prop}
theorem Aur (hh:A.handled=none) (hl:s.heap.IsList l its.toArray) (hi:IntsAre its ns)
    (h:∀ h' tk t',(∀ b o,s.heap.get? b=some o→h'.get? b=some o)→Q (.int ns.sum t') { s with heap:=h',toks:=tk }):wpAny (model prog w) A (call (.builtin "sum") [.ref l]) Q E s:=by
  obtain ⟨xs,e⟩:=hi.allInts.items
  have hn:numsOf (intItems xs).toList=ns:=by rw [← e]; exact hi.numsOf
  rw [nums_intItems] at hn
  rw [e] at hl
  refine PySem.sum_intListG hh hl fun h' tk t' hk=>?_
  have:=h h' tk t' hk
  rw [preSum_eq,List.take_of_length_le (by simp),hn]; exact this
end
section
variable {X:Cx}
def AvX (K:PySem.W.Frag):List V→Hp→VK→Prop:=fun vs H Q=>∃ (a:Addr) (ns:List Int),vs=[V.ref a]∧SqL K H a (ns.map V.int)∧Q (.int ns.sum) H
theorem AqK (hc:X.calm=true):MO X (.builtin "sum") (AvX X.K):=by
  intro pins s σ H vs us Q I r h
  obtain ⟨a,ns,rfl,hs,q⟩:=h
  obtain ⟨its,rv,hl,_⟩:=I.list hs
  rw [Vals.ArH r]
  exact Aur (I.ok.hd hc) hl.isList rv.ints fun h' tk t' hk=>⟨.int _,H,I.kept hk,⟨_,rfl⟩,q⟩
end
theorem Aiu {prog:Program} {w:World} {A:Around} {E:Value→Shared→Prop} {s:Shared} {l:Addr} {items:Array Value} {Q:Value→Shared→Prop} (hl:s.heap.IsList l items)
    (h:∀ s₂:Shared,s₂={ s with heap:=s.heap.push { cls:=.type "list_iterator",data:=.fields #[.ref l,.int 0 0] } } →
      (s₂.heap.IsListIter s.heap.objs.size l 0∧s₂.heap.IsList l items)→l≠s.heap.objs.size→Q (.ref s.heap.objs.size) s₂):wpAny (model prog w) A (pyIter (.ref l)) Q E s:=by
  have hlt:l < s.heap.objs.size:=by obtain ⟨_,e,_⟩:=hl; exact Heap.lt_size e
  exact wpAny_pyIter_list hl (h _ rfl ⟨⟨_,Heap.get?_push_size _ rfl,rfl,rfl⟩,hl.push _⟩ (Nat.ne_of_lt hlt))
theorem Xh {prog:Program} {w:World} {A:Around} {bs:List Bool} {its:List Value} (e:its=bs.map Value.bool) :
    TruthOf prog w A (fun i v=>its.toArray[i]? = some v) (fun i=>bs.getD i false):=fun i v s Q E hv hq=>by
  have hv':its[i]? = some v:=by simpa using hv
  rw [e,List.getElem?_map] at hv'
  obtain ⟨b,hb,rfl⟩:=Option.map_eq_some_iff.mp hv'
  have hg:bs.getD i false=b:=by rw [List.getD_eq_getElem?_getD,hb] <;> rfl
  have hq':Q (bs.getD i false) s:=hq
  rw [hg] at hq'
  exact wpAny_truthy_bool hq'
theorem any_range:∀ bs:List Bool,(List.range bs.length).any (fun i=>bs.getD i false)=bs.any id
  | []=>rfl
  | b::bs=>by
    rw [List.length_cons,List.range_succ_eq_map,List.any_cons,List.any_map,List.any_cons,← any_range bs]
    all_goals rfl
theorem all_range:∀ bs:List Bool,(List.range bs.length).all (fun i=>bs.getD i false)=bs.all id
  | []=>rfl
  | b::bs=>by
    rw [List.length_cons,List.range_succ_eq_map,List.all_cons,List.all_map,List.all_cons,← all_range bs]
    all_goals rfl
section
variable {X:Cx}
def AvQ (K:PySem.W.Frag):List V→Hp→VK→Prop:=fun vs H Q=>∃ (a:Addr) (bs:List Bool),vs=[V.ref a]∧SqL K H a (bs.map V.bl)∧Q (.bl (bs.any id)) H
def AvP (K:PySem.W.Frag):List V→Hp→VK→Prop:=fun vs H Q=>∃ (a:Addr) (bs:List Bool),vs=[V.ref a]∧SqL K H a (bs.map V.bl)∧Q (.bl (bs.all id)) H
theorem AuV (hc:X.calm=true):MO X (.builtin "any") (AvQ X.K):=by
  intro pins s σ H vs us Q I r h
  obtain ⟨a,bs,rfl,hs,q⟩:=h
  obtain ⟨its,rv,hl,_⟩:=I.list hs
  rw [Vals.ArH r]
  have hb:=rv.bls
  refine call_any_walk (Aiu hl.isList fun s₂ e2 st hne=>?_)
  subst e2
  refine ⟨_,_,_,_,_,_,_,rfl,Walks.list (A:=X.A.in1) (I.ok.hd hc) _ a hne its.toArray,st,Xh hb,fun h' tk hk=>?_⟩
  refine ⟨.bl _,H,I.kept fun b o eo=>hk b o (fun hmem=>?_) (Heap.get?_push_of_some _ eo),?_,q⟩
  · rcases List.mem_cons.mp hmem with e1 | hmem
    · exact absurd (e1 ▸ Heap.lt_size eo) (Nat.lt_irrefl _)
    · cases hmem
  · show Value.bool _=Value.bool _
    rw [← any_range,hb,List.size_toArray,List.length_map]
theorem AuU (hc:X.calm=true):MO X (.builtin "all") (AvP X.K):=by
  intro pins s σ H vs us Q I r h
  obtain ⟨a,bs,rfl,hs,q⟩:=h
  obtain ⟨its,rv,hl,_⟩:=I.list hs
  rw [Vals.ArH r]
  have hb:=rv.bls
  refine call_all_walk (Aiu hl.isList fun s₂ e2 st hne=>?_)
  subst e2
  refine ⟨_,_,_,_,_,_,_,rfl,Walks.list (A:=X.A.in1) (I.ok.hd hc) _ a hne its.toArray,st,Xh hb,fun h' tk hk=>?_⟩
  refine ⟨.bl _,H,I.kept fun b o eo=>hk b o (fun hmem=>?_) (Heap.get?_push_of_some _ eo),?_,q⟩
  · rcases List.mem_cons.mp hmem with e1 | hmem
    · exact absurd (e1 ▸ Heap.lt_size eo) (Nat.lt_irrefl _)
    · cases hmem
  · show Value.bool _=Value.bool _
    rw [← all_range,hb,List.size_toArray,List.length_map]
end
mutual
inductive Dp (K:PySem.W.Frag) (H:Hp):V→PyData→Prop
  | non:Dp K H .non .none
  | bl (b:Bool):Dp K H (.bl b) (.bool b)
  | int (i:Int):Dp K H (.int i) (.int i)
  | str (x:Str):Dp K H (.str x) (.str x)
  | lst {a:Addr} {xs:List V} {ds:List PyData}:SqL K H a xs→YL K H xs ds→Dp K H (.ref a) (.list ds)
  | tup {a:Addr} {xs:List V} {ds:List PyData}:SqT K H a xs→YL K H xs ds→Dp K H (.ref a) (.tuple ds)
inductive YL (K:PySem.W.Frag) (H:Hp):List V→List PyData→Prop
  | nil:YL K H [] []
  | cons {v:V} {vs:List V} {d:PyData} {ds:List PyData}:Dp K H v d→YL K H vs ds→YL K H (v::vs) (d::ds)
end
section
variable {X:Cx} {pins:List (Addr × Obj)} {σ:St} {H:Hp} {s:Shared}
mutual
theorem Dp.reads (I:Inv X pins σ H s):∀ (d:PyData) (v:V) (u:Value),Dp X.K H v d→RelV v u→∃ as,Reads s.heap u d as
  | .none,_,_,h,r=>by
    cases h
    cases r
    exact ⟨_,Reads.none⟩
  | .bool b,_,_,h,r=>by
    cases h
    cases r
    exact ⟨_,Reads.bool b⟩
  | .int i,_,_,h,r=>by
    cases h
    obtain ⟨t,rfl⟩:=r
    exact ⟨_,Reads.int i t⟩
  | .str x,_,_,h,r=>by
    cases h
    obtain ⟨t,rfl⟩:=r
    exact ⟨_,Reads.str x t⟩
  | .list ds,_,_,h,r=>by
    cases h with
    | lst hs ha =>
      cases r
      obtain ⟨its,rv,⟨o,n,ho,hc,_,hd⟩,_⟩:=I.list hs
      obtain ⟨as,hr⟩:=Dp.readsAll I ds _ its ha rv
      exact ⟨_,Reads.list ho hc hd hr⟩
  | .tuple ds,_,_,h,r=>by
    cases h with
    | tup hs ha =>
      cases r
      obtain ⟨its,rv,⟨o,ho,hc,n,hd⟩,_⟩:=I.tuple hs
      obtain ⟨as,hr⟩:=Dp.readsAll I ds _ its ha rv
      exact ⟨_,Reads.tuple ho hc hd hr⟩
  | .dict _,_,_,h,_=>by cases h
theorem Dp.readsAll (I:Inv X pins σ H s):∀ (ds:List PyData) (vs:List V) (us:List Value),YL X.K H vs ds→Vals vs us→∃ as,ReadsAll s.heap us ds as
  | [],_,_,h,r=>by
    cases h
    cases r
    exact ⟨_,ReadsAll.nil⟩
  | d::ds,_,_,h,r=>by
    cases h with
    | cons h1 h2 =>
      cases r with
      | cons r1 r2 =>
        obtain ⟨as,q1⟩:=Dp.reads I d _ _ h1 r1
        obtain ⟨bs,q2⟩:=Dp.readsAll I ds _ _ h2 r2
        exact ⟨_,ReadsAll.cons q1 q2⟩
end
end
section
variable {X:Cx}
def AvS (K:PySem.W.Frag):R2:=fun x y H Q=>∃ d e,Dp K H x d∧Dp K H y e∧SeqAt.shaped d=true∧SeqAt.shaped e=true∧Q (.bl (PyData.eqv d e)) H
def Aua (K:PySem.W.Frag):R2:=fun x y H Q=>∃ d e,Dp K H x d∧Dp K H y e∧SeqAt.shaped d=true∧SeqAt.shaped e=true∧Q (.bl (!PyData.eqv d e)) H
theorem Wn (hu:X.A.units + 64 < cLine):OpR X (compareOp .Eq) (AvS X.K):=by
  intro pins s σ H x y v u Q I rx ry h
  obtain ⟨d,e,hd,he,sd,se,q⟩:=h
  obtain ⟨as,r1⟩:=Dp.reads I d x v hd rx
  obtain ⟨bs,r2⟩:=Dp.reads I e y u he ry
  exact SeqAt.compareEq_shaped r1 r2 sd se hu ⟨.bl _,H,I,rfl,q⟩
theorem Amm (hu:X.A.units + 64 < cLine):OpR X (compareOp .NotEq) (Aua X.K):=by
  intro pins s σ H x y v u Q I rx ry h
  obtain ⟨d,e,hd,he,sd,se,q⟩:=h
  obtain ⟨as,r1⟩:=Dp.reads I d x v hd rx
  obtain ⟨bs,r2⟩:=Dp.reads I e y u he ry
  exact SeqAt.compareNe_shaped r1 r2 sd se hu ⟨.bl _,H,I,rfl,q⟩
end
end L2
namespace L2
open PySem PySem.Spec PyProof.Rows
abbrev AqC (h:Heap) (c:Addr) (v:Option Value):Prop:=h.IsCell c v
def Ax0 (scope sc:Scope):Scope :=
  { scope with names:=scope.names.map fun (n,k)=>if (k == .free && sc.kind == .function && sc.names.lookup n == some .cell) then (n,.cell) else (n,k) }
def Cu (cells:List (Str × Addr)):List (Str × NameKind)→List (Str × Addr)→List (Str × Addr)
  | [],acc=>acc
  | (n,k)::r,acc=>if k == .free then Cu cells r ((n,(cells.lookup n).getD 0)::acc) else Cu cells r acc
theorem Uz (env:Env) (f:Str × NameKind→List (Str × Addr)→Sem (ForInStep (List (Str × Addr))))
    (hf:∀ n k c,f (n,k) c=if k == .free then (do let a ← cellOf env n; pure (.yield ((n,a)::c))) else pure (.yield c)) :
    ∀ (names:List (Str × NameKind)) (acc:List (Str × Addr)),(∀ y ∈ names,y.2=.free→∃ c,env.cells.lookup y.1=some c)→forIn names acc f=pure (Cu env.cells names acc)
  | [],acc,_=>by rw [List.forIn_nil]; rfl
  | (n,k)::r,acc,h=>by
    rw [List.forIn_cons,hf]
    have ih:=fun acc=>Uz env f hf r acc fun y hy=>h y (List.mem_cons_of_mem _ hy)
    unfold Cu
    by_cases hk:(k == NameKind.free)=true
    · rw [if_pos hk,if_pos hk]
      obtain ⟨c,hc⟩:=h (n,k) List.mem_cons_self (by simpa using hk)
      have e:cellOf env n=pure c:=by unfold cellOf; rw [hc]
      rw [e]
      have e2:(env.cells.lookup n).getD 0=c:=by rw [hc]; rfl
      rw [e2]
      exact ih _
    · rw [if_neg hk,if_neg hk]
      exact ih _
theorem Ala {scope:Scope} {env:Env} (h:∀ y ∈ scope.names,y.2=.free→∃ c,env.cells.lookup y.1=some c):closureFor scope env=pure (Cu env.cells scope.names []):=by
  simp only [closureFor]
  rw [Uz env _ (fun n k c=>rfl) scope.names [] h]
  rfl
theorem mem_lookup {α:Type}:∀ {l:List (Str × α)} {n:Str} {c:α},(n,c) ∈ l→∃ c',l.lookup n=some c'
  | (k,v)::r,n,c,h=>by
    rw [List.lookup_cons]
    cases hb:n == k with
    | true=>exact ⟨_,rfl⟩
    | false =>
      rcases List.mem_cons.mp h with e | h
      · cases e; simp at hb
      · exact mem_lookup h
theorem Kn {cells:List (Str × Addr)}:∀ {names:List (Str × NameKind)} {acc:List (Str × Addr)} {n:Str} {c:Addr},(n,c) ∈ Cu cells names acc→(n,c) ∈ acc∨((n,.free) ∈ names∧c=(cells.lookup n).getD 0)
  | [],_,_,_,h=>.inl h
  | (m,k)::r,acc,n,c,h=>by
    unfold Cu at h
    split at h
    · rename_i hk
      have hk:k=.free:=by simpa using hk
      rcases Kn h with h | ⟨h1,h2⟩
      · rcases List.mem_cons.mp h with e | h
        · cases e; exact .inr ⟨hk ▸ List.mem_cons_self,rfl⟩
        · exact .inl h
      · exact .inr ⟨List.mem_cons_of_mem _ h1,h2⟩
    · rcases Kn h with h | ⟨h1,h2⟩
      · exact .inl h
      · exact .inr ⟨List.mem_cons_of_mem _ h1,h2⟩
theorem O5 {cells:List (Str × Addr)}:∀ {names:List (Str × NameKind)} {acc:List (Str × Addr)} {p:Str × Addr},p ∈ acc→p ∈ Cu cells names acc
  | [],_,_,h=>h
  | (m,k)::r,acc,p,h=>by
    unfold Cu
    split
    · exact O5 (List.mem_cons_of_mem _ h)
    · exact O5 h
theorem O6 {cells:List (Str × Addr)}:∀ {names:List (Str × NameKind)} {acc:List (Str × Addr)} {n:Str},(n,.free) ∈ names→(n,(cells.lookup n).getD 0) ∈ Cu cells names acc
  | (m,k)::r,acc,n,h=>by
    unfold Cu
    rcases List.mem_cons.mp h with e | h
    · cases e
      exact O5 List.mem_cons_self
    · split
      · exact O6 h
      · exact O6 h
theorem Lu:∀ {names:List (Str × NameKind)} {h:Heap} {acc:List (Str × Addr)} {x:Str} {c:Addr},(x,c) ∈ cellsFrom h.objs.size names acc →
    (x,c) ∈ acc∨((x,.cell) ∈ names∧h.objs.size≤c∧AqC (pushCells h names) c none)
  | [],_,_,_,_,h=>.inl h
  | (n,k)::r,h,acc,x,c,hm=>by
    unfold cellsFrom at hm
    unfold pushCells
    split at hm
    · rename_i hk
      rw [if_pos hk]
      have hk:k=.cell:=by simpa using hk
      rw [← Heap.size_push h { cls:=.type "cell",data:=.cell none }] at hm
      rcases Lu hm with hm | ⟨h1,h2,h3⟩
      · rcases List.mem_cons.mp hm with e | hm
        · cases e
          exact .inr ⟨hk ▸ List.mem_cons_self,Nat.le_refl _,_,pushCells_keeps r _ _ _ (Heap.get?_push_size _ rfl),rfl⟩
        · exact .inl hm
      · rw [Heap.size_push] at h2
        exact .inr ⟨List.mem_cons_of_mem _ h1,Nat.le_of_succ_le h2,h3⟩
    · rename_i hk
      rw [if_neg hk]
      rcases Lu hm with hm | ⟨h1,h2,h3⟩
      · exact .inl hm
      · exact .inr ⟨List.mem_cons_of_mem _ h1,h2,h3⟩
theorem Qp:∀ {names:List (Str × NameKind)} {n:Nat} {acc:List (Str × Addr)} {p:Str × Addr},p ∈ acc→p ∈ cellsFrom n names acc
  | [],_,_,_,h=>h
  | (m,k)::r,n,acc,p,h=>by
    unfold cellsFrom
    split
    · exact Qp (List.mem_cons_of_mem _ h)
    · exact Qp h
theorem VE:∀ {names:List (Str × NameKind)} {n:Nat} {acc:List (Str × Addr)} {x:Str},(x,.cell) ∈ names→∃ c,(x,c) ∈ cellsFrom n names acc
  | (m,k)::r,n,acc,x,h=>by
    unfold cellsFrom
    rcases List.mem_cons.mp h with e | h
    · cases e
      exact ⟨n,Qp List.mem_cons_self⟩
    · split
      · exact VE h
      · exact VE h
theorem VF:∀ {names:List (Str × NameKind)} {h:Heap} {acc:List (Str × Addr)} {x y:Str} {c:Addr},(∀ p ∈ acc,p.2 < h.objs.size)→(∀ x y c,(x,c) ∈ acc→(y,c) ∈ acc→x=y) →
    (x,c) ∈ cellsFrom h.objs.size names acc→(y,c) ∈ cellsFrom h.objs.size names acc→x=y
  | [],_,_,_,_,_,_,hi,h1,h2=>hi _ _ _ h1 h2
  | (n,k)::r,h,acc,x,y,c,hl,hi,h1,h2=>by
    unfold cellsFrom at h1 h2
    split at h1
    · rename_i hk
      rw [if_pos hk] at h2
      rw [← Heap.size_push h { cls:=.type "cell",data:=.cell none }] at h1 h2
      refine VF (h:=h.push _) (fun p hp=>?_) (fun x y c a b=>?_) h1 h2
      · rw [Heap.size_push]
        rcases List.mem_cons.mp hp with rfl | hp
        · exact Nat.lt_succ_self _
        · exact Nat.lt_succ_of_lt (hl p hp)
      · rcases List.mem_cons.mp a with e | a <;> rcases List.mem_cons.mp b with e' | b
        · cases e; cases e'; rfl
        · cases e; exact absurd (hl _ b) (Nat.lt_irrefl _)
        · cases e'; exact absurd (hl _ a) (Nat.lt_irrefl _)
        · exact hi _ _ _ a b
    · rename_i hk
      rw [if_neg hk] at h2
      exact VF hl hi h1 h2
theorem AiS {M:Model} {A:Around} {E:Value→Shared→Prop} {s:Shared} {scope:Scope} {globals:Addr} {closure:List (Str × Addr)} {qual:Str} {func:Option Addr} {code:Value} {around:Env} {builtins:Addr} {Q:Env→Shared→Prop}
    (h:Q (newEnv scope s.heap.objs.size globals (cellsFrom (s.heap.objs.size + 1) scope.names closure) qual func code (some around) builtins)
      { s with heap:=pushCells (s.heap.push { cls:=.type "dict",data:=.dict #[] }) scope.names }) :
    wpAny M A (newFunctionEnv scope globals closure [] qual func code (some around) builtins) Q E s:=by
  simp only [newFunctionEnv,Option.isSome_some,if_true]
  refine wpAny_bind (wpAny_alloc ?_)
  refine wpAny_bind (wpAny_layCells _ (fun n k c=>rfl) scope.names closure _ _ ?_)
  rw [show ({ s with heap:=s.heap.push { cls:=.type "dict",data:=.dict #[] } }:Shared).heap.objs.size=s.heap.objs.size + 1 from Heap.size_push ..]
  rw [List.forIn_nil]
  exact wpAny_bind (wpAny_pure (wpAny_pure h))
theorem Pl {sc:Scope}:∀ {names:List (Str × NameKind)} {x:Str} {k:NameKind},
    (names.map fun (n,k)=>if (k == NameKind.free && sc.kind == .function && sc.names.lookup n == some .cell) then (n,NameKind.cell) else (n,k)).lookup x=some k →
    ∃ k',names.lookup x=some k'∧(k=k'∨(k'=.free∧k=.cell))
  | [],_,_,h=>by simp at h
  | (n,k₀)::r,x,k,h=>by
    have ih:=@Pl sc r x k
    have h':List.lookup x ((if (k₀ == NameKind.free && sc.kind == .function && sc.names.lookup n == some .cell)=true then (n,NameKind.cell) else (n,k₀))::(r.map _))=some k:=h
    cases hx:x == n with
    | true =>
      simp only [List.lookup_cons,hx]
      by_cases hc:(k₀ == NameKind.free && sc.kind == .function && sc.names.lookup n == some .cell)=true
      · rw [if_pos hc] at h'
        simp only [List.lookup_cons,hx] at h'
        cases h'
        simp only [Bool.and_eq_true,beq_iff_eq] at hc
        exact ⟨k₀,rfl,.inr ⟨hc.1.1,rfl⟩⟩
      · rw [if_neg hc] at h'
        simp only [List.lookup_cons,hx] at h'
        cases h'
        exact ⟨_,rfl,.inl rfl⟩
    | false =>
      simp only [List.lookup_cons,hx]
      by_cases hc:(k₀ == NameKind.free && sc.kind == .function && sc.names.lookup n == some .cell)=true
      · rw [if_pos hc] at h'
        simp only [List.lookup_cons,hx] at h'
        exact ih h'
      · rw [if_neg hc] at h'
        simp only [List.lookup_cons,hx] at h'
        exact ih h'
structure AnJ (N:List Str) (sc scope:Scope) (own:List (Str × Nat)):Prop where
  kind:scope.kind=.function
  uniq:∀ y ∈ scope.names,scope.names.lookup y.1=some y.2
  ix:∀ p ∈ own,N[p.2]? = some p.1
  free:∀ y ∈ scope.names,y.2=.free→sc.names.lookup y.1=some .cell∨sc.names.lookup y.1=some .free
  own:∀ y ∈ scope.names,y.2=.local∨y.2=.cell→y.1 ∈ own.map (·.1)∨y.1 ∉ N
def wipe (σ:St):List Nat→St
  | []=>σ
  | v::vs=>(wipe σ vs).set v none
theorem Qi (σ:St):∀ vs:List Nat,(wipe σ vs).length=σ.length
  | []=>rfl
  | v::vs=>by unfold wipe; rw [List.length_set,Qi σ vs]
theorem W3 {σ:St} {i:Nat} {x:V}:∀ {vs:List Nat},(wipe σ vs)[i]? = some (some x)→σ[i]? = some (some x)∧i ∉ vs
  | [],h=>⟨h,by simp⟩
  | v::vs,h=>by
    unfold wipe at h
    by_cases hi:v=i
    · subst hi
      by_cases hv:v < (wipe σ vs).length
      · rw [List.getElem?_set_self hv] at h; cases h
      · rw [List.getElem?_eq_none (by simpa using hv)] at h; cases h
    · rw [List.getElem?_set_ne hi] at h
      obtain ⟨h1,h2⟩:=W3 h
      exact ⟨h1,by simp only [List.mem_cons,not_or]; exact ⟨fun e=>hi e.symm,h2⟩⟩
abbrev Cx.blk (X:Cx) (s:Shared) (H:Hp) (scope:Scope) (cenv:Env) (fp:List Addr):Cx:={ X with s_0:=s,H_0:=H,env:=cenv,outer:=X.stack,ex:=fp,fn:=fun x=>scope.names.lookup x == some .cell,pn:=[],xe:=fun _ _=>False }
section
variable {X:Cx} {pins:List (Addr × Obj)} {σ:St} {H:Hp} {s:Shared}
theorem Ah3 {scope:Scope} {own:List (Str × Nat)} {fp:List Addr} (I:Inv X pins σ H s) (ok:AnJ X.N X.env.scope scope own) (hN:X.N.Nodup) (hfp:∀ b ∈ fp,AbW X pins H b∧b < s.heap.objs.size) :
    Inv (X.blk s H scope (compEnvC scope (cellsFrom (s.heap.objs.size + 1) scope.names (Cu X.env.cells scope.names [])) s.heap.objs.size X.env) fp) [] (wipe σ (own.map (·.2))) H { s with heap:=pushCells (s.heap.push { cls:=.type "dict",data:=.dict #[] }) scope.names }:=by
  have hfree:∀ y ∈ scope.names,y.2=.free→∃ c,X.env.cells.lookup y.1=some c:=fun y hy e=>by
    rcases ok.free y hy e with k | k
    · exact I.ok.has _ (.inl k)
    · exact I.ok.has _ (.inr k)
  generalize hcenv:compEnvC scope (cellsFrom (s.heap.objs.size + 1) scope.names (Cu X.env.cells scope.names [])) s.heap.objs.size X.env=cenv
  have kp:∀ b o,s.heap.get? b=some o→(pushCells (s.heap.push { cls:=.type "dict",data:=.dict #[] }) scope.names).get? b=some o:=fun b o e=>pushCells_keeps _ _ _ _ (Heap.get?_push_of_some _ e)
  have hL:cenv.locals=s.heap.objs.size:=by rw [← hcenv]; rfl
  have hcl:cenv.cells=cellsFrom (s.heap.objs.size + 1) scope.names (Cu X.env.cells scope.names []):=by rw [← hcenv]; rfl
  have hsc:cenv.scope=Ax0 scope X.env.scope:=by rw [← hcenv]; rfl
  rw [← Heap.size_push s.heap { cls:=.type "dict",data:=.dict #[] }] at hcl
  have cm:∀ {y c},(y,c) ∈ Cu X.env.cells scope.names []→X.env.cells.lookup y=some c∧c < s.heap.objs.size:=fun {y c} hm=>by
    rcases Kn hm with hm | ⟨h1,rfl⟩
    · cases hm
    · obtain ⟨c,hc⟩:=hfree _ h1 rfl
      rw [hc]
      obtain ⟨w,z⟩:=I.cell _ _ hc
      exact ⟨rfl,z.lt⟩
  have mem:∀ {y c},cenv.cells.lookup y=some c→(X.env.cells.lookup y=some c∧c < s.heap.objs.size)∨(s.heap.objs.size + 1≤c∧AqC (pushCells (s.heap.push { cls:=.type "dict",data:=.dict #[] }) scope.names) c none):=fun {y c} e=>by
    rw [hcl] at e
    rcases Lu (PySem.mem_of_lookup e) with hm | ⟨_,h2,h3⟩
    · exact .inl (cm hm)
    · rw [Heap.size_push] at h2; exact .inr ⟨h2,h3⟩
  have look:∀ {y},scope.names.lookup y=some .free→∃ c,cenv.cells.lookup y=some c∧X.env.cells.lookup y=some c:=fun {y} hl=>by
    have hy:(y,NameKind.free) ∈ scope.names:=PySem.mem_of_lookup hl
    obtain ⟨c',e'⟩:=mem_lookup (Qp (names:=scope.names) (n:=(s.heap.push { cls:=.type "dict",data:=.dict #[] }).objs.size) (O6 (cells:=X.env.cells) (acc:=[]) hy))
    rw [← hcl] at e'
    refine ⟨c',e',?_⟩
    rw [hcl] at e'
    rcases Lu (PySem.mem_of_lookup e') with hm | ⟨h1,_,_⟩
    · exact (cm hm).1
    · have:=ok.uniq _ h1
      rw [hl] at this; cases this
  have okB:(X.blk s H scope cenv fp).Ok:=by
    refine ⟨I.ok.mod,by show cenv.scope.kind=_; rw [hsc]; exact ok.kind,by show cenv.globals=_; rw [← hcenv]; exact I.ok.glob,by show cenv.builtins=_; rw [← hcenv]; exact I.ok.blt,by show s.heap.objs.size≤cenv.locals; rw [hL]; exact Nat.le_refl _,
      fun y z c e1 e2=>?_,fun y hy=>?_,fun y c z e=>?_,I.ok.hd,I.ok.frames,.inl rfl,fun b hb=>⟨?_,fun y c e z=>?_⟩,I.bs,Nat.le_trans I.ok.bsz I.sz,fun b o e hb=>?_,fun b hb z=>?_,I.stack,I.Aox⟩
    · have e1:cenv.cells.lookup y=some c:=e1
      have e2:cenv.cells.lookup z=some c:=e2
      rw [hcl] at e1 e2
      refine VF (fun p hp=>?_) (fun y z c a b=>I.ok.inj y z c (cm a).1 (cm b).1) (PySem.mem_of_lookup e1) (PySem.mem_of_lookup e2)
      rw [Heap.size_push]
      exact Nat.lt_succ_of_lt (cm (y:=p.1) (c:=p.2) hp).2
    · show ∃ c,cenv.cells.lookup y=some c
      have key:∀ k,cenv.kindOf y=some k→(k=.cell∨k=.free)→∃ c,cenv.cells.lookup y=some c:=fun k hk hk'=>by
        unfold Env.kindOf at hk
        rw [hsc] at hk
        obtain ⟨k',e,r⟩:=Pl hk
        have:k'=.cell∨k'=.free:=by
          rcases r with rfl | ⟨rfl,_⟩
          · exact hk'
          · exact .inr rfl
        rcases this with rfl | rfl
        · obtain ⟨c,hm⟩:=VE (n:=(s.heap.push { cls:=.type "dict",data:=.dict #[] }).objs.size) (acc:=Cu X.env.cells scope.names []) (PySem.mem_of_lookup e)
          obtain ⟨c',e'⟩:=mem_lookup hm
          exact ⟨c',by rw [hcl]; exact e'⟩
        · obtain ⟨c,h1,_⟩:=look e
          exact ⟨c,h1⟩
      rcases hy with hy | hy
      · exact key _ hy (.inl rfl)
      · exact key _ hy (.inr rfl)
    · have z:(scope.names.lookup y == some NameKind.cell)=true:=z
      have z:scope.names.lookup y=some .cell:=by simpa using z
      have e:cenv.cells.lookup y=some c:=e
      rw [hcl] at e
      rcases Lu (PySem.mem_of_lookup e) with hm | ⟨_,h2,_⟩
      · rcases Kn hm with hm | ⟨h1,_⟩
        · cases hm
        · have q:=ok.uniq _ h1
          rw [z] at q; cases q
      · rw [Heap.size_push] at h2
        exact Nat.le_of_succ_le h2
    · show b≠cenv.locals
      rw [hL]; exact Nat.ne_of_lt (hfp b hb).2
    · have e:cenv.cells.lookup y=some c:=e
      rcases mem e with ⟨h1,_⟩ | ⟨h1,_⟩
      · exact (hfp b hb).1.2.2.2.2.1 y c h1 z
      · have h2:s.heap.objs.size + 1≤b:=by rw [← z]; exact h1
        exact absurd (Nat.lt_of_lt_of_le (hfp b hb).2 (Nat.le_of_succ_le h2)) (Nat.lt_irrefl _)
    · rcases (hfp b hb).1.2.2.2.1 with z | z
      · exact I.ok.Ar0 b o e z
      · exact absurd (Nat.lt_of_lt_of_le (Heap.lt_size e) (Nat.le_trans I.ok.bsz z)) (Nat.lt_irrefl _)
    · rcases List.mem_cons.mp (I.AmL b z) with z | z
      · exact (hfp b hb).1.2.1 z
      · exact (hfp b hb).1.2.2.1 z
  refine ⟨okB,rfl,I.bare,Un.kept kp,⟨fun _=>none,?_,fun i y av e1 e2 e3=>?_⟩,fun y c e=>?_,?_,fun y c e=>?_,fun p hp=>?_,I.hok.kept kp,by rw [Qi]; exact I.len⟩
  · show Heap.Ns _ cenv.locals _
    rw [hL]
    exact Heap.Ns.keeps (Heap.Ns.new ..) fun b o e=>pushCells_keeps _ _ _ _ e
  · obtain ⟨e2,hne⟩:=W3 e2
    have hfr:scope.names.lookup y=some .free∧(cenv.kindOf y=some .cell∨cenv.kindOf y=some .free):=by
      have key:∀ k,cenv.scope.names.lookup y=some k→k=.local∨k=.cell∨k=.free→scope.names.lookup y=some .free∧(cenv.kindOf y=some .cell∨cenv.kindOf y=some .free):=fun k hk hk'=>by
        have hk0:=hk
        rw [hsc] at hk
        obtain ⟨k',e,r⟩:=Pl hk
        have no : ¬ (k'=.local∨k'=.cell):=fun hh=>by
          rcases ok.own _ (PySem.mem_of_lookup e) hh with e' | e'
          · obtain ⟨p,hp,hpy⟩:=List.mem_map.mp e'
            have e3:=ok.ix p hp
            have:p.1=y:=hpy
            rw [this] at e3
            exact hne (List.mem_map.mpr ⟨p,hp,AaF hN e3 e1⟩)
          · exact e' (List.mem_of_getElem? e1)
        rcases r with rfl | ⟨rfl,rfl⟩
        · rcases hk' with rfl | rfl | rfl
          · exact absurd (.inl rfl) no
          · exact absurd (.inr rfl) no
          · exact ⟨e,.inr hk0⟩
        · exact ⟨e,.inl hk0⟩
      have e3:Vis cenv.scope y:=e3
      rcases e3 with e3 | e3 | e3
      · exact key _ e3 (.inl rfl)
      · exact key _ e3 (.inr (.inl rfl))
      · exact key _ e3 (.inr (.inr rfl))
    obtain ⟨m,hn,hl⟩:=I.loc
    have hvis:Vis X.env.scope y:=(ok.free _ (PySem.mem_of_lookup hfr.1) rfl).elim (fun k=>.inr (.inl k)) (fun k=>.inr (.inr k))
    obtain ⟨w,r,q⟩:=hl i y av e1 e2 hvis
    refine ⟨w,r,.inr ⟨hfr.2,?_⟩⟩
    obtain ⟨c,h1,h2⟩:=look hfr.1
    rcases q with ⟨k,_⟩ | ⟨_,c',e',z⟩
    · have k:X.env.scope.names.lookup y=some .local:=k
      rcases ok.free _ (PySem.mem_of_lookup hfr.1) rfl with k' | k' <;> rw [show X.env.scope.names.lookup y=_ from k'] at k <;> cases k
    · rw [h2] at e'; cases e'
      exact ⟨c,h1,z.keeps kp⟩
  · have e:cenv.cells.lookup y=some c:=e
    rcases mem e with ⟨h1,_⟩ | ⟨_,z⟩
    · obtain ⟨w,z⟩:=I.cell y c h1
      exact ⟨w,z.keeps kp⟩
    · exact ⟨_,z⟩
  · show H cenv.locals=none
    rw [hL]; exact I.hok.fresh (Nat.le_refl _)
  · have e:cenv.cells.lookup y=some c:=e
    rcases mem e with ⟨h1,_⟩ | ⟨h1,_⟩
    · exact I.Lz y c h1
    · exact I.hok.fresh (Nat.le_of_succ_le h1)
  · exact absurd (show p ∈ ([]:List (Addr × Obj))++[] from hp) (by simp)
theorem AuQ {E:Value→Shared→Prop} {D:Addr} {xs:List V} {y:V} {v:Value} {Q:Value→Shared→Prop} (I:Inv X pins σ H s) (hD:H D=some (.lst xs)) (hz:xs.length < sizeLine) (r:RelV y v)
    (h:∀ s',Inv X pins σ (upd H D (.lst (xs++[y]))) s'→Q .none s'):wpAny (model X.prog X.w) X.A (call (.builtin "list.append") [.ref D,v]) Q E s:=by
  obtain ⟨hz',its,n,ri,e⟩:=I.hok D _ hD
  have hl:=ri.length
  refine append_at (hsz:=by rw [List.size_toArray]; omega) e fun h' sb ho'=>?_
  refine h { s with heap:=h' } (I.write (t':=s.toks) (by rw [hD]; trivial) (.inl rfl) (fun b u hb q=>(sb.2 b hb).trans q) ⟨_,ho'⟩ ⟨by rw [List.length_append]; exact hz,its++[v],n + 1,ri.append (.cons r .nil),?_⟩)
  rw [ho']
  simp
def PTs (X:Cx) (ifs:List Expr) (t:TT):Prop :=
  ∀ (pins:List (Addr × Obj)) (s:Shared) (σ:St) (H:Hp) (Q:Bool→Hp→Prop),Inv X pins σ H s→t σ H Q →
    wpAny (model X.prog X.w) X.A (forIn ifs true fun c r=>if r=true then do let ok ← isTrue c X.env (eval c X.env); pure (ForInStep.yield ok) else pure (ForInStep.yield r)) (TP X pins σ Q) X.xe s
def Awx:TT:=fun _ H Q=>Q true H
theorem YH:PTs X [] Awx:=fun _ _ _ H _ I h=>wpAny_tests_nil ⟨H,I,h⟩
theorem Aop {c:Expr} {t:TT} (h:PT X c t):PTs X [c] t:=fun pins s σ H Q I hw=>wpAny_tests_one (h pins s σ H Q I hw)
end
theorem Aq4 {α:Type} {t:Sem α} {Q Q':α→Shared→Prop} {M:Model} {A:Around} {E:Value→Shared→Prop} {s:Shared} (h:wpAny M A t Q (fun _ _=>False) s) (hQ:∀ a s,Q a s→Q' a s):wpAny M A t Q' E s:=wpAny_mono h hQ fun _ _ z=>False.elim z
theorem Ae8 {prog:Program} {w:World} {A:Around} {R:Result→Shared→Prop} {s:Shared} {elt target iter:Expr} {ifs:List Expr} {scope:Scope} {pos:Pos} {it acc:Value} {env:Env} (I:Nat→Shared→Prop)
    (turn:∀ n s,I n s→wpAny (model prog w) A (pyNext it) (fun r s₁=>match r with
      | none=>R (.ok .next) s₁
      | some v=>wpAny (model prog w) A (letOwnedTupleGo target it v) (fun _ s₁'=>wpAny (model prog w) A (assign target env v) (fun _ s₂ =>
          wpAny (model prog w) A (forIn ifs true fun c r=>if r=true then do let ok ← isTrue c env (eval c env); pure (ForInStep.yield ok) else pure (ForInStep.yield r)) (fun ok s₃ =>
            if ok=true then wpAny (model prog w) A (eval elt env) (fun x s₄ =>
              wpAny (model prog w) A (call (.builtin "list.append") [acc,x]) (fun _ s₅=>∃ m,m < n∧I m s₅) (notedBy (model prog w) A env fun e s'=>R (.error e) s') s₄) (notedBy (model prog w) A env fun e s'=>R (.error e) s') s₃
            else ∃ m,m < n∧I m s₃) (notedBy (model prog w) A env fun e s'=>R (.error e) s') s₂) (notedBy (model prog w) A env fun e s'=>R (.error e) s') s₁') (notedBy (model prog w) A env fun e s'=>R (.error e) s') s₁) (notedBy (model prog w) A env fun e s'=>R (.error e) s') s)
    (n:Nat) (h:I n s) :
    codeAny (model prog w) A (.compLoop (.ListComp elt [⟨target,iter,ifs,0⟩] scope pos) 0 it acc env) R s:=by
  refine codeAny_loop rfl I (fun n s hI=>?_) n h
  show wpAny _ A ((compTurn (.ListComp elt [⟨target,iter,ifs,0⟩] scope pos) 0 it acc env).onRaise (fun x=>do noteFrame x env; theTreesLotGoes x)) _ _ s
  refine wpAny_noted ?_
  rw [compTurn_list]
  refine wpAny_bind (wpAny_standAt (wpAny_bind (wpAny_mono (turn n s hI) (fun r s₁ h₁=>?_) fun _ _ h'=>h')))
  cases r with
  | none=>exact wpAny_pure h₁
  | some v =>
    refine wpAny_bind (wpAny_mono h₁ (fun _ s₁' h₁'=>?_) fun _ _ h'=>h')
    refine wpAny_bind (wpAny_mono h₁' (fun _ s₂ h₂=>wpAny_bind (wpAny_mono h₂ (fun ok s₃ h₃=>?_) fun _ _ h'=>h')) fun _ _ h'=>h')
    cases ok with
    | false=>exact wpAny_pure ⟨rfl,h₃⟩
    | true =>
      exact wpAny_bind (wpAny_bind (wpAny_mono h₃ (fun x s₄ h₄=>wpAny_bind (wpAny_mono h₄ (fun _ s₅ h₅=>wpAny_pure (wpAny_pure ⟨rfl,h₅⟩)) fun _ _ h'=>h')) fun _ _ h'=>h'))
section
variable {X:Cx}
def tLc (wi:TI) (g:TG) (tt:TT) (te:TE) (vs:List Nat):TE:=fun σ H Q=>wi σ H fun J H1=>∀ D,H1 D=none→∃ W:Nat→Nat→Hp→Prop,(∃ m,W 0 m (upd H1 D (.lst [])))∧∀ i m H,W i m H →
  (J.stop i H∧Q (.ref D) H)∨(J.go i H∧∃ Nx:Hp→Prop,(∀ H',Nx H'→∃ m',m' < m∧W (i + 1) m' H')∧∀ x H',J.yld i H x H'→g x (wipe σ vs) H' fun σ2 H2=>wipe σ2 vs=wipe σ vs∧tt σ2 H2 fun b H3 =>
    if b=true then te σ2 H3 fun y H4=>∃ acc,H4 D=some (.lst acc)∧acc.length < sizeLine∧Nx (upd H4 D (.lst (acc++[y]))) else Nx H3)
theorem At0 {pins:List (Addr × Obj)} {s:Shared} {σ:St} {H:Hp} {Q:VK} {elt tg iter:Expr} {ifs:List Expr} {scope:Scope} {own:List (Str × Nat)} {pos pos':Pos} {wi:TI} {g:TG} {tt:TT} {te:TE} {use:Option (Value→Sem Unit)} {Qf:Value→Shared→Prop}
    (hc:X.calm=true) (hN:X.N.Nodup) (I:Inv X pins σ H s) (hi:PI X tg iter wi) (ok:AnJ X.N X.env.scope scope own)
    (hg:∀ (s:Shared) (H:Hp) (C:Addr) (cl:List (Str × Addr)) (fp:List Addr),PG (X.blk s H scope (compEnvC scope cl C X.env) fp) tg g) (ht:∀ (s:Shared) (H:Hp) (C:Addr) (cl:List (Str × Addr)) (fp:List Addr),PTs (X.blk s H scope (compEnvC scope cl C X.env) fp) ifs tt)
    (he:∀ (s:Shared) (H:Hp) (C:Addr) (cl:List (Str × Addr)) (fp:List Addr),PE (X.blk s H scope (compEnvC scope cl C X.env) fp) elt te) (hs:∀ x,foldedSetIterable iter X.env x=pure x)
    (h:tLc wi g tt te (own.map (·.2)) σ H Q)
    (hRR:∀ D C s' m H',Inv X pins σ H' s'→Q (.ref D) H'→s'.heap.Ns C m→AbW X pins H' C→compPost (model X.prog X.w) X.A X.xe use Qf (.ref D) C (.ok .next) s') :
    wpAny (model X.prog X.w) X.A (comprehension (.ListComp elt [⟨tg,iter,ifs,0⟩] scope pos) scope X.env pos' (newList []) false (eval iter X.env) use) Qf X.xe s:=by
  have hfree:∀ y ∈ scope.names,y.2=.free→∃ c,X.env.cells.lookup y.1=some c:=fun y hy e=>by
    rcases ok.free y hy e with k | k
    · exact I.ok.has _ (.inl k)
    · exact I.ok.has _ (.inr k)
  refine wpAny_comprehension_free (use:=use) rfl hs (Ala hfree) ok.kind (fun y hy e=>by rw [ok.uniq y hy,e])
    (thn (hi pins s σ H _ I h) fun xv s1 hx=>thn hx fun itv s2 h2=>?_)
  obtain ⟨it,fp,tn,J,H2,e,I2,T,st2,f2,q⟩:=h2
  subst e
  refine wpAny_newObj_type (AiS ?_) (by show 0≤sizeLine; decide)
  generalize hD:s2.heap.objs.size=D
  have hDn:H2 D=none:=I2.hok.fresh (Nat.le_of_eq hD)
  obtain ⟨W,⟨m0,w0⟩,turn⟩:=q D hDn
  -- the new list
  generalize hs3:({ s2 with heap:=s2.heap.push { cls:=.type "list",data:=.seq ([]:List Value).toArray } }:Shared)=s3
  have I3:Inv X pins σ (upd H2 D (.lst [])) s3:=by
    rw [← hs3]
    refine I2.laid (t':=s2.toks) (fun b o e=>Heap.get?_push_of_some _ e) (Nat.le_of_eq hD) ⟨Nat.zero_le _,[],0,.nil,?_⟩
    rw [← hD]
    exact Heap.get?_push_size _ rfl
  have h3:s3.heap=s2.heap.push { cls:=.type "list",data:=.seq ([]:List Value).toArray }:=by rw [← hs3]
  have sz:∀ b ∈ fp,b < s2.heap.objs.size:=fun b hb=>by
    obtain ⟨o,e,_⟩:=T.obj _ _ st2 b hb
    exact Heap.lt_size e
  have f3:∀ b ∈ fp,AbW X pins (upd H2 D (.lst [])) b∧b < s3.heap.objs.size:=fun b hb=>by
    have hlt:=sz b hb
    refine ⟨⟨?_,(f2 b hb).2⟩,by rw [h3,Heap.size_push]; exact Nat.lt_succ_of_lt hlt⟩
    rw [A9 (by rw [← hD]; exact Nat.ne_of_lt hlt)]
    exact (f2 b hb).1
  have st3:tn 0 s3.heap:=T.keep _ _ _ st2 fun b _ o e=>by rw [h3]; exact Heap.get?_push_of_some _ e
  have I4:=Ah3 I3 ok hN f3
  have pg:=hg s3 (upd H2 D (.lst [])) s3.heap.objs.size (cellsFrom (s3.heap.objs.size + 1) scope.names (Cu X.env.cells scope.names [])) fp
  have pt:=ht s3 (upd H2 D (.lst [])) s3.heap.objs.size (cellsFrom (s3.heap.objs.size + 1) scope.names (Cu X.env.cells scope.names [])) fp
  have pe:=he s3 (upd H2 D (.lst [])) s3.heap.objs.size (cellsFrom (s3.heap.objs.size + 1) scope.names (Cu X.env.cells scope.names [])) fp
  show codeAny _ _ (.compStart (.ListComp elt [⟨tg,iter,ifs,0⟩] scope pos) 0 (.ref it) (.ref D) (compEnvC scope (cellsFrom (s3.heap.objs.size + 1) scope.names (Cu X.env.cells scope.names [])) s3.heap.objs.size X.env)) (compPost (model X.prog X.w) X.A X.xe use Qf (.ref D) s3.heap.objs.size) { s3 with heap:=pushCells (s3.heap.push { cls:=.type "dict",data:=.dict #[] }) scope.names }
  have nfp:∀ b ∈ fp,(upd H2 D (.lst [])) b=none:=fun b hb=>(f3 b hb).1.1
  generalize hce:compEnvC scope (cellsFrom (s3.heap.objs.size + 1) scope.names (Cu X.env.cells scope.names [])) s3.heap.objs.size X.env=ce at I4 pg pt pe ⊢
  have cL:ce.locals=s3.heap.objs.size:=by subst hce; rfl
  generalize hH3:upd H2 D (.lst [])=H3 at I3 I4 pg pt pe w0 nfp f3
  generalize hs4:({ s3 with heap:=pushCells (s3.heap.push { cls:=.type "dict",data:=.dict #[] }) scope.names }:Shared)=s4 at I4 ⊢
  have st4:tn 0 s4.heap:=T.keep _ _ _ st3 fun b _ o e=>by rw [← hs4]; exact pushCells_keeps _ _ _ _ (Heap.get?_push_of_some _ e)
  have stat:∀ {σ':St} {H':Hp} {s':Shared},Inv (X.blk s3 H3 scope ce fp) [] σ' H' s'→(∀ b ∈ fp,H' b=none)→∀ b ∈ fp,AbW (X.blk s3 H3 scope ce fp) [] H' b:=fun {σ' H' s'} I' hn b hb =>
    ⟨hn b hb,(I'.ok.exf b hb).1,I'.ok.AqY b hb,.inl hb,fun x c e=>(I'.ok.exf b hb).2 x c e,fun p hp=>absurd (show p ∈ ([]:List (Addr × Obj))++[] from hp) (by simp)⟩
  have loop:codeAny (model X.prog X.w) X.A (.compLoop (.ListComp elt [⟨tg,iter,ifs,0⟩] scope pos) 0 (.ref it) (.ref D) ce) (compPost (model X.prog X.w) X.A X.xe use Qf (.ref D) s3.heap.objs.size) s4:=by
    refine Ae8 (fun n s'=>∃ i H',Inv (X.blk s3 H3 scope ce fp) [] (wipe σ (own.map (·.2))) H' s'∧tn i s'.heap∧(∀ b ∈ fp,H' b=none)∧W i n H') ?_ m0 ⟨0,H3,I4,st4,nfp,w0⟩
    rintro n s5 ⟨i,H5,I5,st5,n5,w5⟩
    rcases turn i n H5 w5 with ⟨stop,qq⟩ | ⟨go,Nx,hNx,step⟩
    · have td:=T.done (X.blk s3 H3 scope ce fp) rfl rfl rfl hc i [] s5 _ H5 (fun _ _=>False) I5 (stat I5 n5) st5 stop
      refine Aq4 td fun r s6 ⟨hr,I6⟩=>?_
      subst hr
      -- back in the def's context
      have I7:Inv X pins σ H5 s6:=I3.AwL (ch:=fp) I6.os I6.base I6.hok I6.bare fun b hb=>⟨(f3 b hb).1.2.2.2.1,(f3 b hb).1.2.1,(f3 b hb).1.2.2.2.2.1,(f3 b hb).1.2.2.2.2.2⟩
      have nC:H5 s3.heap.objs.size=none:=by
        have z:H5 ce.locals=none:=I6.free
        rw [cL] at z
        exact z
      obtain ⟨m,hn,_⟩:=I6.loc
      have hn:s6.heap.Ns ce.locals m:=hn
      rw [cL] at hn
      exact hRR D s3.heap.objs.size s6 m H5 I7 qq hn (I3.AsY (Nat.le_refl _) nC)
    · have ti:=T.item (X.blk s3 H3 scope ce fp) rfl rfl rfl hc i [] s5 _ H5 (fun _ _=>False) I5 (stat I5 n5) st5 go
      refine Aq4 ti fun r s6 ⟨u,hr,h6⟩=>?_
      subst hr
      refine Aq4 h6 fun _ s7 ⟨x,H7,I7,r7,y7,st7,n7⟩=>?_
      have I7':=I7.pinned (stat I7 n7) (T.obj _ _ st7)
      refine Aq4 (pg _ s7 _ H7 x u _ I7' r7 (step x H7 y7)) fun _ s8 ⟨σ8,H8,I8,hw8,q8⟩=>?_
      refine Aq4 (pt _ s8 σ8 H8 _ I8 q8) fun b s9 ⟨H9,I9,q9⟩=>?_
      -- the turn's end
      have fin:∀ {s':Shared} {H':Hp},Inv (X.blk s3 H3 scope ce fp) ([]++Abn fp s7.heap) σ8 H' s'→Nx H'→∃ m,m < n∧∃ i H',Inv (X.blk s3 H3 scope ce fp) [] (wipe σ (own.map (·.2))) H' s'∧tn i s'.heap∧(∀ b ∈ fp,H' b=none)∧W i m H':=fun {s' H'} I' nx=>by
        obtain ⟨m',hm,w'⟩:=hNx H' nx
        have pin':∀ b ∈ fp,∀ o,s7.heap.get? b=some o→s'.heap.get? b=some o∧H' b=none:=fun b hb o e =>
          let z:=I'.pin (b,o) (List.mem_append_right _ (List.mem_append_right _ (S4 hb e)))
          ⟨z.1,z.2.1⟩
        have hl:(wipe σ (own.map (·.2))).length=σ8.length:=by rw [← hw8,Qi]
        refine ⟨m',hm,i + 1,H',(I'.Vq (pins:=[])).weak hl (fun j v e=>?_),T.keep _ _ _ st7 fun b hb o e=>(pin' b hb o e).1,fun b hb=>?_,w'⟩
        · rw [← hw8] at e
          exact (W3 e).1
        · obtain ⟨o,e,_⟩:=T.obj _ _ st7 b hb
          exact (pin' b hb o e).2
      cases b with
      | false =>
        simp only [Bool.false_eq_true,if_false] at q9 ⊢
        exact fin I9 q9
      | true =>
        simp only [if_true] at q9 ⊢
        refine Aq4 (pe _ s9 σ8 H9 _ I9 q9) fun z s10 ⟨yv,H10,I10,r10,acc,hD10,hz10,nx⟩=>?_
        exact AuQ (X:=X.blk s3 H3 scope ce fp) I10 hD10 hz10 r10 fun s11 I11=>fin I11 nx
  exact codeAny_compStart_list loop (T.self X.A 0 _ _ _ st4 loop)
theorem AdB {elt tg iter:Expr} {ifs:List Expr} {scope:Scope} {own:List (Str × Nat)} {pos:Pos} {wi:TI} {g:TG} {tt:TT} {te:TE} (hc:X.calm=true) (hN:X.N.Nodup) (hi:PI X tg iter wi) (ok:AnJ X.N X.env.scope scope own)
    (hg:∀ (s:Shared) (H:Hp) (C:Addr) (cl:List (Str × Addr)) (fp:List Addr),PG (X.blk s H scope (compEnvC scope cl C X.env) fp) tg g) (ht:∀ (s:Shared) (H:Hp) (C:Addr) (cl:List (Str × Addr)) (fp:List Addr),PTs (X.blk s H scope (compEnvC scope cl C X.env) fp) ifs tt)
    (he:∀ (s:Shared) (H:Hp) (C:Addr) (cl:List (Str × Addr)) (fp:List Addr),PE (X.blk s H scope (compEnvC scope cl C X.env) fp) elt te) (hs:∀ x,foldedSetIterable iter X.env x=pure x:=by intro _; rfl) :
    PE X (.ListComp elt [⟨tg,iter,ifs,0⟩] scope pos) (tLc wi g tt te (own.map (·.2))):=by
  intro pins s σ H Q I h
  rw [eval_ListComp]
  refine At0 hc hN I hi ok hg ht he hs h fun D C s' m H' I' q hn f=>⟨m,hn,fun h'' sb=>?_⟩
  obtain ⟨f0,f1,f2,f3,f4,f5⟩:=f
  exact ⟨.ref D,H',I'.turned (t':=s'.toks) (fun b o hb e=>(sb.2 b hb).trans e) f0 f1 f3 f4 f5,rfl,q⟩
end
theorem At1 {K:PySem.W.Frag} {a:Addr} {xs:List V} {g:TG} {tt:TT} {te:TE} {vs:List Nat} {σ:St} {H1:Hp} {D:Addr} {Qd:Hp→Prop} (Pv:Nat→Hp→Prop) (h0:Pv 0 (upd H1 D (.lst []))) (hl:∀ i H,i≤xs.length→Pv i H→SqL K H a xs)
    (hs:∀ i x H,xs[i]? = some x→Pv i H→g x (wipe σ vs) H fun σ2 H2=>wipe σ2 vs=wipe σ vs∧tt σ2 H2 fun b H3 =>
      if b=true then te σ2 H3 fun y H4=>∃ acc,H4 D=some (.lst acc)∧acc.length < sizeLine∧Pv (i + 1) (upd H4 D (.lst (acc++[y]))) else Pv (i + 1) H3) (hd:∀ H,Pv xs.length H→Qd H) :
    ∃ W:Nat→Nat→Hp→Prop,(∃ m,W 0 m (upd H1 D (.lst [])))∧∀ i m H,W i m H →
      ((Itl K a).stop i H∧Qd H)∨((Itl K a).go i H∧∃ Nx:Hp→Prop,(∀ H',Nx H'→∃ m',m' < m∧W (i + 1) m' H')∧∀ x H',(Itl K a).yld i H x H'→g x (wipe σ vs) H' fun σ2 H2=>wipe σ2 vs=wipe σ vs∧tt σ2 H2 fun b H3 =>
        if b=true then te σ2 H3 fun y H4=>∃ acc,H4 D=some (.lst acc)∧acc.length < sizeLine∧Nx (upd H4 D (.lst (acc++[y]))) else Nx H3):=by
  refine ⟨fun i m H=>m=xs.length - i∧i≤xs.length∧Pv i H,⟨xs.length,by simp,Nat.zero_le _,h0⟩,?_⟩
  rintro i m H ⟨rfl,hi,p⟩
  have q:=hl i H hi p
  by_cases hlt:i < xs.length
  · refine .inr ⟨⟨xs,xs[i],q,by simp [hlt]⟩,Pv (i + 1),fun H' p'=>⟨xs.length - (i + 1),by omega,rfl,hlt,p'⟩,fun x H' y=>?_⟩
    obtain ⟨e,y⟩:=y
    subst e
    exact hs i x _ (y xs q) p
  · have e:i=xs.length:=by omega
    subst e
    exact .inl ⟨⟨xs,q,Nat.le_refl _⟩,hd H p⟩
def AwK (N:List Str) (sc scope:Scope) (own:List (Str × Nat)):Bool :=
  (match scope.kind with | .function=>true | _=>false) && (scope.names.all fun y=>decide (scope.names.lookup y.1=some y.2)) && (own.all fun p=>decide (N[p.2]? = some p.1)) &&
    (scope.names.all fun y=>match y.2 with
      | .free=>(match sc.names.lookup y.1 with | some .cell=>true | some .free=>true | _=>false)
      | .local=>decide (y.1 ∈ own.map (·.1)) || decide (y.1 ∉ N)
      | .cell=>decide (y.1 ∈ own.map (·.1)) || decide (y.1 ∉ N)
      | _=>true)
theorem Lp {N:List Str} {sc scope:Scope} {own:List (Str × Nat)} (h:AwK N sc scope own=true):AnJ N sc scope own:=by
  unfold AwK at h
  simp only [Bool.and_eq_true,List.all_eq_true,decide_eq_true_eq] at h
  obtain ⟨⟨⟨h1,h2⟩,h3⟩,h4⟩:=h
  refine ⟨?_,h2,h3,fun y hy e=>?_,fun y hy e=>?_⟩
  · split at h1
    · assumption
    · cases h1
  · have q:=h4 y hy
    simp only [e] at q
    split at q <;> first | exact .inl (by assumption) | exact .inr (by assumption) | cases q
  · have q:=h4 y hy
    rcases e with e | e <;> (simp only [e,Bool.or_eq_true,decide_eq_true_eq] at q; exact q)
end L2
namespace L2
open PySem PySem.Spec PyProof.Rows
end L2
namespace L2
open PySem PySem.Spec PyProof.Rows
section
variable {κ:Type} [DecidableEq κ]
def Hs (kvs:List (κ × V)) (k:κ):Option V:=(kvs.find? fun kv=>decide (kv.1=k)).map (·.2)
def putK (kvs:List (κ × V)) (k:κ) (v:V):List (κ × V) :=
  if (kvs.any fun kv=>decide (kv.1=k))=true then kvs.map (fun kv=>if kv.1=k then (kv.1,v) else kv) else kvs++[(k,v)]
def WI (kvs:List (κ × V)) (k:κ):List (κ × V):=kvs.filter fun kv=>decide (kv.1≠k)
theorem Vs {p:κ × V} {r:List (κ × V)} {k:κ} (e:p.1=k):Hs (p::r) k=some p.2:=by simp [Hs,List.find?_cons,e]
theorem FI {p:κ × V} {r:List (κ × V)} {k:κ} (e : ¬ p.1=k):Hs (p::r) k=Hs r k:=by simp [Hs,List.find?_cons,e]
theorem Vr (k:κ):∀ kvs:List (κ × V),(kvs.any fun kv=>decide (kv.1=k))=(Hs kvs k).isSome
  | []=>rfl
  | p::r=>by
    rw [List.any_cons]
    by_cases e:p.1=k
    · simp only [Vs e,decide_eq_true e,Bool.true_or,Option.isSome_some]
    · rw [FI e,decide_eq_false e,Bool.false_or]; exact Vr k r
theorem WR (kvs:List (κ × V)) (k:κ) (v:V):(putK kvs k v).length≤kvs.length + 1:=by
  unfold putK
  split
  · rw [List.length_map]; omega
  · rw [List.length_append,List.length_cons,List.length_nil]; omega
theorem ArC {kvs:List (κ × V)} {k:κ} (v:V) (h:Hs kvs k=none):putK kvs k v=kvs++[(k,v)]:=by
  unfold putK
  rw [Vr,h]
  exact if_neg (by decide)
theorem Ln.L1 {o:Option V} {u:Option Value} (r:Ln o u):o.isSome=u.isSome:=by
  cases o with
  | none=>cases u with
    | none=>rfl
    | some _=>exact (show False from r).elim
  | some _=>cases u with
    | none=>exact (show False from r).elim
    | some _=>rfl
theorem Ln.getD {o:Option V} {u:Option Value} {d:V} {d':Value} (r:Ln o u) (rd:RelV d d'):RelV (o.getD d) (u.getD d'):=by
  cases o with
  | none=>cases u with
    | none=>exact rd
    | some _=>exact (show False from r).elim
  | some _=>cases u with
    | none=>exact (show False from r).elim
    | some _=>exact r
theorem KV.val {kvs:List (κ × V)} {vs:List (κ × Value)} (r:KV kvs vs) (k:κ):Ln (Hs kvs k) (valueAt vs k):=by
  unfold KV at r
  induction r with
  | nil=>exact True.intro
  | @cons p q ps qs h t ih =>
    obtain ⟨h1,h2⟩:=h
    by_cases e:p.1=k
    · have e':q.1=k:=h1.symm.trans e
      have b:valueAt (q::qs) k=some q.2:=by simp [valueAt,List.find?_cons,e']
      rw [Vs e,b]; exact h2
    · have e' : ¬ q.1=k:=fun z=>e (h1.trans z)
      have b:valueAt (q::qs) k=valueAt qs k:=by simp [valueAt,List.find?_cons,e']
      rw [FI e,b]; exact ih
theorem KV.any {kvs:List (κ × V)} {vs:List (κ × Value)} (r:KV kvs vs) (k:κ):(kvs.any fun kv=>decide (kv.1=k))=vs.any fun kv=>decide (kv.1=k):=by
  unfold KV at r
  induction r with
  | nil=>rfl
  | cons h t ih=>rw [List.any_cons,List.any_cons,ih,h.1]
theorem KV.Aqb {kvs:List (κ × V)} {vs:List (κ × Value)} (r:KV kvs vs) (k:κ) {y:V} {u:Value} (ry:RelV y u) :
    KV (kvs.map fun kv=>if kv.1=k then (kv.1,y) else kv) (vs.map fun kv=>if kv.1=k then (kv.1,u) else kv):=by
  unfold KV at r ⊢
  induction r with
  | nil=>exact .nil
  | @cons p q ps qs h t ih =>
    rw [List.map_cons,List.map_cons]
    refine .cons ?_ ih
    obtain ⟨h1,h2⟩:=h
    by_cases e:p.1=k
    · rw [if_pos e,if_pos (h1.symm.trans e)]; exact ⟨h1,ry⟩
    · rw [if_neg e,if_neg (fun z=>e (h1.trans z))]; exact ⟨h1,h2⟩
theorem KV.put {kvs:List (κ × V)} {vs:List (κ × Value)} (r:KV kvs vs) (k:κ) {y:V} {u:Value} (ry:RelV y u):KV (putK kvs k y) (stored vs k u):=by
  unfold putK stored
  rw [r.any k]
  by_cases e:(vs.any fun kv=>decide (kv.1=k))=true
  · rw [if_pos e,if_pos e]; exact r.Aqb k ry
  · rw [if_neg e,if_neg e]; exact Paired.snoc r ⟨rfl,ry⟩
theorem KV.drop {kvs:List (κ × V)} {vs:List (κ × Value)} (r:KV kvs vs) (k:κ):KV (WI kvs k) (without vs k):=by
  unfold KV at r ⊢
  unfold WI without
  induction r with
  | nil=>exact .nil
  | @cons p q ps qs h t ih =>
    obtain ⟨h1,h2⟩:=h
    rw [List.filter_cons,List.filter_cons]
    by_cases e:p.1=k
    · have a : ¬ decide (p.1≠k)=true:=by simp [e]
      have b : ¬ decide (q.1≠k)=true:=by simp [h1.symm.trans e]
      rw [if_neg a,if_neg b]; exact ih
    · have e' : ¬ q.1=k:=fun z=>e (h1.trans z)
      have a:decide (p.1≠k)=true:=by simp [e]
      have b:decide (q.1≠k)=true:=by simp [e']
      rw [if_pos a,if_pos b]; exact .cons ⟨h1,h2⟩ ih
theorem KV.length {kvs:List (κ × V)} {vs:List (κ × Value)} (r:KV kvs vs):kvs.length=vs.length:=Paired.length r
theorem AqT (kvs:List (κ × V)) (k:κ):(WI kvs k).length≤kvs.length:=List.length_filter_le _ _
end
theorem UL {P:Program} {w:World} {k:Key} {u:Value} (r:RelV (kV k) u):(C0 P w).is k u=true:=by
  cases k with
  | inl i=>obtain ⟨t,e⟩:=(show ∃ t,u=Value.int i t from r); subst e; exact AiQ P w i t
  | inr x=>obtain ⟨t,e⟩:=(show ∃ t,u=Value.str x t from r); subst e; exact AiR P w x t
theorem Ad4 {P:Program} {w:World}:∀ {ks:List Key} {us:List Value},Vals (ks.map kV) us→ItemsAre (C0 P w) ks us
  | [],_,r=>by rw [List.map_nil] at r; cases r; exact .nil
  | k::ks,_,r=>by
    rw [List.map_cons] at r
    cases r with
    | cons h t=>exact .cons (UL h) (Ad4 t)
abbrev KT (H:Hp):List (List Key × V)→List (List Key × Addr × Value)→Prop:=Paired fun p q=>p.1=q.1∧H q.2.1=some (.tup (p.1.map kV))∧RelV p.2 q.2.2
theorem KT.val {H:Hp} {kvs:List (List Key × V)} {xs:List (List Key × Addr × Value)} (r:KT H kvs xs) (k:List Key):Ln (Hs kvs k) ((atKey xs k).map (·.2)):=by
  induction r with
  | nil=>exact True.intro
  | @cons p q ps qs h t ih =>
    obtain ⟨h1,_,h2⟩:=h
    by_cases e:p.1=k
    · have e':q.1=k:=h1.symm.trans e
      have b:atKey (q::qs) k=some q.2:=by simp [atKey,List.find?_cons,e']
      rw [Vs e,b]; exact h2
    · have e' : ¬ q.1=k:=fun z=>e (h1.trans z)
      have b:atKey (q::qs) k=atKey qs k:=by simp [atKey,List.find?_cons,e']
      rw [FI e,b]; exact ih
theorem KT.Aqb {H:Hp} {kvs:List (List Key × V)} {xs:List (List Key × Addr × Value)} (r:KT H kvs xs) (k:List Key) {y:V} {u:Value} (ry:RelV y u) :
    KT H (kvs.map fun kv=>if kv.1=k then (kv.1,y) else kv) (xs.map (putAt k u)):=by
  induction r with
  | nil=>exact .nil
  | @cons p q ps qs h t ih =>
    rw [List.map_cons,List.map_cons]
    refine .cons ?_ ih
    obtain ⟨h1,h2,h3⟩:=h
    unfold putAt
    by_cases e:p.1=k
    · rw [if_pos e,if_pos (h1.symm.trans e)]; exact ⟨h1,h2,ry⟩
    · rw [if_neg e,if_neg (fun z=>e (h1.trans z))]; exact ⟨h1,h2,h3⟩
theorem KT.put {H:Hp} {kvs:List (List Key × V)} {xs:List (List Key × Addr × Value)} (r:KT H kvs xs) (k:List Key) {b:Addr} {y:V} {u:Value} (hb:H b=some (.tup (k.map kV))) (ry:RelV y u) :
    KT H (putK kvs k y) (storedH xs k b u):=by
  have e:(kvs.any fun kv=>decide (kv.1=k))=(atKey xs k).isSome:=by
    rw [Vr,(r.val k).L1,Option.isSome_map]
  unfold putK storedH
  rw [e]
  by_cases q:(atKey xs k).isSome=true
  · rw [if_pos q,if_pos q]; exact r.Aqb k ry
  · rw [if_neg q,if_neg q]; exact Paired.snoc r ⟨rfl,hb,ry⟩
theorem KT.keeps {H H':Hp} {kvs:List (List Key × V)} {xs:List (List Key × Addr × Value)} (r:KT H kvs xs) (ht:∀ b ys,H b=some (.tup ys)→H' b=some (.tup ys)):KT H' kvs xs :=
  Paired.AvC r fun _ _ z=>⟨z.1,ht _ _ z.2.1,z.2.2⟩
section
variable {P:Program} {w:World} {H:Hp} {h:Heap} {a:Addr}
theorem AuI {u:HO} (ok:HOk P w H h) (e:Rd H a u):DK P w H h a u:=e.ok ok
theorem WH {kvs:List (Key × V)} (ok:HOk P w H h) (e:Rd H a (.dK kvs)):kvs.length≤sizeLine∧(a == sysModules)=false∧∃ vs,KV kvs vs∧h.DictOf (C0 P w) a vs :=
  show DK P w H h a (.dK kvs) from AuI ok e
theorem AuC {kvs:List (Key × V)} (ok:HOk P w H h) (e:H a=some (.dK kvs)):kvs.length≤sizeLine∧(a == sysModules)=false∧∃ vs,KV kvs vs∧h.DictOf (C0 P w) a vs:=WH ok (.inl e)
theorem Wb {ks:List Key} (ok:HOk P w H h) (e:H a=some (.tup (ks.map kV))):(tupleKind (C0 P w)).is h ks a:=by
  obtain ⟨_,its,r,o,h1,h2,n,h3⟩:=(show DK P w H h a (.tup (ks.map kV)) from ok a _ e)
  exact ⟨o,its.toArray,n,h1,h2,h3,by simpa using Ad4 r⟩
theorem ZM {kvs:List (List Key × V)} (ok:HOk P w H h) (e:Rd H a (.dT kvs)):kvs.length≤sizeLine∧(a == sysModules)=false ∧
    ∃ xs,KT H kvs xs∧h.DictOfH (tupleKind (C0 P w)) a xs:=by
  obtain ⟨z,y,xs,r,o,es,ep,h1,h2,h3,h4,h5⟩:=(show DK P w H h a (.dT kvs) from AuI ok e)
  refine ⟨z,y,xs,r,o,es,ep,h1,h2,h3,h4,fun x hx=>?_,h5⟩
  have all:∀ {l:List (List Key × V)} {m:List (List Key × Addr × Value)},KT H l m→∀ x ∈ m,(tupleKind (C0 P w)).is h x.1 x.2.1:=by
    intro l m q
    induction q with
    | nil=>intro x hx; exact nomatch hx
    | @cons p q ps qs hq t ih =>
      intro x hx
      rcases List.mem_cons.mp hx with e | hx
      · subst e
        exact Wb ok (by rw [← hq.1]; exact hq.2.1)
      · exact ih x hx
  exact all r x hx
theorem AqV {kvs:List (List Key × V)} (ok:HOk P w H h) (e:H a=some (.dT kvs)):kvs.length≤sizeLine∧(a == sysModules)=false ∧
    ∃ xs,KT H kvs xs∧h.DictOfH (tupleKind (C0 P w)) a xs:=ZM ok (.inl e)
end
def HD (H:Hp) (a:Addr) (y:V) (r:Option V):Prop :=
  (∃ kvs k,Rd H a (.dK kvs)∧y=kV k∧r=Hs kvs k)∨∃ kvs k b,Rd H a (.dT kvs)∧y=.ref b∧H b=some (.tup (k.map kV))∧r=Hs kvs k
def Qz (H:Hp) (a:Addr) (y v:V) (H':Hp):Prop :=
  (∃ kvs k,H a=some (.dK kvs)∧y=kV k∧kvs.length < sizeLine∧H'=upd H a (.dK (putK kvs k v))) ∨
  ∃ kvs k b,H a=some (.dT kvs)∧y=.ref b∧H b=some (.tup (k.map kV))∧kvs.length < sizeLine∧H'=upd H a (.dT (putK kvs k v))
theorem HD.k {H:Hp} {a:Addr} {kvs:List (Key × V)} {k:Key} (e:H a=some (.dK kvs)):HD H a (kV k) (Hs kvs k):=.inl ⟨kvs,k,.inl e,rfl,rfl⟩
theorem HD.t {H:Hp} {a b:Addr} {kvs:List (List Key × V)} {k:List Key} (e:H a=some (.dT kvs)) (eb:H b=some (.tup (k.map kV))):HD H a (.ref b) (Hs kvs k):=.inr ⟨kvs,k,b,.inl e,rfl,eb,rfl⟩
theorem Qz.k {H:Hp} {a:Addr} {kvs:List (Key × V)} {k:Key} {v:V} (e:H a=some (.dK kvs)) (hl:kvs.length < sizeLine):Qz H a (kV k) v (upd H a (.dK (putK kvs k v))):=.inl ⟨kvs,k,e,rfl,hl,rfl⟩
theorem Qz.t {H:Hp} {a b:Addr} {kvs:List (List Key × V)} {k:List Key} {v:V} (e:H a=some (.dT kvs)) (eb:H b=some (.tup (k.map kV))) (hl:kvs.length < sizeLine) :
    Qz H a (.ref b) v (upd H a (.dT (putK kvs k v))):=.inr ⟨kvs,k,b,e,rfl,eb,hl,rfl⟩
section
variable {X:Cx} {pins:List (Addr × Obj)} {σ:St} {H:Hp} {s:Shared} {a:Addr} {y v:V} {u r:Value} {o:Option V} {A:Around} {E:Value→Shared→Prop}
theorem Inv.big (I:Inv X pins σ H s):sysModules < s.heap.objs.size:=by
  have h:mainGlobals < s.heap.objs.size:=(I.mod.glob.keeps I.bk).lt
  exact Nat.lt_trans (by decide) h
theorem Apg {Q:Value→Shared→Prop} (hu:A.units + 1 < cLine) (I:Inv X pins σ H s) (g:HD H a y (some v)) (ry:RelV y u) (h:∀ w' s',Inv X pins σ H s'→RelV v w'→Q w' s') :
    wpAny (model X.prog X.w) A (getItem (.ref a) u) Q E s:=by
  rcases g with ⟨kvs,k,e,ey,l⟩ | ⟨kvs,k,b,e,ey,eb,l⟩
  · subst ey
    obtain ⟨z,hd,vs,rel,dd⟩:=WH I.hok e
    obtain ⟨w',hw,rw'⟩:=Ln.some_of (v:=v) (o:=valueAt vs k) (by rw [l]; exact rel.val k)
    exact wpAny_getItem_of (UL ry) dd.mapOf hw (h w' _ (I.tok _) rw')
  · subst ey
    cases (show u=Value.ref b from ry)
    obtain ⟨z,hd,xs,rel,dd⟩:=ZM I.hok e
    obtain ⟨w',hw,rw'⟩:=Ln.some_of (v:=v) (o:=(atKey xs k).map (·.2)) (by rw [l]; exact rel.val k)
    obtain ⟨p,hp,hp2⟩:=Option.map_eq_some_iff.mp hw
    refine wpAny_getItem_heap (tupleKind_room_in1 hu) (Wb I.hok eb) dd hp ?_
    rw [hp2]
    exact h w' _ (I.tok _) rw'
theorem Axv {Q:Value→Shared→Prop} (hu:A.units + 1 < cLine) (I:Inv X pins σ H s) (g:HD H a y o) (ry:RelV y u) (h:∀ s',Inv X pins σ H s'→Q (.bool o.isSome) s') :
    wpAny (model X.prog X.w) A (compareOp .In u (.ref a)) Q E s:=by
  rcases g with ⟨kvs,k,e,ey,l⟩ | ⟨kvs,k,b,e,ey,eb,l⟩
  · subst ey
    obtain ⟨z,hd,vs,rel,dd⟩:=WH I.hok e
    refine wpAny_in_of (UL ry) hd dd.mapOf ?_
    rw [← (rel.val k).L1,← l]
    exact h _ (I.tok _)
  · subst ey
    cases (show u=Value.ref b from ry)
    obtain ⟨z,hd,xs,rel,dd⟩:=ZM I.hok e
    refine wpAny_in_heap (tupleKind_room_in1 hu) (Wb I.hok eb) hd dd ?_
    have q:=(rel.val k).L1
    rw [Option.isSome_map] at q
    rw [← q,← l]
    exact h _ (I.tok _)
theorem AsT {Q:Value→Shared→Prop} (hu:A.units + 1 < cLine) (I:Inv X pins σ H s) (g:HD H a y o) (ry:RelV y u) (h:∀ s',Inv X pins σ H s'→Q (.bool (!o.isSome)) s') :
    wpAny (model X.prog X.w) A (compareOp .NotIn u (.ref a)) Q E s:=by
  rcases g with ⟨kvs,k,e,ey,l⟩ | ⟨kvs,k,b,e,ey,eb,l⟩
  · subst ey
    obtain ⟨z,hd,vs,rel,dd⟩:=WH I.hok e
    refine wpAny_notIn_of (UL ry) hd dd.mapOf ?_
    rw [← (rel.val k).L1,← l]
    exact h _ (I.tok _)
  · subst ey
    cases (show u=Value.ref b from ry)
    obtain ⟨z,hd,xs,rel,dd⟩:=ZM I.hok e
    refine wpAny_notIn_heap (tupleKind_room_in1 hu) (Wb I.hok eb) hd dd ?_
    have q:=(rel.val k).L1
    rw [Option.isSome_map] at q
    rw [← q,← l]
    exact h _ (I.tok _)
theorem AeL {h':Heap} {t':Nat} {ob:HO} (I:Inv X pins σ H s) (mu:Mut (H a)) (hs:Heap.SameBut a s.heap h') (he:∃ q,h'.get? a=some q) (new:DK X.prog X.w (upd H a ob) h' a ob) :
    Inv X pins σ (upd H a ob) { s with heap:=h',toks:=t' } :=
  I.write (x:=a) (e:=a) mu (.inl rfl) (fun b q hb z=>(hs.2 b hb).trans z) he new
theorem AqQ {P:Program} {w:World} {H':Hp} {h':Heap} {kvs:List (Key × V)} {vs:List (Key × Value)} (z:kvs.length≤sizeLine) (hd:(a == sysModules)=false) (rel:KV kvs vs) (dd:h'.DictOf (C0 P w) a vs) :
    DK P w H' h' a (.dK kvs):=⟨z,hd,vs,rel,dd⟩
theorem Aph {H':Hp} {Q:Unit→Shared→Prop} (hu:A.units + 1 < cLine) (I:Inv X pins σ H s) (g:Qz H a y v H') (ry:RelV y u) (rv:RelV v r) (h:∀ s',Inv X pins σ H' s'→Q () s') :
    wpAny (model X.prog X.w) A (setItem (.ref a) u r) Q E s:=by
  rcases g with ⟨kvs,k,e,ey,l,eH⟩ | ⟨kvs,k,b,e,ey,eb,l,eH⟩
  · subst ey eH
    obtain ⟨z,hd,vs,rel,dd⟩:=AuC I.hok e
    have hz:vs.length≤sizeLine:=by rw [← rel.length]; exact z
    have hl:(putK kvs k v).length≤sizeLine:=by have:=WR kvs k v; omega
    refine wpAny_setItem_pairs (hsz:=hz) (UL ry) dd fun h' dd' hs=>h _ ?_
    have he:∃ q,h'.get? a=some q:=let ⟨q,_,_,hq,_⟩:=dd'; ⟨q,hq⟩
    exact AeL I (by rw [e]; exact True.intro) hs he (AqQ hl hd (rel.put k rv) dd')
  · subst ey eH
    cases (show u=Value.ref b from ry)
    obtain ⟨z,hd,xs,rel,dd⟩:=AqV I.hok e
    have hz:xs.length≤sizeLine:=by rw [← Paired.length rel]; exact z
    have hl:(putK kvs k v).length≤sizeLine:=by have:=WR kvs k v; omega
    refine wpAny_setItem_heap (hsz:=hz) (tupleKind_room_in1 hu) (Wb I.hok eb) dd fun h' dd' hs=>h _ ?_
    obtain ⟨q,es,ep,hq,h2,h3,h4,_,h5⟩:=dd'
    refine AeL I (by rw [e]; exact True.intro) hs ⟨q,hq⟩ ⟨hl,hd,_,(rel.put k eb rv).keeps fun c ys ec=>?_,q,es,ep,hq,h2,h3,h4,h5⟩
    rw [A9 (Vb ec e (fun z=>nomatch z))]
    exact ec
end
section
variable {X:Cx} {pins:List (Addr × Obj)} {σ:St} {H:Hp} {s:Shared} {a:Addr} {kvs:List (Key × V)} {k:Key} {u:Value} {A:Around} {E:Value→Shared→Prop}
theorem AwN {v:V} {more:List Value} {Q:Value→Shared→Prop} (I:Inv X pins σ H s) (e:H a=some (.dK kvs)) (ry:RelV (kV k) u) (l:Hs kvs k=some v) (hm:more=[]∨∃ x,more=[x])
    (h:∀ w' s',Inv X pins σ (upd H a (.dK (WI kvs k))) s'→RelV v w'→Q w' s'):wpAny (model X.prog X.w) A (call (.builtin "dict.pop") (.ref a::u::more)) Q E s:=by
  obtain ⟨z,hd,vs,rel,dd⟩:=AuC I.hok e
  obtain ⟨w',hw,rw'⟩:=Ln.some_of (v:=v) (o:=valueAt vs k) (by rw [← l]; exact rel.val k)
  have hp:(keyPart u).isSome=true:=by
    cases k with
    | inl i=>obtain ⟨t,q⟩:=(show ∃ t,u=Value.int i t from ry); subst q; rfl
    | inr x=>obtain ⟨t,q⟩:=(show ∃ t,u=Value.str x t from ry); subst q; rfl
  have ha:argsOk "dict.pop" ⟨.ref a::u::more,[]⟩:=by
    rcases hm with q | ⟨x,q⟩
    · subst q; exact PySem.F.args_dict_pop_2 _ _
    · subst q; exact PySem.F.args_dict_pop_3 _ _ _
  refine call_meetsIn PySem.F.slot_dict_pop dd.typeIs PySem.F.entry_dict_pop ha (meets_dict_pop_there (C0 X.prog X.w) a (UL ry) more hm hp)
    ⟨vs,w',dd,by rw [← rel.length]; exact z,hw,fun h' dd' hs=>h w' _ ?_ rw'⟩
  have he:∃ q,h'.get? a=some q:=let ⟨q,_,_,hq,_⟩:=dd'; ⟨q,hq⟩
  exact AeL I (by rw [e]; exact True.intro) hs he (AqQ (Nat.le_trans (AqT kvs k) z) hd (rel.drop k) dd')
theorem AwM {Q:Value→Shared→Prop} (I:Inv X pins σ H s) (e:Rd H a (.dK kvs)) (h:∀ t s',Inv X pins σ H s'→Q (.int kvs.length t) s'):wpAny (model X.prog X.w) A (call (.builtin "len") [.ref a]) Q E s:=by
  obtain ⟨z,hd,vs,rel,dd⟩:=WH I.hok e
  refine call_len_dict hd dd (by rw [← rel.length]; rw [sizeLine_eq] at z; omega) ?_
  rw [← rel.length]
  exact h _ _ (I.tok _)
end
def AuM (i:Expr):Prop:=∀ ov iv,subscripted i false ov iv=operate [ov,iv] (getItem ov iv)
theorem Aoy {prog:Program} {w:World} {A:Around} {E:Value→Shared→Prop} {s:Shared} {env:Env} {value slice:Expr} {pos:Pos} {T id:String} {Q:Value→Shared→Prop}
    (hl:typeLookup (.type T) "__getitem__" = pure (some (.builtin id))) (hs:AuM slice)
    (h:wpAny (model prog w) A (eval value env) (fun o s₁=>wpAny (model prog w) A (eval slice env) (fun i s₂=>s₂.TypeIs o T∧wpAny (model prog w) A (getItem o i) Q E s₂) E s₁) E s) :
    wpAny (model prog w) A (eval (.Subscript value slice pos) env) Q E s:=by
  refine Subscript_ (wpAny_mono h (fun o s₁ h₁=>wpAny_mono h₁ (fun i s₂ h₂=>?_) fun _ _ x=>x) fun _ _ x=>x)
  obtain ⟨hT,h₂⟩:=h₂
  unfold subscriptTail
  refine wpAny_bind ?_
  rw [getitemInPython_of_ne hT.not_modules]
  refine wpAny_bind (wpAny_specialOf hT hl ?_)
  have fin:wpAny (model prog w) A (subscripted slice false o i) (fun r s₃=>wpAny (model prog w) A (letTemporaryGo value o r >>= fun _=>pure r) Q E s₃) E s₂:=by
    rw [hs o i]
    exact wpAny_operating (wpAny_mono h₂ (fun r s₃ h₃=>wpAny_bind (wpAny_letTemporaryGo (wpAny_pure h₃))) fun _ _ x=>x)
  first
    | exact wpAny_pure (wpAny_bind fin)
    | exact wpAny_bind (wpAny_pure (wpAny_bind fin))
    | exact wpAny_bind fin
theorem AhW {X:Cx} {pins:List (Addr × Obj)} {σ:St} {H:Hp} {s:Shared} {a:Addr} {y:V} {o:Option V} (I:Inv X pins σ H s) (g:HD H a y o):s.TypeIs (.ref a) "dict":=by
  rcases g with ⟨kvs,k,e,_,_⟩ | ⟨kvs,k,b,e,_,_,_⟩
  · obtain ⟨_,_,vs,_,dd⟩:=WH I.hok e
    exact dd.typeIs
  · obtain ⟨_,_,xs,_,dd⟩:=ZM I.hok e
    exact dd.typeIs
def AjP (td ty:TE):TE:=fun σ H Q=>td σ H fun x H1=>ty σ H1 fun y H2=>∃ a v,x=.ref a∧HD H2 a y (some v)∧Q v H2
def Awn (ty td:TE):TE:=fun σ H Q=>ty σ H fun y H1=>td σ H1 fun x H2=>∃ a o,x=.ref a∧HD H2 a y o∧Q (.bl o.isSome) H2
def AgK (ty td:TE):TE:=fun σ H Q=>ty σ H fun y H1=>td σ H1 fun x H2=>∃ a o,x=.ref a∧HD H2 a y o∧Q (.bl (!o.isSome)) H2
def ArL (td ty tv:TE):TS:=fun D σ H=>tv σ H fun v H1=>td σ H1 fun x H2=>ty σ H2 fun y H3=>∃ a H4,x=.ref a∧Qz H3 a y v H4∧D.nx σ H4
section
variable {X:Cx} {o i e value:Expr} {pos pos' tpos:Pos} {td ty tv:TE}
theorem K1 (hu:X.A.units + 1 < cLine) (ho:PE X o td) (hi:PE X i ty) (hs:AuM i):PE X (.Subscript o i pos) (AjP td ty):=by
  intro pins s σ H Q I h
  refine Aoy PySem.F.slot_dict_getitem.lookup hs (thn (ho pins s σ H _ I h) fun u s1 ⟨x,H1,I1,rx,q1⟩=>thn (hi pins s1 σ H1 _ I1 q1) fun iv s2 ⟨y,H2,I2,ry,a,v,ex,g,q2⟩=>?_)
  subst ex
  obtain rfl:u=Value.ref a:=rx
  exact ⟨AhW I2 g,Apg hu I2 g ry fun w' s3 I3 rw'=>⟨v,H2,I3,rw',q2⟩⟩
theorem AvJ (hu:X.A.units + 1 < cLine) (hi:PE X i ty) (ho:PE X o td):PC X .In i o (Awn ty td):=by
  intro pins s σ H Q I h
  refine thn (hi pins s σ H _ I h) fun iv s1 ⟨y,H1,I1,ry,q1⟩=>thn (ho pins s1 σ H1 _ I1 q1) fun u s2 ⟨x,H2,I2,rx,a,ov,ex,g,q2⟩=>?_
  subst ex
  obtain rfl:u=Value.ref a:=rx
  exact Axv hu I2 g ry fun s3 I3=>⟨.bl ov.isSome,H2,I3,rfl,q2⟩
theorem ApX (hu:X.A.units + 1 < cLine) (hi:PE X i ty) (ho:PE X o td):PC X .NotIn i o (AgK ty td):=by
  intro pins s σ H Q I h
  refine thn (hi pins s σ H _ I h) fun iv s1 ⟨y,H1,I1,ry,q1⟩=>thn (ho pins s1 σ H1 _ I1 q1) fun u s2 ⟨x,H2,I2,rx,a,ov,ex,g,q2⟩=>?_
  subst ex
  obtain rfl:u=Value.ref a:=rx
  exact AsT hu I2 g ry fun s3 I3=>⟨.bl (!ov.isSome),H2,I3,rfl,q2⟩
theorem Jc (hu:X.A.units + 1 < cLine) (ho:PE X o td) (hi:PE X i ty) (hv:PE X value tv) (hs:swapsWith value (some (.Subscript o i pos')) pos.line X.env=pure false) :
    PS X (.Assign [.Subscript o i pos'] value pos) (ArL td ty tv):=by
  intro pins s σ H D I h
  refine wpAny_Assign_Subscript (thn (hv pins s σ H _ I h) fun r s1 ⟨v,H1,I1,rv,q1⟩=>thn (ho pins s1 σ H1 _ I1 q1) fun u s2 ⟨x,H2,I2,rx,q2⟩=>thn (hi pins s2 σ H2 _ I2 q2) fun iv s3 ⟨y,H3,I3,ry,a,H4,ex,g,q3⟩=>?_) hs
  subst ex
  obtain rfl:u=Value.ref a:=rx
  exact Aph hu I3 g ry rv fun s4 I4=>⟨σ,H4,I4,q3⟩
end
theorem AqP {P:Program} {w:World} {H:Hp} (h:Heap) (hb:sysModules < h.objs.size):DK P w H (h.push { cls:=.type "dict",data:=.dict #[] }) h.objs.size (.dK []) :=
  ⟨Nat.zero_le _,beq_eq_false_iff_ne.mpr (Ne.symm (Nat.ne_of_lt hb)),[],.nil,Heap.DictOf.new h⟩
theorem AqU {P:Program} {w:World} {H:Hp} (h:Heap) (hb:sysModules < h.objs.size):DK P w H (h.push { cls:=.type "dict",data:=.dict #[] }) h.objs.size (.dT []) :=
  ⟨Nat.zero_le _,beq_eq_false_iff_ne.mpr (Ne.symm (Nat.ne_of_lt hb)),[],.nil,_,#[],0,Heap.get?_push_size _ rfl,⟨rfl,rfl,rfl⟩,rfl,rfl,List.nodup_nil⟩
def AmP:TE:=fun _ H Q=>∀ p,H p=none→Q (.ref p) (upd H p (.dK []))
def AmQ:TE:=fun _ H Q=>∀ p,H p=none→Q (.ref p) (upd H p (.dT []))
section
variable {X:Cx} {pos:Pos}
theorem Ajq:PE X (.Dict [] [] pos) AmP:=fun pins s σ H Q I h =>
  wpAny_Dict_empty ⟨.ref s.heap.objs.size,_,I.laid (a:=s.heap.objs.size) (o:=.dK []) (t':=s.toks) (fun _ _ q=>Heap.get?_push_of_some _ q) (Nat.le_refl _) (AqP s.heap I.big),rfl,h _ (I.hok.fresh (Nat.le_refl _))⟩
theorem P5:PE X (.Dict [] [] pos) AmQ:=fun pins s σ H Q I h =>
  wpAny_Dict_empty ⟨.ref s.heap.objs.size,_,I.laid (a:=s.heap.objs.size) (o:=.dT []) (t':=s.toks) (fun _ _ q=>Heap.get?_push_of_some _ q) (Nat.le_refl _) (AqU s.heap I.big),rfl,h _ (I.hok.fresh (Nat.le_refl _))⟩
end
structure M1 (X:Cx) (o:Expr) (m:Str) (apos:Pos) (e:Expr) (cpos:Pos):Prop where
  base:attributeBase o m X.env (eval o X.env)=eval o X.env
  few:((backTo cpos (starEach [e] X.env)).all (fun x=>!x.1) && (backToKw cpos (keywordEach [] X.env)).all (fun x=>x.1.isSome)
    && decide (([e]:List Expr).length + ([]:List Keyword).length + (if ([]:List Keyword).isEmpty then 0 else 1) < 30))=true
  line:(apos.endLine == cpos.line)=true
  trees:backTo cpos (starEach [e] X.env)=[(false,eval e X.env)]
structure M2 (X:Cx) (o:Expr) (m:Str) (apos:Pos) (e f:Expr) (cpos:Pos):Prop where
  base:attributeBase o m X.env (eval o X.env)=eval o X.env
  few:((backTo cpos (starEach [e,f] X.env)).all (fun x=>!x.1) && (backToKw cpos (keywordEach [] X.env)).all (fun x=>x.1.isSome)
    && decide (([e,f]:List Expr).length + ([]:List Keyword).length + (if ([]:List Keyword).isEmpty then 0 else 1) < 30))=true
  line:(apos.endLine == cpos.line)=true
  trees:backTo cpos (starEach [e,f] X.env)=[(false,eval e X.env),(false,eval f X.env)]
def IsD (H:Hp) (a:Addr):Prop:=(∃ kvs,Rd H a (.dK kvs))∨∃ kvs,Rd H a (.dT kvs)
theorem Arn {X:Cx} {pins:List (Addr × Obj)} {σ:St} {H:Hp} {s:Shared} {a:Addr} (I:Inv X pins σ H s) (d:IsD H a) :
    s.TypeIs (.ref a) "dict"∧(∀ b,Value.ref a=.ref b→∃ ob,s.heap.get? b=some ob∧ob.dict=none)∧(a == sysModules)=false:=by
  rcases d with ⟨kvs,e⟩ | ⟨kvs,e⟩
  · obtain ⟨_,hd,vs,_,dd⟩:=WH I.hok e
    refine ⟨dd.typeIs,fun b q=>?_,hd⟩
    cases q
    obtain ⟨ob,_,_,h1,h2,_⟩:=dd
    exact ⟨ob,h1,h2.2.1⟩
  · obtain ⟨_,hd,xs,_,dd⟩:=ZM I.hok e
    refine ⟨dd.typeIs,fun b q=>?_,hd⟩
    cases q
    obtain ⟨ob,_,_,h1,h2,_⟩:=dd
    exact ⟨ob,h1,h2.2.1⟩
section
variable {X:Cx} {pins:List (Addr × Obj)} {σ:St} {H:Hp} {s:Shared} {a:Addr} {y d:V} {u r:Value} {o:Option V} {A:Around} {E:Value→Shared→Prop}
theorem AuW {Q:Value→Shared→Prop} (hu:A.units + 1 < cLine) (I:Inv X pins σ H s) (g:HD H a y o) (ry:RelV y u) (rd:RelV d r) (h:∀ w' s',Inv X pins σ H s'→RelV (o.getD d) w'→Q w' s') :
    wpAny (model X.prog X.w) A (call (.builtin "dict.get") [.ref a,u,r]) Q E s:=by
  rcases g with ⟨kvs,k,e,ey,l⟩ | ⟨kvs,k,b,e,ey,eb,l⟩
  · subst ey
    obtain ⟨z,hd,vs,rel,dd⟩:=WH I.hok e
    refine call_meetsIn PySem.F.slot_dict_get dd.typeIs PySem.F.entry_dict_get (PySem.F.args_dict_get_3 _ _ _) (meets_dict_get_default (C0 X.prog X.w) a (UL ry) hd r) ⟨_,dd.mapOf,h _ _ (I.tok _) ?_⟩
    rw [l]
    exact (rel.val k).getD rd
  · subst ey
    cases (show u=Value.ref b from ry)
    obtain ⟨z,hd,xs,rel,dd⟩:=ZM I.hok e
    refine call_meetsIn PySem.F.slot_dict_get dd.typeIs PySem.F.entry_dict_get (PySem.F.args_dict_get_3 _ _ _) (meetsH_dict_get_default (tupleKind (C0 X.prog X.w)) a b hd r) ⟨tupleKind_room_in1 hu,k,xs,Wb I.hok eb,dd,h _ _ (I.tok _) ?_⟩
    rw [l]
    exact (rel.val k).getD rd
end
def Ass (td ty:TE):TE:=fun σ H Q=>td σ H fun x H1=>∃ a,x=.ref a∧IsD H1 a∧ty σ H1 fun y H2=>∃ o,HD H2 a y o∧Q (o.getD .non) H2
def AmO (td ty tx:TE):TE:=fun σ H Q=>td σ H fun x H1=>∃ a,x=.ref a∧IsD H1 a∧ty σ H1 fun y H2=>tx σ H2 fun z H3=>∃ o,HD H3 a y o∧Q (o.getD z) H3
def AmR (td ty:TE):TE:=fun σ H Q=>td σ H fun x H1=>∃ a,x=.ref a∧IsD H1 a∧ty σ H1 fun y H2=>∃ kvs k v,H2 a=some (.dK kvs)∧y=kV k∧Hs kvs k=some v∧Q v (upd H2 a (.dK (WI kvs k)))
section
variable {X:Cx} {o e f:Expr} {apos cpos:Pos} {td ty tx:TE}
theorem Vg (hu:X.A.units + 1 < cLine) (ho:PE X o td) (he:PE X e ty) (hf:PE X f tx) (m:M2 X o "get" apos e f cpos):PE X (.Call (.Attribute o "get" apos) [e,f] [] cpos) (AmO td ty tx):=by
  intro pins s σ H Q I h
  refine wpAny_Call_method m.base m.few m.line PySem.F.plainAttrs_dict PySem.F.slot_dict_get PySem.F.type_dict_get (thn (ho pins s σ H _ I h) fun u s1 ⟨x,H1,I1,rx,a,ex,d,q1⟩=>?_)
  subst ex
  obtain rfl:u=Value.ref a:=rx
  obtain ⟨t1,t2,_⟩:=Arn I1 d
  refine ⟨t1,t2,?_⟩
  rw [m.trees]
  refine Calls.callWith_builtin rfl (Calls.evalArgs_plain (Calls.spliced_cons (thn (he pins s1 σ H1 _ I1 q1) fun iv s2 ⟨y,H2,I2,ry,q2⟩ =>
    Calls.spliced_cons (thn (hf pins s2 σ H2 _ I2 q2) fun fv s3 ⟨z,H3,I3,rz,ov,g,q3⟩=>Calls.spliced_nil ?_))))
  exact AuW hu I3 g ry rz fun w' s4 I4 rw'=>⟨_,H3,I4,rw',q3⟩
theorem Ar6 (ho:PE X o td) (he:PE X e ty) (m:M1 X o "pop" apos e cpos):PE X (.Call (.Attribute o "pop" apos) [e] [] cpos) (AmR td ty):=by
  intro pins s σ H Q I h
  refine wpAny_Call_method m.base m.few m.line PySem.F.plainAttrs_dict PySem.F.slot_dict_pop PySem.F.type_dict_pop (thn (ho pins s σ H _ I h) fun u s1 ⟨x,H1,I1,rx,a,ex,d,q1⟩=>?_)
  subst ex
  obtain rfl:u=Value.ref a:=rx
  obtain ⟨t1,t2,_⟩:=Arn I1 d
  refine ⟨t1,t2,?_⟩
  rw [m.trees]
  refine Calls.callWith_builtin rfl (Calls.evalArgs_plain (Calls.spliced_cons (thn (he pins s1 σ H1 _ I1 q1) fun iv s2 ⟨y,H2,I2,ry,kvs,k,v,ea,ey,l,q2⟩=>Calls.spliced_nil ?_)))
  subst ey
  exact AwN I2 ea ry l (.inl rfl) fun w' s3 I3 rw'=>⟨v,_,I3,rw',q2⟩
end
end L2
namespace L2
open PySem PySem.Spec PyProof.Rows
end L2
namespace L2
open PySem PySem.Spec PyProof.Rows
section
variable {X:Cx} {pins:List (Addr × Obj)} {σ:St} {H:Hp} {s:Shared} {h':Heap}
theorem Inv.lock {d:Addr} {u:HO} (I:Inv X pins σ H s) (h:H d=some u) (mu:Mut (some u)):∃ od,Inv X pins σ (upd H d (.frz od u)) s:=by
  have x:=I.hok d u h
  have ex:∃ od,s.heap.get? d=some od:=by
    cases u with
    | lst xs=>obtain ⟨_,_,_,_,e⟩:=x; exact ⟨_,e⟩
    | dK kvs=>obtain ⟨_,_,_,_,o,_,_,e,_⟩:=x; exact ⟨o,e⟩
    | dT kvs=>obtain ⟨_,_,_,_,o,_,_,e,_⟩:=x; exact ⟨o,e⟩
    | set S n=>obtain ⟨o,_,_,_,e,_⟩:=x; exact ⟨o,e⟩
    | ins C dx fs=>obtain ⟨_,_,_,e,_⟩:=x; exact ⟨_,e⟩
    | ext φ=>obtain ⟨_,⟨_,e⟩,_⟩:=x; exact ⟨_,e⟩
    | _=>exact False.elim mu
  obtain ⟨od,e⟩:=ex
  have new:DK X.prog X.w (upd H d (.frz od u)) s.heap d (.frz od u):=by
    refine ⟨e,x.AjM (fun b v _ q=>q) (fun b q=>?_) fun b xs q=>?_⟩
    · rw [A9 (fun z=>by rw [z,h] at q; cases q; exact mu)]; exact q
    · rw [A9 (fun z=>by rw [z,h] at q; cases q; exact mu)]; exact q
  exact ⟨od,I.write (x:=d) (e:=d) (t':=s.toks) (h':=s.heap) (by rw [h]; exact mu) (.inl rfl) (fun b v _ q=>q) ⟨od,e⟩ new⟩
theorem Inv.AiU {d:Addr} {u:HO} (I:Inv X pins σ H s) (h:H d=some u) (mu:Mut (some u)):∀ o' u',X.H_0 d≠some (.frz o' u'):=fun o' u' e=>by
  have q:=I.base.ZT d o' u' e
  rw [h] at q
  cases q
  exact mu
theorem Inv.unlock {d:Addr} {od:Obj} {u:HO} (I:Inv X pins σ H s) (h:H d=some (.frz od u)) (hn:∀ o' u',X.H_0 d≠some (.frz o' u')):Inv X pins σ (upd H d u) s:=by
  have neH:∀ b o,H b=some o→(∀ o' u',o≠.frz o' u')→b≠d:=fun b o e hne z=>by
    rw [z,h] at e
    cases e
    exact hne _ _ rfl
  have neN:∀ b,H b=none→b≠d:=fun b e z=>by rw [z,h] at e; cases e
  refine ⟨I.ok,I.os,I.bare,⟨I.base.keep,I.base.slot,fun b o e n hx=>?_,I.base.there,fun b xs e=>?_,fun b o x e=>?_,fun b ps e=>?_⟩,I.loc,I.cell,?_,fun x c e=>?_,fun p hp=>?_,fun b o e=>?_,I.len⟩
  · rw [A9 (neN b (I.base.free b o e n hx))]; exact I.base.free b o e n hx
  · have q:=I.base.YA b xs e
    rw [A9 (neH b _ q (fun _ _ z=>nomatch z))]; exact q
  · have q:=I.base.ZT b o x e
    rw [A9 (fun z=>by rw [z] at e; exact hn _ _ e)]; exact q
  · obtain ⟨m,q⟩:=I.base.AgW b ps e
    exact ⟨m,by rw [A9 (neH b _ q (fun _ _ z=>nomatch z))]; exact q⟩
  · rw [A9 (neN _ I.free)]; exact I.free
  · rw [A9 (neN c (I.Lz x c e))]; exact I.Lz x c e
  · obtain ⟨e,n,r⟩:=I.pin p hp
    exact ⟨e,by rw [A9 (neN _ n)]; exact n,r⟩
  · by_cases hb:b=d
    · rw [hb,Ab] at e
      cases e
      rw [hb]
      obtain ⟨_,x⟩:=I.hok d _ h
      exact x.AjM (fun c v _ q=>q) (fun c q=>by rw [A9 (neH c _ q (fun _ _ z=>nomatch z))]; exact q) fun c xs q=>by rw [A9 (neH c _ q (fun _ _ z=>nomatch z))]; exact q
    · rw [A9 hb] at e
      exact (I.hok b o e).AjM (fun c v _ q=>q) (fun c q=>by rw [A9 (neH c _ q (fun _ _ z=>nomatch z))]; exact q) fun c xs q=>by rw [A9 (neH c _ q (fun _ _ z=>nomatch z))]; exact q
end
def Asx (t:TS):TS:=fun D σ H=>∃ d u,H d=some u∧Mut (some u)∧∀ od,t ⟨fun σ' H'=>H' d=some (.frz od u)∧D.nx σ' (upd H' d u),fun v H'=>H' d=some (.frz od u)∧D.rt v (upd H' d u),fun σ' H'=>H' d=some (.frz od u)∧D.bk σ' (upd H' d u),fun σ' H'=>H' d=some (.frz od u)∧D.ct σ' (upd H' d u)⟩ σ (upd H d (.frz od u))
def AmT (t:TE):TE:=fun σ H Q=>∃ d u,H d=some u∧Mut (some u)∧∀ od,t σ (upd H d (.frz od u)) fun v H'=>H' d=some (.frz od u)∧Q v (upd H' d u)
section
variable {X:Cx}
theorem AtY {st:Stmt} {t:TS} (h:PS X st t):PS X st (Asx t):=by
  intro pins s σ H D I hw
  obtain ⟨d,u,hd,mu,hw⟩:=hw
  obtain ⟨od,I1⟩:=I.lock hd mu
  refine thn (h pins s σ _ _ I1 (hw od)) fun f s1 q=>?_
  cases f with
  | next=>obtain ⟨σ',H',I2,e,q⟩:=q; exact ⟨σ',_,I2.unlock e (I.AiU hd mu),q⟩
  | brk=>obtain ⟨σ',H',I2,e,q⟩:=q; exact ⟨σ',_,I2.unlock e (I.AiU hd mu),q⟩
  | cont=>obtain ⟨σ',H',I2,e,q⟩:=q; exact ⟨σ',_,I2.unlock e (I.AiU hd mu),q⟩
  | ret v=>obtain ⟨x,σ',H',I2,r,e,q⟩:=q; exact ⟨x,σ',_,I2.unlock e (I.AiU hd mu),r,q⟩
theorem Agg {e:Expr} {t:TE} (h:PE X e t):PE X e (AmT t):=by
  intro pins s σ H Q I hw
  obtain ⟨d,u,hd,mu,hw⟩:=hw
  obtain ⟨od,I1⟩:=I.lock hd mu
  refine thn (h pins s σ _ _ I1 (hw od)) fun v s1 ⟨x,H1,I2,r,e2,q⟩=>?_
  exact ⟨x,_,I2.unlock e2 (I.AiU hd mu),r,q⟩
theorem Amq {tg:Expr} {pins:List (Addr × Obj)} {σ:St} {H:Hp} {s:Shared} {R:It→Hp→Prop} {J:It} {tn:Nat→Heap→Prop} {tk:Nat} (I:Inv X pins σ H s) (o:Obj)
    (T:Turn X.prog X.w X.K tg J [s.heap.objs.size] s.heap.objs.size tn) (st:tn 0 (s.heap.push o)) (q:R J H):PIE X pins σ tg R (.ref s.heap.objs.size) { s with heap:=s.heap.push o,toks:=tk }:=by
  refine ⟨s.heap.objs.size,[s.heap.objs.size],tn,J,H,rfl,I.kept fun b ob e=>Heap.get?_push_of_some _ e,T,st,fun b hb=>?_,q⟩
  have e:b=s.heap.objs.size:=by simpa using hb
  subst e
  exact I.AsY (Nat.le_refl _) (I.hok.fresh (Nat.le_refl _))
end
section
variable {prog:Program} {w:World} {A:Around} {E:Value→Shared→Prop} {s:Shared}
theorem VX {d:Addr} {o:Obj} {es:Array DictEntry} {ep:Nat} {Q:Value→Shared→Prop} (hd:(d == sysModules)=false) (ho:s.heap.get? d=some o) (hc:o.ExactDict) (hdat:o.data=.dict es ep)
    (hQ:Q (.ref s.heap.objs.size) { s with heap:=s.heap.push { cls:=.type "dict_keyiterator",data:=.fields #[.ref d,.int 0 0,.int es.size 0,.int ep 0] } }) :
    wpAny (model prog w) A (pyIter (.ref d)) Q E s:=by
  have hT:s.TypeIs (.ref d) "dict":=⟨o,ho,hc.1⟩
  refine wpAny_pyIter_slot hT F.slot_dict_iter (wpAny_call_entry F.slot_dict_iter hT F.entry_dict_iter ?_ (F.args_dict_iter_1 _))
  unfold Builtin.«dict.__iter__»
  refine wpAny_bind ?_
  unfold Builtin.Dict.dictSlotNone
  refine wpAny_bind (wpAny_notOrdered_dict hT ?_)
  show wpAny _ _ (pure (Value.ref d)) _ _ s
  refine wpAny_pure ?_
  show wpAny _ _ (Builtin.Dict.showsAll d >>= _) _ _ s
  unfold Builtin.Dict.showsAll
  rw [if_neg (by rw [hd]; exact Bool.false_ne_true)]
  refine wpAny_bind (wpAny_pure ?_)
  refine wpAny_bind (wpAny_dictEntries ho hdat ?_)
  refine wpAny_bind (wpAny_dictEpoch ho hdat ?_)
  refine wpAny_bind (wpAny_newObj_type (wpAny_pure ⟨_,rfl,"dict_keyiterator",_,⟨_,Heap.get?_push_size _ rfl,rfl⟩,F.slot_dict_keyiterator_next.lookup,?_⟩))
  simpa [rawInt] using hQ
theorem Rp {it d:Addr} {i n ep:Nat} {od:Obj} {es:Array DictEntry} {en:DictEntry} {Q:Option Value→Shared→Prop} (hit:s.heap.IsKeyIter it d i n ep) (hod:s.heap.get? d=some od) (hdd:od.data=.dict es ep)
    (hsz:es.size=n) (hx:es[i]? = some en) (hQ:∀ h',h'.IsKeyIter it d (i + 1) n ep→Heap.SameBut it s.heap h'→Q (some en.key) { s with heap:=h' }):wpAny (model prog w) A (pyNext (.ref it)) Q E s:=by
  obtain ⟨o,ho,hc,hd⟩:=id hit
  unfold pyNext
  refine wpAny_bind (wpAny_attempt (wpAny_callSpecial?_slot (name:=Str.ofString "__next__") hit.typeIs F.slot_dict_keyiterator_next
    (wpAny_call_entry F.slot_dict_keyiterator_next hit.typeIs F.entry_dict_keyiterator_next ?_ (F.args_dict_keyiterator_next_1 _))))
  refine wpAny_bind (wpAny_pure ?_)
  refine wpAny_bind ?_
  refine wpAny_bind ?_
  first | refine wpAny_bind (wpAny_typeNameOfWhole_keyiter hit.typeIs (wpAny_pure ?_)) | refine wpAny_bind (wpAny_typeNameOf_keyiter hit.typeIs (wpAny_pure ?_))
  refine wpAny_bind (wpAny_fieldsOf ho hd ?_)
  have hown:Builtin.Dict_items.ownsTuple "dict_keyiterator" = false:=by decide
  simp only [hown,Bool.false_eq_true,if_false]
  show wpAny _ _ (if (Value.ref d == Value.none)=true then _ else _) _ _ s
  rw [if_neg (show ¬ ((Value.ref d == Value.none)=true) from Bool.false_ne_true)]
  refine wpAny_bind (wpAny_pure ?_)
  refine wpAny_bind (wpAny_dictEntries hod hdd ?_)
  rw [if_neg (by rw [hsz]; simp)]
  refine wpAny_bind (wpAny_pure ?_)
  refine wpAny_bind (wpAny_dictEpoch hod hdd ?_)
  rw [if_neg (by simp)]
  refine wpAny_pure ?_
  obtain ⟨hlt',hen⟩:=Array.getElem?_eq_some_iff.mp hx
  simp only [show ¬ ((i:Int) < 0) from by omega,if_false,Int.toNat_natCast,Array.getElem?_eq_getElem hlt']
  refine wpAny_bind ?_
  first | refine wpAny_bind (wpAny_typeNameOfWhole_keyiter hit.typeIs (wpAny_pure ?_)) | refine wpAny_bind (wpAny_typeNameOf_keyiter hit.typeIs (wpAny_pure ?_))
  refine wpAny_bind (wpAny_isOneOf_keyiter hit.typeIs ?_)
  show wpAny _ _ (setField (.ref it) 1 (rawInt ((i:Int) + 1)) >>= _) _ _ s
  refine wpAny_bind (wpAny_setField ho hd (by simp) ?_)
  have hit':(s.heap.update it (Obj.mapFields (·.setIfInBounds 1 (rawInt ((i:Int) + 1))))).IsKeyIter it d (i + 1) n ep :=
    ⟨_,Heap.get?_update_self _ ho (Obj.isFreed_of_fields (Obj.data_mapFields hd _)),(Obj.cls_mapFields ..).trans hc,by rw [Obj.data_mapFields hd]; simp [rawInt]⟩
  refine wpAny_bind (wpAny_holding ?_)
  refine wpAny_bind (wpAny_isOneOf_keyiter (s:={ s with heap:=s.heap.update it (Obj.mapFields (·.setIfInBounds 1 (rawInt ((i:Int) + 1)))) }) hit'.typeIs ?_)
  show wpAny _ _ (pure es[i].key) _ _ _
  rw [hen]
  exact wpAny_pure (wpAny_pure ⟨_,rfl,wpAny_pure (hQ _ hit' (Heap.SameBut.update ..))⟩)
theorem Ms {it d:Addr} {i n ep:Nat} {od:Obj} {es:Array DictEntry} {Q:Option Value→Shared→Prop} (hh:A.handled=none) (hit:s.heap.IsKeyIter it d i n ep) (hod:s.heap.get? d=some od) (hdd:od.data=.dict es ep)
    (hsz:es.size=n) (hge:n≤i) (hQ:∀ h',Heap.ExtBut it s.heap h'→Q none { s with heap:=h' }):wpAny (model prog w) A (pyNext (.ref it)) Q E s:=by
  obtain ⟨o,ho,hc,hd⟩:=id hit
  unfold pyNext
  refine wpAny_bind (wpAny_attempt (wpAny_callSpecial?_slot (name:=Str.ofString "__next__") hit.typeIs F.slot_dict_keyiterator_next
    (wpAny_call_entry F.slot_dict_keyiterator_next hit.typeIs F.entry_dict_keyiterator_next ?_ (F.args_dict_keyiterator_next_1 _))))
  refine wpAny_bind (wpAny_pure ?_)
  refine wpAny_bind ?_
  refine wpAny_bind ?_
  first | refine wpAny_bind (wpAny_typeNameOfWhole_keyiter hit.typeIs (wpAny_pure ?_)) | refine wpAny_bind (wpAny_typeNameOf_keyiter hit.typeIs (wpAny_pure ?_))
  refine wpAny_bind (wpAny_fieldsOf ho hd ?_)
  have hown:Builtin.Dict_items.ownsTuple "dict_keyiterator" = false:=by decide
  simp only [hown,Bool.false_eq_true,if_false]
  show wpAny _ _ (if (Value.ref d == Value.none)=true then _ else _) _ _ s
  rw [if_neg (show ¬ ((Value.ref d == Value.none)=true) from Bool.false_ne_true)]
  refine wpAny_bind (wpAny_pure ?_)
  refine wpAny_bind (wpAny_dictEntries hod hdd ?_)
  rw [if_neg (by rw [hsz]; simp)]
  refine wpAny_bind (wpAny_pure ?_)
  refine wpAny_bind (wpAny_dictEpoch hod hdd ?_)
  rw [if_neg (by simp)]
  refine wpAny_pure ?_
  have hge':es.size≤i:=by rw [hsz]; exact hge
  simp only [show ¬ ((i:Int) < 0) from by omega,if_false,Int.toNat_natCast,Array.getElem?_eq_none hge']
  refine wpAny_bind ?_
  first | refine wpAny_bind (wpAny_typeNameOfWhole_keyiter hit.typeIs (wpAny_pure ?_)) | refine wpAny_bind (wpAny_typeNameOf_keyiter hit.typeIs (wpAny_pure ?_))
  show wpAny _ _ (setField (.ref it) 0 .none >>= _) _ _ s
  refine wpAny_bind (wpAny_setField ho hd (by simp) ?_)
  show wpAny _ _ (newExc (.type "StopIteration") [] >>= _) _ _ _
  refine wpAny_bind ?_
  simp only [newExc,newTuple]
  refine wpAny_bind (wpAny_newObj_type ?_ (by size_fits))
  refine wpAny_bind (m:=firstArgMember _ _) (wpAny_of_eq (a:=Value.none) (by first | rfl | (simp only [firstArgMember]; rfl)) ?_)
  refine wpAny_newObj_type ?_ (by size_fits)
  simp only [raiseNew]
  refine wpAny_bind (wpAny_handled ?_)
  rw [show A.in1.handled=none from hh]
  refine wpAny_bind (wpAny_pure (wpAny_throw ?_))
  refine wpAny_bind (wpAny_isInstance (T:="StopIteration") (b:=true) ⟨_,Heap.get?_push_size _ rfl,rfl⟩ isSubtype_stop ?_)
  exact wpAny_pure (hQ _ (((Heap.SameBut.update ..).extBut.push _).push _))
end
theorem Ars {κ:Type} {kvs:List (κ × V)} {vs:List (κ × Value)} (h:KV kvs vs):∀ {i:Nat} {k:κ} {v:V},kvs[i]? = some (k,v)→∃ u,vs[i]? = some (k,u)∧RelV v u:=by
  unfold KV at h
  induction h with
  | nil=>intro i k v e; simp at e
  | @cons a b l₁ l₂ r t ih =>
    intro i k v e
    cases i with
    | zero =>
      simp only [List.getElem?_cons_zero,Option.some.injEq] at e
      subst e
      refine ⟨b.2,?_,r.2⟩
      simp only [List.getElem?_cons_zero]
      exact congrArg some (Prod.ext r.1.symm rfl)
    | succ j =>
      simp only [List.getElem?_cons_succ] at e ⊢
      exact ih e
theorem De {α β:Type} {G:α→β→Prop} {l₁:List α} {l₂:List β} (h:Paired G l₁ l₂):∀ {i:Nat} {a:α},l₁[i]? = some a→∃ b,l₂[i]? = some b∧G a b:=by
  induction h with
  | nil=>intro i a e; simp at e
  | @cons a b l₁ l₂ r t ih =>
    intro i a' e
    cases i with
    | zero =>
      simp only [List.getElem?_cons_zero,Option.some.injEq] at e
      subst e
      exact ⟨b,rfl,r⟩
    | succ j =>
      simp only [List.getElem?_cons_succ] at e ⊢
      exact ih e
theorem ArI {k:Key} {u:Value} (h:WN k u=true):RelV (kV k) u:=by
  rcases CV h with ⟨i,t,rfl,rfl⟩ | ⟨x,t,rfl,rfl⟩
  · exact ⟨t,rfl⟩
  · exact ⟨t,rfl⟩
section
variable {X:Cx} {pins:List (Addr × Obj)} {σ:St} {H:Hp} {s:Shared} {d:Addr} {o:Obj}
theorem Inv.Apk {kvs:List (Key × V)} (I:Inv X pins σ H s) (h:H d=some (.frz o (.dK kvs))) :
    (d == sysModules)=false∧s.heap.get? d=some o∧o.ExactDict∧∃ (es:Array DictEntry) (ep:Nat) (vs:List (Key × Value)),o.data=.dict es ep∧es.size=kvs.length∧KV kvs vs∧s.heap.DictAt (C0 X.prog X.w) d vs ep:=by
  obtain ⟨hd,z,hs,vs,kv,o',es,ep,ho,hx,hdt,r⟩:=I.hok d _ h
  rw [hd] at ho
  cases ho
  refine ⟨hs,hd,hx,es,ep,vs,hdt,?_,kv,o,es,hd,hx,hdt,r⟩
  have l1:=r.2.1.length
  have l2:kvs.length=vs.length:=Paired.length kv
  rw [Array.length_toList] at l1
  omega
theorem Inv.AuZ {kvs:List (List Key × V)} (I:Inv X pins σ H s) (h:H d=some (.frz o (.dT kvs))) :
    (d == sysModules)=false∧s.heap.get? d=some o∧o.ExactDict∧∃ (es:Array DictEntry) (ep:Nat),o.data=.dict es ep∧es.size=kvs.length ∧
      ∀ (i:Nat) (k:List Key) (v:V),kvs[i]? = some (k,v)→∃ (en:DictEntry) (q:Addr),es[i]? = some en∧en.key=.ref q∧H q=some (.tup (k.map kV)):=by
  obtain ⟨hd,z,hs,xs,pr,o',es,ep,ho,hx,hdt,he,_⟩:=I.hok d _ h
  rw [hd] at ho
  cases ho
  refine ⟨hs,hd,hx,es,ep,hdt,?_,fun i k v e=>?_⟩
  · have l1:es.size=xs.length:=size_of_entries he
    have l2:kvs.length=xs.length:=Paired.length pr
    omega
  · obtain ⟨b,hb,e1,e2,_⟩:=De pr e
    have q:=entry_at he i
    rw [hb] at q
    exact ⟨_,b.2.1,q,rfl,e2⟩
end
def Itk (d:Addr) (o:Obj) (kvs:List (Key × V)):It :=
  ⟨fun i H=>H d=some (.frz o (.dK kvs))∧i < kvs.length,fun i H x H'=>H'=H∧∃ k v,kvs[i]? = some (k,v)∧x=kV k,fun i H=>H d=some (.frz o (.dK kvs))∧kvs.length≤i⟩
def AwE (d:Addr) (o:Obj) (kvs:List (List Key × V)):It :=
  ⟨fun i H=>H d=some (.frz o (.dT kvs))∧i < kvs.length,fun i H x H'=>H'=H∧∃ (k:List Key) (v:V) (q:Addr),kvs[i]? = some (k,v)∧x=.ref q∧H q=some (.tup (k.map kV)),fun i H=>H d=some (.frz o (.dT kvs))∧kvs.length≤i⟩
def Itd (d:Addr) (o:Obj) (kvs:List (Key × V)):It :=
  ⟨fun i H=>H d=some (.frz o (.dK kvs))∧i < kvs.length,fun i H x H'=>H'=H∧∃ k,kvs[i]? = some (k,x),fun i H=>H d=some (.frz o (.dK kvs))∧kvs.length≤i⟩
theorem Qq {o:Obj} {es es':Array DictEntry} {ep ep':Nat} (h:o.data=.dict es ep) (h':o.data=.dict es' ep'):es'=es∧ep'=ep:=by
  rw [h] at h'
  cases h'
  exact ⟨rfl,rfl⟩
section
variable {P:Program} {w:World} {K:PySem.W.Frag} {tg:Expr} {d:Addr} {o:Obj} {es:Array DictEntry} {ep:Nat}
theorem Aq8 {kvs:List (Key × V)} (it:Addr) (hod:o.data=.dict es ep):Turn P w K tg (Itk d o kvs) [it] it (fun i h=>h.IsKeyIter it d i kvs.length ep) where
  mem:=by simp
  obj:=fun i h st b hb=>by
    have e:b=it:=by simpa using hb
    subst e
    obtain ⟨oi,e,c,dd⟩:=st
    exact ⟨oi,e,fun v z=>by rw [dd] at z; cases z⟩
  keep:=fun i h h' st k=>st.at fun oi e=>k it (by simp) oi e
  item:=by
    intro X hP hw hK hc i pins s σ H E I hf st hg
    subst hP hw hK
    obtain ⟨hd,hi⟩:=hg
    obtain ⟨f0,f1,f2,f3,f4,f5⟩:=hf it (by simp)
    obtain ⟨hs,hgd,hx,es',ep',vs,hdt,hsz,kv,hm⟩:=I.Apk hd
    obtain ⟨rfl,rfl⟩:=Qq hod hdt
    obtain ⟨⟨k,v⟩,hkv⟩:∃ p,kvs[i]? = some p:=⟨kvs[i],List.getElem?_eq_getElem hi⟩
    obtain ⟨u,hu,ru⟩:=Ars kv hkv
    have hl:kvs.length=vs.length:=Paired.length kv
    rw [hl] at st
    refine wpAny_pyNext_dict_item st hm hu fun key h' hkey st' sb=>?_
    have I1:Inv X pins σ H { s with heap:=h' }:=I.turned (t':=s.toks) (fun b ob hb e=>(sb.2 b hb).trans e) f0 f1 f3 f4 f5
    obtain ⟨oi,e,c,dd⟩:=id st'
    refine ⟨key,rfl,Aig (s:={ s with heap:=h' }) e c dd (by decide) ⟨kV k,H,I1,ArI (show WN k key=true from hkey),⟨rfl,k,v,hkv,rfl⟩,?_,fun b hb=>(hf b hb).1⟩⟩
    show h'.IsKeyIter it d (i + 1) kvs.length _
    rw [hl]
    exact st'
  done:=by
    intro X hP hw hK hc i pins s σ H E I hf st hg
    subst hP hw hK
    obtain ⟨hd,hi⟩:=hg
    obtain ⟨f0,f1,f2,f3,f4,f5⟩:=hf it (by simp)
    obtain ⟨hs,hgd,hx,es',ep',vs,hdt,hsz,kv,hm⟩:=I.Apk hd
    obtain ⟨rfl,rfl⟩:=Qq hod hdt
    exact Ms (I.ok.hd hc) st hgd hdt hsz hi fun h' eb=>⟨rfl,I.turned (t':=s.toks) (fun b ob hb e=>eb b ob hb e) f0 f1 f3 f4 f5⟩
  self:=fun A i s Q E st h=>wpAny_pyIter_keyiter st h
theorem An6 {kvs:List (List Key × V)} (it:Addr) (hod:o.data=.dict es ep):Turn P w K tg (AwE d o kvs) [it] it (fun i h=>h.IsKeyIter it d i kvs.length ep) where
  mem:=by simp
  obj:=fun i h st b hb=>by
    have e:b=it:=by simpa using hb
    subst e
    obtain ⟨oi,e,c,dd⟩:=st
    exact ⟨oi,e,fun v z=>by rw [dd] at z; cases z⟩
  keep:=fun i h h' st k=>st.at fun oi e=>k it (by simp) oi e
  item:=by
    intro X hP hw hK hc i pins s σ H E I hf st hg
    subst hP hw hK
    obtain ⟨hd,hi⟩:=hg
    obtain ⟨f0,f1,f2,f3,f4,f5⟩:=hf it (by simp)
    obtain ⟨hs,hgd,hx,es',ep',hdt,hsz,ent⟩:=I.AuZ hd
    obtain ⟨rfl,rfl⟩:=Qq hod hdt
    obtain ⟨⟨k,v⟩,hkv⟩:∃ p,kvs[i]? = some p:=⟨kvs[i],List.getElem?_eq_getElem hi⟩
    obtain ⟨en,q,hen,hkey,hq⟩:=ent i k v hkv
    refine Rp st hgd hdt hsz hen fun h' st' sb=>?_
    have I1:Inv X pins σ H { s with heap:=h' }:=I.turned (t':=s.toks) (fun b ob hb e=>(sb.2 b hb).trans e) f0 f1 f3 f4 f5
    obtain ⟨oi,e,c,dd⟩:=id st'
    exact ⟨en.key,rfl,Aig (s:={ s with heap:=h' }) e c dd (by decide) ⟨.ref q,H,I1,hkey,⟨rfl,k,v,q,hkv,rfl,hq⟩,st',fun b hb=>(hf b hb).1⟩⟩
  done:=by
    intro X hP hw hK hc i pins s σ H E I hf st hg
    subst hP hw hK
    obtain ⟨hd,hi⟩:=hg
    obtain ⟨f0,f1,f2,f3,f4,f5⟩:=hf it (by simp)
    obtain ⟨hs,hgd,hx,es',ep',hdt,hsz,ent⟩:=I.AuZ hd
    obtain ⟨rfl,rfl⟩:=Qq hod hdt
    exact Ms (I.ok.hd hc) st hgd hdt hsz hi fun h' eb=>⟨rfl,I.turned (t':=s.toks) (fun b ob hb e=>eb b ob hb e) f0 f1 f3 f4 f5⟩
  self:=fun A i s Q E st h=>by
    refine wpAny_pyIter_slot st.typeIs F.slot_dict_keyiterator_iter (wpAny_call_entry F.slot_dict_keyiterator_iter st.typeIs F.entry_dict_keyiterator_iter ?_ (F.args_dict_keyiterator_iter_1 _))
    show wpAny _ _ (ret (.ref it)) _ _ s
    exact wpAny_pure ⟨_,rfl,"dict_keyiterator",_,st.typeIs,F.slot_dict_keyiterator_next.lookup,h⟩
theorem AqA {kvs:List (Key × V)} (it:Addr) (hod:o.data=.dict es ep):Turn P w K tg (Itd d o kvs) [it] it (fun i h=>h.IsValIter it d i kvs.length ep) where
  mem:=by simp
  obj:=fun i h st b hb=>by
    have e:b=it:=by simpa using hb
    subst e
    obtain ⟨oi,e,c,dd⟩:=st
    exact ⟨oi,e,fun v z=>by rw [dd] at z; cases z⟩
  keep:=fun i h h' st k=>st.at fun oi e=>k it (by simp) oi e
  item:=by
    intro X hP hw hK hc i pins s σ H E I hf st hg
    subst hP hw hK
    obtain ⟨hd,hi⟩:=hg
    obtain ⟨f0,f1,f2,f3,f4,f5⟩:=hf it (by simp)
    obtain ⟨hs,hgd,hx,es',ep',vs,hdt,hsz,kv,hm⟩:=I.Apk hd
    obtain ⟨rfl,rfl⟩:=Qq hod hdt
    obtain ⟨⟨k,v⟩,hkv⟩:∃ p,kvs[i]? = some p:=⟨kvs[i],List.getElem?_eq_getElem hi⟩
    obtain ⟨u,hu,ru⟩:=Ars kv hkv
    have hl:kvs.length=vs.length:=Paired.length kv
    rw [hl] at st
    refine wpAny_pyNext_values_item st hm hu fun h' st' sb=>?_
    have I1:Inv X pins σ H { s with heap:=h' }:=I.turned (t':=s.toks) (fun b ob hb e=>(sb.2 b hb).trans e) f0 f1 f3 f4 f5
    obtain ⟨oi,e,c,dd⟩:=id st'
    refine ⟨u,rfl,Aig (s:={ s with heap:=h' }) e c dd (by decide) ⟨v,H,I1,ru,⟨rfl,k,hkv⟩,?_,fun b hb=>(hf b hb).1⟩⟩
    show h'.IsValIter it d (i + 1) kvs.length _
    rw [hl]
    exact st'
  done:=by
    intro X hP hw hK hc i pins s σ H E I hf st hg
    subst hP hw hK
    obtain ⟨hd,hi⟩:=hg
    obtain ⟨f0,f1,f2,f3,f4,f5⟩:=hf it (by simp)
    obtain ⟨hs,hgd,hx,es',ep',vs,hdt,hsz,kv,hm⟩:=I.Apk hd
    obtain ⟨rfl,rfl⟩:=Qq hod hdt
    have hl:kvs.length=vs.length:=Paired.length kv
    rw [hl] at st
    exact wpAny_pyNext_values_end (I.ok.hd hc) st hm (List.getElem?_eq_none (by omega)) fun h' eb=>⟨rfl,I.turned (t':=s.toks) (fun b ob hb e=>eb b ob hb e) f0 f1 f3 f4 f5⟩
  self:=fun A i s Q E st h=>wpAny_pyIter_valiter st h
end
def Arh (td:TE):TI:=fun σ H R=>td σ H fun x H1=>∃ d o,x=.ref d∧((∃ kvs,H1 d=some (.frz o (.dK kvs))∧R (Itk d o kvs) H1)∨∃ kvs,H1 d=some (.frz o (.dT kvs))∧R (AwE d o kvs) H1)
def Arj (td:TE):TI:=fun σ H R=>td σ H fun x H1=>∃ d o kvs,x=.ref d∧H1 d=some (.frz o (.dK kvs))∧R (Itd d o kvs) H1
section
variable {X:Cx} {tg e:Expr} {td:TE} {apos cpos:Pos}
theorem Agh (he:PE X e td):PI X tg e (Arh td):=by
  intro pins s σ H R I h
  refine thn (he pins s σ H _ I h) fun u s1 ⟨x,H1,I1,rx,d,o,ex,q⟩=>?_
  subst ex
  obtain rfl:u=Value.ref d:=rx
  rcases q with ⟨kvs,hd,q⟩ | ⟨kvs,hd,q⟩
  · obtain ⟨hs,hgd,hx,es,ep,vs,hdt,hsz,kv,hm⟩:=I1.Apk hd
    refine VX hs hgd hx hdt (Amq (tk:=s1.toks) I1 _ (Aq8 _ hdt) ⟨_,Heap.get?_push_size _ rfl,rfl,?_⟩ q)
    rw [hsz] <;> rfl
  · obtain ⟨hs,hgd,hx,es,ep,hdt,hsz,ent⟩:=I1.AuZ hd
    refine VX hs hgd hx hdt (Amq (tk:=s1.toks) I1 _ (An6 _ hdt) ⟨_,Heap.get?_push_size _ rfl,rfl,?_⟩ q)
    rw [hsz] <;> rfl
theorem ApZ (he:PE X e td) (hbase:attributeBase e "values" X.env (eval e X.env)=eval e X.env:=by rfl) (hline:(apos.endLine == cpos.line)=true:=by rfl):PI X tg (.Call (.Attribute e "values" apos) [] [] cpos) (Arj td):=by
  intro pins s σ H R I h
  refine wpAny_Call_method (T:="dict") (id:="dict.values") hbase rfl hline F.plainAttrs_dict F.slot_dict_values F.type_dict_values (thn (he pins s σ H _ I h) fun u s1 ⟨x,H1,I1,rx,d,o,kvs,ex,hd,q⟩=>?_)
  subst ex
  obtain rfl:u=Value.ref d:=rx
  obtain ⟨hs,hgd,hx,es,ep,vs,hdt,hsz,kv,hm⟩:=I1.Apk hd
  have hl:kvs.length=vs.length:=Paired.length kv
  refine ⟨hm.dictOf.typeIs,hm.dictOf.mapOf.noDict,?_⟩
  have I2:Inv X pins σ H1 { s1 with heap:=s1.heap.push { cls:=.type "dict_values",data:=.fields #[.ref d] } }:=I1.kept (t':=s1.toks) fun b ob q=>Heap.get?_push_of_some _ q
  have fin:wpAny (model X.prog X.w) X.A (pyIter (.ref s1.heap.objs.size)) (PIE X pins σ tg R) X.xe { s1 with heap:=s1.heap.push { cls:=.type "dict_values",data:=.fields #[.ref d] } }:=by
    refine wpAny_pyIter_values (d:=d) (knd:=C0 X.prog X.w) ⟨_,Heap.get?_push_size _ rfl,rfl,rfl⟩ (hm.push _) (Amq (tk:=s1.toks) I2 _ (AqA _ hdt) ⟨_,Heap.get?_push_size _ rfl,rfl,?_⟩ q)
    rw [hl] <;> rfl
  show wpAny _ _ (callWith cpos (.builtin "dict.values") [.ref d] [] []) _ X.xe s1
  exact method_meetsIn F.slot_dict_values F.entry_dict_values rfl (PySem.evalArgs_none ⟨rfl,hm.dictOf.typeIs,F.args_dict_values_1 _,_,meets_dict_values (C0 X.prog X.w) d hs,⟨vs,hm.dictOf⟩,fin⟩)
end
end L2
section 
namespace Bits
open PySem PyProof.Rows
end Bits
end 
section 
namespace TL
open PySem PySem.Builtin PySem.Builtin.Str PySem.StrLaws
abbrev tl (x:Str):List Nat:=x.cps.toList
end TL
end 
namespace L2
open PySem PySem.Spec PyProof.Rows
end L2
namespace L2
open PySem PySem.Spec PyProof.Rows
end L2
namespace Att
open PySem PySem.W PySem.Calls PyProof.Rows
end Att
namespace L2
open PySem PySem.Spec PyProof.Rows
end L2
namespace L2
open PySem PySem.Spec PyProof.Rows
end L2
namespace L2
open PySem PySem.Spec PyProof.Rows
def inClass (s:Stmt) (j:Nat):Stmt:=match s with
  | .ClassDef _ _ _ body _ _ _ _ _ _ _=>body.getD j (.Pass ⟨0,0,0,0⟩)
  | _=>.Pass ⟨0,0,0,0⟩
def Ay (s:Stmt):Arguments:=match s with
  | .FunctionDef _ a _ _ _ _ _ _ _ _=>a
  | _=>{ posonlyargs:=[],args:=[],vararg:=none,kwonlyargs:=[],kw_defaults:=[],kwarg:=none,defaults:=[] }
def Aw (s:Stmt):List Stmt:=match s with
  | .FunctionDef _ _ b _ _ _ _ _ _ _=>b
  | _=>[]
def Af (s:Stmt):Scope:=match s with
  | .FunctionDef _ _ _ _ _ _ sc _ _ _=>sc
  | _=>{ kind:=.function,names:=[],isGenerator:=false,isCoroutine:=false }
abbrev CX0:CXT:=fun _ _ _ _ _ _=>False
abbrev E0:XK:=fun _ _ _=>False
theorem A1 {X:Cx}:Passes CX0 X E0:=fun _ _ _ _ _ _ _ h=>h.elim
structure Fun (K:PySem.W.Frag) (x qual:Str) (st:Stmt) (f:Addr) (fd:FuncData):Prop where
  ex:∃ (oc:Value) (od:Option Addr) (kV doc pm:Value) (an:Option Addr) (cdv ct:Value) (osl:Array (Option Value)),
    fd=PySem.W.fnOf x qual (Ay st) (Aw st) (Af st) .none kV doc pm an cdv ct∧K.lookup f=some ⟨oc,od,.func fd,osl⟩∧PySem.W.codeIn K cdv qual=true
  kp:PySem.W.keepIn K (.ref f)=true
section
variable {P:Program} {w:World} {K:PySem.W.Frag} {mg:Str→Option Value} {base:Heap}
theorem Fun.ok {x qual:Str} {st:Stmt} {f:Addr} {fd:FuncData} {N ps:List Str} {k:Nat} {sp:Sp} (F:Fun K x qual st f fd) (S:A0 N ps (Af st)) (len:∀ vs H Q E,sp vs H Q E→vs.length=ps.length)
    (hbody:∀ (cdv:Value) (A:Around) (outer:List Env) (s:Shared) (H:Hp) (vs:List V) (Q:VK) (E:XK),GC k (A.deeper (envOfC qual (Af st) s.heap.objs.size f cdv))→sp vs H Q E →
      ∃ t,PSs (AhO CX0 P w K mg base N qual (Af st) f cdv A outer s H E).nox (Aw st) t∧t { nx:=fun _ H'=>Q .non H',rt:=Q } (start N vs) H):AY P w K mg base CX0 (k + 1) f fd ps sp:=by
  obtain ⟨oc,od,kV,doc,pm,an,cdv,ct,osl,rfl,lk,hcd⟩:=F.ex
  refine AwQ lk hcd S len fun A outer s H vs Q E hr hsp=>?_
  obtain ⟨t,h,q⟩:=hbody cdv A outer s H vs Q E hr hsp
  exact ⟨t,h.nox,q⟩
theorem Fun.binds {x qual:Str} {st:Stmt} {f:Addr} {fd:FuncData} {ps:List Str} (F:Fun K x qual st f fd)
    (h:∀ (kV doc pm:Value) (an:Option Addr) (cdv ct:Value) (us:List Value),us.length=ps.length→bindArgs (PySem.W.fnOf x qual (Ay st) (Aw st) (Af st) .none kV doc pm an cdv ct) ⟨us,[]⟩=pure (ps.zip us)):Binds K fd ps []:=by
  obtain ⟨oc,od,kV,doc,pm,an,cdv,ct,osl,rfl,lk,hcd⟩:=F.ex
  exact .all (h kV doc pm an cdv ct)
theorem AB {x qual:Str} {st:Stmt} {f:Addr} {oc:Value} {od an:Option Addr} {osl:Array (Option Value)} {kV doc pm cdv ct:Value} (l:K.lookup f=some ⟨oc,od,.func (PySem.W.fnOf x qual (Ay st) (Aw st) (Af st) .none kV doc pm an cdv ct),osl⟩)
    (c:PySem.W.codeIn K cdv qual=true) (k:PySem.W.keepIn K (.ref f)=true):Fun K x qual st f (PySem.W.fnOf x qual (Ay st) (Aw st) (Af st) .none kV doc pm an cdv ct):=⟨⟨oc,od,kV,doc,pm,an,cdv,ct,osl,rfl,l,c⟩,k⟩
end
theorem AZ {A:Around} {k:Nat} (hr:GC k A):A.units + 1 < cLine:=Nat.lt_of_le_of_lt (Nat.add_le_add_left (by decide:1≤64) _) hr.units
section
variable {X:Cx}
theorem pv (i:Nat) {x:Str} {pos:Pos} (hN:X.N[i]? = some x:=by rfl) (hv:Vis X.env.scope x:=by first | exact Or.inl rfl | exact Or.inr (Or.inl rfl) | exact Or.inr (Or.inr rfl)) (hd:(x == ("__debug__" : Str))=false:=by decide)
    (hcd:(x == ("__classdict__" : Str))=false:=by decide):PE X (.Name x pos) (Qe i):=AvN hN hv hd hcd
theorem Apc:MO X (.builtin "len") (fun xs H Q=>∃ a kvs,xs=[V.ref a]∧H a=some (.dK kvs)∧Q (.int kvs.length) H):=by
  intro pins s σ H xs us Q I r h
  obtain ⟨a,kvs,rfl,ha,q⟩:=h
  obtain ⟨u,rfl,ru⟩:=vals1 r
  cases ru
  exact AwM I (.inl ha) fun t s' I'=>⟨.int kvs.length,H,I',⟨t,rfl⟩,q⟩
end
theorem Kd {c A B:Prop} [Decidable c] (h1:c→A) (h2 : ¬ c→B):if c then A else B:=by
  by_cases h:c
  · rw [if_pos h]
    exact h1 h
  · rw [if_neg h]
    exact h2 h
def AuN (H H':Hp):Prop:=∀ b o,H b=some o→H' b=some o
theorem AuN.seq {K:PySem.W.Frag} {H H':Hp} {a:Addr} {xs:List V} (e:AuN H H') (h:SqL K H a xs):SqL K H' a xs:=by
  rcases h with (h | ⟨o,h⟩) | h
  · exact .inl (.inl (e _ _ h))
  · exact .inl (.inr ⟨o,e _ _ h⟩)
  · exact .inr h
end L2
set_option maxHeartbeats 2000000
namespace L2
open PySem PySem.Spec PyProof.Rows
open PySem.W (WData Codec OpenSpec Well WellAll ReadsW ReadsAllW)
mutual
/-- x stands for the datum d,lists and tuples all the way -/
inductive Dw (K:PySem.W.Frag) (H:Hp):V→WData→Prop
  | non:Dw K H .non .none
  | bl (b:Bool):Dw K H (.bl b) (.bool b)
  | int (i:Int):Dw K H (.int i) (.int i)
  | str (x:Str):Dw K H (.str x) (.str x)
  | byt (b:Array UInt8):Dw K H (.byt b) (.bytes b.toList)
  | lst {a:Addr} {xs:List V} {ds:List WData}:SqL K H a xs→Li K H xs ds→Dw K H (.ref a) (.list ds)
  | tup {a:Addr} {xs:List V} {ds:List WData}:SqT K H a xs→Li K H xs ds→Dw K H (.ref a) (.tuple ds)
inductive Li (K:PySem.W.Frag) (H:Hp):List V→List WData→Prop
  | nil:Li K H [] []
  | cons {v:V} {vs:List V} {d:WData} {ds:List WData}:Dw K H v d→Li K H vs ds→Li K H (v::vs) (d::ds)
end
theorem AnX {K:PySem.W.Frag} {H:Hp}:∀ ns:List Int,Li K H (ns.map V.int) (ns.map WData.int)
  | []=>.nil
  | n::r=>.cons (.int n) (AnX r)
theorem Aoa {K:PySem.W.Frag} {H:Hp}:∀ (ns:List Int) (xs:List V),Li K H xs (ns.map WData.int)→xs=ns.map V.int
  | [],xs,h=>by
    cases h
    rfl
  | n::r,xs,h=>by
    cases h with
    | cons h1 h2 =>
      cases h1
      rw [Aoa r _ h2] <;> rfl
section
variable {P:Program} {w:World} {K:PySem.W.Frag} {H:Hp} {h:Heap} {R:PySem.W.WRecords} {cl:Str→Option Addr}
theorem Awh {a:Addr} {xs:List V} (hok:HOk P w H h) (KX:K.In h) (q:SqL K H a xs):∃ (its:List Value) (o:Obj) (n:Nat),Vals xs its∧h.get? a=some o∧o.cls=.type "list"∧o.data=.seq its.toArray n:=by
  rcases q with q | ⟨o,its,n,e,hc,_,hd,_,hv⟩
  · obtain ⟨_,its,n,hv,e⟩:=(show DK P w H h a (.lst xs) from q.ok hok)
    exact ⟨its,_,n,hv,e,rfl,rfl⟩
  · exact ⟨its.toList,o,n,hv,KX _ _ e,hc,by simp [hd]⟩
theorem Awi {a:Addr} {xs:List V} (hok:HOk P w H h) (KX:K.In h) (q:SqT K H a xs):∃ (its:List Value) (o:Obj) (n:Nat),Vals xs its∧h.get? a=some o∧o.cls=.type "tuple"∧o.data=.seq its.toArray n:=by
  rcases q with q | ⟨o,its,n,e,hc,hd,_,hv⟩
  · obtain ⟨_,its,hv,o,e,hc,n,hd⟩:=(show DK P w H h a (.tup xs) from q.ok hok)
    exact ⟨its,o,n,hv,e,hc,hd⟩
  · exact ⟨its.toList,o,n,hv,KX _ _ e,hc,by simp [hd]⟩
mutual
theorem Dw.reads (hok:HOk P w H h) (KX:K.In h):∀ (d:WData) (v:V) (u:Value),Dw K H v d→RelV v u→∃ as,ReadsW R cl h u d as
  | .none,_,_,x,r=>by
    cases x
    cases r
    exact ⟨_,ReadsW.none⟩
  | .bool b,_,_,x,r=>by
    cases x
    cases r
    exact ⟨_,ReadsW.bool b⟩
  | .int i,_,_,x,r=>by
    cases x
    obtain ⟨t,rfl⟩:=r
    exact ⟨_,ReadsW.int i t⟩
  | .str s,_,_,x,r=>by
    cases x
    obtain ⟨t,rfl⟩:=r
    exact ⟨_,ReadsW.str s t⟩
  | .bytes b,_,_,x,r=>by
    cases x
    obtain ⟨t,rfl⟩:=r
    exact ⟨_,ReadsW.bytes _ t⟩
  | .list ds,_,_,x,r=>by
    cases x with
    | lst hs ha =>
      cases r
      obtain ⟨its,o,n,rv,ho,hc,hd⟩:=Awh hok KX hs
      obtain ⟨as,hr⟩:=Dw.readsAll hok KX ds _ its ha rv
      exact ⟨_,ReadsW.list ho hc hd hr⟩
  | .tuple ds,_,_,x,r=>by
    cases x with
    | tup hs ha =>
      cases r
      obtain ⟨its,o,n,rv,ho,hc,hd⟩:=Awi hok KX hs
      obtain ⟨as,hr⟩:=Dw.readsAll hok KX ds _ its ha rv
      exact ⟨_,ReadsW.tuple ho hc hd hr⟩
  | .float _,_,_,x,_=>by cases x
  | .dict _,_,_,x,_=>by cases x
  | .bytearray _,_,_,x,_=>by cases x
  | .set _,_,_,x,_=>by cases x
  | .frozenset _,_,_,x,_=>by cases x
  | .obj _ _,_,_,x,_=>by cases x
theorem Dw.readsAll (hok:HOk P w H h) (KX:K.In h):∀ (ds:List WData) (vs:List V) (us:List Value),Li K H vs ds→Vals vs us→∃ as,ReadsAllW R cl h us ds as
  | [],_,_,x,r=>by
    cases x
    cases r
    exact ⟨_,ReadsAllW.nil⟩
  | d::ds,_,_,x,r=>by
    cases x with
    | cons h1 h2 =>
      cases r with
      | cons r1 r2 =>
        obtain ⟨as,q1⟩:=Dw.reads hok KX d _ _ h1 r1
        obtain ⟨bs,q2⟩:=Dw.readsAll hok KX ds _ _ h2 r2
        exact ⟨_,ReadsAllW.cons q1 q2⟩
end
end
mutual
/-- data that a codec tells -/
def plW:WData→Bool
  | .none=>true
  | .bool _=>true
  | .int _=>true
  | .str _=>true
  | .bytes _=>true
  | .list xs=>Yo xs
  | .tuple xs=>Yo xs
  | _=>false
def Yo:List WData→Bool
  | []=>true
  | x::r=>plW x && Yo r
end
theorem Ajs {α:Type} {f:α→WData} (h:∀ a,plW (f a)=true):∀ l:List α,Yo (l.map f)=true
  | []=>rfl
  | x::r=>by
    show (plW (f x) && Yo (r.map f))=true
    rw [h x,Ajs h r] <;> rfl
theorem P8:∀ (c:Codec) (a:c.denote),plW (c.enc a)=true
  | .unit,_=>rfl
  | .bool,_=>rfl
  | .int _ _,_=>rfl
  | .nat _ _,_=>rfl
  | .u8,_=>rfl
  | .bytes _ _,_=>rfl
  | .text _ _ _ _,_=>rfl
  | .list _ _ c,a=>Ajs (fun x=>P8 c x) a
  | .pair c d,a=>by
    show (plW (c.enc a.1) && (plW (d.enc a.2) && true))=true
    rw [P8 c a.1,P8 d a.2] <;> rfl
  | .triple c d e,a=>by
    show (plW (c.enc a.1) && (plW (d.enc a.2.1) && (plW (e.enc a.2.2) && true)))=true
    rw [P8 c a.1,P8 d a.2.1,P8 e a.2.2] <;> rfl
  | .option c,none=>rfl
  | .option c,some x=>P8 c x
theorem AdC:∀ (cs:List Codec) (a:Codec.denoteAll cs),Yo (Codec.encAll cs a)=true
  | [],_=>rfl
  | c::cs,a=>by
    show (plW (c.enc a.1) && Yo (Codec.encAll cs a.2))=true
    rw [P8 c a.1,AdC cs a.2] <;> rfl
theorem T9:∀ {xs:List WData} {d:WData},d ∈ xs→d.weight≤WData.weightAll xs
  | [],d,h=>absurd h (by simp)
  | x::r,d,h=>by
    show d.weight≤x.weight + 1 + WData.weightAll r
    rcases List.mem_cons.mp h with e | m
    · rw [e]
      omega
    · have z:=T9 m
      omega
def toV:Value→V
  | .none=>.non
  | .bool b=>.bl b
  | .int i _=>.int i
  | .str x _=>.str x
  | .bytes b _=>.byt b
  | .ref a=>.ref a
  | _=>.non
def OkU (A:List Addr):Value→Prop
  | .none=>True
  | .bool _=>True
  | .int _ _=>True
  | .str _ _=>True
  | .bytes _ _=>True
  | .ref a=>a ∈ A
  | _=>False
theorem OkU.mono {A B:List Addr} (h:∀ a ∈ A,a ∈ B):∀ {u:Value},OkU A u→OkU B u:=fun {u} x=>by
  cases u with
  | ref a=>exact h a x
  | none=>trivial
  | bool b=>trivial
  | int i t=>trivial
  | str s t=>trivial
  | bytes b t=>trivial
  | _=>exact False.elim x
theorem ArJ {A:List Addr} {u:Value} (x:OkU A u):RelV (toV u) u:=by
  cases u with
  | ref a=>rfl
  | none=>rfl
  | bool b=>rfl
  | int i t=>exact ⟨t,rfl⟩
  | str s t=>exact ⟨t,rfl⟩
  | bytes b t=>exact ⟨t,rfl⟩
  | _=>exact False.elim x
theorem LJ {A:List Addr}:∀ {vs:List Value},(∀ u ∈ vs,OkU A u)→Vals (vs.map toV) vs
  | [],_=>.nil
  | u::r,h=>.cons (ArJ (h u (List.mem_cons_self ..))) (LJ fun x hx=>h x (List.mem_cons_of_mem _ hx))
def MN (h:Heap) (A:List Addr) (a:Addr):Prop:=∃ vs:List Value,vs.length≤sizeLine∧(∀ u ∈ vs,OkU A u) ∧
  (h.get? a=some { cls:=.type "list",data:=.seq vs.toArray }∨h.get? a=some { cls:=.type "tuple",data:=.seq vs.toArray })
theorem MN.mono {h:Heap} {A B:List Addr} {a:Addr} (k:∀ a ∈ A,a ∈ B) (x:MN h A a):MN h B a:=by
  obtain ⟨vs,h1,h2,h3⟩:=x
  exact ⟨vs,h1,fun u hu=>(h2 u hu).mono k,h3⟩
theorem K9 {P:Params} {h:Heap}:∀ {vs:List Value} {ds:List WData},WellAll P h vs ds→vs.length=ds.length
  | _,_,.nil=>rfl
  | _,_,.cons _ b=>by
    show _ + 1=_ + 1
    rw [K9 b]
theorem AdO {P:Params} {h:Heap} {v:Value} {ds:List WData} (x:Well P h v (.list ds)):∃ (a:Addr) (vs:List Value),v=.ref a∧h.get? a=some { cls:=.type "list",data:=.seq vs.toArray }∧WellAll P h vs ds:=by
  cases x with
  | list ho hall=>exact ⟨_,_,rfl,ho,hall⟩
theorem AbT {P:Params} {h:Heap} {v:Value} {ds:List WData} (x:Well P h v (.tuple ds)):∃ (a:Addr) (vs:List Value),v=.ref a∧h.get? a=some { cls:=.type "tuple",data:=.seq vs.toArray }∧WellAll P h vs ds:=by
  cases x with
  | tuple ho hall=>exact ⟨_,_,rfl,ho,hall⟩
theorem AdN {P:Params} {h:Heap} {us:List Value} {d:WData} {ds:List WData} (x:WellAll P h us (d::ds)):∃ (v:Value) (vs:List Value),us=v::vs∧Well P h v d∧WellAll P h vs ds:=by
  cases x with
  | cons a b=>exact ⟨_,_,rfl,a,b⟩
theorem Aod {n:Nat} (h:n≤1048576):n≤sizeLine:=Nat.le_trans h (by decide)
section
variable {P:Params} {h:Heap}
mutual
theorem AqE:∀ (d:WData) (v:Value),Well P h v d→plW d=true→d.weight≤1048576→∃ A:List Addr,OkU A v∧∀ a ∈ A,MN h A a
  | .none,_,x,_,_=>by
    cases x
    exact ⟨[],trivial,fun a m=>absurd m (by simp)⟩
  | .bool b,_,x,_,_=>by
    cases x
    exact ⟨[],trivial,fun a m=>absurd m (by simp)⟩
  | .int i,_,x,_,_=>by
    cases x
    exact ⟨[],trivial,fun a m=>absurd m (by simp)⟩
  | .str s,_,x,_,_=>by
    cases x
    exact ⟨[],trivial,fun a m=>absurd m (by simp)⟩
  | .bytes b,_,x,_,_=>by
    cases x
    exact ⟨[],trivial,fun a m=>absurd m (by simp)⟩
  | .list ds,_,x,p,z=>by
    obtain ⟨a,vs,rfl,ho,hall⟩:=AdO x
    have z2:WData.weightAll ds≤1048576:=z
    obtain ⟨A,h1,h2⟩:=Ub ds _ hall p fun d hd=>Nat.le_trans (T9 hd) z2
    have k:∀ b ∈ A,b ∈ a::A:=fun b hb=>List.mem_cons_of_mem _ hb
    refine ⟨a::A,List.mem_cons_self ..,fun b hb=>?_⟩
    rcases List.mem_cons.mp hb with e | m
    · rw [e]
      exact ⟨vs,Aod (by rw [K9 hall]; exact Nat.le_trans (PySem.W.length_le_weightAllW ds) z2),fun u hu=>(h1 u hu).mono k,.inl ho⟩
    · exact (h2 b m).mono k
  | .tuple ds,_,x,p,z=>by
    obtain ⟨a,vs,rfl,ho,hall⟩:=AbT x
    have z2:WData.weightAll ds≤1048576:=z
    obtain ⟨A,h1,h2⟩:=Ub ds _ hall p fun d hd=>Nat.le_trans (T9 hd) z2
    have k:∀ b ∈ A,b ∈ a::A:=fun b hb=>List.mem_cons_of_mem _ hb
    refine ⟨a::A,List.mem_cons_self ..,fun b hb=>?_⟩
    rcases List.mem_cons.mp hb with e | m
    · rw [e]
      exact ⟨vs,Aod (by rw [K9 hall]; exact Nat.le_trans (PySem.W.length_le_weightAllW ds) z2),fun u hu=>(h1 u hu).mono k,.inr ho⟩
    · exact (h2 b m).mono k
  | .float _,_,_,p,_=>Bool.noConfusion (show false=true from p)
  | .dict _,_,_,p,_=>Bool.noConfusion (show false=true from p)
  | .bytearray _,_,_,p,_=>Bool.noConfusion (show false=true from p)
  | .set _,_,_,p,_=>Bool.noConfusion (show false=true from p)
  | .frozenset _,_,_,p,_=>Bool.noConfusion (show false=true from p)
  | .obj _ _,_,_,p,_=>Bool.noConfusion (show false=true from p)
theorem Ub:∀ (ds:List WData) (vs:List Value),WellAll P h vs ds→Yo ds=true→(∀ d ∈ ds,d.weight≤1048576)→∃ A:List Addr,(∀ u ∈ vs,OkU A u)∧∀ a ∈ A,MN h A a
  | [],_,x,_,_=>by
    cases x
    exact ⟨[],fun u m=>absurd m (by simp),fun a m=>absurd m (by simp)⟩
  | d::ds,_,x,p,z=>by
    obtain ⟨v,vs,rfl,x1,x2⟩:=AdN x
    have q:plW d=true∧Yo ds=true:=Bool.and_eq_true_iff.mp p
    obtain ⟨A,a1,a2⟩:=AqE d v x1 q.1 (z d (List.mem_cons_self ..))
    obtain ⟨B,b1,b2⟩:=Ub ds vs x2 q.2 fun e he=>z e (List.mem_cons_of_mem _ he)
    have kA:∀ b ∈ A,b ∈ A++B:=fun b hb=>List.mem_append.mpr (.inl hb)
    have kB:∀ b ∈ B,b ∈ A++B:=fun b hb=>List.mem_append.mpr (.inr hb)
    refine ⟨A++B,fun u hu=>?_,fun b hb=>?_⟩
    · rcases List.mem_cons.mp hu with e | m
      · rw [e]
        exact a1.mono kA
      · exact (b1 u m).mono kB
    · rcases List.mem_append.mp hb with m | m
      · exact (a2 b m).mono kA
      · exact (b2 b m).mono kB
end
end
def Atj (o:Obj):Option HO:=match o.data with
  | .seq vs _=>if (o.cls == Value.type "list")=true then some (.frz o (.lst (vs.toList.map toV))) else some (.frz o (.tup (vs.toList.map toV)))
  | _=>none
def LW (K:PySem.W.Frag) (h:Heap) (A:List Addr):Hp:=fun b=>if b ∈ A then (if (K.lookup b).isNone=true then (h.get? b).bind Atj else none) else none
def YR (H:Hp):Prop:=∀ b,H b=none∨∃ o u,H b=some (.frz o u)
theorem Aik (vs:List Value):Atj { cls:=.type "list",data:=.seq vs.toArray }=some (.frz { cls:=.type "list",data:=.seq vs.toArray } (.lst (vs.map toV))):=by
  show (if (Value.type "list" == Value.type "list")=true then some (HO.frz { cls:=.type "list",data:=.seq vs.toArray } (.lst (vs.toArray.toList.map toV))) else some (HO.frz { cls:=.type "list",data:=.seq vs.toArray } (.tup (vs.toArray.toList.map toV))))=_
  rw [if_pos (beq_self_eq_true _)]
theorem Ail (vs:List Value):Atj { cls:=.type "tuple",data:=.seq vs.toArray }=some (.frz { cls:=.type "tuple",data:=.seq vs.toArray } (.tup (vs.map toV))):=by
  show (if (Value.type "tuple" == Value.type "list")=true then some (HO.frz { cls:=.type "tuple",data:=.seq vs.toArray } (.lst (vs.toArray.toList.map toV))) else some (HO.frz { cls:=.type "tuple",data:=.seq vs.toArray } (.tup (vs.toArray.toList.map toV))))=_
  rw [if_neg (by decide)]
section
variable {P:Program} {w:World} {K:PySem.W.Frag} {h:Heap} {A:List Addr}
theorem YB {b:Addr} {o:Obj} (hb:b ∈ A) (hk:K.lookup b=none) (e:h.get? b=some o):LW K h A b=Atj o:=by
  unfold LW
  rw [if_pos hb,hk,if_pos (show (none:Option Obj).isNone=true from rfl),e] <;> rfl
theorem AtG {b:Addr} {u:HO} (q:LW K h A b=some u):b ∈ A∧K.lookup b=none:=by
  unfold LW at q
  by_cases hb:b ∈ A
  · rw [if_pos hb] at q
    cases hk:K.lookup b with
    | none=>exact ⟨hb,rfl⟩
    | some o =>
      rw [hk,if_neg (by simp)] at q
      cases q
  · rw [if_neg hb] at q
    cases q
theorem YC (ar:∀ a ∈ A,MN h A a) {b:Addr} {u:HO} (q:LW K h A b=some u):K.lookup b=none∧∃ vs:List Value,vs.length≤sizeLine∧(∀ u ∈ vs,OkU A u) ∧
    ((h.get? b=some { cls:=.type "list",data:=.seq vs.toArray }∧u=.frz { cls:=.type "list",data:=.seq vs.toArray } (.lst (vs.map toV))) ∨
     (h.get? b=some { cls:=.type "tuple",data:=.seq vs.toArray }∧u=.frz { cls:=.type "tuple",data:=.seq vs.toArray } (.tup (vs.map toV)))):=by
  obtain ⟨hb,hk⟩:=AtG q
  obtain ⟨vs,h1,h2,h3⟩:=ar b hb
  refine ⟨hk,vs,h1,h2,?_⟩
  rcases h3 with e | e
  · rw [YB hb hk e,Aik] at q
    exact .inl ⟨e,(Option.some.inj q).symm⟩
  · rw [YB hb hk e,Ail] at q
    exact .inr ⟨e,(Option.some.inj q).symm⟩
theorem AoV (ar:∀ a ∈ A,MN h A a):YR (LW K h A):=fun b=>by
  cases q:LW K h A b with
  | none=>exact .inl rfl
  | some u =>
    obtain ⟨_,vs,_,_,⟨_,e⟩ | ⟨_,e⟩⟩:=YC ar q
    · exact .inr ⟨_,_,by rw [e]⟩
    · exact .inr ⟨_,_,by rw [e]⟩
theorem AsP (ar:∀ a ∈ A,MN h A a):HOk P w (LW K h A) h:=fun b u q=>by
  obtain ⟨_,vs,h1,h2,⟨e,rfl⟩ | ⟨e,rfl⟩⟩:=YC ar q
  · exact ⟨e,by rw [List.length_map]; exact h1,vs,_,LJ h2,e⟩
  · exact ⟨e,by rw [List.length_map]; exact h1,vs,LJ h2,_,e,rfl,_,rfl⟩
theorem YI {c c':Value} {vs us:List Value} (e:(some { cls:=c,data:=.seq vs.toArray }:Option Obj)=some { cls:=c',data:=.seq us.toArray }):c=c'∧vs=us:=by
  have e1:=Option.some.inj e
  have e2:c=c':=congrArg Obj.cls e1
  have e3:Data.seq vs.toArray=Data.seq us.toArray:=congrArg Obj.data e1
  injection e3 with e4
  refine ⟨e2,?_⟩
  have e5:=congrArg Array.toList e4
  simpa using e5
theorem Axt (KX:K.In h) (ar:∀ a ∈ A,MN h A a) {a:Addr} {vs:List Value} (ha:a ∈ A) (e:h.get? a=some { cls:=.type "list",data:=.seq vs.toArray }):(∀ u ∈ vs,OkU A u)∧SqL K (LW K h A) a (vs.map toV):=by
  obtain ⟨us,h1,h2,h3⟩:=ar a ha
  have hu:us=vs:=by
    rcases h3 with q | q
    · rw [e] at q
      exact (YI q).2.symm
    · rw [e] at q
      exact absurd (Value.type.inj (YI q).1) (by decide)
  subst hu
  refine ⟨h2,?_⟩
  cases hk:K.lookup a with
  | none=>exact .inl (.inr ⟨_,by rw [YB ha hk e,Aik]⟩)
  | some o =>
    have e2:=KX a o hk
    rw [e] at e2
    obtain rfl:=Option.some.inj e2
    exact .inr ⟨_,us.toArray,_,hk,rfl,rfl,rfl,by rw [List.size_toArray]; exact h1,by simpa using LJ h2⟩
theorem Axu (KX:K.In h) (ar:∀ a ∈ A,MN h A a) {a:Addr} {vs:List Value} (ha:a ∈ A) (e:h.get? a=some { cls:=.type "tuple",data:=.seq vs.toArray }):(∀ u ∈ vs,OkU A u)∧SqT K (LW K h A) a (vs.map toV):=by
  obtain ⟨us,h1,h2,h3⟩:=ar a ha
  have hu:us=vs:=by
    rcases h3 with q | q
    · rw [e] at q
      exact absurd (Value.type.inj (YI q).1) (by decide)
    · rw [e] at q
      exact (YI q).2.symm
  subst hu
  refine ⟨h2,?_⟩
  cases hk:K.lookup a with
  | none=>exact .inl (.inr ⟨_,by rw [YB ha hk e,Ail]⟩)
  | some o =>
    have e2:=KX a o hk
    rw [e] at e2
    obtain rfl:=Option.some.inj e2
    exact .inr ⟨_,us.toArray,_,hk,rfl,rfl,by rw [List.size_toArray]; exact h1,by simpa using LJ h2⟩
mutual
theorem AuX {Pm:Params} (KX:K.In h) (ar:∀ a ∈ A,MN h A a):∀ (d:WData) (v:Value),Well Pm h v d→plW d=true→OkU A v→Dw K (LW K h A) (toV v) d
  | .none,_,x,_,_=>by
    cases x
    exact .non
  | .bool b,_,x,_,_=>by
    cases x
    exact .bl b
  | .int i,_,x,_,_=>by
    cases x
    exact .int i
  | .str s,_,x,_,_=>by
    cases x
    exact .str s
  | .bytes b,_,x,_,_=>by
    cases x
    have z:=Dw.byt (K:=K) (H:=LW K h A) b.toArray
    exact z
  | .list ds,_,x,p,hu=>by
    obtain ⟨a,vs,rfl,ho,hall⟩:=AdO x
    obtain ⟨h2,hs⟩:=Axt KX ar hu ho
    exact .lst hs (AeW KX ar ds _ hall p h2)
  | .tuple ds,_,x,p,hu=>by
    obtain ⟨a,vs,rfl,ho,hall⟩:=AbT x
    obtain ⟨h2,hs⟩:=Axu KX ar hu ho
    exact .tup hs (AeW KX ar ds _ hall p h2)
  | .float _,_,_,p,_=>Bool.noConfusion (show false=true from p)
  | .dict _,_,_,p,_=>Bool.noConfusion (show false=true from p)
  | .bytearray _,_,_,p,_=>Bool.noConfusion (show false=true from p)
  | .set _,_,_,p,_=>Bool.noConfusion (show false=true from p)
  | .frozenset _,_,_,p,_=>Bool.noConfusion (show false=true from p)
  | .obj _ _,_,_,p,_=>Bool.noConfusion (show false=true from p)
theorem AeW {Pm:Params} (KX:K.In h) (ar:∀ a ∈ A,MN h A a):∀ (ds:List WData) (vs:List Value),WellAll Pm h vs ds→Yo ds=true→(∀ u ∈ vs,OkU A u)→Li K (LW K h A) (vs.map toV) ds
  | [],_,x,_,_=>by
    cases x
    exact .nil
  | d::ds,_,x,p,hu=>by
    obtain ⟨v,vs,rfl,x1,x2⟩:=AdN x
    have q:plW d=true∧Yo ds=true:=Bool.and_eq_true_iff.mp p
    exact .cons (AuX KX ar d v x1 q.1 (hu _ (List.mem_cons_self ..))) (AeW KX ar ds vs x2 q.2 fun u m=>hu u (List.mem_cons_of_mem _ m))
end
end
theorem Aqy {P:Program} {w:World} {K:PySem.W.Frag} {mg mb:Str→Option Value} {CX:CXT} {k:Nat} {fa:Addr} {fd:FuncData} {ps:List Str} {sp:Sp} {s₁:Shared} {vals:List Value} {ds:List WData} {R:PySem.W.WRecords} {cl:Str→Option Addr} {d0:WData}
    (KX:K.In s₁.heap) (hns:s₁.heap.Ns mainGlobals mg) (hb:s₁.heap.Ns builtinsNs mb) (hbb:∀ x:Str,x≠"__name__"→mb x=bootBuiltins x) (hlim:s₁.heap.NoLimit) (hg:s₁.gens = #[])
    (hwl:WellAll w.params s₁.heap vals ds) (hpl:Yo ds=true) (hwt:∀ d ∈ ds,d.weight≤1048576) (hr:GC k callerA)
    (F:∀ base:Heap,K.In base→base.Ns mainGlobals mg→AY P w K mg base CX k fa fd ps sp) (hbind:∀ (s:Shared) (us:List Value),us.length=ps.length→BindsTo s fd ⟨us,[]⟩ (ps.zip us)) (hlen:ds.length=ps.length)
    (hsp:∀ (H:Hp) (xs:List V),YR H→Li K H xs ds→sp xs H (fun v H'=>Dw K H' v d0) fun _ _ _=>False)
    (hCX:∀ H e s',CX [] H s₁ (fun _ _ _=>False) e s'→False) :
    codeAny (model P w) callerA (.call (.ref fa) ⟨vals,[]⟩) (fun r s'=>∃ u as,r=.ok (.ret u)∧ReadsW R cl s'.heap u d0 as∧OldK s₁.heap s'.heap∧s'.os=s₁.os∧AllBare s'.gens) s₁:=by
  obtain ⟨A,ho,ar⟩:=Ub ds vals hwl hpl hwt
  have hO:YR (LW K s₁.heap A):=AoV ar
  have hok:HOk P w (LW K s₁.heap A) s₁.heap:=AsP ar
  have hS:=AeW KX ar ds vals hwl hpl ho
  have hV:=LJ ho
  have hK:∀ b u,LW K s₁.heap A b=some u→K.lookup b=none:=fun b u q=>(YC ar q).1
  have noA:∀ {b:Addr} {o:Obj} {es:Array DictEntry} {ep:Nat},s₁.heap.get? b=some o→o.data=.dict es ep→LW K s₁.heap A b=none:=fun {b o es ep} e d=>by
    cases q:LW K s₁.heap A b with
    | none=>rfl
    | some u =>
      obtain ⟨_,vs,_,_,⟨e2,_⟩ | ⟨e2,_⟩⟩:=YC ar q
      · rw [e2] at e
        cases e
        have d':Data.seq vs.toArray _=Data.dict es ep:=d
        cases d'
      · rw [e2] at e
        cases e
        have d':Data.seq vs.toArray _=Data.dict es ep:=d
        cases d'
  generalize LW K s₁.heap A=H at hO hok hS hK noA
  have base_of:∀ {b:Addr} {o:Obj},s₁.heap.get? b=some o→H b=none→(Afj s₁.heap H).get? b=some o:=fun e n=>Arf e n
  have nsK:∀ {b:Addr} {m:Str→Option Value},s₁.heap.Ns b m→(Afj s₁.heap H).Ns b m:=fun {b m} ⟨o,es,ep,e,d,r⟩=>⟨o,es,ep,base_of e (noA e d),d,r⟩
  have nK:∀ b o,K.lookup b=some o→H b=none:=fun b o e=>by
    cases q:H b with
    | none=>rfl
    | some u =>
      rw [hK b u q] at e
      cases e
  have hKb:K.In (Afj s₁.heap H):=fun b o e=>base_of (KX b o e) (nK b o e)
  have hM:Mod K mg (Afj s₁.heap H):=⟨hKb,nsK hns,⟨mb,nsK hb,hbb⟩,let ⟨mc,h1,h2⟩:=hlim; ⟨mc,nsK h1,h2⟩⟩
  have e0:Ak5 P w K mg (Afj s₁.heap H) callerA [] s₁ H:=⟨rfl,hM,fun b o e=>AtH e,Nat.le_of_eq (Aps _ _),trivial,fun b hb=>absurd (show b ∈ ([]:List Addr) from hb) (by simp),hok,.of_eq hg⟩
  have hl:vals.length=ps.length:=by rw [K9 hwl]; exact hlen
  refine codeAny_mono ((F _ hKb (nsK hns)).run callerA [] s₁ H ⟨vals,[]⟩ vals (vals.map toV) _ _ hr e0 (hbind s₁ vals hl) hV (hsp H _ hO hS)) fun r s' x=>?_
  cases r with
  | error e=>exact (hCX H e s' x).elim
  | ok fl =>
    cases fl with
    | next=>exact False.elim x
    | brk=>exact False.elim x
    | cont=>exact False.elim x
    | ret u =>
      obtain ⟨v,H',os,bare,un,hok',r',q⟩:=x
      have kept:∀ b o,s₁.heap.get? b=some o→s'.heap.get? b=some o:=fun b o e=>by
        cases q2:H b with
        | none=>exact un.keep b o e q2 (by intro z; exact absurd (show b ∈ ([]:List Addr) from z) (by simp)) (by simp)
        | some u2 =>
          rcases hO b with z | ⟨ob,u3,z⟩
          · rw [q2] at z
            cases z
          · have z2:=un.ZT b ob _ z
            obtain ⟨e1,_⟩:=hok b _ z
            obtain ⟨e2,_⟩:=hok' b _ z2
            rw [e] at e1
            cases e1
            exact e2
      have KX':K.In s'.heap:=fun b o e=>kept b o (KX b o e)
      obtain ⟨as,hrd⟩:=Dw.reads (R:=R) (cl:=cl) hok' KX' d0 v u q r'
      exact ⟨u,as,rfl,hrd,OldK.of_keep kept,os,bare⟩
theorem Aa9 {ds:List WData} (h:WData.layableAll ds=true):∀ d ∈ ds,d.weight≤1048576:=fun d hd =>
  (PySem.W.layableW_iff.mp (List.all_eq_true.mp h d hd)).2.2
theorem ZN:∀ (cs:List Codec) (a:Codec.denoteAll cs),(Codec.encAll cs a).length=cs.length
  | [],_=>rfl
  | c::cs,a=>by
    show (Codec.encAll cs a.2).length + 1=cs.length + 1
    rw [ZN cs a.2]
theorem AqB {r:OpenSpec} {k:Nat} {q:Program} {loose:List Str} {XP:(Str→Option Value)→Heap→Prop} {YP:World→Heap→Prop} {d:DefRec} {K:Params→PySem.W.Frag} {CX:World→CXT} {ps:List Str} {sp:World→Sp}
    (hwell:r.wellSaid=true) (hdf:d.params.defaults=[]) (hlen:r.args.length=ps.length) (hr:GC k callerA)
    (hY:∀ (w:World) (h:Heap),YP w h→(K w.params).In h)
    (F:∀ (w:World) (mg:Str→Option Value) (fa:Addr) (h:Heap),YP w h→(K w.params).In h→h.Ns mainGlobals mg→mg d.name=some (.ref fa) →
      ∃ fd:FuncData,(∀ (s:Shared) (us:List Value),us.length=ps.length→BindsTo s fd ⟨us,[]⟩ (ps.zip us)) ∧
        ∀ base:Heap,(K w.params).In base→base.Ns mainGlobals mg→AY r.prog w (K w.params) mg base (CX w) k fa fd ps (sp w))
    (hsp:∀ (w:World) (H:Hp) (xs:List V) (a:Codec.denoteAll r.args),YR H→Codec.withinAll r.args a=true→Codec.app r.args r.asked a=true→Li (K w.params) H xs (Codec.encAll r.args a) →
      sp w xs H (fun v H'=>Dw (K w.params) H' v (r.ret.enc (Codec.app r.args r.f a))) fun _ _ _=>False)
    (hCX:∀ (w:World) (H:Hp) (s:Shared) (e:Value) (s':Shared),CX w [] H s (fun _ _ _=>False) e s'→False) :
    PySem.W.WalkOS q loose XP YP r d [] (fun f vs=>PySem.call f vs):=by
  intro w s_0 s₁ mg mb G Y fa o pm cd doc dV kV ho hd hcd hD hmg hg args vals as hpre hlay hrd hwl hlo
  obtain ⟨a,e1,e2⟩:=PySem.W.os_pre_some hpre
  obtain ⟨e3,hwi⟩:=Codec.encAll_of_decAll r.args args a e1
  subst e3
  have KX:=hY w _ Y
  obtain ⟨fd,hb,hF⟩:=F w mg fa _ Y KX G.T.g hmg
  refine PySem.W.enter_call (codeAny_mono (Aqy (R:=[]) (cl:=classAt s_0.heap) (d0:=r.ret.enc (Codec.app r.args r.f a)) KX G.T.g G.T.b G.T.builtins G.T.nolimit hg hwl (AdC _ _) (Aa9 hlay) hr hF hb (by rw [ZN]; exact hlen)
    (fun H xs hO hS=>hsp w H xs a hO hwi e2 hS) fun H e s'=>hCX w H s₁ e s') fun r' s' hq=>?_)
  obtain ⟨u,as',rfl,h1,h2,h3,h4⟩:=hq
  exact ⟨.inl ⟨u,_,as',rfl,fun _=>rfl,h1,(OpenSpec.post_iff hwell hwi _ _).mpr rfl,fun z=>Bool.noConfusion (show false=true from z)⟩,h2,h3,h4⟩
theorem AnI {r:OpenSpec} {k:Nat} {q:Program} {loose:List Str} {XP:(Str→Option Value)→Heap→Prop} {YP:World→Heap→Prop} {d:DefRec} {K:Params→PySem.W.Frag} {CX:CXT} {ps:List Str} {sp:PySem.W.Frag→Sp}
    (hwell:r.wellSaid=true) (hdf:d.params.defaults=[]) (hlen:r.args.length=ps.length) (hr:GC k callerA)
    (hY:∀ (w:World) (h:Heap),YP w h→(K w.params).In h)
    (F:∀ (w:World) (mg:Str→Option Value) (fa:Addr) (h:Heap),YP w h→(K w.params).In h→h.Ns mainGlobals mg→mg d.name=some (.ref fa) →
      ∃ fd:FuncData,(∀ (s:Shared) (us:List Value),us.length=ps.length→BindsTo s fd ⟨us,[]⟩ (ps.zip us)) ∧
        ∀ base:Heap,(K w.params).In base→base.Ns mainGlobals mg→AY r.prog w (K w.params) mg base CX k fa fd ps (sp (K w.params)))
    (hsp:∀ (K:PySem.W.Frag) (H:Hp) (xs:List V) (a:Codec.denoteAll r.args),YR H→Codec.withinAll r.args a=true→Codec.app r.args r.asked a=true→Li K H xs (Codec.encAll r.args a) →
      sp K xs H (fun v H'=>Dw K H' v (r.ret.enc (Codec.app r.args r.f a))) fun _ _ _=>False)
    (hCX:∀ (H:Hp) (s:Shared) (e:Value) (s':Shared),CX [] H s (fun _ _ _=>False) e s'→False) :
    PySem.W.WalkOS q loose XP YP r d [] (fun f vs=>PySem.call f vs) :=
  AqB (K:=K) (CX:=fun _=>CX) (sp:=fun w=>sp (K w.params)) hwell hdf hlen hr hY F (fun w H xs a h1 h2 h3 h4=>hsp (K w.params) H xs a h1 h2 h3 h4) fun _ H s e s'=>hCX H s e s'
end L2
end
section
set_option autoImplicit false
open FtTree
namespace FtM
structure M where
  w:World
  phase:Nat
  part:Bytes
  wanted:Nat
  head:Head
  name:Bytes
  code:Nat
  place:Nat
def MJ (m:M):M:={ m with phase:=1,part:=[],wanted:=110 }
def Kb (m:M):M:=if padding m.head.size=0 then MJ m else { m with phase:=5,part:=[],wanted:=padding m.head.size }
def DF (m:M) (d:Bytes):M:=Kb (if m.head.size=0 then m else { m with w:=apply m.w m.head m.name d })
def Gi (m:M):M:=if m.head.size=0 then DF m [] else { m with phase:=4,part:=[],wanted:=m.head.size }
def MK (m:M):M:=if padding (110 + m.head.length)=0 then Gi m else { m with phase:=3,part:=[],wanted:=padding (110 + m.head.length) }
def Bl (m:M):Nat:=if nameOK m.head m.part=false then 3 else if m.part.dropLast=TRAILER then 0 else judge m.w m.head m.part.dropLast
def Iw (m:M):M :=
  if m.name=TRAILER then { m with w:={ m.w with keys:=[] },phase:=0,part:=[],wanted:=110 }
  else MK (if m.head.size=0 then { m with w:=apply m.w m.head m.name [] } else m)
def endName (m:M):M:=if Bl m≠0 then { m with name:=m.part.dropLast,code:=Bl m } else Iw { m with name:=m.part.dropLast }
def IY (m:M):M:=if (headOf m.part).ok=true then { m with head:=headOf m.part,phase:=2,part:=[],wanted:=(headOf m.part).length } else { m with head:=headOf m.part,code:=2 }
def Ca (m:M):M:=if m.phase=1 then IY m else if m.phase=2 then endName m else if m.phase=3 then Gi m else if m.phase=4 then DF m m.part else MJ m
def Ax (ph k:Nat) (b:UInt8):Nat :=
  if ph=0∧b=0 then 0
  else if (ph=0∨ph=1)∧headByte k b=false then 1
  else if (ph=3∨ph=5)∧b≠0 then 6 else 0
def take1 (m:M) (b:UInt8):M :=
  if Ax m.phase m.part.length b≠0 then { m with code:=Ax m.phase m.part.length b }
  else if m.phase=0∧b=0 then { m with place:=m.place + 1 }
  else if m.part.length + 1=m.wanted then Ca { m with phase:=if m.phase=0 then 1 else m.phase,part:=m.part++[b],place:=m.place + 1 }
  else { m with phase:=if m.phase=0 then 1 else m.phase,part:=m.part++[b],place:=m.place + 1 }
def take (m:M) (b:UInt8):M:=if m.code≠0 then m else take1 m b
def feed (m:M) (s:Bytes):M:=s.foldl take m
def out (m:M):Out:=⟨m.w,if m.code=0 then none else some (m.code,m.place),m.code == 0 && m.phase == 0⟩
def st (w:World) (c:Bool) (h:Head) (p:Bytes) (pos:Nat):M:=⟨w,if c=true then 0 else 1,[],110,h,p,0,pos⟩
theorem ZQ (m:M):feed m []=m:=rfl
theorem Ew (m:M) (b:UInt8) (s:Bytes):feed m (b::s)=feed (take m b) s:=rfl
theorem Ec (m:M) (s t:Bytes):feed m (s++t)=feed (feed m s) t:=List.foldl_append
theorem Fl (s:Bytes):∀ (m:M),m.code≠0→feed m s=m:=by
  induction s with
  | nil=>intro m _; rfl
  | cons b s ih =>
    intro m h
    rw [Ew]
    have e:take m b=m:=by unfold take; rw [if_pos h]
    rw [e]; exact ih m h
theorem Aq3 {m:M} {b:UInt8} (h0:m.code=0) (hp:m.phase≠0) (hb:Ax m.phase m.part.length b=0) (hw:m.part.length + 1≠m.wanted) :
    take m b={ m with part:=m.part++[b],place:=m.place + 1 }:=by
  unfold take take1
  rw [if_neg (by simp [h0]),if_neg (by simp [hb]),if_neg (by simp [hp]),if_neg hw,if_neg hp]
theorem Aq2 {m:M} {b:UInt8} (h0:m.code=0) (hp:m.phase≠0) (hb:Ax m.phase m.part.length b=0) (hw:m.part.length + 1=m.wanted) :
    take m b=Ca { m with part:=m.part++[b],place:=m.place + 1 }:=by
  unfold take take1
  rw [if_neg (by simp [h0]),if_neg (by simp [hb]),if_neg (by simp [hp]),if_pos hw,if_neg hp]
theorem As3 {m:M} {b:UInt8} (h0:m.code=0) (hb:Ax m.phase m.part.length b≠0) :
    take m b={ m with code:=Ax m.phase m.part.length b }:=by
  unfold take take1
  rw [if_neg (by simp [h0]),if_pos hb]
theorem Ly (s:Bytes):∀ (m:M),m.code=0→m.phase≠0→(∀ (i:Nat) (b:UInt8),s[i]? = some b→Ax m.phase (m.part.length + i) b=0) →
    m.part.length + s.length < m.wanted→feed m s={ m with part:=m.part++s,place:=m.place + s.length }:=by
  induction s with
  | nil=>intro m _ _ _ _; simp [ZQ]
  | cons b s ih =>
    intro m h0 hp hb hl
    rw [List.length_cons] at hl
    rw [Ew,Aq3 h0 hp (hb 0 b rfl) (by omega),ih]
    · simp only [List.append_assoc,List.singleton_append,List.length_cons]
      congr 1; omega
    · exact h0
    · exact hp
    · intro i c hc
      have:=hb (i + 1) c (by simpa using hc)
      simp only [List.length_append,List.length_singleton]
      rw [show m.part.length + 1 + i=m.part.length + (i + 1) by omega]; exact this
    · simp only [List.length_append,List.length_singleton]; omega
theorem Sj (s:Bytes) (m:M) (h0:m.code=0) (hp:m.phase≠0) (hb:∀ (i:Nat) (b:UInt8),s[i]? = some b→Ax m.phase (m.part.length + i) b=0)
    (hs:s≠[]) (hl:m.part.length + s.length=m.wanted):feed m s=Ca { m with part:=m.part++s,place:=m.place + s.length }:=by
  obtain ⟨r,x,rfl⟩:∃ (r:Bytes) (x:UInt8),s=r++[x]:=⟨s.dropLast,s.getLast hs,(List.dropLast_concat_getLast hs).symm⟩
  rw [List.length_append,List.length_singleton] at hl
  have hd:∀ (i:Nat) (b:UInt8),r[i]? = some b→(r++[x])[i]? = some b:=by
    intro i b h
    have hi:i < r.length:=by
      rcases Nat.lt_or_ge i r.length with k | k
      · exact k
      · rw [List.getElem?_eq_none k] at h; cases h
    rw [List.getElem?_append_left hi]; exact h
  have hg:(r++[x])[r.length]? = some x:=by simp
  have k1:=Ly r m h0 hp (fun i b h=>hb i b (hd i b h)) (by omega)
  rw [Ec,k1,Ew,ZQ,Aq2]
  · simp only [List.append_assoc,List.length_append,List.length_singleton,Nat.add_assoc]
  · exact h0
  · exact hp
  · simp only [List.length_append]; exact hb _ _ hg
  · simp only [List.length_append]; omega
theorem AhY (s:Bytes) (m:M) (i:Nat) (b:UInt8) (h0:m.code=0) (hp:m.phase≠0) (hi:s[i]? = some b) (hb:∀ (j:Nat) (c:UInt8),j < i→s[j]? = some c→Ax m.phase (m.part.length + j) c=0)
    (hl:m.part.length + i < m.wanted) (hbad:Ax m.phase (m.part.length + i) b≠0) :
    feed m s={ m with part:=m.part++s.take i,place:=m.place + i,code:=Ax m.phase (m.part.length + i) b }:=by
  have il:i < s.length:=by
    rcases Nat.lt_or_ge i s.length with h | h
    · exact h
    · rw [List.getElem?_eq_none h] at hi; cases hi
  have tl:(s.take i).length=i:=by rw [List.length_take]; omega
  have e:s=s.take i++b::s.drop (i + 1):=by
    have hd:s.drop i=b::s.drop (i + 1):=by
      rw [List.drop_eq_getElem_cons il]
      rw [List.getElem?_eq_getElem il] at hi
      rw [Option.some.inj hi]
    rw [← hd,List.take_append_drop]
  have k1:=Ly (s.take i) m h0 hp (fun j c h=>by
    rw [List.getElem?_take] at h
    split at h
    · rename_i hj; exact hb j c hj h
    · cases h) (by omega)
  have k2:feed m s=feed m (s.take i++b::s.drop (i + 1)):=by rw [← e]
  rw [k2,Ec,k1,Ew,As3]
  · rw [Fl]
    · simp only [List.length_append,tl]
    · simp only [List.length_append,tl]; exact hbad
  · exact h0
  · simp only [List.length_append,tl]; exact hbad
theorem Ae2 {k:Nat} {b:UInt8} (h:headByte k b=true):Ax 1 k b=0:=by unfold Ax; simp [h]
theorem AqH {k:Nat} {b:UInt8} (h:headByte k b=false):Ax 1 k b=1:=by unfold Ax; simp [h]
theorem AsS (k:Nat) (b:UInt8):Ax 2 k b=0:=by unfold Ax; simp
theorem AsR (k:Nat) (b:UInt8):Ax 4 k b=0:=by unfold Ax; simp
theorem AwI (k:Nat):Ax 3 k 0=0:=by unfold Ax; simp
theorem AwJ (k:Nat):Ax 5 k 0=0:=by unfold Ax; simp
theorem AuR {k:Nat} {b:UInt8} (h:b≠0):Ax 3 k b=6:=by unfold Ax; simp [h]
theorem AuS {k:Nat} {b:UInt8} (h:b≠0):Ax 5 k b=6:=by unfold Ax; simp [h]
theorem Ah1 {s:Bytes} {n i:Nat} (h:badPad s n=some i):i < n∧∃ b,s[i]? = some b∧b≠0∧∀ (j:Nat) (c:UInt8),j < i→s[j]? = some c→c=0:=by
  unfold badPad at h
  rw [List.findIdx?_eq_some_iff_getElem] at h
  obtain ⟨hl,hb,hj⟩:=h
  rw [List.length_take] at hl
  rw [List.getElem_take] at hb
  refine ⟨by omega,s[i]'(by omega),List.getElem?_eq_getElem (by omega),by simpa using hb,fun j c hji hc=>?_⟩
  have:=hj j hji
  rw [List.getElem_take] at this
  rw [List.getElem?_eq_getElem (by omega)] at hc
  rw [← Option.some.inj hc]
  simpa using this
theorem Ah0 {s:Bytes} {n:Nat} (h:badPad s n=none):∀ (j:Nat) (c:UInt8),j < n→s[j]? = some c→c=0:=by
  intro j c hj hc
  unfold badPad at h
  rw [List.findIdx?_eq_none_iff] at h
  have hm:c ∈ s.take n:=List.mem_of_getElem? (i:=j) (by rw [List.getElem?_take,if_pos hj]; exact hc)
  simpa using h c hm
theorem AuE (s:Bytes) (m:M) (hph:m.phase=3∨m.phase=5) (h0:m.code=0) (hp:m.part=[]) (hw:0 < m.wanted) :
    feed m s=match badPad s m.wanted with
      | some i=>{ m with part:=s.take i,place:=m.place + i,code:=6 }
      | none=>if s.length < m.wanted then { m with part:=s,place:=m.place + s.length } else feed (Ca { m with part:=s.take m.wanted,place:=m.place + m.wanted }) (s.drop m.wanted):=by
  have hne:m.phase≠0:=by omega
  have z0:∀ k:Nat,Ax m.phase k 0=0:=fun k=>by rcases hph with h | h <;> rw [h]; exact AwI k; exact AwJ k
  have z6:∀ (k:Nat) (b:UInt8),b≠0→Ax m.phase k b=6:=fun k b hb=>by rcases hph with h | h <;> rw [h]; exact AuR hb; exact AuS hb
  cases e:badPad s m.wanted with
  | some i =>
    obtain ⟨hi,b,hb,hb0,hj⟩:=Ah1 e
    have:=AhY s m i b h0 hne hb (fun j c hji hc=>by rw [hj j c hji hc]; exact z0 _) (by rw [hp]; simpa using hi) (by rw [z6 _ _ hb0]; decide)
    rw [this,z6 _ _ hb0,hp]
    rfl
  | none =>
    have hz:=Ah0 e
    dsimp only
    by_cases hl:s.length < m.wanted
    · rw [if_pos hl,Ly s m h0 hne (fun i b hb=>?_) (by rw [hp]; simpa using hl),hp]
      · rfl
      · have hi:i < s.length:=(List.getElem?_eq_some_iff.mp hb).1
        rw [hz i b (by omega) hb]; exact z0 _
    · rw [if_neg hl]
      have e1:s=s.take m.wanted++s.drop m.wanted:=(List.take_append_drop _ _).symm
      have tl:(s.take m.wanted).length=m.wanted:=by rw [List.length_take]; omega
      have k:feed m s=feed m (s.take m.wanted++s.drop m.wanted):=by rw [← e1]
      rw [k,Ec,Sj (s.take m.wanted) m h0 hne (fun i b hb=>?_) (fun q=>by rw [q] at tl; simp at tl; omega) (by rw [hp,tl]; simp),hp,tl]
      · rfl
      · rw [List.getElem?_take] at hb
        split at hb
        · rw [hz i b (by assumption) hb]; exact z0 _
        · cases hb
theorem AuD (s:Bytes) (m:M) (hph:m.phase=2∨m.phase=4) (h0:m.code=0) (hp:m.part=[]) (hw:0 < m.wanted) :
    feed m s=if s.length < m.wanted then { m with part:=s,place:=m.place + s.length } else feed (Ca { m with part:=s.take m.wanted,place:=m.place + m.wanted }) (s.drop m.wanted):=by
  have hne:m.phase≠0:=by omega
  have z0:∀ (k:Nat) (b:UInt8),Ax m.phase k b=0:=fun k b=>by rcases hph with h | h <;> rw [h]; exact AsS k b; exact AsR k b
  by_cases hl:s.length < m.wanted
  · rw [if_pos hl,Ly s m h0 hne (fun i b hb=>z0 _ _) (by rw [hp]; simpa using hl),hp]
    rfl
  · rw [if_neg hl]
    have e1:s=s.take m.wanted++s.drop m.wanted:=(List.take_append_drop _ _).symm
    have tl:(s.take m.wanted).length=m.wanted:=by rw [List.length_take]; omega
    have k:feed m s=feed m (s.take m.wanted++s.drop m.wanted):=by rw [← e1]
    rw [k,Ec,Sj (s.take m.wanted) m h0 hne (fun i b hb=>z0 _ _) (fun q=>by rw [q] at tl; simp at tl; omega) (by rw [hp,tl]; simp),hp,tl]
    rfl
theorem Aez {s:Bytes} {i:Nat} (h:badHead s=some i):i < 110∧∃ b,s[i]? = some b∧headByte i b=false∧∀ (j:Nat) (c:UInt8),j < i→s[j]? = some c→headByte j c=true:=by
  unfold badHead at h
  rw [List.find?_range_eq_some] at h
  obtain ⟨hb,hm,hj⟩:=h
  have hl:i < min s.length 110:=List.mem_range.mp hm
  have g:∀ j:Nat,j < s.length→s.getD j 0=s[j]!:=fun j hj=>by simp [List.getD,hj]
  refine ⟨by omega,s[i]'(by omega),List.getElem?_eq_getElem (by omega),?_,fun j c hji hc=>?_⟩
  · have:s.getD i 0=s[i]'(by omega):=by simp [List.getD,List.getElem?_eq_getElem (show i < s.length by omega)]
    rw [this] at hb; simpa using hb
  · have:=hj j hji
    rw [List.getD_eq_getElem?_getD,hc] at this
    simpa using this
theorem Aey {s:Bytes} (h:badHead s=none):∀ (j:Nat) (c:UInt8),j < 110→s[j]? = some c→headByte j c=true:=by
  intro j c hj hc
  unfold badHead at h
  rw [List.find?_range_eq_none] at h
  have hl:j < s.length:=(List.getElem?_eq_some_iff.mp hc).1
  have:=h j (by omega)
  rw [List.getD_eq_getElem?_getD,hc] at this
  simpa using this
theorem AwP (s:Bytes) (m:M) (hph:m.phase=1) (h0:m.code=0) (hp:m.part=[]) (hw:m.wanted=110) :
    feed m s=match badHead s with
      | some i=>{ m with part:=s.take i,place:=m.place + i,code:=1 }
      | none=>if s.length < 110 then { m with part:=s,place:=m.place + s.length } else feed (Ca { m with part:=s.take 110,place:=m.place + 110 }) (s.drop 110):=by
  have hne:m.phase≠0:=by omega
  cases e:badHead s with
  | some i =>
    obtain ⟨hi,b,hb,hb0,hj⟩:=Aez e
    have hbf:Ax m.phase (m.part.length + i) b=1:=by rw [hph,hp]; simpa using AqH hb0
    have:=AhY s m i b h0 hne hb (fun j c hji hc=>by rw [hph,hp]; simpa using Ae2 (hj j c hji hc)) (by rw [hp,hw]; simpa using hi) (by rw [hbf]; decide)
    rw [this,hbf,hp]
    rfl
  | none =>
    have hz:=Aey e
    dsimp only
    by_cases hl:s.length < 110
    · rw [if_pos hl,Ly s m h0 hne (fun i b hb=>?_) (by rw [hp,hw]; simpa using hl),hp]
      · rfl
      · have hi:i < s.length:=(List.getElem?_eq_some_iff.mp hb).1
        rw [hph,hp]; simpa using Ae2 (hz i b (by omega) hb)
    · rw [if_neg hl]
      have e1:s=s.take 110++s.drop 110:=(List.take_append_drop _ _).symm
      have tl:(s.take 110).length=110:=by rw [List.length_take]; omega
      have k:feed m s=feed m (s.take 110++s.drop 110):=by rw [← e1]
      rw [k,Ec,Sj (s.take 110) m h0 hne (fun i b hb=>?_) (fun q=>by rw [q] at tl; simp at tl) (by rw [hp,tl,hw]; simp),hp,tl]
      · rfl
      · rw [List.getElem?_take] at hb
        split at hb
        · rw [hph,hp]; simpa using Ae2 (hz i b (by assumption) hb)
        · cases hb
theorem Gb (s:Bytes) (k:Nat) (hk:k≤12):field (s.take 110) k=field s k:=by
  unfold field
  rw [List.drop_take,List.take_take,Nat.min_eq_left (by omega)]
theorem Aii (s:Bytes):headOf (s.take 110)=headOf s:=by
  unfold headOf
  simp only [Gb _ 0 (by omega),Gb _ 1 (by omega),Gb _ 4 (by omega),Gb _ 6 (by omega),Gb _ 7 (by omega),Gb _ 8 (by omega),Gb _ 11 (by omega)]
def IH (fuel:Nat):Prop:=∀ (w:World) (c:Bool) (h:Head) (p:Bytes) (pos:Nat) (s:Bytes),s.length < fuel→items fuel w c pos s=out (feed (st w c h p pos) s)
def Ao3 (fuel:Nat) (v:World) (h:Head) (q:Nat) (s:Bytes):Out :=
  match badPad s (padding h.size) with
    | some i=>⟨v,some (6,q + i),false⟩
    | none=>if s.length < padding h.size then ⟨v,none,false⟩ else items fuel v false (q + padding h.size) (s.drop (padding h.size))
def tailD (fuel:Nat) (w first:World) (h:Head) (p:Bytes) (q:Nat) (s:Bytes):Out :=
  if s.length < h.size then ⟨first,none,false⟩ else Ao3 fuel (if h.size=0 then first else apply w h p (s.take h.size)) h (q + h.size) (s.drop h.size)
def Ao2 (fuel:Nat) (w first:World) (h:Head) (p:Bytes) (q:Nat) (s:Bytes):Out :=
  match badPad s (padding (110 + h.length)) with
    | some i=>⟨first,some (6,q + i),false⟩
    | none=>if s.length < padding (110 + h.length) then ⟨first,none,false⟩ else tailD fuel w first h p (q + padding (110 + h.length)) (s.drop (padding (110 + h.length)))
theorem W5 (s:Bytes):badPad s 0=none:=by unfold badPad; rw [List.take_zero]; rfl
theorem Asl {fuel:Nat} (ih:IH fuel) (m:M) (h0:m.code=0) (s:Bytes) (hl:s.length < fuel):Ao3 fuel m.w m.head m.place s=out (feed (Kb m) s):=by
  unfold Ao3 Kb
  by_cases hz:padding m.head.size=0
  · rw [hz,W5,if_pos rfl]
    dsimp only
    rw [if_neg (Nat.not_lt_zero _),List.drop_zero,Nat.add_zero,ih m.w false m.head m.name m.place s hl]
    unfold st MJ
    rw [if_neg (by decide),h0]
  · rw [if_neg hz,AuE s { m with phase:=5,part:=[],wanted:=padding m.head.size } (Or.inr rfl) h0 rfl (by show 0 < padding m.head.size; omega)]
    dsimp only
    cases badPad s (padding m.head.size) with
    | some i=>rfl
    | none =>
      dsimp only
      by_cases hs:s.length < padding m.head.size
      · rw [if_pos hs,if_pos hs]
        unfold out
        simp [h0]
      · rw [if_neg hs,if_neg hs,ih m.w false m.head m.name _ _ (by rw [List.length_drop]; omega)]
        unfold Ca MJ st
        simp [h0]
theorem Asm {fuel:Nat} (ih:IH fuel) (m:M) (h0:m.code=0) (w:World) (hw:m.head.size≠0→m.w=w) (s:Bytes) (hl:s.length < fuel) :
    tailD fuel w m.w m.head m.name m.place s=out (feed (Gi m) s):=by
  unfold tailD Gi
  by_cases hz:m.head.size=0
  · rw [if_pos hz,if_pos hz,hz,if_neg (Nat.not_lt_zero _),List.drop_zero,Nat.add_zero]
    unfold DF
    rw [if_pos hz]
    exact Asl ih m h0 s hl
  · rw [if_neg hz,if_neg hz,AuD s { m with phase:=4,part:=[],wanted:=m.head.size } (Or.inr rfl) h0 rfl (by show 0 < m.head.size; omega)]
    dsimp only
    by_cases hs:s.length < m.head.size
    · rw [if_pos hs,if_pos hs]
      unfold out
      simp [h0]
    · rw [if_neg hs,if_neg hs]
      have e:Ca { m with phase:=4,part:=s.take m.head.size,wanted:=m.head.size,place:=m.place + m.head.size }=DF { m with phase:=4,part:=s.take m.head.size,wanted:=m.head.size,place:=m.place + m.head.size } (s.take m.head.size):=by
        unfold Ca; simp
      rw [e]
      unfold DF
      dsimp only
      rw [if_neg hz,← hw hz]
      exact Asl ih { m with w:=apply m.w m.head m.name (s.take m.head.size),phase:=4,part:=s.take m.head.size,wanted:=m.head.size,place:=m.place + m.head.size } h0 _ (by rw [List.length_drop]; omega)
theorem Asj {fuel:Nat} (ih:IH fuel) (m:M) (h0:m.code=0) (w:World) (hw:m.head.size≠0→m.w=w) (s:Bytes) (hl:s.length < fuel) :
    Ao2 fuel w m.w m.head m.name m.place s=out (feed (MK m) s):=by
  unfold Ao2 MK
  by_cases hz:padding (110 + m.head.length)=0
  · rw [hz,W5,if_pos rfl]
    dsimp only
    rw [if_neg (Nat.not_lt_zero _),List.drop_zero,Nat.add_zero]
    exact Asm ih m h0 w hw s hl
  · rw [if_neg hz,AuE s { m with phase:=3,part:=[],wanted:=padding (110 + m.head.length) } (Or.inl rfl) h0 rfl (by show 0 < padding (110 + m.head.length); omega)]
    dsimp only
    cases badPad s (padding (110 + m.head.length)) with
    | some i=>rfl
    | none =>
      dsimp only
      by_cases hs:s.length < padding (110 + m.head.length)
      · rw [if_pos hs,if_pos hs]
        unfold out
        simp [h0]
      · rw [if_neg hs,if_neg hs]
        have e:∀ x:M,x.phase=3→Ca x=Gi x:=fun x hx=>by unfold Ca; simp [hx]
        rw [e _ rfl]
        exact Asm ih { m with phase:=3,part:=s.take (padding (110 + m.head.length)),wanted:=padding (110 + m.head.length),place:=m.place + padding (110 + m.head.length) } h0 w hw _ (by rw [List.length_drop]; omega)
def Ao5 (fuel:Nat) (w:World) (h:Head) (q:Nat) (s:Bytes):Out :=
  if s.length < h.length then ⟨w,none,false⟩
  else if nameOK h (s.take h.length)=false then ⟨w,some (3,q + h.length),false⟩
  else if (s.take h.length).dropLast=TRAILER then items fuel { w with keys:=[] } true (q + h.length) (s.drop h.length)
  else if judge w h (s.take h.length).dropLast≠0 then ⟨w,some (judge w h (s.take h.length).dropLast,q + h.length),false⟩
  else Ao2 fuel w (if h.size=0 then apply w h (s.take h.length).dropLast [] else w) h (s.take h.length).dropLast (q + h.length) (s.drop h.length)
theorem Awj {fuel:Nat} (ih:IH fuel) (m:M) (h0:m.code=0) (hph:m.phase=2) (hp:m.part=[]) (hw:m.wanted=m.head.length) (hlen:0 < m.head.length) (s:Bytes) (hl:s.length < fuel) :
    Ao5 fuel m.w m.head m.place s=out (feed m s):=by
  rw [AuD s m (Or.inl hph) h0 hp (by omega)]
  unfold Ao5
  rw [hw]
  by_cases hs:s.length < m.head.length
  · rw [if_pos hs,if_pos hs]
    unfold out
    simp [h0,hph]
  · rw [if_neg hs,if_neg hs]
    have e:∀ x:M,x.phase=2→Ca x=endName x:=fun x hx=>by unfold Ca; simp [hx]
    rw [e { m with part:=s.take m.head.length,place:=m.place + m.head.length,wanted:=m.head.length } hph]
    unfold endName Bl
    dsimp only
    by_cases hn:nameOK m.head (s.take m.head.length)=false
    · rw [if_pos hn,if_pos hn,if_pos (by decide),Fl _ _ (by decide:(3:Nat)≠0)]
      rfl
    · rw [if_neg hn,if_neg hn]
      by_cases ht:(s.take m.head.length).dropLast=TRAILER
      · rw [if_pos ht,if_pos ht,if_neg (by decide)]
        unfold Iw
        dsimp only
        rw [if_pos ht,ih _ true m.head (s.take m.head.length).dropLast _ _ (by rw [List.length_drop]; omega)]
        unfold st
        rw [if_pos rfl,h0]
      · rw [if_neg ht,if_neg ht]
        by_cases hj:judge m.w m.head (s.take m.head.length).dropLast=0
        · have hjn : ¬ (judge m.w m.head (s.take m.head.length).dropLast≠0):=fun q=>q hj
          rw [if_neg hjn,if_neg hjn]
          unfold Iw
          dsimp only
          rw [if_neg ht]
          by_cases hz:m.head.size=0
          · rw [if_pos hz,if_pos hz]
            exact Asj ih { m with w:=apply m.w m.head (s.take m.head.length).dropLast [],part:=s.take m.head.length,place:=m.place + m.head.length,name:=(s.take m.head.length).dropLast,wanted:=m.head.length } h0 m.w (fun h=>absurd hz h) _ (by rw [List.length_drop]; omega)
          · rw [if_neg hz,if_neg hz]
            exact Asj ih { m with part:=s.take m.head.length,place:=m.place + m.head.length,name:=(s.take m.head.length).dropLast,wanted:=m.head.length } h0 m.w (fun _=>rfl) _ (by rw [List.length_drop]; omega)
        · rw [if_pos hj,if_pos hj,Fl _ _ hj]
          unfold out
          simp [hj]
theorem gap (s:Bytes) (w:World) (h:Head) (p:Bytes):∀ (pos:Nat),feed (st w true h p pos) s=feed (st w true h p (pos + (s.takeWhile fun c=>c == 0).length)) (s.drop (s.takeWhile fun c=>c == 0).length):=by
  induction s with
  | nil=>intro pos; simp [ZQ]
  | cons b s ih =>
    intro pos
    by_cases hb:b=0
    · subst hb
      have e:take (st w true h p pos) 0=st w true h p (pos + 1):=by
        unfold take take1 st Ax
        simp
      rw [Ew,e,ih (pos + 1)]
      simp only [List.takeWhile_cons,beq_self_eq_true,if_true,List.length_cons,List.drop_succ_cons]
      congr 2; omega
    · have hb':(b == 0)=false:=by simpa using hb
      simp [hb']
theorem Arb (w:World) (h:Head) (p:Bytes) (pos:Nat) (b:UInt8) (s:Bytes) (hb:b≠0):out (feed (st w true h p pos) (b::s))=out (feed (st w false h p pos) (b::s)):=by
  rw [Ew,Ew]
  have e:take (st w true h p pos) b=take (st w false h p pos) b∨(headByte 0 b=false):=by
    cases hh:headByte 0 b with
    | false=>exact Or.inr rfl
    | true =>
      left
      unfold take take1 st Ax
      simp [hb,hh]
  rcases e with e | e
  · rw [e]
  · have e1:take (st w true h p pos) b={ st w true h p pos with code:=1 }:=by
      unfold take take1 st Ax
      simp [hb,e]
    have e2:take (st w false h p pos) b={ st w false h p pos with code:=1 }:=by
      unfold take take1 st Ax
      simp [hb,e]
    rw [e1,e2,Fl _ _ (by decide:(1:Nat)≠0),Fl _ _ (by decide:(1:Nat)≠0)]
    rfl
def Ao4 (fuel:Nat) (w:World) (q:Nat) (s:Bytes):Out :=
  match badHead s with
    | some i=>⟨w,some (1,q + i),false⟩
    | none=>if s.length < 110 then ⟨w,none,false⟩
      else if (headOf s).ok=false then ⟨w,some (2,q + 110),false⟩
      else Ao5 fuel w (headOf s) (q + 110) (s.drop 110)
theorem LB {h:Head} (k:h.ok=true):2≤h.length∧h.length≤256:=by
  unfold Head.ok at k
  simp only [Bool.and_eq_true,decide_eq_true_eq] at k
  exact ⟨k.1.1.1.2,k.1.1.2⟩
theorem Asn {fuel:Nat} (ih:IH fuel) (w:World) (h:Head) (p:Bytes) (q:Nat) (s:Bytes) (hl:s.length < fuel + 110):Ao4 fuel w q s=out (feed (st w false h p q) s):=by
  rw [AwP s (st w false h p q) rfl rfl rfl rfl]
  unfold Ao4
  cases badHead s with
  | some i=>rfl
  | none =>
    dsimp only
    by_cases hs:s.length < 110
    · rw [if_pos hs,if_pos hs]; rfl
    · rw [if_neg hs,if_neg hs]
      have e:∀ x:M,x.phase=1→Ca x=IY x:=fun x hx=>by unfold Ca; simp [hx]
      rw [e { st w false h p q with part:=s.take 110,place:=(st w false h p q).place + 110 } rfl]
      unfold IY
      dsimp only
      rw [Aii]
      cases hk:(headOf s).ok with
      | false =>
        rw [if_pos rfl,if_neg (by decide),Fl _ _ (by decide:(2:Nat)≠0)]
        rfl
      | true =>
        rw [if_neg (by decide),if_pos rfl]
        have k:=LB hk
        exact Awj ih { st w false h p q with head:=headOf s,phase:=2,part:=[],wanted:=(headOf s).length,place:=(st w false h p q).place + 110 } rfl rfl rfl rfl (by show 0 < (headOf s).length; omega) _ (by rw [List.length_drop]; omega)
theorem Aal (fuel:Nat) (w:World) (pos:Nat) (s:Bytes) (hs:s≠[]):items (fuel + 1) w false pos s=Ao4 fuel w pos s:=by
  rw [items]
  simp only [Bool.false_eq_true,if_false,List.drop_zero,Nat.add_zero,if_neg hs]
  unfold Ao4
  cases badHead s with
  | some i=>rfl
  | none =>
    dsimp only
    by_cases h1:s.length < 110
    · rw [if_pos h1,if_pos h1]
    · rw [if_neg h1,if_neg h1]
      by_cases h2:(headOf s).ok=false
      · rw [if_pos h2,if_pos h2]
      · rw [if_neg h2,if_neg h2]
        unfold Ao5
        rw [List.length_drop]
        by_cases h3:s.length < 110 + (headOf s).length
        · rw [if_pos h3,if_pos (show s.length - 110 < (headOf s).length by omega)]
        · rw [if_neg h3,if_neg (show ¬ s.length - 110 < (headOf s).length by omega)]
          by_cases h4:nameOK (headOf s) ((s.drop 110).take (headOf s).length)=false
          · rw [if_pos h4,if_pos h4,Nat.add_assoc]
          · rw [if_neg h4,if_neg h4]
            by_cases h5:((s.drop 110).take (headOf s).length).dropLast=TRAILER
            · rw [if_pos h5,if_pos h5,Nat.add_assoc,List.drop_drop]
            · rw [if_neg h5,if_neg h5]
              by_cases h6:judge w (headOf s) ((s.drop 110).take (headOf s).length).dropLast≠0
              · rw [if_pos h6,if_pos h6,Nat.add_assoc]
              · rw [if_neg h6,if_neg h6]
                unfold Ao2
                rw [List.drop_drop,Nat.add_assoc pos 110]
                generalize hn:110 + (headOf s).length=n
                simp only [List.drop_drop,Nat.add_assoc]
                cases badPad (s.drop n) (padding n) with
                | some i=>rfl
                | none =>
                  dsimp only
                  by_cases h7:s.length - n < padding n
                  · rw [List.length_drop,if_pos h7,if_pos (show s.length < n + (padding n + (headOf s).size) by omega)]
                  · rw [List.length_drop,if_neg h7]
                    unfold tailD
                    rw [List.length_drop]
                    by_cases h8:s.length < n + (padding n + (headOf s).size)
                    · rw [if_pos h8,if_pos (show s.length - (n + padding n) < (headOf s).size by omega)]
                    · rw [if_neg h8,if_neg (show ¬ s.length - (n + padding n) < (headOf s).size by omega)]
                      unfold Ao3
                      simp only [List.drop_drop,Nat.add_assoc,List.length_drop]
                      cases badPad (s.drop (n + (padding n + (headOf s).size))) (padding (headOf s).size) with
                      | some i=>rfl
                      | none =>
                        dsimp only
                        by_cases h9:s.length < n + (padding n + ((headOf s).size + padding (headOf s).size))
                        · rw [if_pos h9,if_pos (show s.length - (n + (padding n + (headOf s).size)) < padding (headOf s).size by omega)]
                        · rw [if_neg h9,if_neg (show ¬ s.length - (n + (padding n + (headOf s).size)) < padding (headOf s).size by omega)]
theorem run:∀ fuel,IH fuel:=by
  intro fuel
  induction fuel with
  | zero=>intro w c h p pos s hl; omega
  | succ fuel ih =>
    intro w c h p pos s hl
    cases c with
    | false =>
      by_cases hs:s=[]
      · subst hs; rw [items]; rfl
      · rw [Aal fuel w pos s hs]
        exact Asn ih w h p pos s (by omega)
    | true =>
      have e:items (fuel + 1) w true pos s=if s.drop (s.takeWhile fun c=>c == 0).length=[] then ⟨w,none,true⟩ else items (fuel + 1) w false (pos + (s.takeWhile fun c=>c == 0).length) (s.drop (s.takeWhile fun c=>c == 0).length):=by
        rw [items]
        simp only [if_true]
        by_cases hz:s.drop (s.takeWhile fun c=>c == 0).length=[]
        · rw [if_pos hz,if_pos hz]
        · rw [if_neg hz,if_neg hz,items]
          simp only [Bool.false_eq_true,if_false,List.drop_zero,Nat.add_zero,if_neg hz]
      rw [e,gap]
      by_cases hz:s.drop (s.takeWhile fun c=>c == 0).length=[]
      · rw [if_pos hz,hz]; rfl
      · rw [if_neg hz,Aal _ _ _ _ hz,Asn ih w h p _ _ (by rw [List.length_drop]; omega)]
        cases hd:s.drop (s.takeWhile fun c=>c == 0).length with
        | nil=>exact absurd hd hz
        | cons b r =>
          refine (Arb w h p _ b r ?_).symm
          intro hb
          subst hb
          have hdw:s.dropWhile (fun c=>c == 0)=0::r:=by
            have:=List.takeWhile_append_dropWhile (p:=fun c:UInt8=>c == 0) (l:=s)
            have h2:s.drop (s.takeWhile fun c=>c == 0).length=s.dropWhile (fun c=>c == 0):=by
              conv=>lhs; rw [← this]
              rw [List.drop_append_of_le_length (by simp)]
              simp
            rw [← h2]; exact hd
          have:=List.head_dropWhile_not (p:=fun c:UInt8=>c == 0) (l:=s) (by rw [hdw]; simp)
          simp [hdw] at this
def m0 (h:Head) (p:Bytes):M:=st bare true h p 0
theorem SY (h:Head) (p:Bytes) (s:Bytes):outcome s=out (feed (m0 h p) s):=run _ _ _ h p _ s (Nat.lt_succ_self _)
theorem Aq6 (m:M):(Kb m).place=m.place:=by unfold Kb MJ; split <;> rfl
theorem ZP (m:M) (d:Bytes):(DF m d).place=m.place:=by unfold DF; rw [Aq6]; split <;> rfl
theorem AdK (m:M):(Gi m).place=m.place:=by unfold Gi; split; exact ZP _ _; rfl
theorem Aq5 (m:M):(MK m).place=m.place:=by unfold MK; split; exact AdK _; rfl
theorem Aih (m:M):(Iw m).place=m.place:=by
  unfold Iw
  split
  · rfl
  · rw [Aq5]; split <;> rfl
theorem Alu (m:M):(endName m).place=m.place:=by unfold endName; split; rfl; exact Aih _
theorem Als (m:M):(IY m).place=m.place:=by unfold IY; split <;> rfl
theorem Mj (m:M):(Ca m).place=m.place:=by
  unfold Ca MJ
  split
  · exact Als m
  split
  · exact Alu m
  split
  · exact AdK m
  split
  · exact ZP m _
  · rfl
theorem AmY (m:M) (b:UInt8) (h:(take m b).code=0):m.code=0∧(take m b).place=m.place + 1:=by
  unfold take at h ⊢
  split at h
  · contradiction
  · rename_i hc
    rw [if_neg hc]
    refine ⟨Classical.byContradiction hc,?_⟩
    unfold take1 at h ⊢
    split at h
    · contradiction
    · rename_i hf
      rw [if_neg hf]
      split
      · rfl
      split
      · exact Mj _
      · rfl
theorem Apj (s:Bytes):∀ m:M,(feed m s).code=0→m.code=0:=by
  intro m h
  refine Classical.byContradiction fun hc=>?_
  rw [Fl s m hc] at h
  exact hc h
theorem ZR (s:Bytes):∀ m:M,(feed m s).code=0→(feed m s).place=m.place + s.length:=by
  induction s with
  | nil=>intro m _; rfl
  | cons b s ih =>
    intro m h
    rw [Ew] at h ⊢
    rw [ih _ h,(AmY m b (Apj _ _ h)).2,List.length_cons]
    omega
end FtM
end
section
set_option autoImplicit false
set_option linter.unusedSectionVars false
open FtTree
namespace FtW
section
variable {κ β:Type} [DecidableEq κ]
def val (l:List (κ × β)) (k:κ):Option β:=(l.find? fun x=>decide (x.1=k)).map (·.2)
def put (l:List (κ × β)) (k:κ) (v:β):List (κ × β) :=
  if (l.any fun x=>decide (x.1=k))=true then l.map (fun x=>if x.1=k then (x.1,v) else x) else l++[(k,v)]
def drop (l:List (κ × β)) (k:κ):List (κ × β):=l.filter fun x=>decide (x.1≠k)
theorem YK (k:κ):val ([]:List (κ × β)) k=none:=rfl
theorem BV (x:κ × β) (l:List (κ × β)) (k:κ):val (x::l) k=if x.1=k then some x.2 else val l k:=by
  unfold val
  rw [List.find?_cons]
  by_cases h:x.1=k <;> simp [h]
theorem Qh {l:List (κ × β)} {k:κ}:val l k=none↔∀ x ∈ l,x.1≠k:=by
  induction l with
  | nil=>simp [YK]
  | cons x l ih =>
    rw [BV]
    by_cases h:x.1=k
    · rw [if_pos h]
      exact ⟨fun q=>(nomatch q),fun q=>absurd h (q x (List.mem_cons_self ..))⟩
    · rw [if_neg h,ih]
      exact ⟨fun q y hy=>by rcases List.mem_cons.mp hy with rfl | hy; exact h; exact q y hy,fun q y hy=>q y (List.mem_cons_of_mem _ hy)⟩
theorem Ht {l:List (κ × β)} {k:κ} {v:β} (h:val l k=some v):(k,v) ∈ l:=by
  induction l with
  | nil=>cases h
  | cons x l ih =>
    rw [BV] at h
    by_cases e:x.1=k
    · rw [if_pos e] at h
      have:=Option.some.inj h
      subst this; subst e
      exact List.mem_cons_self ..
    · rw [if_neg e] at h
      exact List.mem_cons_of_mem _ (ih h)
theorem DA {l:List (κ × β)} (nd:(l.map (·.1)).Nodup) {k:κ} {v:β} (h:(k,v) ∈ l):val l k=some v:=by
  induction l with
  | nil=>cases h
  | cons x l ih =>
    rw [List.map_cons,List.nodup_cons] at nd
    rw [BV]
    rcases List.mem_cons.mp h with rfl | h'
    · rw [if_pos rfl]
    · rw [if_neg,ih nd.2 h']
      intro e
      exact nd.1 (by rw [e]; exact List.mem_map_of_mem (f:=(·.1)) h')
theorem AnN (l:List (κ × β)) (k:κ):(l.any fun x=>decide (x.1=k))=(val l k).isSome:=by
  induction l with
  | nil=>rfl
  | cons x l ih =>
    rw [List.any_cons,BV,ih]
    by_cases h:x.1=k <;> simp [h]
theorem Fw {l:List (κ × β)} {k:κ} (h:val l k=none) (v:β):put l k v=l++[(k,v)]:=by
  unfold put; rw [AnN,h]; rfl
theorem FR {l:List (κ × β)} {k:κ} {u:β} (h:val l k=some u) (v:β):put l k v=l.map (fun x=>if x.1=k then (x.1,v) else x):=by
  unfold put; rw [AnN,h]; rfl
theorem AnH (l m:List (κ × β)) (k:κ):val (l++m) k=(val l k).or (val m k):=by
  induction l with
  | nil=>simp [YK]
  | cons x l ih =>
    rw [List.cons_append,BV,BV,ih]
    by_cases h:x.1=k <;> simp [h]
theorem AsC (l:List (κ × β)) (k:κ) (v:β) (j:κ):val (l.map (fun x=>if x.1=k then (x.1,v) else x)) j=if j=k then (val l j).map (fun _=>v) else val l j:=by
  induction l with
  | nil=>simp [YK]
  | cons x l ih =>
    rw [List.map_cons,BV,BV,ih]
    by_cases h:x.1=k
    · rw [if_pos h]
      dsimp only
      by_cases hj:x.1=j
      · rw [if_pos hj,if_pos hj,if_pos (by rw [← hj]; exact h)]; rfl
      · rw [if_neg hj,if_neg hj]
    · rw [if_neg h]
      by_cases hj:x.1=j
      · rw [if_pos hj,if_pos hj,if_neg (by rw [← hj]; exact h)]
      · rw [if_neg hj,if_neg hj]
theorem MM (l:List (κ × β)) (k:κ) (v:β) (j:κ):val (put l k v) j=if j=k then some v else val l j:=by
  cases h:val l k with
  | none =>
    rw [Fw h,AnH]
    by_cases hj:j=k
    · subst hj; rw [h,if_pos rfl,BV,if_pos rfl]; rfl
    · rw [if_neg hj,BV,if_neg (fun q=>hj q.symm),YK]; simp
  | some u =>
    rw [FR h,AsC]
    by_cases hj:j=k
    · subst hj; rw [if_pos rfl,if_pos rfl,h]; rfl
    · rw [if_neg hj,if_neg hj]
theorem Ap4 (l:List (κ × β)) (k:κ) (v:β):(l.map (fun x=>if x.1=k then (x.1,v) else x)).map (·.1)=l.map (·.1):=by
  rw [List.map_map]
  apply List.map_congr_left
  intro x _
  by_cases h:x.1=k <;> simp [h]
theorem AtE {α:Type} {l:List α} {a:α} (h:l.Nodup) (ha:a ∉ l):(l++[a]).Nodup:=by
  rw [List.nodup_append]
  refine ⟨h,by simp,fun x hx y hy=>?_⟩
  rw [List.mem_singleton] at hy
  subst hy
  exact fun e=>ha (e ▸ hx)
theorem Am0 {l:List (κ × β)} (nd:(l.map (·.1)).Nodup) (k:κ) (v:β):((put l k v).map (·.1)).Nodup:=by
  cases h:val l k with
  | none =>
    rw [Fw h,List.map_append]
    refine AtE nd (fun q=>?_)
    obtain ⟨x,hx,e⟩:=List.mem_map.mp q
    exact Qh.mp h x hx e
  | some u=>rw [FR h,Ap4]; exact nd
theorem Ags {l:List (κ × β)} (k:κ) (v:β):(put l k v).length=if (val l k).isSome=true then l.length else l.length + 1:=by
  cases h:val l k with
  | none=>rw [Fw h]; simp
  | some u=>rw [FR h]; simp
theorem IZ {l:List (κ × β)} {k:κ} {v:β} {x:κ × β} (h:x ∈ put l k v):x=(k,v)∨(x ∈ l∧x.1≠k):=by
  cases e:val l k with
  | none =>
    rw [Fw e] at h
    rcases List.mem_append.mp h with h | h
    · exact Or.inr ⟨h,Qh.mp e x h⟩
    · exact Or.inl (List.mem_singleton.mp h)
  | some u =>
    rw [FR e] at h
    obtain ⟨y,hy,rfl⟩:=List.mem_map.mp h
    by_cases q:y.1=k
    · rw [if_pos q]; left; rw [q]
    · rw [if_neg q]; exact Or.inr ⟨hy,q⟩
theorem map_put {γ:Type} (f:β→γ) (l:List (κ × β)) (k:κ) (v:β):(put l k v).map (fun x=>(x.1,f x.2))=put (l.map fun x=>(x.1,f x.2)) k (f v):=by
  have e:val (l.map fun x=>(x.1,f x.2)) k=(val l k).map f:=by
    induction l with
    | nil=>rfl
    | cons x l ih=>rw [List.map_cons,BV,BV,ih]; by_cases h:x.1=k <;> simp [h]
  cases h:val l k with
  | none=>rw [Fw h,Fw (by rw [e,h]; rfl)]; simp
  | some u =>
    rw [FR h,FR (u:=f u) (by rw [e,h]; rfl),List.map_map,List.map_map]
    apply List.map_congr_left
    intro x _
    by_cases q:x.1=k <;> simp [q]
theorem Aha {γ:Type} (f:β→γ) (l:List (κ × β)) (k:κ):val (l.map fun x=>(x.1,f x.2)) k=(val l k).map f:=by
  induction l with
  | nil=>rfl
  | cons x l ih=>rw [List.map_cons,BV,BV,ih]; by_cases h:x.1=k <;> simp [h]
end
theorem AnP (p:Bytes):(fun x:Bytes × Node=>x.1 == p)=fun x=>decide (x.1=p):=by
  funext x
  by_cases h:x.1=p <;> simp [h]
theorem Cq (w:World) (p:Bytes) (n:Node):(w.put p n).nodes=put w.nodes p n:=by
  unfold World.put put
  dsimp only
  have e:(w.nodes.any fun x=>x.1 == p)=(w.nodes.any fun x=>decide (x.1=p)):=by
    rw [AnP]
  rw [e]
  by_cases h:(w.nodes.any fun x=>decide (x.1=p))=true
  · rw [if_pos h,if_pos h]
    apply List.map_congr_left
    intro x _
    by_cases q:x.1=p <;> simp [q]
  · rw [if_neg h,if_neg h]
theorem Qv (w:World) (p:Bytes) (n:Node):(w.put p n).files=w.files:=rfl
theorem Ej (w:World) (p:Bytes):w.at_ p=val w.nodes p:=by
  unfold World.at_ val
  rw [AnP]
def kindNo:Node→Nat
  | .file _=>1
  | .dir=>2
  | .link _=>3
def Av8:Node→Option Bytes
  | .link t=>some t
  | _=>none
def fileOf:Node→Option Nat
  | .file i=>some i
  | _=>none
def sub {κ β γ:Type} (f:β→Option γ) (l:List (κ × β)):List (κ × γ):=l.filterMap fun x=>(f x.2).map fun y=>(x.1,y)
section
variable {κ β γ:Type} [DecidableEq κ]
theorem FH (f:β→Option γ) (x:κ × β) (l:List (κ × β)):sub f (x::l)=match f x.2 with
    | some y=>(x.1,y)::sub f l
    | none=>sub f l:=by
  unfold sub
  rw [List.filterMap_cons]
  cases f x.2 <;> rfl
theorem Aof {f:β→Option γ} {l:List (κ × β)} {k:κ} {y:γ}:(k,y) ∈ sub f l↔∃ v,(k,v) ∈ l∧f v=some y:=by
  unfold sub
  rw [List.mem_filterMap]
  constructor
  · rintro ⟨x,hx,e⟩
    cases q:f x.2 with
    | none=>rw [q] at e; cases e
    | some z =>
      rw [q] at e
      have:=Option.some.inj e
      rw [Prod.mk.injEq] at this
      obtain ⟨rfl,rfl⟩:=this
      exact ⟨x.2,hx,q⟩
  · rintro ⟨v,hv,e⟩
    exact ⟨(k,v),hv,by rw [e]; rfl⟩
theorem AjN {f:β→Option γ} {l:List (κ × β)} {k:κ} (h:k ∈ (sub f l).map (·.1)):k ∈ l.map (·.1):=by
  obtain ⟨x,hx,rfl⟩:=List.mem_map.mp h
  obtain ⟨v,hv,_⟩:=Aof.mp (show (x.1,x.2) ∈ sub f l from hx)
  exact List.mem_map_of_mem (f:=(·.1)) hv
theorem AgJ {f:β→Option γ}:∀ {l:List (κ × β)},(l.map (·.1)).Nodup→((sub f l).map (·.1)).Nodup
  | [],_=>by simp [sub]
  | x::l,nd=>by
    rw [List.map_cons,List.nodup_cons] at nd
    rw [FH]
    cases f x.2 with
    | none=>exact AgJ nd.2
    | some y =>
      rw [List.map_cons,List.nodup_cons]
      exact ⟨fun q=>nd.1 (AjN q),AgJ nd.2⟩
theorem val_sub {f:β→Option γ} {l:List (κ × β)} (nd:(l.map (·.1)).Nodup) (k:κ):val (sub f l) k=(val l k).bind f:=by
  induction l with
  | nil=>rfl
  | cons x l ih =>
    rw [List.map_cons,List.nodup_cons] at nd
    rw [FH,BV]
    by_cases h:x.1=k
    · rw [if_pos h]
      cases q:f x.2 with
      | some y=>dsimp only; rw [BV,if_pos h]; exact q.symm
      | none =>
        dsimp only
        rw [show (some x.2).bind f=none from q,Qh]
        intro y hy e
        exact nd.1 (by rw [h,← e]; exact AjN (List.mem_map_of_mem (f:=(·.1)) hy))
    · rw [if_neg h]
      cases f x.2 with
      | some y=>dsimp only; rw [BV,if_neg h]; exact ih nd.2
      | none=>exact ih nd.2
theorem AbM (f:β→Option γ) (l m:List (κ × β)):sub f (l++m)=sub f l++sub f m:=List.filterMap_append
theorem Vn {f:β→Option γ} {k:κ} {v:β} {y:γ} (hy:f v=some y):∀ {l:List (κ × β)},(∀ x ∈ l,x.1=k→(f x.2).isSome=true) →
    sub f (l.map fun x=>if x.1=k then (x.1,v) else x)=(sub f l).map fun x=>if x.1=k then (x.1,y) else x
  | [],_=>rfl
  | x::l,h=>by
    have ih:=Vn hy (l:=l) (fun z hz=>h z (List.mem_cons_of_mem _ hz))
    rw [List.map_cons,FH,FH,ih]
    by_cases e:x.1=k
    · rw [if_pos e]
      dsimp only
      rw [hy]
      dsimp only
      have:=h x (List.mem_cons_self ..) e
      cases q:f x.2 with
      | none=>rw [q] at this; cases this
      | some z=>dsimp only; rw [List.map_cons,if_pos e]
    · rw [if_neg e]
      cases f x.2 with
      | none=>rfl
      | some z=>dsimp only; rw [List.map_cons,if_neg e]
theorem Xg {f:β→Option γ} {k:κ} {v:β} (hy:f v=none):∀ {l:List (κ × β)},(∀ x ∈ l,x.1=k→f x.2=none) →
    sub f (l.map fun x=>if x.1=k then (x.1,v) else x)=sub f l
  | [],_=>rfl
  | x::l,h=>by
    have ih:=Xg hy (l:=l) (fun z hz=>h z (List.mem_cons_of_mem _ hz))
    rw [List.map_cons,FH,FH,ih]
    by_cases e:x.1=k
    · rw [if_pos e]
      dsimp only
      rw [hy,h x (List.mem_cons_self ..) e]
    · rw [if_neg e]
theorem Xf {f:β→Option γ} {l:List (κ × β)} (nd:(l.map (·.1)).Nodup) {k:κ} {v:β} {y:γ} (hy:f v=some y) (h:∀ u,val l k=some u→(f u).isSome=true):sub f (put l k v)=put (sub f l) k y:=by
  cases e:val l k with
  | none =>
    rw [Fw e,AbM,Fw (by rw [val_sub nd,e]; rfl)]
    congr 1
    rw [FH,hy]; rfl
  | some u =>
    have hu:=h u e
    cases q:f u with
    | none=>rw [q] at hu; cases hu
    | some z =>
      rw [FR e,FR (u:=z) (by rw [val_sub nd,e]; exact q)]
      refine Vn hy (fun x hx ex=>?_)
      have:=DA nd (k:=x.1) (v:=x.2) hx
      rw [ex,e] at this
      rw [← Option.some.inj this,q]; rfl
theorem MH {f:β→Option γ} {l:List (κ × β)} (nd:(l.map (·.1)).Nodup) {k:κ} {v:β} (hy:f v=none) (h:∀ u,val l k=some u→f u=none):sub f (put l k v)=sub f l:=by
  cases e:val l k with
  | none =>
    rw [Fw e,AbM]
    have:sub f [(k,v)]=([]:List (κ × γ)):=by rw [FH,hy]; rfl
    rw [this,List.append_nil]
  | some u =>
    rw [FR e]
    refine Xg hy (fun x hx ex=>?_)
    have:=DA nd (k:=x.1) (v:=x.2) hx
    rw [ex,e] at this
    rw [← Option.some.inj this]; exact h u e
end
theorem ArD {κ β:Type} [DecidableEq κ] (l:List (κ × β)) (k:κ) (v:β):(k,v) ∈ put l k v:=Ht (by rw [MM,if_pos rfl])
theorem Wu {κ β:Type} [DecidableEq κ] {l:List (κ × β)} {k:κ} {v:β} {x:κ × β} (h:x ∈ l) (hk:x.1≠k):x ∈ put l k v:=by
  cases e:val l k with
  | none=>rw [Fw e]; exact List.mem_append_left _ h
  | some u=>rw [FR e]; exact List.mem_map.mpr ⟨x,h,by rw [if_neg hk]⟩
def holdersOf (w:World):List (Bytes × Nat):=sub fileOf w.nodes
def Aq (w:World):List (Nat × Bytes):=((List.range w.files.length).filter fun i=>w.alive i).map fun i=>(i,w.bytes i)
def C6 (w:World) (p:Bytes) (i:Nat):Bool:=(holdersOf w).any fun x=>decide (x.1≠p) && decide (x.2=i)
theorem WJ {n:Node} {i:Nat}:fileOf n=some i↔n=.file i:=by
  cases n <;> simp [fileOf]
theorem WT {w:World} {p:Bytes} {i:Nat}:(p,i) ∈ holdersOf w↔(p,Node.file i) ∈ w.nodes:=by
  unfold holdersOf
  rw [Aof]
  constructor
  · rintro ⟨v,hv,e⟩; rw [WJ] at e; subst e; exact hv
  · intro h; exact ⟨_,h,rfl⟩
theorem Eu {w:World} {i:Nat}:w.alive i=true↔∃ p,(p,Node.file i) ∈ w.nodes:=by
  unfold World.alive
  rw [List.any_eq_true]
  constructor
  · rintro ⟨x,hx,e⟩
    have e:=eq_of_beq e
    exact ⟨x.1,by rw [← e]; exact hx⟩
  · rintro ⟨p,hp⟩
    exact ⟨_,hp,beq_self_eq_true _⟩
theorem HI {w:World} {p:Bytes} {i:Nat}:C6 w p i=true↔∃ q,q≠p∧(q,Node.file i) ∈ w.nodes:=by
  unfold C6
  rw [List.any_eq_true]
  constructor
  · rintro ⟨x,hx,e⟩
    rw [Bool.and_eq_true,decide_eq_true_eq,decide_eq_true_eq] at e
    obtain ⟨e1,e2⟩:=e
    subst e2
    exact ⟨x.1,e1,WT.mp hx⟩
  · rintro ⟨q,hq,hm⟩
    exact ⟨(q,i),WT.mpr hm,by simp [hq]⟩
theorem Fq {w:World} {p:Bytes} {i:Nat} (h:C6 w p i=true):w.alive i=true:=by
  obtain ⟨q,_,hm⟩:=HI.mp h
  exact Eu.mpr ⟨q,hm⟩
theorem BZ {w:World} {p:Bytes} {i j:Nat}:(w.put p (.file i)).alive j=true↔j=i∨C6 w p j=true:=by
  rw [Eu,Cq]
  constructor
  · rintro ⟨q,hq⟩
    rcases IZ hq with e | ⟨h1,h2⟩
    · rw [Prod.mk.injEq,Node.file.injEq] at e; exact Or.inl e.2
    · exact Or.inr (HI.mpr ⟨q,h2,h1⟩)
  · rintro (rfl | h)
    · exact ⟨p,ArD _ _ _⟩
    · obtain ⟨q,h1,h2⟩:=HI.mp h
      exact ⟨q,Wu h2 h1⟩
theorem MQ {w:World} {p:Bytes} {n:Node} (hn:fileOf n=none) (hat:∀ m,w.at_ p=some m→fileOf m=none) (nd:(w.nodes.map (·.1)).Nodup) (j:Nat):(w.put p n).alive j=w.alive j:=by
  rw [Bool.eq_iff_iff,Eu,Eu,Cq]
  constructor
  · rintro ⟨q,hq⟩
    rcases IZ hq with e | ⟨h1,h2⟩
    · rw [Prod.mk.injEq] at e; rw [← e.2] at hn; cases hn
    · exact ⟨q,h1⟩
  · rintro ⟨q,hq⟩
    refine ⟨q,Wu hq fun e=>?_⟩
    have:w.at_ p=some (.file j):=by rw [Ej]; exact DA nd (by rw [← show q=p from e]; exact hq)
    have:=hat _ this
    cases this
theorem Oh {w:World} (nd:(w.nodes.map (·.1)).Nodup) (p:Bytes) {j:Nat}:w.alive j=true↔w.at_ p=some (.file j)∨C6 w p j=true:=by
  rw [Eu,Ej]
  constructor
  · rintro ⟨q,hq⟩
    by_cases e:q=p
    · subst e; exact Or.inl (DA nd hq)
    · exact Or.inr (HI.mpr ⟨q,e,hq⟩)
  · rintro (h | h)
    · exact ⟨p,Ht h⟩
    · obtain ⟨q,_,h2⟩:=HI.mp h
      exact ⟨q,h2⟩
structure WF (w:World):Prop where
  nd:(w.nodes.map (·.1)).Nodup
  ids:∀ p i,(p,Node.file i) ∈ w.nodes→i < w.files.length
  keys:∀ x ∈ w.keys,x.2 < w.files.length
  one:∀ x ∈ w.keys,∀ y ∈ w.keys,x.1=y.1→w.alive x.2=true→w.alive y.2=true→x.2=y.2
  len:w.nodes.length≤16
  tot:w.total≤600
  BQ:∀ x ∈ w.nodes,isPath x.1=true
  texts:∀ p t,(p,Node.link t) ∈ w.nodes→t.length≤255∧t≠[]
theorem WF.bare:WF bare:=⟨by simp [FtTree.bare],by simp [FtTree.bare],by simp [FtTree.bare],by simp [FtTree.bare],by simp [FtTree.bare],by decide,by simp [FtTree.bare],by simp [FtTree.bare]⟩
theorem WF.JC {w:World} (W:WF w) {i:Nat} (h:w.alive i=true):i < w.files.length:=by
  obtain ⟨p,hp⟩:=Eu.mp h
  exact W.ids p i hp
theorem AjY (w:World):w.total=FtTree.sum ((Aq w).map fun x=>x.2.length):=by
  unfold World.total Aq
  rw [List.map_map]; rfl
theorem Ji (w:World) (i:Nat) (h:w.alive i=true) (hl:i < w.files.length):val (Aq w) i=some (w.bytes i):=by
  refine DA ?_ ?_
  · unfold Aq
    rw [List.map_map,show ((fun x:Nat × Bytes=>x.1) ∘ fun i=>(i,w.bytes i))=id from rfl,List.map_id]
    exact List.Pairwise.filter _ List.nodup_range
  · unfold Aq
    exact List.mem_map.mpr ⟨i,List.mem_filter.mpr ⟨List.mem_range.mpr hl,h⟩,rfl⟩
theorem AhG (w:World):((Aq w).map (·.1)).Nodup:=by
  unfold Aq
  rw [List.map_map,show ((fun x:Nat × Bytes=>x.1) ∘ fun i=>(i,w.bytes i))=id from rfl,List.map_id]
  exact List.Pairwise.filter _ List.nodup_range
theorem UZ {w:World} {i:Nat} {b:Bytes}:(i,b) ∈ Aq w↔i < w.files.length∧w.alive i=true∧b=w.bytes i:=by
  unfold Aq
  rw [List.mem_map]
  constructor
  · rintro ⟨j,hj,e⟩
    rw [Prod.mk.injEq] at e
    obtain ⟨rfl,rfl⟩:=e
    obtain ⟨h1,h2⟩:=List.mem_filter.mp hj
    exact ⟨List.mem_range.mp h1,h2,rfl⟩
  · rintro ⟨h1,h2,rfl⟩
    exact ⟨i,List.mem_filter.mpr ⟨List.mem_range.mpr h1,h2⟩,rfl⟩
theorem K8 {w:World} {i:Nat} (h : ¬ (i < w.files.length∧w.alive i=true)):val (Aq w) i=none:=by
  rw [Qh]
  intro x hx e
  obtain ⟨h1,h2,_⟩:=UZ.mp (show (x.1,x.2) ∈ Aq w from hx)
  rw [e] at h1 h2
  exact h ⟨h1,h2⟩
theorem Ac4 {w:World} (W:WF w) {p:Bytes} {i:Nat} (hi:w.alive i=true) (hat:∀ m,w.at_ p=some m→∃ b,m=.file b) :
    Aq (w.put p (.file i))=if (val (holdersOf w) p).getD i≠i∧C6 w p ((val (holdersOf w) p).getD i)=false then drop (Aq w) ((val (holdersOf w) p).getD i) else Aq w:=by
  have hv:val (holdersOf w) p=(w.at_ p).bind fileOf:=by rw [Ej]; exact val_sub W.nd p
  have key:∀ j,(w.put p (.file i)).alive j=(w.alive j && !(decide ((val (holdersOf w) p).getD i≠i∧C6 w p ((val (holdersOf w) p).getD i)=false) && decide (j=(val (holdersOf w) p).getD i))):=by
    intro j
    rw [Bool.eq_iff_iff,BZ,Bool.and_eq_true,Oh W.nd p]
    have hi':=(Oh W.nd p).mp hi
    cases e:w.at_ p with
    | none =>
      rw [e] at hv hi'
      rw [hv]
      simp only [Option.bind_none,Option.getD_none,ne_eq,not_true_eq_false,false_and,decide_false,Bool.false_and,Bool.not_false,and_true]
      rcases hi' with h | h
      · cases h
      · constructor
        · rintro (rfl | q)
          · exact Or.inr h
          · exact Or.inr q
        · rintro (q | q)
          · cases q
          · exact Or.inr q
    | some m =>
      obtain ⟨b,rfl⟩:=hat m e
      rw [e] at hv hi'
      have hg:(val (holdersOf w) p).getD i=b:=by rw [hv]; rfl
      rw [hg]
      simp only [Option.some.injEq,Node.file.injEq] at hi' ⊢
      by_cases hb:b=i
      · subst hb
        simp only [ne_eq,not_true_eq_false,false_and,decide_false,Bool.false_and,Bool.not_false,and_true]
        exact ⟨fun q=>q.imp Eq.symm id,fun q=>q.imp Eq.symm id⟩
      · have hbi:C6 w p i=true:=hi'.resolve_left hb
        rcases Bool.eq_false_or_eq_true (C6 w p b) with hbb | hbb
        · simp only [hbb,Bool.true_eq_false,and_false,decide_false,Bool.false_and,Bool.not_false,and_true]
          constructor
          · rintro (rfl | q)
            · exact Or.inr hbi
            · exact Or.inr q
          · rintro (rfl | q)
            · exact Or.inr hbb
            · exact Or.inr q
        · simp only [hbb,ne_eq,hb,not_false_eq_true,and_self,decide_true,Bool.true_and,Bool.not_eq_true']
          rw [decide_eq_false_iff_not]
          constructor
          · rintro (rfl | q)
            · exact ⟨Or.inr hbi,fun q=>hb q.symm⟩
            · exact ⟨Or.inr q,fun z=>by rw [z,hbb] at q; cases q⟩
          · rintro ⟨rfl | q,z⟩
            · exact absurd rfl z
            · exact Or.inr q
  unfold Aq
  rw [Qv,List.filter_congr (fun j _=>key j)]
  show List.map (fun i=>(i,w.bytes i)) _=_
  by_cases hc:(val (holdersOf w) p).getD i≠i∧C6 w p ((val (holdersOf w) p).getD i)=false
  · rw [if_pos hc]
    unfold drop
    rw [List.filter_map,List.filter_filter]
    congr 1
    apply List.filter_congr
    intro j _
    rw [decide_eq_true hc]
    simp [Bool.and_comm]
  · rw [if_neg hc]
    congr 1
    apply List.filter_congr
    intro j _
    rw [decide_eq_false hc]
    simp
end FtW
end
section
set_option autoImplicit false
set_option linter.unusedSectionVars false
open FtTree
namespace FtW
theorem Ri {w:World} {d:Bytes} {j:Nat} (h:j < w.files.length):(w.files++[d]).getD j []=w.bytes j:=by
  unfold World.bytes
  rw [List.getD_eq_getElem?_getD,List.getD_eq_getElem?_getD,List.getElem?_append_left h]
theorem Rh {w:World} {d:Bytes}:(w.files++[d]).getD w.files.length []=d:=by
  rw [List.getD_eq_getElem?_getD,List.getElem?_append_right (Nat.le_refl _),Nat.sub_self]; rfl
def D6 (w:World) (p d:Bytes):World:={ w.put p (.file w.files.length) with files:=w.files++[d] }
theorem Qm {w:World} {p d:Bytes} {j:Nat}:(D6 w p d).alive j=true↔j=w.files.length∨C6 w p j=true:=BZ
theorem Ae9 {w:World} (W:WF w) {p d:Bytes} (hat:∀ m,w.at_ p=some m→∃ b,m=.file b) :
    Aq (D6 w p d)=if (val (holdersOf w) p).getD w.files.length≠w.files.length∧C6 w p ((val (holdersOf w) p).getD w.files.length)=false then drop (put (Aq w) w.files.length d) ((val (holdersOf w) p).getD w.files.length) else put (Aq w) w.files.length d:=by
  have hv:val (holdersOf w) p=(w.at_ p).bind fileOf:=by rw [Ej]; exact val_sub W.nd p
  have hn:val (Aq w) w.files.length=none:=K8 (fun q=>Nat.lt_irrefl _ q.1)
  have key:∀ j,j < w.files.length→(D6 w p d).alive j=(w.alive j && !(decide ((val (holdersOf w) p).getD w.files.length≠w.files.length∧C6 w p ((val (holdersOf w) p).getD w.files.length)=false) && decide (j=(val (holdersOf w) p).getD w.files.length))):=by
    intro j hj
    rw [Bool.eq_iff_iff,Qm,Bool.and_eq_true,Oh W.nd p]
    have hjn:j≠w.files.length:=by omega
    cases e:w.at_ p with
    | none =>
      rw [e] at hv
      have hg:(val (holdersOf w) p).getD w.files.length=w.files.length:=by rw [hv]; rfl
      rw [hg]
      simp only [ne_eq,not_true_eq_false,false_and,decide_false,Bool.false_and,Bool.not_false,and_true,hjn,false_or]
      exact ⟨Or.inr,fun q=>q.resolve_left (by intro z; cases z)⟩
    | some m =>
      obtain ⟨b,rfl⟩:=hat m e
      rw [e] at hv
      have hg:(val (holdersOf w) p).getD w.files.length=b:=by rw [hv]; rfl
      rw [hg]
      have hb:b < w.files.length:=W.ids p b (by rw [Ej] at e; exact Ht e)
      have hbn:b≠w.files.length:=by omega
      simp only [Option.some.injEq,Node.file.injEq,hjn,false_or]
      rcases Bool.eq_false_or_eq_true (C6 w p b) with hbb | hbb
      · simp only [hbb,Bool.true_eq_false,and_false,decide_false,Bool.false_and,Bool.not_false,and_true]
        constructor
        · exact Or.inr
        · rintro (rfl | q)
          · exact hbb
          · exact q
      · simp only [hbb,ne_eq,hbn,not_false_eq_true,and_self,decide_true,Bool.true_and,Bool.not_eq_true']
        rw [decide_eq_false_iff_not]
        constructor
        · intro q
          exact ⟨Or.inr q,fun z=>by rw [z,hbb] at q; cases q⟩
        · rintro ⟨rfl | q,z⟩
          · exact absurd rfl z
          · exact q
  have e0:Aq (D6 w p d)=((List.range w.files.length).filter fun i=>(D6 w p d).alive i).map (fun i=>(i,w.bytes i))++[(w.files.length,d)]:=by
    unfold Aq
    have hl:(D6 w p d).files.length=w.files.length + 1:=by unfold D6; simp
    rw [hl,List.range_succ,List.filter_append,List.map_append]
    congr 1
    · apply List.map_congr_left
      intro j hj
      have:=List.mem_range.mp (List.mem_filter.mp hj).1
      show (j,(w.files++[d]).getD j [])=_
      rw [Ri this]
    · rw [List.filter_cons,if_pos (Qm.mpr (Or.inl rfl))]
      show [(w.files.length,(w.files++[d]).getD w.files.length [])]=_
      rw [Rh]
  rw [e0,Fw hn,List.filter_congr (fun j hj=>key j (List.mem_range.mp hj))]
  by_cases hc:(val (holdersOf w) p).getD w.files.length≠w.files.length∧C6 w p ((val (holdersOf w) p).getD w.files.length)=false
  · rw [if_pos hc]
    unfold drop Aq
    rw [List.filter_append,List.filter_map,List.filter_filter]
    congr 1
    · congr 1
      apply List.filter_congr
      intro j _
      rw [decide_eq_true hc]
      simp [Bool.and_comm]
    · rw [List.filter_cons,if_pos (by simp only [ne_eq,decide_not,Bool.not_eq_true',decide_eq_false_iff_not]; exact fun q=>hc.1 q.symm)]; rfl
  · rw [if_neg hc]
    unfold Aq
    congr 2
    apply List.filter_congr
    intro j _
    rw [decide_eq_false hc]
    simp
theorem AeA {w:World} {i:Nat} (hi:w.alive i=true) (hl:i < w.files.length) (d:Bytes):Aq { w with files:=w.files.set i d }=put (Aq w) i d:=by
  rw [FR (Ji w i hi hl)]
  unfold Aq
  rw [List.map_map,List.length_set]
  show List.map (fun j=>(j,(w.files.set i d).getD j [])) (List.filter (fun j=>w.alive j) (List.range w.files.length))=_
  apply List.map_congr_left
  intro j hj
  have hj':=List.mem_range.mp (List.mem_filter.mp hj).1
  show (j,(w.files.set i d).getD j [])=if j=i then (j,d) else (j,w.bytes j)
  by_cases e:j=i
  · subst e
    rw [if_pos rfl,List.getD_eq_getElem?_getD,List.getElem?_set_self hj']; rfl
  · rw [if_neg e,List.getD_eq_getElem?_getD,List.getElem?_set_ne (fun q=>e q.symm)]
    unfold World.bytes
    rw [List.getD_eq_getElem?_getD]
theorem sum_cons (a:Nat) (l:List Nat):FtTree.sum (a::l)=a + FtTree.sum l:=rfl
theorem sum_nil:FtTree.sum []=0:=rfl
theorem sum_append (l m:List Nat):FtTree.sum (l++m)=FtTree.sum l + FtTree.sum m:=by
  induction l with
  | nil=>rw [List.nil_append,sum_nil]; omega
  | cons a l ih=>rw [List.cons_append,sum_cons,sum_cons,ih]; omega
theorem AjO (f:Nat→Nat) (q:Nat→Bool) (i:Nat):∀ (l:List Nat),l.Nodup→i ∈ l →
    FtTree.sum ((l.filter fun j=>decide (j=i) || q j).map f)=f i + FtTree.sum ((l.filter fun j=>!decide (j=i) && q j).map f)
  | [],_,h=>by cases h
  | a::l,nd,h=>by
    rw [List.nodup_cons] at nd
    rw [List.filter_cons,List.filter_cons]
    by_cases e:a=i
    · subst e
      simp only [decide_true,Bool.true_or,if_true,Bool.not_true,Bool.false_and,Bool.false_eq_true,if_false,List.map_cons]
      rw [sum_cons]
      congr 2
      congr 1
      apply List.filter_congr
      intro j hj
      have:j≠a:=fun z=>nd.1 (z ▸ hj)
      simp [this]
    · have hm:i ∈ l:=by
        rcases List.mem_cons.mp h with rfl | h
        · exact absurd rfl e
        · exact h
      have ih:=AjO f q i l nd.2 hm
      simp only [e,decide_false,Bool.false_or,Bool.not_false,Bool.true_and]
      cases q a with
      | true=>simp only [if_true,List.map_cons]; rw [sum_cons,sum_cons,ih]; omega
      | false=>simp only [Bool.false_eq_true,if_false]; exact ih
theorem AmM {α:Type} (f:α→Nat) (q r:α→Bool) (hq:∀ x,q x=true→r x=true):∀ l:List α,FtTree.sum ((l.filter q).map f)≤FtTree.sum ((l.filter r).map f)
  | []=>Nat.le_refl _
  | a::l=>by
    have ih:=AmM f q r hq l
    rw [List.filter_cons,List.filter_cons]
    cases e:q a with
    | true=>rw [if_pos rfl,if_pos (hq a e),List.map_cons,List.map_cons,sum_cons,sum_cons]; omega
    | false =>
      rw [if_neg (by decide)]
      split
      · rw [List.map_cons,sum_cons]; omega
      · exact ih
def EZ (w:World) (p:Bytes) (o:Option Nat) (size:Nat):Nat :=
  size + FtTree.sum (((Aq w).filter fun x=>decide (o≠some x.1) && C6 w p x.1).map fun x=>x.2.length)
theorem TB (w:World) (W:WF w) (p:Bytes) (o:Option Nat) (size:Nat) :
    EZ w p o size=size + FtTree.sum (((List.range w.files.length).filter fun j=>decide (o≠some j) && C6 w p j).map fun j=>(w.bytes j).length):=by
  unfold EZ Aq
  rw [List.filter_map,List.map_map,List.filter_filter]
  congr 2
  show List.map (fun j=>(w.bytes j).length) _=_
  congr 1
  apply List.filter_congr
  intro j _
  show ((decide (o≠some j) && C6 w p j) && w.alive j)=_
  cases h:C6 w p j with
  | false=>simp
  | true=>rw [Fq h]; simp
theorem AbS {w:World} (W:WF w) {p:Bytes} {i:Nat} (hi:w.alive i=true) (d:Bytes):World.total { w.put p (.file i) with files:=w.files.set i d }=EZ w p (some i) d.length:=by
  have hl:=W.JC hi
  rw [TB w W]
  unfold World.total
  rw [show ({ w.put p (.file i) with files:=w.files.set i d }:World).files.length=w.files.length from List.length_set ..]
  have e1:∀ j,World.alive { w.put p (.file i) with files:=w.files.set i d } j=(decide (j=i) || C6 w p j):=by
    intro j
    rw [Bool.eq_iff_iff,show World.alive { w.put p (.file i) with files:=w.files.set i d } j=(w.put p (.file i)).alive j from rfl,BZ]
    simp
  rw [List.filter_congr (fun j _=>e1 j),AjO _ _ i _ List.nodup_range (List.mem_range.mpr hl)]
  have e2:World.bytes { w.put p (.file i) with files:=w.files.set i d } i=d:=by
    show (w.files.set i d).getD i []=d
    rw [List.getD_eq_getElem?_getD,List.getElem?_set_self hl]; rfl
  rw [e2]
  congr 2
  have e3:List.filter (fun j=>!decide (j=i) && C6 w p j) (List.range w.files.length)=List.filter (fun j=>decide (some i≠some j) && C6 w p j) (List.range w.files.length):=by
    apply List.filter_congr
    intro j _
    congr 1
    by_cases e:j=i
    · subst e; simp
    · have:i≠j:=fun q=>e q.symm
      simp [e,this]
  rw [e3]
  apply List.map_congr_left
  intro j hj
  have hj2:=(List.mem_filter.mp hj).2
  rw [Bool.and_eq_true,decide_eq_true_eq] at hj2
  have hne:i≠j:=fun q=>hj2.1 (by rw [q])
  show ((w.files.set i d).getD j []).length=_
  rw [List.getD_eq_getElem?_getD,List.getElem?_set_ne hne]
  unfold World.bytes
  rw [List.getD_eq_getElem?_getD]
theorem AdL {w:World} (W:WF w) {p d:Bytes}:(D6 w p d).total=EZ w p none d.length:=by
  rw [TB w W]
  unfold World.total
  have hl:(D6 w p d).files.length=w.files.length + 1:=by unfold D6; simp
  rw [hl,List.range_succ,List.filter_append,List.map_append,sum_append,List.filter_cons,if_pos (Qm.mpr (Or.inl rfl))]
  have e1:List.filter (fun j=>(D6 w p d).alive j) (List.range w.files.length)=List.filter (fun j=>decide ((none:Option Nat)≠some j) && C6 w p j) (List.range w.files.length):=by
    apply List.filter_congr
    intro j hj
    have:=List.mem_range.mp hj
    rw [Bool.eq_iff_iff,Qm]
    simp only [ne_eq,reduceCtorEq,not_false_eq_true,decide_true,Bool.true_and]
    exact ⟨fun q=>q.resolve_left (by omega),Or.inr⟩
  rw [e1,List.filter_nil]
  have e2:((D6 w p d).bytes w.files.length)=d:=Rh
  rw [List.map_cons,List.map_nil,sum_cons,sum_nil,e2]
  have e3:List.map (fun j=>((D6 w p d).bytes j).length) (List.filter (fun j=>decide ((none:Option Nat)≠some j) && C6 w p j) (List.range w.files.length))=List.map (fun j=>(w.bytes j).length) (List.filter (fun j=>decide ((none:Option Nat)≠some j) && C6 w p j) (List.range w.files.length)):=by
    apply List.map_congr_left
    intro j hj
    show ((w.files++[d]).getD j []).length=_
    rw [Ri (List.mem_range.mp (List.mem_filter.mp hj).1)]
  rw [e3]; omega
theorem Ado {w:World} {p:Bytes} {i:Nat} (hi:w.alive i=true):(w.put p (.file i)).total≤w.total:=by
  unfold World.total
  rw [Qv]
  show FtTree.sum (List.map (fun j=>(w.bytes j).length) _)≤_
  refine AmM _ _ _ (fun j hj=>?_) _
  rcases BZ.mp hj with rfl | h
  · exact hi
  · exact Fq h
theorem AgX {w:World} (W:WF w) {p:Bytes}:(D6 w p []).total≤w.total:=by
  rw [AdL W,TB w W]
  unfold World.total
  have:FtTree.sum (((List.range w.files.length).filter fun j=>decide ((none:Option Nat)≠some j) && C6 w p j).map fun j=>(w.bytes j).length)≤FtTree.sum (((List.range w.files.length).filter fun j=>w.alive j).map fun j=>(w.bytes j).length):=by
    refine AmM _ _ _ (fun j hj=>?_) _
    rw [Bool.and_eq_true] at hj
    exact Fq hj.2
  simpa using this
end FtW
end
section
set_option autoImplicit false
set_option linter.unusedSectionVars false
set_option linter.unusedVariables false
open FtTree
namespace FtW
def keyOf (h:Head):Key:=(h.serial,h.major,h.minor)
def Gd (w:World) (k:Key):Option Nat:=(w.keys.find? fun x=>x.1 == k && w.alive x.2).map (·.2)
def Cp (w:World) (h:Head):Option Nat:=if 2≤h.names then Gd w (keyOf h) else none
theorem Kp {w:World} {k:Key} {i:Nat} (h:Gd w k=some i):(k,i) ∈ w.keys∧w.alive i=true:=by
  unfold Gd at h
  cases e:w.keys.find? (fun x=>x.1 == k && w.alive x.2) with
  | none=>rw [e] at h; cases h
  | some x =>
    rw [e] at h
    have hx:=Option.some.inj h
    have hp:=List.find?_some e
    have hm:=List.mem_of_find?_eq_some e
    rw [Bool.and_eq_true] at hp
    have h1:=eq_of_beq hp.1
    subst h1; subst hx
    exact ⟨hm,hp.2⟩
theorem Ko {w:World} {k:Key} (h:Gd w k=none):∀ i,(k,i) ∈ w.keys→w.alive i=false:=by
  intro i hi
  unfold Gd at h
  rw [Option.map_eq_none_iff,List.find?_eq_none] at h
  have:=h (k,i) hi
  simpa using this
theorem Ad0 {w:World} (W:WF w) {k:Key} {i:Nat} (hm:(k,i) ∈ w.keys) (ha:w.alive i=true):Gd w k=some i:=by
  cases e:Gd w k with
  | none=>have:=Ko e i hm; rw [ha] at this; cases this
  | some j =>
    obtain ⟨h1,h2⟩:=Kp e
    exact congrArg some (W.one (k,j) h1 (k,i) hm rfl h2 ha)
theorem Hf {w:World} {h:Head} {i:Nat} (e:Cp w h=some i):w.alive i=true:=by
  unfold Cp at e
  split at e
  · exact (Kp e).2
  · cases e
theorem LV {w:World} {h:Head} {p d:Bytes} (h4:h.kind≠4) (h10:h.kind≠10):apply w h p d=match Cp w h with
    | some i=>if h.size=0 then w.put p (.file i) else { w.put p (.file i) with files:=w.files.set i d }
    | none=>{ D6 w p d with keys:=if 2≤h.names then w.keys++[(keyOf h,w.files.length)] else w.keys }:=by
  unfold apply Cp Gd keyOf
  rw [if_neg h4,if_neg h10]
  by_cases hn:2≤h.names
  · simp only [if_pos hn]
    cases w.keys.find? (fun x=>x.1 == (h.serial,h.major,h.minor) && w.alive x.2) with
    | none=>rfl
    | some x=>rfl
  · simp only [if_neg hn]
    rfl
theorem W4 {w:World} (W:WF w) {h:Head} {p d:Bytes} (h4:h.kind≠4) (h10:h.kind≠10) (hd:d.length=h.size) :
    if h.size=0 then (apply w h p d).total≤w.total else (apply w h p d).total=EZ w p (Cp w h) h.size:=by
  rw [LV h4 h10]
  cases e:Cp w h with
  | some i =>
    dsimp only
    by_cases hz:h.size=0
    · rw [if_pos hz,if_pos hz]; exact Ado (Hf e)
    · rw [if_neg hz,if_neg hz,AbS W (Hf e),hd]
  | none =>
    dsimp only
    have e1:∀ ks,World.total { D6 w p d with keys:=ks }=(D6 w p d).total:=fun _=>rfl
    rw [e1]
    by_cases hz:h.size=0
    · rw [if_pos hz]
      have:d=[]:=List.eq_nil_of_length_eq_zero (by omega)
      subst this
      exact AgX W
    · rw [if_neg hz,AdL W,hd]
theorem W8 (w:World) (p:Bytes) (o:Option Nat) (n:Nat):n≤EZ w p o n:=Nat.le_add_right _ _
def badParent (w:World) (p:Bytes):Bool:=match parent p with
  | none=>false
  | some q=>w.at_ q != some .dir
def Lh (w:World) (h:Head) (p:Bytes):Bool :=
  !((w.at_ p).isNone && decide (w.nodes.length=16)) && (decide (h.kind≠8) || decide (h.size=0) || decide (EZ w p (Cp w h) h.size≤600))
theorem Aam {w:World} (W:WF w) {h:Head} {p:Bytes} (hp:p≠DOT) :
    judge w h p=if badParent w p=true then 4 else if clash h (w.at_ p)=true then 4 else if Lh w h p=true then 0 else 5:=by
  unfold judge
  rw [if_neg hp]
  show (if badParent w p=true then 4 else _)=_
  by_cases hb:badParent w p=true
  · rw [if_pos hb,if_pos hb]
  · rw [if_neg hb,if_neg hb]
    by_cases hc:clash h (w.at_ p)=true
    · rw [if_pos hc,if_pos hc]
    · rw [if_neg hc,if_neg hc]
      unfold Lh PATHS ROOM
      have hlen:=W.len
      by_cases h1:(w.at_ p).isNone=true∧16≤w.nodes.length
      · rw [if_pos h1,if_neg]
        have h16:w.nodes.length=16:=by omega
        simp [h1.1,h16]
      · rw [if_neg h1]
        have e1:(!((w.at_ p).isNone && decide (w.nodes.length=16)))=true:=by
          cases e:(w.at_ p).isNone with
          | false=>rfl
          | true =>
            have:w.nodes.length≠16:=fun q=>h1 ⟨e,by omega⟩
            simp [this]
        rw [e1,Bool.true_and]
        by_cases h8:h.kind=8
        · have ht:=W4 W (h:=h) (p:=p) (d:=List.replicate h.size 0) (by omega) (by omega) List.length_replicate
          have hwt:=W.tot
          by_cases hz:h.size=0
          · rw [if_pos hz] at ht
            rw [if_neg (by omega),if_neg (by omega),if_pos (by simp [hz])]
          · rw [if_neg hz] at ht
            have hge:=W8 w p (Cp w h) h.size
            by_cases hl:EZ w p (Cp w h) h.size≤600
            · rw [if_neg (by omega),if_neg (by omega),if_pos (by simp [hl])]
            · rw [if_neg (show ¬ (decide (h.kind≠8) || decide (h.size=0) || decide (EZ w p (Cp w h) h.size≤600))=true by simp [h8,hz,hl])]
              by_cases hs:600 < h.size
              · rw [if_pos ⟨h8,hs⟩]
              · rw [if_neg (by omega),if_pos ⟨h8,by omega⟩]
        · rw [if_neg (fun q=>h8 q.1),if_neg (fun q=>h8 q.1),if_pos (by simp [h8])]
theorem At2 {w:World} (p:Bytes) (n:Node):(w.put p n).nodes.length=if (w.at_ p).isSome=true then w.nodes.length else w.nodes.length + 1:=by
  rw [Cq,Ags,Ej]
structure Fits (w:World) (h:Head) (p:Bytes):Prop where
  path:isPath p=true
  kind:h.kind=8∨h.kind=4∨h.kind=10
  ok:judge w h p=0
  AtF:p≠DOT
theorem Fits.clash {w:World} (W:WF w) {h:Head} {p:Bytes} (F:Fits w h p):clash h (w.at_ p)=false:=by
  have:=F.ok
  rw [Aam W F.AtF] at this
  split at this
  · cases this
  · split at this
    · cases this
    · rename_i h2
      simpa using h2
theorem Fits.room {w:World} (W:WF w) {h:Head} {p:Bytes} (F:Fits w h p):Lh w h p=true:=by
  have:=F.ok
  rw [Aam W F.AtF] at this
  split at this
  · cases this
  · split at this
    · cases this
    · split at this
      · assumption
      · cases this
theorem Fits.len {w:World} (W:WF w) {h:Head} {p:Bytes} (F:Fits w h p) (n:Node):(w.put p n).nodes.length≤16:=by
  have r:=F.room W
  rw [At2]
  have hl:=W.len
  unfold Lh at r
  rw [Bool.and_eq_true] at r
  cases e:w.at_ p with
  | some m=>simp; omega
  | none =>
    rw [e] at r
    have:w.nodes.length≠16:=by simpa using r.1
    simp; omega
theorem WF.Aoq {w:World} (W:WF w) {p:Bytes} {n:Node} (hn:fileOf n=none) (hat:∀ m,w.at_ p=some m→fileOf m=none) (hp:isPath p=true) (hl:(w.put p n).nodes.length≤16) (ht:∀ t,n=.link t→t.length≤255∧t≠[]):WF (w.put p n):=by
  have ha:=MQ hn hat W.nd
  refine ⟨by rw [Cq]; exact Am0 W.nd _ _,fun q i h=>?_,W.keys,fun x hx y hy e h1 h2=>?_,hl,?_,fun x hx=>?_,fun q t h=>?_⟩
  · rw [Cq] at h
    rcases IZ h with e | ⟨h,_⟩
    · rw [Prod.mk.injEq] at e; rw [← e.2] at hn; cases hn
    · exact W.ids q i h
  · rw [ha] at h1 h2; exact W.one x hx y hy e h1 h2
  · have:(w.put p n).total=w.total:=by
      unfold World.total
      rw [Qv,List.filter_congr (fun j _=>ha j)]; rfl
    rw [this]; exact W.tot
  · rw [Cq] at hx
    rcases IZ hx with rfl | ⟨h,_⟩
    · exact hp
    · exact W.BQ x h
  · rw [Cq] at h
    rcases IZ h with e | ⟨h,_⟩
    · rw [Prod.mk.injEq] at e; exact ht t e.2.symm
    · exact W.texts q t h
theorem Ahb {w v:World} (W:WF w) {p:Bytes} {i:Nat} (hv:v.nodes=(w.put p (.file i)).nodes) (hf:w.files.length≤v.files.length) (hi:i < v.files.length) (hal:i < w.files.length→w.alive i=true) (hp:isPath p=true) (hl:(w.put p (.file i)).nodes.length≤16) (ht:v.total≤600)
    (hk:∀ x ∈ v.keys,x ∈ w.keys∨(x.2=i∧w.files.length≤i∧Gd w x.1=none)):WF v:=by
  have ha:∀ j,v.alive j=(w.put p (.file i)).alive j:=fun j=>by unfold World.alive; rw [hv]
  have ha2:∀ j,j < w.files.length→v.alive j=true→w.alive j=true:=by
    intro j hj h
    rw [ha] at h
    rcases BZ.mp h with rfl | h
    · exact hal hj
    · exact Fq h
  refine ⟨by rw [hv,Cq]; exact Am0 W.nd _ _,fun q j h=>?_,fun x hx=>?_,fun x hx y hy e h1 h2=>?_,by rw [hv]; exact hl,ht,fun x hx=>?_,fun q t h=>?_⟩
  · rw [hv,Cq] at h
    rcases IZ h with e | ⟨h,_⟩
    · rw [Prod.mk.injEq,Node.file.injEq] at e; rw [e.2]; exact hi
    · have:=W.ids q j h; omega
  · rcases hk x hx with h | ⟨h,_⟩
    · have:=W.keys x h; omega
    · omega
  · rcases hk x hx with hx1 | ⟨hx1,hx2,hx3⟩
    · have lx:=W.keys x hx1
      rcases hk y hy with hy1 | ⟨hy1,hy2,hy3⟩
      · exact W.one x hx1 y hy1 e (ha2 _ lx h1) (ha2 _ (W.keys y hy1) h2)
      · have:=Ko hy3 x.2 (by rw [← e]; exact hx1)
        rw [ha2 _ lx h1] at this; cases this
    · rcases hk y hy with hy1 | ⟨hy1,hy2,hy3⟩
      · have:=Ko hx3 y.2 (by rw [e]; exact hy1)
        rw [ha2 _ (W.keys y hy1) h2] at this; cases this
      · omega
  · rw [hv,Cq] at hx
    rcases IZ hx with rfl | ⟨h,_⟩
    · exact hp
    · exact W.BQ x h
  · rw [hv,Cq] at h
    rcases IZ h with e | ⟨h,_⟩
    · rw [Prod.mk.injEq] at e; cases e.2
    · exact W.texts q t h
theorem WF.apply {w:World} (W:WF w) {h:Head} {p d:Bytes} (F:Fits w h p) (hd:h.kind≠4→d.length=h.size) (hl:h.kind=10→h.size≤255∧h.size≠0):WF (apply w h p d):=by
  have hc:=F.clash W
  by_cases h4:h.kind=4
  · unfold FtTree.apply
    rw [if_pos h4,if_neg F.AtF]
    refine W.Aoq rfl (fun m hm=>?_) F.path (F.len W _) (fun t e=>by cases e)
    rw [hm] at hc
    cases m with
    | dir=>rfl
    | link t=>rfl
    | file i=>simp [FtTree.clash,h4] at hc
  · by_cases h10:h.kind=10
    · unfold FtTree.apply
      rw [if_neg h4,if_pos h10]
      have:=hl h10
      have hdl:=hd h4
      refine W.Aoq rfl (fun m hm=>?_) F.path (F.len W _) (fun t e=>?_)
      · rw [hm] at hc
        cases m with
        | dir=>rfl
        | link t=>rfl
        | file i=>simp [FtTree.clash,h10] at hc
      · cases e
        exact ⟨by omega,fun q=>by rw [q] at hdl; simp at hdl; omega⟩
    · have h8:h.kind=8:=by rcases F.kind with q | q | q <;> first | exact q | exact absurd q h4 | exact absurd q h10
      have hdl:=hd h4
      have htot:(FtTree.apply w h p d).total≤600:=by
        have ht:=W4 W (h:=h) (p:=p) (d:=d) h4 h10 hdl
        have hwt:=W.tot
        by_cases hz:h.size=0
        · rw [if_pos hz] at ht; omega
        · rw [if_neg hz] at ht
          rw [ht]
          have r:=F.room W
          unfold Lh at r
          rw [Bool.and_eq_true] at r
          have:=r.2
          simpa [h8,hz] using this
      have hap:=LV (w:=w) (h:=h) (p:=p) (d:=d) h4 h10
      cases e:Cp w h with
      | some i =>
        rw [e] at hap
        dsimp only at hap
        have hal:=Hf e
        have hil:=W.JC hal
        rw [hap] at htot ⊢
        by_cases hz:h.size=0
        · rw [if_pos hz] at htot ⊢
          exact Ahb W rfl (Nat.le_refl _) hil (fun _=>hal) F.path (F.len W _) htot (fun x hx=>Or.inl hx)
        · rw [if_neg hz] at htot ⊢
          exact Ahb (i:=i) W rfl (by show _≤(w.files.set i d).length; rw [List.length_set]; exact Nat.le_refl _) (by show i < (w.files.set i d).length; rw [List.length_set]; exact hil) (fun _=>hal) F.path (F.len W _) htot (fun x hx=>Or.inl hx)
      | none =>
        rw [e] at hap
        dsimp only at hap
        rw [hap] at htot ⊢
        have hfl:(w.files++[d]).length=w.files.length + 1:=by simp
        refine Ahb (i:=w.files.length) W rfl ?_ ?_ (fun q=>absurd q (Nat.lt_irrefl _)) F.path (F.len W _) htot (fun x hx=>?_)
        · show _≤(w.files++[d]).length; omega
        · show _ < (w.files++[d]).length; omega
        · by_cases hn:2≤h.names
          · have hx:x ∈ (if 2≤h.names then w.keys++[(keyOf h,w.files.length)] else w.keys):=hx
            rw [if_pos hn] at hx
            rcases List.mem_append.mp hx with hx | hx
            · exact Or.inl hx
            · rw [List.mem_singleton] at hx
              subst hx
              unfold Cp at e
              rw [if_pos hn] at e
              exact Or.inr ⟨rfl,Nat.le_refl _,e⟩
          · have hx:x ∈ (if 2≤h.names then w.keys++[(keyOf h,w.files.length)] else w.keys):=hx
            rw [if_neg hn] at hx
            exact Or.inl hx
theorem WF.Arz {w:World} (W:WF w):WF { w with keys:=[] }:=⟨W.nd,W.ids,(fun x hx=>by cases hx),(fun x hx=>by cases hx),W.len,W.tot,W.BQ,W.texts⟩
structure Oa (w:World) (L:List (Key × Nat)):Prop where
  eq:∀ k,Gd w k=(val L k).bind fun i=>if w.alive i=true then some i else none
  lt:∀ k i,val L k=some i→i < w.files.length
theorem Oa.none (w:World):Oa { w with keys:=[] } []:=⟨fun k=>rfl,fun k i h=>by cases h⟩
theorem Oa.bare:Oa bare []:=⟨fun k=>rfl,fun k i h=>by cases h⟩
theorem AeX {w v:World} (hk:v.keys=w.keys) (ha:∀ j,v.alive j=w.alive j) (k:Key):Gd v k=Gd w k:=by
  unfold Gd
  rw [hk]
  congr 2
  funext x
  rw [ha]
theorem Oa.same {w v:World} {L:List (Key × Nat)} (R:Oa w L) (hk:v.keys=w.keys) (ha:∀ j,v.alive j=w.alive j) (hf:v.files.length=w.files.length):Oa v L :=
  ⟨fun k=>by rw [AeX hk ha,R.eq]; congr 1; funext i; rw [ha],fun k i h=>by rw [hf]; exact R.lt k i h⟩
theorem Oa.at {w v:World} (W:WF w) (V:WF v) {L:List (Key × Nat)} (R:Oa w L) {k:Key} (hk:∀ i,(k,i) ∈ v.keys↔(k,i) ∈ w.keys) (ha:∀ j,j < w.files.length→v.alive j=true→w.alive j=true) :
    Gd v k=(val L k).bind fun i=>if v.alive i=true then some i else Option.none:=by
  cases e:Gd v k with
  | some i =>
    obtain ⟨h1,h2⟩:=Kp e
    have m:=(hk i).mp h1
    have:=Ad0 W m (ha i (W.keys _ m) h2)
    rw [R.eq] at this
    cases e2:val L k with
    | none=>rw [e2] at this; cases this
    | some j =>
      rw [e2] at this
      simp only [Option.bind_some] at this ⊢
      split at this
      · have:=Option.some.inj this
        subst this
        rw [if_pos h2]
      · cases this
  | none =>
    cases e2:val L k with
    | none=>rfl
    | some j =>
      simp only [Option.bind_some]
      split
      · rename_i hj
        have hlt:=R.lt k j e2
        have hwj:=ha j hlt hj
        have:=R.eq k
        rw [e2] at this
        simp only [Option.bind_some,if_pos hwj] at this
        have m:=(hk j).mpr (Kp this).1
        have:=Ko e j m
        rw [hj] at this; cases this
      · rfl
def Gv (w:World) (h:Head) (L:List (Key × Nat)):List (Key × Nat):=if 2≤h.names then put L (keyOf h) ((Cp w h).getD w.files.length) else L
theorem Oa.file {w:World} (W:WF w) {L:List (Key × Nat)} (R:Oa w L) {h:Head} {p d:Bytes} (h4:h.kind≠4) (h10:h.kind≠10) (V:WF (FtTree.apply w h p d)):Oa (FtTree.apply w h p d) (Gv w h L):=by
  have hap:=LV (w:=w) (h:=h) (p:=p) (d:=d) h4 h10
  unfold Gv
  cases e:Cp w h with
  | some i =>
    have hal:=Hf e
    rw [e] at hap
    dsimp only at hap
    have hkeys:(FtTree.apply w h p d).keys=w.keys:=by rw [hap]; split <;> rfl
    have hfl:(FtTree.apply w h p d).files.length=w.files.length:=by
      rw [hap]; split
      · rfl
      · exact List.length_set ..
    have haa:∀ j,(FtTree.apply w h p d).alive j=(w.put p (.file i)).alive j:=fun j=>by rw [hap]; split <;> rfl
    have hmono:∀ j,j < w.files.length→(FtTree.apply w h p d).alive j=true→w.alive j=true:=by
      intro j _ hj
      rw [haa] at hj
      rcases BZ.mp hj with rfl | q
      · exact hal
      · exact Fq q
    have hn:2≤h.names:=by
      unfold Cp at e
      split at e
      · assumption
      · cases e
    have hval:val L (keyOf h)=some i:=by
      unfold Cp at e
      rw [if_pos hn,R.eq] at e
      cases e2:val L (keyOf h) with
      | none=>rw [e2] at e; cases e
      | some j =>
        rw [e2] at e
        simp only [Option.bind_some] at e
        split at e
        · exact e
        · cases e
    rw [if_pos hn]
    refine ⟨fun k=>?_,fun k j hj=>?_⟩
    · have:=R.at W V (k:=k) (fun i=>by rw [hkeys]) hmono
      rw [this,MM]
      by_cases hk:k=keyOf h
      · rw [if_pos hk,hk,hval]; rfl
      · rw [if_neg hk]
    · rw [hfl]
      rw [MM] at hj
      by_cases hk:k=keyOf h
      · rw [if_pos hk] at hj
        have:=Option.some.inj hj
        rw [← this]; exact W.JC hal
      · rw [if_neg hk] at hj; exact R.lt k j hj
  | none =>
    rw [e] at hap
    dsimp only at hap
    have hkeys:(FtTree.apply w h p d).keys=if 2≤h.names then w.keys++[(keyOf h,w.files.length)] else w.keys:=by rw [hap]
    have hfl:(FtTree.apply w h p d).files.length=w.files.length + 1:=by rw [hap]; show (w.files++[d]).length=_; simp
    have haa:∀ j,(FtTree.apply w h p d).alive j=(w.put p (.file w.files.length)).alive j:=fun j=>by rw [hap]; rfl
    have hmono:∀ j,j < w.files.length→(FtTree.apply w h p d).alive j=true→w.alive j=true:=by
      intro j hl hj
      rw [haa] at hj
      rcases BZ.mp hj with rfl | q
      · exact absurd hl (Nat.lt_irrefl _)
      · exact Fq q
    have hself:(FtTree.apply w h p d).alive w.files.length=true:=by rw [haa]; exact BZ.mpr (Or.inl rfl)
    by_cases hn:2≤h.names
    · rw [if_pos hn] at hkeys ⊢
      refine ⟨fun k=>?_,fun k j hj=>?_⟩
      · rw [MM]
        by_cases hk:k=keyOf h
        · subst hk
          rw [if_pos rfl]
          simp only [Option.getD_none,Option.bind_some,if_pos hself]
          exact Ad0 V (by rw [hkeys]; exact List.mem_append_right _ (List.mem_singleton.mpr rfl)) hself
        · rw [if_neg hk]
          refine R.at W V (fun i=>?_) hmono
          rw [hkeys,List.mem_append,List.mem_singleton]
          exact ⟨fun q=>q.resolve_right (fun z=>hk (by rw [Prod.mk.injEq] at z; exact z.1)),Or.inl⟩
      · rw [hfl]
        rw [MM] at hj
        by_cases hk:k=keyOf h
        · rw [if_pos hk] at hj
          have:=Option.some.inj hj
          simp only [Option.getD_none] at this
          omega
        · rw [if_neg hk] at hj; have:=R.lt k j hj; omega
    · rw [if_neg hn] at hkeys ⊢
      refine ⟨fun k=>R.at W V (fun i=>by rw [hkeys]) hmono,fun k j hj=>by rw [hfl]; have:=R.lt k j hj; omega⟩
theorem Oa.link {w:World} {L:List (Key × Nat)} (R:Oa w L) (h:Head):Cp w h=if 2≤h.names then ((val L (keyOf h)).bind fun i=>if w.alive i=true then some i else Option.none) else Option.none:=by
  unfold Cp
  rw [R.eq]
end FtW
end
section
set_option autoImplicit false
set_option linter.unusedVariables false
open FtTree FtW
namespace FtM
structure YS (w:World) (h:Head) (p:Bytes):Prop where
  fits:Fits w h p
  kind:h.kind=8∨h.kind=10
  link:h.kind=10→h.size≤255∧h.size≠0
  room:h.size≤600
def Axr (m:M):Prop:=m.part.length < m.wanted ∧
  ((m.phase=0∧m.part=[]∧m.wanted=110) ∨
   (m.phase=1∧m.wanted=110∧∀ (i:Nat) (b:UInt8),m.part[i]? = some b→headByte i b=true) ∨
   (m.phase=2∧m.wanted=m.head.length∧m.head.ok=true) ∨
   (m.phase=3∧m.wanted=padding (110 + m.head.length)∧m.head.ok=true∧(m.head.size≠0→YS m.w m.head m.name)) ∨
   (m.phase=4∧m.wanted=m.head.size∧m.head.ok=true∧YS m.w m.head m.name) ∨
   (m.phase=5∧m.wanted=padding m.head.size∧m.head.ok=true))
structure MI (m:M):Prop where
  wf:WF m.w
  ok:m.code=0→Axr m
  le:m.part.length≤600
theorem Ar5 (n:Nat):padding n < 4:=by unfold padding; omega
theorem Vf {h:Head} (k:h.ok=true):(h.kind=8∨h.kind=4∨h.kind=10∨h.kind=0)∧2≤h.length∧h.length≤256∧((h.kind=4∨h.kind=0)→h.size=0)∧(h.kind=10→h.size≤255):=by
  unfold Head.ok at k
  simp only [Bool.and_eq_true,Bool.or_eq_true,decide_eq_true_eq,beq_iff_eq,Bool.not_eq_true',Bool.or_eq_false_iff,bne_iff_ne,ne_eq] at k
  obtain ⟨⟨⟨⟨h1,h2⟩,h3⟩,h4⟩,h5⟩:=k
  refine ⟨by omega,h2,h3,fun q=>?_,fun q=>?_⟩
  · rcases h4 with ⟨a,b⟩ | h4
    · rcases q with q | q
      · rw [q] at a; simp at a
      · rw [q] at b; simp at b
    · exact h4
  · rcases h5 with h5 | h5
    · exact absurd q h5
    · exact h5
theorem Aoh {m:M} (W:WF m.w):MI (MJ m):=⟨W,fun _=>⟨by show 0 < 110; omega,Or.inr (Or.inl ⟨rfl,rfl,fun i b h=>by simp [MJ] at h⟩)⟩,Nat.zero_le _⟩
theorem Aoj {m:M} (W:WF m.w) (hk:m.head.ok=true):MI (Kb m):=by
  unfold Kb
  split
  · exact Aoh W
  · rename_i hz
    exact ⟨W,fun _=>⟨by show 0 < padding m.head.size; omega,Or.inr (Or.inr (Or.inr (Or.inr (Or.inr ⟨rfl,rfl,hk⟩))))⟩,Nat.zero_le _⟩
theorem Au5 {m:M} (W:WF m.w) (P:YS m.w m.head m.name) {d:Bytes} (hd:d.length=m.head.size):WF (apply m.w m.head m.name d) :=
  W.apply P.fits (fun _=>hd) P.link
theorem AaE {m:M} (W:WF m.w) (hk:m.head.ok=true) {d:Bytes} (hd:d.length=m.head.size) (hp:m.head.size≠0→YS m.w m.head m.name):MI (DF m d):=by
  unfold DF
  split
  · exact Aoj W hk
  · rename_i hz
    exact Aoj (m:={ m with w:=apply m.w m.head m.name d }) (Au5 W (hp hz) hd) hk
theorem Aog {m:M} (W:WF m.w) (hk:m.head.ok=true) (hp:m.head.size≠0→YS m.w m.head m.name):MI (Gi m):=by
  unfold Gi
  split
  · rename_i hz
    exact AaE W hk (by rw [hz]; rfl) hp
  · rename_i hz
    exact ⟨W,fun _=>⟨by show 0 < m.head.size; omega,Or.inr (Or.inr (Or.inr (Or.inr (Or.inl ⟨rfl,rfl,hk,hp hz⟩))))⟩,Nat.zero_le _⟩
theorem Aoi {m:M} (W:WF m.w) (hk:m.head.ok=true) (hp:m.head.size≠0→YS m.w m.head m.name):MI (MK m):=by
  unfold MK
  split
  · exact Aog W hk hp
  · rename_i hz
    exact ⟨W,fun _=>⟨by show 0 < padding (110 + m.head.length); omega,Or.inr (Or.inr (Or.inr (Or.inl ⟨rfl,rfl,hk,hp⟩)))⟩,Nat.zero_le _⟩
theorem Mr {h:Head} {s:Bytes} (k:nameOK h s=true) (ht:s.dropLast≠TRAILER):s.getLast? = some 0∧h.kind≠0∧(h.kind=10→h.size≠0)∧(isPath s.dropLast=true∨(s.dropLast=DOT∧h.kind=4)):=by
  unfold nameOK at k
  simp only [if_neg ht,Bool.and_eq_true,Bool.or_eq_true,beq_iff_eq,bne_iff_ne,ne_eq] at k
  obtain ⟨h1,⟨h2,h3⟩,h4⟩:=k
  exact ⟨h1,h2,fun q=>h3.resolve_left (fun z=>z q),h4⟩
theorem size_le {w:World} (W:WF w) {h:Head} {p:Bytes} (F:Fits w h p) (h8:h.kind=8):h.size≤600:=by
  have r:=F.room W
  unfold Lh at r
  rw [Bool.and_eq_true] at r
  have r2:=r.2
  have:=W8 w p (Cp w h) h.size
  simp only [h8,ne_eq,not_true_eq_false,decide_false,Bool.false_or,Bool.or_eq_true,decide_eq_true_eq] at r2
  omega
theorem fits_of {w:World} {h:Head} {s:Bytes} (ho:h.ok=true) (k:nameOK h s=true) (ht:s.dropLast≠TRAILER) (hd:s.dropLast≠DOT) (hj:judge w h s.dropLast=0):Fits w h s.dropLast:=by
  obtain ⟨_,h2,h3,h4⟩:=Mr k ht
  obtain ⟨k1,_⟩:=Vf ho
  exact ⟨h4.resolve_right (fun q=>hd q.1),by omega,hj,hd⟩
theorem At7 {m:M} (W:WF m.w) (hk:m.head.ok=true) {s:Bytes} (hs:m.name=s.dropLast) (hn:nameOK m.head s=true) (hj:m.name≠TRAILER→judge m.w m.head m.name=0):MI (Iw m):=by
  unfold Iw
  split
  · exact ⟨W.Arz,fun _=>⟨by show 0 < 110; omega,Or.inl ⟨rfl,rfl,rfl⟩⟩,Nat.zero_le _⟩
  · rename_i ht
    obtain ⟨k1,k2,k3,k4,k5⟩:=Vf hk
    obtain ⟨_,n2,n3,n4⟩:=Mr (by exact hn) (by rw [← hs]; exact ht)
    by_cases hz:m.head.size=0
    · rw [if_pos hz]
      refine Aoi (m:={ m with w:=apply m.w m.head m.name [] }) ?_ hk (fun q=>absurd hz q)
      by_cases hd:m.name=DOT
      · have h4:m.head.kind=4:=by
          rcases n4 with q | q
          · rw [← hs,hd] at q
            exact absurd q (by decide)
          · exact q.2
        show WF (apply m.w m.head m.name [])
        unfold apply
        rw [if_pos h4,if_pos hd]; exact W
      · have F:Fits m.w m.head m.name:=by rw [hs]; exact fits_of hk hn (by rw [← hs]; exact ht) (by rw [← hs]; exact hd) (by rw [← hs]; exact hj ht)
        exact W.apply F (fun _=>by rw [hz]; rfl) (fun q=>absurd hz (n3 q))
    · rw [if_neg hz]
      refine Aoi W hk (fun _=>?_)
      have h810:m.head.kind=8∨m.head.kind=10:=by
        rcases k1 with q | q | q | q
        · exact Or.inl q
        · exact absurd (k4 (Or.inl q)) hz
        · exact Or.inr q
        · exact absurd q n2
      have hd:m.name≠DOT:=by
        intro q
        rcases n4 with z | z
        · rw [← hs,q] at z
          exact absurd z (by decide)
        · omega
      have F:Fits m.w m.head m.name:=by rw [hs]; exact fits_of hk hn (by rw [← hs]; exact ht) (by rw [← hs]; exact hd) (by rw [← hs]; exact hj ht)
      refine ⟨F,h810,fun q=>⟨k5 q,hz⟩,?_⟩
      rcases h810 with q | q
      · exact size_le W F q
      · have:=k5 q; omega
theorem At8 {m:M} (W:WF m.w) (hk:m.head.ok=true) (hl:m.part.length≤600) (h0:m.code=0):MI (endName m):=by
  unfold endName
  split
  · rename_i hc
    exact ⟨W,fun q=>absurd q hc,hl⟩
  · rename_i hc
    have hc:Bl m=0:=Classical.byContradiction hc
    unfold Bl at hc
    split at hc
    · cases hc
    · rename_i hn
      have hn:nameOK m.head m.part=true:=by simpa using hn
      refine At7 (m:={ m with name:=m.part.dropLast }) W hk (s:=m.part) rfl hn (fun ht=>?_)
      rw [if_neg (show ¬ m.part.dropLast=TRAILER from ht)] at hc
      exact hc
theorem At9 {m:M} (h0:m.code=0) (W:WF m.w) (hl:m.part.length≤600) (hp:m.phase≠0)
    (h2:m.phase=2→m.head.ok=true) (h3:m.phase=3→m.head.ok=true∧(m.head.size≠0→YS m.w m.head m.name)) (h4:m.phase=4→m.head.ok=true∧YS m.w m.head m.name∧m.part.length=m.head.size):MI (Ca m):=by
  unfold Ca
  split
  · unfold IY
    split
    · rename_i hk
      have:=LB hk
      exact ⟨W,fun _=>⟨by show 0 < (headOf m.part).length; omega,Or.inr (Or.inr (Or.inl ⟨rfl,rfl,hk⟩))⟩,Nat.zero_le _⟩
    · exact ⟨W,fun q=>(nomatch q),hl⟩
  split
  · rename_i q; exact At8 W (h2 q) hl h0
  split
  · rename_i q; exact Aog W (h3 q).1 (h3 q).2
  split
  · rename_i q; exact AaE W (h4 q).1 (h4 q).2.2 (fun _=>(h4 q).2.1)
  · exact Aoh W
theorem AtA {m:M} (I:MI m) (b:UInt8):MI (take m b):=by
  unfold take
  split
  · exact I
  · rename_i hc
    have h0:m.code=0:=Classical.byContradiction hc
    obtain ⟨hw,hph⟩:=I.ok h0
    have hW:m.wanted≤600:=by
      rcases hph with ⟨_,_,q⟩ | ⟨_,q,_⟩ | ⟨_,q,k⟩ | ⟨_,q,_⟩ | ⟨_,q,_,P⟩ | ⟨_,q,_⟩
      · omega
      · omega
      · have:=LB k; omega
      · have:=Ar5 (110 + m.head.length); omega
      · have:=P.room; omega
      · have:=Ar5 m.head.size; omega
    unfold take1
    split
    · rename_i hf
      exact ⟨I.wf,fun q=>absurd q hf,I.le⟩
    · rename_i hf
      have hf:Ax m.phase m.part.length b=0:=Classical.byContradiction hf
      split
      · exact ⟨I.wf,fun _=>⟨hw,hph⟩,I.le⟩
      · rename_i hg
        have hlen:(m.part++[b]).length=m.part.length + 1:=by simp
        have hhead:m.phase=0∨m.phase=1→headByte m.part.length b=true:=by
          intro q
          unfold Ax at hf
          rw [if_neg hg] at hf
          cases e:headByte m.part.length b with
          | true=>rfl
          | false=>rw [if_pos ⟨q,e⟩] at hf; cases hf
        split
        · rename_i hl
          refine At9 (m:={ m with phase:=if m.phase=0 then 1 else m.phase,part:=m.part++[b],place:=m.place + 1 }) h0 I.wf (by show (m.part++[b]).length≤600; omega) (by show (if m.phase=0 then 1 else m.phase)≠0; split <;> omega) ?_ ?_ ?_
          · intro (q:(if m.phase=0 then 1 else m.phase)=2)
            have q:m.phase=2:=by split at q <;> omega
            rcases hph with ⟨z,_⟩ | ⟨z,_⟩ | ⟨z,_,k⟩ | ⟨z,_⟩ | ⟨z,_⟩ | ⟨z,_⟩ <;> first | exact k | omega
          · intro (q:(if m.phase=0 then 1 else m.phase)=3)
            have q:m.phase=3:=by split at q <;> omega
            rcases hph with ⟨z,_⟩ | ⟨z,_⟩ | ⟨z,_,k⟩ | ⟨z,_,k1,k2⟩ | ⟨z,_⟩ | ⟨z,_⟩ <;> first | exact ⟨k1,k2⟩ | omega
          · intro (q:(if m.phase=0 then 1 else m.phase)=4)
            have q:m.phase=4:=by split at q <;> omega
            rcases hph with ⟨z,_⟩ | ⟨z,_⟩ | ⟨z,_,k⟩ | ⟨z,_,k1,k2⟩ | ⟨z,z2,k1,k2⟩ | ⟨z,_⟩ <;> first | exact ⟨k1,k2,by show (m.part++[b]).length=m.head.size; omega⟩ | omega
        · rename_i hl
          refine ⟨I.wf,fun _=>⟨by show (m.part++[b]).length < m.wanted; omega,?_⟩,by show (m.part++[b]).length≤600; omega⟩
          have snoc:(∀ (i:Nat) (c:UInt8),m.part[i]? = some c→headByte i c=true)→headByte m.part.length b=true→∀ (i:Nat) (c:UInt8),(m.part++[b])[i]? = some c→headByte i c=true:=by
            intro h1 h2 i c hi
            rcases Nat.lt_trichotomy i m.part.length with q | q | q
            · rw [List.getElem?_append_left q] at hi; exact h1 i c hi
            · subst q
              rw [List.getElem?_append_right (Nat.le_refl _),Nat.sub_self] at hi
              rw [← Option.some.inj hi]; exact h2
            · rw [List.getElem?_eq_none (by omega)] at hi; cases hi
          rcases hph with ⟨z,z1,z2⟩ | ⟨z,z1,z2⟩ | ⟨z,z1⟩ | ⟨z,z1,z2,z3⟩ | ⟨z,z1,z2,z3⟩ | ⟨z,z1⟩
          · right; left
            refine ⟨by show (if m.phase=0 then 1 else m.phase)=1; rw [if_pos z],z2,?_⟩
            exact snoc (fun i c h=>by rw [z1] at h; simp at h) (hhead (Or.inl z))
          · right; left
            exact ⟨by show (if m.phase=0 then 1 else m.phase)=1; rw [if_neg (by omega),z],z1,snoc z2 (hhead (Or.inr z))⟩
          · right; right; left
            exact ⟨by show (if m.phase=0 then 1 else m.phase)=2; rw [if_neg (by omega),z],z1⟩
          · right; right; right; left
            exact ⟨by show (if m.phase=0 then 1 else m.phase)=3; rw [if_neg (by omega),z],z1,z2,z3⟩
          · right; right; right; right; left
            exact ⟨by show (if m.phase=0 then 1 else m.phase)=4; rw [if_neg (by omega),z],z1,z2,z3⟩
          · right; right; right; right; right
            exact ⟨by show (if m.phase=0 then 1 else m.phase)=5; rw [if_neg (by omega),z],z1⟩
theorem AwY (h:Head) (p:Bytes):MI (m0 h p):=⟨WF.bare,fun _=>⟨by show 0 < 110; omega,Or.inl ⟨rfl,rfl,rfl⟩⟩,Nat.zero_le _⟩
theorem Af6 (s:Bytes):∀ {m:M},MI m→MI (feed m s):=by
  induction s with
  | nil=>intro m I; exact I
  | cons b s ih=>intro m I; rw [Ew]; exact ih (AtA I b)
end FtM
end
section
set_option autoImplicit false
set_option linter.unusedVariables false
open FtTree
namespace FtP
def walk:List Bytes→Bytes→Bytes→List Bytes
  | acc,cur,[]=>acc++[cur]
  | acc,cur,x::r=>if x=47 then walk (acc++[cur]) [] r else walk acc (cur++[x]) r
theorem Abk:∀ p:Bytes,parts p≠[]
  | []=>by simp [parts]
  | x::r=>by
    unfold parts
    split
    · simp
    · split <;> simp
theorem T8:∀ (r:Bytes) (acc:List Bytes) (cur:Bytes),walk acc cur r=acc++(match parts r with
    | []=>[cur]
    | a::l=>(cur++a)::l)
  | [],acc,cur=>by simp [walk,parts]
  | x::r,acc,cur=>by
    unfold walk parts
    by_cases h:x=47
    · rw [if_pos h,if_pos h,T8 r]
      dsimp only
      cases e:parts r with
      | nil=>exact absurd e (Abk r)
      | cons a l=>simp
    · rw [if_neg h,if_neg h,T8 r]
      cases e:parts r with
      | nil=>exact absurd e (Abk r)
      | cons a l=>simp
theorem AsD (p:Bytes):walk [] [] p=parts p:=by
  rw [T8]
  cases e:parts p with
  | nil=>exact absurd e (Abk p)
  | cons a l=>simp
def OW (a:Bytes):Bool:=if decide (a.length=0) || a.contains 0 then false else decide (a≠[46]) && decide (a≠[46,46])
theorem Apv (p:Bytes):isPath p=if 255 < p.length then false else (parts p).all OW:=by
  unfold isPath
  have e:(fun a:Bytes=>a != [] && a != DOT && a != [46,46] && !(a.contains 0))=OW:=by
    funext a
    unfold OW DOT
    cases a with
    | nil=>rfl
    | cons x r =>
      have h0:decide ((x::r).length=0)=false:=by simp
      rw [h0,Bool.false_or]
      cases hc:(x::r).contains 0 with
      | true=>simp
      | false =>
        have d1:((x::r) != ([]:Bytes))=true:=rfl
        have d2:((x::r) != ([46]:Bytes))=decide ((x::r)≠[46]):=by
          rw [Bool.eq_iff_iff,bne_iff_ne,decide_eq_true_eq]
        have d3:((x::r) != ([46,46]:Bytes))=decide ((x::r)≠[46,46]):=by
          rw [Bool.eq_iff_iff,bne_iff_ne,decide_eq_true_eq]
        rw [d1,d2,d3]
        simp
  rw [e]
  by_cases h:p.length≤255
  · rw [decide_eq_true h,if_neg (by omega)]; rfl
  · rw [decide_eq_false h,if_pos (by omega)]; rfl
theorem Ajm {p:Bytes} (h:∀ (i:Nat) (c:UInt8),p[i]? = some c→c≠47):parent p=none:=by
  unfold parent
  have dn:∀ l:Bytes,(∀ x ∈ l,(x != 47)=true)→l.dropWhile (fun c=>c != 47)=[]:=by
    intro l
    induction l with
    | nil=>intro _; rfl
    | cons a l ih =>
      intro h
      rw [List.dropWhile_cons,if_pos (h a (List.mem_cons_self ..))]
      exact ih (fun x hx=>h x (List.mem_cons_of_mem _ hx))
  have:p.reverse.dropWhile (fun c=>c != 47)=[]:=by
    refine dn _ ?_
    intro x hx
    rw [List.mem_reverse] at hx
    obtain ⟨i,hi,e⟩:=List.mem_iff_getElem.mp hx
    have:=h i x (by rw [List.getElem?_eq_getElem hi,e])
    simpa using this
  rw [this]
theorem Ajn {p:Bytes} {k:Nat} (hk:p[k]? = some 47) (h:∀ (i:Nat) (c:UInt8),k < i→p[i]? = some c→c≠47):parent p=some (p.take k):=by
  unfold parent
  have hkl:k < p.length:=(List.getElem?_eq_some_iff.mp hk).1
  have e:p=p.take k++47::p.drop (k + 1):=by
    have hd:p.drop k=47::p.drop (k + 1):=by
      rw [List.drop_eq_getElem_cons hkl]
      rw [List.getElem?_eq_getElem hkl] at hk
      rw [Option.some.inj hk]
    rw [← hd,List.take_append_drop]
  have e2:p.reverse=(p.drop (k + 1)).reverse++47::(p.take k).reverse:=by
    conv=>lhs; rw [e]
    simp
  have e3:p.reverse.dropWhile (fun c=>c != 47)=47::(p.take k).reverse:=by
    rw [e2,List.dropWhile_append_of_pos]
    · rw [List.dropWhile_cons]; simp
    · intro x hx
      rw [List.mem_reverse] at hx
      obtain ⟨i,hi,ei⟩:=List.mem_iff_getElem.mp hx
      have:p[k + 1 + i]? = some x:=by
        rw [← List.getElem?_drop,List.getElem?_eq_getElem hi,ei]
      have:=h (k + 1 + i) x (by omega) this
      simpa using this
  rw [e3]
  simp
def Sh (c:Int):Int:=if 48≤c∧c≤57 then c - 48 else if 65≤c∧c≤70 then c - 55 else if 97≤c∧c≤102 then c - 87 else -1
theorem Ad3 (c:UInt8):isHex c=true↔(48≤c.toNat∧c.toNat≤57)∨(65≤c.toNat∧c.toNat≤70)∨(97≤c.toNat∧c.toNat≤102):=by
  unfold isHex
  simp only [Bool.or_eq_true,Bool.and_eq_true,decide_eq_true_eq,UInt8.le_iff_toNat_le]
  have e:∀ n:Nat,n < 256→(OfNat.ofNat n:UInt8).toNat=n:=by
    intro n hn
    show (UInt8.ofNat n).toNat=n
    simp [Nat.mod_eq_of_lt hn]
  constructor
  · intro h
    rcases h with (⟨a,b⟩ | ⟨a,b⟩) | ⟨a,b⟩
    · exact Or.inl ⟨a,b⟩
    · exact Or.inr (Or.inl ⟨a,b⟩)
    · exact Or.inr (Or.inr ⟨a,b⟩)
  · intro h
    rcases h with ⟨a,b⟩ | ⟨a,b⟩ | ⟨a,b⟩
    · exact Or.inl (Or.inl ⟨a,b⟩)
    · exact Or.inl (Or.inr ⟨a,b⟩)
    · exact Or.inr ⟨a,b⟩
theorem Alr {c:UInt8} (h:isHex c=true):Sh (c.toNat:Int)=(digit c:Int):=by
  have:=(Ad3 c).mp h
  unfold Sh digit
  rcases this with ⟨a,b⟩ | ⟨a,b⟩ | ⟨a,b⟩
  · rw [if_pos (by omega),if_pos (by omega)]; omega
  · rw [if_neg (by omega),if_pos (by omega),if_neg (by omega),if_pos (by omega)]; omega
  · rw [if_neg (by omega),if_neg (by omega),if_pos (by omega),if_neg (by omega),if_neg (by omega)]; omega
theorem Api (c:UInt8):decide (0≤Sh (c.toNat:Int))=isHex c:=by
  rw [Bool.eq_iff_iff,decide_eq_true_eq,Ad3]
  unfold Sh
  have hlt:=c.toNat_lt
  constructor
  · intro h
    split at h
    · omega
    · split at h
      · omega
      · split at h
        · omega
        · omega
  · intro h
    split
    · omega
    · split
      · omega
      · split
        · omega
        · omega
theorem Are (s:Bytes) (c:UInt8):hex (s++[c])=16 * hex s + digit c:=by
  unfold hex; rw [List.foldl_append]; rfl
theorem AwX:MAGIC=[48,55,48,55,48,49]:=by decide
theorem K7:TRAILER=[84,82,65,73,76,69,82,33,33,33]:=by decide
end FtP
end
section
set_option autoImplicit false
set_option linter.unusedVariables false
open FtTree FtW FtM
namespace FtQ
def hd0:Head:=⟨0,0,0,0,0,0,0⟩
def mOf (s:Bytes):M:=feed (m0 hd0 []) s
theorem At6 (s t:Bytes):mOf (s++t)=feed (mOf s) t:=Ec _ _ _
theorem S2 (s:Bytes):MI (mOf s):=Af6 s (AwY _ _)
theorem Kc (s:Bytes):(outcome s).world=(mOf s).w:=by rw [SY hd0 []]; rfl
theorem ArB (s:Bytes):∀ m:M,(feed m s).place≤m.place + s.length:=by
  induction s with
  | nil=>intro m; exact Nat.le_refl _
  | cons b s ih =>
    intro m
    rw [Ew,List.length_cons]
    have h:=ih (take m b)
    have:(take m b).place≤m.place + 1:=by
      unfold take
      split
      · omega
      · unfold take1
        split
        · exact Nat.le_succ _
        split
        · exact Nat.le_refl _
        split
        · rw [Mj]; exact Nat.le_refl _
        · exact Nat.le_refl _
    omega
theorem ApP (s:Bytes):(mOf s).place≤s.length:=by
  have:=ArB s (m0 hd0 [])
  have e:(m0 hd0 []).place=0:=rfl
  rw [e] at this
  unfold mOf
  omega
theorem AhX (s:Bytes):Wrfirs.faultOf s=[(mOf s).code,(mOf s).place]:=by
  unfold Wrfirs.faultOf
  rw [SY hd0 []]
  show (match (if (mOf s).code=0 then none else some ((mOf s).code,(mOf s).place)) with
    | some x=>[x.1,x.2]
    | none=>[0,s.length])=_
  by_cases h:(mOf s).code=0
  · rw [if_pos h,h]
    have:=ZR s (m0 hd0 []) h
    have e:(m0 hd0 []).place=0:=rfl
    rw [e] at this
    show [0,s.length]=[0,(feed (m0 hd0 []) s).place]
    rw [this]; simp
  · rw [if_neg h]
theorem AvD (s:Bytes):((outcome s).fault.isNone && (outcome s).closed)=((mOf s).code == 0 && (mOf s).phase == 0):=by
  rw [SY hd0 []]
  show ((if (mOf s).code=0 then none else some ((mOf s).code,(mOf s).place)).isNone && ((mOf s).code == 0 && (mOf s).phase == 0))=_
  by_cases h:(mOf s).code=0
  · rw [if_pos h]; rfl
  · rw [if_neg h]; simp [h]
def Al2 (z:Int):Prop:=0≤z∧z≤255
def bytes (r:List Int):Bytes:=Wrfirs.bytesOf (WrfirsNeutral.nats r)
theorem RE:∀ {r:List Int},(∀ z ∈ r,Al2 z)→(bytes r).map (fun c=>(c.toNat:Int))=r
  | [],_=>rfl
  | z::r,h=>by
    have hz:=h z (List.mem_cons_self ..)
    have ih:=RE (r:=r) (fun y hy=>h y (List.mem_cons_of_mem _ hy))
    show ((UInt8.ofNat z.toNat).toNat:Int)::(bytes r).map (fun c=>(c.toNat:Int))=z::r
    rw [ih]
    congr 1
    have:(UInt8.ofNat z.toNat).toNat=z.toNat:=by
      rw [UInt8.toNat_ofNat']
      have:=hz.2
      omega
    rw [this]
    have:=hz.1
    omega
theorem Adw (r:List Int):(bytes r).length=r.length:=by
  unfold bytes Wrfirs.bytesOf WrfirsNeutral.nats
  rw [List.length_map,List.length_map]
theorem Ip {r:List Int} (h:r.all WrfirsNeutral.byte=true):∀ z ∈ r,Al2 z:=by
  intro z hz
  have:=List.all_eq_true.mp h z hz
  unfold WrfirsNeutral.byte at this
  rw [Bool.and_eq_true,decide_eq_true_eq,decide_eq_true_eq] at this
  exact this
theorem ArK {r:List Int} {x t:List Int} (h:PyFlat.row r=some (x,t)):∃ k:Nat,∃ r',r=(k:Int)::r'∧k≤r'.length∧x=r'.take k∧t=r'.drop k:=by
  cases r with
  | nil=>cases h
  | cons n r' =>
    unfold PyFlat.row at h
    dsimp only at h
    split at h
    · rename_i hc
      have:=Option.some.inj h
      rw [Prod.mk.injEq] at this
      exact ⟨n.toNat,r',by rw [Int.toNat_of_nonneg hc.1],hc.2,this.1.symm,this.2.symm⟩
    · cases h
theorem Aqd {r:List Int} {xs:List (List Int)} {t:List Int} (h:PyFlat.rows 0 r=some (xs,t)):xs=[]∧t=r:=by
  have:=Option.some.inj h
  rw [Prod.mk.injEq] at this
  exact ⟨this.1.symm,this.2.symm⟩
theorem Aqc {k:Nat} {r:List Int} {xs:List (List Int)} {t:List Int} (h:PyFlat.rows (k + 1) r=some (xs,t)):∃ x s ys,PyFlat.row r=some (x,s)∧PyFlat.rows k s=some (ys,t)∧xs=x::ys:=by
  unfold PyFlat.rows at h
  try dsimp only at h
  cases e:PyFlat.row r with
  | none=>rw [e] at h; cases h
  | some q =>
    obtain ⟨x,s⟩:=q
    rw [e] at h
    dsimp only at h
    cases e2:PyFlat.rows k s with
    | none=>rw [e2] at h; cases h
    | some q2 =>
      obtain ⟨ys,t2⟩:=q2
      rw [e2] at h
      have:=Option.some.inj h
      rw [Prod.mk.injEq] at this
      obtain ⟨rfl,rfl⟩:=this
      exact ⟨x,s,ys,rfl,e2,rfl⟩
theorem Ape {sh:Int→Option (Nat × Nat)} {p:Int} {r t:List Int} {c:List (List Int)} (h:PyFlat.call sh (p::r)=some (c,t)):∃ n k xs,sh p=some (n,k)∧n≤r.length∧PyFlat.rows k (r.drop n)=some (xs,t)∧c=(p::r.take n)::xs:=by
  unfold PyFlat.call at h
  dsimp only at h
  cases e:sh p with
  | none=>rw [e] at h; cases h
  | some q =>
    obtain ⟨n,k⟩:=q
    rw [e] at h
    dsimp only at h
    split at h
    · cases h
    · rename_i hl
      cases e2:PyFlat.rows k (r.drop n) with
      | none=>rw [e2] at h; cases h
      | some q2 =>
        obtain ⟨xs,t2⟩:=q2
        rw [e2] at h
        have:=Option.some.inj h
        rw [Prod.mk.injEq] at this
        obtain ⟨rfl,rfl⟩:=this
        exact ⟨n,k,xs,rfl,by omega,e2,rfl⟩
theorem Adx {sh:Int→Option (Nat × Nat)} {f:Nat} {cs:List (List (List Int))} (h:PyFlat.calls sh f []=some cs):cs=[]:=by
  cases f <;> exact (Option.some.inj h).symm
theorem Zu {sh:Int→Option (Nat × Nat)} {f:Nat} {p:Int} {r:List Int} {cs:List (List (List Int))} (h:PyFlat.calls sh f (p::r)=some cs):∃ f' c t ds,PyFlat.call sh (p::r)=some (c,t)∧PyFlat.calls sh f' t=some ds∧cs=c::ds:=by
  cases f with
  | zero=>cases h
  | succ f =>
    unfold PyFlat.calls at h
    try dsimp only at h
    cases e:PyFlat.call sh (p::r) with
    | none=>rw [e] at h; cases h
    | some q =>
      obtain ⟨c,t⟩:=q
      rw [e] at h
      dsimp only at h
      cases e2:PyFlat.calls sh f t with
      | none=>rw [e2] at h; cases h
      | some ds =>
        rw [e2] at h
        exact ⟨f,c,t,ds,rfl,e2,(Option.some.inj h).symm⟩
inductive Form:List (List Int)→Prop
  | c1:Form [[1]]
  | c2 (b:List Int):Form [[2],b]
  | c3:Form [[3]]
  | c4 (b:List Int):Form [[4],b]
  | c5 (b:List Int):Form [[5],b]
  | c6 (x y:Int) (b:List Int):Form [[6,x,y],b]
  | c7 (b d:List Int):Form [[7],b,d]
  | c8 (b:List Int):Form [[8],b]
  | c9 (b:List Int):Form [[9],b]
  | c10:Form [[10]]
  | other (c:List (List Int)):PyWrfirs.whole c=c→WrfirsNeutral.asked1 c=false→Form c
theorem lit {P:Int→Prop} (h0:P 0) (h1:P 1) (h2:P 2) (h3:P 3) (h4:P 4) (h5:P 5) (h6:P 6) (h7:P 7) (h8:P 8) (h9:P 9) (h10:P 10) (h:∀ n:Nat,P (.ofNat (n + 11))) (h':∀ n,P (.negSucc n)) (x:Int):P x:=by
  rcases x with n | n
  · rcases n with _ | _ | _ | _ | _ | _ | _ | _ | _ | _ | _ | n
    all_goals first | assumption | exact h n
  · exact h' n
theorem AwR:∀ c,Form c
  | []=>.other _ rfl rfl
  | [[]]=>.other _ rfl rfl
  | [[x]]=>lit (P:=fun x=>Form [[x]]) (.other _ rfl rfl) .c1 (.other _ rfl rfl) .c3 (.other _ rfl rfl) (.other _ rfl rfl) (.other _ rfl rfl) (.other _ rfl rfl) (.other _ rfl rfl) (.other _ rfl rfl) .c10 (fun _=>.other _ rfl rfl) (fun _=>.other _ rfl rfl) x
  | [[x,y]]=>lit (P:=fun x=>Form [[x,y]]) (.other _ rfl rfl) (.other _ rfl rfl) (.other _ rfl rfl) (.other _ rfl rfl) (.other _ rfl rfl) (.other _ rfl rfl) (.other _ rfl rfl) (.other _ rfl rfl) (.other _ rfl rfl) (.other _ rfl rfl) (.other _ rfl rfl) (fun _=>.other _ rfl rfl) (fun _=>.other _ rfl rfl) x
  | [[x,y,z]]=>lit (P:=fun x=>Form [[x,y,z]]) (.other _ rfl rfl) (.other _ rfl rfl) (.other _ rfl rfl) (.other _ rfl rfl) (.other _ rfl rfl) (.other _ rfl rfl) (.other _ rfl rfl) (.other _ rfl rfl) (.other _ rfl rfl) (.other _ rfl rfl) (.other _ rfl rfl) (fun _=>.other _ rfl rfl) (fun _=>.other _ rfl rfl) x
  | [x::y::z::u::v]=>lit (P:=fun x=>Form [x::y::z::u::v]) (.other _ rfl rfl) (.other _ rfl rfl) (.other _ rfl rfl) (.other _ rfl rfl) (.other _ rfl rfl) (.other _ rfl rfl) (.other _ rfl rfl) (.other _ rfl rfl) (.other _ rfl rfl) (.other _ rfl rfl) (.other _ rfl rfl) (fun _=>.other _ rfl rfl) (fun _=>.other _ rfl rfl) x
  | [[],_]=>.other _ rfl rfl
  | [[x],b]=>lit (P:=fun x=>Form [[x],b]) (.other _ rfl rfl) (.other _ rfl rfl) (.c2 b) (.other _ rfl rfl) (.c4 b) (.c5 b) (.other _ rfl rfl) (.other _ rfl rfl) (.c8 b) (.c9 b) (.other _ rfl rfl) (fun _=>.other _ rfl rfl) (fun _=>.other _ rfl rfl) x
  | [[x,y],b]=>lit (P:=fun x=>Form [[x,y],b]) (.other _ rfl rfl) (.other _ rfl rfl) (.other _ rfl rfl) (.other _ rfl rfl) (.other _ rfl rfl) (.other _ rfl rfl) (.other _ rfl rfl) (.other _ rfl rfl) (.other _ rfl rfl) (.other _ rfl rfl) (.other _ rfl rfl) (fun _=>.other _ rfl rfl) (fun _=>.other _ rfl rfl) x
  | [[x,y,z],b]=>lit (P:=fun x=>Form [[x,y,z],b]) (.other _ rfl rfl) (.other _ rfl rfl) (.other _ rfl rfl) (.other _ rfl rfl) (.other _ rfl rfl) (.other _ rfl rfl) (.c6 y z b) (.other _ rfl rfl) (.other _ rfl rfl) (.other _ rfl rfl) (.other _ rfl rfl) (fun _=>.other _ rfl rfl) (fun _=>.other _ rfl rfl) x
  | [x::y::z::u::v,b]=>lit (P:=fun x=>Form [x::y::z::u::v,b]) (.other _ rfl rfl) (.other _ rfl rfl) (.other _ rfl rfl) (.other _ rfl rfl) (.other _ rfl rfl) (.other _ rfl rfl) (.other _ rfl rfl) (.other _ rfl rfl) (.other _ rfl rfl) (.other _ rfl rfl) (.other _ rfl rfl) (fun _=>.other _ rfl rfl) (fun _=>.other _ rfl rfl) x
  | [[],_,_]=>.other _ rfl rfl
  | [[x],b,d]=>lit (P:=fun x=>Form [[x],b,d]) (.other _ rfl rfl) (.other _ rfl rfl) (.other _ rfl rfl) (.other _ rfl rfl) (.other _ rfl rfl) (.other _ rfl rfl) (.other _ rfl rfl) (.c7 b d) (.other _ rfl rfl) (.other _ rfl rfl) (.other _ rfl rfl) (fun _=>.other _ rfl rfl) (fun _=>.other _ rfl rfl) x
  | [[x,y],b,d]=>lit (P:=fun x=>Form [[x,y],b,d]) (.other _ rfl rfl) (.other _ rfl rfl) (.other _ rfl rfl) (.other _ rfl rfl) (.other _ rfl rfl) (.other _ rfl rfl) (.other _ rfl rfl) (.other _ rfl rfl) (.other _ rfl rfl) (.other _ rfl rfl) (.other _ rfl rfl) (fun _=>.other _ rfl rfl) (fun _=>.other _ rfl rfl) x
  | [[x,y,z],b,d]=>lit (P:=fun x=>Form [[x,y,z],b,d]) (.other _ rfl rfl) (.other _ rfl rfl) (.other _ rfl rfl) (.other _ rfl rfl) (.other _ rfl rfl) (.other _ rfl rfl) (.other _ rfl rfl) (.other _ rfl rfl) (.other _ rfl rfl) (.other _ rfl rfl) (.other _ rfl rfl) (fun _=>.other _ rfl rfl) (fun _=>.other _ rfl rfl) x
  | [x::y::z::u::v,b,d]=>lit (P:=fun x=>Form [x::y::z::u::v,b,d]) (.other _ rfl rfl) (.other _ rfl rfl) (.other _ rfl rfl) (.other _ rfl rfl) (.other _ rfl rfl) (.other _ rfl rfl) (.other _ rfl rfl) (.other _ rfl rfl) (.other _ rfl rfl) (.other _ rfl rfl) (.other _ rfl rfl) (fun _=>.other _ rfl rfl) (fun _=>.other _ rfl rfl) x
  | []::_::_::_::_=>.other _ rfl rfl
  | [x]::b::d::e::f=>lit (P:=fun x=>Form ([x]::b::d::e::f)) (.other _ rfl rfl) (.other _ rfl rfl) (.other _ rfl rfl) (.other _ rfl rfl) (.other _ rfl rfl) (.other _ rfl rfl) (.other _ rfl rfl) (.other _ rfl rfl) (.other _ rfl rfl) (.other _ rfl rfl) (.other _ rfl rfl) (fun _=>.other _ rfl rfl) (fun _=>.other _ rfl rfl) x
  | [x,y]::b::d::e::f=>lit (P:=fun x=>Form ([x,y]::b::d::e::f)) (.other _ rfl rfl) (.other _ rfl rfl) (.other _ rfl rfl) (.other _ rfl rfl) (.other _ rfl rfl) (.other _ rfl rfl) (.other _ rfl rfl) (.other _ rfl rfl) (.other _ rfl rfl) (.other _ rfl rfl) (.other _ rfl rfl) (fun _=>.other _ rfl rfl) (fun _=>.other _ rfl rfl) x
  | [x,y,z]::b::d::e::f=>lit (P:=fun x=>Form ([x,y,z]::b::d::e::f)) (.other _ rfl rfl) (.other _ rfl rfl) (.other _ rfl rfl) (.other _ rfl rfl) (.other _ rfl rfl) (.other _ rfl rfl) (.other _ rfl rfl) (.other _ rfl rfl) (.other _ rfl rfl) (.other _ rfl rfl) (.other _ rfl rfl) (fun _=>.other _ rfl rfl) (fun _=>.other _ rfl rfl) x
  | (x::y::z::u::v)::b::d::e::f=>lit (P:=fun x=>Form ((x::y::z::u::v)::b::d::e::f)) (.other _ rfl rfl) (.other _ rfl rfl) (.other _ rfl rfl) (.other _ rfl rfl) (.other _ rfl rfl) (.other _ rfl rfl) (.other _ rfl rfl) (.other _ rfl rfl) (.other _ rfl rfl) (.other _ rfl rfl) (.other _ rfl rfl) (fun _=>.other _ rfl rfl) (fun _=>.other _ rfl rfl) x
theorem AsF (c:List (List Int)):PyWrfirs.whole c=c:=by
  cases AwR c
  case other h _=>exact h
  all_goals rfl
theorem AhE {l:List Int} {cs:List (List (List Int))} (h:PyWrfirs.calls l=some cs):PyFlat.calls PyWrfirs.shape l.length l=some cs:=by
  unfold PyWrfirs.calls at h
  cases e:PyFlat.calls PyWrfirs.shape l.length l with
  | none=>rw [e] at h; cases h
  | some ds =>
    rw [e] at h
    have:=Option.some.inj h
    rw [show PyWrfirs.whole=id from funext AsF,List.map_id] at this
    rw [this]
end FtQ
end
section
set_option autoImplicit false
set_option linter.unusedVariables false
open FtTree FtW
namespace FtS
theorem LX:∀ p:Bytes,before p p=false
  | []=>rfl
  | x::r=>by
    show (decide (x < x) || (x == x && before r r))=false
    rw [LX r]
    simp
theorem LY:∀ {p q r:Bytes},before p q=true→before q r=true→before p r=true
  | p,q,[],_,h2=>by
    cases q <;> cases h2
  | p,[],_::_,h1,_=>by
    cases p <;> cases h1
  | [],_::_,_::_,_,_=>rfl
  | x::p,y::q,z::r,h1,h2=>by
    have g1:(decide (x < y) || (x == y && before p q))=true:=h1
    have g2:(decide (y < z) || (y == z && before q r))=true:=h2
    clear h1 h2
    show (decide (x < z) || (x == z && before p r))=true
    rw [Bool.or_eq_true,decide_eq_true_eq,Bool.and_eq_true,beq_iff_eq] at g1 g2 ⊢
    rcases g1 with g1 | ⟨e1,g1⟩
    · rcases g2 with g2 | ⟨e2,g2⟩
      · exact .inl (UInt8.lt_trans g1 g2)
      · exact .inl (e2 ▸ g1)
    · rcases g2 with g2 | ⟨e2,g2⟩
      · exact .inl (e1 ▸ g2)
      · exact .inr ⟨e1.trans e2,LY g1 g2⟩
theorem RD:∀ {p q:Bytes},before p q=false→p=q∨before q p=true
  | [],[],_=>.inl rfl
  | _::_,[],_=>.inr rfl
  | [],_::_,h=>by cases h
  | x::p,y::q,h=>by
    have h:(decide (x < y) || (x == y && before p q))=false:=h
    rw [Bool.or_eq_false_iff,decide_eq_false_iff_not,Bool.and_eq_false_iff] at h
    obtain ⟨h1,h2⟩:=h
    by_cases e:x=y
    · subst e
      have h2:before p q=false:=h2.resolve_left (by simp)
      rcases RD h2 with z | z
      · exact .inl (by rw [z])
      · right
        show (decide (x < x) || (x == x && before q p))=true
        rw [z]; simp
    · right
      show (decide (y < x) || (y == x && before q p))=true
      have:y < x:=by
        rw [UInt8.lt_iff_toNat_lt] at h1 ⊢
        have:x.toNat≠y.toNat:=fun q=>e (UInt8.toNat_inj.mp q)
        omega
      rw [decide_eq_true this]; rfl
theorem W6 {p q:Bytes} (h:before p q=true):before q p=false:=by
  cases e:before q p with
  | false=>rfl
  | true=>have:=LY h e; rw [LX] at this; cases this
abbrev Row:=Bytes × Node
def Lt (a b:Row):Prop:=before a.1 b.1=true
theorem P7 (x:Row):∀ l:List Row,(FtTree.insert x l).Perm (x::l)
  | []=>.refl _
  | y::l=>by
    unfold FtTree.insert
    split
    · exact .refl _
    · exact ((P7 x l).cons y).trans (.swap x y l)
theorem Rt (x:Row):∀ {l:List Row},l.Pairwise Lt→(∀ y ∈ l,y.1≠x.1)→(FtTree.insert x l).Pairwise Lt
  | [],_,_=>by
    show [x].Pairwise Lt
    simp
  | y::l,h,hn=>by
    unfold FtTree.insert
    rw [List.pairwise_cons] at h
    split
    · rename_i hb
      rw [List.pairwise_cons]
      refine ⟨fun z hz=>?_,List.pairwise_cons.mpr h⟩
      rcases List.mem_cons.mp hz with e | e
      · rw [e]; exact hb
      · exact LY hb (h.1 z e)
    · rename_i hb
      have hb:before x.1 y.1=false:=by simpa using hb
      have hyx:before y.1 x.1=true:=(RD hb).resolve_left (fun z=>hn y (List.mem_cons_self ..) z.symm)
      rw [List.pairwise_cons]
      refine ⟨fun z hz=>?_,Rt x h.2 (fun z hz=>hn z (List.mem_cons_of_mem _ hz))⟩
      rcases List.mem_cons.mp ((P7 x l).mem_iff.mp hz) with e | e
      · rw [e]; exact hyx
      · exact h.1 z e
theorem Xb (l:List Row):(l.foldr FtTree.insert []).Perm l:=by
  induction l with
  | nil=>exact .refl _
  | cons x l ih=>exact (P7 x _).trans (ih.cons x)
theorem Vm:∀ {l:List Row},(l.map (·.1)).Nodup→(l.foldr FtTree.insert []).Pairwise Lt
  | [],_=>by simp
  | x::l,nd=>by
    rw [List.map_cons,List.nodup_cons] at nd
    refine Rt x (Vm nd.2) (fun y hy e=>nd.1 ?_)
    rw [← e]
    exact List.mem_map_of_mem (f:=(·.1)) ((Xb l).mem_iff.mp hy)
theorem IE (w:World):(sorted w).Perm w.nodes:=Xb _
theorem AdG {w:World} (W:WF w):(sorted w).Pairwise Lt:=Vm W.nd
theorem T6 {α:Type} {R:α→α→Prop} (irr:∀ a,¬ R a a) (asym:∀ a b,R a b→¬ R b a):∀ {l m:List α},l.Pairwise R→m.Pairwise R→l.Perm m→l=m
  | [],m,_,_,h=>(h.nil_eq)
  | a::l,[],_,_,h=>by cases h.length_eq
  | a::l,b::m,hl,hm,h=>by
    rw [List.pairwise_cons] at hl hm
    have e:a=b:=by
      have ha:=h.mem_iff.mp (List.mem_cons_self (a:=a) (l:=l))
      have hb:=h.mem_iff.mpr (List.mem_cons_self (a:=b) (l:=m))
      rcases List.mem_cons.mp ha with z | z
      · exact z
      · rcases List.mem_cons.mp hb with y | y
        · exact y.symm
        · exact absurd (hl.1 b y) (asym _ _ (hm.1 a z))
    subst e
    rw [T6 irr asym hl.2 hm.2 (List.Perm.cons_inv h)]
theorem ApW {w:World} (W:WF w) {l:List Bytes} (hp:l.Perm (w.nodes.map (·.1))) (hs:l.Pairwise fun a b=>before a b=true):l=(sorted w).map (·.1):=by
  refine T6 (R:=fun a b=>before a b=true) (fun a h=>by rw [LX] at h; cases h) (fun a b h h'=>by rw [W6 h] at h'; cases h') hs ?_ (hp.trans ((IE w).map _).symm)
  rw [List.pairwise_map]
  exact AdG W
theorem T5 {w:World} {x:Row}:x ∈ sorted w↔x ∈ w.nodes:=(IE w).mem_iff
theorem AmB (w:World):(sorted w).length=w.nodes.length:=(IE w).length_eq
theorem AbJ {w:World} (W:WF w) {x:Row} (h:x ∈ sorted w):val w.nodes x.1=some x.2:=DA W.nd (T5.mp h)
def itz (p:Bytes):List Int:=p.map fun c=>(c.toNat:Int)
theorem ints_lt:∀ (p q:Bytes),before p q=match p,q with
    | _,[]=>false
    | [],_::_=>true
    | x::r,y::s=>if x=y then before r s else decide ((x.toNat:Int) < (y.toNat:Int))
  | _,[]=>by unfold before; rfl
  | [],_::_=>rfl
  | x::r,y::s=>by
    show (decide (x < y) || (x == y && before r s))=_
    dsimp only
    by_cases e:x=y
    · subst e
      rw [if_pos rfl]; simp
    · rw [if_neg e]
      have:(x == y)=false:=by simpa using e
      rw [this,Bool.false_and,Bool.or_false]
      rw [Bool.eq_iff_iff,decide_eq_true_eq,decide_eq_true_eq,UInt8.lt_iff_toNat_lt]
      omega
end FtS
end
section
set_option autoImplicit false
set_option linter.unusedVariables false
open FtTree FtW FtM FtQ FtS
namespace FtT
theorem Af7 (b:Bytes):(Wrfirs.numsOf b).map WrfirsNeutral.n=itz b:=by
  unfold Wrfirs.numsOf itz
  rw [List.map_map]; rfl
theorem Asi (s:Bytes):WrfirsNeutral.step s [[1]]=([],[0]):=rfl
theorem AgI (s:Bytes) (b:List Int):WrfirsNeutral.step s [[2],b]=(s++bytes b,[0,((mOf (s++bytes b)).code:Int),((mOf (s++bytes b)).place:Int)]):=by
  show (s++bytes b,WrfirsNeutral.told (.nums (0::Wrfirs.faultOf (s++bytes b))))=_
  rw [AhX]; rfl
def S3 (m:M):Bool:=m.code == 0 && m.phase == 0
theorem AjK (s:Bytes):WrfirsNeutral.step s [[3]]=(s,[0,((mOf s).code:Int),((mOf s).place:Int),if S3 (mOf s)=true then 1 else 0,((mOf s).w.nodes.length:Int),((mOf s).w.total:Int)]):=by
  show (s,WrfirsNeutral.told (.nums (0::(Wrfirs.faultOf s++[Wrfirs.bit ((outcome s).fault.isNone && (outcome s).closed),(outcome s).world.nodes.length,(outcome s).world.total]))))=_
  rw [AhX,AvD,Kc]
  show (s,[0,((mOf s).code:Int),((mOf s).place:Int),((Wrfirs.bit (S3 (mOf s)):Nat):Int),((mOf s).w.nodes.length:Int),((mOf s).w.total:Int)])=_
  unfold Wrfirs.bit
  cases S3 (mOf s) <;> rfl
def kindAt (w:World) (p:Bytes):Nat:=((val w.nodes p).map FtW.kindNo).getD 0
theorem Aos (s:Bytes) (p:List Int):WrfirsNeutral.step s [[4],p]=(s,[0,(kindAt (mOf s).w (bytes p):Int)]):=by
  show (s,[0,((Wrfirs.kindNo ((outcome s).world.at_ (bytes p)):Nat):Int)])=_
  rw [Kc,Ej]
  unfold kindAt
  cases val (mOf s).w.nodes (bytes p) with
  | none=>rfl
  | some n=>cases n <;> rfl
def KP (w:World) (p:Bytes) (f:Bytes→List Int):List Int:=match val w.nodes p with
  | none=>[-1]
  | some .dir=>[-2]
  | some (.link t)=>f t
  | some (.file i)=>f (w.bytes i)
theorem Ad9 (s p:Bytes) (f:Bytes→List Nat):WrfirsNeutral.told (Wrfirs.ofText s p f)=KP (mOf s).w p fun b=>(f b).map WrfirsNeutral.n:=by
  unfold Wrfirs.ofText Wrfirs.text KP
  rw [Kc,Ej]
  cases val (mOf s).w.nodes p with
  | none=>rfl
  | some n=>cases n <;> rfl
theorem Aow (s:Bytes) (p:List Int):WrfirsNeutral.step s [[5],p]=(s,KP (mOf s).w (bytes p) fun b=>[0,(b.length:Int)]):=by
  show (s,WrfirsNeutral.told (Wrfirs.ofText s (bytes p) fun b=>[0,b.length]))=_
  rw [Ad9]; rfl
theorem Aou (s:Bytes) (a k:Int) (p:List Int):WrfirsNeutral.step s [[6,a,k],p]=(s,KP (mOf s).w (bytes p) fun b=>0::itz ((b.drop a.toNat).take k.toNat)):=by
  show (s,WrfirsNeutral.told (Wrfirs.ofText s (bytes p) fun b=>0::Wrfirs.numsOf ((b.drop a.toNat).take k.toNat)))=_
  rw [Ad9]
  simp only [List.map_cons,Af7]
  rfl
def IL (w:World) (p:Bytes):Option Nat:=val (holdersOf w) p
theorem Qr {w:World} (W:WF w) (p:Bytes):IL w p=(val w.nodes p).bind fileOf:=val_sub W.nd p
theorem Aov (s:Bytes) (p q:List Int):WrfirsNeutral.step s [[7],p,q]=(s,[0,if (IL (mOf s).w (bytes p)).isSome=true∧IL (mOf s).w (bytes p)=IL (mOf s).w (bytes q) then 1 else 0]):=by
  rw [Qr (S2 s).wf,Qr (S2 s).wf]
  show (s,WrfirsNeutral.told (.nums [0,match (outcome s).world.at_ (bytes p),(outcome s).world.at_ (bytes q) with
    | some (.file i),some (.file j)=>Wrfirs.bit (i == j)
    | _,_=>0]))=_
  rw [Kc,Ej,Ej]
  cases val (mOf s).w.nodes (bytes p) with
  | none=>rfl
  | some n =>
    cases n with
    | dir=>rfl
    | link t=>rfl
    | file i =>
      cases val (mOf s).w.nodes (bytes q) with
      | none=>simp [fileOf]; rfl
      | some m =>
        cases m with
        | dir=>simp [fileOf]; rfl
        | link t=>simp [fileOf]; rfl
        | file j =>
          by_cases h:i=j
          · subst h; simp [fileOf,Wrfirs.bit]; rfl
          · simp [fileOf,Wrfirs.bit,h]; rfl
def BQ (w:World):List Bytes:=(sorted w).map (·.1)
theorem Aot (s:Bytes) (p:List Int):WrfirsNeutral.step s [[8],p]=(s,match (BQ (mOf s).w).find? (before (bytes p)) with
    | some q=>0::itz q
    | none=>[-1]):=by
  show (s,WrfirsNeutral.told (match (sorted (outcome s).world).find? (fun x=>before (bytes p) x.1) with
    | some x=>.nums (0::Wrfirs.numsOf x.1)
    | none=>.no (-1)))=_
  rw [Kc]
  unfold BQ
  rw [List.find?_map]
  show (s,WrfirsNeutral.told (match (sorted (mOf s).w).find? ((before (bytes p)) ∘ fun x=>x.1) with
    | some x=>.nums (0::Wrfirs.numsOf x.1)
    | none=>.no (-1)))=_
  cases (sorted (mOf s).w).find? ((before (bytes p)) ∘ fun x=>x.1) with
  | none=>rfl
  | some x =>
    show (s,WrfirsNeutral.told (.nums (0::Wrfirs.numsOf x.1)))=(s,0::itz x.1)
    rw [← Af7]; rfl
def CN (w:World) (i:Nat):List Bytes:=(BQ w).filter fun p=>decide (IL w p=some i)
theorem Abl {w:World} (W:WF w) (i:Nat):Wrfirs.namesOf w i=CN w i:=by
  unfold Wrfirs.namesOf CN BQ
  rw [List.filter_map]
  congr 1
  apply List.filter_congr
  intro x hx
  show (x.2 == Node.file i)=decide (IL w x.1=some i)
  rw [Qr W,AbJ W hx]
  show _=decide (fileOf x.2=some i)
  by_cases h:x.2=.file i
  · rw [h]; simp [fileOf]
  · have : ¬ fileOf x.2=some i:=fun q=>h (WJ.mp q)
    simp [h,this]
theorem AjJ (s:Bytes) (p:List Int):WrfirsNeutral.step s [[9],p]=(s,match val (mOf s).w.nodes (bytes p) with
    | none=>[-1]
    | some (.file i)=>0::(CN (mOf s).w i).flatMap fun q=>(q.length:Int)::itz q
    | some _=>[-2]):=by
  show (s,WrfirsNeutral.told (match (outcome s).world.at_ (bytes p) with
    | none=>.no (-1)
    | some (.file i)=>.nums (0::(Wrfirs.namesOf (outcome s).world i).flatMap fun q=>q.length::Wrfirs.numsOf q)
    | some _=>.no (-2)))=_
  rw [Kc,Ej]
  cases val (mOf s).w.nodes (bytes p) with
  | none=>rfl
  | some n =>
    cases n with
    | dir=>rfl
    | link t=>rfl
    | file i =>
      show (s,WrfirsNeutral.told (.nums (0::(Wrfirs.namesOf (mOf s).w i).flatMap fun q=>q.length::Wrfirs.numsOf q)))=(s,0::(CN (mOf s).w i).flatMap fun q=>(q.length:Int)::itz q)
      rw [Abl (S2 s).wf]
      show (s,(0:Int)::((CN (mOf s).w i).flatMap fun q=>q.length::Wrfirs.numsOf q).map WrfirsNeutral.n)=_
      rw [List.map_flatMap]
      congr 2
      congr 1
      funext q
      rw [List.map_cons,Af7]; rfl
theorem AjL (s:Bytes):WrfirsNeutral.step s [[10]]=(s,0::itz (write (mOf s).w)):=by
  show (s,WrfirsNeutral.told (.nums (0::Wrfirs.numsOf (write (outcome s).world))))=_
  rw [Kc,← Af7]; rfl
def FV (seen:List Nat):List (Nat × Nat):=seen.zipIdx.map fun x=>(x.1,x.2 + 1)
theorem Ao7 (i:Nat):∀ (seen:List Nat) (k:Nat),val ((seen.zipIdx k).map fun x=>(x.1,x.2 + 1)) i=(seen.findIdx? fun j=>j == i).map fun j=>j + k + 1
  | [],_=>rfl
  | a::seen,k=>by
    rw [List.zipIdx_cons,List.map_cons,BV,List.findIdx?_cons,Ao7 i seen (k + 1)]
    dsimp only
    by_cases h:a=i
    · subst h; simp
    · have:(a == i)=false:=by simpa using h
      rw [if_neg h,this]
      cases seen.findIdx? fun j=>j == i with
      | none=>rfl
      | some j=>simp; omega
theorem Ak3 (seen:List Nat) (i:Nat):val (FV seen) i=(seen.findIdx? fun j=>j == i).map fun j=>j + 1:=Ao7 i seen 0
theorem Aj6 (seen:List Nat):(FV seen).length=seen.length:=by
  unfold FV; rw [List.length_map,List.length_zipIdx]
theorem Xc {seen:List Nat} {i:Nat} (h:val (FV seen) i=none):put (FV seen) i (seen.length + 1)=FV (seen++[i]):=by
  rw [Fw h]
  unfold FV
  rw [List.zipIdx_append,List.map_append]
  simp
def count (w:World) (i:Nat):Nat:=((holdersOf w).filter fun x=>decide (x.2=i)).length
theorem count_eq (w:World) (i:Nat):(w.nodes.filter fun x=>x.2 == .file i).length=count w i:=by
  unfold count holdersOf
  generalize w.nodes=l
  induction l with
  | nil=>rfl
  | cons x l ih =>
    rw [FH,List.filter_cons]
    obtain ⟨p,n⟩:=x
    cases n with
    | dir=>simpa [fileOf] using ih
    | link t=>simpa [fileOf] using ih
    | file j =>
      simp only [fileOf]
      rw [List.filter_cons]
      by_cases h:j=i
      · subst h; simpa using ih
      · simpa [h] using ih
theorem Ajo {w:World} (W:WF w) (i:Nat):(CN w i).length=count w i:=by
  rw [← count_eq,← Abl W]
  unfold Wrfirs.namesOf
  rw [List.length_map]
  exact ((IE w).filter _).length_eq
def itemAt (w:World) (seen:List Nat) (p:Bytes):Bytes × List Nat:=match val w.nodes p with
  | none=>([],seen)
  | some .dir=>(writeItem 0 0x41ED 2 p [],seen)
  | some (.link t)=>(writeItem 0 0xA1FF 1 p t,seen)
  | some (.file i)=>match val (FV seen) i with
    | some k=>(writeItem k 0x81A4 (count w i) p [],seen)
    | none=>(writeItem (seen.length + 1) 0x81A4 (count w i) p (w.bytes i),seen++[i])
def itemsOf (w:World):List Bytes→List Nat→Bytes
  | [],_=>[]
  | p::r,seen=>(itemAt w seen p).1++itemsOf w r (itemAt w seen p).2
theorem Ait {w:World} (W:WF w):∀ (l:List Row) (seen:List Nat),(∀ x ∈ l,x ∈ sorted w)→writeAll w l seen=itemsOf w (l.map (·.1)) seen
  | [],_,_=>rfl
  | (p,n)::r,seen,h=>by
    have hv:=AbJ W (h _ (List.mem_cons_self ..))
    have ih:=fun seen=>Ait W r seen fun x hx=>h x (List.mem_cons_of_mem _ hx)
    show _=(itemAt w seen p).1++itemsOf w (r.map (·.1)) (itemAt w seen p).2
    unfold itemAt
    rw [show val w.nodes p=some n from hv]
    cases n with
    | dir=>rw [← ih]; rfl
    | link t=>rw [← ih]; rfl
    | file i =>
      unfold writeAll
      dsimp only
      rw [Ak3,count_eq]
      cases seen.findIdx? fun j=>j == i with
      | none=>dsimp only [Option.map_none]; rw [ih]
      | some j=>dsimp only [Option.map_some]; rw [ih]
theorem Ak4 {w:World} (W:WF w):write w=itemsOf w (BQ w) []++writeItem 0 0 1 TRAILER []:=by
  unfold write BQ
  rw [Ait W (sorted w) [] fun x h=>h]
theorem Wo {w:World} {p:Bytes}:p ∈ BQ w↔(val w.nodes p).isSome=true:=by
  unfold BQ
  constructor
  · intro h
    obtain ⟨x,hx,e⟩:=List.mem_map.mp h
    cases q:val w.nodes p with
    | some _=>rfl
    | none=>exact absurd e (Qh.mp q x (T5.mp hx))
  · intro h
    obtain ⟨n,hn⟩:=Option.isSome_iff_exists.mp h
    exact List.mem_map.mpr ⟨(p,n),T5.mpr (Ht hn),rfl⟩
theorem LC (w:World):(BQ w).length=w.nodes.length:=by
  unfold BQ; rw [List.length_map,AmB]
end FtT
end
section
set_option autoImplicit false
set_option linter.unusedVariables false
open FtTree FtW FtM FtQ FtS FtT
namespace FtU
theorem Aru {α:Type} (f:α→Nat):∀ {l:List α} {x:α},x ∈ l→f x≤FtTree.sum (l.map f)
  | [],_,h=>by cases h
  | y::l,x,h=>by
    rw [List.map_cons,sum_cons]
    rcases List.mem_cons.mp h with e | e
    · subst e; exact Nat.le_add_right _ _
    · exact Nat.le_trans (Aru f e) (Nat.le_add_left _ _)
theorem Zm {w:World} (W:WF w) {p:Bytes} {i:Nat} (h:val w.nodes p=some (.file i)):(w.bytes i).length≤600:=by
  have ha:w.alive i=true:=Eu.mpr ⟨p,Ht h⟩
  have:=Aru (fun x:Nat × Bytes=>x.2.length) (UZ.mpr ⟨W.JC ha,ha,rfl⟩)
  rw [← AjY] at this
  exact Nat.le_trans this W.tot
theorem strict {ps qs:List Bytes} (hp:qs.Perm ps) (nd:ps.Nodup) (hs:qs.Pairwise fun x y=>before y x=false):qs.Pairwise fun x y=>before x y=true:=by
  have nd2:qs.Nodup:=hp.nodup_iff.mpr nd
  refine List.Pairwise.imp₂ (R:=fun x y=>before y x=false) (S:=fun x y=>x≠y) (T:=fun x y=>before x y=true) ?_ hs nd2
  intro a b h1 h2
  rcases RD h1 with e | e
  · exact absurd e.symm h2
  · exact e
theorem Aom {w:World} (W:WF w) {x:Row} (h:x ∈ w.nodes):x.1≠[]:=by
  intro e
  have:=W.BQ x h
  rw [e] at this
  revert this; decide
theorem OQ (i:Nat):∀ l:List Row,((sub fileOf l).filter fun x=>decide (x.2=i)).map (·.1)=(l.filter fun x=>decide (fileOf x.2=some i)).map (·.1)
  | []=>rfl
  | x::l=>by
    have ih:=OQ i l
    rw [FH,List.filter_cons]
    obtain ⟨p,n⟩:=x
    cases n with
    | dir=>simpa [fileOf] using ih
    | link t=>simpa [fileOf] using ih
    | file j =>
      show (((p,j)::sub fileOf l).filter _).map _=_
      rw [List.filter_cons]
      by_cases h:j=i
      · subst h
        rw [if_pos (by simp),if_pos (by simp [fileOf]),List.map_cons,List.map_cons,ih]
      · rw [if_neg (by simp [h]),if_neg (by simp [fileOf,h]),ih]
theorem Ajp {w:World} (W:WF w) (i:Nat) {qs:List Bytes} (hp:qs.Perm (((holdersOf w).filter fun x=>decide (x.2=i)).map (·.1))) (hs:qs.Pairwise fun x y=>before y x=false):qs=CN w i:=by
  have e1:((holdersOf w).filter fun x=>decide (x.2=i)).map (·.1)=(w.nodes.map (·.1)).filter fun p=>decide (IL w p=some i):=by
    unfold holdersOf
    rw [OQ,List.filter_map]
    congr 1
    apply List.filter_congr
    intro x hx
    show _=decide (IL w x.1=some i)
    rw [Qr W,DA W.nd hx]; rfl
  have nd:(((holdersOf w).filter fun x=>decide (x.2=i)).map (·.1)).Nodup:=by
    rw [e1]; exact W.nd.sublist List.filter_sublist
  have h1:=strict hp nd hs
  refine T6 (R:=fun a b=>before a b=true) (fun a h=>by rw [LX] at h; cases h) (fun a b h h'=>by rw [W6 h] at h'; cases h') h1 ?_ ?_
  · unfold CN BQ
    refine List.Pairwise.sublist List.filter_sublist ?_
    rw [List.pairwise_map]
    exact AdG W
  · rw [e1] at hp
    unfold CN BQ
    exact hp.trans (((IE w).map _).filter _).symm
theorem Agf {w:World} (W:WF w) {qs:List Bytes} (hp:qs.Perm (w.nodes.map (·.1))) (hs:qs.Pairwise fun x y=>before y x=false):qs=BQ w:=ApW W hp (strict hp W.nd hs)
theorem Afi {n:Nat} (h:n < 16):((hexDigit n).toNat:Int)=if (n:Int) < 10 then (n:Int) + 48 else (n:Int) + 55:=by
  unfold hexDigit
  rw [UInt8.toNat_ofNat']
  by_cases h1:n < 10
  · rw [if_pos h1,if_pos (by omega)]; omega
  · rw [if_neg h1,if_neg (by omega)]; omega
def low (n:Nat):Nat→Bytes
  | 0=>[]
  | k + 1=>hexDigit (n % 16)::low (n / 16) k
theorem Arw (k:Nat):∀ n:Nat,low n (k + 1)=low n k++[hexDigit (n / 16 ^ k % 16)]:=by
  induction k with
  | zero=>intro n; simp [low]
  | succ k ih =>
    intro n
    show hexDigit (n % 16)::low (n / 16) (k + 1)=(hexDigit (n % 16)::low (n / 16) k)++_
    rw [ih,Nat.div_div_eq_div_mul,Nat.pow_succ,Nat.mul_comm (16 ^ k) 16]; rfl
theorem Aoe (k:Nat):∀ n:Nat,(low n k).length=k:=by
  induction k with
  | zero=>intro n; rfl
  | succ k ih=>intro n; show (low (n / 16) k).length + 1=k + 1; rw [ih]
theorem At4 (n:Nat):(low n 8).reverse=hex8 n:=by
  simp only [low,List.nil_append,List.reverse_cons,List.reverse_nil,List.cons_append]
  unfold hex8
  simp [List.range,List.range.loop,Nat.div_div_eq_div_mul]
theorem Aij (n:Nat):(hex8 n).length=8:=by simp [hex8]
def JT (serial mode names size length:Nat):List Nat:=[serial,mode,0,0,names,0,size,0,0,0,0,length,0]
def Ib (l:List Nat):Bytes:=MAGIC++l.flatMap hex8
theorem Afh (l:List Nat) (n:Nat):Ib (l++[n])=Ib l++hex8 n:=by
  unfold Ib
  rw [List.flatMap_append,List.append_assoc]; simp
theorem OP (l:List Nat):(Ib l).length=6 + 8 * l.length:=by
  unfold Ib
  rw [List.length_append,List.length_flatMap]
  have:(l.map fun a=>(hex8 a).length).sum=8 * l.length:=by
    induction l with
    | nil=>rfl
    | cons a l ih=>rw [List.map_cons,List.sum_cons,ih,Aij,List.length_cons]; omega
  rw [this]
  rfl
theorem Vt (serial mode names:Nat) (p data:Bytes):writeItem serial mode names p data=(((Ib (JT serial mode names data.length (p.length + 1))++p)++[0])++zeros (padding (110 + (p.length + 1))))++data++zeros (padding data.length):=by
  unfold writeItem Ib JT
  simp [List.flatMap]
theorem Qy (n:Nat):(zeros n).length=n:=by simp [zeros]
theorem Age (n:Nat):padding n≤3:=by unfold padding; omega
theorem E8 (serial mode names:Nat) (p data:Bytes):(writeItem serial mode names p data).length≤p.length + data.length + 117:=by
  rw [Vt]
  simp only [List.length_append,OP,Qy]
  have h1:=Age (110 + (p.length + 1))
  have h2:=Age data.length
  show 6 + 8 * 13 + _ + 1 + _ + _ + _≤_
  omega
end FtU
end
section
set_option autoImplicit false
set_option linter.unusedVariables false
open FtTree FtW FtM FtQ FtS FtT
namespace FtV
def Bk (rs:List (List Int)):List Int:=rs.flatMap fun r=>(r.length:Int)::r
def flat:List (List Int)→List Int
  | []=>[]
  | h::rs=>h++Bk rs
theorem AdF:∀ {k:Nat} {r:List Int} {xs:List (List Int)} {t:List Int},PyFlat.rows k r=some (xs,t)→r=Bk xs++t
  | 0,r,xs,t,h=>by
    obtain ⟨rfl,rfl⟩:=Aqd h
    rfl
  | k + 1,r,xs,t,h=>by
    obtain ⟨x,s,ys,h1,h2,rfl⟩:=Aqc h
    obtain ⟨j,r',rfl,hj,rfl,rfl⟩:=ArK h1
    have ih:=AdF h2
    show _=(((r'.take j).length:Int)::r'.take j)++Bk ys++t
    rw [List.append_assoc,← ih,List.cons_append,List.take_append_drop,List.length_take,Nat.min_eq_left hj]
theorem AkZ {f:Nat} {l:List Int} {c:List (List Int)} {cs:List (List (List Int))} (h:PyFlat.calls PyWrfirs.shape f l=some (c::cs)):∃ f' t,l=flat c++t∧PyFlat.calls PyWrfirs.shape f' t=some cs:=by
  cases l with
  | nil=>cases (Adx h)
  | cons p r =>
    obtain ⟨f',d,t,ds,h1,h2,e⟩:=Zu h
    rw [List.cons.injEq] at e
    obtain ⟨rfl,rfl⟩:=e
    obtain ⟨n,k,xs,_,hn,h3,rfl⟩:=Ape h1
    refine ⟨f',t,?_,h2⟩
    have:=AdF h3
    show p::r=(p::r.take n)++Bk xs++t
    rw [List.append_assoc,← this,List.cons_append,List.take_append_drop]
def inB (r:List Int):Prop:=∀ z ∈ r,Al2 z
theorem Gk {c:List (List Int)} (h:WrfirsNeutral.asked1 c=true) :
    c=[[1]]∨(∃ b,c=[[2],b]∧inB b)∨c=[[3]]∨(∃ b,c=[[4],b]∧inB b)∨(∃ b,c=[[5],b]∧inB b)∨(∃ (a k:Nat) (b:List Int),c=[[6,(a:Int),(k:Int)],b]∧a≤1000000∧k≤1000000∧inB b) ∨
    (∃ b d,c=[[7],b,d]∧inB b∧inB d)∨(∃ b,c=[[8],b]∧inB b)∨(∃ b,c=[[9],b]∧inB b)∨c=[[10]]:=by
  cases AwR c
  case other h1=>rw [h1] at h; cases h
  case c1=>exact .inl rfl
  case c2=>exact .inr (.inl ⟨_,rfl,Ip h⟩)
  case c3=>exact .inr (.inr (.inl rfl))
  case c4=>exact .inr (.inr (.inr (.inl ⟨_,rfl,Ip h⟩)))
  case c5=>exact .inr (.inr (.inr (.inr (.inl ⟨_,rfl,Ip h⟩))))
  case c6 a k b =>
    have h:(WrfirsNeutral.num a && (WrfirsNeutral.num k && b.all WrfirsNeutral.byte))=true:=h
    rw [Bool.and_eq_true,Bool.and_eq_true] at h
    obtain ⟨ha,hk,hb⟩:=h
    unfold WrfirsNeutral.num at ha hk
    rw [Bool.and_eq_true,decide_eq_true_eq,decide_eq_true_eq] at ha hk
    refine .inr (.inr (.inr (.inr (.inr (.inl ⟨a.toNat,k.toNat,b,?_,by omega,by omega,Ip hb⟩)))))
    rw [Int.toNat_of_nonneg ha.1,Int.toNat_of_nonneg hk.1]
  case c7 b d =>
    have h:(b.all WrfirsNeutral.byte && d.all WrfirsNeutral.byte)=true:=h
    rw [Bool.and_eq_true] at h
    exact .inr (.inr (.inr (.inr (.inr (.inr (.inl ⟨_,_,rfl,Ip h.1,Ip h.2⟩))))))
  case c8=>exact .inr (.inr (.inr (.inr (.inr (.inr (.inr (.inl ⟨_,rfl,Ip h⟩)))))))
  case c9=>exact .inr (.inr (.inr (.inr (.inr (.inr (.inr (.inr (.inl ⟨_,rfl,Ip h⟩))))))))
  case c10=>exact .inr (.inr (.inr (.inr (.inr (.inr (.inr (.inr (.inr rfl))))))))
structure Go (l:List Int) (i:Nat) (acc:List Int) (s:Bytes) (cs:List (List (List Int))):Prop where
  le:i≤l.length
  calls:∃ f,PyFlat.calls PyWrfirs.shape f (l.drop i)=some cs
  asked:∀ c ∈ cs,WrfirsNeutral.asked1 c=true
  room:s.length + (cs.map WrfirsNeutral.bytesIn).sum≤8000
  few:cs.length≤40
  due:acc++PyFlat.told (PyFlat.played WrfirsNeutral.step s cs)=PyWrfirs.answers l
theorem Ard {l:List Int} (h:PyWrfirs.answers_asked l=true):∃ cs,Go l 0 [] [] cs:=by
  unfold PyWrfirs.answers_asked at h
  cases e:PyWrfirs.calls l with
  | none=>rw [e] at h; cases h
  | some cs =>
    rw [e] at h
    dsimp only at h
    unfold WrfirsNeutral.asked at h
    rw [Bool.and_eq_true,Bool.and_eq_true,Bool.and_eq_true,decide_eq_true_eq,decide_eq_true_eq] at h
    refine ⟨cs,Nat.zero_le _,⟨l.length,AhE e⟩,List.all_eq_true.mp h.2.1,?_,h.2.2.1,?_⟩
    · rw [List.length_nil,Nat.zero_add]; exact h.2.2.2
    · unfold PyWrfirs.answers
      rw [e]; rfl
theorem Avr {l acc:List Int} {i:Nat} {s:Bytes} {cs:List (List (List Int))} (G:Go l i acc s cs) (h:l.length≤i):acc=PyWrfirs.answers l:=by
  obtain ⟨f,hc⟩:=G.calls
  rw [List.drop_eq_nil_of_le h] at hc
  have:=Adx hc
  subst this
  rw [← G.due]
  exact (List.append_nil _).symm
theorem Asp (s:Bytes) {c:List (List Int)} (h:WrfirsNeutral.asked1 c=true):(WrfirsNeutral.step s c).1.length≤s.length + WrfirsNeutral.bytesIn c:=by
  rcases Gk h with rfl | ⟨b,rfl,_⟩ | rfl | ⟨b,rfl,_⟩ | ⟨b,rfl,_⟩ | ⟨a,k,b,rfl,_⟩ | ⟨b,d,rfl,_⟩ | ⟨b,rfl,_⟩ | ⟨b,rfl,_⟩ | rfl
  · exact Nat.zero_le _
  · rw [AgI]
    show (s++bytes b).length≤s.length + ([b].map List.length).sum
    rw [List.length_append,Adw]
    simp
  · exact Nat.le_add_right _ _
  · exact Nat.le_add_right _ _
  · exact Nat.le_add_right _ _
  · exact Nat.le_add_right _ _
  · exact Nat.le_add_right _ _
  · exact Nat.le_add_right _ _
  · exact Nat.le_add_right _ _
  · exact Nat.le_add_right _ _
theorem Atf {l acc:List Int} {i:Nat} {s:Bytes} {cs:List (List (List Int))} (G:Go l i acc s cs) (h:i < l.length):∃ c t ds,cs=c::ds∧WrfirsNeutral.asked1 c=true∧l.drop i=flat c++t∧s.length + WrfirsNeutral.bytesIn c≤8000 ∧
    (Go l (i + (flat c).length) (acc++(((WrfirsNeutral.step s c).2.length:Int)::(WrfirsNeutral.step s c).2)) (WrfirsNeutral.step s c).1 ds):=by
  obtain ⟨f,hc⟩:=G.calls
  cases cs with
  | nil =>
    exfalso
    cases e:l.drop i with
    | nil =>
      have:=congrArg List.length e
      rw [List.length_drop,List.length_nil] at this
      omega
    | cons p r =>
      rw [e] at hc
      obtain ⟨_,_,_,_,_,_,q⟩:=Zu hc
      cases q
  | cons c ds =>
    obtain ⟨f',t,e,h2⟩:=AkZ hc
    have hr:=G.room
    rw [List.map_cons,List.sum_cons] at hr
    refine ⟨c,t,ds,rfl,G.asked c (List.mem_cons_self ..),e,by omega,?_⟩
    have hs:=Asp s (G.asked c (List.mem_cons_self ..))
    have hl:=congrArg List.length e
    rw [List.length_drop,List.length_append] at hl
    refine ⟨by omega,⟨f',?_⟩,fun d hd=>G.asked d (List.mem_cons_of_mem _ hd),by omega,?_,?_⟩
    · rw [← List.drop_drop,e,List.drop_left]; exact h2
    · have:=G.few
      rw [List.length_cons] at this
      omega
    · rw [← G.due,List.append_assoc]
      rfl
end FtV
end
section
set_option maxRecDepth 100000
set_option maxHeartbeats 4000000
namespace L2
open PySem PySem.Spec PyProof.Rows
theorem Ak {X:Cx} {x:Str} {i:Int} {pos:Pos} (hm:∃ t,X.mg x=some (.int i t)) (hg:Gl X x:=by rfl) (hd:(x == ("__debug__" : Str))=false:=by decide):PE X (.Name x pos) (tC (.int i)):=by
  obtain ⟨t,e⟩:=hm
  exact YG hg e ⟨t,rfl⟩ hd
theorem Hm {X:Cx} {x:Str} {a:Addr} {pos:Pos} (hm:X.mg x=some (.ref a)) (hg:Gl X x:=by rfl) (hd:(x == ("__debug__" : Str))=false:=by decide):PE X (.Name x pos) (tC (.ref a)):=YG hg hm rfl hd
theorem AlN {prog:Program} {w:World} {κ:Type} [DecidableEq κ] (kd:HeapKind prog w κ) {a:Addr} (ha:(a == sysModules)=false) :
    MeetsIn prog w (Builtin.«dict.__len__» ⟨[.ref a],[]⟩) (fun _ R t=>∃ ys,t.heap.DictOfH kd a ys∧R (.ok (.ret (.int ys.length t.toks))) { t with toks:=t.toks + 1 }) :=
  .of_wp fun _ _ t ⟨ys,⟨_,_,_,g1,_,g2,g3,_,_⟩,fin⟩=>show wpAny _ _ (dictSize a >>= _) _ _ t from wpAny_bind (wpAny_bind (wpAny_dictEntries g1 g2 (wpAny_pure
    (show wpAny _ _ (Builtin.Dict.pendingCount a >>= _) _ _ t from wpAny_bind (wpAny_pendingCount_other ha (wpAny_ret_mkInt (by rw [Nat.add_zero,size_of_entries g3]; exact fin)))))))
theorem ApL {prog:Program} {w:World} {κ:Type} [DecidableEq κ] {kd:HeapKind prog w κ} {A:Around} {E:Value→Shared→Prop} {t:Shared} {a:Addr} {ys:List (κ × Addr × Value)} {Q:Value→Shared→Prop} (ha:(a == sysModules)=false) (hm:t.heap.DictOfH kd a ys) (hf:(ys.length:Int) < 2 ^ 63)
    (fin:Q (.int ys.length (t.toks + 1)) { t with toks:=t.toks + 1 + 1 }):wpAny (model prog w) A (Builtin.«len» ⟨[.ref a],[]⟩) (fun z t'=>∃ r,z=.done (.ret r)∧Q r t') E t:=by
  have low : ¬ ((ys.length:Nat):Int) < 0:=by omega
  have high : ¬ ((ys.length:Nat):Int) ≥ 2 ^ 63:=by omega
  unfold Builtin.«len»
  refine wpAny_bind (m:=oneArg "len" _) (wpAny_pure (wpAny_bind (m:=callSpecial? (.ref a) (Str.ofString "__len__")) (wpAny_callSpecial?_slot (name:=Str.ofString "__len__") hm.typeIs F.slot_dict_len (call_meetsIn F.slot_dict_len hm.typeIs F.entry_dict_len (F.args_dict_len_1 _) (AlN kd ha) ⟨ys,hm,?_⟩))))
  show wpAny _ _ _ _ _ { t with toks:=t.toks + 1 }
  refine wpAny_bind (wpAny_holding (wpAny_pure (wpAny_bind (wpAny_letGo ?_))))
  show wpAny _ _ (if ((ys.length:Nat):Int) < 0 then _ else _) _ _ _
  rw [if_neg low]; show wpAny _ _ (if ((ys.length:Nat):Int) ≥ 2 ^ 63 then _ else _) _ _ _
  rw [if_neg high]; exact wpAny_bind (wpAny_mkInt (wpAny_pure ⟨_,rfl,fin⟩))
theorem Apd {X:Cx}:MO X (.builtin "len") (fun xs H Q=>∃ a kvs,xs=[V.ref a]∧H a=some (.dT kvs)∧Q (.int kvs.length) H):=by
  intro pins s σ H xs us Q I r h
  obtain ⟨a,kvs,rfl,ha,q⟩:=h
  obtain ⟨u,rfl,ru⟩:=vals1 r
  cases ru
  obtain ⟨z,hd,vs,rel,dd⟩:=AqV I.hok ha
  have hl:kvs.length=vs.length:=Paired.length rel
  refine Calls.call_function_entry kind_len plain_len entry_len (args_len1 _) (ApL hd dd (by rw [← hl]; rw [sizeLine_eq] at z; omega) ?_)
  rw [← hl]
  exact ⟨.int kvs.length,H,I.tok _,⟨_,rfl⟩,q⟩
structure KD (K:PySem.W.Frag) (a:Addr) (kvs:List (Key × V)):Prop where
  sys:(a == sysModules)=false
  len:kvs.length≤sizeLine
  at_:∀ (P:Program) (w:World) (h:Heap),K.In h→∃ vs,KV kvs vs∧h.DictOf (C0 P w) a vs
  ty:∀ (s:Shared),K.In s.heap→s.TypeIs (.ref a) "dict"∧∃ o,s.heap.get? a=some o∧o.dict=none
def Asv (kvs:List (Key × V)) (ty:TE):TE:=fun σ H Q=>ty σ H fun y H2=>∃ k,y=kV k∧Q ((Hs kvs k).getD .non) H2
def AmS (kvs:List (Key × V)) (ty:TE):TE:=fun σ H Q=>ty σ H fun y H2=>∃ k v,y=kV k∧Hs kvs k=some v∧Q v H2
section
variable {X:Cx} {e:Expr} {apos cpos npos pos:Pos} {ty:TE} {x:Str} {a:Addr} {kvs:List (Key × V)}
theorem AtQ (D:KD X.K a kvs) (hg:Gl X x) (hm:X.mg x=some (.ref a)) (he:PE X e ty) (m:M1 X (.Name x npos) "get" apos e cpos) (hd:(x == ("__debug__" : Str))=false:=by decide) :
    PE X (.Call (.Attribute (.Name x npos) "get" apos) [e] [] cpos) (Asv kvs ty):=by
  intro pins s σ H Q I h
  have ho:PE X (.Name x npos) (tC (.ref a)):=YG hg hm rfl hd
  refine wpAny_Call_method m.base m.few m.line PySem.F.plainAttrs_dict PySem.F.slot_dict_get PySem.F.type_dict_get (thn (ho pins s σ H (fun v H1=>v=.ref a∧H1=H) I ⟨rfl,rfl⟩) fun u s1 ⟨y,H1,I1,rx,e1,e2⟩=>?_)
  subst e1 e2
  obtain rfl:u=Value.ref a:=rx
  obtain ⟨t1,o,t2,t3⟩:=D.ty s1 I1.kIn
  refine ⟨t1,(fun b q=>by cases q; exact ⟨o,t2,t3⟩),?_⟩
  rw [m.trees]
  refine Calls.callWith_builtin rfl (Calls.evalArgs_plain (Calls.spliced_cons (thn (he pins s1 σ H1 _ I1 h) fun iv s2 ⟨y,H2,I2,ry,k,ek,q2⟩=>Calls.spliced_nil ?_)))
  subst ek
  obtain ⟨vs,rel,dd⟩:=D.at_ X.prog X.w s2.heap I2.kIn
  exact call_meetsIn PySem.F.slot_dict_get dd.typeIs PySem.F.entry_dict_get (PySem.F.args_dict_get_2 _ _) (meets_dict_get (C0 X.prog X.w) a (UL ry) D.sys) ⟨_,dd.mapOf,⟨(Hs kvs k).getD .non,H2,I2.tok _,(rel.val k).getD (d:=.non) rfl,q2⟩⟩
theorem Ar7 (D:KD X.K a kvs) (hg:Gl X x) (hm:X.mg x=some (.ref a)) (he:PE X e ty) (hs:AuM e) (hd:(x == ("__debug__" : Str))=false:=by decide):PE X (.Subscript (.Name x npos) e pos) (AmS kvs ty):=by
  intro pins s σ H Q I h
  have ho:PE X (.Name x npos) (tC (.ref a)):=YG hg hm rfl hd
  refine Aoy PySem.F.slot_dict_getitem.lookup hs (thn (ho pins s σ H (fun v H1=>v=.ref a∧H1=H) I ⟨rfl,rfl⟩) fun u s1 ⟨y,H1,I1,rx,e1,e2⟩=>?_)
  subst e1 e2
  obtain rfl:u=Value.ref a:=rx
  refine thn (he pins s1 σ H1 _ I1 h) fun iv s2 ⟨y,H2,I2,ry,k,v,ek,hv,q2⟩=>?_
  subst ek
  obtain ⟨vs,rel,dd⟩:=D.at_ X.prog X.w s2.heap I2.kIn
  obtain ⟨w',hw,rw'⟩:=Ln.some_of (v:=v) (o:=valueAt vs k) (by rw [← hv]; exact rel.val k)
  exact ⟨dd.typeIs,wpAny_getItem_of (UL ry) dd.mapOf hw ⟨v,H2,I2.tok _,rw',q2⟩⟩
end
def Aa1 (l:List (Int × Int)):List (Key × V):=l.map fun x=>(Sum.inl x.1,V.int x.2)
theorem Atw {K:PySem.W.Frag} {a:Addr} {l:List (Int × Int × Tok × Tok)} {n:Nat} (hs:(a == sysModules)=false) (hn:(l.map (·.1)).Nodup) (hz:l.length≤sizeLine)
    (hk:K.lookup a=some { cls:=.type "dict",dict:=none,data:=.dict (l.map fun x=>⟨hashInt x.1,.int x.1 x.2.2.1,.int x.2.1 x.2.2.2⟩).toArray n,slots:=#[] }):KD K a (Aa1 (l.map fun x=>(x.1,x.2.1))):=by
  refine ⟨hs,by simpa [Aa1] using hz,fun P w h KX=>⟨l.map fun x=>(Sum.inl x.1,.int x.2.1 x.2.2.2),?_,?_⟩,fun s KX=>⟨?_,_,KX a _ hk,rfl⟩⟩
  · clear hk hn hz
    induction l with
    | nil=>exact .nil
    | cons x l ih=>exact .cons ⟨rfl,⟨_,rfl⟩⟩ ih
  · refine ⟨_,_,n,KX a _ hk,⟨rfl,rfl,rfl⟩,rfl,?_,?_,?_⟩
    · intro e he
      rw [List.mem_toArray,List.mem_map] at he
      obtain ⟨x,_,rfl⟩:=he
      exact ⟨Sum.inl x.1,L5 x.1 x.2.2.1,rfl⟩
    · clear hk hn hz
      induction l with
      | nil=>exact .nil
      | cons x l ih=>exact .cons (L5 x.1 x.2.2.1) rfl (by simpa using ih)
    · rw [List.map_map]
      have e:(l.map ((fun x:Key × Value=>x.1) ∘ fun x=>(Sum.inl x.1,Value.int x.2.1 x.2.2.2)))=(l.map (·.1)).map Sum.inl:=by rw [List.map_map]; rfl
      rw [e]
      exact (List.pairwise_map.mpr (hn.imp (fun h q=>h (Sum.inl.inj q))))
  · exact ⟨_,KX a _ hk,rfl⟩
theorem Atx {K:PySem.W.Frag} {a:Addr} {l:List (Int × Addr × Tok)} {n:Nat} (hs:(a == sysModules)=false) (hn:(l.map (·.1)).Nodup) (hz:l.length≤sizeLine)
    (hk:K.lookup a=some { cls:=.type "dict",dict:=none,data:=.dict (l.map fun x=>⟨hashInt x.1,.int x.1 x.2.2,.ref x.2.1⟩).toArray n,slots:=#[] }):KD K a (l.map fun x=>(Sum.inl x.1,V.ref x.2.1)):=by
  refine ⟨hs,by simpa using hz,fun P w h KX=>⟨l.map fun x=>(Sum.inl x.1,.ref x.2.1),?_,?_⟩,fun s KX=>⟨?_,_,KX a _ hk,rfl⟩⟩
  · clear hk hn hz
    induction l with
    | nil=>exact .nil
    | cons x l ih=>exact .cons ⟨rfl,rfl⟩ ih
  · refine ⟨_,_,n,KX a _ hk,⟨rfl,rfl,rfl⟩,rfl,?_,?_,?_⟩
    · intro e he
      rw [List.mem_toArray,List.mem_map] at he
      obtain ⟨x,_,rfl⟩:=he
      exact ⟨Sum.inl x.1,L5 x.1 x.2.2,rfl⟩
    · clear hk hn hz
      induction l with
      | nil=>exact .nil
      | cons x l ih=>exact .cons (L5 x.1 x.2.2) rfl (by simpa using ih)
    · rw [List.map_map]
      have e:(l.map ((fun x:Key × Value=>x.1) ∘ fun x=>(Sum.inl x.1,Value.ref x.2.1)))=(l.map (·.1)).map Sum.inl:=by rw [List.map_map]; rfl
      rw [e]
      exact (List.pairwise_map.mpr (hn.imp (fun h q=>h (Sum.inl.inj q))))
  · exact ⟨_,KX a _ hk,rfl⟩
theorem Hr {a b:Int}:Aj5 (.int a) (.int b)=true:=rfl
theorem Aui {a:Int}:Aj5 (.int a) .non=true:=rfl
theorem Auj {a:Int}:Aj5 .non (.int a)=true:=rfl
theorem Auh {a b:Bool}:Aj5 (.bl a) (.bl b)=true:=rfl
def Loop (J:It) (g:TG) (tb:TS) (D:Ends) (σ:St) (H1:Hp):Prop:=Awo (fun _ H R=>R J H) g tb D σ H1
theorem Aoz {wi:TI} {g:TG} {tb:TS} {D:Ends} {σ:St} {H:Hp}:Awo wi g tb D σ H=wi σ H fun J H1=>Loop J g tb D σ H1:=rfl
theorem At3 {J:It} {g:TG} {tb:TS} {D:Ends} {σ:St} {H:Hp} (n:Nat) (Pv:Nat→St→Hp→Prop) (h0:Pv 0 σ H) (hgo:∀ i σ H,i < n→Pv i σ H→J.go i H)
    (hs:∀ i σ H x H',i < n→Pv i σ H→J.yld i H x H'→g x σ H' fun σ2 H2=>tb { D with nx:=Pv (i + 1),ct:=Pv (i + 1),bk:=D.nx } σ2 H2) (hd:∀ σ H,Pv n σ H→J.stop n H∧D.nx σ H):Loop J g tb D σ H:=by
  refine ⟨fun i m σ H=>(m=n - i∧i≤n)∧Pv i σ H,⟨n,⟨rfl,Nat.zero_le n⟩,h0⟩,?_⟩
  rintro i m σ H ⟨⟨rfl,hi⟩,p⟩
  by_cases hlt:i < n
  · exact .inr ⟨hgo i σ H hlt p,Pv (i + 1),fun σ' H' p'=>⟨n - (i + 1),by omega,⟨rfl,hlt⟩,p'⟩,fun x H' y=>hs i σ H x H' hlt p y⟩
  · have e:i=n:=by omega
    subst e
    exact .inl (hd σ H p)
theorem L6 {K:PySem.W.Frag} {a:Addr} {g:TG} {tb:TS} {D:Ends} {σ:St} {H:Hp} (xs:List V) (Pv:Nat→St→Hp→Prop) (h0:Pv 0 σ H) (hl:∀ i σ H,i≤xs.length→Pv i σ H→SqL K H a xs)
    (hs:∀ i x σ H,xs[i]? = some x→Pv i σ H→g x σ H fun σ2 H2=>tb { D with nx:=Pv (i + 1),ct:=Pv (i + 1),bk:=D.nx } σ2 H2) (hd:∀ σ H,Pv xs.length σ H→D.nx σ H):Loop (Itl K a) g tb D σ H:=AqZ Pv h0 hl hs hd
theorem AiM {K:PySem.W.Frag} {a:Addr} {g:TG} {tb:TS} {D:Ends} {σ:St} {H:Hp} (xs:List V) (Pv:Nat→St→Hp→Prop) (h0:Pv 0 σ H) (hl:∀ i σ H,i≤xs.length→Pv i σ H→SqT K H a xs)
    (hs:∀ i x σ H,xs[i]? = some x→Pv i σ H→g x σ H fun σ2 H2=>tb { D with nx:=Pv (i + 1),ct:=Pv (i + 1),bk:=D.nx } σ2 H2) (hd:∀ σ H,Pv xs.length σ H→D.nx σ H):Loop (Itt K a) g tb D σ H:=AsV Pv h0 hl hs hd
def Comp (J:It) (g:TG) (tt:TT) (te:TE) (vs:List Nat) (σ:St) (Q:VK) (H1:Hp):Prop:=tLc (fun _ H R=>R J H) g tt te vs σ H1 Q
theorem Asw {wi:TI} {g:TG} {tt:TT} {te:TE} {vs:List Nat} {σ:St} {H:Hp} {Q:VK}:tLc wi g tt te vs σ H Q=wi σ H fun J H1=>Comp J g tt te vs σ Q H1:=rfl
theorem YE {J:It} {g:TG} {tt:TT} {te:TE} {vs:List Nat} {σ:St} {Q:VK} {H1:Hp} (n:Nat) (Pv:Addr→Nat→Hp→Prop) (h0:∀ D,H1 D=none→Pv D 0 (upd H1 D (.lst []))) (hgo:∀ D i H,i < n→Pv D i H→J.go i H)
    (hs:∀ D i H x H',H1 D=none→i < n→Pv D i H→J.yld i H x H'→g x (wipe σ vs) H' fun σ2 H2=>wipe σ2 vs=wipe σ vs∧tt σ2 H2 fun b H3 =>
      if b=true then te σ2 H3 fun y H4=>∃ acc,H4 D=some (.lst acc)∧acc.length < sizeLine∧Pv D (i + 1) (upd H4 D (.lst (acc++[y]))) else Pv D (i + 1) H3)
    (hd:∀ D H,H1 D=none→Pv D n H→J.stop n H∧Q (.ref D) H):Comp J g tt te vs σ Q H1:=by
  intro D hD
  refine ⟨fun i m H=>(m=n - i∧i≤n)∧Pv D i H,⟨n,⟨rfl,Nat.zero_le n⟩,h0 D hD⟩,?_⟩
  rintro i m H ⟨⟨rfl,hi⟩,p⟩
  by_cases hlt:i < n
  · exact .inr ⟨hgo D i H hlt p,Pv D (i + 1),fun H' p'=>⟨n - (i + 1),by omega,⟨rfl,hlt⟩,p'⟩,fun x H' y=>hs D i H x H' hD hlt p y⟩
  · have e:i=n:=by omega
    subst e
    exact .inl (hd D H hD p)
theorem AqI {p:List UInt8} {i:Nat} {x:V} (h:(p.map fun c=>V.int (c.toNat:Int))[i]? = some x):∃ c,p[i]? = some c∧x=.int (c.toNat:Int):=by
  rw [List.getElem?_map] at h
  cases e:p[i]? with
  | none=>rw [e] at h; cases h
  | some c=>rw [e] at h; exact ⟨c,rfl,(Option.some.inj h).symm⟩
theorem BC {α:Type} {l:List α} {i:Nat} {x:α} (h:l[i]? = some x):l.take (i + 1)=l.take i++[x]:=by
  rw [List.take_add_one,h]; rfl
theorem Je {n d i:Nat} (h:i≤n):HT.sIx n d (some (i:Int))=i:=by
  have:=HT.Ae6 (i:Int) n d
  rw [if_neg (by omega)] at this
  have:min (i:Int) (n:Int)=(i:Int):=by omega
  omega
theorem AnT {xs:List V} {i j:Nat} {a b:Int} (ha:a=(i:Int)) (hb:b=(j:Int)) (hij:i≤j) (hj:j≤xs.length):RQ xs (some a) (some b)=(xs.drop i).take (j - i):=by
  unfold RQ
  rw [ha,hb,Je (i:=i) (by omega),Je (i:=j) hj]
theorem AnQ (p:List UInt8) (i:Nat):((p.map fun c=>V.int (c.toNat:Int)).drop i)=(p.drop i).map fun c=>V.int (c.toNat:Int):=List.map_drop.symm
theorem Ae3 (p:List UInt8) (i:Nat):((p.map fun c=>V.int (c.toNat:Int)).take i)=(p.take i).map fun c=>V.int (c.toNat:Int):=List.map_take.symm
structure Ai (F:List Addr) (H H':Hp):Prop where
  at_:∀ b o,H b=some o→b ∉ F→H' b=some o
  tup:∀ b xs,H b=some (.tup xs)→H' b=some (.tup xs)
theorem Ai.refl {F:List Addr} {H:Hp}:Ai F H H:=⟨fun _ _ h _=>h,fun _ _ h=>h⟩
theorem Ai.trans {F:List Addr} {H H1 H2:Hp} (a:Ai F H H1) (b:Ai F H1 H2):Ai F H H2:=⟨fun c o h n=>b.at_ c o (a.at_ c o h n) n,fun c xs h=>b.tup c xs (a.tup c xs h)⟩
theorem Ai.mono {F G:List Addr} {H H1:Hp} (a:Ai F H H1) (h:∀ b ∈ F,b ∈ G):Ai G H H1:=⟨fun c o e n=>a.at_ c o e fun q=>n (h c q),a.tup⟩
theorem Ai.new {F:List Addr} {H:Hp} {p:Addr} {o:HO} (h:H p=none):Ai F H (upd H p o):=⟨fun b u e _=>by rw [A9 (Au e h)]; exact e,fun b u e=>by rw [A9 (Au e h)]; exact e⟩
def Af8:HO→Prop
  | .tup _=>False
  | _=>True
theorem Ai.put {F:List Addr} {H:Hp} {p:Addr} {o u:HO} (h:H p=some u) (hu:Af8 u) (hp:p ∈ F):Ai F H (upd H p o) :=
  ⟨fun b v e n=>by rw [A9 (show b≠p from fun q=>n (by rw [q]; exact hp))]; exact e,fun b xs e=>by
    have hb:b≠p:=fun q=>by subst q; rw [h] at e; cases e; exact hu
    rw [A9 hb]; exact e⟩
theorem Ai.free {F:List Addr} {H H':Hp} (k:Ai F H H') {b:Addr} (h:H' b=none):H b=none∨b ∈ F:=by
  cases e:H b with
  | none=>exact .inl rfl
  | some o =>
    by_cases m:b ∈ F
    · exact .inr m
    · rw [k.at_ b o e m] at h; cases h
theorem Ai.Fz {H H':Hp} (k:Ai [] H H') {b:Addr} (h:H' b=none):H b=none:=(k.free h).resolve_right (by simp)
theorem Ai.same {H H':Hp} (k:Ai [] H H'):AuN H H':=fun b o e=>k.at_ b o e (by simp)
structure Fr (F:List Addr) (H:Hp) (F':List Addr) (H':Hp):Prop where
  keep:Ai F H H'
  sub:∀ b ∈ F',b ∈ F∨H b=none
theorem Fr.refl {F:List Addr} {H:Hp}:Fr F H F H:=⟨Ai.refl,fun b h=>.inl h⟩
theorem Fr.trans {F F' F'':List Addr} {H H' H'':Hp} (a:Fr F H F' H') (b:Fr F' H' F'' H''):Fr F H F'' H'':=by
  refine ⟨⟨fun c o e n=>b.keep.at_ c o (a.keep.at_ c o e n) fun q=>?_,fun c xs e=>b.keep.tup c xs (a.keep.tup c xs e)⟩,fun c hc=>?_⟩
  · rcases a.sub c q with z | z
    · exact n z
    · rw [z] at e; cases e
  · rcases b.sub c hc with z | z
    · exact a.sub c z
    · exact (a.keep.free z).symm
theorem Aj {H:Hp} {a b:Addr} {o u:HO} (h:H b=some u) (n:b≠a):upd H a o b=some u:=by rw [A9 n]; exact h
theorem BW {H:Hp} {a b:Addr} {o u:HO} (h:H b=some u) (n:H a=none):upd H a o b=some u:=Aj h (Au h n)
abbrev B8:=List UInt8
def bv (p:B8):List V:=p.map fun c=>V.int (c.toNat:Int)
def kb (p:B8):List Key:=p.map fun c=>Sum.inl (c.toNat:Int)
theorem Ro (p:B8):(kb p).map kV=bv p:=by
  unfold kb bv
  rw [List.map_map]; rfl
theorem Az (p:B8):(bv p).length=p.length:=List.length_map ..
theorem toNat_inj {a b:UInt8} (h:(a.toNat:Int)=(b.toNat:Int)):a=b:=UInt8.toNat_inj.mp (Int.ofNat.inj h)
theorem Aro:∀ {p q:B8},kb p=kb q→p=q
  | [],[],_=>rfl
  | [],_::_,h=>by cases h
  | _::_,[],h=>by cases h
  | a::p,b::q,h=>by
    have h':Sum.inl (a.toNat:Int)::kb p=(Sum.inl (b.toNat:Int)::kb q:List Key):=h
    rw [List.cons.injEq] at h'
    rw [toNat_inj (Sum.inl.inj h'.1),Aro h'.2]
def bd (p:B8):List PyData:=p.map fun c=>PyData.int (c.toNat:Int)
theorem Si {K:PySem.W.Frag} {H:Hp}:∀ p:B8,YL K H (bv p) (bd p)
  | []=>.nil
  | c::p=>.cons (.int _) (Si p)
theorem AkS:∀ p:B8,PyData.canLayAll0 (bd p)=true
  | []=>rfl
  | c::p=>by
    show (PyData.canLay0 (.int _) && PyData.canLayAll0 (bd p))=true
    rw [AkS p]; rfl
theorem Zl:∀ p:B8,PyData.depthAll (bd p)=0
  | []=>rfl
  | c::p=>by
    show max (PyData.depth (.int _)) (PyData.depthAll (bd p))=0
    rw [Zl p]; rfl
theorem AqG (p:B8):SeqAt.shaped (.list (bd p))=true:=by
  unfold SeqAt.shaped
  rw [show PyData.canLay0 (.list (bd p))=PyData.canLayAll0 (bd p) from rfl,AkS,show PyData.depth (.list (bd p))=PyData.depthAll (bd p) + 1 from rfl,Zl]; rfl
theorem Ae1 (p:B8):SeqAt.shaped (.tuple (bd p))=true:=by
  unfold SeqAt.shaped
  rw [show PyData.canLay0 (.tuple (bd p))=PyData.canLayAll0 (bd p) from rfl,AkS,show PyData.depth (.tuple (bd p))=PyData.depthAll (bd p) + 1 from rfl,Zl]; rfl
theorem Ae0:∀ p q:B8,PyData.eqvAll (bd p) (bd q)=decide (p=q)
  | [],[]=>rfl
  | [],_::_=>rfl
  | _::_,[]=>rfl
  | a::p,b::q=>by
    show (((a.toNat:Int) == (b.toNat:Int)) && PyData.eqvAll (bd p) (bd q))=_
    rw [Ae0 p q,Bool.eq_iff_iff,Bool.and_eq_true,beq_iff_eq,decide_eq_true_eq,decide_eq_true_eq,List.cons.injEq]
    exact ⟨fun h=>⟨toNat_inj h.1,h.2⟩,fun h=>⟨by rw [h.1],h.2⟩⟩
theorem AuF {K:PySem.W.Frag} {H:Hp} {a b:Addr} {p q:B8} {Q:VK} (ha:SqL K H a (bv p)) (hb:SqL K H b (bv q)) (h:Q (.bl (!decide (p=q))) H):Aua K (.ref a) (.ref b) H Q :=
  ⟨_,_,.lst ha (Si p),.lst hb (Si q),AqG p,AqG q,by rw [show PyData.eqv (.list (bd p)) (.list (bd q))=PyData.eqvAll (bd p) (bd q) from rfl,Ae0]; exact h⟩
theorem U2 {K:PySem.W.Frag} {H:Hp} {a b:Addr} {p q:B8} {Q:VK} (ha:SqT K H a (bv p)) (hb:SqT K H b (bv q)) (h:Q (.bl (decide (p=q))) H):AvS K (.ref a) (.ref b) H Q :=
  ⟨_,_,.tup ha (Si p),.tup hb (Si q),Ae1 p,Ae1 q,by rw [show PyData.eqv (.tuple (bd p)) (.tuple (bd q))=PyData.eqvAll (bd p) (bd q) from rfl,Ae0]; exact h⟩
theorem Axa {K:PySem.W.Frag} {H:Hp} {a b:Addr} {p q:B8} {Q:VK} (ha:SqT K H a (bv p)) (hb:SqT K H b (bv q)) (h:Q (.bl (!decide (p=q))) H):Aua K (.ref a) (.ref b) H Q :=
  ⟨_,_,.tup ha (Si p),.tup hb (Si q),Ae1 p,Ae1 q,by rw [show PyData.eqv (.tuple (bd p)) (.tuple (bd q))=PyData.eqvAll (bd p) (bd q) from rfl,Ae0]; exact h⟩
theorem AnR:∀ p:B8,(bv p).all Kq=true
  | []=>rfl
  | c::p=>by
    show (true && (bv p).all Kq)=true
    rw [AnR p]; rfl
theorem AuB (n:UInt8):∀ p:B8,inV (.int (n.toNat:Int)) (bv p)=p.contains n
  | []=>rfl
  | c::p=>by
    have ih:=AuB n p
    show (((c.toNat:Int) == (n.toNat:Int)) || inV (.int (n.toNat:Int)) (bv p))=_
    rw [ih,List.contains_cons,Bool.eq_iff_iff,Bool.or_eq_true,Bool.or_eq_true,beq_iff_eq,beq_iff_eq]
    exact ⟨fun h=>h.imp (fun e=>(toNat_inj e).symm) id,fun h=>h.imp (fun e=>by rw [e]) id⟩
theorem Bs {n:Nat} (h:n≤20000):n < sizeLine:=by rw [sizeLine_eq]; omega
theorem SqT.keep {K:PySem.W.Frag} {H H':Hp} {a:Addr} {xs:List V} (k:Ai [] H H') (h:SqT K H a xs):SqT K H' a xs:=by
  rcases h with (h | ⟨o,h⟩) | h
  · exact .inl (.inl (k.tup _ _ h))
  · exact .inl (.inr ⟨o,k.at_ _ _ h (by simp)⟩)
  · exact .inr h
theorem SqL.keep {K:PySem.W.Frag} {H H':Hp} {a:Addr} {xs:List V} (k:Ai [] H H') (h:SqL K H a xs):SqL K H' a xs:=k.same.seq h
def ME (t:TE):Prop:=∀ σ H (Q Q':VK),(∀ v H1,Q v H1→Q' v H1)→t σ H Q→t σ H Q'
def MT (t:TT):Prop:=∀ σ H (Q Q':Bool→Hp→Prop),(∀ b H1,Q b H1→Q' b H1)→t σ H Q→t σ H Q'
def MA (t:TA):Prop:=∀ σ H (Q Q':List V→Hp→Prop),(∀ b H1,Q b H1→Q' b H1)→t σ H Q→t σ H Q'
def MR (r:R2):Prop:=∀ x y H (Q Q':VK),(∀ v H1,Q v H1→Q' v H1)→r x y H Q→r x y H Q'
def MC (r:List V→Hp→VK→Prop):Prop:=∀ x H (Q Q':VK),(∀ v H1,Q v H1→Q' v H1)→r x H Q→r x H Q'
theorem Pn {i:Nat}:ME (Qe i):=fun σ H Q Q' m ⟨v,e,q⟩=>⟨v,e,m _ _ q⟩
theorem AvE {v:V}:ME (tC v):=fun σ H Q Q' m q=>m _ _ q
theorem Ad8 {r:R2} {ta tb:TE} (hr:MR r) (ha:ME ta) (hb:ME tb):ME (tOp r ta tb):=fun σ H Q Q' m q=>ha σ H _ _ (fun x H1 q1=>hb σ H1 _ _ (fun y H2 q2=>hr x y H2 Q Q' m q2) q1) q
theorem Aok {g:Int→Int→V}:MR (rI0 g):=fun x y H Q Q' m ⟨i,j,e1,e2,q⟩=>⟨i,j,e1,e2,m _ _ q⟩
theorem AwZ:MR rNe:=fun x y H Q Q' m ⟨e,q⟩=>⟨e,m _ _ q⟩
theorem AvF {K:PySem.W.Frag}:MR (AtZ K):=fun x y H Q Q' m ⟨p,xs,i,v,e1,e2,e3,e4,q⟩=>⟨p,xs,i,v,e1,e2,e3,e4,m _ _ q⟩
theorem Va {t:TE} (h:ME t):MT (AbO t):=fun σ H Q Q' m q=>h σ H _ _ (fun x H1 ⟨k,e,q1⟩=>⟨k,e,m _ _ q1⟩) q
theorem AvG {t u:TT} (h:MT t) (h':MT u):MT (Aus t u):=fun σ H Q Q' m q=>h σ H _ _ (fun c H1 q1=>by
  cases c with
  | true=>rw [if_pos rfl] at q1 ⊢; exact h' σ H1 _ _ m q1
  | false=>rw [if_neg (by decide)] at q1 ⊢; exact m _ _ q1) q
theorem AlQ:MA AgL:=fun σ H Q Q' m q=>m _ _ q
theorem Af4 {ta:TE} {tr:TA} (h:ME ta) (h':MA tr):MA (AbN ta tr):=fun σ H Q Q' m q=>h σ H _ _ (fun x H1 q1=>h' σ H1 _ _ (fun xs H2 q2=>m _ _ q2) q1) q
theorem Ary {r:List V→Hp→VK→Prop} {t:TA} (hr:MC r) (h:MA t):ME (tCB r t):=fun σ H Q Q' m q=>h σ H _ _ (fun xs H1 q1=>hr xs H1 _ _ m q1) q
theorem Br {n:Nat} (h:n≤20000):n≤sizeLine:=Nat.le_of_lt (Bs h)
theorem SqL.ins {K:PySem.W.Frag} {H:Hp} {a x C dx:Addr} {fs:List (Str × V)} {xs:List V} {o:HO} (hx:H x=some (.ins C dx fs)) (h:SqL K H a xs):SqL K (upd H x o) a xs:=by
  rcases h with (h | ⟨u,h⟩) | h
  · exact .inl (.inl (Aj h (Vb h hx (by intro z; cases z))))
  · exact .inl (.inr ⟨u,Aj h (Vb h hx (by intro z; cases z))⟩)
  · exact .inr h
theorem SqT.dict {K:PySem.W.Frag} {H:Hp} {a d:Addr} {kvs:List (List Key × V)} {xs:List V} {o:HO} (hd:H d=some (.dT kvs)) (h:SqT K H a xs):SqT K (upd H d o) a xs:=by
  rcases h with (h | ⟨u,h⟩) | h
  · exact .inl (.inl (Aj h (Vb h hd (by intro z; cases z))))
  · exact .inl (.inr ⟨u,Aj h (Vb h hd (by intro z; cases z))⟩)
  · exact .inr h
theorem Ai.unlock {H H':Hp} {d:Addr} {u o:HO} (h:H d=some u) (k:Ai [] (upd H d o) H'):Ai [] H (upd H' d u):=by
  refine ⟨fun b v e _=>?_,fun b xs e=>?_⟩
  · by_cases hb:b=d
    · subst hb; rw [Ab]; rw [h] at e; exact e
    · rw [A9 hb]; exact k.at_ b v (Aj e hb) (by simp)
  · by_cases hb:b=d
    · subst hb; rw [Ab]; rw [h] at e; exact e
    · rw [A9 hb]; exact k.tup b xs (Aj e hb)
end L2
end
section
set_option maxRecDepth 100000
set_option maxHeartbeats 4000000
namespace L2
open PySem PySem.Spec PyProof.Rows
section
open PySem.AutoSeq1
theorem Alv (l:Addr) (xs:Array Value) (n:Nat) (b:Addr) (ys:Array Value) (m:Nat) (dd:Option Addr) (sl:Array (Option Value)) (g0 : ¬(!xs.isEmpty && Builtin.List.listTooLong (xs.size + ys.size))=true) (g1:xs.size≤sizeLine) (g2:xs.size + ys.size≤sizeLine + 1) :
    Meets (Builtin.«list.extend» ⟨[.ref l,.ref b],[]⟩) (fun _ R s=>s.heap.get? l=some { cls:=.type "list",dict:=none,data:=.seq xs n,slots:=#[] }∧s.heap.get? b=some { cls:=.type "tuple",dict:=dd,data:=.seq ys m,slots:=sl }∧R (.ok (.ret Value.none)) { s with heap:=s.heap.update l (Obj.mapSeq fun x=>x++ys),toks:=s.toks }) :=
  .of_wp fun prog w A R s h=>by
    obtain ⟨hp,g,d,tk,os⟩:=s; obtain ⟨hl,hb,h⟩:=h
    have f1:=AutoSeq1.idx_int; have f2:=AutoSeq1.sub_tuple_tuple; have f3:=AutoSeq1.sub_list_list; have f4:=AutoSeq1.sub_tuple_list; have f5:=AutoSeq1.sub_list_tuple
    have hz':(xs++ys).size≤sizeLine + 1:=by rw [Array.size_append]; exact g2
    wp_walk using (wpAny_updateSeq hl rfl (hz:=g1) (_hz':=hz')),wpAny_loadPart' hl,wpAny_loadPart' hb
    exact ⟨_,rfl,h⟩
end
section
variable {X:Cx}
theorem Atn:PIp X .FloorDiv (rI AuK fun i j=>.int (i / j)):=Arm
def Abz (K:PySem.W.Frag):V→List V→Hp→VK→Prop:=fun x vs H Q=>∃ l b xs zs,x=.ref l∧vs=[.ref b]∧H l=some (.lst xs)∧SqT K H b zs∧xs.length + zs.length≤sizeLine∧Q .non (upd H l (.lst (xs++zs)))
theorem S5:MtM X "list.extend" (Abz X.K):=by
  intro pins s σ H x vs v us Q I rx rv h
  obtain ⟨l,b,xs,zs,rfl,rfl,hH,hB,hz,q⟩:=h
  cases rx
  obtain ⟨u,rfl,ru⟩:=rv.one
  cases ru
  obtain ⟨z,its,n,r,hl,e⟩:=I.AiN hH
  obtain ⟨its2,r2,⟨⟨cls,dd,data,sl⟩,ho,hc,n2,hd⟩,_⟩:=I.tuple hB
  simp only at hc hd
  subst hc hd
  have hl2:=r2.length
  have hsz:its.toArray.size + its2.toArray.size≤sizeLine:=by rw [List.size_toArray,List.size_toArray]; omega
  have hlong : ¬ (!its.toArray.isEmpty && Builtin.List.listTooLong (its.toArray.size + its2.toArray.size))=true:=by
    rw [AaG hsz,Bool.and_false]
    exact Bool.false_ne_true
  refine call_meets F.slot_list_extend ⟨_,e,rfl⟩ F.entry_list_extend (F.args_list_extend_2 _ _)
    (Alv l its.toArray n b its2.toArray n2 dd sl hlong (by rw [List.size_toArray]; omega) (by omega)) ⟨e,ho,?_⟩
  refine ⟨.non,_,I.At5 (its':=its++its2) hH e (by simp) (r.append r2) ?_,rfl,q⟩
  rw [List.length_append]
  omega
end
namespace HT2
theorem ArG (A:Around) (s:Shared) (a:Int) (t:Tok) (c:Int) (u:Tok) (prog:Program) (w:World) (E:Value→Shared→Prop) (Q:Value→Shared→Prop) (h:Q (.bool (decide (c < a))) s) :
    wpAny (model prog w) A (richCompare .Gt (.int a t) (.int c u)) Q E s :=
  (PyProof.Rows.gt_int h:wpAny (model prog w) A (compareOp .Gt (.int a t) (.int c u)) Q E s)
section
open PySem.SeqAt
open PySem.AutoSeq1 (wpAny_loadPart')
open PySem.MeetsSeq PySem.MeetsSeq2 PySem.MeetsSeq3
theorem Adp (l b:Addr) (xs ys:Array Value) (n m:Nat) (dd dd2:Option Addr) (sl sl2:Array (Option Value)) (ns ms:List Int) (hi:IntsAre xs.toList ns) (hj:IntsAre ys.toList ms) :
    Meets (Builtin.«tuple.__gt__» ⟨[.ref l,.ref b],[]⟩)
      (fun _ R s=>s.heap.get? l=some { cls:=.type "tuple",dict:=dd,data:=.seq xs n,slots:=sl }∧s.heap.get? b=some { cls:=.type "tuple",dict:=dd2,data:=.seq ys m,slots:=sl2 } ∧
        R (.ok (.ret (.bool (HT.lexLt ms ns)))) s) :=
  .of_wp fun prog w A R s h=>by
    obtain ⟨hp,g,d,tk,os⟩:=s; obtain ⟨hl,hb,h⟩:=h
    have f2:=AutoSeq1.sub_tuple_tuple
    have z1:xs.size=ns.length:=by rw [← hi.length]; simp
    have z2:ys.size=ms.length:=by rw [← hj.length]; simp
    wp_walk using wpAny_loadPart' hl,wpAny_loadPart' hb,wpAny_forIn_list _ (fun rest b s'=>b.1=none∧s'=⟨hp,g,d,tk,os⟩∧∃ (vs ws:List Value) (ns' ms':List Int),rest=vs.zip ws ∧
      IntsAre vs ns'∧IntsAre ws ms'∧ns'.length + ys.size=ms'.length + xs.size∧R (.ok (.ret (.bool (HT.lexLt ms' ns')))) ⟨hp,g,d,tk,os⟩) _
    case turn =>
      rintro ⟨y,x⟩ rest b s' ⟨hb',rfl,vs,ws,ns',ms',hz,hvi,hwi,hlen,hR⟩
      cases hvi with
      | nil=>rw [List.zip_nil_left] at hz; cases hz
      | cons a t hvi' =>
        cases hwi with
        | nil=>rw [List.zip_nil_right] at hz; cases hz
        | cons c u hwi' =>
          rw [List.zip_cons_cons] at hz
          injection hz with hyx hrest
          injection hyx with hy hx
          subst hy hx
          rw [HT.S0] at hR
          simp only [List.length_cons] at hlen
          obtain ⟨e,he,hiff⟩:=HT.AqW A.in1 ⟨hp,g,d,tk,os⟩ a t c u
          refine wpAny_bind (he prog w _ _ ?_)
          cases e with
          | true =>
            rw [if_pos (hiff.mp rfl).symm] at hR
            wp_walk
            exact ⟨rfl,rfl,_,_,_,_,hrest,hvi',hwi',by omega,hR⟩
          | false =>
            rw [if_neg (fun q=>absurd (hiff.mpr q.symm) Bool.false_ne_true)] at hR
            have hri:=ArG A.in1 ⟨hp,g,d,tk,os⟩ a t c u prog w
            wp_walk using hri
            exact ⟨_,rfl,by simpa using hR⟩
    case fin =>
      rintro ⟨b1,b2⟩ s' ⟨hb',rfl,vs,ws,ns',ms',hz,hvi,hwi,hlen,hR⟩
      simp only at hb'
      subst hb'
      have hv:HT.lexLt ms' ns'=decide (ys.size < xs.size):=by
        cases hvi with
        | nil =>
          cases hwi with
          | nil =>
            simp only [List.length_nil] at hlen
            rw [HT.Ada]
            exact (decide_eq_false (by omega)).symm
          | cons c u hw =>
            simp only [List.length_nil,List.length_cons] at hlen
            rw [HT.AaA]
            exact (decide_eq_false (by omega)).symm
        | cons a t hv =>
          cases hwi with
          | nil =>
            simp only [List.length_nil,List.length_cons] at hlen
            rw [HT.AaB]
            exact (decide_eq_true (by omega)).symm
          | cons c u hw =>
            rw [List.zip_cons_cons] at hz
            cases hz
      rw [hv] at hR
      wp_walk
      exact ⟨_,rfl,by simpa [Builtin.Tuple.tupleCompareSizes] using hR⟩
    case h =>
      exact ⟨rfl,rfl,xs.toList,ys.toList,ns,ms,rfl,hi,hj,by omega,h⟩
end
section
variable {prog:Program} {w:World} {A:Around} {E:Value→Shared→Prop} {s:Shared}
theorem Aly {l b:Addr} {xs ys:Array Value} {ns ms:List Int} {Q:Value→Shared→Prop} (hl:IsTup s.heap l xs) (hb:IsTup s.heap b ys) (hi:IntsAre xs.toList ns) (hj:IntsAre ys.toList ms)
    (hu:A.units < cLine) (h:Q (.bool (HT.lexLt ms ns)) s):wpAny (model prog w) A (compareOp .Gt (.ref l) (.ref b)) Q E s:=by
  obtain ⟨⟨cls,dd,data,sl⟩,ho,hc,n,hd⟩:=id hl
  obtain ⟨⟨cls2,dd2,data2,sl2⟩,ho2,hc2,n2,hd2⟩:=id hb
  simp only at hc hd hc2 hd2
  subst hc hd hc2 hd2
  exact richCompare_meets_room (op:=.Gt) ⟨_,ho,rfl⟩ ⟨_,ho2,rfl⟩ PySem.F.slot_tuple_gt PySem.F.entry_tuple_gt (PySem.F.args_tuple_gt_2 _ _) (Adp l b xs ys n n2 dd dd2 sl sl2 ns ms hi hj)
    ⟨ho,ho2,show Value.bool (HT.lexLt ms ns)≠Value.notImplemented∧Q (.bool (HT.lexLt ms ns)) s from ⟨(fun x=>nomatch x),h⟩⟩ hu
theorem AcB {t sl:Addr} {xs:Array Value} {vl vu:Value} {lo hi:Option Int} {Q:Value→Shared→Prop} (ht:IsTup s.heap t xs) (hs:s.heap.IsSliceOf sl vl vu .none) (pl:IsPart vl lo) (pu:IsPart vu hi)
    (hw:HT.sIx xs.size 0 lo=0∧HT.sIx xs.size xs.size hi=xs.size) (h:Q (.ref t) s):wpAny (model prog w) A (getItem (.ref t) (.ref sl)) Q E s:=by
  obtain ⟨os,hos,hcs,hds⟩:=id hs
  have hTs:s.TypeIs (.ref sl) "slice":=⟨os,hos,hcs⟩
  unfold getItem
  try with_reducible refine wpAny_holding ?_
  first | refine wpAny_bind (wpAny_pure ?_) | skip
  refine wpAny_bind (wpAny_sequenceKey ht.typeIs (by decide) ?_)
  refine wpAny_bind (wpAny_callSpecial?_slot (name:=Str.ofString "__getitem__") ht.typeIs PyProof.Rows.slot_tuple_getitem
    (wpAny_call_entry PyProof.Rows.slot_tuple_getitem ht.typeIs entry_tuple_getitem ?_ (args_tuple_getitem _ _)))
  show wpAny _ _ (Builtin.Tuple.tupleItemsOf (.ref t) >>= _) _ _ s
  refine wpAny_bind (tupleItemsOf_ ht ?_)
  refine wpAny_bind (wpAny_typeOf hTs ?_)
  rw [if_pos (by decide)]
  refine wpAny_bind (HT.LI hs pl pu ?_)
  have hyes:(((HT.sIx xs.size 0 lo:Nat):Int) == 0 && (1:Int) == 1 && (HT.sIx xs.size xs.size hi - HT.sIx xs.size 0 lo) == xs.size)=true:=by
    rw [hw.1,hw.2]; simp
  show wpAny _ _ (if (((HT.sIx xs.size 0 lo:Nat):Int) == 0 && (1:Int) == 1 && (HT.sIx xs.size xs.size hi - HT.sIx xs.size 0 lo) == xs.size)=true then _ else _) _ _ s
  rw [if_pos hyes]
  have ex:(Value.type "tuple" == Value.type "tuple")=true:=by rfl
  have tail:∀ {R:Bool→Shared→Prop} {E2:Value→Shared→Prop} {A2:Around},R true s→wpAny (model prog w) A2 (Builtin.Tuple.tupleIsExact (.ref t)) R E2 s:=fun hR=>by
    unfold Builtin.Tuple.tupleIsExact
    refine wpAny_bind (wpAny_typeOf ht.typeIs (wpAny_pure ?_))
    rw [ex]; exact hR
  first
    | exact wpAny_bind (m:=Builtin.Tuple.tupleIsExact _) (tail (wpAny_bind (wpAny_rule (wpAny_pure ⟨_,rfl,wpAny_pure h⟩))))
    | exact wpAny_bind (m:=Builtin.Tuple.tupleIsExact _) (tail (wpAny_bind (wpAny_rule (wpAny_bind (wpAny_pure (wpAny_pure ⟨_,rfl,wpAny_pure h⟩))))))
    | exact wpAny_bind (wpAny_bind (m:=Builtin.Tuple.tupleIsExact _) (tail (wpAny_bind (wpAny_rule (wpAny_pure (wpAny_pure ⟨_,rfl,wpAny_pure h⟩))))))
end
end HT2
section
variable {X:Cx}
def AvT (K:PySem.W.Frag):R2:=fun x y H Q=>∃ a b ns ms,x=.ref a∧y=.ref b∧SqT K H a (ns.map V.int)∧SqT K H b (ms.map V.int)∧Q (.bl (HT.lexLt ms ns)) H
theorem AvI (hu:X.A.units < cLine):OpR X (compareOp .Gt) (AvT X.K):=by
  intro pins s σ H x y v u Q I rx ry h
  obtain ⟨a,b,ns,ms,rfl,rfl,ha,hb,q⟩:=h
  cases rx
  cases ry
  obtain ⟨its,r1,p1,_⟩:=I.tuple ha
  obtain ⟨its2,r2,p2,_⟩:=I.tuple hb
  have i1:IntsAre its.toArray.toList ns:=intsAre_of r1
  have i2:IntsAre its2.toArray.toList ms:=intsAre_of r2
  exact HT2.Aly p1 p2 i1 i2 hu ⟨.bl (HT.lexLt ms ns),H,I,rfl,q⟩
def AuH (K:PySem.W.Frag):V→Option Int→Option Int→Hp→VK→Prop:=fun x lo hi H Q=>∃ a xs,x=.ref a∧SqT K H a xs∧(HT.sIx xs.length 0 lo=0∧HT.sIx xs.length xs.length hi=xs.length)∧Q (.ref a) H
theorem Aum:SlR X (AuH X.K):=by
  intro pins s σ H x v vl vu lo hi sl Q I rx hs pl pu h
  obtain ⟨a,xs,rfl,hx,hw,q⟩:=h
  cases rx
  obtain ⟨its,r,ht,hz⟩:=I.tuple hx
  have hlen:its.toArray.size=xs.length:=by rw [List.size_toArray]; exact r.length.symm
  exact ⟨"tuple",_,PyProof.Rows.slot_tuple_getitem.lookup,ht.typeIs,HT2.AcB ht hs pl pu (by rw [hlen]; exact hw) ⟨.ref a,H,I,rfl,q⟩⟩
def Axc (K:PySem.W.Frag):V→Option Int→Option Int→Hp→VK→Prop:=fun x lo hi H Q=>Aub K x lo hi H Q∨AuH K x lo hi H Q
theorem Aul:SlR X (Axc X.K):=SlR.or ArM Aum
end
end L2
end
section
set_option maxRecDepth 100000
set_option maxHeartbeats 4000000
namespace L2
open PySem PySem.Spec PyProof.Rows
def sh0:Nat→Bool:=fun _=>false
theorem Aak:∀ {ns:List Int} {its:List Value} (i:Nat),Vals (ns.map V.int) its→PyProof.Rows.tupItems sh0 i its=some (ns.map Sum.inl)
  | [],_,i,r=>by cases r; rfl
  | n::ns,_,i,r=>by
    cases r with
    | cons a t =>
      obtain ⟨k,rfl⟩:=a
      show (if sh0 i=true then none else (PyProof.Rows.tupItems sh0 (i + 1) _).map (Sum.inl n::·))=_
      rw [if_neg (by simp [sh0]),Aak (i + 1) t]; rfl
theorem AiL:∀ ns ms:List Int,PyProof.Rows.lexLt PyProof.Rows.itemOrd (ns.map Sum.inl) (ms.map Sum.inl)=HT.lexLt ns ms
  | [],[]=>rfl
  | [],_::_=>rfl
  | _::_,[]=>rfl
  | a::ns,b::ms=>by
    rw [List.map_cons,List.map_cons,PyProof.Rows.lex_cons,HT.S0,AiL ns ms]
    show (decide (a < b) || (!decide (b < a) && HT.lexLt ns ms))=_
    by_cases h:a=b
    · subst h; simp
    · rw [if_neg h]
      by_cases h2:a < b
      · simp [h2]
      · have h3:b < a:=by omega
        simp [h2,h3]
theorem Vh {α β:Type} (f:α→β) {l k:List β} (h:l.Perm k):∀ m:List α,k=m.map f→∃ m':List α,m'.Perm m∧l=m'.map f:=by
  induction h with
  | nil =>
    intro m e
    cases m with
    | nil=>exact ⟨[],.nil,rfl⟩
    | cons _ _=>cases e
  | cons x p ih =>
    intro m e
    cases m with
    | nil=>cases e
    | cons y m =>
      rw [List.map_cons,List.cons.injEq] at e
      obtain ⟨m',h1,h2⟩:=ih m e.2
      exact ⟨y::m',h1.cons y,by rw [List.map_cons,← h2,e.1]⟩
  | swap x y l =>
    intro m e
    match m,e with
    | a::b::m,e =>
      rw [List.map_cons,List.map_cons,List.cons.injEq,List.cons.injEq] at e
      exact ⟨b::a::m,.swap ..,by rw [List.map_cons,List.map_cons,← e.1,← e.2.1,← e.2.2]⟩
  | trans _ _ i1 i2 =>
    intro m e
    obtain ⟨m2,a1,a2⟩:=i2 m e
    obtain ⟨m1,b1,b2⟩:=i1 m2 a2
    exact ⟨m1,b1.trans a1,b2⟩
def Xl (h:Heap) (x:Addr × List Int):Prop:=x.2≠[]∧∃ (o:Obj) (its:List Value) (n:Nat),h.get? x.1=some o∧o.cls=.type "tuple"∧o.data=.seq its.toArray n∧Vals (x.2.map V.int) its
theorem Xl.key {h:Heap} {x:Addr × List Int} (t:Xl h x):G.tupKeyC h sh0 (.ref x.1)=some (x.2.map Sum.inl):=by
  obtain ⟨_,o,its,n,ho,hc,hd,r⟩:=t
  unfold G.tupKeyC
  have e1:G.isTupObj h (.ref x.1)=true:=by simp [G.isTupObj,ho,hc]
  rw [if_pos e1]
  simp only [PyProof.Rows.tupKey,ho,hd]
  exact Aak 0 r
theorem Xl.all {h:Heap}:∀ {l:List (Addr × List Int)},(∀ x ∈ l,Xl h x)→∃ fs,PyProof.Rows.TupsOf h sh0 (l.map fun x=>.ref x.1) fs
  | [],_=>⟨_,.nil⟩
  | x::l,hl=>by
    obtain ⟨fs,r⟩:=Xl.all fun y hy=>hl y (List.mem_cons_of_mem _ hy)
    obtain ⟨ne,o,its,n,ho,hc,hd,v⟩:=hl x (List.mem_cons_self ..)
    obtain ⟨a,ns⟩:=x
    cases ns with
    | nil=>exact absurd rfl ne
    | cons k ns =>
      cases v with
      | cons q t =>
        obtain ⟨u,rfl⟩:=q
        exact ⟨_,.cons ⟨a,o,_,n,rfl,ho,hc,hd,rfl,fun _=>⟨_,_,rfl⟩,fun e=>absurd e (by decide)⟩ r⟩
theorem Xl.keep {h h':Heap} (k:∀ b o,h.get? b=some o→h'.get? b=some o) {x:Addr × List Int} (t:Xl h x):Xl h' x:=by
  obtain ⟨ne,o,its,n,ho,r⟩:=t
  exact ⟨ne,o,its,n,k _ _ ho,r⟩
theorem AjD {h:Heap} {l:List (Addr × List Int)} (hl:∀ x ∈ l,Xl h x) {arr:Array Keyed} (hp:arr.Perm (pairsOf (l.map fun x=>Value.ref x.1))) (hs:SortedToK (G.tupKindC h sh0) arr (pairsOf (l.map fun x=>Value.ref x.1)).size) :
    ∃ m:List (Addr × List Int),m.Perm l∧(arr.map (·.2)).toList=m.map (fun x=>Value.ref x.1)∧m.Pairwise (fun x y=>HT.lexLt y.2 x.2=false):=by
  have e1:=Array.perm_iff_toList_perm.mp hp
  rw [pairsOf_toList] at e1
  have e2:(l.map fun x=>Value.ref x.1).zip (l.map fun x=>Value.ref x.1)=l.map fun x=>((Value.ref x.1,Value.ref x.1):Keyed):=by
    rw [List.zip_map']
  rw [e2] at e1
  obtain ⟨m,pm,em⟩:=Vh _ e1 l rfl
  refine ⟨m,pm,?_,?_⟩
  · rw [Array.toList_map,em,List.map_map]; rfl
  · rw [List.pairwise_iff_getElem]
    intro i j hi hj hij
    have hlen:l.length=m.length:=pm.length_eq.symm
    have q:=hs i j (Nat.le_of_lt hij) (by rw [pairsOf_size,List.length_map,hlen]; exact hj)
    have at_:∀ (k:Nat) (hk:k < m.length),KK (G.tupKindC h sh0) arr k=m[k].2.map Sum.inl:=by
      intro k hk
      have e:arr[k]? = some (Value.ref m[k].1,Value.ref m[k].1):=by
        rw [← Array.getElem?_toList,em,List.getElem?_map,List.getElem?_eq_getElem hk]; rfl
      unfold KK
      rw [e]
      show (G.tupKeyC h sh0 (Value.ref m[k].1)).getD []=_
      rw [(hl _ (pm.mem_iff.mp (List.getElem_mem hk))).key]; rfl
    rw [at_ i hi,at_ j hj] at q
    have q':PyProof.Rows.lexLt PyProof.Rows.itemOrd (m[j].2.map Sum.inl) (m[i].2.map Sum.inl)=false:=q
    rw [AiL] at q'
    exact q'
section
variable {prog:Program} {w:World} {A:Around} {E:Value→Shared→Prop} {s:Shared}
theorem AbK {v:Value} {l:List (Addr × List Int)} {Q:Value→Shared→Prop} (hl:∀ x ∈ l,Xl s.heap x) (hL:l.length≤sizeLine) (hh:A.handled=none)
    (col:∀ (A:Around) (E:Value→Shared→Prop) (Q:List Value→Shared→Prop),A.handled=none→(∀ h1 tk,s.heap.objs.size≤h1.objs.size→(∀ b o,s.heap.get? b=some o→h1.get? b=some o)→Q (l.map fun x=>.ref x.1) { s with heap:=h1,toks:=tk })→wpAny (model prog w) A (collect v) Q E s)
    (h:∀ (m:List (Addr × List Int)) (h2:Heap) (tk:Nat) (p:Addr) (e:Nat),m.Perm l→m.Pairwise (fun x y=>HT.lexLt y.2 x.2=false)→s.heap.objs.size≤p→(∀ b o,s.heap.get? b=some o→h2.get? b=some o) →
      h2.get? p=some (seqObj "list" (m.map fun x=>Value.ref x.1).toArray e)→Q (.ref p) { s with heap:=h2,toks:=tk }):wpAny (model prog w) A (call (.builtin "sorted") [v]) Q E s:=by
  refine Calls.call_function_entry kind_sorted plain_sorted entry_sorted (args_sorted1 _) ?_
  unfold Builtin.«sorted»
  refine wpAny_bind (m:=checkCount "sorted" 1 1 _) (wpAny_pure ?_)
  refine wpAny_bind (col _ _ _ hh fun h1 tk z1 k1=>?_)
  refine wpAny_bind (wpAny_newList ?_ (by rw [List.length_map]; exact hL))
  have hoL:(h1.push (seqObj "list" (l.map fun x=>Value.ref x.1).toArray 0)).get? h1.objs.size=some (seqObj "list" (l.map fun x=>Value.ref x.1).toArray 0):=Heap.get?_push_size _ rfl
  have k2:∀ b o,s.heap.get? b=some o→(h1.push (seqObj "list" (l.map fun x=>Value.ref x.1).toArray 0)).get? b=some o:=fun b o e=>Heap.get?_push_of_some _ (k1 b o e)
  have hl2:=fun x hx=>(hl x hx).keep k2
  obtain ⟨fs,ht⟩:=Xl.all hl2
  show wpAny _ _ _ _ _ { s with heap:=h1.push (seqObj "list" (l.map fun x=>Value.ref x.1).toArray 0),toks:=tk }
  refine wpAny_bind (wpAny_holding (wpAny_call_entry slot_list_sort ⟨_,hoL,rfl⟩ entry_list_sort (G.list_sort_tups (shape:=sh0) hoL ht (fun v hv=>?key) (by rw [List.length_map]; exact hL) fun st' a1 a2 a3=>⟨_,rfl,?ret⟩) (args_list_sort _)))
  case key =>
    obtain ⟨x,hx,rfl⟩:=List.mem_map.mp hv
    exact ⟨_,(hl2 x hx).key⟩
  case ret =>
    obtain ⟨m,pm,em,sm⟩:=AjD hl2 a1 a2
    obtain ⟨e,he⟩:=sortedHeap_at (out:=(arrOf st').map (·.2)) hoL
    have eo:(arrOf st').map (·.2)=(m.map fun x=>Value.ref x.1).toArray:=by rw [← em]
    refine wpAny_pure ⟨_,rfl,h m _ tk h1.objs.size e pm sm z1 (fun b o e1=>?_) ?_⟩
    · have hb:=Heap.lt_size (k1 b o e1)
      rw [sortedHeap_old (Nat.ne_of_lt hb) (Heap.lt_size (k2 b o e1))]
      exact k2 b o e1
    · rw [← eo]; exact he
theorem AqO {d:Addr} {o:Obj} {es:Array DictEntry} {ep:Nat} (hd:(d == sysModules)=false) (hc:o.ExactDict) (hdat:o.data=.dict es ep) :
    PySem.W.KdlSrc prog w "dict" d d es.size (fun i v=>∃ en,es[i]? = some en∧v=en.key) (fun h=>h.get? d=some o) where
  type:=fun _ e=>⟨o,e,hc.1⟩
  there:=fun _ e=>⟨Heap.lt_size e,Heap.lt_size e⟩
  keep:=fun _ _ e hk=>hk d (.inl rfl) o e
  notList:=by decide
  notTuple:=by decide
  hint:=fun _ _ _ _ e hq=>PySem.W.kdl_hint_dict ⟨o,e,hc.1⟩ hq
  iter:=fun A s hh e=>⟨{ cls:=.type "dict_keyiterator",data:=.fields #[.ref d,.int 0 0,.int es.size 0,.int ep 0] },fun i h=>h.IsKeyIter s.heap.objs.size d i es.size ep∧h.get? d=some o,fun _ _ hq=>VX hd e hc hdat hq,{
      sub:=fun b hb=>by simp at hb; simp [hb]
      frame:=fun _ _ _ st hk=>⟨st.1.at fun o e=>hk _ (by simp) o e,hk d (by simp) o st.2⟩
      item:=fun i s1 Q E hi st hQ=>by
        refine Rp st.1 st.2 hdat rfl (en:=es[i]) (by simp [hi]) fun h' hit' hs'=>?_
        exact hQ _ h' s1.toks ⟨_,by simp [hi],rfl⟩ ⟨hit',(hs'.2 d (Nat.ne_of_lt (Heap.lt_size e))).trans st.2⟩ fun b o hb e=>(hs'.2 b (fun h=>hb (by simp [h]))).trans e
      done:=fun s1 Q E st hQ=>Ms hh st.1 st.2 hdat rfl (Nat.le_refl _) fun h' he'=>hQ h' s1.toks fun b o hb e=>he' b o (fun h=>hb (by simp [h])) e
      self:=fun _ _ _ _ st hQ=>wpAny_pyIter_keyiter st.1 hQ },⟨_,Heap.get?_push_size _ rfl,rfl,rfl⟩,Heap.get?_push_of_some _ e⟩
theorem Ae7 {d:Addr} {o:Obj} {es:Array DictEntry} {ep:Nat} {Q:List Value→Shared→Prop} (hd:(d == sysModules)=false) (ho:s.heap.get? d=some o) (hc:o.ExactDict) (hdat:o.data=.dict es ep) (hh:A.handled=none) (hn:es.size≤sizeLine)
    (h:∀ h1 tk,s.heap.objs.size≤h1.objs.size→(∀ b o,s.heap.get? b=some o→h1.get? b=some o)→Q (es.toList.map (·.key)) { s with heap:=h1,toks:=tk }):wpAny (model prog w) A (collect (.ref d)) Q E s:=by
  unfold collect
  refine wpAny_bind (wpAny_runValue (codeAny_builtin F.entry_proto_collect ?_))
  rw [Around.under_plainId F.plain_proto_collect _]
  show wpAny _ A.in1 (newList [] >>= fun l=>again (.builtin "list.__iadd__" ⟨[l,.ref d],[]⟩)) _ _ s
  refine wpAny_bind (wpAny_newObj_type ?_)
  refine wpAny_pure ⟨plainId_quiet F.plain_list_iadd _,codeAny_builtin F.entry_list_iadd ?_⟩
  rw [Around.under_plainId F.plain_list_iadd _]
  show wpAny _ A.in1 (Builtin.List.listExtendWith (.ref s.heap.objs.size) (.ref d) (.ref s.heap.objs.size)) _ _ _
  have hlt:d < s.heap.objs.size:=Heap.lt_size ho
  have hS:(s.heap.push { cls:=.type "list",data:=.seq ([]:List Value).toArray }).get? s.heap.objs.size=some { cls:=.type "list",data:=.seq #[] 0 }:=Heap.get?_push_size _ rfl
  let fin':Shared→Prop:=wpAny (model prog w) A (match Value.ref s.heap.objs.size with
      | Value.ref a=>do
        match (← load a).data with
          | Data.seq xs _=>pure xs.toList
          | _=>unsupported "internal:collect"
      | _=>unsupported "internal:collect") Q E
  refine wpAny_mono (PySem.W.kdl_extend (R:=fun r s'=>r=.ok (.ret (.ref s.heap.objs.size))∧fin' s') (s:={ s with heap:=s.heap.push { cls:=.type "list",data:=.seq ([]:List Value).toArray } }) (AqO hd hc hdat) hh (Heap.get?_push_of_some _ ho) _ (Nat.ne_of_gt hlt) (Nat.ne_of_gt hlt) _ 0 hS (fun h1 tk acc c k1 e1 hacc=>⟨rfl,?_⟩) hn) (fun fin s' h=>?_) (fun e s' h=>absurd h.1 (by simp))
  rotate_left
  · cases fin with
    | done f =>
      obtain ⟨e,h⟩:=h
      cases e
      exact h
    | again c'=>exact ⟨h.1,codeAny_mono h.2 fun r s'' hr=>by obtain ⟨rfl,hr⟩:=hr; exact hr⟩
  show wpAny _ A (load s.heap.objs.size >>= _) _ _ _
  refine wpAny_bind (wpAny_load e1 ?_)
  have ea:acc.toList=es.toList.map (·.key):=by
    apply List.ext_getElem?
    intro i
    rw [Array.getElem?_toList,List.getElem?_map,Array.getElem?_toList]
    cases q:acc[i]? with
    | some v =>
      obtain ⟨en,h1,h2⟩:=hacc.2 i v q
      rw [h1,h2]; rfl
    | none =>
      have:=Array.getElem?_eq_none_iff.mp q
      rw [hacc.1] at this
      rw [Array.getElem?_eq_none this]; rfl
  refine wpAny_pure ?_
  show Q acc.toList _
  rw [ea]
  exact h h1 tk (Nat.le_of_lt (Heap.lt_size e1)) fun b o e=>k1 b o (Nat.ne_of_lt (Heap.lt_size e)) (Heap.get?_push_of_some _ e)
end
section
variable {X:Cx}
def Aeh (H:Hp) (l:List (Addr × List Int)):Prop:=∀ x ∈ l,x.2≠[]∧H x.1=some (.tup (x.2.map V.int))
theorem Aeh.YA {pins:List (Addr × Obj)} {s:Shared} {σ:St} {H:Hp} (I:Inv X pins σ H s) {l:List (Addr × List Int)} (h:Aeh H l):∀ x ∈ l,Xl s.heap x:=by
  intro x hx
  obtain ⟨ne,e⟩:=h x hx
  obtain ⟨_,its,r,o,h1,h2,n,h3⟩:=(show DK X.prog X.w H s.heap x.1 (.tup (x.2.map V.int)) from I.hok _ _ e)
  exact ⟨ne,o,its,n,h1,h2,h3,r⟩
theorem AdM:∀ {l:List Addr} {us:List Value},Vals (l.map V.ref) us→us=l.map Value.ref
  | [],_,r=>by cases r; rfl
  | a::l,_,r=>by
    cases r with
    | cons q t=>cases q; rw [AdM t]; rfl
theorem AdE:∀ (l:List Addr),Vals (l.map V.ref) (l.map Value.ref)
  | []=>.nil
  | a::l=>.cons rfl (AdE l)
def ArF (K:PySem.W.Frag):List V→Hp→VK→Prop:=fun vs H Q=>∃ (a:Addr) (l:List (Addr × List Int)),vs=[V.ref a]∧SqL K H a ((l.map (·.1)).map V.ref)∧Aeh H l ∧
  ∀ (m:List (Addr × List Int)) (p:Addr),m.Perm l→m.Pairwise (fun x y=>HT.lexLt y.2 x.2=false)→H p=none→Q (.ref p) (upd H p (.lst ((m.map (·.1)).map V.ref)))
theorem AbI {pins:List (Addr × Obj)} {s:Shared} {σ:St} {H:Hp} {Q:VK} (I:Inv X pins σ H s) {l m:List (Addr × List Int)} {h2:Heap} {tk e:Nat} {p:Addr} (hL:l.length≤sizeLine) (pm:m.Perm l) (z:s.heap.objs.size≤p) (k:∀ b o,s.heap.get? b=some o→h2.get? b=some o)
    (he:h2.get? p=some (seqObj "list" (m.map fun x=>Value.ref x.1).toArray e)) (q:Q (.ref p) (upd H p (.lst ((m.map (·.1)).map V.ref)))):EP X pins σ Q (.ref p) { s with heap:=h2,toks:=tk }:=by
  refine ⟨.ref p,_,I.laid (t':=tk) (o:=.lst ((m.map (·.1)).map V.ref)) k z ⟨?_,m.map fun x=>Value.ref x.1,e,?_,he⟩,rfl,q⟩
  · rw [List.length_map,List.length_map,pm.length_eq]; exact hL
  · have:=AdE (m.map (·.1))
    rw [List.map_map,List.map_map] at this
    rw [List.map_map]
    exact this
theorem Alc (hc:X.calm=true):MO X (.builtin "sorted") (ArF X.K):=by
  intro pins s σ H vs us Q I r h
  obtain ⟨a,l,rfl,hs,hi,q⟩:=h
  obtain ⟨its,rv,hl,hz⟩:=I.list hs
  rw [Vals.ArH r]
  have ev:=AdM rv
  rw [List.map_map] at ev
  have hL:l.length≤sizeLine:=by rw [List.length_map,List.length_map] at hz; exact hz
  have hsz:its.length≤sizeLine:=by rw [ev,List.length_map]; exact hL
  refine AbK (hi.YA I) hL (I.ok.hd hc) (fun A E Q' hh g=>collect_list hl.isList ?_ hsz) fun m h2 tk p e pm sm z k he=>AbI I hL pm z k he (q m p pm sm (I.hok.fresh z))
  rw [show its=l.map fun x=>Value.ref x.1 from ev]
  refine g _ s.toks ?_ fun b o e=>?_
  · rw [Heap.size_update,size_push']; exact Nat.le_succ _
  · rw [Heap.get?_update_ne _ _ _ _ (Nat.ne_of_lt (Heap.lt_size e))]
    exact Heap.get?_push_of_some _ e
def ArE:List V→Hp→VK→Prop:=fun vs H Q=>∃ (d:Addr) (kvs:List (List Key × V)) (nss:List (List Int)),vs=[V.ref d]∧H d=some (.dT kvs)∧kvs.map (·.1)=nss.map (·.map Sum.inl)∧(∀ ns ∈ nss,ns≠[]) ∧
  ∀ (m:List (Addr × List Int)) (p:Addr),Aeh H m→(m.map (·.2)).Perm nss→m.Pairwise (fun x y=>HT.lexLt y.2 x.2=false)→H p=none→Q (.ref p) (upd H p (.lst ((m.map (·.1)).map V.ref)))
theorem Aoc {H:Hp}:∀ {kvs:List (List Key × V)} {xs:List (List Key × Addr × Value)} {nss:List (List Int)},KT H kvs xs→kvs.map (·.1)=nss.map (·.map Sum.inl)→(∀ ns ∈ nss,ns≠[]) →
    ∃ l:List (Addr × List Int),xs.map (fun x=>x.2.1)=l.map (·.1)∧l.map (·.2)=nss∧Aeh H l
  | _,_,[],.nil,e,_=>⟨[],rfl,rfl,fun _ h=>nomatch h⟩
  | _,_,ns::nss,.nil,e,_=>nomatch e
  | _,_,[],.cons _ _,e,_=>nomatch e
  | _,_,ns::nss,.cons (a:=a) (b:=b) q t,e,hn=>by
    rw [List.map_cons,List.map_cons,List.cons.injEq] at e
    obtain ⟨l,h1,h2,h3⟩:=Aoc t e.2 fun x hx=>hn x (List.mem_cons_of_mem _ hx)
    refine ⟨(b.2.1,ns)::l,by rw [List.map_cons,List.map_cons,h1],by rw [List.map_cons,h2],fun x hx=>?_⟩
    rcases List.mem_cons.mp hx with z | z
    · subst z
      refine ⟨hn ns (List.mem_cons_self ..),?_⟩
      have:=q.2.1
      rw [e.1,List.map_map] at this
      exact this
    · exact h3 x z
theorem Alb (hc:X.calm=true):MO X (.builtin "sorted") ArE:=by
  intro pins s σ H vs us Q I r h
  obtain ⟨d,kvs,nss,rfl,hd,hk,hn,q⟩:=h
  rw [Vals.ArH r]
  obtain ⟨z,hsy,xs,rel,o,es,ep,g1,g2,g3,g4,_,_⟩:=AqV I.hok hd
  obtain ⟨l,e1,e2,hi⟩:=Aoc rel hk hn
  have hlx:kvs.length=xs.length:=Paired.length rel
  have hll:l.length=xs.length:=by have:=congrArg List.length e1; rw [List.length_map,List.length_map] at this; exact this.symm
  have hes:es.toList.map (·.key)=l.map fun x=>Value.ref x.1:=by
    rw [g4,List.map_map]
    have:=congrArg (List.map Value.ref) e1
    rw [List.map_map,List.map_map] at this
    exact this
  have hsz:es.size=xs.length:=size_of_entries g4
  refine AbK (hi.YA I) (by omega) (I.ok.hd hc) (fun A E Q' hh g=>Ae7 hsy g1 g2 g3 hh (by omega) ?_) fun m h2 tk p e pm sm z k he=>AbI I (by omega) pm z k he (q m p (fun x hx=>hi x (pm.mem_iff.mp hx)) (by rw [← e2]; exact pm.map _) sm (I.hok.fresh z))
  intro h1 tk z1 k1
  rw [hes]
  exact g h1 tk z1 k1
end
end L2
end
section
set_option maxRecDepth 100000
set_option maxHeartbeats 4000000
namespace Ft
open PySem PySem.Spec PyProof.Rows L2
def top (i:Nat):Stmt:=PySem.Challenge.pw_firsttree_s01_answers.main.body.getD i (.Pass ⟨0,0,0,0⟩)
abbrev Fy:Stmt:=top 5
abbrev E1:Stmt:=top 6
abbrev E7:Stmt:=top 7
abbrev E5:Stmt:=top 8
abbrev E6:Stmt:=top 9
abbrev E3:Stmt:=top 10
abbrev DS:Stmt:=top 11
abbrev HU:Stmt:=top 16
abbrev Jw:Stmt:=top 17
abbrev HR:Stmt:=top 18
abbrev GB:Stmt:=top 19
abbrev G3:Stmt:=inClass (top 30) 0
abbrev HN:Stmt:=top 31
abbrev Jv:Stmt:=top 32
abbrev G6:Stmt:=top 33
abbrev HQ:Stmt:=top 34
abbrev GA:Stmt:=top 35
abbrev G5:Stmt:=top 36
abbrev G8:Stmt:=top 37
abbrev G9:Stmt:=top 38
abbrev G4:Stmt:=inClass (top 40) 0
abbrev DR:Stmt:=inClass (top 40) 1
abbrev DP:Stmt:=inClass (top 40) 2
abbrev DQ:Stmt:=inClass (top 40) 3
abbrev BS:Stmt:=inClass (top 40) 4
abbrev Cg:Stmt:=inClass (top 40) 5
abbrev CI:Stmt:=inClass (top 40) 6
abbrev Cf:Stmt:=inClass (top 40) 7
abbrev Dl:Stmt:=inClass (top 40) 8
abbrev BB:Stmt:=inClass (top 40) 9
abbrev Bw:Stmt:=inClass (top 40) 10
abbrev BU:Stmt:=inClass (top 40) 11
abbrev Dm:Stmt:=inClass (top 40) 12
abbrev Cn:Stmt:=inClass (top 40) 13
abbrev Dn:Stmt:=inClass (top 40) 14
abbrev Cs:Stmt:=inClass (top 40) 15
abbrev DN:Stmt:=inClass (top 48) 0
abbrev BE:Stmt:=inClass (top 48) 1
abbrev BR:Stmt:=inClass (top 48) 2
abbrev Cj:Stmt:=inClass (top 48) 3
abbrev Cr:Stmt:=inClass (top 48) 4
abbrev BF:Stmt:=inClass (top 48) 5
abbrev CC:Stmt:=inClass (top 48) 6
abbrev CB:Stmt:=inClass (top 48) 7
abbrev HS:Stmt:=top 49
abbrev DT:Stmt:=top 52
abbrev Ey:Stmt:=inClass (top 63) 0
abbrev Dc:Stmt:=inClass (top 63) 1
abbrev Ex:Stmt:=inClass (top 63) 2
abbrev Ez:Stmt:=inClass (top 63) 3
abbrev Ck:Stmt:=inClass (top 63) 4
abbrev DO:Stmt:=inClass (top 63) 5
abbrev CH:Stmt:=inClass (top 63) 6
abbrev CF:Stmt:=inClass (top 63) 7
abbrev CG:Stmt:=inClass (top 63) 8
abbrev Cm:Stmt:=inClass (top 63) 9
abbrev CD:Stmt:=inClass (top 63) 10
abbrev Fx:Stmt:=top 73
abbrev G7:Stmt:=top 74
abbrev Jx:Stmt:=top 75
abbrev G1:Stmt:=inClass (top 87) 0
abbrev D9:Stmt:=inClass (top 87) 1
abbrev HP:Stmt:=top 88
abbrev HV:Stmt:=top 89
abbrev E4:Stmt:=top 90
abbrev Jy:Stmt:=top 91
abbrev HM:Stmt:=top 92
theorem Rr:A0 ["tree","path","fitting","kind"] ["tree","path","fitting"] (Af Fy):=⟨rfl,rfl,rfl,by decide +kernel,rfl,by decide +kernel,by decide +kernel⟩
theorem Ab5:A0 ["tree","path"] ["tree","path"] (Af E1):=⟨rfl,rfl,rfl,by decide +kernel,rfl,by decide +kernel,by decide +kernel⟩
theorem PV:A0 ["tree","path","refusal"] ["tree","path"] (Af E7):=⟨rfl,rfl,rfl,by decide +kernel,rfl,by decide +kernel,by decide +kernel⟩
theorem PU:A0 ["tree","path","start","most","refusal"] ["tree","path","start","most"] (Af E5):=⟨rfl,rfl,rfl,by decide +kernel,rfl,by decide +kernel,by decide +kernel⟩
theorem Ka:A0 ["tree","path","other","number","is_same"] ["tree","path","other"] (Af E6):=⟨rfl,rfl,rfl,by decide +kernel,rfl,by decide +kernel,by decide +kernel⟩
theorem PQ:A0 ["tree","path","other"] ["tree","path"] (Af E3):=⟨rfl,rfl,rfl,by decide +kernel,rfl,by decide +kernel,by decide +kernel⟩
theorem FU:A0 ["tree","path","refusal","answer","other"] ["tree","path"] (Af DS):=⟨rfl,rfl,rfl,by decide +kernel,rfl,by decide +kernel,by decide +kernel⟩
theorem ID:A0 ["name","parts","part","byte"] ["name"] (Af HU):=⟨rfl,rfl,rfl,by decide +kernel,rfl,by decide +kernel,by decide +kernel⟩
theorem Am4:A0 ["part"] ["part"] (Af Jw):=⟨rfl,rfl,rfl,by decide +kernel,rfl,by decide +kernel,by decide +kernel⟩
theorem Ts:A0 ["name","part"] ["name"] (Af HR):=⟨rfl,rfl,rfl,by decide +kernel,rfl,by decide +kernel,by decide +kernel⟩
theorem M9:A0 ["path","at"] ["path"] (Af GB):=⟨rfl,rfl,rfl,by decide +kernel,rfl,by decide +kernel,by decide +kernel⟩
theorem Agy:A0 ["self","row"] ["self","row"] (Af G3):=⟨rfl,rfl,rfl,by decide +kernel,rfl,by decide +kernel,by decide +kernel⟩
theorem Aj2:A0 ["byte"] ["byte"] (Af HN):=⟨rfl,rfl,rfl,by decide +kernel,rfl,by decide +kernel,by decide +kernel⟩
theorem Am3:A0 ["digit"] ["digit"] (Af Jv):=⟨rfl,rfl,rfl,by decide +kernel,rfl,by decide +kernel,by decide +kernel⟩
theorem M8:A0 ["number","row"] ["number"] (Af G6):=⟨rfl,rfl,rfl,by decide +kernel,rfl,by decide +kernel,by decide +kernel⟩
theorem PN:A0 ["serial","mode","names","size","length","row","number"] ["serial","mode","names","size","length"] (Af HQ):=⟨rfl,rfl,rfl,by decide +kernel,rfl,by decide +kernel,by decide +kernel⟩
theorem Hq:A0 ["row","which","start","number","byte"] ["row","which"] (Af GA):=⟨rfl,rfl,rfl,by decide +kernel,rfl,by decide +kernel,by decide +kernel⟩
theorem Ag0:A0 ["at","byte"] ["at","byte"] (Af G5):=⟨rfl,rfl,rfl,by decide +kernel,rfl,by decide +kernel,by decide +kernel⟩
theorem Ag1:A0 ["head"] ["head"] (Af G8):=⟨rfl,rfl,rfl,by decide +kernel,rfl,by decide +kernel,by decide +kernel⟩
theorem Ag2:A0 ["head","name"] ["head","name"] (Af G9):=⟨rfl,rfl,rfl,by decide +kernel,rfl,by decide +kernel,by decide +kernel⟩
theorem Agz:A0 ["self"] ["self"] (Af G4):=⟨rfl,rfl,rfl,by decide +kernel,rfl,by decide +kernel,by decide +kernel⟩
theorem Yz:A0 ["self","path"] ["self","path"] (Af DR):=⟨rfl,rfl,rfl,by decide +kernel,rfl,by decide +kernel,by decide +kernel⟩
theorem Yx:A0 ["self","path"] ["self","path"] (Af DP):=⟨rfl,rfl,rfl,by decide +kernel,rfl,by decide +kernel,by decide +kernel⟩
theorem Yy:A0 ["self","path"] ["self","path"] (Af DQ):=⟨rfl,rfl,rfl,by decide +kernel,rfl,by decide +kernel,by decide +kernel⟩
theorem NM:A0 ["self"] ["self"] (Af BS):=⟨rfl,rfl,rfl,by decide +kernel,rfl,by decide +kernel,by decide +kernel⟩
theorem Gh:A0 ["self","number","path"] ["self","number"] (Af Cg):=⟨rfl,rfl,rfl,by decide +kernel,rfl,by decide +kernel,by decide +kernel⟩
theorem Tr:A0 ["self"] ["self"] (Af CI):=⟨rfl,rfl,rfl,by decide +kernel,rfl,by decide +kernel,by decide +kernel⟩
theorem Gg:A0 ["self","data"] ["self"] (Af Cf):=⟨rfl,rfl,rfl,by decide +kernel,rfl,by decide +kernel,by decide +kernel⟩
theorem Ww:A0 ["self","number"] ["self","number"] (Af Dl):=⟨rfl,rfl,rfl,by decide +kernel,rfl,by decide +kernel,by decide +kernel⟩
theorem CJ:A0 ["self","path","number","size","total","other"] ["self","path","number","size"] (Af BB):=⟨rfl,rfl,rfl,by decide +kernel,rfl,by decide +kernel,by decide +kernel⟩
theorem Er:A0 ["self","path","number","other"] ["self","path","number"] (Af Bw):=⟨rfl,rfl,rfl,by decide +kernel,rfl,by decide +kernel,by decide +kernel⟩
theorem NN:A0 ["self","path"] ["self","path"] (Af BU):=⟨rfl,rfl,rfl,by decide +kernel,rfl,by decide +kernel,by decide +kernel⟩
theorem Wx:A0 ["self","path","text"] ["self","path","text"] (Af Dm):=⟨rfl,rfl,rfl,by decide +kernel,rfl,by decide +kernel,by decide +kernel⟩
theorem PM:A0 ["self","path","data"] ["self","path","data"] (Af Cn):=⟨rfl,rfl,rfl,by decide +kernel,rfl,by decide +kernel,by decide +kernel⟩
theorem LG:A0 ["self","path","number","before"] ["self","path","number"] (Af Dn):=⟨rfl,rfl,rfl,by decide +kernel,rfl,by decide +kernel,by decide +kernel⟩
theorem Rc:A0 ["self","number","data"] ["self","number","data"] (Af Cs):=⟨rfl,rfl,rfl,by decide +kernel,rfl,by decide +kernel,by decide +kernel⟩
theorem Yw:A0 ["self"] ["self"] (Af DN):=⟨rfl,rfl,rfl,by decide +kernel,rfl,by decide +kernel,by decide +kernel⟩
theorem M7:A0 ["self"] ["self"] (Af BE):=⟨rfl,rfl,rfl,by decide +kernel,rfl,by decide +kernel,by decide +kernel⟩
theorem NL:A0 ["self","head","name"] ["self","head","name"] (Af BR):=⟨rfl,rfl,rfl,by decide +kernel,rfl,by decide +kernel,by decide +kernel⟩
theorem IC:A0 ["self","head","path","parent"] ["self","head","path"] (Af Cj):=⟨rfl,rfl,rfl,by decide +kernel,rfl,by decide +kernel,by decide +kernel⟩
theorem Rb:A0 ["self","head","path"] ["self","head","path"] (Af Cr):=⟨rfl,rfl,rfl,by decide +kernel,rfl,by decide +kernel,by decide +kernel⟩
theorem Hn:A0 ["self","head","number"] ["self","head"] (Af BF):=⟨rfl,rfl,rfl,by decide +kernel,rfl,by decide +kernel,by decide +kernel⟩
theorem Tn:A0 ["self","head","name","data"] ["self","head","name","data"] (Af CC):=⟨rfl,rfl,rfl,by decide +kernel,rfl,by decide +kernel,by decide +kernel⟩
theorem Gf:A0 ["self","head","path","data","number"] ["self","head","path","data"] (Af CB):=⟨rfl,rfl,rfl,by decide +kernel,rfl,by decide +kernel,by decide +kernel⟩
theorem Aj4:A0 ["head"] ["head"] (Af HS):=⟨rfl,rfl,rfl,by decide +kernel,rfl,by decide +kernel,by decide +kernel⟩
theorem Y0:A0 ["length"] ["length"] (Af DT):=⟨rfl,rfl,rfl,by decide +kernel,rfl,by decide +kernel,by decide +kernel⟩
theorem Ab2:A0 ["self"] ["self"] (Af Ey):=⟨rfl,rfl,rfl,by decide +kernel,rfl,by decide +kernel,by decide +kernel⟩
theorem Vk:A0 ["self"] ["self"] (Af Dc):=⟨rfl,rfl,rfl,by decide +kernel,rfl,by decide +kernel,by decide +kernel⟩
theorem PK:A0 ["self","row","byte"] ["self","row"] (Af Ex):=⟨rfl,rfl,rfl,by decide +kernel,rfl,by decide +kernel,by decide +kernel⟩
theorem Ab3:A0 ["self","byte"] ["self","byte"] (Af Ez):=⟨rfl,rfl,rfl,by decide +kernel,rfl,by decide +kernel,by decide +kernel⟩
theorem PJ:A0 ["self","byte"] ["self","byte"] (Af Ck):=⟨rfl,rfl,rfl,by decide +kernel,rfl,by decide +kernel,by decide +kernel⟩
theorem FT:A0 ["self","phase","wanted"] ["self","phase","wanted"] (Af DO):=⟨rfl,rfl,rfl,by decide +kernel,rfl,by decide +kernel,by decide +kernel⟩
theorem Ep:A0 ["self"] ["self"] (Af CH):=⟨rfl,rfl,rfl,by decide +kernel,rfl,by decide +kernel,by decide +kernel⟩
theorem Tp:A0 ["self"] ["self"] (Af CF):=⟨rfl,rfl,rfl,by decide +kernel,rfl,by decide +kernel,by decide +kernel⟩
theorem Tq:A0 ["self"] ["self"] (Af CG):=⟨rfl,rfl,rfl,by decide +kernel,rfl,by decide +kernel,by decide +kernel⟩
theorem PL:A0 ["self"] ["self"] (Af Cm):=⟨rfl,rfl,rfl,by decide +kernel,rfl,by decide +kernel,by decide +kernel⟩
theorem To:A0 ["self"] ["self"] (Af CD):=⟨rfl,rfl,rfl,by decide +kernel,rfl,by decide +kernel,by decide +kernel⟩
theorem FG:A0 ["tree","row","serials","path","kind"] ["tree"] (Af Fx):=⟨rfl,rfl,rfl,by decide +kernel,rfl,by decide +kernel,by decide +kernel⟩
theorem Jf:A0 ["tree","path","serials","number","data"] ["tree","path","serials"] (Af G7):=⟨rfl,rfl,rfl,by decide +kernel,rfl,by decide +kernel,by decide +kernel⟩
theorem Ab4:A0 ["name","serial","mode","names","data","row"] ["name","serial","mode","names","data"] (Af Jx):=⟨rfl,rfl,rfl,by decide +kernel,rfl,by decide +kernel,by decide +kernel⟩
theorem Agx:A0 ["self"] ["self"] (Af G1):=⟨rfl,rfl,rfl,by decide +kernel,rfl,by decide +kernel,by decide +kernel⟩
theorem Ho:A0 ["self","call","numbers","rows","tree","row"] ["self","call","numbers","rows"] (Af D9):=⟨rfl,rfl,rfl,by decide +kernel,rfl,by decide +kernel,by decide +kernel⟩
theorem Aj3:A0 ["stream"] ["stream"] (Af HP):=⟨rfl,rfl,rfl,by decide +kernel,rfl,by decide +kernel,by decide +kernel⟩
theorem PX:A0 ["stream","tree","ending"] ["stream"] (Af HV):=⟨rfl,rfl,rfl,by decide +kernel,rfl,by decide +kernel,by decide +kernel⟩
theorem PR:A0 ["tree","call","numbers","paths","path"] ["tree","call","numbers","paths"] (Af E4):=⟨rfl,rfl,rfl,by decide +kernel,rfl,by decide +kernel,by decide +kernel⟩
theorem MB:A0 ["calls","at","wanted","rows","row"] ["calls","at","wanted"] (Af Jy):=⟨rfl,rfl,rfl,by decide +kernel,rfl,by decide +kernel,by decide +kernel⟩
theorem Ci:A0 ["calls","desk","answered","at","call","form","numbers","rows","answer","row"] ["calls"] (Af HM):=⟨rfl,rfl,rfl,by decide +kernel,rfl,by decide +kernel,by decide +kernel⟩
set_option genInjectivity false in
set_option genSizeOf false in
structure Ad where
  Bv:Addr
  A8:Addr
  AA:Addr
  Am:Addr
  D7:Addr
  D0:Addr
  Mf:FuncData
  CO:Addr
  KY:FuncData
  CU:Addr
  Ld:FuncData
  CS:Addr
  Lb:FuncData
  CT:Addr
  Lc:FuncData
  CP:Addr
  KZ:FuncData
  C7:Addr
  JQ:FuncData
  Fi:Addr
  RV:FuncData
  Gp:Addr
  VL:FuncData
  Gq:Addr
  VM:FuncData
  Eb:Addr
  OK:FuncData
  Dx:Addr
  OC:FuncData
  Fe:Addr
  RR:FuncData
  Gn:Addr
  VJ:FuncData
  DW:Addr
  OF:FuncData
  Fg:Addr
  RT:FuncData
  Ea:Addr
  OJ:FuncData
  DV:Addr
  OE:FuncData
  DY:Addr
  OH:FuncData
  DZ:Addr
  OI:FuncData
  Dy:Addr
  OD:FuncData
  Ce:Addr
  JP:FuncData
  Cc:Addr
  JN:FuncData
  Cd:Addr
  JO:FuncData
  Bb:Addr
  Fc:FuncData
  B4:Addr
  Hd:FuncData
  B3:Addr
  Hc:FuncData
  B2:Addr
  Hb:FuncData
  BJ:Addr
  II:FuncData
  AM:Addr
  Ek:FuncData
  AW:Addr
  EC:FuncData
  Bc:Addr
  Fd:FuncData
  BK:Addr
  IJ:FuncData
  Bi:Addr
  F7:FuncData
  BL:Addr
  IK:FuncData
  Bn:Addr
  Ga:FuncData
  Cb:Addr
  JM:FuncData
  AU:Addr
  EA:FuncData
  Ba:Addr
  Fb:FuncData
  Bf:Addr
  F4:FuncData
  Bm:Addr
  FZ:FuncData
  AV:Addr
  EB:FuncData
  By:Addr
  GX:FuncData
  Bx:Addr
  GW:FuncData
  Fh:Addr
  RU:FuncData
  C8:Addr
  JR:FuncData
  Cy:Addr
  KU:FuncData
  B9:Addr
  HJ:FuncData
  Cw:Addr
  KS:FuncData
  Cz:Addr
  KW:FuncData
  Bg:Addr
  F5:FuncData
  Bq:Addr
  DL:FuncData
  AR:Addr
  CA:FuncData
  B0:Addr
  GZ:FuncData
  B1:Addr
  Ha:FuncData
  Bh:Addr
  F6:FuncData
  Bz:Addr
  GY:FuncData
  Dz:Addr
  Me:FuncData
  DX:Addr
  OG:FuncData
  Gr:Addr
  VN:FuncData
  Dv:Addr
  OB:FuncData
  Cv:Addr
  KR:FuncData
  Ff:Addr
  RS:FuncData
  Fj:Addr
  RW:FuncData
  CQ:Addr
  La:FuncData
  Gs:Addr
  VO:FuncData
  Fs:Addr
  Lw:FuncData
  AqD:Addr
  V9:Addr
  AkC:Addr
  AnM:Addr
  AnL:Addr
  Vz:Addr
  V0:Addr
  V1:Addr
  V2:Addr
  V3:Addr
  V4:Addr
  V5:Addr
  V6:Addr
  V7:Addr
  R0:Addr
structure Tx (K:PySem.W.Frag) (mg:Str→Option Value) (A:Ad):Prop where
  BO:Cls K A.Bv
  Avf:mg "Head" = some (.ref A.Bv)
  AvA:Mk K A.Bv A.Dx
  Ic:Bp K A.Bv "serial"
  Co:Bp K A.Bv "kind"
  Hh:Bp K A.Bv "names"
  BD:Bp K A.Bv "size"
  Ja:Bp K A.Bv "major"
  Jb:Bp K A.Bv "minor"
  D8:Bp K A.Bv "length"
  AF:Cls K A.A8
  Avq:mg "Tree" = some (.ref A.A8)
  AvB:Mk K A.A8 A.Dy
  C2:Bp K A.A8 "kinds"
  Hj:Bp K A.A8 "texts"
  B5:Bp K A.A8 "holders"
  Bt:Bp K A.A8 "contents"
  BP:Bp K A.A8 "last_number"
  AL:Cls K A.AA
  Apl:mg "Builder" = some (.ref A.AA)
  ApQ:Mk K A.AA A.Cb
  AK:Bp K A.AA "tree"
  CZ:Bp K A.AA "linked"
  Ah:Cls K A.Am
  Aie:mg "Stream" = some (.ref A.Am)
  AiO:Mk K A.Am A.Cy
  Bu:Bp K A.Am "builder"
  BH:Bp K A.Am "code"
  Fn:Bp K A.Am "place"
  An:Bp K A.Am "phase"
  AQ:Bp K A.Am "part"
  BM:Bp K A.Am "wanted"
  AO:Bp K A.Am "head"
  CW:Bp K A.Am "name"
  Oq:Cls K A.D7
  Avb:mg "Desk" = some (.ref A.D7)
  Av9:Mk K A.D7 A.Dv
  C1:Bp K A.D7 "stream"
  Eh:Fun K "refusal_of" "refusal_of" Fy A.D0 A.Mf
  GI:Binds K A.Mf ["tree","path","fitting"] []
  LO:mg "refusal_of" = some (.ref A.D0)
  F8:Fun K "kind_answer" "kind_answer" E1 A.CO A.KY
  KH:Binds K A.KY ["tree","path"] []
  AbX:mg "kind_answer" = some (.ref A.CO)
  FE:Fun K "size_answer" "size_answer" E7 A.CU A.Ld
  KO:Binds K A.Ld ["tree","path"] []
  Acd:mg "size_answer" = some (.ref A.CU)
  FC:Fun K "read_answer" "read_answer" E5 A.CS A.Lb
  KL:Binds K A.Lb ["tree","path","start","most"] []
  Aca:mg "read_answer" = some (.ref A.CS)
  FD:Fun K "same_answer" "same_answer" E6 A.CT A.Lc
  KN:Binds K A.Lc ["tree","path","other"] []
  Acb:mg "same_answer" = some (.ref A.CT)
  F9:Fun K "next_answer" "next_answer" E3 A.CP A.KZ
  KI:Binds K A.KZ ["tree","path"] []
  AbY:mg "next_answer" = some (.ref A.CP)
  EW:Fun K "names_answer" "names_answer" DS A.C7 A.JQ
  J8:Binds K A.JQ ["tree","path"] []
  YQ:mg "names_answer" = some (.ref A.C7)
  JA:Fun K "parts_of" "parts_of" HU A.Fi A.RV
  Rv:Binds K A.RV ["name"] []
  Ak7:mg "parts_of" = some (.ref A.Fi)
  Lk:Fun K "is_part" "is_part" Jw A.Gp A.VL
  Vv:Binds K A.VL ["part"] []
  AoB:mg "is_part" = some (.ref A.Gp)
  Ll:Fun K "is_path" "is_path" HR A.Gq A.VM
  Vw:Binds K A.VM ["name"] []
  AoC:mg "is_path" = some (.ref A.Gq)
  Il:Fun K "parent_of" "parent_of" GB A.Eb A.OK
  NZ:Binds K A.OK ["path"] []
  Ahh:mg "parent_of" = some (.ref A.Eb)
  Kf:Fun K "__init__" "Head.__init__" G3 A.Dx A.OC
  NS:Binds K A.OC ["self","row"] []
  HE:Fun K "digit_of" "digit_of" HN A.Fe A.RR
  LL:Binds K A.RR ["byte"] []
  YM:mg "digit_of" = some (.ref A.Fe)
  Lj:Fun K "byte_of" "byte_of" Jv A.Gn A.VJ
  Vu:Binds K A.VJ ["digit"] []
  AoA:mg "byte_of" = some (.ref A.Gn)
  Ih:Fun K "digits_of" "digits_of" G6 A.DW A.OF
  NV:Binds K A.OF ["number"] []
  Ahd:mg "digits_of" = some (.ref A.DW)
  J9:Fun K "head_row" "head_row" HQ A.Fg A.RT
  Ru:Binds K A.RT ["serial","mode","names","size","length"] []
  Ak6:mg "head_row" = some (.ref A.Fg)
  C4:Fun K "number_at" "number_at" GA A.Ea A.OJ
  Dr:Binds K A.OJ ["row","which"] []
  EX:mg "number_at" = some (.ref A.Ea)
  Ig:Fun K "byte_fits" "byte_fits" G5 A.DV A.OE
  NU:Binds K A.OE ["at","byte"] []
  Ahc:mg "byte_fits" = some (.ref A.DV)
  Ij:Fun K "head_fits" "head_fits" G8 A.DY A.OH
  NX:Binds K A.OH ["head"] []
  Ahf:mg "head_fits" = some (.ref A.DY)
  Ik:Fun K "name_fits" "name_fits" G9 A.DZ A.OI
  NY:Binds K A.OI ["head","name"] []
  Ahg:mg "name_fits" = some (.ref A.DZ)
  Kg:Fun K "__init__" "Tree.__init__" G4 A.Dy A.OD
  NT:Binds K A.OD ["self"] []
  GN:Fun K "kind_at" "Tree.kind_at" DR A.Ce A.JP
  C3:Binds K A.JP ["self","path"] []
  DJ:Meth K A.A8 "kind_at" A.Ce
  GK:Fun K "data_at" "Tree.data_at" DP A.Cc A.JN
  DG:Binds K A.JN ["self","path"] []
  GQ:Meth K A.A8 "data_at" A.Cc
  GL:Fun K "file_at" "Tree.file_at" DQ A.Cd A.JO
  DH:Binds K A.JO ["self","path"] []
  GR:Meth K A.A8 "file_at" A.Cd
  Dt:Fun K "ordered_paths" "Tree.ordered_paths" BS A.Bb A.Fc
  Dq:Binds K A.Fc ["self"] []
  Im:Meth K A.A8 "ordered_paths" A.Bb
  EO:Fun K "paths_with" "Tree.paths_with" Cg A.B4 A.Hd
  EG:Binds K A.Hd ["self","number"] []
  Kk:Meth K A.A8 "paths_with" A.B4
  EN:Fun K "path_count" "Tree.path_count" CI A.B3 A.Hc
  EF:Binds K A.Hc ["self"] []
  Kj:Meth K A.A8 "path_count" A.B3
  EM:Fun K "byte_count" "Tree.byte_count" Cf A.B2 A.Hb
  GH:Binds K A.Hb ["self"] []
  TJ:Meth K A.A8 "byte_count" A.B2
  FK:Fun K "has_file" "Tree.has_file" Dl A.BJ A.II
  IF:Binds K A.II ["self","number"] []
  Xj:Meth K A.A8 "has_file" A.BJ
  CM:Fun K "byte_count_with" "Tree.byte_count_with" BB A.AM A.Ek
  Ee:Binds K A.Ek ["self","path","number","size"] []
  LP:Meth K A.A8 "byte_count_with" A.AM
  Dj:Fun K "is_held_beside" "Tree.is_held_beside" Bw A.AW A.EC
  Dg:Binds K A.EC ["self","path","number"] []
  Hv:Meth K A.A8 "is_held_beside" A.AW
  Du:Fun K "put_directory" "Tree.put_directory" BU A.Bc A.Fd
  EV:Binds K A.Fd ["self","path"] []
  Oc:Meth K A.A8 "put_directory" A.Bc
  FL:Fun K "put_link" "Tree.put_link" Dm A.BK A.IJ
  IG:Binds K A.IJ ["self","path","text"] []
  Xk:Meth K A.A8 "put_link" A.BK
  DE:Fun K "put_new_file" "Tree.put_new_file" Cn A.Bi A.F7
  F3:Binds K A.F7 ["self","path","data"] []
  Q4:Meth K A.A8 "put_new_file" A.Bi
  FN:Fun K "put_name" "Tree.put_name" Dn A.BL A.IK
  FJ:Binds K A.IK ["self","path","number"] []
  MP:Meth K A.A8 "put_name" A.BL
  Eg:Fun K "change_data" "Tree.change_data" Cs A.Bn A.Ga
  FX:Binds K A.Ga ["self","number","data"] []
  Ry:Meth K A.A8 "change_data" A.Bn
  GJ:Fun K "__init__" "Builder.__init__" DN A.Cb A.JM
  Jz:Binds K A.JM ["self"] []
  Dh:Fun K "end_archive" "Builder.end_archive" BE A.AU A.EA
  E9:Binds K A.EA ["self"] []
  Nh:Meth K A.AA "end_archive" A.AU
  Ds:Fun K "name_fault" "Builder.name_fault" BR A.Ba A.Fb
  EU:Binds K A.Fb ["self","head","name"] []
  Ob:Meth K A.AA "name_fault" A.Ba
  DB:Fun K "has_place" "Builder.has_place" Cj A.Bf A.F4
  F0:Binds K A.F4 ["self","head","path"] []
  Q0:Meth K A.AA "has_place" A.Bf
  Ef:Fun K "has_room" "Builder.has_room" Cr A.Bm A.FZ
  FW:Binds K A.FZ ["self","head","path"] []
  Rx:Meth K A.AA "has_room" A.Bm
  Di:Fun K "linked_file" "Builder.linked_file" BF A.AV A.EB
  Df:Binds K A.EB ["self","head"] []
  Hu:Meth K A.AA "linked_file" A.AV
  EI:Fun K "do_item" "Builder.do_item" CC A.By A.GX
  ED:Binds K A.GX ["self","head","name","data"] []
  Kh:Meth K A.AA "do_item" A.By
  EH:Fun K "do_file" "Builder.do_file" CB A.Bx A.GW
  GD:Binds K A.GW ["self","head","path","data"] []
  TC:Meth K A.AA "do_file" A.Bx
  HG:Fun K "link_key" "link_key" HS A.Fh A.RU
  LN:Binds K A.RU ["head"] []
  YO:mg "link_key" = some (.ref A.Fh)
  C5:Fun K "zeros_behind" "zeros_behind" DT A.C8 A.JR
  DI:Binds K A.JR ["length"] []
  GP:mg "zeros_behind" = some (.ref A.C8)
  HZ:Fun K "__init__" "Stream.__init__" Ey A.Cy A.KU
  HW:Binds K A.KU ["self"] []
  Fp:Fun K "may_end" "Stream.may_end" Dc A.B9 A.HJ
  HC:Binds K A.HJ ["self"] []
  Vy:Meth K A.Am "may_end" A.B9
  HY:Fun K "feed" "Stream.feed" Ex A.Cw A.KS
  KC:Binds K A.KS ["self","row"] []
  Acf:Meth K A.Am "feed" A.Cw
  Ia:Fun K "take" "Stream.take" Ez A.Cz A.KW
  KG:Binds K A.KW ["self","byte"] []
  Acg:Meth K A.Am "take" A.Cz
  DC:Fun K "byte_fault" "Stream.byte_fault" Ck A.Bg A.F5
  F1:Binds K A.F5 ["self","byte"] []
  Q1:Meth K A.Am "byte_fault" A.Bg
  Dd:Fun K "begin" "Stream.begin" DO A.Bq A.DL
  Bo:Binds K A.DL ["self","phase","wanted"] []
  BG:Meth K A.Am "begin" A.Bq
  BY:Fun K "end_part" "Stream.end_part" CH A.AR A.CA
  C9:Binds K A.CA ["self"] []
  ER:Meth K A.Am "end_part" A.AR
  EK:Fun K "end_head" "Stream.end_head" CF A.B0 A.GZ
  GF:Binds K A.GZ ["self"] []
  TF:Meth K A.Am "end_head" A.B0
  EL:Fun K "end_name" "Stream.end_name" CG A.B1 A.Ha
  GG:Binds K A.Ha ["self"] []
  TH:Meth K A.Am "end_name" A.B1
  DD:Fun K "name_fault" "Stream.name_fault" Cm A.Bh A.F6
  F2:Binds K A.F6 ["self"] []
  Q3:Meth K A.Am "name_fault" A.Bh
  EJ:Fun K "end_data" "Stream.end_data" CD A.Bz A.GY
  EE:Binds K A.GY ["self"] []
  Ki:Meth K A.Am "end_data" A.Bz
  GO:Fun K "archive_of" "archive_of" Fx A.Dz A.Me
  LK:Binds K A.Me ["tree"] []
  Aeg:mg "archive_of" = some (.ref A.Dz)
  Ii:Fun K "file_item" "file_item" G7 A.DX A.OG
  NW:Binds K A.OG ["tree","path","serials"] []
  Ahe:mg "file_item" = some (.ref A.DX)
  Gj:Fun K "item_of" "item_of" Jx A.Gr A.VN
  Jj:Binds K A.VN ["name","serial","mode","names","data"] []
  Qk:mg "item_of" = some (.ref A.Gr)
  Ke:Fun K "__init__" "Desk.__init__" G1 A.Dv A.OB
  NR:Binds K A.OB ["self"] []
  HX:Fun K "answer" "Desk.answer" D9 A.Cv A.KR
  KA:Binds K A.KR ["self","call","numbers","rows"] []
  Ace:Meth K A.D7 "answer" A.Cv
  HF:Fun K "fault_of" "fault_of" HP A.Ff A.RS
  LM:Binds K A.RS ["stream"] []
  YN:mg "fault_of" = some (.ref A.Ff)
  JB:Fun K "state_of" "state_of" HV A.Fj A.RW
  Rw:Binds K A.RW ["stream"] []
  Ak8:mg "state_of" = some (.ref A.Fj)
  FA:Fun K "path_answer" "path_answer" E4 A.CQ A.La
  KJ:Binds K A.La ["tree","call","numbers","paths"] []
  AbZ:mg "path_answer" = some (.ref A.CQ)
  Lm:Fun K "rows_at" "rows_at" Jy A.Gs A.VO
  Vx:Binds K A.VO ["calls","at","wanted"] []
  AoD:mg "rows_at" = some (.ref A.Gs)
  Qj:Fun K "answers" "answers" HM A.Fs A.Lw
  Adr:Binds K A.Lw ["calls"] []
  Ao9:mg "answers" = some (.ref A.Fs)
  L0:∃ t,mg "NOTHING" = some (.int 0 t)
  OS:∃ t,mg "FILE" = some (.int 1 t)
  Iy:∃ t,mg "DIRECTORY" = some (.int 2 t)
  VV:∃ t,mg "LINK" = some (.int 3 t)
  AnZ:∃ t,mg "SLASH" = some (.int 47 t)
  Ark:∃ t,mg "DOT" = some (.int 46 t)
  Aac:∃ t,mg "LONGEST_PATH" = some (.int 255 t)
  Em:∃ t,mg "HEAD_BYTES" = some (.int 110 t)
  Aaa:∃ t,mg "DIGITS" = some (.int 8 t)
  XG:∃ t,mg "SHORTEST_NAME" = some (.int 2 t)
  Aab:∃ t,mg "LONGEST_NAME" = some (.int 256 t)
  Aad:∃ t,mg "LONGEST_TEXT" = some (.int 255 t)
  UJ:∃ t,mg "WRONG_NAME" = some (.int 3 t)
  AcG:∃ t,mg "WRONG_PLACE" = some (.int 4 t)
  Apt:∃ t,mg "NO_ROOM" = some (.int 5 t)
  Afm:∃ t,mg "MOST_PATHS" = some (.int 16 t)
  Afl:∃ t,mg "MOST_BYTES" = some (.int 600 t)
  Na:∃ t,mg "SEVERAL_NAMES" = some (.int 2 t)
  Avz:∃ t,mg "STEP" = some (.int 4 t)
  UI:∃ t,mg "WRONG_HEAD_BYTE" = some (.int 1 t)
  Afn:∃ t,mg "WRONG_HEAD" = some (.int 2 t)
  Al1:∃ t,mg "NOT_ZERO" = some (.int 6 t)
  Ad2:∃ t,mg "GAP" = some (.int 0 t)
  Le:∃ t,mg "HEAD" = some (.int 1 t)
  Aae:∃ t,mg "NAME" = some (.int 2 t)
  Fu:∃ t,mg "NAME_ZEROS" = some (.int 3 t)
  VT:∃ t,mg "DATA" = some (.int 4 t)
  U8:∃ t,mg "DATA_ZEROS" = some (.int 5 t)
  Aio:∃ t,mg "FILE_MODE" = some (.int 33188 t)
  VU:∃ t,mg "DIRECTORY_MODE" = some (.int 16877 t)
  Aiq:∃ t,mg "LINK_MODE" = some (.int 41471 t)
  Al0:∃ t,mg "END_MODE" = some (.int 0 t)
  OT:∃ t,mg "NO_SERIAL" = some (.int 0 t)
  U9:∃ t,mg "DIRECTORY_NAMES" = some (.int 2 t)
  Afk:∃ t,mg "LINK_NAMES" = some (.int 1 t)
  Ain:∃ t,mg "END_NAMES" = some (.int 1 t)
  Atk:∃ t,mg "RESET" = some (.int 1 t)
  Avt:∃ t,mg "FEED" = some (.int 2 t)
  Atl:∃ t,mg "STATE" = some (.int 3 t)
  Avu:∃ t,mg "KIND" = some (.int 4 t)
  Avy:∃ t,mg "SIZE" = some (.int 5 t)
  Avw:∃ t,mg "READ" = some (.int 6 t)
  Avx:∃ t,mg "SAME" = some (.int 7 t)
  Avv:∃ t,mg "NEXT" = some (.int 8 t)
  Atm:∃ t,mg "WRITE" = some (.int 10 t)
  AgQ:mg "MARK" = some (.ref A.AqD)
  Jg:∀ H,SqT K H A.AqD [.int 48,.int 55,.int 48,.int 55,.int 48,.int 49]
  Qw:mg "TRAILER" = some (.ref A.V9)
  ML:∀ H,SqT K H A.V9 [.int 84,.int 82,.int 65,.int 73,.int 76,.int 69,.int 82,.int 33,.int 33,.int 33]
  AmX:mg "ROOT" = some (.ref A.AkC)
  Qx:∀ H,SqT K H A.AkC [.int 46]
  Auu:mg "KINDS" = some (.ref A.AnM)
  Atq:KD K A.AnM (Aa1 [(8,1),(4,2),(10,3),(0,0)])
  Aut:mg "FORMS" = some (.ref A.AnL)
  Atp:KD K A.AnL [(Sum.inl 1,.ref A.Vz),(Sum.inl 2,.ref A.V0),(Sum.inl 3,.ref A.V1),(Sum.inl 4,.ref A.V2),(Sum.inl 5,.ref A.V3),(Sum.inl 6,.ref A.V4),(Sum.inl 7,.ref A.V5),(Sum.inl 8,.ref A.V6),(Sum.inl 9,.ref A.V7),(Sum.inl 10,.ref A.R0)]
  An8:∀ H,SqT K H A.Vz [.int 0,.int 0]
  An9:∀ H,SqT K H A.V0 [.int 0,.int 1]
  AnA:∀ H,SqT K H A.V1 [.int 0,.int 0]
  AnB:∀ H,SqT K H A.V2 [.int 0,.int 1]
  AnC:∀ H,SqT K H A.V3 [.int 0,.int 1]
  AnD:∀ H,SqT K H A.V4 [.int 2,.int 1]
  AnE:∀ H,SqT K H A.V5 [.int 0,.int 2]
  AnF:∀ H,SqT K H A.V6 [.int 0,.int 1]
  AnG:∀ H,SqT K H A.V7 [.int 0,.int 1]
  Aka:∀ H,SqT K H A.R0 [.int 0,.int 0]
  AwG:mg "all" = none
  AwH:mg "any" = none
  Es:mg "len" = none
  AkR:mg "list" = none
  Ahz:mg "sorted" = none
  Au9:mg "sum" = none
  Aex:mg "tuple" = none
end Ft
end
section
set_option maxRecDepth 100000
set_option maxHeartbeats 4000000
namespace Ft
open PySem PySem.Spec PyProof.Rows L2
set_option hygiene false in
local macro_rules | `(tactic| walk_at "rd")=>`(tactic| ((try dsimp only [Awv,Awp,AbO,tB,AmN,tOp,rI0,rI,rEq,rNe,tC,Qe,Awu,As1,tUn,rU,Asy,Aus,tOr,Awt,Asq,Axh,AuJ,tIf,Ast,AbN,AgL,tCB,Asr,Ao1,Asu,AvY,Agw,AvO,Axd,Axg,t2I,Awq,Asz,Awl,ipI,As0,AgM,tSl,Awr,Aww,Awk,AnY,Asv,AmS,AhO,wipe,Awx,AvQ,AvP,AvX,AmT,Asx,Arh,AjP,Ass,AmO,AmR,Awn,AgK,ArL,AmP,AmQ,Ao0,Aoz,Asw,Ari,Avs,Arj,AvW,Aub,AvU,AtZ,rIn,Agu,Agv,Abz,Ab0,AvV,AvT,AvR,tBM,Awm,L2.start,List.map_cons,List.map_nil,List.length_cons,List.length_nil,List.cons_append,List.nil_append,List.getElem?_cons_zero,List.getElem?_cons_succ,List.set_cons_zero,List.set_cons_succ,if_false,if_true,List.replicate]); simp only [Awv,Awp,AbO,tB,AmN,tOp,rI0,rI,rEq,rNe,tC,Qe,Awu,As1,tUn,rU,Asy,Aus,tOr,Awt,Asq,Axh,AuJ,tIf,Ast,AbN,AgL,tCB,Asr,Ao1,Asu,AvY,Agw,AvO,Axd,Axg,t2I,Awq,Asz,Awl,ipI,As0,AgM,tSl,Awr,Aww,Awk,AnY,Asv,AmS,Hr,Aui,Auj,Auh,AhO,wipe,Awx,AvQ,AvP,AvX,AmT,Asx,Arh,AjP,Ass,AmO,AmR,Awn,AgK,ArL,AmP,AmQ,Ao0,Aoz,Asw,Ari,Avs,Arj,AvW,Aub,AvU,AtZ,rIn,Agu,Agv,Abz,Ab0,AvV,AvT,AvR,tBM,Awm,reduceCtorEq,eq_self,L2.start,List.map_cons,List.map_nil,List.length_cons,List.length_nil,List.cons_append,List.nil_append,List.getElem?_cons_zero,List.getElem?_cons_succ,List.set_cons_zero,List.set_cons_succ,Option.some.injEq,V.int.injEq,V.bl.injEq,V.ref.injEq,HO.ins.injEq,List.cons.injEq,and_true,true_and,and_assoc,exists_eq_left',exists_and_left,exists_eq_left,exists_eq',exists_eq,decide_eq_true_eq,Bool.false_eq_true,if_false,if_true,List.replicate,Nat.sub_self,List.append_nil]))
section
variable {P:Program} {w:World} {K:PySem.W.Frag} {mg:Str→Option Value} {base:Heap} {A:Ad}
def Aun:Sp:=fun vs H Q _=>∃ c:Int,vs=[.int c]∧Q (.int (FtP.Sh c)) H
theorem WV (T:Tx K mg A):AY P w K mg base CX0 1 A.Fe A.RR ["byte"] Aun:=by
  refine T.HE.ok Aj2 (fun vs H Q E h=>?_) (fun cdv Ar outer s H vs Q E hr h=>?_)
  · obtain ⟨c,rfl,_⟩:=h
    rfl
  · obtain ⟨c,rfl,k⟩:=h
    refine ⟨_,(Ac (AD (Aby WZ WZ Ap (pv 0) Ap) (Ae (Av (CY Agd (pv 0) Ap))) A7)
      (Ac (AD (Aby WZ WZ Ap (pv 0) Ap) (Ae (Av (CY Agd (pv 0) Ap))) A7)
      (Ac (AD (Aby WZ WZ Ap (pv 0) Ap) (Ae (Av (CY Agd (pv 0) Ap))) A7)
      (Ae (Av (Abm T7 Ap)))))),?_⟩
    walk_at "rd"
    have k':∀ d,d=FtP.Sh c→Q (.int d) H:=fun d e=>e ▸ k
    unfold FtP.Sh at k'
    (repeat' split) <;> (refine k' _ ?_; (repeat' split) <;> omega)
def Auq:Sp:=fun vs H Q _=>∃ n:Nat,vs=[.int n]∧Q (.int (FtTree.padding n:Nat)) H
theorem FQ (T:Tx K mg A):AY P w K mg base CX0 1 A.C8 A.JR ["length"] Auq:=by
  refine T.C5.ok Y0 (fun vs H Q E h=>?_) (fun cdv Ar outer s H vs Q E hr h=>?_)
  · obtain ⟨c,rfl,_⟩:=h
    rfl
  · obtain ⟨c,rfl,k⟩:=h
    refine ⟨_,(Ae (Av (CY Ar2 (Abm T7 (pv 0)) (Ak T.Avz)))),?_⟩
    walk_at "rd"
    refine ⟨by decide,?_⟩
    have e:(-(c:Int)) % 4=((FtTree.padding c:Nat):Int):=by unfold FtTree.padding; omega
    rw [e]; exact k
theorem Qs (n c:UInt8):decide (V.int (c.toNat:Int)=V.int (n.toNat:Int))=(some n == some c):=by
  rw [Bool.eq_iff_iff,decide_eq_true_eq,beq_iff_eq,V.int.injEq,Option.some.injEq]
  exact ⟨fun h=>(toNat_inj h).symm,fun h=>by rw [h]⟩
def AmC:Sp:=fun vs H Q _=>∃ (i:Nat) (c:UInt8),vs=[.int i,.int c.toNat]∧Q (.bl (FtTree.headByte i c)) H
theorem AfW (T:Tx K mg A):AY P w K mg base CX0 2 A.DV A.OE ["at","byte"] AmC:=by
  refine T.Ig.ok Ag0 (fun vs H Q E h=>?_) (fun cdv Ar outer s H vs Q E hr h=>?_)
  · obtain ⟨i,c,rfl,_⟩:=h
    rfl
  · obtain ⟨i,c,rfl,k⟩:=h
    have hr1:GC 1 _:=hr.mono (by decide)
    refine ⟨_,(Ac (AD (Ao Xa (pv 0) (AS AI (by rfl) T.Es PySem.boot_len (Aa (Hm T.AgQ) Ag)) (As _)) (Ae (Av (Eo AX (pv 1) (Ng Afp (Hm T.AgQ) (pv 0) (fun _ _=>rfl)) (As _)))) A7)
      (Ae (Av (Eo Ar1 (AJ (WV T) (hr.mono (by decide)) (by rfl) T.YM T.HE.kp T.LL .nil A1 (Aa (pv 1) Ag)) Ap (As _))))),?_⟩
    walk_at "rd"
    refine ⟨_,.inr (T.Jg H),?_⟩
    have k':∀ d,d=FtTree.headByte i c→Q (.bl d) H:=fun d e=>e ▸ k
    refine Kd (fun h=>?_) (fun h=>?_)
    · have h6:i < 6:=by
        have h2:(i:Int) < ((6:Nat):Int):=h
        omega
      have e:FtTree.headByte i c=(FtTree.MAGIC[i]? == some c):=by unfold FtTree.headByte; rw [if_pos h6]
      rw [FtP.AwX] at e
      match i,h6,e with
      | 0,_,e=>exact ⟨_,T.Jg H,_,rfl,rfl,k' _ (by rw [e]; exact Qs 48 c)⟩
      | 1,_,e=>exact ⟨_,T.Jg H,_,rfl,rfl,k' _ (by rw [e]; exact Qs 55 c)⟩
      | 2,_,e=>exact ⟨_,T.Jg H,_,rfl,rfl,k' _ (by rw [e]; exact Qs 48 c)⟩
      | 3,_,e=>exact ⟨_,T.Jg H,_,rfl,rfl,k' _ (by rw [e]; exact Qs 55 c)⟩
      | 4,_,e=>exact ⟨_,T.Jg H,_,rfl,rfl,k' _ (by rw [e]; exact Qs 48 c)⟩
      | 5,_,e=>exact ⟨_,T.Jg H,_,rfl,rfl,k' _ (by rw [e]; exact Qs 49 c)⟩
    · have h6 : ¬ i < 6:=by
        have h2 : ¬ (i:Int) < ((6:Nat):Int):=h
        omega
      have e:FtTree.headByte i c=FtTree.isHex c:=by unfold FtTree.headByte; rw [if_neg h6]
      exact ⟨_,rfl,_,rfl,k' _ (by rw [e]; exact FtP.Api c)⟩
def Ql (bs:B8):Prop:=∀ (i:Nat) (b:UInt8),bs[i]? = some b→FtTree.headByte i b=true
def Asd (K:PySem.W.Frag):Sp:=fun vs H Q _=>∃ (a:Addr) (bs:B8) (k:Nat),vs=[.ref a,.int k]∧SqL K H a (bv bs)∧bs.length=110∧Ql bs∧k≤12∧∀ H',Ai [] H H'→Q (.int (FtTree.field bs k:Nat)) H'
theorem En (T:Tx K mg A):AY P w K mg base CX0 2 A.Ea A.OJ ["row","which"] (Asd K):=by
  refine T.C4.ok Hq (fun vs H Q E h=>?_) (fun cdv Ar outer s H vs Q E hr h=>?_)
  · obtain ⟨a,bs,k,rfl,_⟩:=h
    rfl
  · obtain ⟨a,bs,kk,rfl,hS,hl,hB,hk,k⟩:=h
    refine ⟨_,(Ac (Be (i:=2) Hq.nd rfl (Or.inl rfl) (CY Ge (AS AI (by rfl) T.Es PySem.boot_len (Aa (Hm T.AgQ) Ag)) (CY Ar3 (Ak T.Aaa) (pv 1))))
      (Ac (Be (i:=3) Hq.nd rfl (Or.inl rfl) Ap)
      (Ac (PH PassesOwn.never rfl (K6 (LD YJ (pv 0) (Ie (pv 2)) (Ie (CY Ge (pv 2) (Ak T.Aaa))))) (ET (i:=4) Hq.nd rfl (Or.inl rfl)) (Ae (Be (i:=3) Hq.nd rfl (Or.inl rfl) (CY Ge (CY Ar3 (pv 3) Ap) (AJ (WV T) (hr.mono (by decide)) (by rfl) T.YM T.HE.kp T.LL .nil A1 (Aa (pv 4) Ag))))))
      (Ae (Av (pv 3)))))),?_⟩
    walk_at "rd"
    refine ⟨_,.inr (T.Jg H),?_⟩
    refine ⟨.inl ⟨by decide,by decide⟩,_,hS,fun p hp=>⟨⟨_,SqL.of Ab⟩,?_⟩⟩
    have hcut:∀ x y:Int,x=((6 + 8 * kk:Nat):Int)→y=((6 + 8 * kk + 8:Nat):Int)→RQ (bv bs) (some x) (some y)=bv ((bs.drop (6 + 8 * kk)).take 8):=by
      intro x y hx hy
      rw [AnT hx hy (by omega) (by rw [Az]; omega)]
      unfold bv
      rw [AnQ,Ae3,show 6 + 8 * kk + 8 - (6 + 8 * kk)=8 by omega]
    rw [hcut _ _ (by simp only [List.length_cons,List.length_nil]; omega) (by simp only [List.length_cons,List.length_nil]; omega)]
    have hex_at:∀ (i:Nat) (c:UInt8),((bs.drop (6 + 8 * kk)).take 8)[i]? = some c→FtTree.isHex c=true:=by
      intro i c hc
      rw [List.getElem?_take] at hc
      split at hc
      · rw [List.getElem?_drop] at hc
        have:=hB _ c hc
        unfold FtTree.headByte at this
        rw [if_neg (by omega)] at this
        exact this
      · cases hc
    have hfin:FtTree.field bs kk=FtTree.hex (((bs.drop (6 + 8 * kk)).take 8).take (bv ((bs.drop (6 + 8 * kk)).take 8)).length):=by
      rw [Az,List.take_length]; rfl
    generalize ((bs.drop (6 + 8 * kk)).take 8)=ds at hex_at hfin
    refine L6 (bv ds) (fun i σ H'=>∃ v x,σ=[some (.ref a),some (.int kk),some x,some (.int (FtTree.hex (ds.take i):Nat)),v]∧H'=upd H p (.lst (bv ds))) ⟨none,_,rfl,rfl⟩ (fun i σ H' _ ⟨_,_,_,e⟩=>by rw [e]; exact SqL.of Ab) ?_ ?_
    · rintro i x σ H' hi ⟨v,y,rfl,rfl⟩
      obtain ⟨c,hc,rfl⟩:=AqI hi
      walk_at "rd"
      refine ⟨.inr ⟨by decide,by decide⟩,_,rfl,_,rfl,?_,rfl⟩
      rw [BC hc,FtP.Are,FtP.Alr (hex_at i c hc)]
      omega
    · rintro σ H' ⟨v,y,rfl,rfl⟩
      walk_at "rd"
      rw [← hfin]
      exact k _ (Ai.new hp)
def ArZ (K:PySem.W.Frag):Sp:=fun vs H Q _=>∃ (a:Addr) (p:B8),vs=[.ref a]∧SqL K H a (bv p)∧∀ H',Ai [] H H'→Q (.bl (FtP.OW p)) H'
theorem Amj (T:Tx K mg A):AY P w K mg base CX0 1 A.Gp A.VL ["part"] (ArZ K):=by
  refine T.Lk.ok Am4 (fun vs H Q E h=>?_) (fun cdv Ar outer s H vs Q E hr h=>?_)
  · obtain ⟨a,p,rfl,_⟩:=h
    rfl
  · obtain ⟨a,p,rfl,hS,k⟩:=h
    refine ⟨_,(Ac (AD (Aor (Ao AX (AS AI (by rfl) T.Es PySem.boot_len (Aa (pv 0) Ag)) Ap (As _)) (Agt (Ao Qt Ap (pv 0) rfl))).pt (Ae (Av Rq)) A7)
      (Ae (Av (Amn (Eo (Amm (by exact hr.units)) (pv 0) (BI (Aa (Ak T.Ark) Ag)) (As _)) (Amo (Eo (Amm (by exact hr.units)) (pv 0) (BI (Aa (Ak T.Ark) (Aa (Ak T.Ark) Ag))) (As _))))))),?_⟩
    walk_at "rd"
    refine ⟨_,.inl hS,?_⟩
    have k':∀ d H',Ai [] H H'→d=FtP.OW p→Q (.bl d) H':=fun d H' hk e=>e ▸ k H' hk
    unfold FtP.OW at k'
    refine Kd (fun h=>?_) (fun h=>?_)
    · refine k' _ _ Ai.refl ?_
      rw [Az] at h
      rw [if_pos (by rw [Bool.or_eq_true,decide_eq_true_eq]; left; omega)]
    · rw [Az] at h
      refine ⟨_,.inl hS,rfl,AnR p,?_⟩
      rw [show inV (.int 0) (bv p)=p.contains 0 from AuB 0 p]
      refine Kd (fun h0=>?_) (fun h0=>?_)
      · refine k' _ _ Ai.refl ?_
        rw [if_pos (by simp only [Bool.or_eq_true]; exact .inr h0)]
      · have hz : ¬ (decide (p.length=0) || p.contains 0)=true:=by
          rw [Bool.or_eq_true,decide_eq_true_eq]
          exact fun z=>z.elim (fun y=>h (by omega)) h0
        rw [if_neg hz] at k'
        refine ⟨Br (by decide),fun b hb=>?_⟩
        have k1:Ai [] H (upd H b (.lst [V.int 46])):=Ai.new hb
        refine AuF (q:=[46]) (hS.keep k1) (SqL.of Ab) ⟨_,rfl,?_⟩
        refine Kd (fun h1=>?_) (fun h1=>?_)
        · refine ⟨Br (by decide),fun c hc=>?_⟩
          have k2:Ai [] (upd H b (.lst [V.int 46])) (upd (upd H b (.lst [V.int 46])) c (.lst [V.int 46,V.int 46])):=Ai.new hc
          refine AuF (q:=[46,46]) (hS.keep (k1.trans k2)) (SqL.of Ab) (k' _ _ (k1.trans k2) ?_)
          have h2:p≠[46]:=by simpa using h1
          simp [h2]
        · refine k' _ _ k1 ?_
          have h2:p=[46]:=by simpa using h1
          simp [h2]
structure Axq (H:Hp) (l:Addr) (p:B8) (i:Nat) (H':Hp) (c:Addr) (as:List Addr) (acc:List B8) (cur:B8):Prop where
  kp:Ai [] H H'
  ln:H l=none
  at_:H' l=some (.lst (as.map V.ref))
  cat:H' c=some (.lst (bv cur))
  ca:c ∉ as
  cl:c≠l
  cn:H c=none
  pr:Paired (fun a q=>H' a=some (.lst (bv q))∧a≠l) as acc
  wk:FtP.walk acc cur (p.drop i)=FtTree.parts p
  la:acc.length≤i
  lc:cur.length≤i
theorem CK {α β:Type} {F G:α→β→Prop}:∀ {l:List α} {m:List β},Paired F l m→(∀ a b,a ∈ l→F a b→G a b)→Paired G l m
  | _,_,.nil,_=>.nil
  | _,_,.cons r t,h=>.cons (h _ _ (List.mem_cons_self ..) r) (CK t fun a b ha hf=>h a b (List.mem_cons_of_mem _ ha) hf)
theorem Abj {α β:Type} {F:α→β→Prop}:∀ {l:List α} {m:List β} {a:α},Paired F l m→a ∈ l→∃ b,F a b
  | _,_,_,.nil,h=>by cases h
  | _,_,_,.cons r t,h=>by
    rcases List.mem_cons.mp h with e | e
    · subst e; exact ⟨_,r⟩
    · exact Abj t e
theorem Gy {α β:Type} {F:α→β→Prop}:∀ {l:List α} {m:List β} {a:α} {b:β},Paired F l m→F a b→Paired F (l++[a]) (m++[b])
  | _,_,_,_,.nil,h=>.cons h .nil
  | _,_,_,_,.cons r t,h=>.cons r (Gy t h)
theorem AN {H H':Hp} (k:Ai [] H H') {l:Addr} {o:HO} (hl:H l=none):Ai [] H (upd H' l o) :=
  ⟨fun b u e _=>by rw [A9 (Au e hl)]; exact k.at_ b u e (by simp),fun b u e=>by rw [A9 (Au e hl)]; exact k.tup b u e⟩
def Auo (K:PySem.W.Frag):Sp:=fun vs H Q _=>∃ (a:Addr) (p:B8),vs=[.ref a]∧SqT K H a (bv p)∧p.length≤1000∧∀ (H':Hp) (l:Addr) (as:List Addr),Ai [] H H'→H' l=some (.lst (as.map V.ref))→Paired (fun a q=>H' a=some (.lst (bv q))) as (FtTree.parts p)→Q (.ref l) H'
theorem Ajk (T:Tx K mg A):AY P w K mg base CX0 1 A.Fi A.RV ["name"] (Auo K):=by
  refine T.JA.ok ID (fun vs H Q E h=>?_) (fun cdv Ar outer s H vs Q E hr h=>?_)
  · obtain ⟨a,p,rfl,_⟩:=h
    rfl
  · obtain ⟨a,p,rfl,hS,hl,k⟩:=h
    refine ⟨_,(Ac (Be (i:=1) ID.nd rfl (Or.inl rfl) (BI Ag))
      (Ac (Be (i:=2) ID.nd rfl (Or.inl rfl) (BI Ag))
      (Ac (PH PassesOwn.never rfl (Ar9 (pv 0)) (ET (i:=3) ID.nd rfl (Or.inl rfl)) (Ae (AD (Ao AX (pv 3) (Ak T.AnZ) (As _)) (Ac (AE (Gz PySem.F.plainAttrs_list PySem.F.slot_list_append PySem.F.type_list_append Fv (pv 1) (Aa (pv 2) Ag)))
      (Ae (Be (i:=2) ID.nd rfl (Or.inl rfl) (BI Ag)))) (Ae (AE (Gz PySem.F.plainAttrs_list PySem.F.slot_list_append PySem.F.type_list_append Fv (pv 2) (Aa (pv 3) Ag)))))))
      (Ac (AE (Gz PySem.F.plainAttrs_list PySem.F.slot_list_append PySem.F.type_list_append Fv (pv 1) (Aa (pv 2) Ag)))
      (Ae (Av (pv 1))))))),?_⟩
    walk_at "rd"
    refine ⟨Nat.zero_le _,fun l hl0=>⟨Nat.zero_le _,fun b hb=>⟨⟨_,hS.keep ((Ai.new hl0).trans (Ai.new hb))⟩,?_⟩⟩⟩
    have hlb:l≠b:=fun q=>by subst q; rw [Ab] at hb; cases hb
    refine AiM (bv p) (fun i σ H'=>∃ (v:Option V) (c:Addr),σ=[some (.ref a),some (.ref l),some (.ref c),v]∧∃ as acc cur,Axq H l p i H' c as acc cur) ?_ ?_ ?_ ?_
    · exact ⟨none,b,rfl,[],[],[],⟨(Ai.new hl0).trans (Ai.new hb),hl0,BW Ab hb,Ab,by simp,hlb.symm,by rw [A9 hlb.symm] at hb; exact hb,.nil,FtP.AsD p,Nat.le_refl _,Nat.le_refl _⟩⟩
    · rintro i σ H' _ ⟨v,c,rfl,as,acc,cur,I⟩
      exact hS.keep I.kp
    · rintro i x σ H' hi ⟨v,c,rfl,as,acc,cur,I⟩
      obtain ⟨ch,hc,rfl⟩:=AqI hi
      have hil:i < p.length:=(List.getElem?_eq_some_iff.mp hc).1
      have hd:p.drop i=ch::p.drop (i + 1):=by
        rw [List.drop_eq_getElem_cons hil]
        rw [List.getElem?_eq_getElem hil] at hc
        rw [Option.some.inj hc]
      have hw:=I.wk
      rw [hd] at hw
      unfold FtP.walk at hw
      have hla:as.length=acc.length:=Paired.length I.pr
      have hal:=I.la
      have hcl:=I.lc
      walk_at "rd"
      refine Kd (fun h=>?_) (fun h=>?_)
      · have h47:ch=47:=toNat_inj h
        rw [if_pos h47] at hw
        refine ⟨.inl ⟨rfl,_,SqL.of I.at_⟩,_,I.at_,Bs (by rw [List.length_map]; omega),Nat.zero_le _,fun d hd'=>?_⟩
        have hdl:d≠l:=fun q=>by subst q; rw [Ab] at hd'; cases hd'
        rw [A9 hdl] at hd'
        have hdn:H d=none:=I.kp.Fz hd'
        have hdc:c≠d:=Au I.cat hd'
        refine ⟨as++[c],acc++[cur],[],⟨AN (AN I.kp I.ln) hdn,I.ln,?_,Ab,?_,hdl,hdn,?_,hw,?_,Nat.zero_le _⟩⟩
        · rw [A9 hdl.symm,Ab,List.map_append]; rfl
        · rw [List.mem_append,List.mem_singleton]
          rintro (q | q)
          · obtain ⟨b2,hb2,_⟩:=Abj I.pr q
            rw [hd'] at hb2; cases hb2
          · exact hdc q.symm
        · refine Gy (CK I.pr fun x y hx ⟨e1,e2⟩=>⟨?_,e2⟩) ⟨?_,I.cl⟩
          · rw [A9 (Au e1 hd'),A9 e2]; exact e1
          · rw [A9 hdc,A9 I.cl]; exact I.cat
        · rw [List.length_append,List.length_singleton]; omega
      · have h47 : ¬ ch=47:=fun q=>h (by rw [q]; rfl)
        rw [if_neg h47] at hw
        refine ⟨.inl ⟨rfl,_,SqL.of I.cat⟩,_,I.cat,Bs (by rw [Az]; omega),as,acc,cur++[ch],⟨AN I.kp I.cn,I.ln,Aj I.at_ I.cl.symm,?_,I.ca,I.cl,I.cn,?_,hw,by omega,by rw [List.length_append,List.length_singleton]; omega⟩⟩
        · rw [Ab]
          unfold bv
          rw [List.map_append]; rfl
        · refine CK I.pr fun x y hx ⟨e1,e2⟩=>⟨?_,e2⟩
          rw [A9 (fun q=>I.ca (by rw [← q]; exact hx))]; exact e1
    · rintro σ H' ⟨v,c,rfl,as,acc,cur,I⟩
      have hw:=I.wk
      rw [Az,List.drop_length] at hw
      have hla:as.length=acc.length:=Paired.length I.pr
      have hal:=I.la
      rw [Az] at hal
      walk_at "rd"
      refine ⟨.inl ⟨rfl,_,SqL.of I.at_⟩,_,I.at_,Bs (by rw [List.length_map]; omega),k _ l (as++[c]) (AN I.kp I.ln) ?_ ?_⟩
      · rw [Ab,List.map_append]; rfl
      · rw [← hw]
        exact Gy (CK I.pr fun x y hx ⟨e1,e2⟩=>by rw [A9 e2]; exact e1) (by rw [A9 I.cl]; exact I.cat)
def Ase (K:PySem.W.Frag):Sp:=fun vs H Q _=>∃ (a:Addr) (p:B8),vs=[.ref a]∧SqT K H a (bv p)∧(FtTree.parent p=none→Q .non H)∧∀ q,FtTree.parent p=some q→∀ (H':Hp) (b:Addr),Ai [] H H'→H' b=some (.tup (bv q))→Q (.ref b) H'
theorem Agb (T:Tx K mg A):AY P w K mg base CX0 1 A.Eb A.OK ["path"] (Ase K):=by
  refine T.Il.ok M9 (fun vs H Q E h=>?_) (fun cdv Ar outer s H vs Q E hr h=>?_)
  · obtain ⟨a,p,rfl,_⟩:=h
    rfl
  · obtain ⟨a,p,rfl,hS,k1,k2⟩:=h
    refine ⟨_,(Ac (Be (i:=1) M9.nd rfl (Or.inl rfl) (CY Agd (AS AI (by rfl) T.Es PySem.boot_len (Aa (pv 0) Ag)) Ap))
      (Ac (Vj PassesOwn.never (M6 (Ao Ar1 (pv 1) Ap (As _)) (Jd (Ao IW (Ng Afp (pv 0) (pv 1) (fun _ _=>rfl)) (Ak T.AnZ) (As _)))).pt (Ae (Tj (i:=1) M9.nd rfl (Or.inl rfl) Ap Av0)))
      (Ac (AD (Ao Xa (pv 1) Ap (As _)) (Ae (Av Ar8)) A7)
      (Ae (Av (LD ArM (pv 0) Aoo (Ie (pv 1)))))))),?_⟩
    walk_at "rd"
    refine ⟨_,.inr hS,?_⟩
    refine AsE (fun σ H'=>H'=H∧∃ i:Nat,i≤p.length∧σ=[some (.ref a),some (.int ((i:Int) - 1))]∧∀ (j:Nat) (c:UInt8),i≤j→p[j]? = some c→c≠47) (fun σ H'=>match σ with
      | [_,some (.int z)]=>(z + 1).toNat
      | _=>0) ?_ ?_ ?_
    · refine ⟨rfl,p.length,Nat.le_refl _,by rw [Az],fun j c hj hc=>?_⟩
      rw [List.getElem?_eq_none hj] at hc; cases hc
    · rintro σ H' ⟨rfl,i,hi,rfl,hn⟩
      walk_at "rd"
      by_cases h0:0≤(i:Int) - 1
      · obtain ⟨j,rfl⟩:∃ j:Nat,i=j + 1:=⟨i - 1,by omega⟩
        have hj:j < p.length:=by omega
        have ej:((j + 1:Nat):Int) - 1=(j:Int):=by omega
        rw [if_pos h0,ej]
        have hat:(bv p)[j]? = some (.int (p[j].toNat:Int)):=by
          unfold bv; rw [List.getElem?_map,List.getElem?_eq_getElem hj]; rfl
        refine ⟨_,hS,_,Aeu hat,rfl,?_⟩
        by_cases h47:p[j]=47
        · rw [if_neg (by rw [h47]; decide),if_neg (by omega)]
          have hpar:FtTree.parent p=some (p.take j):=FtP.Ajn (by rw [List.getElem?_eq_getElem hj,h47]) (fun m c hm hc=>hn m c hm hc)
          refine ⟨_,hS,?_,fun b hb=>k2 _ hpar _ b (Ai.new hb) ?_⟩
          · rw [Az,Je (Nat.le_of_lt hj)]; omega
          · rw [Ab]
            unfold RQ
            rw [HT.Aj1,Je (by rw [Az]; omega),List.drop_zero,Nat.sub_zero]
            unfold bv
            rw [Ae3]
        · rw [if_pos (by
            rw [Bool.not_eq_true',decide_eq_false_iff_not,V.int.injEq]
            exact fun q=>h47 (toNat_inj q))]
          refine ⟨⟨j,by omega,rfl,fun m c hm hc=>?_⟩,by omega⟩
          rcases Nat.eq_or_lt_of_le hm with e | e
          · subst e
            rw [List.getElem?_eq_getElem hj] at hc
            rw [← Option.some.inj hc]; exact h47
          · exact hn m c e hc
      · have hi0:i=0:=by omega
        subst hi0
        rw [if_neg h0,if_pos (by omega)]
        exact k1 (FtP.Ajm fun m c hc=>hn m c (Nat.zero_le _) hc)
    · exact AvG (Va (Ad8 Aok Pn AvE)) (Va (Ad8 AwZ (Ad8 AvF Pn Pn) AvE))
end
section
variable {P:Program} {w:World} {K:PySem.W.Frag} {mg:Str→Option Value} {base:Heap} {A:Ad}
theorem ApV (p:B8):(FtTree.parts p).length≤p.length + 1:=by
  induction p with
  | nil=>simp [FtTree.parts]
  | cons c p ih =>
    unfold FtTree.parts
    split
    · simpa using ih
    · split
      · simp
      · rename_i e
        rw [e] at ih
        simp at ih ⊢
        omega
def Asa (K:PySem.W.Frag):Sp:=fun vs H Q _=>∃ (a:Addr) (p:B8),vs=[.ref a]∧SqT K H a (bv p)∧∀ H',Ai [] H H'→Q (.bl (FtTree.isPath p)) H'
theorem Amk (T:Tx K mg A):AY P w K mg base CX0 2 A.Gq A.VM ["name"] (Asa K):=by
  refine T.Ll.ok Ts (fun vs H Q E h=>?_) (fun cdv Ar outer s H vs Q E hr h=>?_)
  · obtain ⟨a,p,rfl,_⟩:=h
    rfl
  · obtain ⟨a,p,rfl,hS,k⟩:=h
    refine ⟨_,(Ac (AD (Ao AuG (AS AI (by rfl) T.Es PySem.boot_len (Aa (pv 0) Ag)) (Ak T.Aac) (As _)) (Ae (Av Rq)) A7)
      (Ae (Av (AS (AuU rfl) (by rfl) T.AwG (by decide +kernel) (Aa (AdB (own:=[("part",1)]) rfl Ts.nd (K6 (AJ (Ajk T) (hr.mono (by decide)) (by rfl) T.Ak7 T.JA.kp T.Rv .nil A1 (Aa (pv 0) Ag))) (Lp (N:=["name","part"]) (sc:=Af HR) (by decide +kernel)) (fun _ _ _ _ _=>ET (i:=1) Ts.nd rfl (Or.inl rfl)) (fun _ _ _ _ _=>YH) (fun _ _ _ _ _=>(AJ (Amj T) (hr.mono (by decide)) (by rfl) T.AoB T.Lk.kp T.Vv .nil A1 (Aa (pv 1) Ag)))) Ag))))),?_⟩
    walk_at "rd"
    refine ⟨_,.inr hS,?_⟩
    have k':∀ d H',Ai [] H H'→d=FtTree.isPath p→Q (.bl d) H':=fun d H' hk e=>e ▸ k H' hk
    rw [FtP.Apv] at k'
    refine Kd (fun h=>?_) (fun h=>?_)
    · rw [Az] at h
      exact k' _ _ Ai.refl (by rw [if_pos (by omega)])
    · rw [Az] at h
      rw [if_neg (by omega)] at k'
      refine ⟨a,p,rfl,hS,by omega,fun H1 l as k1 hl hP=>⟨l,rfl,⟨_,SqL.of hl⟩,?_⟩⟩
      have hlen:as.length=(FtTree.parts p).length:=Paired.length hP
      have hpl:(FtTree.parts p).length≤256:=by have:=ApV p; omega
      refine YE as.length (fun D i H'=>Ai [] H1 H'∧H' D=some (.lst (((FtTree.parts p).take i).map fun q=>V.bl (FtP.OW q)))) (fun D hD=>⟨Ai.new hD,by rw [Ab]; rfl⟩) ?_ ?_ ?_
      · rintro D i H' hi ⟨k2,_⟩
        exact ⟨_,V.ref as[i],SqL.of (k2.at_ _ _ hl (by simp)),by rw [List.getElem?_map,List.getElem?_eq_getElem hi]; rfl⟩
      · rintro D i H' x H'' hD hi ⟨k2,h2⟩ ⟨rfl,hy⟩
        have hx:=hy _ (SqL.of (k2.at_ _ _ hl (by simp)))
        rw [List.getElem?_map,List.getElem?_eq_getElem hi] at hx
        obtain rfl:=Option.some.inj hx
        obtain ⟨q,hq,hq2⟩:=De hP (List.getElem?_eq_getElem hi)
        walk_at "rd"
        refine ⟨_,q,rfl,SqL.of (k2.at_ _ _ hq2 (by simp)),fun H3 k3=>⟨_,k3.at_ _ _ h2 (by simp),Bs ?_,AN (k2.trans k3) hD,?_⟩⟩
        · rw [List.length_map,List.length_take]; omega
        · rw [Ab,BC hq,List.map_append]; rfl
      · rintro D H' hD ⟨k2,h2⟩
        refine ⟨⟨_,SqL.of (k2.at_ _ _ hl (by simp)),by rw [List.length_map]; exact Nat.le_refl _⟩,?_⟩
        rw [hlen,List.take_length] at h2
        walk_at "rd"
        refine ⟨(FtTree.parts p).map FtP.OW,SqL.of (by rw [h2,List.map_map]; rfl),k' _ _ (k1.trans k2) ?_⟩
        rw [List.all_map]; rfl
def Gu (k:Nat):V:=if k=8 then .int 1 else if k=4 then .int 2 else if k=10 then .int 3 else if k=0 then .int 0 else .non
def WL (h:FtTree.Head):List (Str × V):=[("serial",.int (h.serial:Nat)),("kind",Gu h.kind),("names",.int (h.names:Nat)),("size",.int (h.size:Nat)),("major",.int (h.major:Nat)),("minor",.int (h.minor:Nat)),("length",.int (h.length:Nat))]
theorem Arp (k:Nat):(Hs (Aa1 [(8,1),(4,2),(10,3),(0,0)]) (Sum.inl (k:Int))).getD V.non=Gu k:=by
  unfold Gu Aa1
  simp only [List.map_cons,List.map_nil]
  by_cases h8:k=8
  · subst h8; rfl
  rw [if_neg h8,FI (by intro q; have:=Sum.inl.inj q; omega)]
  by_cases h4:k=4
  · subst h4; rfl
  rw [if_neg h4,FI (by intro q; have:=Sum.inl.inj q; omega)]
  by_cases h10:k=10
  · subst h10; rfl
  rw [if_neg h10,FI (by intro q; have:=Sum.inl.inj q; omega)]
  by_cases h0:k=0
  · subst h0; rfl
  rw [if_neg h0,FI (by intro q; have:=Sum.inl.inj q; omega)]
  rfl
def Ei (A:Ad) (H:Hp) (a:Addr) (h:FtTree.Head):Prop:=∃ dx,H a=some (.ins A.Bv dx (WL h))
theorem AlP (h:FtTree.Head):(WL h).lookup ("serial" : Str)=some (.int (h.serial:Nat)):=rfl
theorem Hg (h:FtTree.Head):(WL h).lookup ("kind" : Str)=some (Gu h.kind):=rfl
theorem Ad5 (h:FtTree.Head):(WL h).lookup ("names" : Str)=some (.int (h.names:Nat)):=rfl
theorem Fm (h:FtTree.Head):(WL h).lookup ("size" : Str)=some (.int (h.size:Nat)):=rfl
theorem ApM (h:FtTree.Head):(WL h).lookup ("major" : Str)=some (.int (h.major:Nat)):=rfl
theorem ApN (h:FtTree.Head):(WL h).lookup ("minor" : Str)=some (.int (h.minor:Nat)):=rfl
theorem Mq (h:FtTree.Head):(WL h).lookup ("length" : Str)=some (.int (h.length:Nat)):=rfl
def AmF (A:Ad):Sp:=fun vs H Q _=>∃ (a:Addr) (h:FtTree.Head),vs=[.ref a]∧Ei A H a h∧Q (.bl h.ok) H
theorem AfZ (T:Tx K mg A):AY P w K mg base CX0 1 A.DY A.OH ["head"] (AmF A):=by
  refine T.Ij.ok Ag1 (fun vs H Q E h=>?_) (fun cdv Ar outer s H vs Q E hr h=>?_)
  · obtain ⟨a,p,rfl,_⟩:=h
    rfl
  · obtain ⟨a,hd,rfl,⟨dx,h1⟩,k⟩:=h
    refine ⟨_,(Ac (AD (Amz (AvK (Al (pv 0) rfl))) (Ae (Av Rq)) A7)
      (Ac (AD (Aor (Ao Xa (Al (pv 0) rfl) (Ak T.XG) (As _)) (Agt (Ao AuG (Al (pv 0) rfl) (Ak T.Aab) (As _)))).pt (Ae (Av Rq)) A7)
      (Ac (AD (Ao AX (Al (pv 0) rfl) (Ak T.OS) (As _)) (Ae (Av Rq)) A7)
      (Ac (AD (Ao AX (Al (pv 0) rfl) (Ak T.VV) (As _)) (Ae (Av (Eo WZ (Al (pv 0) rfl) (Ak T.Aad) (As _)))) A7)
      (Ae (Av (Eo AX (Al (pv 0) rfl) Ap (As _)))))))),?_⟩
    walk_at "rd"
    simp only [h1,T.BO,T.Co,T.BD,T.D8,Hg,Fm,Mq,Option.some.injEq,HO.ins.injEq,true_and,and_assoc,exists_eq_left',exists_and_left,exists_eq_left,V.int.injEq]
    have k':∀ d,d=hd.ok→Q (.bl d) H:=fun d e=>e ▸ k
    unfold FtTree.Head.ok at k'
    unfold Gu
    by_cases h8:hd.kind=8
    · simp only [h8,if_true,reduceCtorEq,if_false,Hr,true_and]
      refine Kd (fun h=>k' _ ?_) (fun h=>Kd (fun h'=>k' _ ?_) fun h'=>k' _ ?_)
      · have : ¬ 2≤hd.length:=by omega
        simp [h8,this]
      · have : ¬ hd.length≤256:=by omega
        simp [h8,this]
      · have h1:2≤hd.length:=by omega
        have h2:hd.length≤256:=by omega
        simp [h8,h1,h2]
    by_cases h4:hd.kind=4
    · simp only [h4,if_true,reduceCtorEq,if_false,Hr,true_and,V.int.injEq]
      simp only [show ¬ (4:Nat)=8 by decide,if_false,reduceCtorEq,Hr,true_and,V.int.injEq,show ¬ (2:Int)=1 by decide,show ¬ (2:Int)=3 by decide]
      refine Kd (fun h=>k' _ ?_) (fun h=>Kd (fun h'=>k' _ ?_) fun h'=>k' _ ?_)
      · have : ¬ 2≤hd.length:=by omega
        simp [h4,this]
      · have : ¬ hd.length≤256:=by omega
        simp [h4,this]
      · have h1:2≤hd.length:=by omega
        have h2:hd.length≤256:=by omega
        simp only [h4,h1,h2]
        by_cases hz:hd.size=0
        · simp [hz]
        · have : ¬ (hd.size:Int)=0:=by omega
          simp [hz,this]
    by_cases h10:hd.kind=10
    · simp only [h10,show ¬ (10:Nat)=8 by decide,show ¬ (10:Nat)=4 by decide,if_true,if_false,reduceCtorEq,Hr,true_and,V.int.injEq,show ¬ (3:Int)=1 by decide]
      refine Kd (fun h=>k' _ ?_) (fun h=>Kd (fun h'=>k' _ ?_) fun h'=>k' _ ?_)
      · have : ¬ 2≤hd.length:=by omega
        simp [h10,this]
      · have : ¬ hd.length≤256:=by omega
        simp [h10,this]
      · have h1:2≤hd.length:=by omega
        have h2:hd.length≤256:=by omega
        simp only [h10,h1,h2]
        by_cases hz:hd.size≤255
        · have:(hd.size:Int)≤255:=by omega
          simp [hz,this]
        · have : ¬ (hd.size:Int)≤255:=by omega
          simp [hz,this]
    by_cases h0:hd.kind=0
    · simp only [h0,show ¬ (0:Nat)=8 by decide,show ¬ (0:Nat)=4 by decide,show ¬ (0:Nat)=10 by decide,if_true,if_false,reduceCtorEq,Hr,true_and,V.int.injEq,show ¬ (0:Int)=1 by decide,show ¬ (0:Int)=3 by decide]
      refine Kd (fun h=>k' _ ?_) (fun h=>Kd (fun h'=>k' _ ?_) fun h'=>k' _ ?_)
      · have : ¬ 2≤hd.length:=by omega
        simp [h0,this]
      · have : ¬ hd.length≤256:=by omega
        simp [h0,this]
      · have h1:2≤hd.length:=by omega
        have h2:hd.length≤256:=by omega
        simp only [h0,h1,h2]
        by_cases hz:hd.size=0
        · simp [hz]
        · have : ¬ (hd.size:Int)=0:=by omega
          simp [hz,this]
    simp only [h8,h4,h10,h0,if_false,if_true]
    refine k' _ ?_
    simp [h8,h4,h10,h0]
def AmG (A:Ad) (K:PySem.W.Frag):Sp:=fun vs H Q _=>∃ (x dx a:Addr) (bs:B8),vs=[.ref x,.ref a]∧H x=some (.ins A.Bv dx [])∧SqL K H a (bv bs)∧bs.length=110∧Ql bs∧∀ H',Ai [x] H H'→Ei A H' x (FtTree.headOf bs)→Q .non H'
theorem AfU (T:Tx K mg A):AY P w K mg base CX0 3 A.Dx A.OC ["self","row"] (AmG A K):=by
  refine T.Kf.ok Agy (fun vs H Q E h=>?_) (fun cdv Ar outer s H vs Q E hr h=>?_)
  · obtain ⟨x,dx,a,bs,rfl,_⟩:=h
    rfl
  · obtain ⟨x,dx,a,bs,rfl,hx,hS,hl,hB,k⟩:=h
    refine ⟨_,(Ac (Bd (pv 0) (AJ (En T) (hr.mono (by decide)) (by rfl) T.EX T.C4.kp T.Dr .nil A1 (Aa (pv 1) (Aa Ap Ag))) rfl)
      (Ac (Bd (pv 0) (AtQ T.Atq rfl T.Auu (CY AtO (AJ (En T) (hr.mono (by decide)) (by rfl) T.EX T.C4.kp T.Dr .nil A1 (Aa (pv 1) (Aa Ap Ag))) Ap) ⟨rfl,rfl,rfl,rfl⟩) rfl)
      (Ac (Bd (pv 0) (AJ (En T) (hr.mono (by decide)) (by rfl) T.EX T.C4.kp T.Dr .nil A1 (Aa (pv 1) (Aa Ap Ag))) rfl)
      (Ac (Bd (pv 0) (AJ (En T) (hr.mono (by decide)) (by rfl) T.EX T.C4.kp T.Dr .nil A1 (Aa (pv 1) (Aa Ap Ag))) rfl)
      (Ac (Bd (pv 0) (AJ (En T) (hr.mono (by decide)) (by rfl) T.EX T.C4.kp T.Dr .nil A1 (Aa (pv 1) (Aa Ap Ag))) rfl)
      (Ac (Bd (pv 0) (AJ (En T) (hr.mono (by decide)) (by rfl) T.EX T.C4.kp T.Dr .nil A1 (Aa (pv 1) (Aa Ap Ag))) rfl)
      (Ae (Bd (pv 0) (AJ (En T) (hr.mono (by decide)) (by rfl) T.EX T.C4.kp T.Dr .nil A1 (Aa (pv 1) (Aa Ap Ag))) rfl)))))))),?_⟩
    walk_at "rd"
    have step:∀ (H1 H2:Hp) (fs fs':List (Str × V)),(Ai [x] H H1∧H1 x=some (.ins A.Bv dx fs)∧SqL K H1 a (bv bs))→Ai [] H1 H2→H2 x=some (.ins A.Bv dx fs)∧(Ai [x] H (upd H2 x (.ins A.Bv dx fs'))∧upd H2 x (.ins A.Bv dx fs') x=some (.ins A.Bv dx fs')∧SqL K (upd H2 x (.ins A.Bv dx fs')) a (bv bs)):=by
      rintro H1 H2 fs fs' ⟨k1,hx1,s1⟩ k2
      have hx2:=k2.at_ _ _ hx1 (by simp)
      exact ⟨hx2,(k1.trans (k2.mono (by simp))).trans (Ai.put hx2 trivial (by simp)),Ab,SqL.ins hx2 (s1.keep k2)⟩
    have J0:Ai [x] H H∧H x=some (.ins A.Bv dx [])∧SqL K H a (bv bs):=⟨Ai.refl,hx,hS⟩
    refine ⟨a,bs,0,rfl,hS,hl,hB,by decide,fun H1 k1=>?_⟩
    obtain ⟨x1,J1⟩:=step _ _ _ _ J0 k1
    refine ⟨_,_,_,x1,T.BO,T.Ic,by show 0 < 1000; decide,a,bs,1,rfl,J1.2.2,hl,hB,by decide,fun H2 k2=>?_⟩
    obtain ⟨x2,J2⟩:=step _ _ _ _ J1 k2
    refine ⟨_,rfl,⟨by decide,by decide⟩,Sum.inl _,rfl,_,_,_,x2,T.BO,T.Co,by show 1 < 1000; decide,a,bs,4,rfl,J2.2.2,hl,hB,by decide,fun H3 k3=>?_⟩
    obtain ⟨x3,J3⟩:=step _ _ _ _ J2 k3
    refine ⟨_,_,_,x3,T.BO,T.Hh,by show 2 < 1000; decide,a,bs,6,rfl,J3.2.2,hl,hB,by decide,fun H4 k4=>?_⟩
    obtain ⟨x4,J4⟩:=step _ _ _ _ J3 k4
    refine ⟨_,_,_,x4,T.BO,T.BD,by show 3 < 1000; decide,a,bs,7,rfl,J4.2.2,hl,hB,by decide,fun H5 k5=>?_⟩
    obtain ⟨x5,J5⟩:=step _ _ _ _ J4 k5
    refine ⟨_,_,_,x5,T.BO,T.Ja,by show 4 < 1000; decide,a,bs,8,rfl,J5.2.2,hl,hB,by decide,fun H6 k6=>?_⟩
    obtain ⟨x6,J6⟩:=step _ _ _ _ J5 k6
    refine ⟨_,_,_,x6,T.BO,T.Jb,by show 5 < 1000; decide,a,bs,11,rfl,J6.2.2,hl,hB,by decide,fun H7 k7=>?_⟩
    obtain ⟨x7,J7⟩:=step _ _ _ _ J6 k7
    refine ⟨_,_,_,x7,T.BO,T.D8,by show 6 < 1000; decide,k _ J7.1 ⟨dx,?_⟩⟩
    rw [Ab]
    have ek:(Hs (Aa1 [(8,1),(4,2),(10,3),(0,0)]) (Sum.inl (((FtTree.field bs 1:Nat):Int) / 4096))).getD V.non=Gu (FtTree.headOf bs).kind:=by
      rw [show (((FtTree.field bs 1:Nat):Int) / 4096)=(((FtTree.headOf bs).kind:Nat):Int) from rfl]
      exact Arp _
    rw [ek]
    rfl
def nameFits (h:FtTree.Head) (p:B8):Bool:=if p=FtTree.TRAILER then h.size == 0 else h.kind != 0 && (h.kind != 10 || h.size != 0) && (FtTree.isPath p || (p == FtTree.DOT && h.kind == 4))
def AmH (A:Ad) (K:PySem.W.Frag):Sp:=fun vs H Q _=>∃ (a b:Addr) (h:FtTree.Head) (p:B8),vs=[.ref a,.ref b]∧Ei A H a h∧h.ok=true∧SqT K H b (bv p)∧∀ H',Ai [] H H'→Q (.bl (nameFits h p)) H'
theorem Aga (T:Tx K mg A):AY P w K mg base CX0 3 A.DZ A.OI ["head","name"] (AmH A K):=by
  refine T.Ik.ok Ag2 (fun vs H Q E h=>?_) (fun cdv Ar outer s H vs Q E hr h=>?_)
  · obtain ⟨a,b,hd,p,rfl,_⟩:=h
    rfl
  · obtain ⟨a,b,hd,p,rfl,⟨dx,h1⟩,hok,hS,k⟩:=h
    refine ⟨_,(Ac (AD (Ao (Wn (by exact hr.units)) (pv 1) (Hm T.Qw) (As _)) (Ae (Av (Eo AX (Al (pv 0) rfl) Ap (As _)))) A7)
      (Ac (AD (Ao AX (Al (pv 0) rfl) (Ak T.L0) (As _)) (Ae (Av Rq)) A7)
      (Ac (AD (M6 (Ao AX (Al (pv 0) rfl) (Ak T.VV) (As _)) (Jd (Ao AX (Al (pv 0) rfl) Ap (As _)))).pt (Ae (Av Rq)) A7)
      (Ac (AD (Ao (Wn (by exact hr.units)) (pv 1) (Hm T.AmX) (As _)) (Ae (Av (Eo AX (Al (pv 0) rfl) (Ak T.Iy) (As _)))) A7)
      (Ae (Av (AJ (Amk T) (hr.mono (by decide)) (by rfl) T.AoC T.Ll.kp T.Vw .nil A1 (Aa (pv 1) Ag)))))))),?_⟩
    walk_at "rd"
    have k':∀ d H',Ai [] H H'→d=nameFits hd p→Q (.bl d) H':=fun d H' hk e=>e ▸ k H' hk
    unfold nameFits at k'
    obtain ⟨ok1,_,_,ok4,_⟩:=FtM.Vf hok
    refine U2 (q:=FtTree.TRAILER) hS (by rw [FtP.K7]; exact T.ML H) ⟨_,rfl,?_⟩
    simp only [h1,T.BO,T.Co,T.BD,Hg,Fm,Option.some.injEq,HO.ins.injEq,true_and,and_assoc,exists_eq_left',exists_and_left,exists_eq_left,V.int.injEq,Hr]
    by_cases ht:p=FtTree.TRAILER
    · rw [decide_eq_true ht,if_pos rfl]
      refine k' _ _ Ai.refl ?_
      rw [if_pos ht]
      by_cases hz:hd.size=0
      · simp [hz]
      · have : ¬ (hd.size:Int)=0:=by omega
        simp [hz,this]
    · rw [decide_eq_false ht,if_neg (by decide)]
      rw [if_neg ht] at k'
      have hroot:∀ (Qb:Bool→Prop),Qb (decide (p=FtTree.DOT))→AvS K (.ref b) (.ref A.AkC) H (fun x H'=>∃ c,x=.bl c∧H'=H∧Qb c):=fun Qb q=>U2 (q:=FtTree.DOT) hS (T.Qx H) ⟨_,rfl,rfl,q⟩
      rcases ok1 with h8 | h4 | h10 | h0
      · simp only [Gu,h8,if_true,reduceCtorEq,if_false,Hr,true_and,V.int.injEq,show ¬ (1:Int)=0 by decide,show ¬ (1:Int)=3 by decide,show ¬ (1:Int)=2 by decide]
        refine U2 (q:=FtTree.DOT) hS (T.Qx H) ⟨_,rfl,?_⟩
        by_cases hp:p=FtTree.DOT
        · rw [decide_eq_true hp,if_pos rfl]
          refine ⟨_,_,_,h1,T.BO,T.Co,_,Hg hd,by rw [h8]; rfl,k' _ _ Ai.refl ?_⟩
          subst hp
          simp [h8,Gu,show FtTree.isPath FtTree.DOT=false by decide]
        · rw [decide_eq_false hp,if_neg (by decide)]
          refine ⟨b,p,rfl,hS,fun H' hk=>k' _ _ hk ?_⟩
          simp [h8]
      · have hz:=ok4 (Or.inl h4)
        simp only [Gu,h4,show ¬ (4:Nat)=8 by decide,if_true,reduceCtorEq,if_false,Hr,true_and,V.int.injEq,show ¬ (2:Int)=0 by decide,show ¬ (2:Int)=3 by decide]
        refine U2 (q:=FtTree.DOT) hS (T.Qx H) ⟨_,rfl,?_⟩
        by_cases hp:p=FtTree.DOT
        · rw [decide_eq_true hp,if_pos rfl]
          refine ⟨_,_,_,h1,T.BO,T.Co,_,Hg hd,by rw [h4]; rfl,k' _ _ Ai.refl ?_⟩
          subst hp
          simp [h4,Gu]
        · rw [decide_eq_false hp,if_neg (by decide)]
          refine ⟨b,p,rfl,hS,fun H' hk=>k' _ _ hk ?_⟩
          simp [h4,hp]
      · simp only [Gu,h10,show ¬ (10:Nat)=8 by decide,show ¬ (10:Nat)=4 by decide,if_true,reduceCtorEq,if_false,Hr,true_and,V.int.injEq,show ¬ (3:Int)=0 by decide,show ¬ (3:Int)=2 by decide]
        by_cases hz:hd.size=0
        · rw [if_pos (by omega)]
          refine k' _ _ Ai.refl ?_
          simp [h10,hz]
        · rw [if_neg (by omega)]
          refine U2 (q:=FtTree.DOT) hS (T.Qx H) ⟨_,rfl,?_⟩
          by_cases hp:p=FtTree.DOT
          · rw [decide_eq_true hp,if_pos rfl]
            refine ⟨_,_,_,h1,T.BO,T.Co,_,Hg hd,by rw [h10]; rfl,k' _ _ Ai.refl ?_⟩
            subst hp
            simp [h10,hz,Gu,show FtTree.isPath FtTree.DOT=false by decide]
          · rw [decide_eq_false hp,if_neg (by decide)]
            refine ⟨b,p,rfl,hS,fun H' hk=>k' _ _ hk ?_⟩
            simp [h10,hz]
      · simp only [Gu,h0,show ¬ (0:Nat)=8 by decide,show ¬ (0:Nat)=4 by decide,show ¬ (0:Nat)=10 by decide,if_true,reduceCtorEq,if_false,Hr,true_and,V.int.injEq]
        refine k' _ _ Ai.refl ?_
        simp [h0]
def AdJ (A:Ad):Sp:=fun vs H Q _=>∃ (a:Addr) (h:FtTree.Head),vs=[.ref a]∧Ei A H a h∧∀ (H':Hp) (t:Addr),Ai [] H H'→H' t=some (.tup [.int (h.serial:Nat),.int (h.major:Nat),.int (h.minor:Nat)])→Q (.ref t) H'
theorem WY (T:Tx K mg A):AY P w K mg base CX0 1 A.Fh A.RU ["head"] (AdJ A):=by
  refine T.HG.ok Aj4 (fun vs H Q E h=>?_) (fun cdv Ar outer s H vs Q E hr h=>?_)
  · obtain ⟨a,p,rfl,_⟩:=h
    rfl
  · obtain ⟨a,hd,rfl,⟨dx,h1⟩,k⟩:=h
    refine ⟨_,(Ae (Av (HL (Aa (Al (pv 0) rfl) (Aa (Al (pv 0) rfl) (Aa (Al (pv 0) rfl) Ag)))))),?_⟩
    walk_at "rd"
    simp only [h1,T.BO,T.Ic,T.Ja,T.Jb,AlP,ApM,ApN,Option.some.injEq,HO.ins.injEq,true_and,and_assoc,exists_eq_left',exists_and_left,exists_eq_left,V.int.injEq]
    exact ⟨Br (by decide),fun t ht=>k _ t (Ai.new ht) Ab⟩
end
def EY {κ κ' β:Type} (f:κ→κ') (G:V→β→Prop) (ts:List (κ' × V)) (l:List (κ × β)):Prop:=Paired (fun kv x=>kv.1=f x.1∧G kv.2 x.2) ts l
section
variable {κ κ' β:Type} [DecidableEq κ] [DecidableEq κ'] {f:κ→κ'} {G:V→β→Prop}
theorem EY.length {ts:List (κ' × V)} {l:List (κ × β)} (r:EY f G ts l):ts.length=l.length:=Paired.length r
theorem EY.none (hf:∀ a b,f a=f b→a=b):∀ {ts:List (κ' × V)} {l:List (κ × β)},EY f G ts l→∀ {k:κ},FtW.val l k=none→Hs ts (f k)=none
  | _,_,.nil,k,_=>rfl
  | _,_,.cons (a:=a) (b:=b) r t,k,h=>by
    rw [FtW.BV] at h
    split at h
    · cases h
    · rename_i hn
      rw [FI (fun q=>hn (hf _ _ (r.1.symm.trans q)))]
      exact EY.none hf t h
theorem EY.some (hf:∀ a b,f a=f b→a=b):∀ {ts:List (κ' × V)} {l:List (κ × β)},EY f G ts l→∀ {k:κ} {x:β},FtW.val l k=some x→∃ v,Hs ts (f k)=some v∧G v x
  | _,_,.nil,k,x,h=>by cases h
  | _,_,.cons (a:=a) (b:=b) r t,k,x,h=>by
    rw [FtW.BV] at h
    split at h
    · rename_i hn
      have:=Option.some.inj h
      subst this
      exact ⟨a.2,Vs (by rw [r.1,hn]),r.2⟩
    · rename_i hn
      rw [FI (fun q=>hn (hf _ _ (r.1.symm.trans q)))]
      exact EY.some hf t h
theorem EY.snoc {ts:List (κ' × V)} {l:List (κ × β)} {k:κ} {v:V} {x:β} (r:EY f G ts l) (g:G v x):EY f G (ts++[(f k,v)]) (l++[(k,x)]):=Gy r ⟨rfl,g⟩
theorem EY.Aqb (hf:∀ a b,f a=f b→a=b) {k:κ} {v:V} {x:β} (g:G v x):∀ {ts:List (κ' × V)} {l:List (κ × β)},EY f G ts l→EY f G (ts.map fun kv=>if kv.1=f k then (kv.1,v) else kv) (l.map fun y=>if y.1=k then (y.1,x) else y)
  | _,_,.nil=>.nil
  | _,_,.cons (a:=a) (b:=b) r t=>by
    rw [List.map_cons,List.map_cons]
    refine .cons ?_ (EY.Aqb hf g t)
    by_cases h:b.1=k
    · rw [if_pos h,if_pos (by rw [r.1,h])]; exact ⟨r.1,g⟩
    · rw [if_neg h,if_neg (fun q=>h (hf _ _ (r.1.symm.trans q)))]; exact r
theorem EY.put (hf:∀ a b,f a=f b→a=b) {ts:List (κ' × V)} {l:List (κ × β)} (r:EY f G ts l) {k:κ} {v:V} {x:β} (g:G v x):EY f G (putK ts (f k) v) (FtW.put l k x):=by
  cases h:FtW.val l k with
  | none=>rw [ArC v (r.none hf h),FtW.Fw h]; exact r.snoc g
  | some u =>
    obtain ⟨v0,h0,_⟩:=r.some hf h
    rw [FtW.FR h]
    unfold putK
    rw [Vr,h0,if_pos (show (Option.some v0).isSome=true from rfl)]
    exact r.Aqb hf g
theorem EY.drop (hf:∀ a b,f a=f b→a=b) {k:κ}:∀ {ts:List (κ' × V)} {l:List (κ × β)},EY f G ts l→EY f G (WI ts (f k)) (FtW.drop l k)
  | _,_,.nil=>.nil
  | _,_,.cons (a:=a) (b:=b) r t=>by
    have ih:=EY.drop hf (k:=k) t
    unfold WI FtW.drop at ih ⊢
    rw [List.filter_cons,List.filter_cons]
    by_cases h:b.1=k
    · rw [if_neg (by simp [r.1,h]),if_neg (by simp [h])]; exact ih
    · rw [if_pos (by simp only [decide_eq_true_eq]; exact fun q=>h (hf _ _ (r.1.symm.trans q))),if_pos (by simp [h])]
      exact .cons r ih
theorem EY.imp {G':V→β→Prop} {ts:List (κ' × V)} {l:List (κ × β)} (r:EY f G ts l) (h:∀ v x,G v x→G' v x):EY f G' ts l:=CK r fun a b _ q=>⟨q.1,h _ _ q.2⟩
end
theorem IV:∀ a b:B8,kb a=kb b→a=b:=fun _ _ h=>Aro h
def nk (i:Nat):Key:=Sum.inl ((i:Int) + 1)
theorem Nf:∀ a b:Nat,nk a=nk b→a=b:=fun a b h=>by have:=Sum.inl.inj h; omega
def isN (v:V) (x:Nat):Prop:=v=.int (x:Int)
def Av1 (v:V) (x:Nat):Prop:=v=.int ((x:Int) + 1)
def isB (H:Hp) (v:V) (x:B8):Prop:=∃ b,v=.ref b∧H b=some (.tup (bv x))
theorem isB.keep {F:List Addr} {H H':Hp} (k:Ai F H H'):∀ v x,isB H v x→isB H' v x:=fun v x ⟨b,e,h⟩=>⟨b,e,k.tup _ _ h⟩
abbrev DU:=List (B8 × FtTree.Node)
structure TA where
  a:Addr
  dk:Addr
  dt:Addr
  dh:Addr
  dc:Addr
def TA.fp (t:TA):List Addr:=[t.a,t.dk,t.dt,t.dh,t.dc]
def IX (t:TA) (n:Nat):List (Str × V):=[("kinds",.ref t.dk),("texts",.ref t.dt),("holders",.ref t.dh),("contents",.ref t.dc),("last_number",.int (n:Int))]
theorem HK (t:TA) (n:Nat):(IX t n).lookup ("kinds" : Str)=some (.ref t.dk):=rfl
theorem Ad7 (t:TA) (n:Nat):(IX t n).lookup ("texts" : Str)=some (.ref t.dt):=rfl
theorem Ed (t:TA) (n:Nat):(IX t n).lookup ("holders" : Str)=some (.ref t.dh):=rfl
theorem D3 (t:TA) (n:Nat):(IX t n).lookup ("contents" : Str)=some (.ref t.dc):=rfl
theorem UY (t:TA) (n:Nat):(IX t n).lookup ("last_number" : Str)=some (.int (n:Int)):=rfl
structure Ct (A:Ad) (H:Hp) (t:TA) (ns:DU) (n:Nat) (c:List (Nat × B8)):Prop where
  nd:t.fp.Nodup
  ins:∃ dx,H t.a=some (.ins A.A8 dx (IX t n))
  kinds:∃ ks,H t.dk=some (.dT ks)∧EY kb isN ks (ns.map fun x=>(x.1,FtW.kindNo x.2))
  texts:∃ ts,H t.dt=some (.dT ts)∧EY kb (isB H) ts (FtW.sub FtW.Av8 ns)
  holders:∃ hs,H t.dh=some (.dT hs)∧EY kb Av1 hs (FtW.sub FtW.fileOf ns)
  AnS:∃ cs,H t.dc=some (.dK cs)∧EY nk (isB H) cs c
theorem Ct.keep {A:Ad} {H H':Hp} {t:TA} {ns:DU} {n:Nat} {c:List (Nat × B8)} (I:Ct A H t ns n c) {F:List Addr} (k:Ai F H H') (d:∀ b ∈ t.fp,b ∉ F):Ct A H' t ns n c:=by
  obtain ⟨nd,⟨dx,i1⟩,⟨ks,i2,r2⟩,⟨ts,i3,r3⟩,⟨hs,i4,r4⟩,⟨cs,i5,r5⟩⟩:=I
  exact ⟨nd,⟨dx,k.at_ _ _ i1 (d _ (by simp [TA.fp]))⟩,⟨ks,k.at_ _ _ i2 (d _ (by simp [TA.fp])),r2⟩,⟨ts,k.at_ _ _ i3 (d _ (by simp [TA.fp])),r3.imp (isB.keep k)⟩,
    ⟨hs,k.at_ _ _ i4 (d _ (by simp [TA.fp])),r4⟩,⟨cs,k.at_ _ _ i5 (d _ (by simp [TA.fp])),r5.imp (isB.keep k)⟩⟩
theorem Ct.BN {A:Ad} {H H':Hp} {t:TA} {ns:DU} {n:Nat} {c:List (Nat × B8)} (I:Ct A H t ns n c) (k:Ai [] H H'):Ct A H' t ns n c:=I.keep k (by simp)
section
variable {P:Program} {w:World} {K:PySem.W.Frag} {mg:Str→Option Value} {base:Heap} {A:Ad}
def AjF (A:Ad):Sp:=fun vs H Q _=>∃ (t:TA) (b:Addr) (p:B8) (ns:DU) (n:Nat) (c:List (Nat × B8)),vs=[.ref t.a,.ref b]∧Ct A H t ns n c∧H b=some (.tup (bv p))∧Q (.int (((FtW.val ns p).map FtW.kindNo).getD 0:Nat)) H
theorem Dk (T:Tx K mg A):AY P w K mg base CX0 1 A.Ce A.JP ["self","path"] (AjF A):=by
  refine T.GN.ok Yz (fun vs H Q E h=>?_) (fun cdv Ar outer s H vs Q E hr h=>?_)
  · obtain ⟨t,b,p,ns,n,c,rfl,_⟩:=h
    rfl
  · obtain ⟨t,b,p,ns,n,c,rfl,⟨nd,⟨dx,i1⟩,⟨ks,i2,r2⟩,_,_,_⟩,hb,k⟩:=h
    have hu:=AZ hr
    refine ⟨_,(Ae (Av (Vg (by exact hu) (Al (pv 0) rfl) (pv 1) (Ak T.L0) ⟨rfl,rfl,rfl,rfl⟩))),?_⟩
    walk_at "rd"
    simp only [i1,T.AF,T.C2,HK,Option.some.injEq,HO.ins.injEq,true_and,and_assoc,exists_eq_left',exists_and_left,exists_eq_left,V.ref.injEq]
    refine ⟨.inr ⟨_,.inl i2⟩,_,HD.t (k:=kb p) i2 (by rw [Ro]; exact hb),?_⟩
    have e:(Hs ks (kb p)).getD (V.int 0)=.int (((FtW.val ns p).map FtW.kindNo).getD 0:Nat):=by
      cases h:FtW.val ns p with
      | none=>rw [r2.none IV (k:=p) (by rw [FtW.Aha,h]; rfl)]; rfl
      | some x =>
        obtain ⟨v,h1,h2⟩:=r2.some IV (k:=p) (x:=FtW.kindNo x) (by rw [FtW.Aha,h]; rfl)
        rw [h1]; exact h2
    rw [e]; exact k
def Xe (A:Ad):Sp:=fun vs H Q _=>∃ (t:TA) (ns:DU) (n:Nat) (c:List (Nat × B8)),vs=[.ref t.a]∧Ct A H t ns n c∧Q (.int (ns.length:Nat)) H
theorem JX (T:Tx K mg A):AY P w K mg base CX0 1 A.B3 A.Hc ["self"] (Xe A):=by
  refine T.EN.ok Tr (fun vs H Q E h=>?_) (fun cdv Ar outer s H vs Q E hr h=>?_)
  · obtain ⟨t,ns,n,c,rfl,_⟩:=h
    rfl
  · obtain ⟨t,ns,n,c,rfl,⟨nd,⟨dx,i1⟩,⟨ks,i2,r2⟩,_,_,_⟩,k⟩:=h
    have hu:=AZ hr
    refine ⟨_,(Ae (Av (AS Apd (by rfl) T.Es PySem.boot_len (Aa (Al (pv 0) rfl) Ag)))),?_⟩
    walk_at "rd"
    simp only [i1,T.AF,T.C2,HK,Option.some.injEq,HO.ins.injEq,true_and,and_assoc,exists_eq_left',exists_and_left,exists_eq_left,V.ref.injEq]
    refine ⟨_,i2,?_⟩
    rw [r2.length,List.length_map]; exact k
def ES (ns:DU) (p:B8) (i:Nat):Bool:=(FtW.sub FtW.fileOf ns).any fun x=>decide (x.1≠p) && decide (x.2=i)
structure Au7 (A:Ad) (H:Hp) (t:TA) (ns:DU) (n:Nat):Prop where
  ne:t.a≠t.dh
  ins:∃ dx,H t.a=some (.ins A.A8 dx (IX t n))
  holders:∃ hs,H t.dh=some (.dT hs)∧EY kb Av1 hs (FtW.sub FtW.fileOf ns)
theorem Ct.hold {A:Ad} {H:Hp} {t:TA} {ns:DU} {n:Nat} {c:List (Nat × B8)} (I:Ct A H t ns n c):Au7 A H t ns n:=⟨by have:=I.nd; simp [TA.fp] at this; exact this.1.2.2.1,I.ins,I.holders⟩
theorem W7 {ns:DU} {p:B8} {i:Nat}:ES ns p i=true↔∃ q,q≠p∧(q,FtTree.Node.file i) ∈ ns:=FtW.HI (w:=⟨ns,[],[]⟩)
theorem Ah2 {ns:DU} {p:B8} {m:FtTree.Node} {j:Nat}:ES (FtW.put ns p m) p j=ES ns p j:=by
  rw [Bool.eq_iff_iff,W7,W7]
  constructor
  · rintro ⟨q,hq,h⟩
    rcases FtW.IZ h with e | ⟨h,_⟩
    · rw [Prod.mk.injEq] at e; exact absurd e.1 hq
    · exact ⟨q,hq,h⟩
  · rintro ⟨q,hq,h⟩
    exact ⟨q,hq,FtW.Wu h hq⟩
def ArR (A:Ad) (K:PySem.W.Frag):Sp:=fun vs H Q _=>∃ (t:TA) (b:Addr) (p:B8) (i:Nat) (ns:DU) (n:Nat),vs=[.ref t.a,.ref b,.int ((i:Int) + 1)]∧Au7 A H t ns n∧ns.length≤1000∧(ns.map (·.1)).Nodup∧SqT K H b (bv p)∧∀ H',Ai [] H H'→Q (.bl (ES ns p i)) H'
theorem Hl (T:Tx K mg A):AY P w K mg base CX0 1 A.AW A.EC ["self","path","number"] (ArR A K):=by
  refine T.Dj.ok Er (fun vs H Q E h=>?_) (fun cdv Ar outer s H vs Q E hr h=>?_)
  · obtain ⟨t,b,p,i,ns,n,rfl,_⟩:=h
    rfl
  · obtain ⟨t,b,p,i,ns,n,rfl,⟨nd2,⟨dx,i1⟩,⟨hs,i4,r4⟩⟩,hlen0,hnd,hb,k⟩:=h
    have hu:=AZ hr
    have hlen:(FtW.sub FtW.fileOf ns).length≤1000:=Nat.le_trans (List.length_filterMap_le _ _) hlen0
    have hLnd:((FtW.sub FtW.fileOf ns).map (·.1)).Nodup:=FtW.AgJ hnd
    refine ⟨_,(Ae (Av (AS (AuV rfl) (by rfl) T.AwH (by decide +kernel) (Aa (Agg (AdB (own:=[("other",3)]) (tt:=AbO (tOp (Aua K) (Qe 3) (Qe 1))) (te:=tOp rEq (AjP (Asu K (Qe 0) "holders") (Qe 3)) (Qe 2)) rfl Er.nd (Agh (Al (pv 0) rfl)) (Lp (N:=["self","path","number","other"]) (sc:=Af Bw) (by decide +kernel)) (fun _ _ _ _ _=>ET (i:=3) Er.nd rfl (Or.inl rfl)) (fun _ _ _ _ _=>(Aop (Ao (Amm (by exact hr.units)) (pv 3) (pv 1) (As _)))) (fun _ _ _ _ _=>(Eo AX (K1 (by exact hu) (Al (pv 0) rfl) (pv 3) (fun _ _=>rfl)) (pv 2) (As _))))) Ag)))),?_⟩
    walk_at "rd"
    refine ⟨t.dh,_,i4,trivial,fun od=>⟨_,_,_,Aj i1 nd2,T.AF,T.B5,_,Ed t n,_,rfl,od,.inr ⟨hs,Ab,?_⟩⟩⟩
    generalize hL:FtW.sub FtW.fileOf ns=L at r4 hlen hLnd
    have hbn:ES ns p i=L.any fun x=>decide (x.1≠p) && decide (x.2=i):=by unfold ES; rw [hL]
    rw [hbn] at k
    have hll:=r4.length
    refine YE hs.length (fun D j H'=>Ai [] (upd H t.dh (.frz od (.dT hs))) H'∧H' D=some (.lst ((((L.take j).filter fun x=>decide (x.1≠p)).map fun x=>decide (x.2=i)).map V.bl))∧D≠t.dh) (fun D hD=>⟨Ai.new hD,by rw [Ab]; rfl,fun q=>by subst q; rw [Ab] at hD; cases hD⟩) ?_ ?_ ?_
    · rintro D j H' hj ⟨k2,_⟩
      exact ⟨k2.at_ _ _ Ab (by simp),hj⟩
    · rintro D j H' x H'' hD hj ⟨k2,h2,hDd⟩ ⟨rfl,kk,v,q,hkv,rfl,hq⟩
      obtain ⟨y,hy,e1,e2⟩:=De r4 hkv
      simp only at e1 e2
      subst e1
      rw [Ro] at hq
      walk_at "rd"
      refine Axa (SqT.of hq) ((SqT.dict i4 hb).keep k2) ⟨_,rfl,?_⟩
      by_cases hyp:y.1=p
      · rw [if_neg (by simp [hyp])]
        refine ⟨k2,?_,hDd⟩
        rw [h2,BC hy,List.filter_append,List.filter_cons,if_neg (by simp [hyp]),List.filter_nil,List.append_nil]
      · rw [if_pos (by simp [hyp])]
        refine ⟨_,_,_,k2.at_ _ _ (Aj i1 nd2) (by simp),T.AF,T.B5,_,Ed t n,_,rfl,v,.inr ⟨hs,kb y.1,q,.inr ⟨od,k2.at_ _ _ Ab (by simp)⟩,rfl,by rw [Ro]; exact hq,?_⟩,?_,_,h2,Bs ?_,AN k2 hD,?_,hDd⟩
        · obtain ⟨v',hv',hv2⟩:=r4.some IV (k:=y.1) (x:=y.2) (by
            have nd4:(L.map (·.1)).Nodup:=hLnd
            exact FtW.DA nd4 (List.mem_of_getElem? hy))
          rw [hv']
          exact congrArg some (e2.trans hv2.symm)
        · rw [e2]; rfl
        · rw [List.length_map,List.length_map]
          have:=List.length_filter_le (fun x:B8 × Nat=>decide (x.1≠p)) (L.take j)
          rw [List.length_take] at this
          omega
        · rw [Ab,BC hy,List.filter_append,List.filter_cons,if_pos (by simp [hyp]),List.filter_nil,List.map_append,List.map_append]
          rw [e2]
          show _=some (HO.lst (_++[V.bl (decide (y.2=i))]))
          congr 4
          by_cases e3:y.2=i
          · simp [e3]
          · have : ¬ ((y.2:Int) + 1=(i:Int) + 1):=by omega
            simp [e3,this]
    · rintro D H' hD ⟨k2,h2,hDd⟩
      refine ⟨⟨k2.at_ _ _ Ab (by simp),Nat.le_refl _⟩,k2.at_ _ _ Ab (by simp),_,rfl,_,SqL.of (Aj h2 hDd),?_⟩
      rw [hll,List.take_length,List.any_map,List.any_filter]
      exact k _ (k2.unlock i4)
end
section
variable {P:Program} {w:World} {K:PySem.W.Frag} {mg:Str→Option Value} {base:Heap} {A:Ad}
def numOf:Option Nat→Int
  | some i=>(i:Int) + 1
  | none=>0
def AwU (c:List (Nat × B8)):Option Nat→Bool
  | some i=>(FtW.val c i).isSome
  | none=>false
theorem Aol {β:Type} {G:V→β→Prop}:∀ {ts:List (Key × V)} {l:List (Nat × β)},EY nk G ts l→Hs ts (Sum.inl 0)=none
  | _,_,.nil=>rfl
  | _,_,.cons (a:=a) (b:=b) r t=>by
    rw [FI (fun q=>by rw [r.1] at q; have:=Sum.inl.inj q; omega)]
    exact Aol t
def AmJ (A:Ad):Sp:=fun vs H Q _=>∃ (x dx:Addr),vs=[.ref x]∧H x=some (.ins A.A8 dx [])∧∀ (H':Hp) (t:TA),t.a=x→Ai [x] H H'→(∀ b ∈ t.fp,b=x∨H b=none)→Ct A H' t [] 0 []→Q .non H'
theorem AfV (T:Tx K mg A):AY P w K mg base CX0 1 A.Dy A.OD ["self"] (AmJ A):=by
  refine T.Kg.ok Agz (fun vs H Q E h=>?_) (fun cdv Ar outer s H vs Q E hr h=>?_)
  · obtain ⟨x,dx,rfl,_⟩:=h
    rfl
  · obtain ⟨x,dx,rfl,hx,k⟩:=h
    have hu:=AZ hr
    refine ⟨_,(Ac (Bd (pv 0) P5 rfl)
      (Ac (Bd (pv 0) P5 rfl)
      (Ac (Bd (pv 0) P5 rfl)
      (Ac (Bd (pv 0) Ajq rfl)
      (Ae (Bd (pv 0) Ap rfl)))))),?_⟩
    walk_at "rd"
    have step:∀ (Hi:Hp) (fs fs':List (Str × V)) (q:Addr) (o:HO),Ai [x] H Hi→Hi x=some (.ins A.A8 dx fs)→Hi q=none →
        upd Hi q o x=some (.ins A.A8 dx fs)∧Ai [x] H (upd (upd Hi q o) x (.ins A.A8 dx fs'))∧upd (upd Hi q o) x (.ins A.A8 dx fs') x=some (.ins A.A8 dx fs')∧upd (upd Hi q o) x (.ins A.A8 dx fs') q=some o∧x≠q∧H q=none∧(∀ b u,Hi b=some u→b≠x→upd (upd Hi q o) x (.ins A.A8 dx fs') b=some u∧b≠q):=by
      intro Hi fs fs' q o k1 hx1 hq
      have hxq:x≠q:=Au hx1 hq
      have hx2:=BW (o:=o) hx1 hq
      refine ⟨hx2,(k1.trans (Ai.new hq)).trans (Ai.put hx2 trivial (by simp)),Ab,by rw [A9 hxq.symm,Ab],hxq,?_,fun b u e hb=>⟨by rw [A9 hb]; exact BW e hq,Au e hq⟩⟩
      rcases k1.free hq with z | z
      · exact z
      · exact absurd (List.mem_singleton.mp z).symm hxq
    intro dk hk
    obtain ⟨a1,k1,b1,c1,d1,e1,f1⟩:=step _ _ (Bj "kinds" (.ref dk) []) _ (.dT []) Ai.refl hx hk
    refine ⟨_,_,_,a1,T.AF,T.C2,by show 0 < 1000; decide,fun dt ht=>?_⟩
    obtain ⟨a2,k2,b2,c2,d2,e2,f2⟩:=step _ _ (Bj "texts" (.ref dt) (Bj "kinds" (.ref dk) [])) _ (.dT []) k1 b1 ht
    refine ⟨_,_,_,a2,T.AF,T.Hj,by show 1 < 1000; decide,fun dh hh=>?_⟩
    obtain ⟨a3,k3,b3,c3,d3,e3,f3⟩:=step _ _ (Bj "holders" (.ref dh) (Bj "texts" (.ref dt) (Bj "kinds" (.ref dk) []))) _ (.dT []) k2 b2 hh
    refine ⟨_,_,_,a3,T.AF,T.B5,by show 2 < 1000; decide,fun dc hc=>?_⟩
    obtain ⟨a4,k4,b4,c4,d4,e4,f4⟩:=step _ _ (Bj "contents" (.ref dc) (Bj "holders" (.ref dh) (Bj "texts" (.ref dt) (Bj "kinds" (.ref dk) [])))) _ (.dK []) k3 b3 hc
    refine ⟨_,_,_,a4,T.AF,T.Bt,by show 3 < 1000; decide,_,_,_,b4,T.AF,T.BP,by show 4 < 1000; decide,?_⟩
    obtain ⟨c1',n12⟩:=f2 _ _ c1 d1.symm
    obtain ⟨c1'',n13⟩:=f3 _ _ c1' d1.symm
    obtain ⟨c1''',n14⟩:=f4 _ _ c1'' d1.symm
    obtain ⟨c2',n23⟩:=f3 _ _ c2 d2.symm
    obtain ⟨c2'',n24⟩:=f4 _ _ c2' d2.symm
    obtain ⟨c3',n34⟩:=f4 _ _ c3 d3.symm
    refine k _ ⟨x,dk,dt,dh,dc⟩ rfl (k4.trans (Ai.put b4 trivial (by simp))) (fun b hb=>?_) ⟨?_,⟨dx,Ab⟩,⟨[],Aj c1''' d1.symm,.nil⟩,⟨[],Aj c2'' d2.symm,.nil⟩,⟨[],Aj c3' d3.symm,.nil⟩,⟨[],Aj c4 d4.symm,.nil⟩⟩
    · simp only [TA.fp,List.mem_cons,List.not_mem_nil,or_false] at hb
      rcases hb with rfl | rfl | rfl | rfl | rfl
      · exact .inl rfl
      · exact .inr e1
      · exact .inr e2
      · exact .inr e3
      · exact .inr e4
    · simp [TA.fp,d1,d2,d3,d4,n12,n13,n14,n23,n24,n34]
def dataOf (w:FtTree.World) (p:B8):Option B8:=(FtW.val w.nodes p).bind fun
  | .dir=>none
  | .link t=>some t
  | .file i=>some (w.bytes i)
def ArU (A:Ad):Sp:=fun vs H Q _=>∃ (t:TA) (b:Addr) (p d:B8) (w:FtTree.World),vs=[.ref t.a,.ref b]∧Ct A H t w.nodes w.files.length (FtW.Aq w)∧FtW.WF w∧H b=some (.tup (bv p))∧dataOf w p=some d∧∀ b',H b'=some (.tup (bv d))→Q (.ref b') H
theorem FO (T:Tx K mg A):AY P w K mg base CX0 1 A.Cc A.JN ["self","path"] (ArU A):=by
  refine T.GK.ok Yx (fun vs H Q E h=>?_) (fun cdv Ar outer s H vs Q E hr h=>?_)
  · obtain ⟨t,b,p,d,w,rfl,_⟩:=h
    rfl
  · obtain ⟨t,b,p,d,w,rfl,⟨nd,⟨dx,i1⟩,⟨ks,i2,r2⟩,⟨ts,i3,r3⟩,⟨hs,i4,r4⟩,⟨cs,i5,r5⟩⟩,W,hb,hd,k⟩:=h
    have hu:=AZ hr
    refine ⟨_,(Ac (AD (Ao AX (K1 (by exact hu) (Al (pv 0) rfl) (pv 1) (fun _ _=>rfl)) (Ak T.OS) (As _)) (Ae (Av (K1 (by exact hu) (Al (pv 0) rfl) (K1 (by exact hu) (Al (pv 0) rfl) (pv 1) (fun _ _=>rfl)) (fun _ _=>rfl)))) A7)
      (Ae (Av (K1 (by exact hu) (Al (pv 0) rfl) (pv 1) (fun _ _=>rfl))))),?_⟩
    walk_at "rd"
    simp only [i1,T.AF,T.C2,T.Bt,T.B5,T.Hj,HK,D3,Ed,Ad7,Option.some.injEq,HO.ins.injEq,true_and,and_assoc,exists_eq_left',exists_and_left,exists_eq_left,V.ref.injEq,V.int.injEq]
    have kb':H b=some (.tup ((kb p).map kV)):=by rw [Ro]; exact hb
    cases hv:FtW.val w.nodes p with
    | none=>unfold dataOf at hd; rw [hv] at hd; cases hd
    | some m =>
      obtain ⟨v,hv1,hv2⟩:=r2.some IV (k:=p) (x:=FtW.kindNo m) (by rw [FtW.Aha,hv]; rfl)
      have hv2:v=.int (FtW.kindNo m:Nat):=hv2
      subst hv2
      refine ⟨_,by rw [← hv1]; exact HD.t i2 kb',rfl,?_⟩
      cases m with
      | dir=>unfold dataOf at hd; rw [hv] at hd; cases hd
      | link x =>
        unfold dataOf at hd; rw [hv] at hd
        have hd:=Option.some.inj hd
        subst hd
        rw [if_neg (by simp [FtW.kindNo])]
        obtain ⟨v,hv3,b',rfl,hb'⟩:=r3.some IV (k:=p) (x:=x) (by rw [FtW.val_sub W.nd,hv]; rfl)
        exact ⟨_,by rw [← hv3]; exact HD.t i3 kb',k b' hb'⟩
      | file j =>
        unfold dataOf at hd; rw [hv] at hd
        have hd:=Option.some.inj hd
        subst hd
        rw [if_pos (show V.int (FtW.kindNo (FtTree.Node.file j):Nat)=V.int 1 from rfl)]
        obtain ⟨v,hv3,rfl⟩:=r4.some IV (k:=p) (x:=j) (by rw [FtW.val_sub W.nd,hv]; rfl)
        have hal:w.alive j=true:=FtW.Eu.mpr ⟨p,FtW.Ht hv⟩
        obtain ⟨v5,hv5,b',rfl,hb'⟩:=r5.some Nf (k:=j) (x:=w.bytes j) (FtW.Ji w j hal (W.JC hal))
        exact ⟨_,by rw [← hv3]; exact HD.t i4 kb',_,by rw [← hv5]; exact HD.k (k:=nk j) i5,k b' hb'⟩
def Xd (A:Ad):Sp:=fun vs H Q _=>∃ (t:TA) (ns:DU) (n:Nat) (c:List (Nat × B8)),vs=[.ref t.a]∧Ct A H t ns n c∧c.length≤1000∧∀ H',Ai [] H H'→Q (.int (FtTree.sum (c.map fun x=>x.2.length):Nat)) H'
theorem SX (T:Tx K mg A):AY P w K mg base CX0 1 A.B2 A.Hb ["self"] (Xd A):=by
  refine T.EM.ok Gg (fun vs H Q E h=>?_) (fun cdv Ar outer s H vs Q E hr h=>?_)
  · obtain ⟨t,ns,n,c,rfl,_⟩:=h
    rfl
  · obtain ⟨t,ns,n,c,rfl,⟨nd,⟨dx,i1⟩,⟨ks,i2,r2⟩,⟨ts,i3,r3⟩,⟨hs,i4,r4⟩,⟨cs,i5,r5⟩⟩,hc,k⟩:=h
    have hu:=AZ hr
    refine ⟨_,(Ae (Av (AS (AqK rfl) (by rfl) T.Au9 (by decide +kernel) (Aa (Agg (AdB (own:=[("data",1)]) (te:=tCB (fun xs H Q=>∃ p ys,xs=[V.ref p]∧(SqL K H p ys∨SqT K H p ys)∧Q (.int ys.length) H) (AbN (Qe 1) AgL)) rfl Gg.nd (ApZ (Al (pv 0) rfl)) (Lp (N:=["self","data"]) (sc:=Af Cf) (by decide +kernel)) (fun _ _ _ _ _=>ET (i:=1) Gg.nd rfl (Or.inl rfl)) (fun _ _ _ _ _=>YH) (fun _ _ _ _ _=>(AS AI (by rfl) T.Es PySem.boot_len (Aa (pv 1) Ag))))) Ag)))),?_⟩
    walk_at "rd"
    have nd2:t.a≠t.dc:=by have:=nd; simp [TA.fp] at this; exact this.1.2.2.2
    refine ⟨t.dc,_,i5,trivial,fun od=>⟨_,_,_,Aj i1 nd2,T.AF,T.Bt,_,D3 t n,_,rfl,od,cs,Ab,?_⟩⟩
    have hll:=r5.length
    refine YE cs.length (fun D j H'=>Ai [] (upd H t.dc (.frz od (.dK cs))) H'∧H' D=some (.lst (((c.take j).map fun x=>(x.2.length:Int)).map V.int))∧D≠t.dc) (fun D hD=>⟨Ai.new hD,by rw [Ab]; rfl,fun q=>by subst q; rw [Ab] at hD; cases hD⟩) ?_ ?_ ?_
    · rintro D j H' hj ⟨k2,_⟩
      exact ⟨k2.at_ _ _ Ab (by simp),hj⟩
    · rintro D j H' x H'' hD hj ⟨k2,h2,hDd⟩ ⟨rfl,kk,hkv⟩
      obtain ⟨y,hy,e1,b',e2,hb'⟩:=De r5 hkv
      simp only at e1 e2
      subst e2
      have hb2:=k2.tup _ _ (Aj (o:=.frz od (.dK cs)) hb' (Vb hb' i5 (by intro z; cases z)))
      walk_at "rd"
      refine ⟨_,.inr (SqT.of hb2),_,h2,Bs ?_,AN k2 hD,?_,hDd⟩
      · rw [List.length_map,List.length_map,List.length_take]; omega
      · rw [Ab,BC hy,List.map_append,List.map_append,Az]; rfl
    · rintro D H' hD ⟨k2,h2,hDd⟩
      refine ⟨⟨k2.at_ _ _ Ab (by simp),Nat.le_refl _⟩,k2.at_ _ _ Ab (by simp),_,rfl,_,SqL.of (Aj h2 hDd),?_⟩
      rw [hll,List.take_length]
      have e:∀ l:List (Nat × B8),(l.map fun x=>(x.2.length:Int)).sum=((FtTree.sum (l.map fun x=>x.2.length):Nat):Int):=by
        intro l
        induction l with
        | nil=>rfl
        | cons a l ih=>rw [List.map_cons,List.sum_cons,ih,List.map_cons,FtW.sum_cons]; omega
      rw [e]
      exact k _ (k2.unlock i5)
def Aqk (A:Ad):Sp:=fun vs H Q _=>∃ (t:TA) (ns:DU) (n:Nat) (c:List (Nat × B8)) (o:Option Nat),vs=[.ref t.a,.int (numOf o)]∧Ct A H t ns n c∧Q (.bl (AwU c o)) H
theorem Wk (T:Tx K mg A):AY P w K mg base CX0 1 A.BJ A.II ["self","number"] (Aqk A):=by
  refine T.FK.ok Ww (fun vs H Q E h=>?_) (fun cdv Ar outer s H vs Q E hr h=>?_)
  · obtain ⟨t,ns,n,c,o,rfl,_⟩:=h
    rfl
  · obtain ⟨t,ns,n,c,o,rfl,⟨nd,⟨dx,i1⟩,⟨ks,i2,r2⟩,⟨ts,i3,r3⟩,⟨hs,i4,r4⟩,⟨cs,i5,r5⟩⟩,k⟩:=h
    have hu:=AZ hr
    refine ⟨_,(Ae (Av (AvM (AvJ (by exact hu) (pv 1) (Al (pv 0) rfl))))),?_⟩
    walk_at "rd"
    simp only [i1,T.AF,T.Bt,D3,Option.some.injEq,HO.ins.injEq,true_and,and_assoc,exists_eq_left',exists_and_left,exists_eq_left,V.ref.injEq,V.int.injEq]
    cases o with
    | none =>
      refine ⟨_,HD.k (k:=Sum.inl 0) i5,?_⟩
      rw [Aol r5]; exact k
    | some j =>
      refine ⟨_,HD.k (k:=nk j) i5,?_⟩
      have e:(Hs cs (nk j)).isSome=(FtW.val c j).isSome:=by
        cases h:FtW.val c j with
        | none=>rw [r5.none Nf h]; rfl
        | some x =>
          obtain ⟨v,h1,_⟩:=r5.some Nf h
          rw [h1]; rfl
      rw [e]; exact k
def Asf (A:Ad):Sp:=fun vs H Q _=>∃ (t:TA) (b:Addr) (p:B8) (ns:DU) (n:Nat) (c:List (Nat × B8)),vs=[.ref t.a,.ref b]∧Ct A H t ns n c∧(ns.map (·.1)).Nodup∧ns.length≤1000∧H b=some (.tup (bv p))∧(∀ m,FtW.val ns p=some m→m=.dir)∧∀ H',Ai t.fp H H'→Ct A H' t (FtW.put ns p .dir) n c→Q .non H'
theorem NH (T:Tx K mg A):AY P w K mg base CX0 1 A.Bc A.Fd ["self","path"] (Asf A):=by
  refine T.Du.ok NN (fun vs H Q E h=>?_) (fun cdv Ar outer s H vs Q E hr h=>?_)
  · obtain ⟨t,b,p,ns,n,c,rfl,_⟩:=h
    rfl
  · obtain ⟨t,b,p,ns,n,c,rfl,⟨nd,⟨dx,i1⟩,⟨ks,i2,r2⟩,⟨ts,i3,r3⟩,⟨hs,i4,r4⟩,⟨cs,i5,r5⟩⟩,hnd,hlen,hb,hm,k⟩:=h
    have hu:=AZ hr
    refine ⟨_,(Ae (Jc (by exact hu) (Al (pv 0) rfl) (pv 1) (Ak T.Iy) rfl)),?_⟩
    walk_at "rd"
    simp only [i1,T.AF,T.C2,HK,Option.some.injEq,HO.ins.injEq,true_and,and_assoc,exists_eq_left',exists_and_left,exists_eq_left,V.ref.injEq,V.int.injEq]
    have k1:Ai t.fp H (upd H t.dk (.dT (putK ks (kb p) (.int 2)))):=Ai.put i2 trivial (by simp [TA.fp])
    have nn:=nd
    simp only [TA.fp,List.nodup_cons,List.mem_cons,List.not_mem_nil,or_false,not_or] at nn
    obtain ⟨⟨n1,n2,n3,n4⟩,⟨n5,n6,n7⟩,⟨n8,n9⟩,n10,_⟩:=nn
    refine ⟨_,Qz.t (k:=kb p) i2 (by rw [Ro]; exact hb) (Bs (by rw [r2.length,List.length_map]; omega)),k _ k1 ⟨nd,⟨dx,Aj i1 n1⟩,⟨_,Ab,?_⟩,⟨ts,Aj i3 (Ne.symm n5),?_⟩,⟨hs,Aj i4 (Ne.symm n6),?_⟩,⟨cs,Aj i5 (Ne.symm n7),r5.imp (isB.keep k1)⟩⟩⟩
    · rw [FtW.map_put]; exact r2.put IV rfl
    · rw [FtW.MH hnd rfl (fun u hu=>by rw [hm u hu]; rfl)]; exact r3.imp (isB.keep k1)
    · rw [FtW.MH hnd rfl (fun u hu=>by rw [hm u hu]; rfl)]; exact r4
def Aqr (A:Ad):Sp:=fun vs H Q _=>∃ (t:TA) (b e:Addr) (p x:B8) (ns:DU) (n:Nat) (c:List (Nat × B8)),vs=[.ref t.a,.ref b,.ref e]∧Ct A H t ns n c∧(ns.map (·.1)).Nodup∧ns.length≤1000∧H b=some (.tup (bv p))∧H e=some (.tup (bv x))∧(∀ m,FtW.val ns p=some m→∃ y,m=.link y)∧∀ H',Ai t.fp H H'→Ct A H' t (FtW.put ns p (.link x)) n c→Q .non H'
theorem Wl (T:Tx K mg A):AY P w K mg base CX0 1 A.BK A.IJ ["self","path","text"] (Aqr A):=by
  refine T.FL.ok Wx (fun vs H Q E h=>?_) (fun cdv Ar outer s H vs Q E hr h=>?_)
  · obtain ⟨t,b,e,p,x,ns,n,c,rfl,_⟩:=h
    rfl
  · obtain ⟨t,b,e,p,x,ns,n,c,rfl,⟨nd,⟨dx,i1⟩,⟨ks,i2,r2⟩,⟨ts,i3,r3⟩,⟨hs,i4,r4⟩,⟨cs,i5,r5⟩⟩,hnd,hlen,hb,he,hm,k⟩:=h
    have hu:=AZ hr
    refine ⟨_,(Ac (Jc (by exact hu) (Al (pv 0) rfl) (pv 1) (Ak T.VV) rfl)
      (Ae (Jc (by exact hu) (Al (pv 0) rfl) (pv 1) (pv 2) rfl))),?_⟩
    walk_at "rd"
    have kb':H b=some (.tup ((kb p).map kV)):=by rw [Ro]; exact hb
    have k1:Ai t.fp H (upd H t.dk (.dT (putK ks (kb p) (.int 3)))):=Ai.put i2 trivial (by simp [TA.fp])
    have nn:=nd
    simp only [TA.fp,List.nodup_cons,List.mem_cons,List.not_mem_nil,or_false,not_or] at nn
    obtain ⟨⟨n1,n2,n3,n4⟩,⟨n5,n6,n7⟩,⟨n8,n9⟩,n10,_⟩:=nn
    have i3':upd H t.dk (.dT (putK ks (kb p) (.int 3))) t.dt=some (.dT ts):=Aj i3 (Ne.symm n5)
    have k2:Ai t.fp H (upd (upd H t.dk (.dT (putK ks (kb p) (.int 3)))) t.dt (.dT (putK ts (kb p) (.ref e)))):=k1.trans (Ai.put i3' trivial (by simp [TA.fp]))
    have hsl:ts.length≤1000:=by rw [r3.length]; exact Nat.le_trans (List.length_filterMap_le _ _) hlen
    refine ⟨_,_,_,i1,T.AF,T.C2,_,HK t n,_,rfl,_,Qz.t (k:=kb p) i2 kb' (Bs (by rw [r2.length,List.length_map]; omega)),_,_,_,Aj i1 n1,T.AF,T.Hj,_,Ad7 t n,_,rfl,_,Qz.t (k:=kb p) i3' (k1.tup _ _ kb') (Bs (by omega)),?_⟩
    refine k _ k2 ⟨nd,⟨dx,Aj (Aj i1 n1) n2⟩,⟨_,Aj Ab n5,?_⟩,⟨_,Ab,?_⟩,⟨hs,Aj (Aj i4 (Ne.symm n6)) (Ne.symm n8),?_⟩,⟨cs,Aj (Aj i5 (Ne.symm n7)) (Ne.symm n9),r5.imp (isB.keep k2)⟩⟩
    · rw [FtW.map_put]; exact r2.put IV rfl
    · rw [FtW.Xf (y:=x) hnd rfl (fun u hu=>by obtain ⟨y,rfl⟩:=hm u hu; rfl)]
      exact (r3.imp (isB.keep k2)).put IV ⟨e,rfl,k2.tup _ _ he⟩
    · rw [FtW.MH hnd rfl (fun u hu=>by obtain ⟨y,rfl⟩:=hm u hu; rfl)]; exact r4
def ArT (A:Ad):Sp:=fun vs H Q _=>∃ (t:TA) (e:Addr) (i:Nat) (x:B8) (ns:DU) (n:Nat) (c:List (Nat × B8)),vs=[.ref t.a,.int ((i:Int) + 1),.ref e]∧Ct A H t ns n c∧c.length≤1000∧H e=some (.tup (bv x))∧∀ H',Ai t.fp H H'→Ct A H' t ns n (FtW.put c i x)→Q .non H'
theorem QY (T:Tx K mg A):AY P w K mg base CX0 1 A.Bn A.Ga ["self","number","data"] (ArT A):=by
  refine T.Eg.ok Rc (fun vs H Q E h=>?_) (fun cdv Ar outer s H vs Q E hr h=>?_)
  · obtain ⟨t,e,i,x,ns,n,c,rfl,_⟩:=h
    rfl
  · obtain ⟨t,e,i,x,ns,n,c,rfl,⟨nd,⟨dx,i1⟩,⟨ks,i2,r2⟩,⟨ts,i3,r3⟩,⟨hs,i4,r4⟩,⟨cs,i5,r5⟩⟩,hc,he,k⟩:=h
    have hu:=AZ hr
    refine ⟨_,(Ae (Jc (by exact hu) (Al (pv 0) rfl) (pv 1) (pv 2) rfl)),?_⟩
    walk_at "rd"
    simp only [i1,T.AF,T.Bt,D3,Option.some.injEq,HO.ins.injEq,true_and,and_assoc,exists_eq_left',exists_and_left,exists_eq_left,V.ref.injEq,V.int.injEq]
    have k1:Ai t.fp H (upd H t.dc (.dK (putK cs (nk i) (.ref e)))):=Ai.put i5 trivial (by simp [TA.fp])
    have nn:=nd
    simp only [TA.fp,List.nodup_cons,List.mem_cons,List.not_mem_nil,or_false,not_or] at nn
    obtain ⟨⟨n1,n2,n3,n4⟩,⟨n5,n6,n7⟩,⟨n8,n9⟩,n10,_⟩:=nn
    refine ⟨_,Qz.k (k:=nk i) i5 (Bs (by rw [r5.length]; omega)),k _ k1 ⟨nd,⟨dx,Aj i1 n4⟩,⟨ks,Aj i2 n7,r2⟩,⟨ts,Aj i3 n9,r3.imp (isB.keep k1)⟩,⟨hs,Aj i4 n10,r4⟩,⟨_,Ab,(r5.imp (isB.keep k1)).put Nf ⟨e,rfl,k1.tup _ _ he⟩⟩⟩⟩
end
section
variable {P:Program} {w:World} {K:PySem.W.Frag} {mg:Str→Option Value} {base:Heap} {A:Ad}
def FY (ns:DU) (c:List (Nat × B8)) (p:B8) (i:Nat):List (Nat × B8) :=
  if (FtW.val (FtW.sub FtW.fileOf ns) p).getD i≠i∧ES ns p ((FtW.val (FtW.sub FtW.fileOf ns) p).getD i)=false then FtW.drop c ((FtW.val (FtW.sub FtW.fileOf ns) p).getD i) else c
def Aqs (A:Ad) (K:PySem.W.Frag):Sp:=fun vs H Q _=>∃ (t:TA) (b:Addr) (p:B8) (i:Nat) (ns:DU) (n:Nat) (c:List (Nat × B8)),vs=[.ref t.a,.ref b,.int ((i:Int) + 1)]∧Ct A H t ns n c∧(ns.map (·.1)).Nodup∧ns.length≤900∧H b=some (.tup (bv p))∧(∀ m,FtW.val ns p=some m→∃ j,m=.file j∧(FtW.val c j).isSome=true)∧∀ H',Ai t.fp H H'→Ct A H' t (FtW.put ns p (.file i)) n (FY ns c p i)→Q .non H'
theorem LA (T:Tx K mg A):AY P w K mg base CX0 2 A.BL A.IK ["self","path","number"] (Aqs A K):=by
  refine T.FN.ok LG (fun vs H Q E h=>?_) (fun cdv Ar outer s H vs Q E hr h=>?_)
  · obtain ⟨t,b,p,i,ns,n,c,rfl,_⟩:=h
    rfl
  · obtain ⟨t,b,p,i,ns,n,c,rfl,⟨nd,⟨dx,i1⟩,⟨ks,i2,r2⟩,⟨ts,i3,r3⟩,⟨hs,i4,r4⟩,⟨cs,i5,r5⟩⟩,hnd,hlen,hb,hm,k⟩:=h
    have hu:=AZ hr
    refine ⟨_,(Ac (Be (i:=3) LG.nd rfl (Or.inl rfl) (Vg (by exact hu) (Al (pv 0) rfl) (pv 1) (pv 2) ⟨rfl,rfl,rfl,rfl⟩))
      (Ac (Jc (by exact hu) (Al (pv 0) rfl) (pv 1) (Ak T.OS) rfl)
      (Ac (Jc (by exact hu) (Al (pv 0) rfl) (pv 1) (pv 2) rfl)
      (Ae (AD (M6 (Ao IW (pv 3) (pv 2) (As _)) (Jd (Wt (Lg (AH (pv 0) T.AF T.Hv (Hl T) (hr.mono (by decide)) T.Dg .nil A1 (Aa (pv 1) (Aa (pv 3) Ag))))))).pt (Ae (AE (Ar6 (Al (pv 0) rfl) (pv 3) ⟨rfl,rfl,rfl,rfl⟩))) A7))))),?_⟩
    walk_at "rd"
    have kb':H b=some (.tup ((kb p).map kV)):=by rw [Ro]; exact hb
    have nn:=nd
    simp only [TA.fp,List.nodup_cons,List.mem_cons,List.not_mem_nil,or_false,not_or] at nn
    obtain ⟨⟨n1,n2,n3,n4⟩,⟨n5,n6,n7⟩,⟨n8,n9⟩,n10,_⟩:=nn
    have hsv:FtW.val (FtW.sub FtW.fileOf ns) p=(FtW.val ns p).bind FtW.fileOf:=FtW.val_sub hnd p
    have hbf:(Hs hs (kb p)).getD (V.int ((i:Int) + 1))=.int (((FtW.val (FtW.sub FtW.fileOf ns) p).getD i:Nat) + 1):=by
      cases h:FtW.val (FtW.sub FtW.fileOf ns) p with
      | none=>rw [r4.none IV h]; rfl
      | some x =>
        obtain ⟨v,h1,h2⟩:=r4.some IV h
        rw [h1]; exact h2
    have hl4:hs.length≤900:=by rw [r4.length]; exact Nat.le_trans (List.length_filterMap_le _ _) hlen
    have k1:Ai t.fp H (upd H t.dk (.dT (putK ks (kb p) (.int 1)))):=Ai.put i2 trivial (by simp [TA.fp])
    have i4':upd H t.dk (.dT (putK ks (kb p) (.int 1))) t.dh=some (.dT hs):=Aj i4 (Ne.symm n6)
    have k2:Ai t.fp H (upd (upd H t.dk (.dT (putK ks (kb p) (.int 1)))) t.dh (.dT (putK hs (kb p) (.int ((i:Int) + 1))))):=k1.trans (Ai.put i4' trivial (by simp [TA.fp]))
    have J:Ct A (upd (upd H t.dk (.dT (putK ks (kb p) (.int 1)))) t.dh (.dT (putK hs (kb p) (.int ((i:Int) + 1))))) t (FtW.put ns p (.file i)) n c:=by
      refine ⟨nd,⟨dx,Aj (Aj i1 n1) n3⟩,⟨_,Aj Ab n6,?_⟩,⟨ts,Aj (Aj i3 (Ne.symm n5)) n8,?_⟩,⟨_,Ab,?_⟩,⟨cs,Aj (Aj i5 (Ne.symm n7)) (Ne.symm n10),r5.imp (isB.keep k2)⟩⟩
      · rw [FtW.map_put]; exact r2.put IV rfl
      · rw [FtW.MH hnd rfl (fun u hu=>by obtain ⟨y,rfl,_⟩:=hm u hu; rfl)]; exact r3.imp (isB.keep k2)
      · rw [FtW.Xf (y:=i) hnd rfl (fun u hu=>by obtain ⟨y,rfl,_⟩:=hm u hu; rfl)]
        exact r4.put IV rfl
    refine ⟨_,_,_,i1,T.AF,T.B5,_,Ed t n,_,rfl,.inr ⟨_,.inl i4⟩,_,HD.t (k:=kb p) i4 kb',_,_,_,i1,T.AF,T.C2,_,HK t n,_,rfl,_,Qz.t (k:=kb p) i2 kb' (Bs (by rw [r2.length,List.length_map]; omega)),
      _,_,_,Aj i1 n1,T.AF,T.B5,_,Ed t n,_,rfl,_,Qz.t (k:=kb p) i4' (k1.tup _ _ kb') (Bs (by omega)),?_⟩
    rw [hbf]
    generalize hH2:upd (upd H t.dk (.dT (putK ks (kb p) (.int 1)))) t.dh (.dT (putK hs (kb p) (.int ((i:Int) + 1))))=H2 at k2 J
    generalize hbe:(FtW.val (FtW.sub FtW.fileOf ns) p).getD i=bf
    refine ⟨rfl,?_⟩
    have hca:FY ns c p i=if bf≠i∧ES ns p bf=false then FtW.drop c bf else c:=by unfold FY; rw [hbe]
    by_cases hbi:bf=i
    · rw [if_neg (by simp [hbi])]
      refine k _ k2 ?_
      rw [hca,if_neg (fun q=>q.1 hbi)]; exact J
    · have hbi' : ¬ ((bf:Int) + 1=(i:Int) + 1):=by omega
      rw [if_pos (by simp [hbi'])]
      obtain ⟨dx2,j1⟩:=J.ins
      refine ⟨_,_,j1,rfl,t,b,p,bf,_,_,rfl,J.hold,?_,FtW.Am0 hnd _ _,SqT.of (k2.tup _ _ hb),fun H3 k3=>⟨_,rfl,?_⟩⟩
      · rw [FtW.Ags]; split <;> omega
      · have J3:=J.BN k3
        have k23:Ai t.fp H H3:=k2.trans (k3.mono (by simp))
        rw [Ah2]
        rcases Bool.eq_false_or_eq_true (ES ns p bf) with hb2 | hb2
        · rw [hb2,if_neg (by decide)]
          refine k _ k23 ?_
          rw [hca,if_neg (fun q=>by rw [hb2] at q; cases q.2)]; exact J3
        · rw [hb2,if_pos (by decide)]
          have hsome:(FtW.val c bf).isSome=true:=by
            cases hv:FtW.val ns p with
            | none=>rw [hsv,hv] at hbe; exact absurd hbe.symm hbi
            | some m =>
              obtain ⟨j,rfl,hj⟩:=hm m hv
              rw [hsv,hv] at hbe
              have:j=bf:=hbe
              rw [← this]; exact hj
          obtain ⟨nd',⟨dx',m1⟩,⟨ks',m2,q2⟩,⟨ts',m3,q3⟩,⟨hs',m4,q4⟩,⟨cs',m5,q5⟩⟩:=J3
          cases hx:FtW.val c bf with
          | none=>rw [hx] at hsome; cases hsome
          | some x =>
            obtain ⟨v,hv,_⟩:=q5.some Nf hx
            have k4:Ai t.fp H3 (upd H3 t.dc (.dK (WI cs' (nk bf)))):=Ai.put m5 trivial (by simp [TA.fp])
            refine ⟨_,_,_,m1,T.AF,T.Bt,_,D3 t n,_,rfl,.inl ⟨_,.inl m5⟩,_,m5,nk bf,rfl,_,hv,k _ (k23.trans k4) ?_⟩
            rw [hca,if_pos ⟨hbi,hb2⟩]
            exact ⟨nd',⟨dx',Aj m1 n4⟩,⟨ks',Aj m2 n7,q2⟩,⟨ts',Aj m3 n9,q3.imp (isB.keep k4)⟩,⟨hs',Aj m4 n10,q4⟩,⟨_,Ab,(q5.imp (isB.keep k4)).drop Nf⟩⟩
def Aqn (A:Ad) (K:PySem.W.Frag):Sp:=fun vs H Q _=>∃ (t:TA) (b e:Addr) (p d:B8) (ns:DU) (n:Nat) (c:List (Nat × B8)),vs=[.ref t.a,.ref b,.ref e]∧Ct A H t ns n c∧(ns.map (·.1)).Nodup∧ns.length≤900∧c.length≤900∧H b=some (.tup (bv p))∧H e=some (.tup (bv d))∧(∀ m,FtW.val ns p=some m→∃ j,m=.file j∧(FtW.val c j).isSome=true)∧∀ H',Ai t.fp H H'→Ct A H' t (FtW.put ns p (.file n)) (n + 1) (FY ns (FtW.put c n d) p n)→Q (.int ((n:Int) + 1)) H'
theorem P4 (T:Tx K mg A):AY P w K mg base CX0 3 A.Bi A.F7 ["self","path","data"] (Aqn A K):=by
  refine T.DE.ok PM (fun vs H Q E h=>?_) (fun cdv Ar outer s H vs Q E hr h=>?_)
  · obtain ⟨t,b,e,p,d,ns,n,c,rfl,_⟩:=h
    rfl
  · obtain ⟨t,b,e,p,d,ns,n,c,rfl,I,hnd,hlen,hc,hb,he,hm,k⟩:=h
    have hu:=AZ hr
    refine ⟨_,(Ac (AdD (pv 0) Ap Arl)
      (Ac (Jc (by exact hu) (Al (pv 0) rfl) (Al (pv 0) rfl) (pv 2) rfl)
      (Ac (AE (AH (pv 0) T.AF T.MP (LA T) (hr.mono (by decide)) T.FJ .nil A1 (Aa (pv 1) (Aa (Al (pv 0) rfl) Ag))))
      (Ae (Av (Al (pv 0) rfl)))))),?_⟩
    walk_at "rd"
    obtain ⟨nd,⟨dx,i1⟩,⟨ks,i2,r2⟩,⟨ts,i3,r3⟩,⟨hs,i4,r4⟩,⟨cs,i5,r5⟩⟩:=I
    have nn:=nd
    simp only [TA.fp,List.nodup_cons,List.mem_cons,List.not_mem_nil,or_false,not_or] at nn
    obtain ⟨⟨n1,n2,n3,n4⟩,⟨n5,n6,n7⟩,⟨n8,n9⟩,n10,_⟩:=nn
    have ep:Bj "last_number" (.int ((n:Int) + 1)) (IX t n)=IX t (n + 1):=rfl
    have k1:Ai t.fp H (upd H t.a (.ins A.A8 dx (IX t (n + 1)))):=Ai.put i1 trivial (by simp [TA.fp])
    have j1:upd H t.a (.ins A.A8 dx (IX t (n + 1))) t.a=some (.ins A.A8 dx (IX t (n + 1))):=Ab
    have j5:upd H t.a (.ins A.A8 dx (IX t (n + 1))) t.dc=some (.dK cs):=Aj i5 (Ne.symm n4)
    have k2:Ai t.fp H (upd (upd H t.a (.ins A.A8 dx (IX t (n + 1)))) t.dc (.dK (putK cs (nk n) (.ref e)))):=k1.trans (Ai.put j5 trivial (by simp [TA.fp]))
    have J:Ct A (upd (upd H t.a (.ins A.A8 dx (IX t (n + 1)))) t.dc (.dK (putK cs (nk n) (.ref e)))) t ns (n + 1) (FtW.put c n d) :=
      ⟨nd,⟨dx,Aj j1 n4⟩,⟨ks,Aj (Aj i2 (Ne.symm n1)) n7,r2⟩,⟨ts,Aj (Aj i3 (Ne.symm n2)) n9,r3.imp (isB.keep k2)⟩,⟨hs,Aj (Aj i4 (Ne.symm n3)) n10,r4⟩,⟨_,Ab,(r5.imp (isB.keep k2)).put Nf ⟨e,rfl,k2.tup _ _ he⟩⟩⟩
    refine ⟨_,_,_,i1,T.AF,T.BP,_,UY t n,_,rfl,_,_,i1,by show 5 < 1000; decide,?_⟩
    rw [ep]
    refine ⟨_,_,_,j1,T.AF,T.Bt,_,D3 t (n + 1),_,_,_,j1,T.AF,T.BP,_,UY t (n + 1),_,rfl,_,Qz.k (k:=nk n) j5 (Bs (by rw [r5.length]; omega)),?_⟩
    generalize upd (upd H t.a (.ins A.A8 dx (IX t (n + 1)))) t.dc (.dK (putK cs (nk n) (.ref e)))=H2 at k2 J
    obtain ⟨dx2,l1⟩:=J.ins
    refine ⟨_,_,l1,rfl,_,_,_,l1,T.AF,T.BP,_,UY t (n + 1),t,b,p,n,ns,n + 1,_,rfl,J,hnd,hlen,k2.tup _ _ hb,fun m hm'=>?_,fun H3 k3 J3=>?_⟩
    · obtain ⟨j,hj,hs'⟩:=hm m hm'
      refine ⟨j,hj,?_⟩
      rw [FtW.MM]
      split
      · rfl
      · exact hs'
    · obtain ⟨dx3,m1⟩:=J3.ins
      exact ⟨_,_,_,m1,T.AF,T.BP,_,UY t (n + 1),k _ (k2.trans k3) J3⟩
def Ash (A:Ad) (K:PySem.W.Frag):Sp:=fun vs H Q _=>∃ (t:TA) (b:Addr) (p:B8) (o:Option Nat) (size:Nat) (ns:DU) (n:Nat) (c:List (Nat × B8)),vs=[.ref t.a,.ref b,.int (numOf o),.int size]∧Ct A H t ns n c∧(c.map (·.1)).Nodup∧(ns.map (·.1)).Nodup∧ns.length≤900∧H b=some (.tup (bv p))∧∀ H',Ai [] H H'→Q (.int ((size + FtTree.sum ((c.filter fun x=>decide (o≠some x.1) && ES ns p x.1).map fun x=>x.2.length):Nat))) H'
theorem L9 (T:Tx K mg A):AY P w K mg base CX0 2 A.AM A.Ek ["self","path","number","size"] (Ash A K):=by
  refine T.CM.ok CJ (fun vs H Q E h=>?_) (fun cdv Ar outer s H vs Q E hr h=>?_)
  · obtain ⟨t,b,p,o,size,ns,n,c,rfl,_⟩:=h
    rfl
  · obtain ⟨t,b,p,o,size,ns,n,c,rfl,I,hcn,hnd,hlen,hb,k⟩:=h
    have hu:=AZ hr
    refine ⟨_,(Ac (Be (i:=4) CJ.nd rfl (Or.inl rfl) (pv 3))
      (Ac (AtY (PH PassesOwn.never rfl (Agh (Al (pv 0) rfl)) (ET (i:=5) CJ.nd rfl (Or.inl rfl)) (Ae (AD (M6 (Ao IW (pv 5) (pv 2) (As _)) (Jd (Lg (AH (pv 0) T.AF T.Hv (Hl T) (hr.mono (by decide)) T.Dg .nil A1 (Aa (pv 1) (Aa (pv 5) Ag)))))).pt (Ae (Tj (i:=4) CJ.nd rfl (Or.inl rfl) (AS AI (by rfl) T.Es PySem.boot_len (Aa (K1 (by exact hu) (Al (pv 0) rfl) (pv 5) (fun _ _=>rfl)) Ag)) Aaj)) A7))))
      (Ae (Av (pv 4))))),?_⟩
    walk_at "rd"
    obtain ⟨nd,⟨dx,i1⟩,⟨ks,i2,r2⟩,⟨ts,i3,r3⟩,⟨hs,i4,r4⟩,⟨cs,i5,r5⟩⟩:=I
    have nn:=nd
    simp only [TA.fp,List.nodup_cons,List.mem_cons,List.not_mem_nil,or_false,not_or] at nn
    obtain ⟨⟨n1,n2,n3,n4⟩,⟨n5,n6,n7⟩,⟨n8,n9⟩,n10,_⟩:=nn
    refine ⟨t.dc,_,i5,trivial,fun od=>⟨_,_,_,Aj i1 n4,T.AF,T.Bt,_,D3 t n,_,rfl,od,.inl ⟨cs,Ab,?_⟩⟩⟩
    have hll:=r5.length
    let f:=fun x:Nat × B8=>decide (o≠some x.1) && ES ns p x.1
    refine At3 cs.length (fun j σ H'=>∃ v,σ=[some (.ref t.a),some (.ref b),some (.int (numOf o)),some (.int size),some (.int ((size + FtTree.sum (((c.take j).filter f).map fun x=>x.2.length):Nat):Int)),v]∧Ai [] (upd H t.dc (.frz od (.dK cs))) H') ⟨none,rfl,Ai.refl⟩ ?_ ?_ ?_
    · rintro j σ H' hj ⟨v,rfl,k2⟩
      exact ⟨k2.at_ _ _ Ab (by simp),hj⟩
    · rintro j σ H' x H'' hj ⟨v,rfl,k2⟩ ⟨rfl,kk,v,hkv,rfl⟩
      obtain ⟨y,hy,e1,b',e2,hb'⟩:=De r5 hkv
      simp only at e1 e2
      subst e1 e2
      have hb2:=k2.tup _ _ (Aj (o:=.frz od (.dK cs)) hb' (Vb hb' i5 (by intro z; cases z)))
      walk_at "rd"
      have hstep:FtTree.sum (((c.take (j + 1)).filter f).map fun x=>x.2.length)=FtTree.sum (((c.take j).filter f).map fun x=>x.2.length) + (if f y=true then y.2.length else 0):=by
        rw [BC hy,List.filter_append,List.map_append,FtW.sum_append,List.filter_cons]
        by_cases hf:f y=true
        · rw [if_pos hf,if_pos hf]; rfl
        · rw [if_neg hf,if_neg hf]; rfl
      refine ⟨rfl,?_⟩
      by_cases ho:o=some y.1
      · have hfy : ¬ f y=true:=by simp [f,ho]
        rw [if_neg hfy] at hstep
        rw [if_neg (by rw [ho]; simp [numOf,kV,nk])]
        exact ⟨by rw [hstep]; rfl,k2⟩
      · have hfy:f y=ES ns p y.1:=by simp [f,ho]
        have hne : ¬ kV (nk y.1)=V.int (numOf o):=by
          intro q
          have q:(y.1:Int) + 1=numOf o:=V.int.inj q
          cases o with
          | none=>simp only [numOf] at q; omega
          | some i=>simp only [numOf] at q; exact ho (by rw [show i=y.1 by omega])
        rw [if_pos (by rw [decide_eq_false hne]; rfl)]
        refine ⟨_,_,k2.at_ _ _ (Aj i1 n4) (by simp),rfl,t,b,p,y.1,ns,n,rfl,⟨n3,⟨dx,k2.at_ _ _ (Aj i1 n4) (by simp)⟩,⟨hs,k2.at_ _ _ (Aj i4 n10) (by simp),r4⟩⟩,by omega,hnd,SqT.of (k2.tup _ _ (Aj hb (Vb hb i5 (by intro z; cases z)))),fun H3 k3=>⟨_,rfl,?_⟩⟩
        rw [hfy] at hstep
        have k4:=k2.trans k3
        rcases Bool.eq_false_or_eq_true (ES ns p y.1) with hbe | hbe
        · rw [hbe,if_pos rfl] at hstep
          rw [hbe,if_pos rfl]
          obtain ⟨v3,hv3,b3,rfl,hb3⟩:=r5.some Nf (FtW.DA hcn (List.mem_of_getElem? hy))
          refine ⟨_,_,_,k4.at_ _ _ (Aj i1 n4) (by simp),T.AF,T.Bt,_,D3 t n,_,rfl,_,.inl ⟨cs,nk y.1,.inr ⟨od,k4.at_ _ _ Ab (by simp)⟩,rfl,hv3.symm⟩,b3,rfl,_,.inr (SqT.of (k4.tup _ _ (Aj hb3 (Vb hb3 i5 (by intro z; cases z))))),?_,k4⟩
          rw [hstep,Az]; omega
        · rw [hbe,if_neg (by decide)] at hstep
          rw [hbe,if_neg (by decide)]
          exact ⟨by rw [hstep]; rfl,k4⟩
    · rintro σ H' ⟨v,rfl,k2⟩
      refine ⟨⟨k2.at_ _ _ Ab (by simp),Nat.le_refl _⟩,k2.at_ _ _ Ab (by simp),?_⟩
      walk_at "rd"
      rw [hll,List.take_length]
      exact k _ (k2.unlock i5)
end
abbrev AwC:=FtTree.Key
def kk (k:AwC):List Key:=[Sum.inl (k.1:Int),Sum.inl (k.2.1:Int),Sum.inl (k.2.2:Int)]
theorem Arq:∀ a b:AwC,kk a=kk b→a=b:=by
  rintro ⟨a1,a2,a3⟩ ⟨b1,b2,b3⟩ h
  unfold kk at h
  simp only [List.cons.injEq,Sum.inl.injEq,and_true] at h
  obtain ⟨h1,h2,h3⟩:=h
  rw [Int.ofNat.inj h1,Int.ofNat.inj h2,Int.ofNat.inj h3]
structure BA where
  b:Addr
  dl:Addr
  t:TA
def BA.fp (u:BA):List Addr:=u.b::u.dl::u.t.fp
def Io (u:BA):List (Str × V):=[("tree",.ref u.t.a),("linked",.ref u.dl)]
theorem D2 (u:BA):(Io u).lookup ("tree" : Str)=some (.ref u.t.a):=rfl
theorem AaC (u:BA):(Io u).lookup ("linked" : Str)=some (.ref u.dl):=rfl
structure BAt (A:Ad) (H:Hp) (u:BA) (w:FtTree.World) (m:Nat):Prop where
  nd:u.fp.Nodup
  ins:∃ dx,H u.b=some (.ins A.AA dx (Io u))
  tree:Ct A H u.t w.nodes w.files.length (FtW.Aq w)
  wf:FtW.WF w
  links:∃ ls L,H u.dl=some (.dT ls)∧EY kk Av1 ls L∧FtW.Oa w L∧L.length≤m
theorem BAt.keep {A:Ad} {H H':Hp} {u:BA} {w:FtTree.World} {m:Nat} (I:BAt A H u w m) {F:List Addr} (k:Ai F H H') (d:∀ b ∈ u.fp,b ∉ F):BAt A H' u w m:=by
  obtain ⟨nd,⟨dx,i1⟩,tr,wf,ls,L,i2,r,lr,hm⟩:=I
  exact ⟨nd,⟨dx,k.at_ _ _ i1 (d _ (by simp [BA.fp]))⟩,tr.keep k (fun b hb=>d b (by simp [BA.fp,hb])),wf,ls,L,k.at_ _ _ i2 (d _ (by simp [BA.fp])),r,lr,hm⟩
theorem BAt.BN {A:Ad} {H H':Hp} {u:BA} {w:FtTree.World} {m:Nat} (I:BAt A H u w m) (k:Ai [] H H'):BAt A H' u w m:=I.keep k (by simp)
theorem Ei.BN {A:Ad} {H H':Hp} {a:Addr} {h:FtTree.Head} (I:Ei A H a h) (k:Ai [] H H'):Ei A H' a h:=by
  obtain ⟨dx,i⟩:=I
  exact ⟨dx,k.at_ _ _ i (by simp)⟩
section
variable {P:Program} {w:World} {K:PySem.W.Frag} {mg:Str→Option Value} {base:Heap} {A:Ad}
def AjG (A:Ad):Sp:=fun vs H Q _=>∃ (u:BA) (a:Addr) (h:FtTree.Head) (w:FtTree.World) (m:Nat),vs=[.ref u.b,.ref a]∧BAt A H u w m∧Ei A H a h∧∀ H',Ai [] H H'→Q (.int (numOf (FtW.Cp w h))) H'
theorem Hk (T:Tx K mg A):AY P w K mg base CX0 2 A.AV A.EB ["self","head"] (AjG A):=by
  refine T.Di.ok Hn (fun vs H Q E h=>?_) (fun cdv Ar outer s H vs Q E hr h=>?_)
  · obtain ⟨u,a,h,w,m,rfl,_⟩:=h
    rfl
  · obtain ⟨u,a,h,w,m,rfl,I,⟨dxh,h1⟩,k⟩:=h
    have hu:=AZ hr
    refine ⟨_,(Ac (AD (Ao Xa (Al (pv 1) rfl) (Ak T.Na) (As _)) (Ae (Av Ap)) A7)
      (Ac (Be (i:=2) Hn.nd rfl (Or.inl rfl) (Vg (by exact hu) (Al (pv 0) rfl) (AJ (WY T) (hr.mono (by decide)) (by rfl) T.YO T.HG.kp T.LN .nil A1 (Aa (pv 1) Ag)) Ap ⟨rfl,rfl,rfl,rfl⟩))
      (Ac (AD (Wt (Lg (AH (Al (pv 0) rfl) T.AF T.Xj (Wk T) (hr.mono (by decide)) T.IF .nil A1 (Aa (pv 2) Ag)))) (Ae (Av Ap)) A7)
      (Ae (Av (pv 2)))))),?_⟩
    walk_at "rd"
    obtain ⟨nd,⟨dx,i1⟩,tr,wf,ls,L,i2,r,lr,hm⟩:=I
    have k':∀ d H',Ai [] H H'→d=numOf (FtW.Cp w h)→Q (.int d) H':=fun d H' hk e=>e ▸ k H' hk
    rw [lr.link h] at k'
    refine ⟨_,_,_,h1,T.BO,T.Hh,_,Ad5 h,_,rfl,Kd (fun hn=>?_) (fun hn=>?_)⟩
    · exact k' _ _ Ai.refl (by rw [if_neg (by omega)]; rfl)
    · rw [if_pos (by omega)] at k'
      refine ⟨_,_,_,i1,T.AL,T.CZ,_,AaC u,_,rfl,.inr ⟨_,.inl i2⟩,a,h,rfl,⟨dxh,h1⟩,fun H1 t1 k1 ht=>⟨_,HD.t (k:=kk (FtW.keyOf h)) (k1.at_ _ _ i2 (by simp)) ht,?_⟩⟩
      have hv:(Hs ls (kk (FtW.keyOf h))).getD (.int 0)=.int (numOf (FtW.val L (FtW.keyOf h))):=by
        cases hx:FtW.val L (FtW.keyOf h) with
        | none=>rw [r.none Arq hx]; rfl
        | some x =>
          obtain ⟨v,q1,q2⟩:=r.some Arq hx
          rw [q1]; exact q2
      rw [hv]
      obtain ⟨dxt,t1'⟩:=tr.ins
      refine ⟨_,_,_,k1.at_ _ _ i1 (by simp),T.AL,T.AK,_,D2 u,_,rfl,_,_,k1.at_ _ _ t1' (by simp),rfl,u.t,_,_,_,FtW.val L (FtW.keyOf h),rfl,tr.BN k1,_,rfl,?_⟩
      have hh:AwU (FtW.Aq w) (FtW.val L (FtW.keyOf h))=((FtW.val L (FtW.keyOf h)).bind fun i=>if w.alive i=true then some i else none).isSome:=by
        cases hx:FtW.val L (FtW.keyOf h) with
        | none=>rfl
        | some j =>
          have hlt:=lr.lt _ _ hx
          show (FtW.val (FtW.Aq w) j).isSome=_
          cases ha:w.alive j with
          | true=>rw [FtW.Ji w j ha hlt]; simp [ha]
          | false=>rw [FtW.K8 (fun q=>by rw [ha] at q; cases q.2)]; simp [ha]
      rw [hh]
      cases hx:FtW.val L (FtW.keyOf h) with
      | none =>
        rw [hx] at k'
        exact k' _ _ k1 rfl
      | some j =>
        rw [hx] at k'
        cases ha:w.alive j with
        | true =>
          rw [if_neg (by simp [ha])]
          exact k' _ _ k1 (by simp [ha])
        | false =>
          rw [if_pos (by simp [ha])]
          exact k' _ _ k1 (by simp [ha,numOf])
def Aup (A:Ad) (K:PySem.W.Frag):Sp:=fun vs H Q _=>∃ (u:BA) (a b:Addr) (h:FtTree.Head) (p:B8) (w:FtTree.World) (m:Nat),vs=[.ref u.b,.ref a,.ref b]∧BAt A H u w m∧Ei A H a h∧(h.kind=8∨h.kind=4∨h.kind=10)∧H b=some (.tup (bv p))∧∀ H',Ai [] H H'→Q (.bl (!FtW.badParent w p && !FtTree.clash h (w.at_ p))) H'
theorem Pz (T:Tx K mg A):AY P w K mg base CX0 2 A.Bf A.F4 ["self","head","path"] (Aup A K):=by
  refine T.DB.ok IC (fun vs H Q E h=>?_) (fun cdv Ar outer s H vs Q E hr h=>?_)
  · obtain ⟨u,a,b,h,p,w,m,rfl,_⟩:=h
    rfl
  · obtain ⟨u,a,b,h,p,w,m,rfl,I,⟨dxh,h1⟩,hk,hb,k⟩:=h
    have hu:=AZ hr
    refine ⟨_,(Ac (Be (i:=3) IC.nd rfl (Or.inl rfl) (AJ (Agb T) (hr.mono (by decide)) (by rfl) T.Ahh T.Il.kp T.NZ .nil A1 (Aa (pv 2) Ag)))
      (Ac (AD (M6 (Amz (AtP (pv 3))) (Jd (Ao IW (AH (Al (pv 0) rfl) T.AF T.DJ (Dk T) (hr.mono (by decide)) T.C3 .nil A1 (Aa (pv 3) Ag)) (Ak T.Iy) (As _)))).pt (Ae (Av Rq)) A7)
      (Ae (Av (Eo Qt (AH (Al (pv 0) rfl) T.AF T.DJ (Dk T) (hr.mono (by decide)) T.C3 .nil A1 (Aa (pv 2) Ag)) (HL (Aa (Ak T.L0) (Aa (Al (pv 1) rfl) Ag))) rfl))))),?_⟩
    walk_at "rd"
    have k':∀ d H',Ai [] H H'→d=(!FtW.badParent w p && !FtTree.clash h (w.at_ p))→Q (.bl d) H':=fun d H' hk e=>e ▸ k H' hk
    have last:∀ H1,Ai [] H H1→FtW.badParent w p=false→∃ x x_1 x_2,H1 u.b=some (HO.ins x x_1 x_2)∧Cls K x∧Bp K x "tree"∧∃ x,List.lookup ("tree" : Str) x_2=some x∧∃ a_1,x=V.ref a_1∧∃ x_3 x_4,H1 a_1=some (HO.ins A.A8 x_3 x_4)∧List.lookup ("kind_at" : Str) x_4=none ∧
        AjF A [x,V.ref b] H1 (fun x H1=>∃ x_5 x_6 x_7,H1 a=some (HO.ins x_5 x_6 x_7)∧Cls K x_5∧Bp K x_5 "kind"∧∃ x_8,List.lookup ("kind" : Str) x_7=some x_8∧0 + 1 + 1≤sizeLine∧∀ (p:Addr),H1 p=none →
          ∃ x_9,(SqL K (upd H1 p (HO.tup [V.int 0,x_8])) p x_9∨SqT K (upd H1 p (HO.tup [V.int 0,x_8])) p x_9)∧Kq x=true∧x_9.all Kq=true∧Q (V.bl (inV x x_9)) (upd H1 p (HO.tup [V.int 0,x_8]))) E0:=by
      intro H1 k1 hbp
      have I1:=I.BN k1
      obtain ⟨dx,i1⟩:=I1.ins
      obtain ⟨dxt,t1⟩:=I1.tree.ins
      refine ⟨_,_,_,i1,T.AL,T.AK,_,D2 u,_,rfl,_,_,t1,rfl,u.t,b,p,_,_,_,rfl,I1.tree,k1.tup _ _ hb,?_⟩
      refine ⟨_,_,_,k1.at_ _ _ h1 (by simp),T.BO,T.Co,_,Hg h,Br (by decide),fun q hq=>⟨_,.inr (SqT.of Ab),rfl,?_,k' _ _ (k1.trans (Ai.new hq)) ?_⟩⟩
      · unfold Gu; rcases hk with e | e | e <;> rw [e] <;> rfl
      · rw [hbp,FtW.Ej]
        unfold Gu
        cases hv:FtW.val w.nodes p with
        | none=>rcases hk with e | e | e <;> rw [e] <;> rfl
        | some m=>cases m <;> rcases hk with e | e | e <;> simp [FtTree.clash,e,inV,eqV,FtW.kindNo]
    refine ⟨b,p,rfl,SqT.of hb,fun hn=>?_,fun q hq H1 b2 k1 hb2=>?_⟩
    · dsimp only
      rw [if_neg (by decide)]
      exact last H Ai.refl (by unfold FtW.badParent; rw [hn])
    · dsimp only
      rw [if_pos (by simp)]
      have I1:=I.BN k1
      obtain ⟨dx,i1⟩:=I1.ins
      obtain ⟨dxt,t1⟩:=I1.tree.ins
      have hbp:FtW.badParent w p=(w.at_ q != some .dir):=by unfold FtW.badParent; rw [hq]
      refine ⟨_,_,_,i1,T.AL,T.AK,_,D2 u,_,rfl,_,_,t1,rfl,u.t,b2,q,_,_,_,rfl,I1.tree,hb2,rfl,?_⟩
      rw [FtW.Ej] at hbp
      by_cases hd:FtW.val w.nodes q=some .dir
      · rw [hd] at hbp ⊢
        rw [if_neg (by decide)]
        exact last H1 k1 hbp
      · rw [if_pos]
        · refine k' _ _ k1 ?_
          have:FtW.badParent w p=true:=by rw [hbp,bne_iff_ne]; exact hd
          rw [this]; rfl
        · cases hv:FtW.val w.nodes q with
          | none=>rfl
          | some m =>
            cases m with
            | dir=>exact absurd hv hd
            | link t=>rfl
            | file j=>rfl
def Awf (A:Ad) (K:PySem.W.Frag):Sp:=fun vs H Q _=>∃ (u:BA) (a b:Addr) (h:FtTree.Head) (p:B8) (w:FtTree.World) (m:Nat),vs=[.ref u.b,.ref a,.ref b]∧BAt A H u w m∧Ei A H a h∧(h.kind=8∨h.kind=4∨h.kind=10)∧H b=some (.tup (bv p))∧∀ H',Ai [] H H'→Q (.bl (FtW.Lh w h p)) H'
theorem QX (T:Tx K mg A):AY P w K mg base CX0 3 A.Bm A.FZ ["self","head","path"] (Awf A K):=by
  refine T.Ef.ok Rb (fun vs H Q E h=>?_) (fun cdv Ar outer s H vs Q E hr h=>?_)
  · obtain ⟨u,a,b,h,p,w,m,rfl,_⟩:=h
    rfl
  · obtain ⟨u,a,b,h,p,w,m,rfl,I,⟨dxh,h1⟩,hk,hb,k⟩:=h
    have hu:=AZ hr
    refine ⟨_,(Ac (AD (M6 (Ao AX (AH (Al (pv 0) rfl) T.AF T.DJ (Dk T) (hr.mono (by decide)) T.C3 .nil A1 (Aa (pv 2) Ag)) (Ak T.L0) (As _)) (Jd (Ao AX (CL (Al (pv 0) rfl) T.AF T.Kj (JX T) (hr.mono (by decide)) T.EF .nil A1) (Ak T.Afm) (As _)))).pt (Ae (Av Rq)) A7)
      (Ac (AD (Aor (Ao IW (Al (pv 1) rfl) (Ak T.OS) (As _)) (Agt (Ao AX (Al (pv 1) rfl) Ap (As _)))).pt (Ae (Av Rq)) A7)
      (Ae (Av (Eo WZ (AH (Al (pv 0) rfl) T.AF T.LP (L9 T) (hr.mono (by decide)) T.Ee .nil A1 (Aa (pv 2) (Aa (AH (pv 0) T.AL T.Hu (Hk T) (hr.mono (by decide)) T.Df .nil A1 (Aa (pv 1) Ag)) (Aa (Al (pv 1) rfl) Ag)))) (Ak T.Afl) (As _)))))),?_⟩
    walk_at "rd"
    have k':∀ d H',Ai [] H H'→d=FtW.Lh w h p→Q (.bl d) H':=fun d H' hk e=>e ▸ k H' hk
    unfold FtW.Lh at k'
    obtain ⟨dx,i1⟩:=I.ins
    obtain ⟨dxt,t1⟩:=I.tree.ins
    refine ⟨_,_,_,i1,T.AL,T.AK,_,D2 u,_,rfl,_,_,t1,rfl,u.t,b,p,_,_,_,rfl,I.tree,hb,rfl,?_⟩
    have rest : ¬ ((w.at_ p).isNone=true∧w.nodes.length=16)→∃ x x_5 x_6,H a=some (HO.ins x x_5 x_6)∧Cls K x∧Bp K x "kind"∧∃ x,List.lookup ("kind" : Str) x_6=some x∧Aj5 x (V.int 1)=true∧if (!decide (x=V.int 1))=true then Q (V.bl true) H else
        ∃ x x_7 x_8,H a=some (HO.ins x x_7 x_8)∧Cls K x∧Bp K x "size"∧∃ x,List.lookup ("size" : Str) x_8=some x∧Aj5 x (V.int 0)=true∧if x=V.int 0 then Q (V.bl true) H else
          ∃ x x_9 x_10,H u.b=some (HO.ins x x_9 x_10)∧Cls K x∧Bp K x "tree"∧∃ x,List.lookup ("tree" : Str) x_10=some x∧∃ a_2,x=V.ref a_2∧∃ x_11 x_12,H a_2=some (HO.ins A.A8 x_11 x_12)∧List.lookup ("byte_count_with" : Str) x_12=none ∧
            ∃ x_13 x_14,H u.b=some (HO.ins A.AA x_13 x_14)∧List.lookup ("linked_file" : Str) x_14=none∧AjG A [V.ref u.b,V.ref a] H (fun x_15 H1=>∃ x_16 x_17 x_18,H1 a=some (HO.ins x_16 x_17 x_18)∧Cls K x_16∧Bp K x_16 "size"∧∃ x_19,List.lookup ("size" : Str) x_18=some x_19∧Ash A K [x,V.ref b,x_15,x_19] H1 (fun x H2=>∃ i,x=V.int i∧Q (V.bl (decide (i≤600))) H2) E0) E0:=by
      intro h16
      have e1:(!((w.at_ p).isNone && decide (w.nodes.length=16)))=true:=by
        rw [Bool.not_eq_true',Bool.and_eq_false_iff]
        by_cases q:(w.at_ p).isNone=true
        · exact .inr (decide_eq_false (fun z=>h16 ⟨q,z⟩))
        · exact .inl (by
            cases hq:(w.at_ p).isNone with
            | true=>exact absurd hq q
            | false=>rfl)
      rw [e1,Bool.true_and] at k'
      refine ⟨_,_,_,h1,T.BO,T.Co,_,Hg h,?_,?_⟩
      · unfold Gu; rcases hk with e | e | e <;> rw [e] <;> rfl
      by_cases h8:h.kind=8
      · rw [if_neg (by rw [h8]; decide)]
        refine ⟨_,_,_,h1,T.BO,T.BD,_,Fm h,rfl,?_⟩
        by_cases hz:h.size=0
        · rw [if_pos (by rw [hz]; rfl)]
          exact k' _ _ Ai.refl (by simp [hz])
        · have hz' : ¬ (h.size:Int)=0:=by omega
          rw [if_neg (by rw [V.int.injEq]; exact hz')]
          refine ⟨_,_,_,i1,T.AL,T.AK,_,D2 u,_,rfl,_,_,t1,rfl,_,_,i1,rfl,u,a,h,w,m,rfl,I,⟨dxh,h1⟩,fun H1 k1=>?_⟩
          have I1:=I.BN k1
          refine ⟨_,_,_,k1.at_ _ _ h1 (by simp),T.BO,T.BD,_,Fm h,u.t,b,p,FtW.Cp w h,h.size,w.nodes,_,_,rfl,I1.tree,FtW.AhG w,I1.wf.nd,?_,k1.tup _ _ hb,fun H2 k2=>⟨_,rfl,k' _ _ (k1.trans k2) ?_⟩⟩
          · have:=I1.wf.len; omega
          · have e2:(h.size + FtTree.sum (((FtW.Aq w).filter fun x=>decide (FtW.Cp w h≠some x.1) && ES w.nodes p x.1).map fun x=>x.2.length))=FtW.EZ w p (FtW.Cp w h) h.size:=rfl
            rw [e2]
            simp only [h8,hz,ne_eq,not_true_eq_false,decide_false,Bool.false_or]
            by_cases hl:FtW.EZ w p (FtW.Cp w h) h.size≤600
            · rw [decide_eq_true hl,decide_eq_true (by omega)]
            · rw [decide_eq_false hl,decide_eq_false (by omega)]
      · rw [if_pos]
        · exact k' _ _ Ai.refl (by simp [h8])
        · unfold Gu; rcases hk with e | e | e
          · exact absurd e h8
          · rw [e]; rfl
          · rw [e]; rfl
    rw [FtW.Ej] at rest
    cases hv:FtW.val w.nodes p with
    | some x =>
      rw [hv] at rest
      rw [if_neg (by cases x <;> simp [FtW.kindNo])]
      exact rest (by simp)
    | none =>
      rw [hv] at rest
      rw [if_pos (by rfl)]
      refine ⟨_,_,_,i1,T.AL,T.AK,_,D2 u,_,rfl,_,_,t1,rfl,u.t,_,_,_,rfl,I.tree,rfl,?_⟩
      by_cases h16:w.nodes.length=16
      · rw [if_pos (by rw [h16]; rfl)]
        refine k' _ _ Ai.refl ?_
        rw [FtW.Ej,hv]; simp [h16]
      · have h16' : ¬ (w.nodes.length:Int)=16:=by omega
        rw [if_neg (by rw [V.int.injEq]; exact h16')]
        exact rest (fun q=>h16 q.2)
end
section
variable {P:Program} {w:World} {K:PySem.W.Frag} {mg:Str→Option Value} {base:Heap} {A:Ad}
def Bl (w:FtTree.World) (h:FtTree.Head) (p:B8):Nat:=if nameFits h p=false then 3 else if p=FtTree.TRAILER∨p=FtTree.DOT then 0 else FtTree.judge w h p
def AjH (A:Ad) (K:PySem.W.Frag):Sp:=fun vs H Q _=>∃ (u:BA) (a b:Addr) (h:FtTree.Head) (p:B8) (w:FtTree.World) (m:Nat),vs=[.ref u.b,.ref a,.ref b]∧BAt A H u w m∧Ei A H a h∧h.ok=true∧H b=some (.tup (bv p))∧∀ H',Ai [] H H'→Q (.int (Bl w h p:Nat)) H'
theorem NG (T:Tx K mg A):AY P w K mg base CX0 4 A.Ba A.Fb ["self","head","name"] (AjH A K):=by
  refine T.Ds.ok NL (fun vs H Q E h=>?_) (fun cdv Ar outer s H vs Q E hr h=>?_)
  · obtain ⟨u,a,b,h,p,w,m,rfl,_⟩:=h
    rfl
  · obtain ⟨u,a,b,h,p,w,m,rfl,I,hH,hok,hb,k⟩:=h
    have hu:=AZ hr
    refine ⟨_,(Ac (AD (Wt (Lg (AJ (Aga T) (hr.mono (by decide)) (by rfl) T.Ahg T.Ik.kp T.NY .nil A1 (Aa (pv 1) (Aa (pv 2) Ag))))) (Ae (Av (Ak T.UJ))) A7)
      (Ac (AD (Aor (Ao (Wn (by exact hr.units)) (pv 2) (Hm T.Qw) (As _)) (Agt (Ao (Wn (by exact hr.units)) (pv 2) (Hm T.AmX) (As _)))).pt (Ae (Av Ap)) A7)
      (Ac (AD (Wt (Lg (AH (pv 0) T.AL T.Q0 (Pz T) (hr.mono (by decide)) T.F0 .nil A1 (Aa (pv 1) (Aa (pv 2) Ag))))) (Ae (Av (Ak T.AcG))) A7)
      (Ac (AD (Wt (Lg (AH (pv 0) T.AL T.Rx (QX T) (hr.mono (by decide)) T.FW .nil A1 (Aa (pv 1) (Aa (pv 2) Ag))))) (Ae (Av (Ak T.Apt))) A7)
      (Ae (Av Ap)))))),?_⟩
    walk_at "rd"
    have k':∀ (d:Nat) H',Ai [] H H'→d=Bl w h p→Q (.int d) H':=fun d H' hk e=>e ▸ k H' hk
    unfold Bl at k'
    refine ⟨a,b,h,p,rfl,hH,hok,SqT.of hb,fun H1 k1=>⟨_,rfl,?_⟩⟩
    cases hf:nameFits h p with
    | false =>
      rw [hf,if_pos rfl] at k'
      rw [if_pos (by decide)]
      exact k' 3 _ k1 rfl
    | true =>
      rw [hf,if_neg (by decide)] at k'
      rw [if_neg (by decide)]
      refine U2 (q:=FtTree.TRAILER) (SqT.of (k1.tup _ _ hb)) (by rw [FtP.K7]; exact T.ML H1) ⟨_,rfl,?_⟩
      by_cases ht:p=FtTree.TRAILER
      · rw [if_pos (decide_eq_true ht)]
        rw [if_pos (.inl ht)] at k'
        exact k' 0 _ k1 rfl
      rw [if_neg (by simp [ht])]
      refine U2 (q:=FtTree.DOT) (SqT.of (k1.tup _ _ hb)) (T.Qx H1) ⟨_,rfl,?_⟩
      by_cases hdt:p=FtTree.DOT
      · rw [if_pos (decide_eq_true hdt)]
        rw [if_pos (.inr hdt)] at k'
        exact k' 0 _ k1 rfl
      rw [if_neg (by simp [hdt])]
      rw [if_neg (fun q=>q.elim ht hdt),FtW.Aam I.wf hdt] at k'
      have hkind:h.kind=8∨h.kind=4∨h.kind=10:=by
        have q1:=(FtM.Vf hok).1
        unfold nameFits at hf
        rw [if_neg ht] at hf
        simp only [Bool.and_eq_true,bne_iff_ne,ne_eq] at hf
        have:=hf.1.1
        omega
      have I1:=I.BN k1
      obtain ⟨dx,i1⟩:=I1.ins
      refine ⟨_,_,i1,rfl,u,a,b,h,p,w,m,rfl,I1,hH.BN k1,hkind,k1.tup _ _ hb,fun H2 k2=>⟨_,rfl,?_⟩⟩
      have k12:=k1.trans k2
      by_cases hbp:FtW.badParent w p=true
      · rw [hbp,if_pos (by rfl)]
        rw [if_pos hbp] at k'
        exact k' 4 _ k12 rfl
      · rw [if_neg hbp] at k'
        have hbp':FtW.badParent w p=false:=by simpa using hbp
        by_cases hcl:FtTree.clash h (w.at_ p)=true
        · rw [hbp',hcl,if_pos (by rfl)]
          rw [if_pos hcl] at k'
          exact k' 4 _ k12 rfl
        · rw [if_neg hcl] at k'
          have hcl':FtTree.clash h (w.at_ p)=false:=by simpa using hcl
          rw [hbp',hcl',if_neg (by decide)]
          have I2:=I.BN k12
          obtain ⟨dx2,i2⟩:=I2.ins
          refine ⟨_,_,i2,rfl,u,a,b,h,p,w,m,rfl,I2,hH.BN k12,hkind,k12.tup _ _ hb,fun H3 k3=>⟨_,rfl,?_⟩⟩
          cases hr:FtW.Lh w h p with
          | true =>
            rw [hr,if_pos rfl] at k'
            rw [if_neg (by decide)]
            exact k' 0 _ (k12.trans k3) rfl
          | false =>
            rw [hr,if_neg (by decide)] at k'
            rw [if_pos (by decide)]
            exact k' 5 _ (k12.trans k3) rfl
def AgF (A:Ad):Sp:=fun vs H Q _=>∃ (u:BA) (w:FtTree.World) (m:Nat),vs=[.ref u.b]∧BAt A H u w m∧∀ (H':Hp) (u':BA),u'.b=u.b→Fr u.fp H u'.fp H'→BAt A H' u' { w with keys:=[] } m→Q .non H'
theorem Mz (T:Tx K mg A):AY P w K mg base CX0 1 A.AU A.EA ["self"] (AgF A):=by
  refine T.Dh.ok M7 (fun vs H Q E h=>?_) (fun cdv Ar outer s H vs Q E hr h=>?_)
  · obtain ⟨u,w,m,rfl,_⟩:=h
    rfl
  · obtain ⟨u,w,m,rfl,I,k⟩:=h
    have hu:=AZ hr
    refine ⟨_,(Ae (Bd (pv 0) P5 rfl)),?_⟩
    walk_at "rd"
    intro q hq
    obtain ⟨nd,⟨dx,i1⟩,tr,wf,ls,L,i2,r,lr,hm⟩:=I
    have ep:Bj "linked" (.ref q) (Io u)=Io ⟨u.b,q,u.t⟩:=rfl
    refine ⟨_,_,_,BW i1 hq,T.AL,T.CZ,by show 2 < 1000; decide,?_⟩
    rw [ep]
    have hqb:u.b≠q:=Au i1 hq
    have kq:Ai [u.b] H (upd (upd H q (.dT [])) u.b (.ins A.AA dx (Io ⟨u.b,q,u.t⟩))):=(Ai.new hq).trans (Ai.put (BW i1 hq) trivial (by simp))
    have nn:=nd
    simp only [BA.fp,List.nodup_cons,List.mem_cons,not_or] at nn
    have hqt:q ∉ u.t.fp:=fun z=>by
      obtain ⟨dxt,t1⟩:=tr.ins
      obtain ⟨ks,t2,_⟩:=tr.kinds
      obtain ⟨ts,t3,_⟩:=tr.texts
      obtain ⟨hs,t4,_⟩:=tr.holders
      obtain ⟨cs,t5,_⟩:=tr.AnS
      simp only [TA.fp,List.mem_cons,List.not_mem_nil,or_false] at z
      rcases z with z | z | z | z | z
      · rw [z,t1] at hq; cases hq
      · rw [z,t2] at hq; cases hq
      · rw [z,t3] at hq; cases hq
      · rw [z,t4] at hq; cases hq
      · rw [z,t5] at hq; cases hq
    refine k _ ⟨u.b,q,u.t⟩ rfl ⟨kq.mono (by simp [BA.fp]),fun c hc=>?_⟩ ⟨?_,⟨dx,Ab⟩,tr.keep kq (fun c hc q'=>?_),wf.Arz,[],[],Aj Ab hqb.symm,.nil,FtW.Oa.none w,Nat.zero_le _⟩
    · simp only [BA.fp,List.mem_cons] at hc ⊢
      rcases hc with hc | hc | hc
      · exact .inl (.inl hc)
      · exact .inr (by rw [hc]; exact hq)
      · exact .inl (.inr (.inr hc))
    · simp only [BA.fp,List.nodup_cons,List.mem_cons,not_or]
      exact ⟨⟨hqb,nn.1.2⟩,hqt,nn.2.2⟩
    · rw [List.mem_singleton] at q'
      rw [q'] at hc
      exact nn.1.2 hc
def Adm (A:Ad):Sp:=fun vs H Q _=>∃ (x dx:Addr),vs=[.ref x]∧H x=some (.ins A.AA dx [])∧∀ (H':Hp) (u:BA),u.b=x→Ai [x] H H'→(∀ b ∈ u.fp,b=x∨H b=none)→BAt A H' u FtTree.bare 0→Q .non H'
theorem Ym (T:Tx K mg A):AY P w K mg base CX0 3 A.Cb A.JM ["self"] (Adm A):=by
  refine T.GJ.ok Yw (fun vs H Q E h=>?_) (fun cdv Ar outer s H vs Q E hr h=>?_)
  · obtain ⟨x,dx,rfl,_⟩:=h
    rfl
  · obtain ⟨x,dx,rfl,hx,k⟩:=h
    have hu:=AZ hr
    refine ⟨_,(Ac (Bd (pv 0) (P6 T.AvB (AfV T) (hr.mono (by decide)) (by rfl) T.Avq T.NT .nil A1) rfl)
      (Ae (Bd (pv 0) P5 rfl))),?_⟩
    walk_at "rd"
    intro y dy hy hdy hne
    have hxy:x≠y:=Au hx hy
    have hxd:x≠dy:=Au hx hdy
    have k0:Ai [x] H (upd (upd H dy (.own y)) y (.ins A.A8 dy [])):=(Ai.new hdy).trans (Ai.new (by rw [A9 (Ne.symm hne)]; exact hy))
    refine ⟨y,dy,rfl,Ab,fun H2 t ht k2 hfp J=>⟨rfl,?_⟩⟩
    have x2:H2 x=some (.ins A.AA dx []):=k2.at_ _ _ (Aj (Aj hx hxd) hxy) (by simp [hxy])
    have free2:∀ q,H2 q=none→H q=none:=fun q hq=>by
      cases e:H q with
      | none=>rfl
      | some o =>
        have hqy:q≠y:=Au e hy
        have hqd:q≠dy:=Au e hdy
        rw [k2.at_ _ _ (Aj (Aj e hqd) hqy) (by simp [hqy])] at hq; cases hq
    have fpn:∀ b ∈ t.fp,H b=none:=fun b hb=>by
      rcases hfp b hb with z | z
      · rw [z]; exact hy
      · cases e:H b with
        | none=>rfl
        | some o =>
          rw [Aj (Aj e (Au e hdy)) (Au e hy)] at z; cases z
    have xfp:x ∉ t.fp:=fun z=>by rw [fpn x z] at hx; cases hx
    refine ⟨_,_,_,x2,T.AL,T.AK,by show 0 < 1000; decide,fun q hq=>?_⟩
    have hqx:q≠x:=fun z=>by rw [z,Ab] at hq; cases hq
    rw [A9 hqx] at hq
    have ep:Bj "linked" (.ref q) (Bj "tree" (.ref y) [])=Io ⟨x,q,t⟩:=by rw [← ht]; rfl
    refine ⟨_,_,_,Aj Ab hqx.symm,T.AL,T.CZ,by show 1 < 1000; decide,?_⟩
    rw [ep]
    have kx:Ai [x] H2 (upd (upd (upd H2 x (.ins A.AA dx (Bj "tree" (.ref y) []))) q (.dT [])) x (.ins A.AA dx (Io ⟨x,q,t⟩))):=by
      have a1:Ai [x] H2 (upd H2 x (.ins A.AA dx (Bj "tree" (.ref y) []))):=Ai.put x2 trivial (by simp)
      have a2:=a1.trans (Ai.new (p:=q) (o:=.dT []) (by rw [A9 hqx]; exact hq))
      exact a2.trans (Ai.put (Aj Ab hqx.symm) trivial (by simp))
    have hqt:q ∉ t.fp:=fun z=>by
      obtain ⟨dxt,t1⟩:=J.ins
      obtain ⟨ks,t2,_⟩:=J.kinds
      obtain ⟨ts,t3,_⟩:=J.texts
      obtain ⟨hs,t4,_⟩:=J.holders
      obtain ⟨cs,t5,_⟩:=J.AnS
      simp only [TA.fp,List.mem_cons,List.not_mem_nil,or_false] at z
      rcases z with z | z | z | z | z
      · rw [z,t1] at hq; cases hq
      · rw [z,t2] at hq; cases hq
      · rw [z,t3] at hq; cases hq
      · rw [z,t4] at hq; cases hq
      · rw [z,t5] at hq; cases hq
    have kH:Ai [x] H H2:=by
      refine ⟨fun b o e hb=>?_,fun b xs e=>?_⟩
      · exact k2.at_ _ _ (Aj (Aj e (Au e hdy)) (Au e hy)) (by simp [Au e hy])
      · exact k2.tup _ _ (Aj (Aj e (Au e hdy)) (Au e hy))
    refine k _ ⟨x,q,t⟩ rfl (kH.trans kx) (fun b hb=>?_) ⟨?_,⟨dx,Ab⟩,J.keep kx (fun b hb z=>?_),FtW.WF.bare,[],[],Aj Ab hqx,.nil,FtW.Oa.bare,Nat.le_refl _⟩
    · simp only [BA.fp,List.mem_cons] at hb
      rcases hb with hb | hb | hb
      · exact .inl hb
      · exact .inr (by rw [hb]; exact free2 q hq)
      · exact .inr (fpn b hb)
    · simp only [BA.fp,List.nodup_cons,List.mem_cons,not_or]
      exact ⟨⟨hqx.symm,xfp⟩,hqt,J.nd⟩
    · rw [List.mem_singleton] at z
      rw [z] at hb; exact xfp hb
theorem Adz {w:FtTree.World} (W:FtW.WF w):(FtW.Aq w).length≤900:=by
  have h:∀ (l:List Nat) (ns:DU),l.Nodup→(∀ i ∈ l,∃ q,(q,FtTree.Node.file i) ∈ ns)→l.length≤ns.length:=by
    intro l
    induction l with
    | nil=>intro ns _ _; exact Nat.zero_le _
    | cons i l ih =>
      intro ns hn hm
      rw [List.nodup_cons] at hn
      obtain ⟨q,hq⟩:=hm i (List.mem_cons_self ..)
      have:=ih (ns.erase (q,.file i)) hn.2 (fun j hj=>by
        obtain ⟨q2,hq2⟩:=hm j (List.mem_cons_of_mem _ hj)
        refine ⟨q2,(List.mem_erase_of_ne ?_).mpr hq2⟩
        intro z
        rw [Prod.mk.injEq,FtTree.Node.file.injEq] at z
        exact hn.1 (by rw [← z.2]; exact hj))
      rw [List.length_erase_of_mem hq] at this
      have:0 < ns.length:=List.length_pos_of_mem hq
      rw [List.length_cons]; omega
  have:=h ((List.range w.files.length).filter fun i=>w.alive i) w.nodes (List.Pairwise.filter _ List.nodup_range) (fun i hi=>FtW.Eu.mp (List.mem_filter.mp hi).2)
  unfold FtW.Aq
  rw [List.length_map]
  have:=W.len
  omega
def ArW (A:Ad) (K:PySem.W.Frag):Sp:=fun vs H Q _=>∃ (u:BA) (a b e:Addr) (h:FtTree.Head) (p d:B8) (w:FtTree.World) (m:Nat),vs=[.ref u.b,.ref a,.ref b,.ref e]∧BAt A H u w m∧m≤9000∧Ei A H a h∧a ∉ u.fp∧h.kind=8∧FtW.Fits w h p∧d.length=h.size∧H b=some (.tup (bv p))∧H e=some (.tup (bv d))∧∀ H',Ai u.fp H H'→BAt A H' u (FtTree.apply w h p d) (m + 1)→Q .non H'
theorem SU (T:Tx K mg A):AY P w K mg base CX0 4 A.Bx A.GW ["self","head","path","data"] (ArW A K):=by
  refine T.EH.ok Gf (fun vs H Q E h=>?_) (fun cdv Ar outer s H vs Q E hr h=>?_)
  · obtain ⟨u,a,b,e,h,p,d,w,m,rfl,_⟩:=h
    rfl
  · obtain ⟨u,a,b,e,h,p,d,w,m,rfl,I,hm,⟨dxh,h1⟩,ha,h8,F,hd,hb,he,k⟩:=h
    have hu:=AZ hr
    refine ⟨_,(Ac (Be (i:=4) Gf.nd rfl (Or.inl rfl) (AH (pv 0) T.AL T.Hu (Hk T) (hr.mono (by decide)) T.Df .nil A1 (Aa (pv 1) Ag)))
      (Ac (AD (Ao AX (pv 4) Ap (As _)) (Ae (Be (i:=4) Gf.nd rfl (Or.inl rfl) (AH (Al (pv 0) rfl) T.AF T.Q4 (P4 T) (hr.mono (by decide)) T.F3 .nil A1 (Aa (pv 2) (Aa (pv 3) Ag))))) (Ac (AE (AH (Al (pv 0) rfl) T.AF T.MP (LA T) (hr.mono (by decide)) T.FJ .nil A1 (Aa (pv 2) (Aa (pv 4) Ag))))
      (Ae (AD (Ao IW (Al (pv 1) rfl) Ap (As _)) (Ae (AE (AH (Al (pv 0) rfl) T.AF T.Ry (QY T) (hr.mono (by decide)) T.FX .nil A1 (Aa (pv 4) (Aa (pv 3) Ag))))) A7))))
      (Ae (AD (Ao Ar1 (Al (pv 1) rfl) (Ak T.Na) (As _)) (Ae (Jc (by exact hu) (Al (pv 0) rfl) (AJ (WY T) (hr.mono (by decide)) (by rfl) T.YO T.HG.kp T.LN .nil A1 (Aa (pv 1) Ag)) (pv 4) rfl)) A7)))),?_⟩
    walk_at "rd"
    obtain ⟨nd,⟨dx,i1⟩,tr,wf,ls,L,i2,r,lr,hLm⟩:=I
    have nn:=nd
    simp only [BA.fp,List.nodup_cons,List.mem_cons,not_or] at nn
    obtain ⟨⟨nb1,nb2⟩,nl,ndt⟩:=nn
    have ha2:a ∉ u.t.fp∧a≠u.dl:=by
      simp only [BA.fp,List.mem_cons,not_or] at ha
      exact ⟨ha.2.2,ha.2.1⟩
    have h4:h.kind≠4:=by omega
    have h10:h.kind≠10:=by omega
    have W':FtW.WF (FtTree.apply w h p d):=wf.apply F (fun _=>hd) (fun q=>absurd q h10)
    have lr':=lr.file wf h4 h10 W'
    have fin:∀ (H2:Hp) (j:Nat),Ai u.t.fp H H2→Ct A H2 u.t (FtTree.apply w h p d).nodes (FtTree.apply w h p d).files.length (FtW.Aq (FtTree.apply w h p d))→j=(FtW.Cp w h).getD w.files.length →
        ∃ x x_1 x_2,H2 a=some (HO.ins x x_1 x_2)∧Cls K x∧Bp K x "names"∧∃ x,List.lookup ("names" : Str) x_2=some x∧∃ i,x=V.int i∧if 2≤i then ∃ x x_9 x_10,H2 u.b=some (HO.ins x x_9 x_10)∧Cls K x∧Bp K x "linked"∧∃ x,List.lookup ("linked" : Str) x_10=some x ∧
          AdJ A [V.ref a] H2 (fun y H3=>∃ a,x=V.ref a∧∃ x,Qz H3 a y (V.int ((j:Int) + 1)) x∧Q V.non x) E0 else Q V.non H2:=by
      intro H2 j k2 J hj
      have ib:=k2.at_ _ _ i1 nb2
      have id:=k2.at_ _ _ i2 nl
      have kf:Ai u.fp H H2:=k2.mono (fun c hc=>by simp [BA.fp,hc])
      refine ⟨_,_,_,k2.at_ _ _ h1 ha2.1,T.BO,T.Hh,_,Ad5 h,_,rfl,Kd (fun hn=>?_) (fun hn=>?_)⟩
      · refine ⟨_,_,_,ib,T.AL,T.CZ,_,AaC u,a,h,rfl,⟨dxh,k2.at_ _ _ h1 ha2.1⟩,fun H3 t3 k3 ht=>⟨_,rfl,_,Qz.t (k:=kk (FtW.keyOf h)) (k3.at_ _ _ id (by simp)) ht (Bs (by rw [r.length]; omega)),?_⟩⟩
        have id3:=k3.at_ _ _ id (by simp)
        have k4:Ai [u.dl] H3 (upd H3 u.dl (.dT (putK ls (kk (FtW.keyOf h)) (.int ((j:Int) + 1))))):=Ai.put id3 trivial (by simp)
        have e:FtW.Gv w h L=FtW.put L (FtW.keyOf h) j:=by unfold FtW.Gv; rw [if_pos (by omega),hj]
        rw [e] at lr'
        refine k _ ((kf.trans (k3.mono (by simp))).trans (k4.mono (by simp [BA.fp]))) ⟨nd,⟨dx,Aj (k3.at_ _ _ ib (by simp)) nb1⟩,(J.BN k3).keep k4 (fun c hc q=>?_),W',_,_,Ab,r.put Arq rfl,lr',?_⟩
        · rw [List.mem_singleton] at q; rw [q] at hc; exact nl hc
        · rw [FtW.Ags]; split <;> omega
      · have e:FtW.Gv w h L=L:=by unfold FtW.Gv; rw [if_neg (by omega)]
        rw [e] at lr'
        exact k _ kf ⟨nd,⟨dx,ib⟩,J,W',ls,L,id,r,lr',by omega⟩
    have hcl:=F.clash wf
    have hfile:∀ x,FtW.val w.nodes p=some x→∃ j,x=.file j:=fun x hx=>by
      rw [FtW.Ej,hx] at hcl
      cases x with
      | dir=>simp [FtTree.clash,h8] at hcl
      | link t=>simp [FtTree.clash,h8] at hcl
      | file j=>exact ⟨j,rfl⟩
    have hfile2:∀ x,FtW.val w.nodes p=some x→∃ j,x=.file j∧(FtW.val (FtW.Aq w) j).isSome=true:=fun x hx=>by
      obtain ⟨j,rfl⟩:=hfile x hx
      have hal:w.alive j=true:=FtW.Eu.mpr ⟨p,FtW.Ht hx⟩
      exact ⟨j,rfl,by rw [FtW.Ji w j hal (wf.JC hal)]; rfl⟩
    have hat:∀ x,w.at_ p=some x→∃ j,x=.file j:=fun x hx=>hfile x (by rw [← FtW.Ej]; exact hx)
    have hlen:=wf.len
    refine ⟨_,_,i1,rfl,u,a,h,w,m,rfl,⟨nd,⟨dx,i1⟩,tr,wf,ls,L,i2,r,lr,hLm⟩,⟨dxh,h1⟩,fun H1 k1=>⟨rfl,?_⟩⟩
    have tr1:=tr.BN k1
    obtain ⟨dxt,t1⟩:=tr1.ins
    have hap:=FtW.LV (w:=w) (h:=h) (p:=p) (d:=d) h4 h10
    have hcl2:(FtW.Aq w).length≤900:=Adz wf
    cases hl:FtW.Cp w h with
    | none =>
      rw [hl] at hap
      dsimp only at hap
      rw [if_pos (show V.int (numOf none)=V.int 0 from rfl)]
      refine ⟨_,_,_,k1.at_ _ _ i1 (by simp),T.AL,T.AK,_,D2 u,_,rfl,_,_,t1,rfl,u.t,b,e,p,d,w.nodes,w.files.length,FtW.Aq w,rfl,tr1,wf.nd,by omega,hcl2,k1.tup _ _ hb,k1.tup _ _ he,hfile2,fun H2 k2 J=>?_⟩
      refine fin H2 w.files.length ((k1.mono (by simp)).trans k2) ?_ (by rw [hl]; rfl)
      have e1:(FtTree.apply w h p d).nodes=FtW.put w.nodes p (.file w.files.length):=by rw [hap]; exact FtW.Cq _ _ _
      have e2:(FtTree.apply w h p d).files.length=w.files.length + 1:=by rw [hap]; show (w.files++[d]).length=_; simp
      have e3:FtW.Aq (FtTree.apply w h p d)=FY w.nodes (FtW.put (FtW.Aq w) w.files.length d) p w.files.length:=by
        rw [hap]
        exact FtW.Ae9 wf hat
      rw [e1,e2,e3]; exact J
    | some j =>
      rw [hl] at hap
      dsimp only at hap
      have hal:=FtW.Hf hl
      have hjl:=wf.JC hal
      rw [if_neg (show ¬ V.int (numOf (some j))=V.int 0 by rw [V.int.injEq]; show ¬ (j:Int) + 1=0; omega)]
      refine ⟨_,_,_,k1.at_ _ _ i1 (by simp),T.AL,T.AK,_,D2 u,_,rfl,_,_,t1,rfl,u.t,b,p,j,w.nodes,w.files.length,FtW.Aq w,rfl,tr1,wf.nd,by omega,k1.tup _ _ hb,hfile2,fun H2 k2 J=>?_⟩
      have k12:Ai u.t.fp H H2:=(k1.mono (by simp)).trans k2
      have ec:FY w.nodes (FtW.Aq w) p j=FtW.Aq (w.put p (.file j)):=(FtW.Ac4 wf hal hat).symm
      rw [ec] at J
      refine ⟨_,_,_,k12.at_ _ _ h1 ha2.1,T.BO,T.BD,_,Fm h,rfl,?_⟩
      by_cases hz:h.size=0
      · rw [if_neg (by rw [hz]; decide)]
        rw [if_pos hz] at hap
        refine fin H2 j k12 ?_ (by rw [hl]; rfl)
        rw [hap,FtW.Cq]; exact J
      · have hz' : ¬ (h.size:Int)=0:=by omega
        rw [if_pos (by rw [decide_eq_false (by rw [V.int.injEq]; exact hz')]; rfl)]
        rw [if_neg hz] at hap
        obtain ⟨dxt2,t2⟩:=J.ins
        have hal2:(w.put p (.file j)).alive j=true:=FtW.BZ.mpr (.inl rfl)
        refine ⟨_,_,_,k12.at_ _ _ i1 nb2,T.AL,T.AK,_,D2 u,_,rfl,_,_,t2,rfl,u.t,e,j,d,_,_,_,rfl,J,?_,k12.tup _ _ he,fun H3 k3 J3=>?_⟩
        · have:=List.length_filter_le (fun i=>(w.put p (.file j)).alive i) (List.range w.files.length)
          rw [← ec]
          unfold FY FtW.drop
          split
          · exact Nat.le_trans (List.length_filter_le _ _) (by omega)
          · omega
        · refine fin H3 j (k12.trans k3) ?_ (by rw [hl]; rfl)
          rw [hap]
          have e3:=FtW.AeA (w:=w.put p (.file j)) (i:=j) hal2 hjl d
          have e4:(w.files.set j d).length=w.files.length:=List.length_set ..
          show Ct A H3 u.t (w.put p (.file j)).nodes (w.files.set j d).length (FtW.Aq { w.put p (.file j) with files:=w.files.set j d })
          rw [e4,FtW.Cq]
          have e5:FtW.Aq { w.put p (.file j) with files:=w.files.set j d }=FtW.put (FtW.Aq (w.put p (.file j))) j d:=e3
          rw [e5]; exact J3
end
section
variable {P:Program} {w:World} {K:PySem.W.Frag} {mg:Str→Option Value} {base:Heap} {A:Ad}
def ArX (A:Ad) (K:PySem.W.Frag):Sp:=fun vs H Q _=>∃ (u:BA) (a b e:Addr) (h:FtTree.Head) (p d:B8) (w:FtTree.World) (m:Nat),vs=[.ref u.b,.ref a,.ref b,.ref e]∧BAt A H u w m∧m≤9000∧Ei A H a h∧a ∉ u.fp∧((p=FtTree.DOT∧h.kind=4)∨FtW.Fits w h p)∧(h.kind≠4→d.length=h.size)∧(h.kind=10→h.size≤255∧h.size≠0)∧H b=some (.tup (bv p))∧H e=some (.tup (bv d))∧∀ H',Ai u.fp H H'→BAt A H' u (FtTree.apply w h p d) (m + 1)→Q .non H'
theorem JW (T:Tx K mg A):AY P w K mg base CX0 5 A.By A.GX ["self","head","name","data"] (ArX A K):=by
  refine T.EI.ok Tn (fun vs H Q E h=>?_) (fun cdv Ar outer s H vs Q E hr h=>?_)
  · obtain ⟨u,a,b,e,h,p,d,w,m,rfl,_⟩:=h
    rfl
  · obtain ⟨u,a,b,e,h,p,d,w,m,rfl,I,hm,⟨dxh,h1⟩,ha,hF,hd,hl,hb,he,k⟩:=h
    have hu:=AZ hr
    refine ⟨_,(Ac (AD (Ao (Wn (by exact hr.units)) (pv 2) (Hm T.AmX) (As _)) (Ae Qu) A7)
      (Ae (AD (Ao AX (Al (pv 1) rfl) (Ak T.Iy) (As _)) (Ae (AE (AH (Al (pv 0) rfl) T.AF T.Oc (NH T) (hr.mono (by decide)) T.EV .nil A1 (Aa (pv 2) Ag)))) (Ae (AD (Ao AX (Al (pv 1) rfl) (Ak T.VV) (As _)) (Ae (AE (AH (Al (pv 0) rfl) T.AF T.Xk (Wl T) (hr.mono (by decide)) T.IG .nil A1 (Aa (pv 2) (Aa (pv 3) Ag))))) (Ae (AE (AH (pv 0) T.AL T.TC (SU T) (hr.mono (by decide)) T.GD .nil A1 (Aa (pv 1) (Aa (pv 2) (Aa (pv 3) Ag))))))))))),?_⟩
    walk_at "rd"
    refine U2 (q:=FtTree.DOT) (SqT.of hb) (T.Qx H) ⟨_,rfl,?_⟩
    by_cases hp:p=FtTree.DOT
    · rw [if_pos (decide_eq_true hp)]
      have h4:h.kind=4:=by
        rcases hF with q | q
        · exact q.2
        · exact absurd hp q.AtF
      refine k _ Ai.refl ?_
      have e1:FtTree.apply w h p d=w:=by unfold FtTree.apply; rw [if_pos h4,if_pos hp]
      rw [e1]
      obtain ⟨nd,i1,tr,wf,ls,L,i2,r,lr,hLm⟩:=I
      exact ⟨nd,i1,tr,wf,ls,L,i2,r,lr,by omega⟩
    · rw [if_neg (by simp [hp])]
      have F:FtW.Fits w h p:=hF.resolve_left (fun q=>hp q.1)
      have W':FtW.WF (FtTree.apply w h p d):=I.wf.apply F hd hl
      have hcl:=F.clash I.wf
      rw [FtW.Ej] at hcl
      have I0:=I
      obtain ⟨nd,⟨dx,i1⟩,tr,wf,ls,L,i2,r,lr,hLm⟩:=I
      have nn:=nd
      simp only [BA.fp,List.nodup_cons,List.mem_cons,not_or] at nn
      obtain ⟨⟨nb1,nb2⟩,nl,ndt⟩:=nn
      obtain ⟨dxt,t1⟩:=tr.ins
      have hlen:=wf.len
      have same:∀ (H2:Hp) (nd':FtTree.Node),FtTree.apply w h p d=w.put p nd'→FtW.fileOf nd'=none→(∀ x,FtW.val w.nodes p=some x→FtW.fileOf x=none)→Ai u.t.fp H H2→Ct A H2 u.t (FtW.put w.nodes p nd') w.files.length (FtW.Aq w)→Q .non H2:=by
        intro H2 nd' ha hn hx k2 J
        have hal:=FtW.MQ (w:=w) (p:=p) hn (fun x q=>hx x (by rw [← FtW.Ej]; exact q)) wf.nd
        refine k _ (k2.mono (fun c hc=>by simp [BA.fp,hc])) ?_
        have ec:FtW.Aq (w.put p nd')=FtW.Aq w:=by
          unfold FtW.Aq
          rw [FtW.Qv,List.filter_congr (fun j _=>hal j)]; rfl
        rw [ha] at W' ⊢
        refine ⟨nd,⟨dx,k2.at_ _ _ i1 nb2⟩,?_,W',ls,L,k2.at_ _ _ i2 nl,r,lr.same rfl hal rfl,by omega⟩
        rw [FtW.Cq,ec]; exact J
      refine ⟨_,_,_,h1,T.BO,T.Co,_,Hg h,?_,?_⟩
      · unfold Gu; rcases F.kind with e | e | e <;> rw [e] <;> rfl
      by_cases h4:h.kind=4
      · rw [if_pos (by rw [h4]; rfl)]
        have hx:∀ x,FtW.val w.nodes p=some x→x=.dir:=fun x hx=>by
          rw [hx] at hcl
          cases x with
          | dir=>rfl
          | link t=>simp [FtTree.clash,h4] at hcl
          | file j=>simp [FtTree.clash,h4] at hcl
        refine ⟨_,_,_,i1,T.AL,T.AK,_,D2 u,_,rfl,_,_,t1,rfl,u.t,b,p,_,_,_,rfl,tr,wf.nd,by omega,hb,hx,fun H2 k2 J=>?_⟩
        exact same H2 .dir (by unfold FtTree.apply; rw [if_pos h4,if_neg hp]) rfl (fun x q=>by rw [hx x q]; rfl) k2 J
      · rw [if_neg (by unfold Gu; rcases F.kind with e | e | e <;> first | exact absurd e h4 | (rw [e]; decide))]
        refine ⟨_,_,_,h1,T.BO,T.Co,_,Hg h,?_,?_⟩
        · unfold Gu; rcases F.kind with e | e | e <;> rw [e] <;> rfl
        by_cases h10:h.kind=10
        · rw [if_pos (by rw [h10]; rfl)]
          have hx:∀ x,FtW.val w.nodes p=some x→∃ y,x=.link y:=fun x hx=>by
            rw [hx] at hcl
            cases x with
            | dir=>simp [FtTree.clash,h10] at hcl
            | link t=>exact ⟨t,rfl⟩
            | file j=>simp [FtTree.clash,h10] at hcl
          refine ⟨_,_,_,i1,T.AL,T.AK,_,D2 u,_,rfl,_,_,t1,rfl,u.t,b,e,p,d,_,_,_,rfl,tr,wf.nd,by omega,hb,he,hx,fun H2 k2 J=>?_⟩
          exact same H2 (.link d) (by unfold FtTree.apply; rw [if_neg h4,if_pos h10]) rfl (fun x q=>by obtain ⟨y,rfl⟩:=hx x q; rfl) k2 J
        · have h8:h.kind=8:=by rcases F.kind with q | q | q <;> first | exact q | exact absurd q h4 | exact absurd q h10
          rw [if_neg (by rw [h8]; decide)]
          exact ⟨_,_,i1,rfl,u,a,b,e,h,p,d,w,m,rfl,I0,hm,⟨dxh,h1⟩,ha,h8,F,hd h4,hb,he,k⟩
structure SA where
  s:Addr
  pl:Addr
  hl:List Addr
  u:BA
def SA.fp (x:SA):List Addr:=x.s::x.pl::(x.hl++x.u.fp)
def A6 (x:SA) (m:FtM.M) (hv nv:V):List (Str × V):=[("builder",.ref x.u.b),("code",.int (m.code:Int)),("place",.int (m.place:Int)),("phase",.int (m.phase:Int)),("part",.ref x.pl),("wanted",.int (m.wanted:Int)),("head",hv),("name",nv)]
section
variable (x:SA) (m:FtM.M) (hv nv:V)
theorem Gw:(A6 x m hv nv).lookup ("builder" : Str)=some (.ref x.u.b):=rfl
theorem Pk:(A6 x m hv nv).lookup ("code" : Str)=some (.int (m.code:Int)):=rfl
theorem Ad6:(A6 x m hv nv).lookup ("place" : Str)=some (.int (m.place:Int)):=rfl
theorem AG:(A6 x m hv nv).lookup ("phase" : Str)=some (.int (m.phase:Int)):=rfl
theorem FF:(A6 x m hv nv).lookup ("part" : Str)=some (.ref x.pl):=rfl
theorem AaD:(A6 x m hv nv).lookup ("wanted" : Str)=some (.int (m.wanted:Int)):=rfl
theorem DM:(A6 x m hv nv).lookup ("head" : Str)=some hv:=rfl
theorem UX:(A6 x m hv nv).lookup ("name" : Str)=some nv:=rfl
end
structure SAt (A:Ad) (H:Hp) (x:SA) (m:FtM.M) (q n:Nat):Prop where
  nd:x.fp.Nodup
  ins:∃ dx hv nv,H x.s=some (.ins A.Am dx (A6 x m hv nv))∧(2≤q→∃ hh,hv=.ref hh∧hh ∈ x.hl∧Ei A H hh m.head)∧(3≤q→∃ b,nv=.ref b∧H b=some (.tup (bv m.name)))
  part:H x.pl=some (.lst (bv m.part))
  hls:∀ c ∈ x.hl,∃ h,Ei A H c h
  bld:BAt A H x.u m.w n
def Asc (A:Ad):Sp:=fun vs H Q _=>∃ (x:SA) (m:FtM.M) (q n:Nat),vs=[.ref x.s]∧SAt A H x m q n∧Q (.bl (m.code == 0 && m.phase == 0)) H
theorem Ve (T:Tx K mg A):AY P w K mg base CX0 1 A.B9 A.HJ ["self"] (Asc A):=by
  refine T.Fp.ok Vk (fun vs H Q E h=>?_) (fun cdv Ar outer s H vs Q E hr h=>?_)
  · obtain ⟨x,m,q,n,rfl,_⟩:=h
    rfl
  · obtain ⟨x,m,q,n,rfl,I,k⟩:=h
    have hu:=AZ hr
    refine ⟨_,(Ae (Av (Amn (Eo AX (Al (pv 0) rfl) Ap (As _)) (Amo (Eo AX (Al (pv 0) rfl) (Ak T.Ad2) (As _)))))),?_⟩
    walk_at "rd"
    obtain ⟨dx,hv,nv,i1,_,_⟩:=I.ins
    refine ⟨_,_,_,i1,T.Ah,T.BH,_,Pk x m hv nv,rfl,?_⟩
    by_cases h0:m.code=0
    · rw [if_pos (by rw [h0]; rfl)]
      refine ⟨_,_,_,i1,T.Ah,T.An,_,AG x m hv nv,rfl,?_⟩
      have e:decide (V.int (m.phase:Int)=V.int 0)=(m.code == 0 && m.phase == 0):=by
        rw [h0]
        by_cases hp:m.phase=0
        · simp [hp]
        · have : ¬ (m.phase:Int)=0:=by omega
          simp [hp,this]
      rw [e]; exact k
    · have h0' : ¬ (m.code:Int)=0:=by omega
      rw [if_neg (by rw [V.int.injEq]; exact h0')]
      have e:false=(m.code == 0 && m.phase == 0):=by simp [h0]
      rw [e]; exact k
theorem Et {a b c:Int}:inV (.int a) [.int b,.int c]=true↔a=b∨a=c:=by
  show ((b == a) || ((c == a) || false))=true↔_
  rw [Bool.or_eq_true,Bool.or_eq_true,beq_iff_eq,beq_iff_eq]
  constructor
  · rintro (h | h | h)
    · exact .inl h.symm
    · exact .inr h.symm
    · cases h
  · rintro (h | h)
    · exact .inl h.symm
    · exact .inr (.inl h.symm)
def AjE (A:Ad):Sp:=fun vs H Q _=>∃ (x:SA) (m:FtM.M) (q n:Nat) (c:UInt8),vs=[.ref x.s,.int (c.toNat:Int)]∧SAt A H x m q n∧∀ H',Ai [] H H'→Q (.int (FtM.Ax m.phase m.part.length c:Nat)) H'
theorem P0 (T:Tx K mg A):AY P w K mg base CX0 3 A.Bg A.F5 ["self","byte"] (AjE A):=by
  refine T.DC.ok PJ (fun vs H Q E h=>?_) (fun cdv Ar outer s H vs Q E hr h=>?_)
  · obtain ⟨x,m,q,n,c,rfl,_⟩:=h
    rfl
  · obtain ⟨x,m,q,n,c,rfl,I,k⟩:=h
    have hu:=AZ hr
    refine ⟨_,(Ac (AD (M6 (Ao AX (Al (pv 0) rfl) (Ak T.Ad2) (As _)) (Jd (Ao AX (pv 1) Ap (As _)))).pt (Ae (Av Ap)) A7)
      (Ac (AD (M6 (Ao Qt (Al (pv 0) rfl) (HL (Aa (Ak T.Ad2) (Aa (Ak T.Le) Ag))) rfl) (Jd (Wt (Lg (AJ (AfW T) (hr.mono (by decide)) (by rfl) T.Ahc T.Ig.kp T.NU .nil A1 (Aa (AS AI (by rfl) T.Es PySem.boot_len (Aa (Al (pv 0) rfl) Ag)) (Aa (pv 1) Ag))))))).pt (Ae (Av (Ak T.UI))) A7)
      (Ac (AD (M6 (Ao Qt (Al (pv 0) rfl) (HL (Aa (Ak T.Fu) (Aa (Ak T.U8) Ag))) rfl) (Jd (Ao IW (pv 1) Ap (As _)))).pt (Ae (Av (Ak T.Al1))) A7)
      (Ae (Av Ap))))),?_⟩
    walk_at "rd"
    obtain ⟨dx,hv,nv,i1,_,_⟩:=I.ins
    have k':∀ (d:Nat) H',Ai [] H H'→d=FtM.Ax m.phase m.part.length c→Q (.int d) H':=fun d H' hk e=>e ▸ k H' hk
    refine ⟨_,_,_,i1,T.Ah,T.An,_,AG x m hv nv,rfl,?_⟩
    by_cases hp:m.phase=0
    · rw [if_pos (by rw [hp]; rfl)]
      by_cases hc:c=0
      · rw [if_pos (by rw [hc]; rfl)]
        exact k' 0 _ Ai.refl (by unfold FtM.Ax; rw [if_pos ⟨hp,hc⟩])
      · have hcI : ¬ (c.toNat:Int)=0:=fun q=>hc (toNat_inj (b:=0) q)
        rw [if_neg hcI]
        have e1:FtM.Ax m.phase m.part.length c=if (m.phase=0∨m.phase=1)∧FtTree.headByte m.part.length c=false then 1 else if (m.phase=3∨m.phase=5)∧c≠0 then 6 else 0:=by unfold FtM.Ax; rw [if_neg (fun q=>hc q.2)]
        refine ⟨_,_,_,i1,T.Ah,T.An,_,AG x m hv nv,Br (by decide),fun q2 hq2=>⟨_,.inr (SqT.of Ab),rfl,rfl,Kd (fun h01=>?_) (fun h01=>?_)⟩⟩
        · have h01:m.phase=0∨m.phase=1:=by have:=Et.mp h01; omega
          have kq:Ai [] H (upd H q2 (.tup [V.int 0,V.int 1])):=Ai.new hq2
          refine ⟨_,_,_,kq.at_ _ _ i1 (by simp),T.Ah,T.AQ,_,FF x m hv nv,_,rfl,_,.inl (SqL.of (kq.at_ _ _ I.part (by simp))),?_⟩
          refine ⟨m.part.length,c,by rw [Az],_,rfl,?_⟩
          cases hb:FtTree.headByte m.part.length c with
          | false =>
            rw [if_pos (by decide)]
            exact k' 1 _ kq (by rw [e1,if_pos ⟨h01,hb⟩])
          | true =>
            rw [if_neg (by decide)]
            have e2:FtM.Ax m.phase m.part.length c=if (m.phase=3∨m.phase=5)∧c≠0 then 6 else 0:=by rw [e1,if_neg (fun q=>by rw [hb] at q; cases q.2)]
            refine ⟨_,_,_,(kq).at_ _ _ i1 (by simp),T.Ah,T.An,_,AG x m hv nv,Br (by decide),fun q3 hq3=>⟨_,.inr (SqT.of Ab),rfl,rfl,Kd (fun h35=>?_) (fun h35=>?_)⟩⟩
            · have h35:m.phase=3∨m.phase=5:=by have:=Et.mp h35; omega
              by_cases hc0:c=0
              · rw [if_neg (by rw [hc0]; decide)]
                exact k' 0 _ ((kq).trans (Ai.new hq3)) (by rw [e2,hc0]; simp)
              · have hcI : ¬ (c.toNat:Int)=0:=fun q=>hc0 (toNat_inj (b:=0) q)
                rw [if_pos (by rw [decide_eq_false hcI]; rfl)]
                exact k' 6 _ ((kq).trans (Ai.new hq3)) (by rw [e2,if_pos ⟨h35,hc0⟩])
            · have h35 : ¬ (m.phase=3∨m.phase=5):=fun q=>h35 (Et.mpr (by omega))
              exact k' 0 _ ((kq).trans (Ai.new hq3)) (by rw [e2,if_neg (fun q=>h35 q.1)])
        · have h01 : ¬ (m.phase=0∨m.phase=1):=fun q=>h01 (Et.mpr (by omega))
          have kq:Ai [] H (upd H q2 (.tup [V.int 0,V.int 1])):=Ai.new hq2
          have e2:FtM.Ax m.phase m.part.length c=if (m.phase=3∨m.phase=5)∧c≠0 then 6 else 0:=by rw [e1,if_neg (fun q=>h01 q.1)]
          refine ⟨_,_,_,(kq).at_ _ _ i1 (by simp),T.Ah,T.An,_,AG x m hv nv,Br (by decide),fun q3 hq3=>⟨_,.inr (SqT.of Ab),rfl,rfl,Kd (fun h35=>?_) (fun h35=>?_)⟩⟩
          · have h35:m.phase=3∨m.phase=5:=by have:=Et.mp h35; omega
            by_cases hc0:c=0
            · rw [if_neg (by rw [hc0]; decide)]
              exact k' 0 _ ((kq).trans (Ai.new hq3)) (by rw [e2,hc0]; simp)
            · have hcI : ¬ (c.toNat:Int)=0:=fun q=>hc0 (toNat_inj (b:=0) q)
              rw [if_pos (by rw [decide_eq_false hcI]; rfl)]
              exact k' 6 _ ((kq).trans (Ai.new hq3)) (by rw [e2,if_pos ⟨h35,hc0⟩])
          · have h35 : ¬ (m.phase=3∨m.phase=5):=fun q=>h35 (Et.mpr (by omega))
            exact k' 0 _ ((kq).trans (Ai.new hq3)) (by rw [e2,if_neg (fun q=>h35 q.1)])
    · have hp' : ¬ (m.phase:Int)=0:=by omega
      rw [if_neg (by rw [V.int.injEq]; exact hp')]
      have e1:FtM.Ax m.phase m.part.length c=if (m.phase=0∨m.phase=1)∧FtTree.headByte m.part.length c=false then 1 else if (m.phase=3∨m.phase=5)∧c≠0 then 6 else 0:=by unfold FtM.Ax; rw [if_neg (fun q=>hp q.1)]
      refine ⟨_,_,_,i1,T.Ah,T.An,_,AG x m hv nv,Br (by decide),fun q2 hq2=>⟨_,.inr (SqT.of Ab),rfl,rfl,Kd (fun h01=>?_) (fun h01=>?_)⟩⟩
      · have h01:m.phase=0∨m.phase=1:=by have:=Et.mp h01; omega
        have kq:Ai [] H (upd H q2 (.tup [V.int 0,V.int 1])):=Ai.new hq2
        refine ⟨_,_,_,kq.at_ _ _ i1 (by simp),T.Ah,T.AQ,_,FF x m hv nv,_,rfl,_,.inl (SqL.of (kq.at_ _ _ I.part (by simp))),?_⟩
        refine ⟨m.part.length,c,by rw [Az],_,rfl,?_⟩
        cases hb:FtTree.headByte m.part.length c with
        | false =>
          rw [if_pos (by decide)]
          exact k' 1 _ kq (by rw [e1,if_pos ⟨h01,hb⟩])
        | true =>
          rw [if_neg (by decide)]
          have e2:FtM.Ax m.phase m.part.length c=if (m.phase=3∨m.phase=5)∧c≠0 then 6 else 0:=by rw [e1,if_neg (fun q=>by rw [hb] at q; cases q.2)]
          refine ⟨_,_,_,(kq).at_ _ _ i1 (by simp),T.Ah,T.An,_,AG x m hv nv,Br (by decide),fun q3 hq3=>⟨_,.inr (SqT.of Ab),rfl,rfl,Kd (fun h35=>?_) (fun h35=>?_)⟩⟩
          · have h35:m.phase=3∨m.phase=5:=by have:=Et.mp h35; omega
            by_cases hc0:c=0
            · rw [if_neg (by rw [hc0]; decide)]
              exact k' 0 _ ((kq).trans (Ai.new hq3)) (by rw [e2,hc0]; simp)
            · have hcI : ¬ (c.toNat:Int)=0:=fun q=>hc0 (toNat_inj (b:=0) q)
              rw [if_pos (by rw [decide_eq_false hcI]; rfl)]
              exact k' 6 _ ((kq).trans (Ai.new hq3)) (by rw [e2,if_pos ⟨h35,hc0⟩])
          · have h35 : ¬ (m.phase=3∨m.phase=5):=fun q=>h35 (Et.mpr (by omega))
            exact k' 0 _ ((kq).trans (Ai.new hq3)) (by rw [e2,if_neg (fun q=>h35 q.1)])
      · have h01 : ¬ (m.phase=0∨m.phase=1):=fun q=>h01 (Et.mpr (by omega))
        have kq:Ai [] H (upd H q2 (.tup [V.int 0,V.int 1])):=Ai.new hq2
        have e2:FtM.Ax m.phase m.part.length c=if (m.phase=3∨m.phase=5)∧c≠0 then 6 else 0:=by rw [e1,if_neg (fun q=>h01 q.1)]
        refine ⟨_,_,_,(kq).at_ _ _ i1 (by simp),T.Ah,T.An,_,AG x m hv nv,Br (by decide),fun q3 hq3=>⟨_,.inr (SqT.of Ab),rfl,rfl,Kd (fun h35=>?_) (fun h35=>?_)⟩⟩
        · have h35:m.phase=3∨m.phase=5:=by have:=Et.mp h35; omega
          by_cases hc0:c=0
          · rw [if_neg (by rw [hc0]; decide)]
            exact k' 0 _ ((kq).trans (Ai.new hq3)) (by rw [e2,hc0]; simp)
          · have hcI : ¬ (c.toNat:Int)=0:=fun q=>hc0 (toNat_inj (b:=0) q)
            rw [if_pos (by rw [decide_eq_false hcI]; rfl)]
            exact k' 6 _ ((kq).trans (Ai.new hq3)) (by rw [e2,if_pos ⟨h35,hc0⟩])
        · have h35 : ¬ (m.phase=3∨m.phase=5):=fun q=>h35 (Et.mpr (by omega))
          exact k' 0 _ ((kq).trans (Ai.new hq3)) (by rw [e2,if_neg (fun q=>h35 q.1)])
end
section
variable {P:Program} {w:World} {K:PySem.W.Frag} {mg:Str→Option Value} {base:Heap} {A:Ad}
def Left (A:Ad) (H:Hp) (x:SA) (m:FtM.M) (q n:Nat) (Q:VK):Prop:=∀ (H':Hp) (x':SA),x'.s=x.s→x'.u.b=x.u.b→Fr x.fp H x'.fp H'→SAt A H' x' m q n→Q .non H'
def begun (m:FtM.M) (ph k:Nat):FtM.M:={ m with phase:=ph,part:=[],wanted:=k }
theorem BAt.mono {H:Hp} {u:BA} {v:FtTree.World} {n n':Nat} (I:BAt A H u v n) (h:n≤n'):BAt A H u v n':=by
  obtain ⟨nd,i1,tr,wf,ls,L,i2,r,lr,hm⟩:=I
  exact ⟨nd,i1,tr,wf,ls,L,i2,r,lr,by omega⟩
theorem JS {x:SA} (nd:x.fp.Nodup):x.s≠x.pl∧x.s ∉ x.hl∧x.s ∉ x.u.fp∧x.pl ∉ x.hl∧x.pl ∉ x.u.fp∧(∀ b ∈ x.hl,b ∉ x.u.fp):=by
  simp only [SA.fp,List.nodup_cons,List.mem_cons,List.mem_append,not_or,List.nodup_append] at nd
  obtain ⟨⟨a,b,c⟩,⟨d,e⟩,_,_,f⟩:=nd
  exact ⟨a,b,c,d,e,fun y hy hu=>f y hy y hu rfl⟩
theorem SAt.Aa0 {H H':Hp} {x:SA} {m:FtM.M} {q n:Nat} {F:List Addr} (I:SAt A H x m q n) (k:Ai F H H') (d:∀ b ∈ x.fp,b ∉ F):SAt A H' x m q n:=by
  obtain ⟨nd,⟨dx,hv,nv,i1,h1,h2⟩,pt,hls,bl⟩:=I
  refine ⟨nd,⟨dx,hv,nv,k.at_ _ _ i1 (d _ (by simp [SA.fp])),fun z=>?_,fun z=>?_⟩,k.at_ _ _ pt (d _ (by simp [SA.fp])),fun c hc=>(hls c hc).imp fun h ⟨dh,e⟩=>⟨dh,k.at_ _ _ e (d _ (by simp [SA.fp,hc]))⟩,bl.keep k (fun b hb=>d b (by simp [SA.fp,hb]))⟩
  · obtain ⟨hh,e1,e2,dh,e3⟩:=h1 z
    exact ⟨hh,e1,e2,dh,k.at_ _ _ e3 (d _ (by simp [SA.fp,e2]))⟩
  · obtain ⟨b,e1,e2⟩:=h2 z
    exact ⟨b,e1,k.tup _ _ e2⟩
theorem SAt.BN {H H':Hp} {x:SA} {m:FtM.M} {q n:Nat} (I:SAt A H x m q n) (k:Ai [] H H'):SAt A H' x m q n:=I.Aa0 k (by simp)
theorem El {F:List Addr} {H H':Hp} (k:Ai F H H'):L2.Fr F H F H':=⟨k,fun b h=>.inl h⟩
theorem SAt.free {H:Hp} {x:SA} {m:FtM.M} {q n:Nat} (I:SAt A H x m q n) {b:Addr} (hb:H b=none):b ∉ x.fp:=by
  obtain ⟨nd,⟨dx,hv,nv,i1,h1,h2⟩,pt,hls,bl⟩:=I
  obtain ⟨dxb,b1⟩:=bl.ins
  obtain ⟨ls,L,b2,_⟩:=bl.links
  obtain ⟨dxt,t1⟩:=bl.tree.ins
  obtain ⟨ks,t2,_⟩:=bl.tree.kinds
  obtain ⟨ts,t3,_⟩:=bl.tree.texts
  obtain ⟨hs,t4,_⟩:=bl.tree.holders
  obtain ⟨cs,t5,_⟩:=bl.tree.AnS
  intro z
  simp only [SA.fp,BA.fp,TA.fp,List.mem_cons,List.mem_append,List.not_mem_nil,or_false] at z
  rcases z with z | z | z | z | z | z | z | z | z | z
  · rw [z,i1] at hb; cases hb
  · rw [z,pt] at hb; cases hb
  · obtain ⟨h,dh,e⟩:=hls b z
    rw [hb] at e; cases e
  · rw [z,b1] at hb; cases hb
  · rw [z,b2] at hb; cases hb
  · rw [z,t1] at hb; cases hb
  · rw [z,t2] at hb; cases hb
  · rw [z,t3] at hb; cases hb
  · rw [z,t4] at hb; cases hb
  · rw [z,t5] at hb; cases hb
theorem Qo {H H3:Hp} {x:SA} {m:FtM.M} {q n ph kk:Nat} {dx p:Addr} {hv nv:V} (I:SAt A H x m q n) (hq:(2≤q→∃ hh,hv=.ref hh∧hh ∈ x.hl∧Ei A H hh m.head)) (hq2:(3≤q→∃ b,nv=.ref b∧H b=some (.tup (bv m.name))))
    (k:Ai [x.s] H H3) (hp:H p=none) (h3:H3 p=some (.lst [])) (hs:H3 x.s=some (.ins A.Am dx (A6 { x with pl:=p } (begun m ph kk) hv nv))) :
    L2.Fr x.fp H ({ x with pl:=p }:SA).fp H3∧SAt A H3 { x with pl:=p } (begun m ph kk) q n:=by
  have hfree:=I.free hp
  obtain ⟨n1,n2,n3,n4,n5,n6⟩:=JS I.nd
  have nd:=I.nd
  simp only [SA.fp,List.mem_cons,List.mem_append,not_or] at hfree
  refine ⟨⟨k.mono (by simp [SA.fp]),fun b hb=>?_⟩,⟨?_,⟨dx,hv,nv,hs,fun z=>?_,fun z=>?_⟩,h3,fun c hc=>(I.hls c hc).imp fun h ⟨dh,e⟩=>⟨dh,k.at_ _ _ e (by simp; exact fun z=>n2 (z ▸ hc))⟩,I.bld.keep k (fun b hb z=>n3 (by rw [List.mem_singleton] at z; rw [← z]; exact hb))⟩⟩
  · simp only [SA.fp,List.mem_cons] at hb ⊢
    rcases hb with hb | hb | hb
    · exact .inl (.inl hb)
    · exact .inr (by rw [hb]; exact hp)
    · exact .inl (.inr (.inr hb))
  · simp only [SA.fp,List.nodup_cons,List.mem_cons,List.mem_append,not_or] at nd ⊢
    exact ⟨⟨Ne.symm hfree.1,nd.1.2⟩,⟨hfree.2.2.1,hfree.2.2.2⟩,nd.2.2⟩
  · obtain ⟨hh,e1,e2,dh,e3⟩:=hq z
    exact ⟨hh,e1,e2,dh,k.at_ _ _ e3 (by simp; exact fun y=>n2 (y ▸ e2))⟩
  · obtain ⟨b,e1,e2⟩:=hq2 z
    exact ⟨b,e1,k.tup _ _ e2⟩
def ArN (A:Ad):Sp:=fun vs H Q _=>∃ (x:SA) (m:FtM.M) (q n ph k:Nat),vs=[.ref x.s,.int (ph:Int),.int (k:Int)]∧SAt A H x m q n∧k≠0∧Left A H x (begun m ph k) q n Q
theorem Jt (T:Tx K mg A):AY P w K mg base CX0 1 A.Bq A.DL ["self","phase","wanted"] (ArN A):=by
  refine T.Dd.ok FT (fun vs H Q E h=>?_) (fun cdv Ar outer s H vs Q E hr h=>?_)
  · obtain ⟨x,m,q,n,ph,kk,rfl,_⟩:=h
    rfl
  · obtain ⟨x,m,q,n,ph,kk,rfl,I,hk,k⟩:=h
    have hu:=AZ hr
    refine ⟨_,(Ac (Bd (pv 0) (pv 1) rfl)
      (Ac (Bd (pv 0) (BI Ag) rfl)
      (Ac (Bd (pv 0) (pv 2) rfl)
      (Ae (AD (Ao AX (pv 2) Ap (As _)) (Ae Fo) A7))))),?_⟩
    walk_at "rd"
    obtain ⟨dx,hv,nv,i1,hq,hq2⟩:=I.ins
    refine ⟨_,_,_,i1,T.Ah,T.An,by show 8 < 1000; decide,Nat.zero_le _,fun p hp=>?_⟩
    have hps:p≠x.s:=fun z=>by rw [z,Ab] at hp; cases hp
    rw [A9 hps] at hp
    refine ⟨_,_,_,Aj Ab hps.symm,T.Ah,T.AQ,by show 8 < 1000; decide,_,_,_,Ab,T.Ah,T.BM,by show 8 < 1000; decide,?_⟩
    rw [Jh]
    have ep:Bj "wanted" (.int (kk:Int)) (Bj "part" (.ref p) (Bj "phase" (.int (ph:Int)) (A6 x m hv nv)))=A6 { x with pl:=p } (begun m ph kk) hv nv:=rfl
    rw [ep]
    have k1:Ai [x.s] H (upd H x.s (.ins A.Am dx (Bj "phase" (.int (ph:Int)) (A6 x m hv nv)))):=Ai.put i1 trivial (by simp)
    have k2:=k1.trans (Ai.new (p:=p) (o:=.lst []) (by rw [A9 hps]; exact hp))
    have k3:=k2.trans (Ai.put (o:=.ins A.Am dx (A6 { x with pl:=p } (begun m ph kk) hv nv)) (Aj Ab hps.symm) trivial (by simp))
    obtain ⟨fr,J⟩:=Qo I hq hq2 k3 hp (Aj Ab hps) Ab
    generalize upd (upd (upd H x.s (.ins A.Am dx (Bj "phase" (.int (ph:Int)) (A6 x m hv nv)))) p (.lst [])) x.s (.ins A.Am dx (A6 { x with pl:=p } (begun m ph kk) hv nv))=H3 at fr J
    rw [if_neg (by omega)]
    exact k _ { x with pl:=p } rfl rfl fr J
theorem Left.fr {H H1:Hp} {x x1:SA} {m:FtM.M} {q n:Nat} {Q:VK} (k:Left A H x m q n Q) (e1:x1.s=x.s) (e2:x1.u.b=x.u.b) (f:L2.Fr x.fp H x1.fp H1):Left A H1 x1 m q n Q :=
  fun H' x' a b g J=>k H' x' (a.trans e1) (b.trans e2) (f.trans g) J
def Awd (A:Ad):Sp:=fun vs H Q _=>∃ (x:SA) (m:FtM.M) (q n:Nat),vs=[.ref x.s]∧SAt A H x m q n∧m.phase=5∧Left A H x (FtM.MJ m) q n Q
theorem AtK (T:Tx K mg A):AY P w K mg base CX0 2 A.AR A.CA ["self"] (Awd A):=by
  refine T.BY.ok Ep (fun vs H Q E h=>?_) (fun cdv Ar outer s H vs Q E hr h=>?_)
  · obtain ⟨x,m,q,n,rfl,_⟩:=h
    rfl
  · obtain ⟨x,m,q,n,rfl,I,hp,k⟩:=h
    have hu:=AZ hr
    refine ⟨_,(Ae (AD (Ao AX (Al (pv 0) rfl) (Ak T.Le) (As _)) (Ae Fo) (Ae (AD (Ao AX (Al (pv 0) rfl) (Ak T.Aae) (As _)) (Ae Fo) (Ae (AD (Ao AX (Al (pv 0) rfl) (Ak T.Fu) (As _)) (Ae Fo) (Ae (AD (Ao AX (Al (pv 0) rfl) (Ak T.VT) (As _)) (Ae Fo) (Ae (AE (AH (pv 0) T.Ah T.BG (Jt T) (hr.mono (by decide)) T.Bo .nil A1 (Aa (Ak T.Le) (Aa (Ak T.Em) Ag))))))))))))),?_⟩
    walk_at "rd"
    obtain ⟨dx,hv,nv,i1,_,_⟩:=I.ins
    refine ⟨_,_,_,i1,T.Ah,T.An,_,AG x m hv nv,rfl,?_⟩
    rw [hp,if_neg (by decide)]
    refine ⟨_,_,_,i1,T.Ah,T.An,_,AG x m hv nv,rfl,?_⟩
    rw [hp,if_neg (by decide)]
    refine ⟨_,_,_,i1,T.Ah,T.An,_,AG x m hv nv,rfl,?_⟩
    rw [hp,if_neg (by decide)]
    refine ⟨_,_,_,i1,T.Ah,T.An,_,AG x m hv nv,rfl,?_⟩
    rw [hp,if_neg (by decide)]
    exact ⟨_,_,i1,rfl,x,m,q,n,1,110,rfl,I,by decide,k⟩
def ArQ (A:Ad):Sp:=fun vs H Q _=>∃ (x:SA) (m:FtM.M) (q n:Nat),vs=[.ref x.s,.int 5,.int (FtTree.padding m.head.size:Nat)]∧SAt A H x m q n∧Left A H x (FtM.Kb m) q n Q
theorem ApU (T:Tx K mg A):AY P w K mg base CX0 3 A.Bq A.DL ["self","phase","wanted"] (ArQ A):=by
  refine T.Dd.ok FT (fun vs H Q E h=>?_) (fun cdv Ar outer s H vs Q E hr h=>?_)
  · obtain ⟨x,m,q,n,rfl,_⟩:=h
    rfl
  · obtain ⟨x,m,q,n,rfl,I,k⟩:=h
    have hu:=AZ hr
    refine ⟨_,(Ac (Bd (pv 0) (pv 1) rfl)
      (Ac (Bd (pv 0) (BI Ag) rfl)
      (Ac (Bd (pv 0) (pv 2) rfl)
      (Ae (AD (Ao AX (pv 2) Ap (As _)) (Ae (AE (CL (pv 0) T.Ah T.ER (AtK T) (hr.mono (by decide)) T.C9 .nil A1))) A7))))),?_⟩
    walk_at "rd"
    obtain ⟨ph,hph⟩:∃ ph,ph=5:=⟨5,rfl⟩
    obtain ⟨kk,hkk⟩:∃ kk,kk=FtTree.padding m.head.size:=⟨_,rfl⟩
    rw [← hkk]
    rw [show (V.int 5)=V.int (ph:Int) by rw [hph]; rfl]
    obtain ⟨dx,hv,nv,i1,hq,hq2⟩:=I.ins
    refine ⟨_,_,_,i1,T.Ah,T.An,by show 8 < 1000; decide,Nat.zero_le _,fun p hp=>?_⟩
    have hps:p≠x.s:=fun z=>by rw [z,Ab] at hp; cases hp
    rw [A9 hps] at hp
    refine ⟨_,_,_,Aj Ab hps.symm,T.Ah,T.AQ,by show 8 < 1000; decide,_,_,_,Ab,T.Ah,T.BM,by show 8 < 1000; decide,?_⟩
    rw [Jh]
    have ep:Bj "wanted" (.int (kk:Int)) (Bj "part" (.ref p) (Bj "phase" (.int (ph:Int)) (A6 x m hv nv)))=A6 { x with pl:=p } (begun m ph kk) hv nv:=rfl
    rw [ep]
    have k1:Ai [x.s] H (upd H x.s (.ins A.Am dx (Bj "phase" (.int (ph:Int)) (A6 x m hv nv)))):=Ai.put i1 trivial (by simp)
    have k2:=k1.trans (Ai.new (p:=p) (o:=.lst []) (by rw [A9 hps]; exact hp))
    have k3:=k2.trans (Ai.put (o:=.ins A.Am dx (A6 { x with pl:=p } (begun m ph kk) hv nv)) (Aj Ab hps.symm) trivial (by simp))
    obtain ⟨fr,J⟩:=Qo I hq hq2 k3 hp (Aj Ab hps) Ab
    generalize upd (upd (upd H x.s (.ins A.Am dx (Bj "phase" (.int (ph:Int)) (A6 x m hv nv)))) p (.lst [])) x.s (.ins A.Am dx (A6 { x with pl:=p } (begun m ph kk) hv nv))=H3 at fr J
    unfold FtM.Kb at k
    by_cases hz:kk=0
    · rw [if_pos (by omega)]
      rw [← hkk,if_pos hz] at k
      obtain ⟨dx3,hv3,nv3,i3,_,_⟩:=J.ins
      refine ⟨_,_,i3,rfl,{ x with pl:=p },begun m ph kk,q,n,rfl,J,hph,k.fr rfl rfl fr⟩
    · rw [if_neg (by omega)]
      rw [← hkk,if_neg hz] at k
      rw [hph] at J
      exact k _ { x with pl:=p } rfl rfl fr J
theorem SAt.AuA {H H2:Hp} {x:SA} {m:FtM.M} {q n n':Nat} {v:FtTree.World} (I:SAt A H x m q n) (k:Ai x.u.fp H H2) (B:BAt A H2 x.u v n'):SAt A H2 x { m with w:=v } q n'∧L2.Fr x.fp H x.fp H2:=by
  obtain ⟨n1,n2,n3,n4,n5,n6⟩:=JS I.nd
  obtain ⟨nd,⟨dx,hv,nv,i1,h1,h2⟩,pt,hls,bl⟩:=I
  refine ⟨⟨nd,⟨dx,hv,nv,k.at_ _ _ i1 n3,fun z=>?_,fun z=>?_⟩,k.at_ _ _ pt n5,fun c hc=>(hls c hc).imp fun h ⟨dh,e⟩=>⟨dh,k.at_ _ _ e (n6 c hc)⟩,B⟩,El (k.mono (fun b hb=>by simp [SA.fp,hb]))⟩
  · obtain ⟨hh,e1,e2,dh,e3⟩:=h1 z
    exact ⟨hh,e1,e2,dh,k.at_ _ _ e3 (n6 hh e2)⟩
  · obtain ⟨b,e1,e2⟩:=h2 z
    exact ⟨b,e1,k.tup _ _ e2⟩
def Aqg (A:Ad):Sp:=fun vs H Q _=>∃ (x:SA) (m:FtM.M) (q n:Nat),vs=[.ref x.s]∧SAt A H x m q n∧3≤q∧n≤8990∧(m.head.size≠0→FtM.YS m.w m.head m.name∧m.part.length=m.head.size)∧Left A H x (FtM.DF m m.part) q (n + if m.head.size=0 then 0 else 1) Q
theorem WW (T:Tx K mg A):AY P w K mg base CX0 6 A.Bz A.GY ["self"] (Aqg A):=by
  refine T.EJ.ok To (fun vs H Q E h=>?_) (fun cdv Ar outer s H vs Q E hr h=>?_)
  · obtain ⟨x,m,q,n,rfl,_⟩:=h
    rfl
  · obtain ⟨x,m,q,n,rfl,I,hq3,hn,hP,k⟩:=h
    have hu:=AZ hr
    refine ⟨_,(Ac (AD (Ao IW (Al (Al (pv 0) rfl) rfl) Ap (As _)) (Ae (AE (AH (Al (pv 0) rfl) T.AL T.Kh (JW T) (hr.mono (by decide)) T.ED .nil A1 (Aa (Al (pv 0) rfl) (Aa (Al (pv 0) rfl) (Aa (Ju KQ (by rfl) T.Aex (by decide +kernel) (Aa (Al (pv 0) rfl) Ag)) Ag)))))) A7)
      (Ae (AE (AH (pv 0) T.Ah T.BG (ApU T) (hr.mono (by decide)) T.Bo .nil A1 (Aa (Ak T.U8) (Aa (AJ (FQ T) (hr.mono (by decide)) (by rfl) T.GP T.C5.kp T.DI .nil A1 (Aa (Al (Al (pv 0) rfl) rfl) Ag)) Ag)))))),?_⟩
    walk_at "rd"
    obtain ⟨dx,hv,nv,i1,hq,hq2⟩:=I.ins
    obtain ⟨hh,rfl,hhl,dh,hH⟩:=hq (by omega)
    obtain ⟨nb,rfl,hN⟩:=hq2 hq3
    obtain ⟨n1,n2,n3,n4,n5,n6⟩:=JS I.nd
    refine ⟨_,_,_,i1,T.Ah,T.AO,_,DM x m _ _,_,rfl,_,_,_,hH,T.BO,T.BD,_,Fm _,rfl,?_⟩
    unfold FtM.DF at k
    by_cases hz:m.head.size=0
    · rw [if_neg (by rw [hz]; decide)]
      rw [if_pos hz,if_pos hz] at k
      exact ⟨_,_,i1,rfl,_,_,_,i1,T.Ah,T.AO,_,DM x m _ _,_,rfl,_,_,_,hH,T.BO,T.BD,_,Fm _,m.head.size,rfl,x,m,q,n,rfl,I,k⟩
    · rw [if_neg hz,if_neg hz] at k
      have hz' : ¬ (m.head.size:Int)=0:=by omega
      rw [if_pos (by rw [decide_eq_false (by rw [V.int.injEq]; exact hz')]; rfl)]
      obtain ⟨Pd,hl⟩:=hP hz
      obtain ⟨dxb,b1⟩:=I.bld.ins
      refine ⟨_,_,_,i1,T.Ah,T.Bu,_,Gw x m _ _,_,rfl,_,_,b1,rfl,_,_,_,i1,T.Ah,T.AO,_,DM x m _ _,_,_,_,i1,T.Ah,T.CW,_,UX x m _ _,_,_,_,i1,T.Ah,T.AQ,_,FF x m _ _,?_⟩
      refine ⟨_,rfl,_,.inl ⟨SqL.of I.part,fun l hl0=>?_⟩⟩
      have kl:Ai [] H (upd H l (.tup (bv m.part))):=Ai.new hl0
      have I1:=I.BN kl
      refine ⟨x.u,hh,nb,l,m.head,m.name,m.part,m.w,n,rfl,I1.bld,by omega,⟨dh,kl.at_ _ _ hH (by simp)⟩,n6 hh hhl,.inr Pd.fits,fun _=>hl,Pd.link,kl.tup _ _ hN,Ab,fun H2 k2 B=>?_⟩
      obtain ⟨I2,f2⟩:=I1.AuA k2 B
      obtain ⟨dx2,hv2,nv2,j1,jq,jq2⟩:=I2.ins
      obtain ⟨hh2,rfl,hhl2,dh2,hH2⟩:=jq (by omega)
      exact ⟨_,_,j1,rfl,_,_,_,j1,T.Ah,T.AO,_,DM x _ _ _,_,rfl,_,_,_,hH2,T.BO,T.BD,_,Fm _,m.head.size,rfl,x,{ m with w:=FtTree.apply m.w m.head m.name m.part },q,n + 1,rfl,I2,k.fr rfl rfl ((El (kl.mono (by simp))).trans f2)⟩
def Awc (A:Ad):Sp:=fun vs H Q _=>∃ (x:SA) (m:FtM.M) (q n:Nat),vs=[.ref x.s]∧SAt A H x m q n∧m.phase=4∧3≤q∧n≤8990∧(m.head.size≠0→FtM.YS m.w m.head m.name∧m.part.length=m.head.size)∧Left A H x (FtM.DF m m.part) q (n + if m.head.size=0 then 0 else 1) Q
theorem AtJ (T:Tx K mg A):AY P w K mg base CX0 7 A.AR A.CA ["self"] (Awc A):=by
  refine T.BY.ok Ep (fun vs H Q E h=>?_) (fun cdv Ar outer s H vs Q E hr h=>?_)
  · obtain ⟨x,m,q,n,rfl,_⟩:=h
    rfl
  · obtain ⟨x,m,q,n,rfl,I,hp,hq3,hn,hP,k⟩:=h
    have hu:=AZ hr
    refine ⟨_,(Ae (AD (Ao AX (Al (pv 0) rfl) (Ak T.Le) (As _)) (Ae Fo) (Ae (AD (Ao AX (Al (pv 0) rfl) (Ak T.Aae) (As _)) (Ae Fo) (Ae (AD (Ao AX (Al (pv 0) rfl) (Ak T.Fu) (As _)) (Ae Fo) (Ae (AD (Ao AX (Al (pv 0) rfl) (Ak T.VT) (As _)) (Ae (AE (CL (pv 0) T.Ah T.Ki (WW T) (hr.mono (by decide)) T.EE .nil A1))) (Ae (AE (AH (pv 0) T.Ah T.BG (Jt T) (hr.mono (by decide)) T.Bo .nil A1 (Aa (Ak T.Le) (Aa (Ak T.Em) Ag))))))))))))),?_⟩
    walk_at "rd"
    obtain ⟨dx,hv,nv,i1,hqh,hqn⟩:=I.ins
    refine ⟨_,_,_,i1,T.Ah,T.An,_,AG x m hv nv,rfl,?_⟩
    rw [hp,if_neg (by decide)]
    refine ⟨_,_,_,i1,T.Ah,T.An,_,AG x m hv nv,rfl,?_⟩
    rw [hp,if_neg (by decide)]
    refine ⟨_,_,_,i1,T.Ah,T.An,_,AG x m hv nv,rfl,?_⟩
    rw [hp,if_neg (by decide)]
    refine ⟨_,_,_,i1,T.Ah,T.An,_,AG x m hv nv,rfl,?_⟩
    rw [hp,if_pos (by decide)]
    exact ⟨_,_,i1,rfl,x,m,q,n,rfl,I,hq3,hn,hP,k⟩
def ArP (A:Ad):Sp:=fun vs H Q _=>∃ (x:SA) (m:FtM.M) (q n:Nat),vs=[.ref x.s,.int 4,.int (m.head.size:Nat)]∧SAt A H x m q n∧3≤q∧n≤8990∧Left A H x (FtM.Gi m) q n Q
theorem AdA (T:Tx K mg A):AY P w K mg base CX0 8 A.Bq A.DL ["self","phase","wanted"] (ArP A):=by
  refine T.Dd.ok FT (fun vs H Q E h=>?_) (fun cdv Ar outer s H vs Q E hr h=>?_)
  · obtain ⟨x,m,q,n,rfl,_⟩:=h
    rfl
  · obtain ⟨x,m,q,n,rfl,I,hq3,hn,k⟩:=h
    have hu:=AZ hr
    refine ⟨_,(Ac (Bd (pv 0) (pv 1) rfl)
      (Ac (Bd (pv 0) (BI Ag) rfl)
      (Ac (Bd (pv 0) (pv 2) rfl)
      (Ae (AD (Ao AX (pv 2) Ap (As _)) (Ae (AE (CL (pv 0) T.Ah T.ER (AtJ T) (hr.mono (by decide)) T.C9 .nil A1))) A7))))),?_⟩
    walk_at "rd"
    obtain ⟨ph,hph⟩:∃ ph,ph=4:=⟨4,rfl⟩
    obtain ⟨kk,hkk⟩:∃ kk,kk=m.head.size:=⟨_,rfl⟩
    rw [← hkk]
    rw [show (V.int 4)=V.int (ph:Int) by rw [hph]; rfl]
    obtain ⟨dx,hv,nv,i1,hq,hq2⟩:=I.ins
    refine ⟨_,_,_,i1,T.Ah,T.An,by show 8 < 1000; decide,Nat.zero_le _,fun p hp=>?_⟩
    have hps:p≠x.s:=fun z=>by rw [z,Ab] at hp; cases hp
    rw [A9 hps] at hp
    refine ⟨_,_,_,Aj Ab hps.symm,T.Ah,T.AQ,by show 8 < 1000; decide,_,_,_,Ab,T.Ah,T.BM,by show 8 < 1000; decide,?_⟩
    rw [Jh]
    have ep:Bj "wanted" (.int (kk:Int)) (Bj "part" (.ref p) (Bj "phase" (.int (ph:Int)) (A6 x m hv nv)))=A6 { x with pl:=p } (begun m ph kk) hv nv:=rfl
    rw [ep]
    have k1:Ai [x.s] H (upd H x.s (.ins A.Am dx (Bj "phase" (.int (ph:Int)) (A6 x m hv nv)))):=Ai.put i1 trivial (by simp)
    have k2:=k1.trans (Ai.new (p:=p) (o:=.lst []) (by rw [A9 hps]; exact hp))
    have k3:=k2.trans (Ai.put (o:=.ins A.Am dx (A6 { x with pl:=p } (begun m ph kk) hv nv)) (Aj Ab hps.symm) trivial (by simp))
    obtain ⟨fr,J⟩:=Qo I hq hq2 k3 hp (Aj Ab hps) Ab
    generalize upd (upd (upd H x.s (.ins A.Am dx (Bj "phase" (.int (ph:Int)) (A6 x m hv nv)))) p (.lst [])) x.s (.ins A.Am dx (A6 { x with pl:=p } (begun m ph kk) hv nv))=H3 at fr J
    unfold FtM.Gi at k
    by_cases hz:kk=0
    · rw [if_pos (by omega)]
      rw [← hkk,if_pos hz] at k
      obtain ⟨dx3,hv3,nv3,i3,_,_⟩:=J.ins
      have hz2:(begun m ph kk).head.size=0:=by show m.head.size=0; omega
      refine ⟨_,_,i3,rfl,{ x with pl:=p },begun m ph kk,q,n,rfl,J,hph,hq3,hn,fun z=>absurd hz2 z,?_⟩
      rw [if_pos hz2]
      have e:FtM.DF (begun m ph kk) (begun m ph kk).part=FtM.DF m []:=by
        unfold FtM.DF
        rw [if_pos hz2,if_pos (show m.head.size=0 by omega)]
        unfold FtM.Kb
        show (if FtTree.padding m.head.size=0 then _ else _)=_
        split <;> rfl
      rw [e]
      exact k.fr rfl rfl fr
    · rw [if_neg (by omega)]
      rw [← hkk,if_neg hz] at k
      rw [hph] at J
      exact k _ { x with pl:=p } rfl rfl fr J
def Awb (A:Ad):Sp:=fun vs H Q _=>∃ (x:SA) (m:FtM.M) (q n:Nat),vs=[.ref x.s]∧SAt A H x m q n∧m.phase=3∧3≤q∧n≤8990∧Left A H x (FtM.Gi m) q n Q
theorem AtI (T:Tx K mg A):AY P w K mg base CX0 9 A.AR A.CA ["self"] (Awb A):=by
  refine T.BY.ok Ep (fun vs H Q E h=>?_) (fun cdv Ar outer s H vs Q E hr h=>?_)
  · obtain ⟨x,m,q,n,rfl,_⟩:=h
    rfl
  · obtain ⟨x,m,q,n,rfl,I,hp,hq3,hn,k⟩:=h
    have hu:=AZ hr
    refine ⟨_,(Ae (AD (Ao AX (Al (pv 0) rfl) (Ak T.Le) (As _)) (Ae Fo) (Ae (AD (Ao AX (Al (pv 0) rfl) (Ak T.Aae) (As _)) (Ae Fo) (Ae (AD (Ao AX (Al (pv 0) rfl) (Ak T.Fu) (As _)) (Ae (AE (AH (pv 0) T.Ah T.BG (AdA T) (hr.mono (by decide)) T.Bo .nil A1 (Aa (Ak T.VT) (Aa (Al (Al (pv 0) rfl) rfl) Ag))))) (Ae (AD (Ao AX (Al (pv 0) rfl) (Ak T.VT) (As _)) (Ae Fo) (Ae (AE (AH (pv 0) T.Ah T.BG (Jt T) (hr.mono (by decide)) T.Bo .nil A1 (Aa (Ak T.Le) (Aa (Ak T.Em) Ag))))))))))))),?_⟩
    walk_at "rd"
    obtain ⟨dx,hv,nv,i1,hqh,hqn⟩:=I.ins
    refine ⟨_,_,_,i1,T.Ah,T.An,_,AG x m hv nv,rfl,?_⟩
    rw [hp,if_neg (by decide)]
    refine ⟨_,_,_,i1,T.Ah,T.An,_,AG x m hv nv,rfl,?_⟩
    rw [hp,if_neg (by decide)]
    refine ⟨_,_,_,i1,T.Ah,T.An,_,AG x m hv nv,rfl,?_⟩
    rw [hp,if_pos (by decide)]
    obtain ⟨hh,rfl,hhl,dh,hH⟩:=hqh (by omega)
    exact ⟨_,_,i1,rfl,_,_,_,i1,T.Ah,T.AO,_,DM x m _ _,_,rfl,_,_,_,hH,T.BO,T.BD,_,Fm _,x,m,q,n,rfl,I,hq3,hn,k⟩
def ArO (A:Ad):Sp:=fun vs H Q _=>∃ (x:SA) (m:FtM.M) (q n:Nat),vs=[.ref x.s,.int 3,.int (FtTree.padding (110 + m.head.length):Nat)]∧SAt A H x m q n∧3≤q∧n≤8990∧Left A H x (FtM.MK m) q n Q
theorem ApT (T:Tx K mg A):AY P w K mg base CX0 10 A.Bq A.DL ["self","phase","wanted"] (ArO A):=by
  refine T.Dd.ok FT (fun vs H Q E h=>?_) (fun cdv Ar outer s H vs Q E hr h=>?_)
  · obtain ⟨x,m,q,n,rfl,_⟩:=h
    rfl
  · obtain ⟨x,m,q,n,rfl,I,hq3,hn,k⟩:=h
    have hu:=AZ hr
    refine ⟨_,(Ac (Bd (pv 0) (pv 1) rfl)
      (Ac (Bd (pv 0) (BI Ag) rfl)
      (Ac (Bd (pv 0) (pv 2) rfl)
      (Ae (AD (Ao AX (pv 2) Ap (As _)) (Ae (AE (CL (pv 0) T.Ah T.ER (AtI T) (hr.mono (by decide)) T.C9 .nil A1))) A7))))),?_⟩
    walk_at "rd"
    obtain ⟨ph,hph⟩:∃ ph,ph=3:=⟨3,rfl⟩
    obtain ⟨kk,hkk⟩:∃ kk,kk=FtTree.padding (110 + m.head.length):=⟨_,rfl⟩
    rw [← hkk]
    rw [show (V.int 3)=V.int (ph:Int) by rw [hph]; rfl]
    obtain ⟨dx,hv,nv,i1,hq,hq2⟩:=I.ins
    refine ⟨_,_,_,i1,T.Ah,T.An,by show 8 < 1000; decide,Nat.zero_le _,fun p hp=>?_⟩
    have hps:p≠x.s:=fun z=>by rw [z,Ab] at hp; cases hp
    rw [A9 hps] at hp
    refine ⟨_,_,_,Aj Ab hps.symm,T.Ah,T.AQ,by show 8 < 1000; decide,_,_,_,Ab,T.Ah,T.BM,by show 8 < 1000; decide,?_⟩
    rw [Jh]
    have ep:Bj "wanted" (.int (kk:Int)) (Bj "part" (.ref p) (Bj "phase" (.int (ph:Int)) (A6 x m hv nv)))=A6 { x with pl:=p } (begun m ph kk) hv nv:=rfl
    rw [ep]
    have k1:Ai [x.s] H (upd H x.s (.ins A.Am dx (Bj "phase" (.int (ph:Int)) (A6 x m hv nv)))):=Ai.put i1 trivial (by simp)
    have k2:=k1.trans (Ai.new (p:=p) (o:=.lst []) (by rw [A9 hps]; exact hp))
    have k3:=k2.trans (Ai.put (o:=.ins A.Am dx (A6 { x with pl:=p } (begun m ph kk) hv nv)) (Aj Ab hps.symm) trivial (by simp))
    obtain ⟨fr,J⟩:=Qo I hq hq2 k3 hp (Aj Ab hps) Ab
    generalize upd (upd (upd H x.s (.ins A.Am dx (Bj "phase" (.int (ph:Int)) (A6 x m hv nv)))) p (.lst [])) x.s (.ins A.Am dx (A6 { x with pl:=p } (begun m ph kk) hv nv))=H3 at fr J
    unfold FtM.MK at k
    by_cases hz:kk=0
    · rw [if_pos (by omega)]
      rw [← hkk,if_pos hz] at k
      obtain ⟨dx3,hv3,nv3,i3,_,_⟩:=J.ins
      refine ⟨_,_,i3,rfl,{ x with pl:=p },begun m ph kk,q,n,rfl,J,hph,hq3,hn,?_⟩
      have e:FtM.Gi (begun m ph kk)=FtM.Gi m:=by
        unfold FtM.Gi
        show (if m.head.size=0 then _ else _)=_
        split
        · rename_i hs
          unfold FtM.DF
          rw [if_pos (show (begun m ph kk).head.size=0 from hs),if_pos hs]
          unfold FtM.Kb
          show (if FtTree.padding m.head.size=0 then _ else _)=_
          split <;> rfl
        · rfl
      rw [e]
      exact k.fr rfl rfl fr
    · rw [if_neg (by omega)]
      rw [← hkk,if_neg hz] at k
      rw [hph] at J
      exact k _ { x with pl:=p } rfl rfl fr J
end
section
variable {P:Program} {w:World} {K:PySem.W.Frag} {mg:Str→Option Value} {base:Heap} {A:Ad}
theorem SAt.weak {H:Hp} {x:SA} {m:FtM.M} {q q' n n':Nat} (I:SAt A H x m q n) (h:q'≤q) (h2:n≤n'):SAt A H x m q' n':=by
  obtain ⟨nd,⟨dx,hv,nv,i1,e1,e2⟩,pt,hls,bl⟩:=I
  exact ⟨nd,⟨dx,hv,nv,i1,fun z=>e1 (by omega),fun z=>e2 (by omega)⟩,pt,hls,bl.mono h2⟩
theorem SAt.store {H:Hp} {x:SA} {m m':FtM.M} {q q' n:Nat} {dx:Addr} {fs:List (Str × V)} {hv' nv':V} (I:SAt A H x m q n) (e:H x.s=some (.ins A.Am dx fs)) (hp:m'.part=m.part) (hw:m'.w=m.w)
    (hq:2≤q'→∃ hh,hv'=.ref hh∧hh ∈ x.hl∧Ei A H hh m'.head) (hq2:3≤q'→∃ b,nv'=.ref b∧H b=some (.tup (bv m'.name))) :
    SAt A (upd H x.s (.ins A.Am dx (A6 x m' hv' nv'))) x m' q' n∧Ai x.fp H (upd H x.s (.ins A.Am dx (A6 x m' hv' nv'))):=by
  have k:Ai [x.s] H (upd H x.s (.ins A.Am dx (A6 x m' hv' nv'))):=Ai.put e trivial (by simp)
  obtain ⟨n1,n2,n3,n4,n5,n6⟩:=JS I.nd
  refine ⟨⟨I.nd,⟨dx,hv',nv',Ab,fun z=>?_,fun z=>?_⟩,by rw [hp]; exact Aj I.part (Ne.symm n1),fun c hc=>(I.hls c hc).imp fun h ⟨dh,e⟩=>⟨dh,k.at_ _ _ e (by simp; exact fun z=>n2 (z ▸ hc))⟩,?_⟩,k.mono (by simp [SA.fp])⟩
  · obtain ⟨hh,e1,e2,dh,e3⟩:=hq z
    exact ⟨hh,e1,e2,dh,k.at_ _ _ e3 (by simp; exact fun y=>n2 (y ▸ e2))⟩
  · obtain ⟨b,e1,e2⟩:=hq2 z
    exact ⟨b,e1,k.tup _ _ e2⟩
  · rw [hw]; exact I.bld.keep k (fun b hb z=>n3 (by rw [List.mem_singleton] at z; rw [← z]; exact hb))
theorem SAt.Axe {H:Hp} {x:SA} {m:FtM.M} {q n:Nat} {hh:Addr} {h:FtTree.Head} (I:SAt A H x m q n) (hn:hh ∉ x.fp) (hH:Ei A H hh h):SAt A H { x with hl:=[hh] } m 1 n:=by
  obtain ⟨nd,⟨dx,hv,nv,i1,e1,e2⟩,pt,hls,bl⟩:=I
  refine ⟨?_,⟨dx,hv,nv,i1,fun z=>by omega,fun z=>by omega⟩,pt,fun c hc=>?_,bl⟩
  · simp only [SA.fp,List.nodup_cons,List.mem_cons,List.mem_append,not_or,List.nodup_append] at nd hn ⊢
    obtain ⟨⟨a1,a2,a3⟩,⟨a4,a5⟩,a6,a7,a8⟩:=nd
    obtain ⟨b1,b2,b3,b4⟩:=hn
    exact ⟨⟨a1,⟨Ne.symm b1,by simp⟩,a3⟩,⟨⟨Ne.symm b2,by simp⟩,a5⟩,⟨by simp,by simp⟩,a7,fun y hy z hz=>by
      simp at hy
      rw [hy]
      exact fun q=>b4 (q ▸ hz)⟩
  · simp at hc
    rw [hc]; exact ⟨h,hH⟩
def Aqh (A:Ad) (K:PySem.W.Frag):Sp:=fun vs H Q _=>∃ (x:SA) (m:FtM.M) (q n:Nat),vs=[.ref x.s]∧SAt A H x m q n∧m.phase=1∧m.part.length=110∧Ql m.part∧Left A H x (FtM.IY m) 2 n Q
theorem SV (T:Tx K mg A):AY P w K mg base CX0 5 A.B0 A.GZ ["self"] (Aqh A K):=by
  refine T.EK.ok Tp (fun vs H Q E h=>?_) (fun cdv Ar outer s H vs Q E hr h=>?_)
  · obtain ⟨x,m,q,n,rfl,_⟩:=h
    rfl
  · obtain ⟨x,m,q,n,rfl,I,hp,hl,hB,k⟩:=h
    have hu:=AZ hr
    refine ⟨_,(Ac (Bd (pv 0) (AtR T.AvA (AfU T) (hr.mono (by decide)) (by rfl) T.Avf T.NS .nil A1 (Aa (Al (pv 0) rfl) Ag)) rfl)
      (Ae (AD (Lg (AJ (AfZ T) (hr.mono (by decide)) (by rfl) T.Ahf T.Ij.kp T.NX .nil A1 (Aa (Al (pv 0) rfl) Ag))) (Ae (AE (AH (pv 0) T.Ah T.BG (Jt T) (hr.mono (by decide)) T.Bo .nil A1 (Aa (Ak T.Aae) (Aa (Al (Al (pv 0) rfl) rfl) Ag))))) (Ae (Bd (pv 0) (Ak T.Afn) rfl))))),?_⟩
    walk_at "rd"
    obtain ⟨dx,hv,nv,i1,_,_⟩:=I.ins
    refine ⟨_,_,_,i1,T.Ah,T.AQ,_,FF x m _ _,fun hh dy hhn hdn hne=>?_⟩
    have hfree:=I.free hhn
    have k0:Ai [] H (upd (upd H dy (.own hh)) hh (.ins A.Bv dy [])):=(Ai.new hdn).trans (Ai.new (by rw [A9 (Ne.symm hne)]; exact hhn))
    have I0:=I.BN k0
    refine ⟨hh,dy,x.pl,m.part,rfl,Ab,SqL.of I0.part,hl,hB,fun H2 k2 hH=>⟨rfl,?_⟩⟩
    have k02:Ai [] H H2:=by
      refine ⟨fun b o e _=>?_,fun b xs e=>?_⟩
      · have:=Au e hhn
        exact k2.at_ _ _ (k0.at_ _ _ e (by simp)) (by simp [this])
      · exact k2.tup _ _ (k0.tup _ _ e)
    have I2:=(I.BN k02).Axe hfree hH
    have f2:L2.Fr x.fp H ({ x with hl:=[hh] }:SA).fp H2:=⟨k02.mono (by simp),fun b hb=>by
      simp only [SA.fp,List.mem_cons,List.mem_append,List.not_mem_nil,or_false] at hb ⊢
      rcases hb with hb | hb | hb | hb
      · exact .inl (.inl hb)
      · exact .inl (.inr (.inl hb))
      · exact .inr (by rw [hb]; exact hhn)
      · exact .inl (.inr (.inr (.inr hb)))⟩
    have s2:H2 x.s=some (.ins A.Am dx (A6 x m hv nv)):=k02.at_ _ _ i1 (by simp)
    refine ⟨_,_,_,s2,T.Ah,T.AO,by show 8 < 1000; decide,?_⟩
    have ep:Bj "head" (.ref hh) (A6 x m hv nv)=A6 { x with hl:=[hh] } { m with head:=FtTree.headOf m.part } (.ref hh) nv:=rfl
    rw [ep]
    obtain ⟨I3,k3⟩:=I2.store (m':={ m with head:=FtTree.headOf m.part }) (q':=2) (hv':=.ref hh) (nv':=nv) s2 rfl rfl (fun _=>⟨hh,rfl,by simp,hH⟩) (fun z=>by omega)
    have f3:=f2.trans (El k3)
    have hH3:Ei A (upd H2 x.s (.ins A.Am dx (A6 { x with hl:=[hh] } { m with head:=FtTree.headOf m.part } (.ref hh) nv))) hh (FtTree.headOf m.part):=by
      obtain ⟨dh,e⟩:=hH
      exact ⟨dh,Aj e (fun z=>hfree (by rw [z]; simp [SA.fp]))⟩
    have s3:upd H2 x.s (.ins A.Am dx (A6 { x with hl:=[hh] } { m with head:=FtTree.headOf m.part } (.ref hh) nv)) x.s=some (.ins A.Am dx (A6 { x with hl:=[hh] } { m with head:=FtTree.headOf m.part } (.ref hh) nv)):=Ab
    generalize upd H2 x.s (.ins A.Am dx (A6 { x with hl:=[hh] } { m with head:=FtTree.headOf m.part } (.ref hh) nv))=H3 at I3 k3 f3 hH3 s3
    refine ⟨_,_,_,s3,T.Ah,T.AO,_,DM { x with hl:=[hh] } _ _ _,hh,_,rfl,hH3,_,rfl,?_⟩
    unfold FtM.IY at k
    cases hok:(FtTree.headOf m.part).ok with
    | true =>
      rw [hok,if_pos rfl] at k
      rw [if_pos rfl]
      obtain ⟨dh,e⟩:=hH3
      have:=FtM.LB hok
      exact ⟨_,_,s3,rfl,_,_,_,s3,T.Ah,T.AO,_,DM { x with hl:=[hh] } _ _ _,_,rfl,_,_,_,e,T.BO,T.D8,_,Mq _,{ x with hl:=[hh] },{ m with head:=FtTree.headOf m.part },2,n,2,(FtTree.headOf m.part).length,rfl,I3,by omega,k.fr rfl rfl f3⟩
    | false =>
      rw [hok,if_neg (by decide)] at k
      rw [if_neg (by decide)]
      refine ⟨_,_,_,s3,T.Ah,T.BH,by show 8 < 1000; decide,?_⟩
      have ep2:Bj "code" (.int 2) (A6 { x with hl:=[hh] } { m with head:=FtTree.headOf m.part } (.ref hh) nv)=A6 { x with hl:=[hh] } { m with head:=FtTree.headOf m.part,code:=2 } (.ref hh) nv:=rfl
      rw [ep2]
      obtain ⟨I4,k4⟩:=I3.store (m':={ m with head:=FtTree.headOf m.part,code:=2 }) (q':=2) (hv':=.ref hh) (nv':=nv) s3 rfl rfl (fun _=>⟨hh,rfl,by simp,hH3⟩) (fun z=>by omega)
      exact k _ { x with hl:=[hh] } rfl rfl (f3.trans (El k4)) I4
def AgG (A:Ad) (K:PySem.W.Frag):Sp:=fun vs H Q _=>∃ (x:SA) (m:FtM.M) (q n:Nat),vs=[.ref x.s]∧SAt A H x m q n∧3≤q∧m.part≠[]∧m.name=m.part.dropLast∧m.head.ok=true∧∀ H',Ai [] H H'→Q (.int (FtM.Bl m:Nat)) H'
theorem P2 (T:Tx K mg A):AY P w K mg base CX0 5 A.Bh A.F6 ["self"] (AgG A K):=by
  refine T.DD.ok PL (fun vs H Q E h=>?_) (fun cdv Ar outer s H vs Q E hr h=>?_)
  · obtain ⟨x,m,q,n,rfl,_⟩:=h
    rfl
  · obtain ⟨x,m,q,n,rfl,I,hq3,hpt,hnm,hok,k⟩:=h
    have hu:=AZ hr
    refine ⟨_,(Ac (AD (Ao IW (Ng Kr (Al (pv 0) rfl) (Abm T7 Ap) (fun _ _=>rfl)) Ap (As _)) (Ae (Av (Ak T.UJ))) A7)
      (Ae (Av (AH (Al (pv 0) rfl) T.AL T.Ob (NG T) (hr.mono (by decide)) T.EU .nil A1 (Aa (Al (pv 0) rfl) (Aa (Al (pv 0) rfl) Ag)))))),?_⟩
    walk_at "rd"
    obtain ⟨dx,hv,nv,i1,hq,hq2⟩:=I.ins
    obtain ⟨hh,rfl,hhl,dh,hH⟩:=hq (by omega)
    obtain ⟨nb,rfl,hN⟩:=hq2 hq3
    obtain ⟨dxb,b1⟩:=I.bld.ins
    obtain ⟨r,c,hrc⟩:∃ (r:B8) (c:UInt8),m.part=r++[c]:=⟨m.part.dropLast,m.part.getLast hpt,(List.dropLast_concat_getLast hpt).symm⟩
    have k':∀ (d:Nat) H',Ai [] H H'→d=FtM.Bl m→Q (.int d) H':=fun d H' hk e=>e ▸ k H' hk
    refine ⟨_,_,_,i1,T.Ah,T.AQ,_,FF x m _ _,_,rfl,_,SqL.of I.part,.int (c.toNat:Int),?_,rfl,?_⟩
    · rw [hrc]
      unfold bv
      rw [List.map_append]
      exact AqF _ _
    have hnok:FtTree.nameOK m.head m.part=(decide (c=0) && nameFits m.head m.name):=by
      unfold FtTree.nameOK nameFits
      rw [hnm,hrc]
      simp only [List.getLast?_append,List.getLast?_singleton,Option.some_or,List.dropLast_concat]
      congr 1
    have hcode:FtM.Bl m=if c≠0 then 3 else Bl m.w m.head m.name:=by
      unfold FtM.Bl Bl
      rw [hnok,← hnm]
      by_cases hc:c=0
      · have e:(decide (c=0) && nameFits m.head m.name)=nameFits m.head m.name:=by simp [hc]
        rw [e,if_neg (show ¬ c≠0 from fun q=>q hc)]
        by_cases hf:nameFits m.head m.name=false
        · rw [if_pos hf,if_pos hf]
        · rw [if_neg hf,if_neg hf]
          by_cases ht:m.name=FtTree.TRAILER
          · rw [if_pos ht,if_pos (.inl ht)]
          · rw [if_neg ht]
            by_cases hd:m.name=FtTree.DOT
            · rw [if_pos (.inr hd)]
              unfold FtTree.judge
              rw [if_pos hd]
            · rw [if_neg (fun q=>q.elim ht hd)]
      · have e:(decide (c=0) && nameFits m.head m.name)=false:=by simp [hc]
        rw [e,if_pos rfl,if_pos hc]
    by_cases hc:c=0
    · rw [if_neg (by rw [hc]; decide)]
      rw [hcode,if_neg (by simp [hc])] at k
      exact ⟨_,_,_,i1,T.Ah,T.Bu,_,Gw x m _ _,_,rfl,_,_,b1,rfl,_,_,_,i1,T.Ah,T.AO,_,DM x m _ _,_,_,_,i1,T.Ah,T.CW,_,UX x m _ _,x.u,hh,nb,m.head,m.name,m.w,n,rfl,I.bld,⟨dh,hH⟩,hok,hN,k⟩
    · have hcI : ¬ (c.toNat:Int)=0:=fun q=>hc (toNat_inj (b:=0) q)
      rw [if_pos (by rw [decide_eq_false (by rw [V.int.injEq]; exact hcI)]; rfl)]
      exact k' 3 _ Ai.refl (by rw [hcode,if_pos hc])
theorem SAt.Axx {H H':Hp} {x:SA} {m:FtM.M} {q n:Nat} {u':BA} {v:FtTree.World} (I:SAt A H x m q n) (hb:u'.b=x.u.b) (f:L2.Fr x.u.fp H u'.fp H') (B:BAt A H' u' v n):SAt A H' { x with u:=u' } { m with w:=v } q n∧L2.Fr x.fp H ({ x with u:=u' }:SA).fp H':=by
  obtain ⟨n1,n2,n3,n4,n5,n6⟩:=JS I.nd
  have nd0:=I.nd
  obtain ⟨nd,⟨dx,hv,nv,i1,h1,h2⟩,pt,hls,bl⟩:=I
  have out:∀ b o,H b=some o→b ∉ x.u.fp→b ∉ u'.fp:=fun b o e hn hm=>by
    rcases f.sub b hm with z | z
    · exact hn z
    · rw [z] at e; cases e
  have es:A6 { x with u:=u' } { m with w:=v } hv nv=A6 x m hv nv:=by
    unfold A6
    dsimp only
    rw [hb]
  refine ⟨⟨?_,⟨dx,hv,nv,by rw [es]; exact f.keep.at_ _ _ i1 n3,fun z=>?_,fun z=>?_⟩,f.keep.at_ _ _ pt n5,fun c hc=>(hls c hc).imp fun h ⟨dh,e⟩=>⟨dh,f.keep.at_ _ _ e (n6 c hc)⟩,B⟩,⟨f.keep.mono (fun b hb=>by simp [SA.fp,hb]),fun b hb'=>?_⟩⟩
  · simp only [SA.fp,List.nodup_cons,List.mem_cons,List.mem_append,not_or,List.nodup_append] at nd0 ⊢
    obtain ⟨⟨a1,a2,a3⟩,⟨a4,a5⟩,a6,a7,a8⟩:=nd0
    refine ⟨⟨a1,a2,out _ _ i1 n3⟩,⟨a4,out _ _ pt n5⟩,a6,B.nd,fun y hy z hz q=>?_⟩
    obtain ⟨h,dh,e⟩:=hls y hy
    exact out _ _ e (n6 y hy) (q ▸ hz)
  · obtain ⟨hh,e1,e2,dh,e3⟩:=h1 z
    exact ⟨hh,e1,e2,dh,f.keep.at_ _ _ e3 (n6 hh e2)⟩
  · obtain ⟨b,e1,e2⟩:=h2 z
    exact ⟨b,e1,f.keep.tup _ _ e2⟩
  · simp only [SA.fp,List.mem_cons,List.mem_append] at hb' ⊢
    rcases hb' with z | z | z | z
    · exact .inl (.inl z)
    · exact .inl (.inr (.inl z))
    · exact .inl (.inr (.inr (.inl z)))
    · rcases f.sub b z with y | y
      · exact .inl (.inr (.inr (.inr y)))
      · exact .inr y
theorem AqM (p:B8):RQ (bv p) none (some (-1))=bv p.dropLast:=by
  unfold RQ
  rw [HT.Aj1,List.drop_zero]
  have e:HT.sIx (bv p).length (bv p).length (some (-1))=p.length - 1:=by
    unfold HT.sIx
    dsimp only
    rw [if_pos (by decide),Az]; omega
  rw [e]
  unfold bv
  rw [List.dropLast_eq_take,List.map_take]
  congr 1
def Aqi (A:Ad) (K:PySem.W.Frag):Sp:=fun vs H Q _=>∃ (x:SA) (m:FtM.M) (q n:Nat),vs=[.ref x.s]∧SAt A H x m q n∧2≤q∧n≤8980∧m.code=0∧m.part≠[]∧m.part.length≤600∧m.head.ok=true∧Left A H x (FtM.endName m) 3 (n + 1) Q
theorem SW (T:Tx K mg A):AY P w K mg base CX0 11 A.B1 A.Ha ["self"] (Aqi A K):=by
  refine T.EL.ok Tq (fun vs H Q E h=>?_) (fun cdv Ar outer s H vs Q E hr h=>?_)
  · obtain ⟨x,m,q,n,rfl,_⟩:=h
    rfl
  · obtain ⟨x,m,q,n,rfl,I,hq2,hn,h0,hpt,hpl,hok,k⟩:=h
    have hu:=AZ hr
    refine ⟨_,(Ac (Bd (pv 0) (Ju KQ (by rfl) T.Aex (by decide +kernel) (Aa (LD YJ (Al (pv 0) rfl) Aoo (Ie (Abm T7 Ap))) Ag)) rfl)
      (Ac (Bd (pv 0) (CL (pv 0) T.Ah T.Q3 (P2 T) (hr.mono (by decide)) T.F2 .nil A1) rfl)
      (Ac (AD (Ao IW (Al (pv 0) rfl) Ap (As _)) (Ae Qu) A7)
      (Ac (AD (Ao (Wn (by exact hr.units)) (Al (pv 0) rfl) (Hm T.Qw) (As _)) (Ac (AE (CL (Al (pv 0) rfl) T.AL T.Nh (Mz T) (hr.mono (by decide)) T.E9 .nil A1))
      (Ac (AE (AH (pv 0) T.Ah T.BG (Jt T) (hr.mono (by decide)) T.Bo .nil A1 (Aa (Ak T.Ad2) (Aa (Ak T.Em) Ag))))
      (Ae Qu))) A7)
      (Ac (AD (Ao AX (Al (Al (pv 0) rfl) rfl) Ap (As _)) (Ae (AE (AH (Al (pv 0) rfl) T.AL T.Kh (JW T) (hr.mono (by decide)) T.ED .nil A1 (Aa (Al (pv 0) rfl) (Aa (Al (pv 0) rfl) (Aa (HL Ag) Ag)))))) A7)
      (Ae (AE (AH (pv 0) T.Ah T.BG (ApT T) (hr.mono (by decide)) T.Bo .nil A1 (Aa (Ak T.Fu) (Aa (AJ (FQ T) (hr.mono (by decide)) (by rfl) T.GP T.C5.kp T.DI .nil A1 (Aa (CY Ge (Ak T.Em) (Al (Al (pv 0) rfl) rfl)) Ag)) Ag)))))))))),?_⟩
    walk_at "rd"
    obtain ⟨dx,hv,nv,i1,hq,_⟩:=I.ins
    obtain ⟨hh,rfl,hhl,dh,hH⟩:=hq hq2
    refine ⟨_,_,_,i1,T.Ah,T.AQ,_,FF x m _ _,_,rfl,_,SqL.of I.part,fun p1 hp1=>?_⟩
    rw [AqM]
    refine ⟨_,.inl ⟨SqL.of Ab,fun l hl=>?_⟩⟩
    have k2:Ai [] H (upd (upd H p1 (.lst (bv m.part.dropLast))) l (.tup (bv m.part.dropLast))):=(Ai.new hp1).trans (Ai.new hl)
    have I2:=I.BN k2
    have s2:=k2.at_ _ _ i1 (by simp)
    have hN2:upd (upd H p1 (.lst (bv m.part.dropLast))) l (.tup (bv m.part.dropLast)) l=some (.tup (bv m.part.dropLast)):=Ab
    generalize upd (upd H p1 (.lst (bv m.part.dropLast))) l (.tup (bv m.part.dropLast))=H2 at k2 I2 s2 hN2
    refine ⟨_,_,_,s2,T.Ah,T.CW,by show 8 < 1000; decide,?_⟩
    have ep:Bj "name" (.ref l) (A6 x m (.ref hh) nv)=A6 x { m with name:=m.part.dropLast } (.ref hh) (.ref l):=rfl
    rw [ep]
    obtain ⟨I3,k3⟩:=I2.store (m':={ m with name:=m.part.dropLast }) (q':=3) (hv':=.ref hh) (nv':=.ref l) s2 rfl rfl (fun _=>⟨hh,rfl,hhl,dh,k2.at_ _ _ hH (by simp)⟩) (fun _=>⟨l,rfl,hN2⟩)
    have f3:L2.Fr x.fp H x.fp _:=(El (k2.mono (by simp))).trans (El k3)
    generalize upd H2 x.s (.ins A.Am dx (A6 x { m with name:=m.part.dropLast } (.ref hh) (.ref l)))=H3 at I3 k3 f3
    obtain ⟨dx3,hv3,nv3,s3,_,_⟩:=I3.ins
    refine ⟨_,_,s3,rfl,x,{ m with name:=m.part.dropLast },3,n,rfl,I3,Nat.le_refl _,hpt,rfl,hok,fun H4 k4=>?_⟩
    have I4:=I3.BN k4
    have f4:=f3.trans (El (F:=x.fp) (k4.mono (by simp)))
    obtain ⟨dx4,hv4,nv4,s4,g4,g4n⟩:=I4.ins
    refine ⟨_,_,_,s4,T.Ah,T.BH,by show 8 < 1000; decide,?_⟩
    have ec:FtM.Bl { m with name:=m.part.dropLast }=FtM.Bl m:=rfl
    rw [ec]
    have ep4:Bj "code" (.int (FtM.Bl m:Nat)) (A6 x { m with name:=m.part.dropLast } hv4 nv4)=A6 x { m with name:=m.part.dropLast,code:=FtM.Bl m } hv4 nv4:=rfl
    rw [ep4]
    obtain ⟨I5,k5⟩:=I4.store (m':={ m with name:=m.part.dropLast,code:=FtM.Bl m }) (q':=3) (hv':=hv4) (nv':=nv4) s4 rfl rfl g4 g4n
    have f5:=f4.trans (El k5)
    generalize upd H4 x.s (.ins A.Am dx4 (A6 x { m with name:=m.part.dropLast,code:=FtM.Bl m } hv4 nv4))=H5 at I5 k5 f5
    obtain ⟨dx5,hv5,nv5,s5,g5,g5n⟩:=I5.ins
    refine ⟨_,_,_,s5,T.Ah,T.BH,_,Pk x _ _ _,rfl,?_⟩
    unfold FtM.endName at k
    by_cases hc:FtM.Bl m=0
    · rw [if_neg (by simp [hc])] at k
      rw [if_neg (by simp [hc])]
      have em:({ m with name:=m.part.dropLast,code:=FtM.Bl m }:FtM.M)={ m with name:=m.part.dropLast }:=by rw [hc,← h0]
      rw [em] at I5 s5 g5 g5n
      obtain ⟨hh5,rfl,hhl5,dh5,hH5⟩:=g5 (by decide)
      obtain ⟨nb,rfl,hN5⟩:=g5n (Nat.le_refl _)
      obtain ⟨dxb,b5⟩:=I5.bld.ins
      obtain ⟨n1,n2,n3,n4,n5,n6⟩:=JS I5.nd
      unfold FtM.Iw at k
      refine ⟨_,_,_,s5,T.Ah,T.CW,_,UX x _ _ _,U2 (q:=FtTree.TRAILER) (SqT.of hN5) (by rw [FtP.K7]; exact T.ML H5) ⟨_,rfl,?_⟩⟩
      by_cases ht:m.part.dropLast=FtTree.TRAILER
      · rw [if_pos (decide_eq_true ht)]
        rw [if_pos ht] at k
        refine ⟨_,_,_,s5,T.Ah,T.Bu,_,Gw x _ _ _,_,rfl,_,_,b5,rfl,x.u,m.w,n,rfl,I5.bld,fun H6 u' hu' f6 B6=>?_⟩
        obtain ⟨I6,f6'⟩:=I5.Axx hu' f6 B6
        obtain ⟨dx6,hv6,nv6,s6,_,_⟩:=I6.ins
        refine ⟨_,_,s6,rfl,{ x with u:=u' },{ m with name:=m.part.dropLast,w:={ m.w with keys:=[] } },3,n,0,110,rfl,I6,by decide,?_⟩
        intro H' x' a1 a2 g J
        exact k H' x' a1 (a2.trans hu') ((f5.trans f6').trans g) (J.weak (Nat.le_refl _) (by omega))
      · rw [if_neg (by simp [ht])]
        rw [if_neg ht] at k
        have hnok:FtTree.nameOK m.head m.part=true:=by
          unfold FtM.Bl at hc
          split at hc
          · cases hc
          · rename_i q; simpa using q
        have hj:FtTree.judge m.w m.head m.part.dropLast=0:=by
          unfold FtM.Bl at hc
          rw [if_neg (by simp [hnok]),if_neg ht] at hc
          exact hc
        obtain ⟨_,q2,q3,q4⟩:=FtM.Mr hnok ht
        refine ⟨_,_,_,s5,T.Ah,T.AO,_,DM x _ _ _,_,rfl,_,_,_,hH5,T.BO,T.BD,_,Fm _,rfl,?_⟩
        by_cases hz:m.head.size=0
        · rw [if_pos (show V.int (m.head.size:Int)=V.int 0 by rw [hz]; rfl)]
          rw [if_pos hz] at k
          refine ⟨_,_,_,s5,T.Ah,T.Bu,_,Gw x _ _ _,_,rfl,_,_,b5,rfl,_,_,_,s5,T.Ah,T.AO,_,DM x _ _ _,_,_,_,s5,T.Ah,T.CW,_,UX x _ _ _,Nat.zero_le _,fun e he=>?_⟩
          have ke:Ai [] H5 (upd H5 e (.tup [])):=Ai.new he
          have I6:=I5.BN ke
          have hF:(m.part.dropLast=FtTree.DOT∧m.head.kind=4)∨FtW.Fits m.w m.head m.part.dropLast:=by
            by_cases hd:m.part.dropLast=FtTree.DOT
            · refine .inl ⟨hd,?_⟩
              rcases q4 with z | z
              · rw [hd] at z
                exact absurd z (by decide)
              · exact z.2
            · exact .inr (FtM.fits_of hok hnok ht hd hj)
          refine ⟨x.u,hh5,nb,e,m.head,m.part.dropLast,[],m.w,n,rfl,I6.bld,by omega,⟨dh5,ke.at_ _ _ hH5 (by simp)⟩,n6 hh5 hhl5,hF,fun _=>by rw [hz]; rfl,fun z=>absurd hz (q3 z),ke.tup _ _ hN5,Ab,fun H7 k7 B7=>?_⟩
          obtain ⟨I7,f7⟩:=I6.AuA k7 B7
          obtain ⟨dx7,hv7,nv7,s7,g7,g7n⟩:=I7.ins
          obtain ⟨hh7,rfl,hhl7,dh7,hH7⟩:=g7 (by decide)
          refine ⟨_,_,s7,rfl,_,_,_,s7,T.Ah,T.AO,_,DM x _ _ _,_,rfl,_,_,_,hH7,T.BO,T.D8,_,Mq _,_,rfl,110 + m.head.length,by rw [Int.natCast_add]; rfl,x,{ m with name:=m.part.dropLast,w:=FtTree.apply m.w m.head m.part.dropLast [] },3,n + 1,rfl,I7,Nat.le_refl _,by omega,k.fr rfl rfl ((f5.trans (El (ke.mono (by simp)))).trans f7)⟩
        · have hzI : ¬ (m.head.size:Int)=0:=by omega
          rw [if_neg (show ¬ V.int (m.head.size:Int)=V.int 0 by rw [V.int.injEq]; exact hzI)]
          rw [if_neg hz] at k
          refine ⟨_,_,s5,rfl,_,_,_,s5,T.Ah,T.AO,_,DM x _ _ _,_,rfl,_,_,_,hH5,T.BO,T.D8,_,Mq _,_,rfl,110 + m.head.length,by rw [Int.natCast_add]; rfl,x,{ m with name:=m.part.dropLast },3,n,rfl,I5,Nat.le_refl _,by omega,?_⟩
          intro H' x' a1 a2 g J
          exact k H' x' a1 a2 (f5.trans g) (J.weak (Nat.le_refl _) (by omega))
    · rw [if_pos hc] at k
      have hcI : ¬ (FtM.Bl m:Int)=0:=by omega
      rw [if_pos (by rw [decide_eq_false (by rw [V.int.injEq]; exact hcI)]; rfl)]
      exact k _ x rfl rfl f5 (I5.weak (Nat.le_refl _) (by omega))
end
section
variable {P:Program} {w:World} {K:PySem.W.Frag} {mg:Str→Option Value} {base:Heap} {A:Ad}
def AnK (m:FtM.M) (q:Nat):Prop:=(m.phase=1∧m.part.length=110∧Ql m.part)∨(m.phase=2∧2≤q∧m.code=0∧m.part≠[]∧m.part.length≤600∧m.head.ok=true)∨(m.phase=3∧3≤q)∨(m.phase=4∧3≤q∧FtM.YS m.w m.head m.name∧m.part.length=m.head.size)∨(m.phase=5∧3≤q)
def Aqj (A:Ad) (K:PySem.W.Frag):Sp:=fun vs H Q _=>∃ (x:SA) (m:FtM.M) (q n:Nat),vs=[.ref x.s]∧SAt A H x m q n∧n≤8980∧AnK m q∧Left A H x (FtM.Ca m) (if m.phase=1 then 2 else 3) (n + 1) Q
theorem Aji (T:Tx K mg A):AY P w K mg base CX0 12 A.AR A.CA ["self"] (Aqj A K):=by
  refine T.BY.ok Ep (fun vs H Q E h=>?_) (fun cdv Ar outer s H vs Q E hr h=>?_)
  · obtain ⟨x,m,q,n,rfl,_⟩:=h
    rfl
  · obtain ⟨x,m,q,n,rfl,I,hn,hc,k⟩:=h
    have hu:=AZ hr
    refine ⟨_,(Ae (AD (Ao AX (Al (pv 0) rfl) (Ak T.Le) (As _)) (Ae (AE (CL (pv 0) T.Ah T.TF (SV T) (hr.mono (by decide)) T.GF .nil A1))) (Ae (AD (Ao AX (Al (pv 0) rfl) (Ak T.Aae) (As _)) (Ae (AE (CL (pv 0) T.Ah T.TH (SW T) (hr.mono (by decide)) T.GG .nil A1))) (Ae (AD (Ao AX (Al (pv 0) rfl) (Ak T.Fu) (As _)) (Ae (AE (AH (pv 0) T.Ah T.BG (AdA T) (hr.mono (by decide)) T.Bo .nil A1 (Aa (Ak T.VT) (Aa (Al (Al (pv 0) rfl) rfl) Ag))))) (Ae (AD (Ao AX (Al (pv 0) rfl) (Ak T.VT) (As _)) (Ae (AE (CL (pv 0) T.Ah T.Ki (WW T) (hr.mono (by decide)) T.EE .nil A1))) (Ae (AE (AH (pv 0) T.Ah T.BG (Jt T) (hr.mono (by decide)) T.Bo .nil A1 (Aa (Ak T.Le) (Aa (Ak T.Em) Ag))))))))))))),?_⟩
    walk_at "rd"
    obtain ⟨dx,hv,nv,i1,hqh,hqn⟩:=I.ins
    unfold FtM.Ca at k
    rcases hc with ⟨hp,hl,hB⟩ | ⟨hp,hq2,h0,hpt,hpl,hok⟩ | ⟨hp,hq3⟩ | ⟨hp,hq3,hP⟩ | ⟨hp,hq3⟩
    · rw [hp,if_pos rfl] at k
      refine ⟨_,_,_,i1,T.Ah,T.An,_,AG x m hv nv,rfl,?_⟩
      rw [hp,if_pos (by decide)]
      refine ⟨_,_,i1,rfl,x,m,q,n,rfl,I,hp,hl,hB,?_⟩
      intro H' x' a1 a2 g J
      exact k H' x' a1 a2 g (J.weak (by rw [if_pos rfl]; exact Nat.le_refl _) (by omega))
    · rw [hp,if_neg (by decide),if_pos rfl] at k
      refine ⟨_,_,_,i1,T.Ah,T.An,_,AG x m hv nv,rfl,?_⟩
      rw [hp,if_neg (by decide)]
      refine ⟨_,_,_,i1,T.Ah,T.An,_,AG x m hv nv,rfl,?_⟩
      rw [hp,if_pos (by decide)]
      exact ⟨_,_,i1,rfl,x,m,q,n,rfl,I,hq2,hn,h0,hpt,hpl,hok,k⟩
    · rw [hp,if_neg (by decide),if_neg (by decide),if_pos rfl] at k
      refine ⟨_,_,_,i1,T.Ah,T.An,_,AG x m hv nv,rfl,?_⟩
      rw [hp,if_neg (by decide)]
      refine ⟨_,_,_,i1,T.Ah,T.An,_,AG x m hv nv,rfl,?_⟩
      rw [hp,if_neg (by decide)]
      refine ⟨_,_,_,i1,T.Ah,T.An,_,AG x m hv nv,rfl,?_⟩
      rw [hp,if_pos (by decide)]
      obtain ⟨hh,rfl,hhl,dh,hH⟩:=hqh (by omega)
      refine ⟨_,_,i1,rfl,_,_,_,i1,T.Ah,T.AO,_,DM x m _ _,_,rfl,_,_,_,hH,T.BO,T.BD,_,Fm _,x,m,q,n,rfl,I,hq3,by omega,?_⟩
      intro H' x' a1 a2 g J
      exact k H' x' a1 a2 g (J.weak (by rw [if_neg (by decide)]; exact hq3) (by omega))
    · rw [hp,if_neg (by decide),if_neg (by decide),if_neg (by decide),if_pos rfl] at k
      refine ⟨_,_,_,i1,T.Ah,T.An,_,AG x m hv nv,rfl,?_⟩
      rw [hp,if_neg (by decide)]
      refine ⟨_,_,_,i1,T.Ah,T.An,_,AG x m hv nv,rfl,?_⟩
      rw [hp,if_neg (by decide)]
      refine ⟨_,_,_,i1,T.Ah,T.An,_,AG x m hv nv,rfl,?_⟩
      rw [hp,if_neg (by decide)]
      refine ⟨_,_,_,i1,T.Ah,T.An,_,AG x m hv nv,rfl,?_⟩
      rw [hp,if_pos (by decide)]
      refine ⟨_,_,i1,rfl,x,m,q,n,rfl,I,hq3,by omega,fun _=>hP,?_⟩
      intro H' x' a1 a2 g J
      exact k H' x' a1 a2 g (J.weak (by rw [if_neg (by decide)]; exact hq3) (by split <;> omega))
    · rw [hp,if_neg (by decide),if_neg (by decide),if_neg (by decide),if_neg (by decide)] at k
      refine ⟨_,_,_,i1,T.Ah,T.An,_,AG x m hv nv,rfl,?_⟩
      rw [hp,if_neg (by decide)]
      refine ⟨_,_,_,i1,T.Ah,T.An,_,AG x m hv nv,rfl,?_⟩
      rw [hp,if_neg (by decide)]
      refine ⟨_,_,_,i1,T.Ah,T.An,_,AG x m hv nv,rfl,?_⟩
      rw [hp,if_neg (by decide)]
      refine ⟨_,_,_,i1,T.Ah,T.An,_,AG x m hv nv,rfl,?_⟩
      rw [hp,if_neg (by decide)]
      refine ⟨_,_,i1,rfl,x,m,q,n,1,110,rfl,I,by decide,?_⟩
      intro H' x' a1 a2 g J
      exact k H' x' a1 a2 g (J.weak (by rw [if_neg (by decide)]; exact hq3) (by omega))
theorem SAt.Ahy {H:Hp} {x:SA} {m:FtM.M} {q n:Nat} (I:SAt A H x m q n) (c:UInt8):SAt A (upd H x.pl (.lst (bv m.part++[V.int (c.toNat:Int)]))) x { m with part:=m.part++[c] } q n∧Ai x.fp H (upd H x.pl (.lst (bv m.part++[V.int (c.toNat:Int)]))):=by
  have k:Ai [x.pl] H (upd H x.pl (.lst (bv m.part++[V.int (c.toNat:Int)]))):=Ai.put I.part trivial (by simp)
  obtain ⟨n1,n2,n3,n4,n5,n6⟩:=JS I.nd
  obtain ⟨nd,⟨dx,hv,nv,i1,h1,h2⟩,pt,hls,bl⟩:=I
  refine ⟨⟨nd,⟨dx,hv,nv,Aj i1 n1,fun z=>?_,fun z=>?_⟩,?_,fun c hc=>(hls c hc).imp fun h ⟨dh,e⟩=>⟨dh,k.at_ _ _ e (by simp; exact fun z=>n4 (z ▸ hc))⟩,bl.keep k (fun b hb z=>n5 (by rw [List.mem_singleton] at z; rw [← z]; exact hb))⟩,k.mono (by simp [SA.fp])⟩
  · obtain ⟨hh,e1,e2,dh,e3⟩:=h1 z
    exact ⟨hh,e1,e2,dh,k.at_ _ _ e3 (by simp; exact fun y=>n4 (y ▸ e2))⟩
  · obtain ⟨b,e1,e2⟩:=h2 z
    exact ⟨b,e1,k.tup _ _ e2⟩
  · rw [Ab]
    unfold bv
    rw [List.map_append]; rfl
theorem ZO {m m4:FtM.M} {c:UInt8} {bf q:Nat} (MI:FtM.MI m) (h0:m.code=0) (hbf:FtM.Ax m.phase m.part.length c=bf) (hb:bf=0) (hw:m.part.length + 1=m.wanted) (h:(m.phase=0∧m4={ m with place:=m.place + 1,phase:=1 })∨(m.phase≠0∧m4={ m with place:=m.place + 1 }∧q=min m.phase 3)):AnK { m4 with part:=m.part++[c] } q:=by
  obtain ⟨_,hph⟩:=MI.ok h0
  have hle:=MI.le
  have hlen:(m.part++[c]).length=m.part.length + 1:=by simp
  rcases h with ⟨hp,rfl⟩ | ⟨hp,rfl,hq⟩
  · rcases hph with ⟨_,a,b⟩ | ⟨z,_⟩ | ⟨z,_⟩ | ⟨z,_⟩ | ⟨z,_⟩ | ⟨z,_⟩
    · rw [a] at hw; simp at hw; omega
    all_goals omega
  · rcases hph with ⟨z,_⟩ | ⟨z,a,b⟩ | ⟨z,a,b⟩ | ⟨z,a,b⟩ | ⟨z,a,b,d⟩ | ⟨z,a⟩
    · exact absurd z hp
    · refine .inl ⟨z,by show (m.part++[c]).length=110; omega,fun i y hy=>?_⟩
      have hc:FtTree.headByte m.part.length c=true:=by
        unfold FtM.Ax at hbf
        rw [z,if_neg (by simp)] at hbf
        cases e:FtTree.headByte m.part.length c with
        | true=>rfl
        | false=>rw [if_pos ⟨.inr rfl,e⟩] at hbf; omega
      have hy:(m.part++[c])[i]? = some y:=hy
      rcases Nat.lt_trichotomy i m.part.length with q | q | q
      · rw [List.getElem?_append_left q] at hy; exact b i y hy
      · subst q
        rw [List.getElem?_append_right (Nat.le_refl _),Nat.sub_self] at hy
        rw [← Option.some.inj hy]; exact hc
      · rw [List.getElem?_eq_none (by omega)] at hy; cases hy
    · have:=FtM.LB b
      exact .inr (.inl ⟨z,by omega,h0,by simp,by show (m.part++[c]).length≤600; omega,b⟩)
    · exact .inr (.inr (.inl ⟨z,by omega⟩))
    · exact .inr (.inr (.inr (.inl ⟨z,by omega,d,by show (m.part++[c]).length=m.head.size; omega⟩)))
    · exact .inr (.inr (.inr (.inr ⟨z,by omega⟩)))
theorem AiP (m:FtM.M):min (FtM.Ca m).phase 3≤if m.phase=1 then 2 else 3:=by
  by_cases h:m.phase=1
  · rw [if_pos h]
    unfold FtM.Ca
    rw [if_pos h]
    unfold FtM.IY
    split
    · show min 2 3≤2; decide
    · show min m.phase 3≤2; omega
  · rw [if_neg h]; omega
def Awg (A:Ad) (K:PySem.W.Frag):Sp:=fun vs H Q _=>∃ (x:SA) (m:FtM.M) (c:UInt8),vs=[.ref x.s,.int (c.toNat:Int)]∧SAt A H x m (min m.phase 3) m.place∧FtM.MI m∧m.code=0∧m.place≤8900∧Left A H x (FtM.take1 m c) (min (FtM.take1 m c).phase 3) (FtM.take1 m c).place Q
theorem AtM (T:Tx K mg A):AY P w K mg base CX0 13 A.Cz A.KW ["self","byte"] (Awg A K):=by
  refine T.Ia.ok Ab3 (fun vs H Q E h=>?_) (fun cdv Ar outer s H vs Q E hr h=>?_)
  · obtain ⟨x,m,c,rfl,_⟩:=h
    rfl
  · obtain ⟨x,m,c,rfl,I,MI,h0,hpl,k⟩:=h
    have hu:=AZ hr
    refine ⟨_,(Ac (Bd (pv 0) (AH (pv 0) T.Ah T.Q1 (P0 T) (hr.mono (by decide)) T.F1 .nil A1 (Aa (pv 1) Ag)) rfl)
      (Ac (AD (Ao IW (Al (pv 0) rfl) Ap (As _)) (Ae Qu) A7)
      (Ac (AdD (pv 0) Ap Arl)
      (Ac (AD (Ao AX (Al (pv 0) rfl) (Ak T.Ad2) (As _)) (Ac (AD (Ao AX (pv 1) Ap (As _)) (Ae Qu) A7)
      (Ae (Bd (pv 0) (Ak T.Le) rfl))) A7)
      (Ac (AE (Gz PySem.F.plainAttrs_list PySem.F.slot_list_append PySem.F.type_list_append Fv (Al (pv 0) rfl) (Aa (pv 1) Ag)))
      (Ae (AD (Ao AX (AS AI (by rfl) T.Es PySem.boot_len (Aa (Al (pv 0) rfl) Ag)) (Al (pv 0) rfl) (As _)) (Ae (AE (CL (pv 0) T.Ah T.ER (Aji T) (hr.mono (by decide)) T.C9 .nil A1))) A7))))))),?_⟩
    walk_at "rd"
    obtain ⟨dx,hv,nv,i1,_,_⟩:=I.ins
    refine ⟨_,_,i1,rfl,x,m,_,_,c,rfl,I,fun H1 k1=>?_⟩
    have I1:=I.BN k1
    obtain ⟨dx1,hv1,nv1,s1,g,gn⟩:=I1.ins
    refine ⟨_,_,_,s1,T.Ah,T.BH,by show 8 < 1000; decide,?_⟩
    generalize hbf:FtM.Ax m.phase m.part.length c=bf
    have ep:Bj "code" (.int (bf:Int)) (A6 x m hv1 nv1)=A6 x { m with code:=bf } hv1 nv1:=rfl
    rw [ep]
    obtain ⟨I2,k2⟩:=I1.store (m':={ m with code:=bf }) (q':=min m.phase 3) (hv':=hv1) (nv':=nv1) s1 rfl rfl g gn
    have f2:L2.Fr x.fp H x.fp _:=(El (k1.mono (by simp))).trans (El k2)
    generalize upd H1 x.s (.ins A.Am dx1 (A6 x { m with code:=bf } hv1 nv1))=H2 at I2 k2 f2
    obtain ⟨dx2,hv2,nv2,s2,g2,g2n⟩:=I2.ins
    refine ⟨_,_,_,s2,T.Ah,T.BH,_,Pk x _ _ _,rfl,?_⟩
    unfold FtM.take1 at k
    rw [hbf] at k
    by_cases hb:bf=0
    · rw [if_neg (by simp [hb])]
      rw [if_neg (by simp [hb])] at k
      have em:({ m with code:=bf }:FtM.M)=m:=by rw [hb,← h0]
      rw [em] at I2 s2 g2 g2n
      refine ⟨_,_,_,s2,T.Ah,T.Fn,_,Ad6 x _ _ _,_,rfl,_,_,s2,by show 8 < 1000; decide,?_⟩
      have ep3:Bj "place" (.int ((m.place:Int) + 1)) (A6 x m hv2 nv2)=A6 x { m with place:=m.place + 1 } hv2 nv2:=rfl
      rw [ep3]
      obtain ⟨I3,k3⟩:=I2.store (m':={ m with place:=m.place + 1 }) (q':=min m.phase 3) (hv':=hv2) (nv':=nv2) s2 rfl rfl g2 g2n
      have f3:=f2.trans (El k3)
      generalize upd H2 x.s (.ins A.Am dx2 (A6 x { m with place:=m.place + 1 } hv2 nv2))=H3 at I3 k3 f3
      obtain ⟨dx3,hv3,nv3,s3,g3,g3n⟩:=I3.ins
      refine ⟨_,_,_,s3,T.Ah,T.An,_,AG x _ _ _,rfl,?_⟩
      by_cases hp:m.phase=0
      · rw [if_pos (by show V.int (m.phase:Int)=_; rw [hp]; rfl)]
        by_cases hc:c=0
        · rw [if_pos (by rw [hc]; rfl)]
          rw [if_pos ⟨hp,hc⟩] at k
          exact k _ x rfl rfl f3 (I3.weak (Nat.le_refl _) (Nat.le_succ _))
        · have hcI : ¬ (c.toNat:Int)=0:=fun q=>hc (toNat_inj (b:=0) q)
          rw [if_neg hcI]
          rw [if_neg (fun q=>hc q.2)] at k
          refine ⟨_,_,_,s3,T.Ah,T.An,by show 8 < 1000; decide,?_⟩
          have ep4:Bj "phase" (.int 1) (A6 x { m with place:=m.place + 1 } hv3 nv3)=A6 x { m with place:=m.place + 1,phase:=1 } hv3 nv3:=rfl
          rw [ep4]
          obtain ⟨I4,k4⟩:=I3.store (m':={ m with place:=m.place + 1,phase:=1 }) (q':=1) (hv':=hv3) (nv':=nv3) s3 rfl rfl (fun z=>by omega) (fun z=>by omega)
          have f4:=f3.trans (El k4)
          generalize upd H3 x.s (.ins A.Am dx3 (A6 x { m with place:=m.place + 1,phase:=1 } hv3 nv3))=H4 at I4 k4 f4
          rw [if_pos hp] at k
          obtain ⟨dx4,hv4,nv4,s4,g4,g4n⟩:=I4.ins
          obtain ⟨I5,k5⟩:=I4.Ahy c
          refine ⟨_,_,_,s4,T.Ah,T.AQ,_,FF x _ _ _,.inl ⟨rfl,_,SqL.of I4.part⟩,_,rfl,_,I4.part,Bs (by rw [Az]; have:=MI.le; show m.part.length≤_; omega),?_⟩
          have f5:=f4.trans (El k5)
          have ebv:bv m.part++[V.int (c.toNat:Int)]=bv (m.part++[c]):=by unfold bv; rw [List.map_append]; rfl
          generalize hH5:upd H4 x.pl (.lst (bv m.part++[V.int (c.toNat:Int)]))=H5 at I5 k5 f5 ⊢
          obtain ⟨dx5,hv5,nv5,s5,g5,g5n⟩:=I5.ins
          refine ⟨_,_,_,s5,T.Ah,T.AQ,_,FF x _ _ _,_,rfl,_,.inl (SqL.of I5.part),?_⟩
          refine ⟨_,_,_,s5,T.Ah,T.BM,_,AaD x _ _ _,rfl,?_⟩
          have hlen:(bv (m.part++[c])).length=m.part.length + 1:=by rw [Az]; simp
          by_cases hw:m.part.length + 1=m.wanted
          · rw [if_pos (by show V.int ((bv (m.part++[c])).length:Int)=V.int (m.wanted:Int); rw [hlen,hw])]
            rw [if_pos hw] at k
            refine ⟨_,_,s5,rfl,x,_,_,_,rfl,I5,by omega,ZO (m:=m) (m4:={ m with place:=m.place + 1,phase:=1 }) MI h0 hbf hb hw (.inl ⟨hp,rfl⟩),?_⟩
            intro H' x' a1 a2 g J
            refine k H' x' a1 a2 (f5.trans g) (J.weak (AiP _) ?_)
            rw [FtM.Mj]
            exact Nat.le_refl _
          · rw [if_neg (by show ¬ V.int ((bv (m.part++[c])).length:Int)=V.int (m.wanted:Int); rw [hlen,V.int.injEq]; omega)]
            rw [if_neg hw] at k
            exact k _ x rfl rfl f5 (I5.weak (by show min 1 3≤1; decide) (Nat.le_succ _))
      · have hpI : ¬ (m.phase:Int)=0:=by omega
        rw [if_neg (by show ¬ V.int (m.phase:Int)=_; rw [V.int.injEq]; exact hpI)]
        rw [if_neg (fun q=>hp q.1)] at k
        rw [if_neg hp] at k
        have I4:=I3
        have f4:=f3
        generalize hH4:H3=H4 at I4 f4 ⊢
        obtain ⟨dx4,hv4,nv4,s4,g4,g4n⟩:=I4.ins
        obtain ⟨I5,k5⟩:=I4.Ahy c
        refine ⟨_,_,_,s4,T.Ah,T.AQ,_,FF x _ _ _,.inl ⟨rfl,_,SqL.of I4.part⟩,_,rfl,_,I4.part,Bs (by rw [Az]; have:=MI.le; show m.part.length≤_; omega),?_⟩
        have f5:=f4.trans (El k5)
        have ebv:bv m.part++[V.int (c.toNat:Int)]=bv (m.part++[c]):=by unfold bv; rw [List.map_append]; rfl
        generalize hH5:upd H4 x.pl (.lst (bv m.part++[V.int (c.toNat:Int)]))=H5 at I5 k5 f5 ⊢
        obtain ⟨dx5,hv5,nv5,s5,g5,g5n⟩:=I5.ins
        refine ⟨_,_,_,s5,T.Ah,T.AQ,_,FF x _ _ _,_,rfl,_,.inl (SqL.of I5.part),?_⟩
        refine ⟨_,_,_,s5,T.Ah,T.BM,_,AaD x _ _ _,rfl,?_⟩
        have hlen:(bv (m.part++[c])).length=m.part.length + 1:=by rw [Az]; simp
        by_cases hw:m.part.length + 1=m.wanted
        · rw [if_pos (by show V.int ((bv (m.part++[c])).length:Int)=V.int (m.wanted:Int); rw [hlen,hw])]
          rw [if_pos hw] at k
          refine ⟨_,_,s5,rfl,x,_,_,_,rfl,I5,by omega,ZO (m:=m) (m4:={ m with place:=m.place + 1 }) MI h0 hbf hb hw (.inr ⟨hp,rfl,rfl⟩),?_⟩
          intro H' x' a1 a2 g J
          refine k H' x' a1 a2 (f5.trans g) (J.weak (AiP _) ?_)
          rw [FtM.Mj]
          exact Nat.le_refl _
        · rw [if_neg (by show ¬ V.int ((bv (m.part++[c])).length:Int)=V.int (m.wanted:Int); rw [hlen,V.int.injEq]; omega)]
          rw [if_neg hw] at k
          exact k _ x rfl rfl f5 (I5.weak (Nat.le_refl _) (Nat.le_succ _))
    · rw [if_pos hb] at k
      have hbI : ¬ (bf:Int)=0:=by omega
      rw [if_pos (by rw [decide_eq_false (by show ¬ V.int (bf:Int)=_; rw [V.int.injEq]; exact hbI)]; rfl)]
      exact k _ x rfl rfl f2 I2
theorem _root_.L2.SqL.fr {K:PySem.W.Frag} {H H':Hp} {a:Addr} {xs:List V} {F F':List Addr} (h:SqL K H a xs) (ha:a ∉ F) (f:L2.Fr F H F' H'):SqL K H' a xs:=by
  rcases h with (h | ⟨o,h⟩) | h
  · exact .inl (.inl (f.keep.at_ _ _ h ha))
  · exact .inl (.inr ⟨o,f.keep.at_ _ _ h ha⟩)
  · exact .inr h
structure AsH (A:Ad) (H:Hp) (x:SA) (m:FtM.M) (b:B8) (i:Nat) (H':Hp) (x':SA):Prop where
  s:x'.s=x.s
  ub:x'.u.b=x.u.b
  fr:L2.Fr x.fp H x'.fp H'
  st:SAt A H' x' (FtM.feed m (b.take i)) (min (FtM.feed m (b.take i)).phase 3) (FtM.feed m (b.take i)).place
def Awe (A:Ad) (K:PySem.W.Frag):Sp:=fun vs H Q _=>∃ (x:SA) (m:FtM.M) (a:Addr) (b:B8),vs=[.ref x.s,.ref a]∧SAt A H x m (min m.phase 3) m.place∧FtM.MI m∧SqL K H a (bv b)∧a ∉ x.fp∧m.place + b.length≤8900∧Left A H x (FtM.feed m b) (min (FtM.feed m b).phase 3) (FtM.feed m b).place Q
theorem AtL (T:Tx K mg A):AY P w K mg base CX0 14 A.Cw A.KS ["self","row"] (Awe A K):=by
  refine T.HY.ok PK (fun vs H Q E h=>?_) (fun cdv Ar outer s H vs Q E hr h=>?_)
  · obtain ⟨x,m,a,b,rfl,_⟩:=h
    rfl
  · obtain ⟨x,m,a,b,rfl,I,MI,hS,ha,hpl,k⟩:=h
    have hu:=AZ hr
    refine ⟨_,(Ae (PH PassesOwn.never rfl (K6 (pv 1)) (ET (i:=2) PK.nd rfl (Or.inl rfl)) (Ac (AD (Ao IW (Al (pv 0) rfl) Ap (As _)) (Ae Qu) A7)
      (Ae (AE (AH (pv 0) T.Ah T.Acg (AtM T) (hr.mono (by decide)) T.KG .nil A1 (Aa (pv 2) Ag))))))),?_⟩
    walk_at "rd"
    refine ⟨⟨_,hS⟩,?_⟩
    refine L6 (bv b) (fun i σ H'=>∃ (v:Option V) (x':SA),σ=[some (.ref x.s),some (.ref a),v]∧AsH A H x m b i H' x') ⟨none,x,rfl,⟨rfl,rfl,L2.Fr.refl,I⟩⟩ ?_ ?_ ?_
    · rintro i σ H' _ ⟨v,x',rfl,J⟩
      exact hS.fr ha J.fr
    · rintro i y σ H' hi ⟨v,x',rfl,J⟩
      obtain ⟨ch,hc,rfl⟩:=AqI hi
      have hil:i < b.length:=(List.getElem?_eq_some_iff.mp hc).1
      have hMI:=FtM.Af6 (b.take i) MI
      have hst:b.take (i + 1)=b.take i++[ch]:=BC hc
      have hfd:FtM.feed m (b.take (i + 1))=FtM.take (FtM.feed m (b.take i)) ch:=by rw [hst,FtM.Ec]; rfl
      obtain ⟨dx,hv,nv,i1,_,_⟩:=J.st.ins
      have es:=J.s
      walk_at "rd"
      rw [← es]
      refine ⟨_,_,_,i1,T.Ah,T.BH,_,Pk x' _ _ _,rfl,?_⟩
      by_cases h0:(FtM.feed m (b.take i)).code=0
      · rw [if_neg (by rw [h0]; decide)]
        have hp:=FtM.ZR (b.take i) m h0
        rw [List.length_take] at hp
        have hpl2:(FtM.feed m (b.take i)).place≤8900:=by omega
        refine ⟨_,_,i1,rfl,x',_,ch,rfl,J.st,hMI,h0,hpl2,fun H2 x2 a1 a2 g J2=>⟨x2,⟨a1.trans es,a2.trans J.ub,J.fr.trans g,?_⟩⟩⟩
        have ht:FtM.take (FtM.feed m (b.take i)) ch=FtM.take1 (FtM.feed m (b.take i)) ch:=by unfold FtM.take; rw [if_neg (by simp [h0])]
        rw [hfd,ht]; exact J2
      · have hI : ¬ ((FtM.feed m (b.take i)).code:Int)=0:=by omega
        rw [if_pos (by rw [decide_eq_false (by show ¬ V.int _=_; rw [V.int.injEq]; exact hI)]; rfl)]
        have e:FtM.feed m b=FtM.feed m (b.take i):=by
          have:FtM.feed m b=FtM.feed m (b.take i++b.drop i):=by rw [List.take_append_drop]
          rw [this,FtM.Ec,FtM.Fl _ _ h0]
        rw [e] at k
        exact k _ x' es J.ub J.fr J.st
    · rintro σ H' ⟨v,x',rfl,J⟩
      have:=J.st
      rw [Az,List.take_length] at this
      exact k _ x' J.s J.ub J.fr this
theorem AwV {H:Hp} {x p l:Addr} {o o1 o2 o3 op ol:HO} (hx:H x=some o) (ho:Af8 o) (h1:Af8 o1) (h2:Af8 o2) (hpx:p≠x) (hlx:l≠x) (hp:H p=none) (hl:upd (upd H x o1) p op l=none) :
    Ai [x] H (upd (upd (upd (upd (upd H x o1) p op) x o2) l ol) x o3)∧upd (upd (upd (upd (upd H x o1) p op) x o2) l ol) x o3 p=some op:=by
  have hlp:p≠l:=fun z=>by rw [← z,Ab] at hl; cases hl
  have a1:Ai [x] H (upd H x o1):=Ai.put hx ho (by simp)
  have a2:=a1.trans (Ai.new (p:=p) (o:=op) (by rw [A9 hpx]; exact hp))
  have a3:=a2.trans (Ai.put (o:=o2) (Aj Ab hpx.symm) h1 (by simp))
  have a4:=a3.trans (Ai.new (p:=l) (o:=ol) (by rw [A9 hlx]; exact hl))
  have a5:=a4.trans (Ai.put (o:=o3) (Aj Ab hlx.symm) h2 (by simp))
  exact ⟨a5,Aj (Aj (Aj Ab hpx) hlp) hpx⟩
def AgH (A:Ad):Sp:=fun vs H Q _=>∃ (x dx:Addr),vs=[.ref x]∧H x=some (.ins A.Am dx [])∧∀ (H':Hp) (y:SA),y.s=x→Ai [x] H H'→(∀ b ∈ y.fp,b=x∨H b=none)→SAt A H' y (FtM.m0 ⟨0,0,0,0,0,0,0⟩ []) 0 0→Q .non H'
theorem P1 (T:Tx K mg A):AY P w K mg base CX0 5 A.Cy A.KU ["self"] (AgH A):=by
  refine T.HZ.ok Ab2 (fun vs H Q E h=>?_) (fun cdv Ar outer s H vs Q E hr h=>?_)
  · obtain ⟨x,dx,rfl,_⟩:=h
    rfl
  · obtain ⟨x,dx,rfl,hx,k⟩:=h
    have hu:=AZ hr
    refine ⟨_,(Ac (Bd (pv 0) (P6 T.ApQ (Ym T) (hr.mono (by decide)) (by rfl) T.Apl T.Jz .nil A1) rfl)
      (Ac (Bd (pv 0) Ap rfl)
      (Ac (Bd (pv 0) Ap rfl)
      (Ac (Bd (pv 0) (Ak T.Ad2) rfl)
      (Ac (Bd (pv 0) (BI Ag) rfl)
      (Ac (Bd (pv 0) (Ak T.Em) rfl)
      (Ac (Bd (pv 0) Ar8 rfl)
      (Ae (Bd (pv 0) (HL Ag) rfl))))))))),?_⟩
    walk_at "rd"
    intro y dy hy hdy hne
    have hxy:x≠y:=Au hx hy
    have hxd:x≠dy:=Au hx hdy
    refine ⟨y,dy,rfl,Ab,fun H2 u hub k2 hfp J=>⟨rfl,?_⟩⟩
    have x2:H2 x=some (.ins A.Am dx []):=k2.at_ _ _ (Aj (Aj hx hxd) hxy) (by simp [hxy])
    have kH:Ai [x] H H2:=by
      refine ⟨fun b o e hb=>?_,fun b xs e=>?_⟩
      · exact k2.at_ _ _ (Aj (Aj e (Au e hdy)) (Au e hy)) (by simp [Au e hy])
      · exact k2.tup _ _ (Aj (Aj e (Au e hdy)) (Au e hy))
    have fpn:∀ b ∈ u.fp,H b=none:=fun b hb=>by
      rcases hfp b hb with z | z
      · rw [z]; exact hy
      · cases e:H b with
        | none=>rfl
        | some o =>
          rw [Aj (Aj e (Au e hdy)) (Au e hy)] at z; cases z
    have xfp:x ∉ u.fp:=fun z=>by rw [fpn x z] at hx; cases hx
    refine ⟨_,_,_,x2,T.Ah,T.Bu,by show 0 < 1000; decide,?_⟩
    refine ⟨_,_,_,Ab,T.Ah,T.BH,by show 1 < 1000; decide,?_⟩
    rw [Jh]
    refine ⟨_,_,_,Ab,T.Ah,T.Fn,by show 2 < 1000; decide,?_⟩
    rw [Jh]
    refine ⟨_,_,_,Ab,T.Ah,T.An,by show 3 < 1000; decide,Nat.zero_le _,fun p hp=>?_⟩
    rw [Jh] at hp ⊢
    have hpx:p≠x:=fun z=>by rw [z,Ab] at hp; cases hp
    rw [A9 hpx] at hp
    refine ⟨_,_,_,Aj Ab hpx.symm,T.Ah,T.AQ,by show 4 < 1000; decide,?_⟩
    refine ⟨_,_,_,Ab,T.Ah,T.BM,by show 5 < 1000; decide,?_⟩
    rw [Jh]
    refine ⟨_,_,_,Ab,T.Ah,T.AO,by show 6 < 1000; decide,Nat.zero_le _,fun l hl=>?_⟩
    rw [Jh] at hl ⊢
    have hlx:l≠x:=fun z=>by rw [z,Ab] at hl; cases hl
    rw [A9 hlx] at hl
    refine ⟨_,_,_,Aj Ab hlx.symm,T.Ah,T.CW,by show 7 < 1000; decide,?_⟩
    have ep:Bj "name" (.ref l) (Bj "head" .non (Bj "wanted" (.int 110) (Bj "part" (.ref p) (Bj "phase" (.int 0) (Bj "place" (.int 0) (Bj "code" (.int 0) (Bj "builder" (.ref y) [])))))))=A6 ⟨x,p,[],u⟩ (FtM.m0 ⟨0,0,0,0,0,0,0⟩ []) .non (.ref l):=by
      rw [← hub]; rfl
    rw [ep]
    obtain ⟨kx,hpp⟩:=AwV (o3:=HO.ins A.Am dx (A6 ⟨x,p,[],u⟩ (FtM.m0 ⟨0,0,0,0,0,0,0⟩ []) .non (.ref l))) (o1:=HO.ins A.Am dx (Bj "phase" (V.int 0) (Bj "place" (V.int 0) (Bj "code" (V.int 0) (Bj "builder" (V.ref y) []))))) (o2:=HO.ins A.Am dx (Bj "head" V.non (Bj "wanted" (V.int 110) (Bj "part" (V.ref p) (Bj "phase" (V.int 0) (Bj "place" (V.int 0) (Bj "code" (V.int 0) (Bj "builder" (V.ref y) [])))))))) (ol:=.tup []) x2 trivial trivial trivial hpx hlx hp hl
    have hpu:p ∉ u.fp:=fun z=>by
      obtain ⟨dxb,b1⟩:=J.ins
      obtain ⟨ls,L,b2,_⟩:=J.links
      obtain ⟨dxt,t1⟩:=J.tree.ins
      obtain ⟨ks,t2,_⟩:=J.tree.kinds
      obtain ⟨ts,t3,_⟩:=J.tree.texts
      obtain ⟨hs,t4,_⟩:=J.tree.holders
      obtain ⟨cs,t5,_⟩:=J.tree.AnS
      simp only [BA.fp,TA.fp,List.mem_cons,List.not_mem_nil,or_false] at z
      rcases z with z | z | z | z | z | z | z
      · rw [z,b1] at hp; cases hp
      · rw [z,b2] at hp; cases hp
      · rw [z,t1] at hp; cases hp
      · rw [z,t2] at hp; cases hp
      · rw [z,t3] at hp; cases hp
      · rw [z,t4] at hp; cases hp
      · rw [z,t5] at hp; cases hp
    have hpH:H p=none:=by
      rcases kH.free hp with z | z
      · exact z
      · exact absurd (List.mem_singleton.mp z) hpx
    refine k _ ⟨x,p,[],u⟩ rfl (kH.trans kx) (fun b hb=>?_) ⟨?_,⟨dx,.non,.ref l,Ab,fun z=>by omega,fun z=>by omega⟩,hpp,(fun c hc=>by cases hc),J.keep kx (fun b hb z=>?_)⟩
    · simp only [SA.fp,List.nil_append,List.mem_cons] at hb
      rcases hb with hb | hb | hb
      · exact .inl hb
      · exact .inr (by rw [hb]; exact hpH)
      · exact .inr (fpn b hb)
    · simp only [SA.fp,List.nil_append,List.nodup_cons,List.mem_cons,not_or]
      exact ⟨⟨hpx.symm,xfp⟩,hpu,J.nd⟩
    · rw [List.mem_singleton] at z
      rw [z] at hb; exact xfp hb
end
section
variable {P:Program} {w:World} {K:PySem.W.Frag} {mg:Str→Option Value} {base:Heap} {A:Ad}
def AdI (A:Ad):Sp:=fun vs H Q _=>∃ (x:SA) (m:FtM.M) (q n:Nat),vs=[.ref x.s]∧SAt A H x m q n∧∀ (H':Hp) (p:Addr),Ai [] H H'→H p=none→H' p=some (.lst [.int (m.code:Int),.int (m.place:Int)])→Q (.ref p) H'
theorem WX (T:Tx K mg A):AY P w K mg base CX0 1 A.Ff A.RS ["stream"] (AdI A):=by
  refine T.HF.ok Aj3 (fun vs H Q E h=>?_) (fun cdv Ar outer s H vs Q E hr h=>?_)
  · obtain ⟨x,m,q,n,rfl,_⟩:=h
    rfl
  · obtain ⟨x,m,q,n,rfl,I,k⟩:=h
    have hu:=AZ hr
    refine ⟨_,(Ae (Av (BI (Aa (Al (pv 0) rfl) (Aa (Al (pv 0) rfl) Ag))))),?_⟩
    walk_at "rd"
    obtain ⟨dx,hv,nv,i1,_,_⟩:=I.ins
    refine ⟨_,_,_,i1,T.Ah,T.BH,_,Pk x m hv nv,_,_,_,i1,T.Ah,T.Fn,_,Ad6 x m hv nv,by decide,fun p hp=>?_⟩
    exact k _ p (Ai.new hp) hp Ab
def WO (ns:DU) (p:B8):Nat:=((FtW.val ns p).map FtW.kindNo).getD 0
def Ab1 (ns:DU) (p:B8) (fs:List Int):Int:=if WO ns p=0 then -1 else if (WO ns p:Int) ∈ fs then 0 else -2
theorem Ais (k:Int):∀ fs:List Int,inV (.int k) (fs.map V.int)=decide (k ∈ fs)
  | []=>rfl
  | f::fs=>by
    show ((f == k) || inV (.int k) (fs.map V.int))=_
    rw [Ais k fs,Bool.eq_iff_iff,Bool.or_eq_true,beq_iff_eq,decide_eq_true_eq,decide_eq_true_eq,List.mem_cons]
    exact ⟨fun h=>h.imp Eq.symm id,fun h=>h.imp Eq.symm id⟩
theorem Ad1:∀ fs:List Int,(fs.map V.int).all Kq=true
  | []=>rfl
  | f::fs=>by
    show (true && (fs.map V.int).all Kq)=true
    rw [Ad1 fs]; rfl
def Aqu (A:Ad) (K:PySem.W.Frag):Sp:=fun vs H Q _=>∃ (t:TA) (b f:Addr) (p:B8) (fs:List Int) (ns:DU) (n:Nat) (c:List (Nat × B8)),vs=[.ref t.a,.ref b,.ref f]∧Ct A H t ns n c∧H b=some (.tup (bv p))∧SqT K H f (fs.map V.int)∧Q (.int (Ab1 ns p fs)) H
theorem Lf (T:Tx K mg A):AY P w K mg base CX0 2 A.D0 A.Mf ["tree","path","fitting"] (Aqu A K):=by
  refine T.Eh.ok Rr (fun vs H Q E h=>?_) (fun cdv Ar outer s H vs Q E hr h=>?_)
  · obtain ⟨t,b,f,p,fs,ns,n,c,rfl,_⟩:=h
    rfl
  · obtain ⟨t,b,f,p,fs,ns,n,c,rfl,I,hb,hf,k⟩:=h
    have hu:=AZ hr
    refine ⟨_,(Ac (Be (i:=3) Rr.nd rfl (Or.inl rfl) (AH (pv 0) T.AF T.DJ (Dk T) (hr.mono (by decide)) T.C3 .nil A1 (Aa (pv 1) Ag)))
      (Ac (AD (Ao AX (pv 3) (Ak T.L0) (As _)) (Ae (Av (Abm T7 Ap))) A7)
      (Ac (AD (Ao Agc (pv 3) (pv 2) rfl) (Ae (Av (Abm T7 Ap))) A7)
      (Ae (Av Ap))))),?_⟩
    walk_at "rd"
    obtain ⟨dx,i1⟩:=I.ins
    refine ⟨_,_,i1,rfl,t,b,p,ns,_,_,rfl,I,hb,rfl,?_⟩
    unfold Ab1 at k
    change if V.int (WO ns p:Int)=V.int 0 then _ else _
    by_cases h0:WO ns p=0
    · rw [if_pos h0] at k
      rw [if_pos (by rw [h0]; rfl)]
      exact k
    · rw [if_neg h0] at k
      rw [if_neg (by rw [V.int.injEq]; omega)]
      refine ⟨_,.inr hf,rfl,Ad1 fs,?_⟩
      change if (!inV (V.int (WO ns p:Int)) (fs.map V.int))=true then _ else _
      rw [Ais]
      by_cases h1:(WO ns p:Int) ∈ fs
      · rw [if_pos h1] at k
        rw [if_neg (by simp [h1])]
        exact k
      · rw [if_neg h1] at k
        rw [if_pos (by simp [h1])]
        exact k
def Ans (H:Hp) (Q:VK) (l:List Int):Prop:=∀ (H':Hp) (a:Addr),Ai [] H H'→H a=none→H' a=some (.lst (l.map V.int))→Q (.ref a) H'
abbrev Od (A:Ad) (H:Hp) (t:TA) (w:FtTree.World):Prop:=Ct A H t w.nodes w.files.length (FtW.Aq w)
def Aqm (A:Ad):Sp:=fun vs H Q _=>∃ (t:TA) (b:Addr) (p:B8) (w:FtTree.World),vs=[.ref t.a,.ref b]∧Od A H t w∧H b=some (.tup (bv p))∧Ans H Q [0,(FtT.kindAt w p:Int)]
theorem Abd (T:Tx K mg A):AY P w K mg base CX0 2 A.CO A.KY ["tree","path"] (Aqm A):=by
  refine T.F8.ok Ab5 (fun vs H Q E h=>?_) (fun cdv Ar outer s H vs Q E hr h=>?_)
  · obtain ⟨t,b,p,w,rfl,_⟩:=h
    rfl
  · obtain ⟨t,b,p,w,rfl,I,hb,k⟩:=h
    have hu:=AZ hr
    refine ⟨_,(Ae (Av (BI (Aa Ap (Aa (AH (pv 0) T.AF T.DJ (Dk T) (hr.mono (by decide)) T.C3 .nil A1 (Aa (pv 1) Ag)) Ag))))),?_⟩
    walk_at "rd"
    obtain ⟨dx,i1⟩:=I.ins
    refine ⟨_,_,i1,rfl,t,b,p,w.nodes,_,_,rfl,I,hb,by decide,fun a ha=>?_⟩
    exact k _ a (Ai.new ha) ha Ab
theorem Wv (w:FtTree.World) (p:B8) (f:B8→List Int):(Ab1 w.nodes p [1,3]≠0∧FtT.KP w p f=[Ab1 w.nodes p [1,3]])∨(Ab1 w.nodes p [1,3]=0∧∃ d,dataOf w p=some d∧FtT.KP w p f=f d):=by
  unfold FtT.KP Ab1 WO dataOf
  cases FtW.val w.nodes p with
  | none=>exact .inl ⟨by decide,rfl⟩
  | some v =>
    cases v with
    | dir=>exact .inl ⟨by decide,rfl⟩
    | link d=>exact .inr ⟨rfl,d,rfl,rfl⟩
    | file i=>exact .inr ⟨rfl,w.bytes i,rfl,rfl⟩
def Aqw (A:Ad):Sp:=fun vs H Q _=>∃ (t:TA) (b:Addr) (p:B8) (w:FtTree.World),vs=[.ref t.a,.ref b]∧Od A H t w∧FtW.WF w∧H b=some (.tup (bv p))∧Ans H Q (FtT.KP w p fun d=>[0,(d.length:Int)])
theorem Abi (T:Tx K mg A):AY P w K mg base CX0 3 A.CU A.Ld ["tree","path"] (Aqw A):=by
  refine T.FE.ok PV (fun vs H Q E h=>?_) (fun cdv Ar outer s H vs Q E hr h=>?_)
  · obtain ⟨t,b,p,w,rfl,_⟩:=h
    rfl
  · obtain ⟨t,b,p,w,rfl,I,W,hb,k⟩:=h
    have hu:=AZ hr
    refine ⟨_,(Ac (Be (i:=2) PV.nd rfl (Or.inl rfl) (AJ (Lf T) (hr.mono (by decide)) (by rfl) T.LO T.Eh.kp T.GI .nil A1 (Aa (pv 0) (Aa (pv 1) (Aa (HL (Aa (Ak T.OS) (Aa (Ak T.VV) Ag))) Ag)))))
      (Ac (AD (Ao IW (pv 2) Ap (As _)) (Ae (Av (BI (Aa (pv 2) Ag)))) A7)
      (Ae (Av (BI (Aa Ap (Aa (AS AI (by rfl) T.Es PySem.boot_len (Aa (AH (pv 0) T.AF T.GQ (FO T) (hr.mono (by decide)) T.DG .nil A1 (Aa (pv 1) Ag)) Ag)) Ag))))))),?_⟩
    walk_at "rd"
    refine ⟨by decide,fun f hf=>?_⟩
    have kf:Ai [] H (upd H f (.tup [V.int 1,V.int 3])):=Ai.new hf
    refine ⟨t,b,f,p,[1,3],w.nodes,_,_,rfl,I.BN kf,kf.tup _ _ hb,SqT.of Ab,rfl,?_⟩
    obtain ⟨dx,i1⟩:=I.ins
    rcases Wv w p fun d=>[0,(d.length:Int)] with ⟨h1,h2⟩ | ⟨h1,d,hd,h2⟩
    · rw [h2] at k
      rw [if_pos (by simpa using h1)]
      exact ⟨by decide,fun a ha=>k _ a (kf.trans (Ai.new ha)) (kf.Fz ha) Ab⟩
    · rw [h2] at k
      rw [if_neg (by simp [h1])]
      refine ⟨_,_,kf.at_ _ _ i1 (by simp),rfl,t,b,p,d,w,rfl,I.BN kf,W,kf.tup _ _ hb,hd,fun b' hb'=>⟨b',rfl,_,.inr (SqT.of hb'),by decide,fun a ha=>?_⟩⟩
      refine k _ a (kf.trans (Ai.new ha)) (kf.Fz ha) ?_
      rw [Ab,Az]; rfl
theorem AqL (xs:List V) (a k:Nat):RQ xs (some (a:Int)) (some ((a:Int) + (k:Int)))=(xs.drop a).take k:=by
  unfold RQ
  rw [show (a:Int) + (k:Int)=((a + k:Nat):Int) by omega,HT.Je,HT.Je]
  by_cases h:a≤xs.length
  · rw [Nat.min_eq_left h]
    by_cases h2:a + k≤xs.length
    · rw [Nat.min_eq_left h2]; congr 1; omega
    · rw [Nat.min_eq_right (by omega),List.take_of_length_le (by rw [List.length_drop]; omega),List.take_of_length_le (by rw [List.length_drop]; omega)]
  · rw [Nat.min_eq_right (Nat.le_of_lt (Nat.lt_of_not_le h)),List.drop_length,List.drop_eq_nil_of_le (by omega)]; simp
theorem Apf {xs:List V} {a k:Nat} (h:HT.sIx xs.length 0 (some (a:Int))=0∧HT.sIx xs.length xs.length (some ((a:Int) + (k:Int)))=xs.length):(xs.drop a).take k=xs:=by
  rw [show (a:Int) + (k:Int)=((a + k:Nat):Int) by omega,HT.Je,HT.Je] at h
  by_cases h0:xs=[]
  · subst h0; simp
  · have:0 < xs.length:=List.length_pos_iff.mpr h0
    have ha:a=0:=by omega
    subst ha
    rw [List.drop_zero,List.take_of_length_le (by omega)]
theorem Kl (p:B8):bv p=(FtS.itz p).map V.int:=by
  unfold bv FtS.itz
  rw [List.map_map]; rfl
def Aqt (A:Ad):Sp:=fun vs H Q _=>∃ (t:TA) (b:Addr) (p:B8) (w:FtTree.World) (a k:Nat),vs=[.ref t.a,.ref b,.int (a:Int),.int (k:Int)]∧Od A H t w∧FtW.WF w∧H b=some (.tup (bv p))∧Ans H Q (FtT.KP w p fun d=>0::FtS.itz ((d.drop a).take k))
theorem AhP {w:FtTree.World} (W:FtW.WF w) {p d:B8} (h:dataOf w p=some d):d.length≤600:=by
  unfold dataOf at h
  cases e:FtW.val w.nodes p with
  | none=>rw [e] at h; cases h
  | some v =>
    rw [e] at h
    cases v with
    | dir=>cases h
    | link x =>
      cases h
      exact Nat.le_trans (W.texts p _ (FtW.Ht e)).1 (by decide)
    | file i =>
      cases h
      exact FtU.Zm W e
theorem Abg (T:Tx K mg A):AY P w K mg base CX0 3 A.CS A.Lb ["tree","path","start","most"] (Aqt A):=by
  refine T.FC.ok PU (fun vs H Q E h=>?_) (fun cdv Ar outer s H vs Q E hr h=>?_)
  · obtain ⟨t,b,p,w,a,k,rfl,_⟩:=h
    rfl
  · obtain ⟨t,b,p,w,a0,k0,rfl,I,W,hb,k⟩:=h
    have hu:=AZ hr
    refine ⟨_,(Ac (Be (i:=4) PU.nd rfl (Or.inl rfl) (AJ (Lf T) (hr.mono (by decide)) (by rfl) T.LO T.Eh.kp T.GI .nil A1 (Aa (pv 0) (Aa (pv 1) (Aa (HL (Aa (Ak T.OS) (Aa (Ak T.VV) Ag))) Ag)))))
      (Ac (AD (Ao IW (pv 4) Ap (As _)) (Ae (Av (BI (Aa (pv 4) Ag)))) A7)
      (Ae (Av (CY Wm (BI (Aa Ap Ag)) (Ju Ma (by rfl) T.AkR (by decide +kernel) (Aa (LD Aul (AH (pv 0) T.AF T.GQ (FO T) (hr.mono (by decide)) T.DG .nil A1 (Aa (pv 1) Ag)) (Ie (pv 2)) (Ie (CY Ge (pv 2) (pv 3)))) Ag))))))),?_⟩
    walk_at "rd"
    refine ⟨by decide,fun f hf=>?_⟩
    have kf:Ai [] H (upd H f (.tup [V.int 1,V.int 3])):=Ai.new hf
    refine ⟨t,b,f,p,[1,3],w.nodes,_,_,rfl,I.BN kf,kf.tup _ _ hb,SqT.of Ab,rfl,?_⟩
    obtain ⟨dx,i1⟩:=I.ins
    rcases Wv w p fun d=>0::FtS.itz ((d.drop a0).take k0) with ⟨h1,h2⟩ | ⟨h1,d,hd,h2⟩
    · rw [h2] at k
      rw [if_pos (by simpa using h1)]
      exact ⟨by decide,fun a ha=>k _ a (kf.trans (Ai.new ha)) (kf.Fz ha) Ab⟩
    · rw [h2] at k
      rw [if_neg (by simp [h1])]
      refine ⟨by decide,fun z hz=>?_⟩
      have kz:=kf.trans (Ai.new (o:=.lst [V.int 0]) hz)
      refine ⟨_,_,kz.at_ _ _ i1 (by simp),rfl,t,b,p,d,w,rfl,I.BN kz,W,kz.tup _ _ hb,hd,fun b' hb'=>?_⟩
      have fin:∀ (H1:Hp) (ys:List V),Ai [] (upd (upd H f (HO.tup [V.int 1,V.int 3])) z (HO.lst [V.int 0])) H1→ys=bv ((d.drop a0).take k0)→∀ l,H1 l=none→∃ x_1,upd H1 l (.lst ys) z=some (.lst x_1)∧∃ x_2,upd H1 l (.lst ys) l=some (.lst x_2)∧x_1.length + x_2.length≤sizeLine∧∀ p,upd H1 l (.lst ys) p=none→Q (V.ref p) (upd (upd H1 l (.lst ys)) p (.lst (x_1++x_2))):=by
        intro H1 ys k1 hy l hl
        subst hy
        refine ⟨_,BW (k1.at_ _ _ Ab (by simp)) hl,_,Ab,Br ?_,fun p' hp'=>?_⟩
        · have h6:=AhP W hd
          rw [Az,List.length_take,List.length_drop]
          show 1 + _≤_
          omega
        · have kk:=(kz.trans k1).trans (Ai.new (o:=.lst (bv ((d.drop a0).take k0))) hl)
          refine k _ p' (kk.trans (Ai.new hp')) (kk.Fz hp') ?_
          rw [Ab,Kl]; rfl
      have cut:((bv d).drop a0).take k0=bv ((d.drop a0).take k0):=by
        unfold bv
        rw [AnQ,Ae3]
      by_cases hw:HT.sIx (bv d).length 0 (some (a0:Int))=0∧HT.sIx (bv d).length (bv d).length (some ((a0:Int) + (k0:Int)))=(bv d).length
      · exact .inr ⟨b',bv d,rfl,SqT.of hb',hw,b',rfl,bv d,.inr (SqT.of hb'),fin _ _ Ai.refl (by rw [← cut,Apf hw])⟩
      · exact .inl ⟨b',bv d,rfl,SqT.of hb',hw,fun e he=>⟨e,rfl,_,.inr (SqT.of Ab),fin _ _ (Ai.new he) (by rw [← cut,AqL])⟩⟩
def ArY (A:Ad):Sp:=fun vs H Q _=>∃ (t:TA) (b:Addr) (p:B8) (ns:DU) (n:Nat) (c:List (Nat × B8)),vs=[.ref t.a,.ref b]∧Ct A H t ns n c∧H b=some (.tup (bv p))∧Q (.int (numOf (FtW.val (FtW.sub FtW.fileOf ns) p))) H
theorem FP (T:Tx K mg A):AY P w K mg base CX0 1 A.Cd A.JO ["self","path"] (ArY A):=by
  refine T.GL.ok Yy (fun vs H Q E h=>?_) (fun cdv Ar outer s H vs Q E hr h=>?_)
  · obtain ⟨t,b,p,ns,n,c,rfl,_⟩:=h
    rfl
  · obtain ⟨t,b,p,ns,n,c,rfl,I,hb,k⟩:=h
    obtain ⟨dx,i1⟩:=I.ins
    obtain ⟨hs,i2,r2⟩:=I.holders
    have hu:=AZ hr
    refine ⟨_,(Ae (Av (Vg (by exact hu) (Al (pv 0) rfl) (pv 1) Ap ⟨rfl,rfl,rfl,rfl⟩))),?_⟩
    walk_at "rd"
    simp only [i1,T.AF,T.B5,Ed,Option.some.injEq,HO.ins.injEq,true_and,and_assoc,exists_eq_left',exists_and_left,exists_eq_left,V.ref.injEq]
    refine ⟨.inr ⟨_,.inl i2⟩,_,HD.t (k:=kb p) i2 (by rw [Ro]; exact hb),?_⟩
    have e:(Hs hs (kb p)).getD (V.int 0)=.int (numOf (FtW.val (FtW.sub FtW.fileOf ns) p)):=by
      cases h:FtW.val (FtW.sub FtW.fileOf ns) p with
      | none=>rw [r2.none IV (k:=p) h]; rfl
      | some x =>
        obtain ⟨v,h1,h2⟩:=r2.some IV (k:=p) (x:=x) h
        rw [h1]; exact h2
    rw [e]; exact k
def Aqv (A:Ad):Sp:=fun vs H Q _=>∃ (t:TA) (b c:Addr) (p q:B8) (w:FtTree.World),vs=[.ref t.a,.ref b,.ref c]∧Od A H t w∧H b=some (.tup (bv p))∧H c=some (.tup (bv q))∧Ans H Q [0,if (FtT.IL w p).isSome=true∧FtT.IL w p=FtT.IL w q then 1 else 0]
theorem Abh (T:Tx K mg A):AY P w K mg base CX0 2 A.CT A.Lc ["tree","path","other"] (Aqv A):=by
  refine T.FD.ok Ka (fun vs H Q E h=>?_) (fun cdv Ar outer s H vs Q E hr h=>?_)
  · obtain ⟨t,b,c,p,q,w,rfl,_⟩:=h
    rfl
  · obtain ⟨t,b,c,p,q,w,rfl,I,hb,hc,k⟩:=h
    have hu:=AZ hr
    refine ⟨_,(Ac (Be (i:=3) Ka.nd rfl (Or.inl rfl) (AH (pv 0) T.AF T.GR (FP T) (hr.mono (by decide)) T.DH .nil A1 (Aa (pv 1) Ag)))
      (Ac (Be (i:=4) Ka.nd rfl (Or.inl rfl) (Amn (Eo IW (pv 3) Ap (As _)) (Amo (Eo AX (pv 3) (AH (pv 0) T.AF T.GR (FP T) (hr.mono (by decide)) T.DH .nil A1 (Aa (pv 2) Ag)) (As _)))))
      (Ae (Av (BI (Aa Ap (Aa (Ajr (Lg (pv 4)) Ap Ap) Ag))))))),?_⟩
    walk_at "rd"
    obtain ⟨dx,i1⟩:=I.ins
    refine ⟨_,_,i1,rfl,t,b,p,w.nodes,_,_,rfl,I,hb,?_⟩
    have one:∀ l:List Int,Ans H Q l→l.length=2→∀ a,H a=none→Q (.ref a) (upd H a (.lst (l.map V.int))):=fun l k _ a ha=>k _ a (Ai.new ha) ha Ab
    have e0:∀ z,FtT.IL w z=FtW.val (FtW.sub FtW.fileOf w.nodes) z:=fun _=>rfl
    rw [e0,e0] at k
    cases e1:FtW.val (FtW.sub FtW.fileOf w.nodes) p with
    | none =>
      rw [e1] at k
      refine ⟨rfl,?_⟩
      rw [if_neg (by decide)]
      exact ⟨by decide,one [0,0] (by simpa using k) rfl⟩
    | some i =>
      rw [e1] at k
      refine ⟨rfl,?_⟩
      rw [if_pos (by simp [numOf]; omega)]
      refine ⟨_,_,i1,rfl,t,c,q,w.nodes,_,_,rfl,I,hc,?_⟩
      refine ⟨rfl,?_⟩
      cases e2:FtW.val (FtW.sub FtW.fileOf w.nodes) q with
      | none =>
        rw [e2] at k
        rw [if_neg (by simp [numOf]; omega)]
        exact ⟨by decide,one [0,0] (by simpa using k) rfl⟩
      | some j =>
        rw [e2] at k
        by_cases h:i=j
        · subst h
          rw [if_pos rfl]
          exact ⟨by decide,one [0,1] (by simpa using k) rfl⟩
        · rw [if_neg (by simp [numOf]; omega)]
          exact ⟨by decide,one [0,0] (by simpa [h] using k) rfl⟩
def Aqx (A:Ad):Sp:=fun vs H Q _=>∃ (x:SA) (m:FtM.M) (q n:Nat),vs=[.ref x.s]∧SAt A H x m q n∧FtW.WF m.w∧∀ (H':Hp) (p:Addr),Ai [] H H'→H p=none→H' p=some (.lst [.int (m.code:Int),.int (m.place:Int),.int (if FtT.S3 m=true then 1 else 0),.int (m.w.nodes.length:Int),.int (m.w.total:Int)])→Q (.ref p) H'
theorem Ajl (T:Tx K mg A):AY P w K mg base CX0 2 A.Fj A.RW ["stream"] (Aqx A):=by
  refine T.JB.ok PX (fun vs H Q E h=>?_) (fun cdv Ar outer s H vs Q E hr h=>?_)
  · obtain ⟨x,m,q,n,rfl,_⟩:=h
    rfl
  · obtain ⟨x,m,q,n,rfl,I,W,k⟩:=h
    have hu:=AZ hr
    refine ⟨_,(Ac (Be (i:=1) PX.nd rfl (Or.inl rfl) (Al (Al (pv 0) rfl) rfl))
      (Ac (Be (i:=2) PX.nd rfl (Or.inl rfl) (Ajr (Lg (CL (pv 0) T.Ah T.Vy (Ve T) (hr.mono (by decide)) T.HC .nil A1)) Ap Ap))
      (Ae (Av (CY Wm (AJ (WX T) (hr.mono (by decide)) (by rfl) T.YN T.HF.kp T.LM .nil A1 (Aa (pv 0) Ag)) (BI (Aa (pv 2) (Aa (CL (pv 1) T.AF T.Kj (JX T) (hr.mono (by decide)) T.EF .nil A1) (Aa (CL (pv 1) T.AF T.TJ (SX T) (hr.mono (by decide)) T.GH .nil A1) Ag))))))))),?_⟩
    walk_at "rd"
    obtain ⟨dx,hv,nv,i1,_,_⟩:=I.ins
    obtain ⟨du,i2⟩:=I.bld.ins
    refine ⟨_,_,_,i1,T.Ah,T.Bu,_,rfl,_,rfl,_,_,_,i2,T.AL,T.AK,_,D2 _,_,_,i1,rfl,x,m,q,n,rfl,I,_,rfl,?_⟩
    obtain ⟨dt,i3⟩:=I.bld.tree.ins
    have all:∀ e:Int,e=(if FtT.S3 m=true then 1 else 0)→AdI A [V.ref x.s] H (fun x_1 H1=>∃ a,V.ref x.u.t.a=V.ref a∧∃ x_2 x_3,H1 a=some (HO.ins A.A8 x_2 x_3)∧List.lookup (Str.ofString "path_count") x_3=none ∧
        Xe A [V.ref x.u.t.a] H1 (fun x_4 H1=>∃ a,V.ref x.u.t.a=V.ref a∧∃ x_5 x_6,H1 a=some (HO.ins A.A8 x_5 x_6)∧List.lookup (Str.ofString "byte_count") x_6=none ∧
          Xd A [V.ref x.u.t.a] H1 (fun x H1=>0 + 1 + 1 + 1≤sizeLine∧∀ (p:Addr),H1 p=none→∃ l,x_1=V.ref l∧∃ x_7,upd H1 p (HO.lst [V.int e,x_4,x]) l=some (HO.lst x_7)∧∃ x_8,upd H1 p (HO.lst [V.int e,x_4,x]) p=some (HO.lst x_8)∧x_7.length + x_8.length≤sizeLine ∧
            ∀ (p_1:Addr),upd H1 p (HO.lst [V.int e,x_4,x]) p_1=none→Q (V.ref p_1) (upd (upd H1 p (HO.lst [V.int e,x_4,x])) p_1 (HO.lst (x_7++x_8)))) E0) E0) E0:=by
      intro e he
      refine ⟨x,m,q,n,rfl,I,fun H1 l k1 hl hl1=>?_⟩
      have j3:=k1.at_ _ _ i3 (by simp)
      have tr:=I.bld.tree.BN k1
      refine ⟨_,rfl,_,_,j3,rfl,x.u.t,_,_,_,rfl,tr,_,rfl,_,_,j3,rfl,x.u.t,_,_,_,rfl,tr,?_,fun H2 k2=>?_⟩
      · exact Nat.le_trans (Adz I.bld.wf) (by decide)
      · refine ⟨by decide,fun p hp=>?_⟩
        have l2:=k2.at_ _ _ hl1 (by simp)
        refine ⟨l,rfl,_,BW l2 hp,_,Ab,(show 2 + 3≤sizeLine by decide),fun p1 hp1=>?_⟩
        have kk:Ai [] H (upd H2 p (HO.lst [V.int e,V.int (m.w.nodes.length:Int),V.int ((FtTree.sum ((FtW.Aq m.w).map fun x=>x.2.length):Nat):Int)])):=(k1.trans k2).trans (Ai.new hp)
        refine k _ p1 (kk.trans (Ai.new hp1)) (kk.Fz hp1) ?_
        rw [Ab,he,FtW.AjY]
        rfl
    split
    · rename_i h
      exact all 1 (by rw [if_pos (show FtT.S3 m=true from h)])
    · rename_i h
      exact all 0 (by rw [if_neg (show ¬ FtT.S3 m=true from h)])
end
theorem Atr (p:B8):kb p=(FtS.itz p).map Sum.inl:=by
  unfold kb FtS.itz
  rw [List.map_map]; rfl
theorem S1:∀ p q:B8,HT.lexLt (FtS.itz p) (FtS.itz q)=FtTree.before p q
  | [],[]=>rfl
  | [],_::_=>rfl
  | _::_,[]=>rfl
  | a::p,b::q=>by
    rw [FtS.ints_lt]
    show HT.lexLt ((a.toNat:Int)::FtS.itz p) ((b.toNat:Int)::FtS.itz q)=_
    rw [HT.S0,S1 p q]
    dsimp only
    by_cases h:a=b
    · subst h; rw [if_pos rfl,if_pos rfl]
    · rw [if_neg h,if_neg (fun z=>h (toNat_inj z))]
def YT (H:Hp) (as:List Addr) (ps:List B8):Prop:=Paired (fun b p=>H b=some (.tup (bv p))) as ps
theorem YT.keep {F:List Addr} {H H':Hp} (k:Ai F H H') {as:List Addr} {ps:List B8} (t:YT H as ps):YT H' as ps:=CK t fun a b _ h=>k.tup _ _ h
theorem Ao6 {H:Hp}:∀ {m:List (Addr × List Int)} {qs:List B8},Aeh H m→m.map (·.2)=qs.map FtS.itz→YT H (m.map (·.1)) qs
  | [],[],_,_=>.nil
  | [],_::_,_,e=>nomatch e
  | _::_,[],_,e=>nomatch e
  | x::m,q::qs,hi,e=>by
    rw [List.map_cons,List.map_cons,List.cons.injEq] at e
    refine .cons ?_ (Ao6 (fun y hy=>hi y (List.mem_cons_of_mem _ hy)) e.2)
    have:=(hi x (List.mem_cons_self ..)).2
    rw [e.1,← Kl] at this
    exact this
theorem sorted_out {H:Hp} {m:List (Addr × List Int)} {ps:List B8} (hi:Aeh H m) (hp:(m.map (·.2)).Perm (ps.map FtS.itz)) (hs:m.Pairwise (fun x y=>HT.lexLt y.2 x.2=false)) :
    ∃ qs:List B8,qs.Perm ps∧qs.Pairwise (fun x y=>FtTree.before y x=false)∧YT H (m.map (·.1)) qs:=by
  obtain ⟨qs,p1,e1⟩:=Vh _ hp ps rfl
  refine ⟨qs,p1,?_,Ao6 hi e1⟩
  have h2:(m.map (·.2)).Pairwise (fun x y=>HT.lexLt y x=false):=List.pairwise_map.mpr hs
  rw [e1,List.pairwise_map] at h2
  exact h2.imp fun h=>by rw [S1] at h; exact h
theorem Aob {p:B8} (h:p≠[]):FtS.itz p≠[]:=by
  cases p with
  | nil=>exact absurd rfl h
  | cons _ _=>intro z; cases z
theorem AjV {β:Type} {G:V→β→Prop}:∀ {ts:List (List Key × V)} {l:List (B8 × β)},EY kb G ts l→ts.map (·.1)=(l.map (·.1)).map kb
  | _,_,.nil=>rfl
  | _,_,.cons r t=>by rw [List.map_cons,List.map_cons,List.map_cons,AjV t,r.1]
section
variable {P:Program} {w:World} {K:PySem.W.Frag} {mg:Str→Option Value} {base:Heap} {A:Ad}
def Au8 (H:Hp) (Q:VK) (ps:List B8):Prop:=∀ (H':Hp) (a:Addr) (as:List Addr),Ai [] H H'→H a=none→H' a=some (.lst (as.map V.ref))→YT H' as ps→Q (.ref a) H'
def Aqp (A:Ad):Sp:=fun vs H Q _=>∃ (t:TA) (w:FtTree.World),vs=[.ref t.a]∧Od A H t w∧FtW.WF w∧Au8 H Q (FtT.BQ w)
theorem HB (T:Tx K mg A):AY P w K mg base CX0 1 A.Bb A.Fc ["self"] (Aqp A):=by
  refine T.Dt.ok NM (fun vs H Q E h=>?_) (fun cdv Ar outer s H vs Q E hr h=>?_)
  · obtain ⟨t,w,rfl,_⟩:=h
    rfl
  · obtain ⟨t,w,rfl,⟨nd,⟨dx,i1⟩,⟨ks,i2,r2⟩,_,_,_⟩,W,k⟩:=h
    have hu:=AZ hr
    refine ⟨_,(Ae (Av (AS (Alb rfl) (by rfl) T.Ahz (by decide +kernel) (Aa (Al (pv 0) rfl) Ag)))),?_⟩
    walk_at "rd"
    refine ⟨_,_,_,i1,T.AF,T.C2,_,HK t _,t.dk,ks,(w.nodes.map (·.1)).map FtS.itz,rfl,i2,?_,?_,fun m a hi hp hs ha=>?_⟩
    · rw [AjV r2]
      simp only [List.map_map]
      exact List.map_congr_left fun x _=>Atr x.1
    · intro ns hns
      rw [List.map_map] at hns
      obtain ⟨x,hx,rfl⟩:=List.mem_map.mp hns
      exact Aob (FtU.Aom W hx)
    · obtain ⟨qs,p1,s1,t1⟩:=sorted_out hi hp hs
      rw [FtU.Agf W p1 s1] at t1
      exact k _ a _ (Ai.new ha) ha Ab (t1.keep (Ai.new (F:=[]) ha))
def AjI (A:Ad):Sp:=fun vs H Q _=>∃ (t:TA) (i:Nat) (w:FtTree.World),vs=[.ref t.a,.int ((i:Int) + 1)]∧Od A H t w∧FtW.WF w∧Au8 H Q (FtT.CN w i)
theorem JY (T:Tx K mg A):AY P w K mg base CX0 1 A.B4 A.Hd ["self","number"] (AjI A):=by
  refine T.EO.ok Gh (fun vs H Q E h=>?_) (fun cdv Ar outer s H vs Q E hr h=>?_)
  · obtain ⟨t,i,w,rfl,_⟩:=h
    rfl
  · obtain ⟨t,i,w,rfl,I,W,k⟩:=h
    have hu:=AZ hr
    obtain ⟨nd2,⟨dx,i1⟩,⟨hs,i4,r4⟩⟩:=I.hold
    refine ⟨_,(Ae (Av (AS (Alc rfl) (by rfl) T.Ahz (by decide +kernel) (Aa (Agg (AdB (own:=[("path",2)]) (tt:=AbO (tOp rEq (AjP (Asu K (Qe 0) "holders") (Qe 2)) (Qe 1))) (te:=Qe 2) rfl Gh.nd (Agh (Al (pv 0) rfl)) (Lp (N:=["self","number","path"]) (sc:=Af Cg) (by decide +kernel)) (fun _ _ _ _ _=>ET (i:=2) Gh.nd rfl (Or.inl rfl)) (fun _ _ _ _ _=>(Aop (Ao AX (K1 (by exact hu) (Al (pv 0) rfl) (pv 2) (fun _ _=>rfl)) (pv 1) (As _)))) (fun _ _ _ _ _=>(pv 2)))) Ag)))),?_⟩
    walk_at "rd"
    refine ⟨t.dh,_,i4,trivial,fun od=>⟨_,_,_,Aj i1 nd2,T.AF,T.B5,_,Ed t _,_,rfl,od,.inr ⟨hs,Ab,?_⟩⟩⟩
    have hlen:(FtW.sub FtW.fileOf w.nodes).length≤16:=Nat.le_trans (List.length_filterMap_le _ _) W.len
    have hLnd:((FtW.sub FtW.fileOf w.nodes).map (·.1)).Nodup:=FtW.AgJ W.nd
    have hLne:∀ x ∈ FtW.sub FtW.fileOf w.nodes,x.1≠[]:=by
      intro x hx
      obtain ⟨y,hy,e⟩:=List.mem_filterMap.mp hx
      cases q:FtW.fileOf y.2 with
      | none=>rw [q] at e; cases e
      | some j=>rw [q] at e; cases e; exact FtU.Aom W hy
    have hone:=fun {qs}=>FtU.Ajp W i (qs:=qs)
    unfold FtW.holdersOf at hone
    generalize FtW.sub FtW.fileOf w.nodes=L at r4 hlen hLnd hLne hone
    have hll:=r4.length
    refine YE hs.length (fun D j H'=>Ai [] (upd H t.dh (.frz od (.dT hs))) H'∧D≠t.dh∧∃ l:List (Addr × List Int),H' D=some (.lst ((l.map (·.1)).map V.ref))∧Aeh H' l∧l.map (·.2)=(((L.take j).filter fun x=>decide (x.2=i)).map (·.1)).map FtS.itz) ?_ ?_ ?_ ?_
    · intro D hD
      exact ⟨Ai.new hD,(fun q=>by subst q; rw [Ab] at hD; cases hD),[],Ab,(fun _ h=>by cases h),rfl⟩
    · rintro D j H' hj ⟨k2,_⟩
      exact ⟨k2.at_ _ _ Ab (by simp),hj⟩
    · rintro D j H' x H'' hD hj ⟨k2,hDd,l,h2,hi,hl⟩ ⟨rfl,kk,v,q,hkv,rfl,hq⟩
      obtain ⟨y,hy,e1,e2⟩:=De r4 hkv
      simp only at e1 e2
      subst e1
      rw [Ro] at hq
      walk_at "rd"
      refine ⟨_,_,_,k2.at_ _ _ (Aj i1 nd2) (by simp),T.AF,T.B5,_,Ed t _,_,rfl,v,.inr ⟨hs,kb y.1,q,.inr ⟨od,k2.at_ _ _ Ab (by simp)⟩,rfl,by rw [Ro]; exact hq,?_⟩,?_⟩
      · obtain ⟨v',hv',hv2⟩:=r4.some IV (k:=y.1) (x:=y.2) (FtW.DA hLnd (List.mem_of_getElem? hy))
        rw [hv']
        exact congrArg some (e2.trans hv2.symm)
      · rw [e2]
        refine ⟨rfl,?_⟩
        by_cases hy2:y.2=i
        · rw [if_pos (by rw [hy2])]
          refine ⟨_,h2,Bs ?_,AN k2 hD,hDd,l++[(q,FtS.itz y.1)],?_,?_,?_⟩
          · have e3:=congrArg List.length hl
            simp only [List.length_map] at e3
            have e4:=List.length_filter_le (fun x:FtTree.Bytes × Nat=>decide (x.2=i)) (L.take j)
            rw [List.length_take] at e4
            rw [List.length_map,List.length_map]
            omega
          · rw [Ab,List.map_append,List.map_append]; rfl
          · intro x hx
            rcases List.mem_append.mp hx with z | z
            · exact ⟨(hi x z).1,Aj (hi x z).2 (fun e=>by have:=(hi x z).2; rw [e,h2] at this; cases this)⟩
            · rw [List.mem_singleton] at z
              subst z
              exact ⟨Aob (hLne y (List.mem_of_getElem? hy)),Aj (by rw [← Kl]; exact hq) (fun e=>by rw [show q=D from e,h2] at hq; cases hq)⟩
          · rw [BC hy,List.filter_append,List.filter_cons,if_pos (by simp [hy2]),List.filter_nil,List.map_append,List.map_append,List.map_append,hl]; rfl
        · rw [if_neg (by rw [V.int.injEq]; omega)]
          refine ⟨k2,hDd,l,h2,hi,?_⟩
          rw [hl,BC hy,List.filter_append,List.filter_cons,if_neg (by simp [hy2]),List.filter_nil,List.append_nil]
    · rintro D H' hD ⟨k2,hDd,l,h2,hi,hl⟩
      refine ⟨⟨k2.at_ _ _ Ab (by simp),Nat.le_refl _⟩,k2.at_ _ _ Ab (by simp),?_⟩
      rw [hll,List.take_length] at hl
      have ku:=k2.unlock i4
      have hi2:Aeh (upd H' t.dh (.dT hs)) l:=fun x hx=>⟨(hi x hx).1,Aj (hi x hx).2 (fun e=>by have:=(hi x hx).2; rw [e,k2.at_ _ _ Ab (by simp)] at this; cases this)⟩
      refine ⟨D,l,rfl,SqL.of (Aj h2 hDd),hi2,fun m a pm sm ha=>?_⟩
      obtain ⟨qs,p1,s1,t1⟩:=sorted_out (fun x hx=>hi2 x (pm.mem_iff.mp hx)) (by rw [← hl]; exact pm.map _) sm
      rw [hone p1 s1] at t1
      exact k _ a _ (ku.trans (Ai.new ha)) (ku.Fz ha) Ab (t1.keep (Ai.new (F:=[]) ha))
def Aqo (A:Ad):Sp:=fun vs H Q _=>∃ (t:TA) (b:Addr) (p:B8) (w:FtTree.World),vs=[.ref t.a,.ref b]∧Od A H t w∧FtW.WF w∧H b=some (.tup (bv p))∧Ans H Q (match (FtT.BQ w).find? (FtTree.before p) with
    | some q=>0::FtS.itz q
    | none=>[-1])
theorem JZ {w:FtTree.World} (W:FtW.WF w) {p:B8} (h:p ∈ FtT.BQ w):p.length≤255:=by
  obtain ⟨n,hn⟩:=Option.isSome_iff_exists.mp (FtT.Wo.mp h)
  have:=W.BQ _ (FtW.Ht hn)
  unfold FtTree.isPath at this
  simp only [Bool.and_eq_true,decide_eq_true_eq] at this
  exact this.1
theorem AsU {α:Type} {f:α→Bool} {l:List α} {i:Nat} {q:α} (h:(l.take i).find? f=none) (e:l[i]? = some q):(f q=true→l.find? f=some q)∧(f q=false→(l.take (i + 1)).find? f=none):=by
  constructor
  · intro hq
    have hlt:i < l.length:=(List.getElem?_eq_some_iff.mp e).1
    have hd:l.drop i=q::l.drop (i + 1):=by
      rw [List.drop_eq_getElem_cons hlt]
      rw [List.getElem?_eq_getElem hlt] at e
      rw [Option.some.inj e]
    rw [← List.take_append_drop i l,List.find?_append,h,hd,List.find?_cons_of_pos hq]; rfl
  · intro hq
    rw [BC e,List.find?_append,h,List.find?_cons_of_neg (by simp [hq])]; rfl
theorem Abe (T:Tx K mg A):AY P w K mg base CX0 2 A.CP A.KZ ["tree","path"] (Aqo A):=by
  refine T.F9.ok PQ (fun vs H Q E h=>?_) (fun cdv Ar outer s H vs Q E hr h=>?_)
  · obtain ⟨t,b,p,w,rfl,_⟩:=h
    rfl
  · obtain ⟨t,b,p,w,rfl,I,W,hb,k⟩:=h
    have hu:=AZ hr
    refine ⟨_,(Ac (PH PassesOwn.never rfl (K6 (CL (pv 0) T.AF T.Im (HB T) (hr.mono (by decide)) T.Dq .nil A1)) (ET (i:=2) PQ.nd rfl (Or.inl rfl)) (Ae (AD (Ao (AvI (by exact hr.AwA)) (pv 2) (pv 1) (As _)) (Ae (Av (CY Wm (BI (Aa Ap Ag)) (Ju Ma (by rfl) T.AkR (by decide +kernel) (Aa (pv 2) Ag))))) A7)))
      (Ae (Av (BI (Aa (Abm T7 Ap) Ag))))),?_⟩
    walk_at "rd"
    obtain ⟨dx,i1⟩:=I.ins
    refine ⟨_,_,i1,rfl,t,w,rfl,I,W,fun H1 l as k1 hl h1 tt=>?_⟩
    refine ⟨l,rfl,⟨_,SqL.of h1⟩,?_⟩
    have hal:as.length=(FtT.BQ w).length:=Paired.length tt
    have hb1:=k1.tup _ _ hb
    refine L6 (as.map V.ref) (fun i σ H'=>H'=H1∧(∃ v,σ=[some (.ref t.a),some (.ref b),v])∧((FtT.BQ w).take i).find? (FtTree.before p)=none) ⟨rfl,⟨none,rfl⟩,rfl⟩ (fun i σ H' _ ⟨e,_⟩=>by rw [e]; exact SqL.of h1) ?_ ?_
    · rintro i x σ H' hi ⟨rfl,⟨v,rfl⟩,hf⟩
      rw [List.getElem?_map] at hi
      cases ha:as[i]? with
      | none=>rw [ha] at hi; cases hi
      | some a =>
        rw [ha] at hi
        cases hi
        obtain ⟨q,hq,hqa⟩:=De tt ha
        obtain ⟨f1,f2⟩:=AsU hf hq
        walk_at "rd"
        refine ⟨FtS.itz q,by rw [← Kl]; exact SqT.of hqa,FtS.itz p,by rw [← Kl]; exact SqT.of hb1,?_⟩
        rw [S1]
        cases hbf:FtTree.before p q with
        | true =>
          rw [f1 hbf] at k
          have hq5:=JZ W (List.mem_of_getElem? hq)
          rw [if_pos rfl]
          refine ⟨by decide,fun z hz=>⟨_,.inr (SqT.of (BW hqa hz)),fun l2 hl2=>⟨_,BW Ab hl2,_,Ab,Br (by rw [Az]; show 1 + _≤_; omega),fun p1 hp1=>?_⟩⟩⟩
          have kk:=(k1.trans (Ai.new (o:=.lst [V.int 0]) hz)).trans (Ai.new (o:=.lst (bv q)) hl2)
          refine k _ p1 (kk.trans (Ai.new hp1)) (kk.Fz hp1) ?_
          rw [Ab,Kl]; rfl
        | false =>
          rw [if_neg (by simp)]
          exact f2 hbf
    · rintro σ H' ⟨rfl,⟨v,rfl⟩,hf⟩
      rw [List.length_map,hal,List.take_length] at hf
      rw [hf] at k
      walk_at "rd"
      exact ⟨by decide,fun a ha=>k _ a (k1.trans (Ai.new ha)) (k1.Fz ha) Ab⟩
def AmI (A:Ad):Sp:=fun vs H Q _=>∃ (t:TA) (b:Addr) (p:B8) (w:FtTree.World),vs=[.ref t.a,.ref b]∧Od A H t w∧FtW.WF w∧H b=some (.tup (bv p))∧Ans H Q (match FtW.val w.nodes p with
    | none=>[-1]
    | some (.file i)=>0::(FtT.CN w i).flatMap fun q=>(q.length:Int)::FtS.itz q
    | some _=>[-2])
theorem ZS:∀ {ps:List B8},(∀ q ∈ ps,q.length≤255)→(ps.flatMap fun q=>(q.length:Int)::FtS.itz q).length≤256 * ps.length
  | [],_=>Nat.zero_le _
  | q::ps,h=>by
    have ih:=ZS fun x hx=>h x (List.mem_cons_of_mem _ hx)
    have hq:=h q (List.mem_cons_self ..)
    rw [List.flatMap_cons,List.length_append,List.length_cons,List.length_cons,FtS.itz,List.length_map]
    omega
theorem WU (w:FtTree.World) (p:B8):(Ab1 w.nodes p [1]≠0∧(match FtW.val w.nodes p with
    | none=>[-1]
    | some (.file i)=>0::(FtT.CN w i).flatMap fun q=>(q.length:Int)::FtS.itz q
    | some _=>[-2])=[Ab1 w.nodes p [1]])∨(Ab1 w.nodes p [1]=0∧∃ i,FtW.val w.nodes p=some (.file i)):=by
  unfold Ab1 WO
  cases FtW.val w.nodes p with
  | none=>exact .inl ⟨by decide,rfl⟩
  | some v =>
    cases v with
    | dir=>exact .inl ⟨by decide,rfl⟩
    | link d=>exact .inl ⟨by simp [FtW.kindNo],rfl⟩
    | file i=>exact .inr ⟨rfl,i,rfl⟩
theorem Yn (T:Tx K mg A):AY P w K mg base CX0 3 A.C7 A.JQ ["tree","path"] (AmI A):=by
  refine T.EW.ok FU (fun vs H Q E h=>?_) (fun cdv Ar outer s H vs Q E hr h=>?_)
  · obtain ⟨t,b,p,w,rfl,_⟩:=h
    rfl
  · obtain ⟨t,b,p,w,rfl,I,W,hb,k⟩:=h
    have hu:=AZ hr
    refine ⟨_,(Ac (Be (i:=2) FU.nd rfl (Or.inl rfl) (AJ (Lf T) (hr.mono (by decide)) (by rfl) T.LO T.Eh.kp T.GI .nil A1 (Aa (pv 0) (Aa (pv 1) (Aa (HL (Aa (Ak T.OS) Ag)) Ag)))))
      (Ac (AD (Ao IW (pv 2) Ap (As _)) (Ae (Av (BI (Aa (pv 2) Ag)))) A7)
      (Ac (Be (i:=3) FU.nd rfl (Or.inl rfl) (BI (Aa Ap Ag)))
      (Ac (PH PassesOwn.never rfl (K6 (AH (pv 0) T.AF T.Kk (JY T) (hr.mono (by decide)) T.EG .nil A1 (Aa (AH (pv 0) T.AF T.GR (FP T) (hr.mono (by decide)) T.DH .nil A1 (Aa (pv 1) Ag)) Ag))) (ET (i:=4) FU.nd rfl (Or.inl rfl)) (Ac (AE (Gz PySem.F.plainAttrs_list PySem.F.slot_list_append PySem.F.type_list_append Fv (pv 3) (Aa (AS AI (by rfl) T.Es PySem.boot_len (Aa (pv 4) Ag)) Ag)))
      (Ae (AE (Gz PySem.F.plainAttrs_list PySem.F.slot_list_extend PySem.F.type_list_extend S5 (pv 3) (Aa (pv 4) Ag))))))
      (Ae (Av (pv 3))))))),?_⟩
    walk_at "rd"
    refine ⟨by decide,fun f hf=>?_⟩
    have kf:Ai [] H (upd H f (.tup [V.int 1])):=Ai.new hf
    refine ⟨t,b,f,p,[1],w.nodes,_,_,rfl,I.BN kf,kf.tup _ _ hb,SqT.of Ab,rfl,?_⟩
    obtain ⟨dx,i1⟩:=I.ins
    have ref:∀ l:List Int,Ans H Q l→∀ x,l=[x]→∀ a,upd H f (.tup [V.int 1]) a=none→Q (.ref a) (upd (upd H f (.tup [V.int 1])) a (.lst [V.int x])):=fun l k x e a ha=>by subst e; exact k _ a (kf.trans (Ai.new ha)) (kf.Fz ha) Ab
    rcases WU w p with ⟨h1,h2⟩ | ⟨h1,i,hv⟩
    · rw [if_pos (by simpa using h1)]
      exact ⟨by decide,ref _ k _ h2⟩
    · rw [hv] at k
      dsimp only at k
      rw [if_neg (by simp [h1])]
      refine ⟨by decide,fun z hz=>?_⟩
      have kz:=kf.trans (Ai.new (o:=.lst [V.int 0]) hz)
      have hz0:=kf.Fz hz
      refine ⟨_,_,kz.at_ _ _ i1 (by simp),rfl,_,_,kz.at_ _ _ i1 (by simp),rfl,t,b,p,w.nodes,_,_,rfl,I.BN kz,kz.tup _ _ hb,?_⟩
      rw [show FtW.val (FtW.sub FtW.fileOf w.nodes) p=some i by rw [FtW.val_sub W.nd,hv]; rfl]
      refine ⟨t,i,w,rfl,I.BN kz,W,fun H1 l as k1 hl h1' tt=>⟨l,rfl,⟨_,SqL.of h1'⟩,?_⟩⟩
      have hzl:l≠z:=fun e=>by rw [e,Ab] at hl; cases hl
      have hal:as.length=(FtT.CN w i).length:=Paired.length tt
      have hps:∀ q ∈ FtT.CN w i,q.length≤255:=fun q hq=>JZ W (List.mem_filter.mp hq).1
      have hpl:(FtT.CN w i).length≤16:=Nat.le_trans (List.length_filter_le _ _) (by rw [FtT.LC]; exact W.len)
      have hz1:=k1.at_ _ _ (show upd (upd H f (.tup [V.int 1])) z (.lst [V.int 0]) z=_ from Ab) (by simp)
      have kk:=kz.trans k1
      generalize FtT.CN w i=ps at k tt hal hps hpl
      refine L6 (as.map V.ref) (fun j σ H'=>Ai [] H H'∧(∃ v,σ=[some (.ref t.a),some (.ref b),some (V.int (Ab1 w.nodes p [1])),some (.ref z),v])∧H' z=some (.lst (((0:Int)::(ps.take j).flatMap fun q=>(q.length:Int)::FtS.itz q).map V.int))∧H' l=some (.lst (as.map V.ref))∧YT H' as ps) ⟨kk,⟨none,rfl⟩,hz1,h1',tt⟩ (fun j σ H' _ h=>SqL.of h.2.2.2.1) ?_ ?_
      · rintro j x σ H' hj ⟨k2,⟨v,rfl⟩,h2,h3,t2⟩
        rw [List.getElem?_map] at hj
        cases ha:as[j]? with
        | none=>rw [ha] at hj; cases hj
        | some a =>
          rw [ha] at hj
          cases hj
          obtain ⟨q,hq,hqa⟩:=De t2 ha
          have hlt:j < ps.length:=(List.getElem?_eq_some_iff.mp hq).1
          walk_at "rd"
          have hza:∀ {a':Addr} {q':B8},H' a'=some (.tup (bv q'))→a'≠z:=fun e1 e2=>by rw [e2,h2] at e1; cases e1
          have hfl:=ZS (ps:=ps.take j) fun q hq=>hps q (List.mem_of_mem_take hq)
          rw [List.length_take] at hfl
          have hq5:=hps q (List.mem_of_getElem? hq)
          refine ⟨.inl ⟨rfl,_,SqL.of h2⟩,_,.inr (SqT.of hqa),_,h2,Bs ?_,.inl ⟨rfl,_,SqL.of Ab⟩,_,Ab,_,SqT.of (Aj hqa (hza hqa)),Br ?_,AN (AN k2 hz0) hz0,?_,Aj (Aj h3 hzl) hzl,CK t2 fun a' q' _ e=>Aj (Aj e (hza e)) (hza e)⟩
          · rw [List.length_map,List.length_cons]; omega
          · rw [List.length_append,List.length_map,List.length_cons,Az]
            show _ + 1 + 1 + _≤_
            omega
          · rw [Ab,BC hq,List.flatMap_append,List.map_append,Az,Kl]; simp
      · rintro σ H' ⟨k2,⟨v,rfl⟩,h2,h3,t2⟩
        rw [List.length_map,hal,List.take_length] at h2
        walk_at "rd"
        exact k _ z k2 hz0 h2
end
theorem AbU {c:TT} {tb:TS} {D:Ends} {σ:L2.St} {H:Hp} (n:Nat) (Pv:Nat→L2.St→Hp→Prop) (h0:Pv 0 σ H)
    (hs:∀ k σ H,Pv k σ H→c σ H fun b H1=>if b=true then k < n∧tb { D with nx:=Pv (k + 1),ct:=Pv (k + 1),bk:=D.nx } σ H1 else D.nx σ H1) (mono:MT c):AmU c tb D σ H:=by
  refine ⟨fun m σ H=>∃ k,m=n - k∧Pv k σ H,⟨_,0,rfl,h0⟩,?_⟩
  rintro m σ H ⟨k,rfl,p⟩
  refine mono σ H _ _ (fun b H1 q=>?_) (hs k σ H p)
  cases b with
  | true=>rw [if_pos rfl] at q ⊢; exact ⟨Pv (k + 1),fun σ' H' p'=>⟨n - (k + 1),by omega,k + 1,rfl,p'⟩,q.2⟩
  | false=>exact q
theorem Af5 {K:PySem.W.Frag}:MC (fun xs H Q=>∃ p,xs=[.ref p]∧∃ ys,(SqL K H p ys∨SqT K H p ys)∧Q (.int ys.length) H):=fun x H Q Q' m ⟨p,e,ys,h,q⟩=>⟨p,e,ys,h,m _ _ q⟩
section
variable {P:Program} {w:World} {K:PySem.W.Frag} {mg:Str→Option Value} {base:Heap} {A:Ad}
def AsI (H:Hp) (Q:VK) (l:B8):Prop:=∀ (H':Hp) (a:Addr),Ai [] H H'→H a=none→H' a=some (.lst (bv l))→Q (.ref a) H'
def ArS:Sp:=fun vs H Q _=>∃ n:Nat,vs=[.int (n:Int)]∧n < 16∧Q (.int ((FtTree.hexDigit n).toNat:Int)) H
theorem Ami (T:Tx K mg A):AY P w K mg base CX0 1 A.Gn A.VJ ["digit"] ArS:=by
  refine T.Lj.ok Am3 (fun vs H Q E h=>?_) (fun cdv Ar outer s H vs Q E hr h=>?_)
  · obtain ⟨n,rfl,_⟩:=h
    rfl
  · obtain ⟨n,rfl,hn,k⟩:=h
    refine ⟨_,(Ac (AD (Ao Xa (pv 0) Ap (As _)) (Ae (Av (CY Ge (pv 0) Ap))) A7)
      (Ae (Av (CY Ge (pv 0) Ap)))),?_⟩
    walk_at "rd"
    rw [FtU.Afi hn] at k
    split
    · rename_i h; rw [if_pos h] at k; exact k
    · rename_i h; rw [if_neg h] at k; exact k
def ArV:Sp:=fun vs H Q _=>∃ n:Nat,vs=[.int (n:Int)]∧AsI H Q (FtTree.hex8 n)
theorem AfX (T:Tx K mg A):AY P w K mg base CX0 2 A.DW A.OF ["number"] ArV:=by
  refine T.Ih.ok M8 (fun vs H Q E h=>?_) (fun cdv Ar outer s H vs Q E hr h=>?_)
  · obtain ⟨n,rfl,_⟩:=h
    rfl
  · obtain ⟨n,rfl,k⟩:=h
    have hu:=AZ hr
    refine ⟨_,(Ac (Be (i:=1) M8.nd rfl (Or.inl rfl) (BI Ag))
      (Ac (Vj PassesOwn.never (Ao Xa (AS AI (by rfl) T.Es PySem.boot_len (Aa (pv 1) Ag)) (Ak T.Aaa) (As _)) (Ac (AE (Gz PySem.F.plainAttrs_list PySem.F.slot_list_append PySem.F.type_list_append Fv (pv 1) (Aa (AJ (Ami T) (hr.mono (by decide)) (by rfl) T.AoA T.Lj.kp T.Vu .nil A1 (Aa (CY Ar2 (pv 0) Ap) Ag)) Ag)))
      (Ae (Tj (i:=0) M8.nd rfl (Or.inl rfl) Ap Atn))))
      (Ac (AE (AvL PySem.F.plainAttrs_list PySem.F.slot_list_reverse PySem.F.type_list_reverse AlU (pv 1)))
      (Ae (Av (pv 1)))))),?_⟩
    walk_at "rd"
    refine ⟨Nat.zero_le _,fun a ha=>?_⟩
    refine AbU 8 (fun j σ H'=>σ=[some (.int ((n / 16 ^ j:Nat):Int)),some (.ref a)]∧Ai [] H H'∧H' a=some (.lst (bv (FtU.low n j)))∧j≤8) ?_ ?_ ?_
    · exact ⟨by simp,Ai.new ha,Ab,by decide⟩
    · rintro j σ H' ⟨rfl,k1,h1,hj⟩
      walk_at "rd"
      refine ⟨_,.inl (SqL.of h1),?_⟩
      rw [Az,FtU.Aoe]
      by_cases h8:j < 8
      · rw [if_pos (by omega)]
        refine ⟨h8,?_⟩
        have m1:∀ m:Nat,((m:Int) % 16)=((m % 16:Nat):Int):=fun m=>by omega
        have m2:∀ m:Nat,((m:Int) / 16)=((m / 16:Nat):Int):=fun m=>by omega
        refine ⟨.inl ⟨rfl,_,SqL.of h1⟩,by decide,n / 16 ^ j % 16,by rw [m1],Nat.mod_lt _ (by decide),_,h1,Bs (by rw [Az,FtU.Aoe]; omega),⟨by decide,by decide⟩,?_,AN k1 ha,?_,by omega⟩
        · rw [m2,Nat.div_div_eq_div_mul,← Nat.pow_succ]
        · rw [Ab,FtU.Arw]
          unfold bv
          rw [List.map_append]; rfl
      · rw [if_neg (by omega)]
        have:j=8:=by omega
        subst this
        refine ⟨.inl ⟨rfl,_,SqL.of h1⟩,_,h1,?_⟩
        refine k _ a (AN k1 ha) ha ?_
        rw [Ab,← FtU.At4]
        unfold bv
        rw [List.map_reverse]
    · exact Va (Ad8 Aok (Ary Af5 (Af4 Pn AlQ)) AvE)
def Aql:Sp:=fun vs H Q _=>∃ a b c d e:Nat,vs=[.int (a:Int),.int (b:Int),.int (c:Int),.int (d:Int),.int (e:Int)]∧AsI H Q (FtU.Ib (FtU.JT a b c d e))
theorem Ajj (T:Tx K mg A):AY P w K mg base CX0 3 A.Fg A.RT ["serial","mode","names","size","length"] Aql:=by
  refine T.J9.ok PN (fun vs H Q E h=>?_) (fun cdv Ar outer s H vs Q E hr h=>?_)
  · obtain ⟨a,b,c,d,e,rfl,_⟩:=h
    rfl
  · obtain ⟨a,b,c,d,e,rfl,k⟩:=h
    have hu:=AZ hr
    refine ⟨_,(Ac (Be (i:=5) PN.nd rfl (Or.inl rfl) (Ju Ma (by rfl) T.AkR (by decide +kernel) (Aa (Hm T.AgQ) Ag)))
      (Ac (PH PassesOwn.never rfl (Ar9 (HL (Aa (pv 0) (Aa (pv 1) (Aa Ap (Aa Ap (Aa (pv 2) (Aa Ap (Aa (pv 3) (Aa Ap (Aa Ap (Aa Ap (Aa Ap (Aa (pv 4) (Aa Ap Ag))))))))))))))) (ET (i:=6) PN.nd rfl (Or.inl rfl)) (Ae (AE (Gz PySem.F.plainAttrs_list PySem.F.slot_list_extend PySem.F.type_list_extend Gx (pv 5) (Aa (AJ (AfX T) (hr.mono (by decide)) (by rfl) T.Ahd T.Ih.kp T.NV .nil A1 (Aa (pv 6) Ag)) Ag)))))
      (Ae (Av (pv 5))))),?_⟩
    walk_at "rd"
    refine ⟨_,.inr (T.Jg H),fun r hr1=>⟨by decide,fun z hz=>?_⟩⟩
    refine ⟨⟨_,SqT.of Ab⟩,?_⟩
    have hx:[V.int (a:Int),V.int (b:Int),V.int 0,V.int 0,V.int (c:Int),V.int 0,V.int (d:Int),V.int 0,V.int 0,V.int 0,V.int 0,V.int (e:Int),V.int 0]=(FtU.JT a b c d e).map fun n:Nat=>V.int (n:Int):=rfl
    have hl:(FtU.JT a b c d e).length=13:=rfl
    rw [hx]
    generalize FtU.JT a b c d e=nums at k hl
    have hzr:z≠r:=fun q=>by rw [q,Ab] at hz; cases hz
    have hz0:H z=none:=by rw [A9 hzr] at hz; exact hz
    refine AiM (nums.map fun n:Nat=>V.int (n:Int)) (fun i σ H'=>∃ v,σ=[some (.int (a:Int)),some (.int (b:Int)),some (.int (c:Int)),some (.int (d:Int)),some (.int (e:Int)),some (.ref r),v]∧Ai [] H H'∧H' r=some (.lst (bv (FtU.Ib (nums.take i))))∧H' z=some (.tup (nums.map fun n:Nat=>V.int (n:Int)))) ?_ ?_ ?_ ?_
    · exact ⟨none,rfl,(Ai.new hr1).trans (Ai.new hz),BW Ab hz,Ab⟩
    · rintro i σ H' _ ⟨v,rfl,k1,h1,h2⟩
      exact SqT.of h2
    · rintro i x σ H' hi ⟨v,rfl,k1,h1,h2⟩
      rw [List.getElem?_map] at hi
      cases hn:nums[i]? with
      | none=>rw [hn] at hi; cases hi
      | some n =>
        rw [hn] at hi
        cases hi
        have hlt:i < nums.length:=(List.getElem?_eq_some_iff.mp hn).1
        walk_at "rd"
        refine ⟨.inl ⟨rfl,_,SqL.of h1⟩,n,rfl,fun H1 a1 k2 ha1 h3=>⟨a1,rfl,_,k2.at_ _ _ h1 (by simp),_,h3,Br ?_,AN (k1.trans k2) hr1,?_,Aj (k2.tup _ _ h2) hzr⟩⟩
        · rw [Az,Az,FtU.OP,FtU.Aij,List.length_take]; omega
        · rw [Ab,BC hn,FtU.Afh]
          unfold bv
          rw [List.map_append]
    · rintro σ H' ⟨v,rfl,k1,h1,h2⟩
      walk_at "rd"
      rw [List.length_map,List.take_length] at h1
      exact k _ r k1 hr1 h1
def Asb (K:PySem.W.Frag):Sp:=fun vs H Q _=>∃ (b e:Addr) (p d:B8) (x y z:Nat),vs=[.ref b,.int (x:Int),.int (y:Int),.int (z:Int),.ref e]∧SqT K H b (bv p)∧SqT K H e (bv d)∧p.length≤1000∧d.length≤1000∧AsI H Q (FtTree.writeItem x y z p d)
theorem M0 (T:Tx K mg A):AY P w K mg base CX0 4 A.Gr A.VN ["name","serial","mode","names","data"] (Asb K):=by
  refine T.Gj.ok Ab4 (fun vs H Q E h=>?_) (fun cdv Ar outer s H vs Q E hr h=>?_)
  · obtain ⟨b,e,p,d,x,y,z,rfl,_⟩:=h
    rfl
  · obtain ⟨b,e,p,d,x,y,z,rfl,hb,he,hp,hd,k⟩:=h
    have hu:=AZ hr
    refine ⟨_,(Ac (Be (i:=5) Ab4.nd rfl (Or.inl rfl) (AJ (Ajj T) (hr.mono (by decide)) (by rfl) T.Ak6 T.J9.kp T.Ru .nil A1 (Aa (pv 1) (Aa (pv 2) (Aa (pv 3) (Aa (AS AI (by rfl) T.Es PySem.boot_len (Aa (pv 4) Ag)) (Aa (CY Ge (AS AI (by rfl) T.Es PySem.boot_len (Aa (pv 0) Ag)) Ap) Ag)))))))
      (Ac (AE (Gz PySem.F.plainAttrs_list PySem.F.slot_list_extend PySem.F.type_list_extend S5 (pv 5) (Aa (pv 0) Ag)))
      (Ac (AE (Gz PySem.F.plainAttrs_list PySem.F.slot_list_append PySem.F.type_list_append Fv (pv 5) (Aa Ap Ag)))
      (Ac (AE (Gz PySem.F.plainAttrs_list PySem.F.slot_list_extend PySem.F.type_list_extend Gx (pv 5) (Aa (CY Ar4 (BI (Aa Ap Ag)) (AJ (FQ T) (hr.mono (by decide)) (by rfl) T.GP T.C5.kp T.DI .nil A1 (Aa (AS AI (by rfl) T.Es PySem.boot_len (Aa (pv 5) Ag)) Ag))) Ag)))
      (Ac (AE (Gz PySem.F.plainAttrs_list PySem.F.slot_list_extend PySem.F.type_list_extend S5 (pv 5) (Aa (pv 4) Ag)))
      (Ac (AE (Gz PySem.F.plainAttrs_list PySem.F.slot_list_extend PySem.F.type_list_extend Gx (pv 5) (Aa (CY Ar4 (BI (Aa Ap Ag)) (AJ (FQ T) (hr.mono (by decide)) (by rfl) T.GP T.C5.kp T.DI .nil A1 (Aa (AS AI (by rfl) T.Es PySem.boot_len (Aa (pv 4) Ag)) Ag))) Ag)))
      (Ae (Av (pv 5))))))))),?_⟩
    walk_at "rd"
    refine ⟨_,.inr he,_,.inr hb,x,y,z,d.length,p.length + 1,by rw [Az,Az]; rfl,fun H1 a k1 ha h1=>?_⟩
    generalize hR:FtU.Ib (FtU.JT x y z d.length (p.length + 1))=R at h1
    have hRl:R.length=110:=by rw [← hR,FtU.OP]; rfl
    refine ⟨.inl ⟨rfl,_,SqL.of h1⟩,a,rfl,_,h1,bv p,hb.keep k1,Br (by rw [Az,Az]; omega),.inl ⟨rfl,_,SqL.of Ab⟩,a,rfl,_,Ab,Bs (by rw [List.length_append,Az,Az]; omega),.inl ⟨rfl,_,SqL.of Ab⟩,by decide,fun q hq=>?_⟩
    have rep:∀ n:Nat,(List.replicate ((n:Int)).toNat [V.int 0]).flatten=bv (FtTree.zeros n):=by
      intro n
      unfold FtTree.zeros bv
      rw [Int.toNat_natCast,List.map_replicate]
      induction n with
      | zero=>rfl
      | succ n ih=>rw [List.replicate_succ,List.flatten_cons,ih,List.replicate_succ]; rfl
    have cat:∀ u v:B8,bv u++bv v=bv (u++v):=fun u v=>by unfold bv; rw [List.map_append]
    have K2:=((AN (o:=.lst (bv R++bv p++[V.int 0])) (AN (o:=.lst (bv R++bv p)) k1 ha) ha)).trans (Ai.new (o:=.lst [V.int 0]) hq)
    have A2:upd (upd (upd H1 a (HO.lst (bv R++bv p))) a (HO.lst (bv R++bv p++[V.int 0]))) q (HO.lst [V.int 0]) a=some (.lst (bv ((R++p)++[0]))):=by
      rw [BW Ab hq,← cat,← cat]; rfl
    have Q2:upd (upd (upd H1 a (HO.lst (bv R++bv p))) a (HO.lst (bv R++bv p++[V.int 0]))) q (HO.lst [V.int 0]) q=some (.lst [V.int 0]):=Ab
    generalize upd (upd (upd H1 a (HO.lst (bv R++bv p))) a (HO.lst (bv R++bv p++[V.int 0]))) q (HO.lst [V.int 0])=H2 at K2 A2 Q2
    have l2:((R++p)++[(0:UInt8)]).length=110 + (p.length + 1):=by
      rw [List.length_append,List.length_append,hRl]; rfl
    have z2:=FtU.Age (110 + (p.length + 1))
    have z4:=FtU.Age d.length
    generalize hR2:(R++p)++[(0:UInt8)]=R2 at A2 l2
    refine ⟨a,rfl,_,.inl (SqL.of A2),110 + (p.length + 1),by rw [Az,l2],?_⟩
    refine ⟨_,rfl,_,Q2,by omega,by omega,Br (by rw [Int.toNat_natCast]; show 1 * _≤_; omega),fun q3 hq3=>?_⟩
    rw [rep]
    have K3:=K2.trans (Ai.new (o:=.lst (bv (FtTree.zeros (FtTree.padding (110 + (p.length + 1)))))) hq3)
    have A3:=BW (o:=.lst (bv (FtTree.zeros (FtTree.padding (110 + (p.length + 1)))))) A2 hq3
    refine ⟨a,rfl,_,A3,_,Ab,Br (by rw [Az,Az,l2,FtU.Qy]; omega),?_⟩
    rw [cat]
    have K4:=AN (o:=.lst (bv (R2++FtTree.zeros (FtTree.padding (110 + (p.length + 1)))))) K3 ha
    generalize hR4:R2++FtTree.zeros (FtTree.padding (110 + (p.length + 1)))=R4 at K4
    have l4:R4.length≤p.length + 114:=by rw [← hR4,List.length_append,l2,FtU.Qy]; omega
    have A4:upd (upd H2 q3 (HO.lst (bv (FtTree.zeros (FtTree.padding (110 + (p.length + 1))))))) a (.lst (bv R4)) a=some (.lst (bv R4)):=Ab
    generalize upd (upd H2 q3 (HO.lst (bv (FtTree.zeros (FtTree.padding (110 + (p.length + 1))))))) a (.lst (bv R4))=H4 at K4 A4
    refine ⟨.inl ⟨rfl,_,SqL.of A4⟩,a,rfl,_,A4,bv d,he.keep K4,Br (by rw [Az,Az]; omega),?_⟩
    rw [cat]
    have K5:=AN (o:=.lst (bv (R4++d))) K4 ha
    have A5:upd H4 a (.lst (bv (R4++d))) a=some (.lst (bv (R4++d))):=Ab
    generalize upd H4 a (.lst (bv (R4++d)))=H5 at K5 A5
    refine ⟨.inl ⟨rfl,_,SqL.of A5⟩,by decide,fun q6 hq6=>?_⟩
    refine ⟨_,.inr (he.keep (K5.trans (Ai.new hq6))),d.length,by rw [Az],?_⟩
    refine ⟨_,rfl,_,Ab,by omega,by omega,Br (by rw [Int.toNat_natCast]; show 1 * _≤_; omega),fun q7 hq7=>?_⟩
    rw [rep]
    refine ⟨a,rfl,_,BW (BW A5 hq6) hq7,_,Ab,Br (by rw [Az,Az,FtU.Qy,List.length_append]; omega),?_⟩
    rw [cat]
    refine k _ a (AN ((K5.trans (Ai.new hq6)).trans (Ai.new hq7)) ha) ha ?_
    rw [Ab,FtU.Vt,← hR4,← hR2,← hR]
def Ser (H:Hp) (ds:Addr) (seen:List Nat):Prop:=∃ ss,H ds=some (.dK ss)∧EY nk isN ss (FtT.FV seen)
def AmE (A:Ad):Sp:=fun vs H Q _=>∃ (t:TA) (b ds:Addr) (p:B8) (w:FtTree.World) (i:Nat) (seen:List Nat),vs=[.ref t.a,.ref b,.ref ds]∧Od A H t w∧FtW.WF w∧H b=some (.tup (bv p))∧FtW.val w.nodes p=some (.file i)∧ds ∉ t.fp∧Ser H ds seen∧seen.length≤16 ∧
  ∀ (H':Hp) (a:Addr),Ai [ds] H H'→H a=none→H' a=some (.lst (bv (FtT.itemAt w seen p).1))→Ser H' ds (FtT.itemAt w seen p).2→Q (.ref a) H'
theorem AfY (T:Tx K mg A):AY P w K mg base CX0 5 A.DX A.OG ["tree","path","serials"] (AmE A):=by
  refine T.Ii.ok Jf (fun vs H Q E h=>?_) (fun cdv Ar outer s H vs Q E hr h=>?_)
  · obtain ⟨t,b,ds,p,w,i,seen,rfl,_⟩:=h
    rfl
  · obtain ⟨t,b,ds,p,w,i,seen,rfl,I,W,hb,hv,hds,⟨ss,s1,s2⟩,hsl,k⟩:=h
    have hu:=AZ hr
    refine ⟨_,(Ac (Be (i:=3) Jf.nd rfl (Or.inl rfl) (AH (pv 0) T.AF T.GR (FP T) (hr.mono (by decide)) T.DH .nil A1 (Aa (pv 1) Ag)))
      (Ac (Be (i:=4) Jf.nd rfl (Or.inl rfl) (HL Ag))
      (Ac (AD (Amz (ApX (by exact hu) (pv 3) (pv 2))) (Ac (Jc (by exact hu) (pv 2) (pv 3) (CY Ge (AS Apc (by rfl) T.Es PySem.boot_len (Aa (pv 2) Ag)) Ap) rfl)
      (Ae (Be (i:=4) Jf.nd rfl (Or.inl rfl) (AH (pv 0) T.AF T.GQ (FO T) (hr.mono (by decide)) T.DG .nil A1 (Aa (pv 1) Ag))))) A7)
      (Ae (Av (AJ (M0 T) (hr.mono (by decide)) (by rfl) T.Qk T.Gj.kp T.Jj .nil A1 (Aa (pv 1) (Aa (K1 (by exact hu) (pv 2) (pv 3) (fun _ _=>rfl)) (Aa (Ak T.Aio) (Aa (AS AI (by rfl) T.Es PySem.boot_len (Aa (AH (pv 0) T.AF T.Kk (JY T) (hr.mono (by decide)) T.EG .nil A1 (Aa (pv 3) Ag)) Ag)) (Aa (pv 4) Ag))))))))))),?_⟩
    walk_at "rd"
    obtain ⟨dx,i1⟩:=I.ins
    refine ⟨_,_,i1,rfl,t,b,p,w.nodes,_,_,rfl,I,hb,?_⟩
    rw [show FtW.val (FtW.sub FtW.fileOf w.nodes) p=some i by rw [FtW.val_sub W.nd,hv]; rfl]
    refine ⟨Nat.zero_le _,fun e he=>?_⟩
    have ke:Ai [] H (upd H e (.tup [])):=Ai.new he
    have s1e:=ke.at_ _ _ s1 (by simp)
    have hp5:p.length≤255:=JZ W (FtT.Wo.mpr (by rw [hv]; rfl))
    have hby:=FtU.Zm W hv
    refine ⟨_,HD.k (k:=nk i) s1e,?_⟩
    have hsd:dataOf w p=some (w.bytes i):=by unfold dataOf; rw [hv]; rfl
    have hcnt:∀ {H4:Hp} {as:List Addr},YT H4 as (FtT.CN w i)→as.length=FtT.count w i:=fun tt=>(Paired.length tt).trans (FtT.Ajo W i)
    unfold FtT.itemAt at k
    rw [hv] at k
    dsimp only at k
    cases hn:FtW.val (FtT.FV seen) i with
    | none =>
      rw [hn] at k
      dsimp only at k
      rw [s2.none Nf hn,if_pos (by rfl)]
      have hlen:ss.length=seen.length:=by rw [s2.length,FtT.Aj6]
      refine ⟨_,s1e,_,Qz.k (k:=nk i) s1e (Bs (by omega)),?_⟩
      have s3:EY nk isN (putK ss (nk i) (V.int ((ss.length:Int) + 1))) (FtT.FV (seen++[i])):=by
        rw [← FtT.Xc hn]
        exact s2.put Nf (show V.int ((ss.length:Int) + 1)=V.int ((seen.length + 1:Nat):Int) by rw [hlen]; rfl)
      obtain ⟨v3,hv3,hv4⟩:=s3.some Nf (k:=i) (x:=seen.length + 1) (by rw [← FtT.Xc hn,FtW.MM,if_pos rfl])
      have k3:Ai [ds] H (upd (upd H e (.tup [])) ds (.dK (putK ss (nk i) (V.int ((ss.length:Int) + 1))))):=(ke.mono (by simp)).trans (Ai.put s1e trivial (by simp))
      have d3:upd (upd H e (.tup [])) ds (.dK (putK ss (nk i) (V.int ((ss.length:Int) + 1)))) ds=some (.dK (putK ss (nk i) (V.int ((ss.length:Int) + 1)))):=Ab
      generalize upd (upd H e (.tup [])) ds (.dK (putK ss (nk i) (V.int ((ss.length:Int) + 1))))=H3 at k3 d3
      have hta:t.a ∉ [ds]:=fun z=>hds (by rw [List.mem_singleton] at z; rw [← z]; simp [TA.fp])
      have I3:=I.keep k3 fun x hx z=>hds (by rw [List.mem_singleton] at z; rw [← z]; exact hx)
      refine ⟨_,_,k3.at_ _ _ i1 hta,rfl,t,b,p,w.bytes i,w,rfl,I3,W,k3.tup _ _ hb,hsd,fun b' hb'=>?_⟩
      refine ⟨v3,by rw [← hv3]; exact HD.k (k:=nk i) d3,_,_,k3.at_ _ _ i1 hta,rfl,t,i,w,rfl,I3,W,fun H4 l as k4 hl h4 tt=>⟨l,rfl,_,.inl (SqL.of h4),?_⟩⟩
      rw [List.length_map,hcnt tt,hv4]
      refine ⟨b,b',p,w.bytes i,seen.length + 1,0x81A4,FtT.count w i,rfl,SqT.of (k4.tup _ _ (k3.tup _ _ hb)),SqT.of (k4.tup _ _ hb'),by omega,by omega,fun H5 a k5 ha h5=>?_⟩
      have K4:Ai [ds] H H4:=k3.trans (k4.mono (by simp))
      refine k H5 a (K4.trans (k5.mono (by simp))) ?_ h5 ⟨_,k5.at_ _ _ (k4.at_ _ _ d3 (by simp)) (by simp),s3⟩
      rcases K4.free ha with z | z
      · exact z
      · rw [List.mem_singleton] at z
        rw [z,k4.at_ _ _ d3 (by simp)] at ha; cases ha
    | some c =>
      rw [hn] at k
      dsimp only at k
      obtain ⟨v3,hv3,hv4⟩:=s2.some Nf hn
      rw [hv3,if_neg (by simp)]
      have I3:=I.BN ke
      refine ⟨v3,by rw [← hv3]; exact HD.k (k:=nk i) s1e,_,_,ke.at_ _ _ i1 (by simp),rfl,t,i,w,rfl,I3,W,fun H4 l as k4 hl h4 tt=>⟨l,rfl,_,.inl (SqL.of h4),?_⟩⟩
      rw [List.length_map,hcnt tt,hv4]
      refine ⟨b,e,p,[],c,0x81A4,FtT.count w i,rfl,SqT.of (k4.tup _ _ (ke.tup _ _ hb)),SqT.of (k4.tup _ _ Ab),by omega,by show 0≤_; omega,fun H5 a k5 ha h5=>?_⟩
      have K4:=ke.trans k4
      exact k H5 a ((K4.trans k5).mono (by simp)) (K4.Fz ha) h5 ⟨_,k5.at_ _ _ (k4.at_ _ _ s1e (by simp)) (by simp),s2⟩
theorem Ct.free {H:Hp} {t:TA} {ns:DU} {n:Nat} {c:List (Nat × B8)} (I:Ct A H t ns n c) {b:Addr} (h:H b=none):b ∉ t.fp:=by
  obtain ⟨nd,⟨dx,i1⟩,⟨ks,i2,r2⟩,⟨ts,i3,r3⟩,⟨hs,i4,r4⟩,⟨cs,i5,r5⟩⟩:=I
  intro z
  simp only [TA.fp,List.mem_cons,List.not_mem_nil,or_false] at z
  rcases z with z | z | z | z | z <;> subst z
  · rw [i1] at h; cases h
  · rw [i2] at h; cases h
  · rw [i3] at h; cases h
  · rw [i4] at h; cases h
  · rw [i5] at h; cases h
structure Ao8 (H:Hp) (r ds l:Addr) (as:List Addr) (w:FtTree.World) (j:Nat) (H':Hp) (acc:B8) (seen:List Nat):Prop where
  kp:Ai [] H H'
  row:H' r=some (.lst (bv acc))
  ser:Ser H' ds seen
  lst:H' l=some (.lst (as.map V.ref))
  tu:YT H' as (FtT.BQ w)
  eq:acc++FtT.itemsOf w ((FtT.BQ w).drop j) seen=FtT.itemsOf w (FtT.BQ w) []
  sl:seen.length≤j
  al:acc.length≤1000 * j
theorem Sm {w:FtTree.World} (W:FtW.WF w) {q:B8} (h:q ∈ FtT.BQ w) (seen:List Nat):(FtT.itemAt w seen q).1.length≤1000∧(FtT.itemAt w seen q).2.length≤seen.length + 1:=by
  have hq:=JZ W h
  unfold FtT.itemAt
  cases e:FtW.val w.nodes q with
  | none=>exact ⟨Nat.zero_le _,Nat.le_succ _⟩
  | some v =>
    cases v with
    | dir =>
      refine ⟨Nat.le_trans (FtU.E8 ..) ?_,Nat.le_succ _⟩
      show q.length + 0 + 117≤1000
      omega
    | link d =>
      have:=(W.texts q _ (FtW.Ht e)).1
      exact ⟨Nat.le_trans (FtU.E8 ..) (by omega),Nat.le_succ _⟩
    | file i =>
      have:=FtU.Zm W e
      dsimp only
      cases FtW.val (FtT.FV seen) i with
      | none=>exact ⟨Nat.le_trans (FtU.E8 ..) (by omega),by rw [List.length_append]; exact Nat.le_refl _⟩
      | some c =>
        refine ⟨Nat.le_trans (FtU.E8 ..) ?_,Nat.le_succ _⟩
        show q.length + 0 + 117≤1000
        omega
theorem Ao8.next {H H' H2:Hp} {r ds l a:Addr} {as:List Addr} {w:FtTree.World} {j:Nat} {acc q:B8} {seen:List Nat} (I:Ao8 H r ds l as w j H' acc seen) (W:FtW.WF w) (hq:(FtT.BQ w)[j]? = some q) (hr:H r=none) (hds:H ds=none) (hrd:ds≠r) (hlr:l≠r) (hld:l≠ds)
    (k:Ai [ds] H' H2) (ha:H' a=none) (h:H2 a=some (.lst (bv (FtT.itemAt w seen q).1))) (hs:Ser H2 ds (FtT.itemAt w seen q).2) :
    H2 r=some (.lst (bv acc))∧Ao8 H r ds l as w (j + 1) (upd H2 r (.lst (bv acc++bv (FtT.itemAt w seen q).1))) (acc++(FtT.itemAt w seen q).1) (FtT.itemAt w seen q).2:=by
  have r2:=k.at_ _ _ I.row (by rw [List.mem_singleton]; exact hrd.symm)
  have hlt:j < (FtT.BQ w).length:=(List.getElem?_eq_some_iff.mp hq).1
  have hd:(FtT.BQ w).drop j=q::(FtT.BQ w).drop (j + 1):=by
    rw [List.drop_eq_getElem_cons hlt]
    rw [List.getElem?_eq_getElem hlt] at hq
    rw [Option.some.inj hq]
  obtain ⟨g1,g2⟩:=Sm W (List.mem_of_getElem? hq) seen
  obtain ⟨ss,s1,s2⟩:=hs
  have e:=I.eq
  rw [hd] at e
  have hsl:=I.sl
  have hal:=I.al
  refine ⟨r2,⟨⟨fun b o e1 _=>?_,fun b xs e1=>?_⟩,?_,⟨ss,Aj s1 hrd,s2⟩,Aj (k.at_ _ _ I.lst (by rw [List.mem_singleton]; exact hld)) hlr,CK I.tu fun a' q' _ e1=>?_,?_,by omega,by rw [List.length_append]; omega⟩⟩
  · exact Aj (k.at_ _ _ (I.kp.at_ _ _ e1 (by simp)) (by rw [List.mem_singleton]; exact Au e1 hds)) (Au e1 hr)
  · exact Aj (k.tup _ _ (I.kp.tup _ _ e1)) (Au e1 hr)
  · rw [Ab]
    unfold bv
    rw [List.map_append]
  · exact Aj (k.tup _ _ e1) (fun z=>by rw [z,I.row] at e1; cases e1)
  · rw [List.append_assoc]; exact e
def Aqf (A:Ad):Sp:=fun vs H Q _=>∃ (t:TA) (w:FtTree.World),vs=[.ref t.a]∧Od A H t w∧FtW.WF w∧AsI H Q (FtTree.write w)
theorem Adg (T:Tx K mg A):AY P w K mg base CX0 6 A.Dz A.Me ["tree"] (Aqf A):=by
  refine T.GO.ok FG (fun vs H Q E h=>?_) (fun cdv Ar outer s H vs Q E hr h=>?_)
  · obtain ⟨t,w,rfl,_⟩:=h
    rfl
  · obtain ⟨t,w,rfl,I,W,k⟩:=h
    have hu:=AZ hr
    refine ⟨_,(Ac (Be (i:=1) FG.nd rfl (Or.inl rfl) (BI Ag))
      (Ac (Be (i:=2) FG.nd rfl (Or.inl rfl) Ajq)
      (Ac (PH PassesOwn.never rfl (K6 (CL (pv 0) T.AF T.Im (HB T) (hr.mono (by decide)) T.Dq .nil A1)) (ET (i:=3) FG.nd rfl (Or.inl rfl)) (Ac (Be (i:=4) FG.nd rfl (Or.inl rfl) (AH (pv 0) T.AF T.DJ (Dk T) (hr.mono (by decide)) T.C3 .nil A1 (Aa (pv 3) Ag)))
      (Ae (AD (Ao AX (pv 4) (Ak T.OS) (As _)) (Ae (AE (Gz PySem.F.plainAttrs_list PySem.F.slot_list_extend PySem.F.type_list_extend Gx (pv 1) (Aa (AJ (AfY T) (hr.mono (by decide)) (by rfl) T.Ahe T.Ii.kp T.NW .nil A1 (Aa (pv 0) (Aa (pv 3) (Aa (pv 2) Ag)))) Ag)))) (Ae (AD (Ao AX (pv 4) (Ak T.Iy) (As _)) (Ae (AE (Gz PySem.F.plainAttrs_list PySem.F.slot_list_extend PySem.F.type_list_extend Gx (pv 1) (Aa (AJ (M0 T) (hr.mono (by decide)) (by rfl) T.Qk T.Gj.kp T.Jj .nil A1 (Aa (pv 3) (Aa (Ak T.OT) (Aa (Ak T.VU) (Aa (Ak T.U9) (Aa (HL Ag) Ag)))))) Ag)))) (Ae (AE (Gz PySem.F.plainAttrs_list PySem.F.slot_list_extend PySem.F.type_list_extend Gx (pv 1) (Aa (AJ (M0 T) (hr.mono (by decide)) (by rfl) T.Qk T.Gj.kp T.Jj .nil A1 (Aa (pv 3) (Aa (Ak T.OT) (Aa (Ak T.Aiq) (Aa (Ak T.Afk) (Aa (AH (pv 0) T.AF T.GQ (FO T) (hr.mono (by decide)) T.DG .nil A1 (Aa (pv 3) Ag)) Ag)))))) Ag))))))))))
      (Ac (AE (Gz PySem.F.plainAttrs_list PySem.F.slot_list_extend PySem.F.type_list_extend Gx (pv 1) (Aa (AJ (M0 T) (hr.mono (by decide)) (by rfl) T.Qk T.Gj.kp T.Jj .nil A1 (Aa (Hm T.Qw) (Aa (Ak T.OT) (Aa (Ak T.Al0) (Aa (Ak T.Ain) (Aa (HL Ag) Ag)))))) Ag)))
      (Ae (Av (pv 1))))))),?_⟩
    walk_at "rd"
    obtain ⟨dx,i1⟩:=I.ins
    refine ⟨Nat.zero_le _,fun r hr1 ds hds=>?_⟩
    have k1:=(Ai.new (F:=[]) (o:=.lst []) hr1).trans (Ai.new (o:=.dK []) hds)
    have hrd:ds≠r:=fun e=>by rw [e,Ab] at hds; cases hds
    have hds0:H ds=none:=by rw [A9 hrd] at hds; exact hds
    refine ⟨_,_,k1.at_ _ _ i1 (by simp),rfl,t,w,rfl,I.BN k1,W,fun H1 l as k2 hl h2 tt=>?_⟩
    have hlr:l≠r:=fun e=>by rw [e,BW Ab hds] at hl; cases hl
    have hld:l≠ds:=fun e=>by rw [e,Ab] at hl; cases hl
    have hal:as.length=(FtT.BQ w).length:=Paired.length tt
    refine ⟨l,rfl,⟨_,SqL.of h2⟩,?_⟩
    have J0:Ao8 H r ds l as w 0 H1 [] []:=⟨k1.trans k2,k2.at_ _ _ (BW Ab hds) (by simp),⟨[],k2.at_ _ _ Ab (by simp),.nil⟩,h2,tt,rfl,Nat.le_refl _,Nat.le_refl _⟩
    refine L6 (as.map V.ref) (fun j σ H'=>(∃ v u,σ=[some (.ref t.a),some (.ref r),some (.ref ds),v,u])∧∃ acc seen,Ao8 H r ds l as w j H' acc seen) ⟨⟨none,none,rfl⟩,[],[],J0⟩ (fun j σ H' _ ⟨_,_,_,J⟩=>SqL.of J.lst) ?_ ?_
    · rintro j x σ H' hj ⟨⟨v,u,rfl⟩,acc,seen,J⟩
      rw [List.getElem?_map] at hj
      cases ha:as[j]? with
      | none=>rw [ha] at hj; cases hj
      | some b =>
        rw [ha] at hj
        cases hj
        obtain ⟨q,hq,hqb⟩:=De J.tu ha
        have hqm:=List.mem_of_getElem? hq
        have hlt:j < (FtT.BQ w).length:=(List.getElem?_eq_some_iff.mp hq).1
        have hj16:(FtT.BQ w).length≤16:=by rw [FtT.LC]; exact W.len
        have I':=I.BN J.kp
        have i1':=J.kp.at_ _ _ i1 (by simp)
        have hq5:=JZ W hqm
        have hal':=J.al
        have hsl':=J.sl
        obtain ⟨sz1,_⟩:=Sm W hqm seen
        have fin:∀ (H2:Hp) (a:Addr),Ai [ds] H' H2→H' a=none→H2 a=some (.lst (bv (FtT.itemAt w seen q).1))→Ser H2 ds (FtT.itemAt w seen q).2→∃ x,H2 r=some (.lst x)∧∃ y,H2 a=some (.lst y)∧x.length + y.length≤sizeLine∧∃ acc seen,Ao8 H r ds l as w (j + 1) (upd H2 r (.lst (x++y))) acc seen:=by
          intro H2 a k3 ha3 h3 s3
          obtain ⟨r2,J2⟩:=J.next W hq hr1 hds0 hrd hlr hld k3 ha3 h3 s3
          exact ⟨_,r2,_,h3,Br (by rw [Az,Az]; omega),_,_,J2⟩
        obtain ⟨nd,hnd⟩:=Option.isSome_iff_exists.mp (FtT.Wo.mp hqm)
        walk_at "rd"
        refine ⟨_,_,i1',rfl,t,b,q,w.nodes,_,_,rfl,I',hqb,?_⟩
        rw [hnd]
        have tl:tyV K "list" (V.ref r) H':=.inl ⟨rfl,_,SqL.of J.row⟩
        have ser:∀ {H2:Hp},Ai [] H' H2→Ser H2 ds seen:=fun k3=>let ⟨ss,s1,s2⟩:=J.ser; ⟨ss,k3.at_ _ _ s1 (by simp),s2⟩
        cases nd with
        | file i =>
          refine ⟨rfl,?_⟩
          rw [if_pos (by rfl)]
          exact ⟨tl,t,b,ds,q,w,i,seen,rfl,I',W,hqb,hnd,I.free hds0,J.ser,by omega,fun H2 a k3 ha3 h3 s3=>⟨a,rfl,fin H2 a k3 ha3 h3 s3⟩⟩
        | dir =>
          have it:FtT.itemAt w seen q=(FtTree.writeItem 0 0x41ED 2 q [],seen):=by unfold FtT.itemAt; rw [hnd]
          rw [it] at fin
          refine ⟨rfl,?_⟩
          rw [if_neg (by intro z; cases z)]
          refine ⟨rfl,?_⟩
          rw [if_pos (by rfl)]
          refine ⟨tl,Nat.zero_le _,fun e he=>⟨b,e,q,[],0,0x41ED,2,rfl,SqT.of ((Ai.new (F:=[]) he).tup _ _ hqb),SqT.of Ab,by omega,by show 0≤_; omega,fun H2 a k3 ha3 h3=>⟨a,rfl,?_⟩⟩⟩
          have kk:=(Ai.new (F:=[]) (o:=.tup []) he).trans k3
          exact fin H2 a (kk.mono (by simp)) ((Ai.new he).Fz ha3) h3 (ser kk)
        | link d =>
          have it:FtT.itemAt w seen q=(FtTree.writeItem 0 0xA1FF 1 q d,seen):=by unfold FtT.itemAt; rw [hnd]
          have hd5:=(W.texts q _ (FtW.Ht hnd)).1
          rw [it] at fin
          refine ⟨rfl,?_⟩
          rw [if_neg (by intro z; cases z)]
          refine ⟨rfl,?_⟩
          rw [if_neg (by intro z; cases z)]
          refine ⟨tl,_,_,i1',rfl,t,b,q,d,w,rfl,I',W,hqb,by unfold dataOf; rw [hnd]; rfl,fun b' hb'=>⟨b,b',q,d,0,0xA1FF,1,rfl,SqT.of hqb,SqT.of hb',by omega,by omega,fun H2 a k3 ha3 h3=>⟨a,rfl,?_⟩⟩⟩
          exact fin H2 a (k3.mono (by simp)) ha3 h3 (ser k3)
    · rintro σ H' ⟨⟨v,u,rfl⟩,acc,seen,J⟩
      walk_at "rd"
      have hj16:(FtT.BQ w).length≤16:=by rw [FtT.LC]; exact W.len
      have hal':=J.al
      have e:=J.eq
      rw [List.length_map,hal,List.drop_length] at e
      rw [List.length_map,hal] at hal'
      have e':acc=FtT.itemsOf w (FtT.BQ w) []:=by rw [← e]; exact (List.append_nil _).symm
      refine ⟨.inl ⟨rfl,_,SqL.of J.row⟩,Nat.zero_le _,fun e he=>⟨A.V9,e,FtTree.TRAILER,[],0,0,1,rfl,by rw [FtP.K7]; exact T.ML _,SqT.of Ab,by rw [FtP.K7]; decide,by show 0≤_; omega,fun H2 a k3 ha3 h3=>?_⟩⟩
      have kk:=(Ai.new (F:=[]) (o:=.tup []) he).trans k3
      have hT:=FtU.E8 0 0 1 FtTree.TRAILER []
      rw [FtP.K7] at hT
      refine ⟨a,rfl,_,kk.at_ _ _ J.row (by simp),_,h3,Br ?_,?_⟩
      · rw [Az,Az,FtP.K7]
        have:([84,82,65,73,76,69,82,33,33,33]:B8).length=10:=rfl
        have:([]:B8).length=0:=rfl
        omega
      · refine k _ r (AN (J.kp.trans kk) hr1) hr1 ?_
        rw [Ab,FtT.Ak4 W,← e']
        unfold bv
        rw [List.map_append]
end
section
variable {P:Program} {w:World} {K:PySem.W.Frag} {mg:Str→Option Value} {base:Heap} {A:Ad}
theorem AqJ {r:List Int} (h:FtV.inB r):bv (FtQ.bytes r)=r.map V.int:=by
  have:=congrArg (List.map V.int) (FtQ.RE h)
  rw [List.map_map] at this
  exact this
def Aqq (A:Ad) (K:PySem.W.Frag):Sp:=fun vs H Q _=>∃ (t:TA) (nn l:Addr) (call:Int) (nums:List Int) (as:List Addr) (rs:List (List Int)) (b:FtTree.Bytes),vs=[.ref t.a,.int call,.ref nn,.ref l]∧Od A H t (FtQ.mOf b).w∧SqL K H nn (nums.map V.int)∧H l=some (.lst (as.map V.ref))∧YT H as (rs.map FtQ.bytes) ∧
  WrfirsNeutral.asked1 ((call::nums)::rs)=true∧4≤call∧call≤9∧Ans H Q (WrfirsNeutral.step b ((call::nums)::rs)).2
theorem Abf (T:Tx K mg A):AY P w K mg base CX0 4 A.CQ A.La ["tree","call","numbers","paths"] (Aqq A K):=by
  refine T.FA.ok PR (fun vs H Q E h=>?_) (fun cdv Ar outer s H vs Q E hr h=>?_)
  · obtain ⟨t,nn,l,call,nums,as,rs,b,rfl,_⟩:=h
    rfl
  · obtain ⟨t,nn,l,call,nums,as,rs,b,rfl,I,hn,hl,ht,hask,h4,h9,k⟩:=h
    have hu:=AZ hr
    have W:=(FtQ.S2 b).wf
    obtain ⟨dx,i1⟩:=I.ins
    refine ⟨_,(Ac (Be (i:=4) PR.nd rfl (Or.inl rfl) (Ng Kr (pv 3) Ap (fun _ _=>rfl)))
      (Ac (AD (Ao AX (pv 1) (Ak T.Avu) (As _)) (Ae (Av (AJ (Abd T) (hr.mono (by decide)) (by rfl) T.AbX T.F8.kp T.KH .nil A1 (Aa (pv 0) (Aa (pv 4) Ag))))) A7)
      (Ac (AD (Ao AX (pv 1) (Ak T.Avy) (As _)) (Ae (Av (AJ (Abi T) (hr.mono (by decide)) (by rfl) T.Acd T.FE.kp T.KO .nil A1 (Aa (pv 0) (Aa (pv 4) Ag))))) A7)
      (Ac (AD (Ao AX (pv 1) (Ak T.Avw) (As _)) (Ae (Av (AJ (Abg T) (hr.mono (by decide)) (by rfl) T.Aca T.FC.kp T.KL .nil A1 (Aa (pv 0) (Aa (pv 4) (Aa (Ng Kr (pv 2) Ap (fun _ _=>rfl)) (Aa (Ng Kr (pv 2) Ap (fun _ _=>rfl)) Ag))))))) A7)
      (Ac (AD (Ao AX (pv 1) (Ak T.Avx) (As _)) (Ae (Av (AJ (Abh T) (hr.mono (by decide)) (by rfl) T.Acb T.FD.kp T.KN .nil A1 (Aa (pv 0) (Aa (pv 4) (Aa (Ng Kr (pv 3) Ap (fun _ _=>rfl)) Ag)))))) A7)
      (Ac (AD (Ao AX (pv 1) (Ak T.Avv) (As _)) (Ae (Av (AJ (Abe T) (hr.mono (by decide)) (by rfl) T.AbY T.F9.kp T.KI .nil A1 (Aa (pv 0) (Aa (pv 4) Ag))))) A7)
      (Ae (Av (AJ (Yn T) (hr.mono (by decide)) (by rfl) T.YQ T.EW.kp T.J8 .nil A1 (Aa (pv 0) (Aa (pv 4) Ag))))))))))),?_⟩
    walk_at "rd"
    rcases FtV.Gk hask with e | ⟨b1,e,hb⟩ | e | ⟨b1,e,hb⟩ | ⟨b1,e,hb⟩ | ⟨u1,u2,b1,e,_⟩ | ⟨b1,b2,e,_⟩ | ⟨b1,e,hb⟩ | ⟨b1,e,hb⟩ | e <;> cases e <;> first | omega | skip
    · cases ht with
      | cons ha1 ht2 =>
      cases ht2
      rw [FtT.Aos] at k
      refine ⟨_,SqL.of hl,_,rfl,?_⟩
      rw [if_pos rfl]
      exact ⟨t,_,_,_,rfl,I,ha1,k⟩
    · cases ht with
      | cons ha1 ht2 =>
      cases ht2
      rw [FtT.Aow] at k
      refine ⟨_,SqL.of hl,_,rfl,?_⟩
      rw [if_neg (by decide),if_pos rfl]
      exact ⟨t,_,_,_,rfl,I,W,ha1,k⟩
    · cases ht with
      | cons ha1 ht2 =>
      cases ht2
      rw [FtT.Aou] at k
      refine ⟨_,SqL.of hl,_,rfl,?_⟩
      rw [if_neg (by decide),if_neg (by decide),if_pos rfl]
      exact ⟨_,hn,_,rfl,_,hn,_,rfl,t,_,_,_,u1,u2,rfl,I,W,ha1,k⟩
    · cases ht with
      | cons ha1 ht2 =>
      cases ht2 with
      | cons ha2 ht3 =>
      cases ht3
      rw [FtT.Aov] at k
      refine ⟨_,SqL.of hl,_,rfl,?_⟩
      rw [if_neg (by decide),if_neg (by decide),if_neg (by decide),if_pos rfl]
      exact ⟨_,SqL.of hl,_,rfl,t,_,_,_,_,_,rfl,I,ha1,ha2,k⟩
    · cases ht with
      | cons ha1 ht2 =>
      cases ht2
      rw [FtT.Aot] at k
      refine ⟨_,SqL.of hl,_,rfl,?_⟩
      rw [if_neg (by decide),if_neg (by decide),if_neg (by decide),if_neg (by decide),if_pos rfl]
      exact ⟨t,_,_,_,rfl,I,W,ha1,k⟩
    · cases ht with
      | cons ha1 ht2 =>
      cases ht2
      rw [FtT.AjJ] at k
      refine ⟨_,SqL.of hl,_,rfl,?_⟩
      rw [if_neg (by decide),if_neg (by decide),if_neg (by decide),if_neg (by decide),if_neg (by decide)]
      exact ⟨t,_,_,_,rfl,I,W,ha1,k⟩
theorem made {H H2:Hp} {y dy:Addr} {o1 o2:HO} {fp:List Addr} (hy:H y=none) (hdy:H dy=none) (k2:Ai [y] (upd (upd H dy o1) y o2) H2) (hfp:∀ b ∈ fp,b=y∨upd (upd H dy o1) y o2 b=none):Ai [] H H2∧∀ b ∈ fp,H b=none:=by
  refine ⟨⟨fun b o e hb=>?_,fun b xs e=>?_⟩,fun b hb=>?_⟩
  · exact k2.at_ _ _ (Aj (Aj e (Au e hdy)) (Au e hy)) (by simp [Au e hy])
  · exact k2.tup _ _ (Aj (Aj e (Au e hdy)) (Au e hy))
  · rcases hfp b hb with z | z
    · rw [z]; exact hy
    · cases e:H b with
      | none=>rfl
      | some o=>rw [Aj (Aj e (Au e hdy)) (Au e hy)] at z; cases z
structure DAt (A:Ad) (H:Hp) (d:Addr) (x:SA) (m:FtM.M):Prop where
  ins:∃ dx,H d=some (.ins A.D7 dx [("stream",.ref x.s)])
  st:SAt A H x m (min m.phase 3) m.place
  mi:FtM.MI m
  out:d ∉ x.fp
def AmD (A:Ad):Sp:=fun vs H Q _=>∃ (d dx:Addr),vs=[.ref d]∧H d=some (.ins A.D7 dx [])∧∀ (H':Hp) (y:SA),Ai [d] H H'→(∀ b ∈ y.fp,H b=none)→DAt A H' d y (FtQ.mOf [])→Q .non H'
theorem AfT (T:Tx K mg A):AY P w K mg base CX0 7 A.Dv A.OB ["self"] (AmD A):=by
  refine T.Ke.ok Agx (fun vs H Q E h=>?_) (fun cdv Ar outer s H vs Q E hr h=>?_)
  · obtain ⟨d,dx,rfl,_⟩:=h
    rfl
  · obtain ⟨d,dx,rfl,hd,k⟩:=h
    have hu:=AZ hr
    refine ⟨_,(Ae (Bd (pv 0) (P6 T.AiO (P1 T) (hr.mono (by decide)) (by rfl) T.Aie T.HW .nil A1) rfl)),?_⟩
    walk_at "rd"
    intro y dy hy hdy hne
    have hdyy:d≠y:=Au hd hy
    refine ⟨y,dy,rfl,Ab,fun H2 u hus k2 hfp J=>⟨rfl,?_⟩⟩
    obtain ⟨kH,fpn⟩:=made hy hdy k2 hfp
    have d2:=kH.at_ _ _ hd (by simp)
    have hdf:d ∉ u.fp:=fun z=>by rw [fpn d z] at hd; cases hd
    refine ⟨_,_,_,d2,T.Oq,T.C1,by show 0 < 1000; decide,?_⟩
    have kx:Ai [d] H2 (upd H2 d (.ins A.D7 dx (Bj "stream" (.ref y) []))):=Ai.put d2 trivial (by simp)
    refine k _ u ((kH.mono (by simp)).trans kx) fpn ⟨⟨dx,?_⟩,?_,FtQ.S2 [],hdf⟩
    · rw [hus]; exact Ab
    · exact J.Aa0 kx fun b hb z=>hdf (by rw [List.mem_singleton] at z; rw [← z]; exact hb)
theorem AkQ {call:Int} {nums:List Int} {rs:List (List Int)} (h:WrfirsNeutral.asked1 ((call::nums)::rs)=true):(call=1∧nums=[]∧rs=[])∨(call=2∧nums=[]∧∃ b,rs=[b]∧FtV.inB b)∨(call=3∧nums=[]∧rs=[])∨(call=10∧nums=[]∧rs=[])∨(4≤call∧call≤9∧(∀ r ∈ rs,FtV.inB r)∧rs.length≤2):=by
  rcases FtV.Gk h with e | ⟨b1,e,hb⟩ | e | ⟨b1,e,hb⟩ | ⟨b1,e,hb⟩ | ⟨u1,u2,b1,e,_,_,hb⟩ | ⟨b1,b2,e,hb,hb2⟩ | ⟨b1,e,hb⟩ | ⟨b1,e,hb⟩ | e <;> cases e
  · exact .inl ⟨rfl,rfl,rfl⟩
  · exact .inr (.inl ⟨rfl,rfl,b1,rfl,hb⟩)
  · exact .inr (.inr (.inl ⟨rfl,rfl,rfl⟩))
  · exact .inr (.inr (.inr (.inr ⟨by decide,by decide,fun r hr=>by rw [List.mem_singleton] at hr; rw [hr]; exact hb,by simp⟩)))
  · exact .inr (.inr (.inr (.inr ⟨by decide,by decide,fun r hr=>by rw [List.mem_singleton] at hr; rw [hr]; exact hb,by simp⟩)))
  · exact .inr (.inr (.inr (.inr ⟨by decide,by decide,fun r hr=>by rw [List.mem_singleton] at hr; rw [hr]; exact hb,by simp⟩)))
  · refine .inr (.inr (.inr (.inr ⟨by decide,by decide,fun r hr=>?_,by simp⟩)))
    rcases List.mem_cons.mp hr with z | z
    · rw [z]; exact hb
    · rw [List.mem_singleton] at z; rw [z]; exact hb2
  · exact .inr (.inr (.inr (.inr ⟨by decide,by decide,fun r hr=>by rw [List.mem_singleton] at hr; rw [hr]; exact hb,by simp⟩)))
  · exact .inr (.inr (.inr (.inr ⟨by decide,by decide,fun r hr=>by rw [List.mem_singleton] at hr; rw [hr]; exact hb,by simp⟩)))
  · exact .inr (.inr (.inr (.inl ⟨rfl,rfl,rfl⟩)))
theorem Aso (b:FtTree.Bytes) {call:Int} {nums:List Int} {rs:List (List Int)} (h:WrfirsNeutral.asked1 ((call::nums)::rs)=true) (h4:4≤call) (h9:call≤9):(WrfirsNeutral.step b ((call::nums)::rs)).1=b:=by
  rcases FtV.Gk h with e | ⟨b1,e,hb⟩ | e | ⟨b1,e,hb⟩ | ⟨b1,e,hb⟩ | ⟨u1,u2,b1,e,_⟩ | ⟨b1,b2,e,_⟩ | ⟨b1,e,hb⟩ | ⟨b1,e,hb⟩ | e <;> cases e <;> first | omega | rfl
theorem WM {w:FtTree.World} (W:FtW.WF w):∀ (ps:List B8) (seen:List Nat),(∀ p ∈ ps,p ∈ FtT.BQ w)→(FtT.itemsOf w ps seen).length≤1000 * ps.length
  | [],_,_=>Nat.zero_le _
  | p::ps,seen,h=>by
    have ih:=WM W ps (FtT.itemAt w seen p).2 fun q hq=>h q (List.mem_cons_of_mem _ hq)
    have h1:=(Sm W (h p (List.mem_cons_self ..)) seen).1
    show ((FtT.itemAt w seen p).1++FtT.itemsOf w ps (FtT.itemAt w seen p).2).length≤_
    rw [List.length_append,List.length_cons]
    omega
theorem Xi {w:FtTree.World} (W:FtW.WF w):(FtTree.write w).length≤17000:=by
  have h1:=WM W (FtT.BQ w) [] fun p h=>h
  have h2:=FtU.E8 0 0 1 FtTree.TRAILER []
  have h3:(FtT.BQ w).length≤16:=by rw [FtT.LC]; exact W.len
  have h4:FtTree.TRAILER.length=10:=by rw [FtP.K7]; rfl
  have h5:([]:B8).length=0:=rfl
  rw [FtT.Ak4 W,List.length_append]
  omega
theorem Ady {K:PySem.W.Frag} {a:Addr} {g:TG} {tt:TT} {te:TE} {vs:List Nat} {σ:L2.St} {Q:VK} {H1:Hp} (xs:List V) (Pv:Addr→Nat→Hp→Prop) (h0:∀ D,H1 D=none→Pv D 0 (upd H1 D (.lst []))) (hl:∀ D i H,H1 D=none→Pv D i H→SqL K H a xs)
    (hs:∀ D i x H,H1 D=none→xs[i]? = some x→Pv D i H→g x (wipe σ vs) H fun σ2 H2=>wipe σ2 vs=wipe σ vs∧tt σ2 H2 fun b H3 =>
      if b=true then te σ2 H3 fun y H4=>∃ acc,H4 D=some (.lst acc)∧acc.length < sizeLine∧Pv D (i + 1) (upd H4 D (.lst (acc++[y]))) else Pv D (i + 1) H3)
    (hd:∀ D H,H1 D=none→Pv D xs.length H→Q (.ref D) H):Comp (Itl K a) g tt te vs σ Q H1 :=
  fun D hD=>At1 (Qd:=Q (.ref D)) (Pv D) (h0 D hD) (fun i H _ p=>hl D i H hD p) (fun i x H e p=>hs D i x H hD e p) (fun H p=>hd D H hD p)
def AgE (A:Ad) (K:PySem.W.Frag):Sp:=fun vs H Q _=>∃ (d nn r:Addr) (x:SA) (b:FtTree.Bytes) (call:Int) (nums:List Int) (as:List Addr) (rs:List (List Int)),vs=[.ref d,.int call,.ref nn,.ref r]∧DAt A H d x (FtQ.mOf b)∧H nn=some (.lst (nums.map V.int))∧H r=some (.lst (as.map V.ref))∧Paired (fun a q=>H a=some (.lst (q.map V.int))) as rs∧(∀ a ∈ as,a ∉ d::x.fp)∧WrfirsNeutral.asked1 ((call::nums)::rs)=true∧b.length + WrfirsNeutral.bytesIn ((call::nums)::rs)≤8000 ∧
  ∀ (H':Hp) (p:Addr) (x':SA),Fr (d::x.fp) H (d::x'.fp) H'→(H p=none∨p ∈ d::x.fp)→p ∉ d::x'.fp→H' p=some (.lst ((WrfirsNeutral.step b ((call::nums)::rs)).2.map V.int))→DAt A H' d x' (FtQ.mOf (WrfirsNeutral.step b ((call::nums)::rs)).1)→Q (.ref p) H'
theorem Abb (T:Tx K mg A):AY P w K mg base CX0 15 A.Cv A.KR ["self","call","numbers","rows"] (AgE A K):=by
  refine T.HX.ok Ho (fun vs H Q E h=>?_) (fun cdv Ar outer s H vs Q E hr h=>?_)
  · obtain ⟨d,nn,r,x,b,call,nums,as,rs,rfl,_⟩:=h
    rfl
  · obtain ⟨d,nn,r,x,b,call,nums,as,rs,rfl,I,hn1,hr1,hP,haf,hask,hroom,k⟩:=h
    have hu:=AZ hr
    refine ⟨_,(Ac (AD (Ao AX (pv 1) (Ak T.Atk) (As _)) (Ac (Bd (pv 0) (P6 T.AiO (P1 T) (hr.mono (by decide)) (by rfl) T.Aie T.HW .nil A1) rfl)
      (Ae (Av (BI (Aa Ap Ag))))) A7)
      (Ac (AD (Ao AX (pv 1) (Ak T.Avt) (As _)) (Ac (AE (AH (Al (pv 0) rfl) T.Ah T.Acf (AtL T) (hr.mono (by decide)) T.KC .nil A1 (Aa (Ng Kr (pv 3) Ap (fun _ _=>rfl)) Ag)))
      (Ae (Av (CY Wm (BI (Aa Ap Ag)) (AJ (WX T) (hr.mono (by decide)) (by rfl) T.YN T.HF.kp T.LM .nil A1 (Aa (Al (pv 0) rfl) Ag)))))) A7)
      (Ac (AD (Ao AX (pv 1) (Ak T.Atl) (As _)) (Ae (Av (CY Wm (BI (Aa Ap Ag)) (AJ (Ajl T) (hr.mono (by decide)) (by rfl) T.Ak8 T.JB.kp T.Rw .nil A1 (Aa (Al (pv 0) rfl) Ag))))) A7)
      (Ac (Be (i:=4) Ho.nd rfl (Or.inl rfl) (Al (Al (Al (pv 0) rfl) rfl) rfl))
      (Ac (AD (Ao AX (pv 1) (Ak T.Atm) (As _)) (Ae (Av (CY Wm (BI (Aa Ap Ag)) (AJ (Adg T) (hr.mono (by decide)) (by rfl) T.Aeg T.GO.kp T.LK .nil A1 (Aa (pv 4) Ag))))) A7)
      (Ae (Av (AJ (Abf T) (hr.mono (by decide)) (by rfl) T.AbZ T.FA.kp T.KJ .nil A1 (Aa (pv 4) (Aa (pv 1) (Aa (pv 2) (Aa (AdB (own:=[("row",5)]) (te:=tCB (fun xs H Q=>∃ p ys,xs=[V.ref p]∧((SqL K H p ys∧∀ l,H l=none→Q (V.ref l) (upd H l (HO.tup ys)))∨SqT K H p ys∧Q (V.ref p) H)) (AbN (Qe 5) AgL)) rfl Ho.nd (K6 (pv 3)) (Lp (N:=["self","call","numbers","rows","tree","row"]) (sc:=Af D9) (by decide +kernel)) (fun _ _ _ _ _=>ET (i:=5) Ho.nd rfl (Or.inl rfl)) (fun _ _ _ _ _=>YH) (fun _ _ _ _ _=>(Ju KQ (by rfl) T.Aex (by decide +kernel) (Aa (pv 5) Ag)))) Ag)))))))))))),?_⟩
    walk_at "rd"
    obtain ⟨dd,e1⟩:=I.ins
    obtain ⟨dx,hv,nv,i1,_,_⟩:=I.st.ins
    have same:∀ (H':Hp) (p:Addr) (ans:List Int),WrfirsNeutral.step b ((call::nums)::rs)=(b,ans)→Ai [] H H'→H p=none→H' p=some (.lst (ans.map V.int))→Q (.ref p) H':=by
      intro H' p ans e kk hp hh
      rw [e] at k
      refine k H' p x ⟨kk.mono (by simp),fun c hc=>.inl hc⟩ (.inl hp) (fun z=>?_) hh ⟨⟨dd,kk.at_ _ _ e1 (by simp)⟩,I.st.BN kk,I.mi,I.out⟩
      rcases List.mem_cons.mp z with z | z
      · rw [z,e1] at hp; cases hp
      · exact I.st.free hp z
    rcases AkQ hask with ⟨rfl,rfl,rfl⟩ | ⟨rfl,rfl,b1,rfl,hb⟩ | ⟨rfl,rfl,rfl⟩ | ⟨rfl,rfl,rfl⟩ | ⟨h4,h9,hin,hrl⟩
    · rw [if_pos rfl]
      intro y dy hy hdy hne
      refine ⟨y,dy,rfl,Ab,fun H2 u hus k2 hfp J=>⟨rfl,?_⟩⟩
      obtain ⟨kH,fpn⟩:=made hy hdy k2 hfp
      have d2:=kH.at_ _ _ e1 (by simp)
      have hdf:d ∉ u.fp:=fun z=>by rw [fpn d z] at e1; cases e1
      refine ⟨_,_,_,d2,T.Oq,T.C1,by show 1 < 1000; decide,by decide,fun p hp=>?_⟩
      have kx:Ai [d] H2 (upd H2 d (.ins A.D7 dd (Bj "stream" (.ref y) [("stream",.ref x.s)]))):=Ai.put d2 trivial (by simp)
      have J2:=J.Aa0 kx fun b hb z=>hdf (by rw [List.mem_singleton] at z; rw [← z]; exact hb)
      have kk:=((kH.mono (G:=d::x.fp) (by simp)).trans (kx.mono (by simp))).trans (Ai.new (o:=.lst [.int 0]) hp)
      have hpd:p≠d:=fun z=>by rw [z,Ab] at hp; cases hp
      have hp2:H2 p=none:=by rw [A9 hpd] at hp; exact hp
      refine k _ p u ⟨kk,fun b hb=>?_⟩ (.inl (kH.Fz hp2)) ?_ Ab ⟨⟨dd,?_⟩,J2.BN (Ai.new hp),FtQ.S2 [],hdf⟩
      · rcases List.mem_cons.mp hb with z | z
        · exact .inl (by simp [z])
        · exact .inr (fpn b z)
      · intro z
        rcases List.mem_cons.mp z with z | z
        · exact hpd z
        · exact J.free hp2 z
      · rw [hus]
        exact BW Ab hp
    · cases hP with
      | cons hP1 hP2 =>
      cases hP2
      rename_i a1
      have ha1:a1 ∉ x.fp:=fun z=>haf a1 (by simp) (List.mem_cons_of_mem _ z)
      have hbv:bv (FtQ.bytes b1)=b1.map V.int:=by
        have:=congrArg (List.map V.int) (FtQ.RE hb)
        rw [List.map_map] at this
        exact this
      have hl:b.length + (FtQ.bytes b1).length≤8000:=by
        rw [FtQ.Adw]
        have:WrfirsNeutral.bytesIn [[2],b1]=b1.length:=by simp [WrfirsNeutral.bytesIn]
        omega
      have hpl:=FtQ.ApP b
      rw [FtT.AgI] at k
      rw [FtQ.At6] at k
      rw [if_neg (by decide),if_pos rfl]
      refine ⟨_,_,_,e1,T.Oq,T.C1,_,rfl,_,rfl,_,_,i1,rfl,_,SqL.of hr1,_,rfl,x,FtQ.mOf b,a1,FtQ.bytes b1,rfl,I.st,I.mi,SqL.of (by rw [hbv]; exact hP1),ha1,by omega,?_⟩
      intro H1 x1 hs1 hub f J
      have d1:=f.keep.at_ _ _ e1 I.out
      have hd1:d ∉ x1.fp:=fun z=>by
        rcases f.sub d z with q | q
        · exact I.out q
        · rw [q] at e1; cases e1
      refine ⟨by decide,fun p hp=>?_⟩
      refine ⟨_,_,_,BW d1 hp,T.Oq,T.C1,_,rfl,x1,_,_,_,by rw [hs1],J.BN (Ai.new hp),fun H2 p2 k2 hp2 hl2=>⟨p2,rfl,_,k2.at_ _ _ Ab (by simp),_,hl2,(show 1 + 2≤sizeLine by decide),fun p3 hp3=>?_⟩⟩
      have kk:Ai [] H1 (upd H2 p3 (.lst [.int 0,.int ((FtM.feed (FtQ.mOf b) (FtQ.bytes b1)).code:Int),.int ((FtM.feed (FtQ.mOf b) (FtQ.bytes b1)).place:Int)])):=((Ai.new hp).trans k2).trans (Ai.new hp3)
      have h31:H1 p3=none:=((Ai.new hp).trans k2).Fz hp3
      have h3d:p3≠d:=fun z=>by rw [z,d1] at h31; cases h31
      refine k _ p3 x1 ⟨(f.keep.mono (by simp +contextual)).trans (kk.mono (by simp)),fun c hc=>?_⟩ ?_ ?_ Ab ⟨⟨dd,?_⟩,J.BN kk,FtM.Af6 _ I.mi,hd1⟩
      · rcases List.mem_cons.mp hc with z | z
        · exact .inl (by simp [z])
        · rcases f.sub c z with q | q
          · exact .inl (by simp [q])
          · exact .inr q
      · rcases f.keep.free h31 with z | z
        · exact .inl z
        · exact .inr (List.mem_cons_of_mem _ z)
      · intro z
        rcases List.mem_cons.mp z with z | z
        · exact h3d z
        · exact J.free h31 z
      · rw [hs1]
        exact kk.at_ _ _ d1 (by simp)
    · rw [if_neg (by decide),if_neg (by decide),if_pos rfl]
      refine ⟨by decide,fun p hp=>⟨_,_,_,BW e1 hp,T.Oq,T.C1,_,rfl,x,FtQ.mOf b,_,_,rfl,I.st.BN (Ai.new hp),I.mi.wf,fun H2 p2 k2 hp2 hl2=>⟨p2,rfl,_,k2.at_ _ _ Ab (by simp),_,hl2,(show 1 + 5≤sizeLine by decide),fun p3 hp3=>?_⟩⟩⟩
      exact same _ p3 _ (FtT.AjK b) (((Ai.new hp).trans k2).trans (Ai.new hp3)) (((Ai.new hp).trans k2).Fz hp3) Ab
    · obtain ⟨du,i2⟩:=I.st.bld.ins
      obtain ⟨dt,i3⟩:=I.st.bld.tree.ins
      rw [if_neg (by decide),if_neg (by decide),if_neg (by decide)]
      refine ⟨_,_,_,e1,T.Oq,T.C1,_,rfl,_,rfl,_,_,_,i1,T.Ah,T.Bu,_,Gw ..,_,rfl,_,_,_,i2,T.AL,T.AK,_,D2 _,?_⟩
      rw [if_pos rfl]
      refine ⟨by decide,fun z hz=>⟨x.u.t,(FtQ.mOf b).w,rfl,I.st.bld.tree.BN (Ai.new hz),I.mi.wf,fun H2 a k2 ha2 h2=>⟨a,rfl,_,k2.at_ _ _ Ab (by simp),_,h2,Br ?_,fun p3 hp3=>?_⟩⟩⟩
      · have:=Xi I.mi.wf
        rw [Az]
        show 1 + _≤_
        omega
      · have kk:=(Ai.new (F:=[]) (o:=.lst [V.int 0]) hz).trans k2
        refine same _ p3 _ (FtT.AjL b) (kk.trans (Ai.new hp3)) (kk.Fz hp3) ?_
        rw [Ab,Kl]; rfl
    · obtain ⟨du,i2⟩:=I.st.bld.ins
      obtain ⟨dt,i3⟩:=I.st.bld.tree.ins
      rw [if_neg (by omega),if_neg (by omega),if_neg (by omega)]
      refine ⟨_,_,_,e1,T.Oq,T.C1,_,rfl,_,rfl,_,_,_,i1,T.Ah,T.Bu,_,Gw ..,_,rfl,_,_,_,i2,T.AL,T.AK,_,D2 _,?_⟩
      rw [if_neg (by omega)]
      have hal:as.length=rs.length:=Paired.length hP
      refine ⟨⟨_,SqL.of hr1⟩,Ady (as.map V.ref) (fun D j H'=>Ai [] H H'∧∃ ts:List Addr,H' D=some (.lst (ts.map V.ref))∧YT H' ts ((rs.take j).map FtQ.bytes)) (fun D hD=>⟨Ai.new hD,[],Ab,.nil⟩) (fun D j H' _ h=>SqL.of (h.1.at_ _ _ hr1 (by simp))) ?_ ?_⟩
      · rintro D j y H' hD hj ⟨k2,ts,h2,t2⟩
        rw [List.getElem?_map] at hj
        cases ha:as[j]? with
        | none=>rw [ha] at hj; cases hj
        | some a =>
          rw [ha] at hj
          cases hj
          obtain ⟨row,hrow,hra⟩:=De hP ha
          have hbv:=AqJ (hin row (List.mem_of_getElem? hrow))
          walk_at "rd"
          have htl:ts.length=(rs.take j).length:=by have:=Paired.length t2; rw [List.length_map] at this; exact this
          rw [List.length_take] at htl
          refine ⟨row.map V.int,.inl ⟨SqL.of (k2.at_ _ _ hra (by simp)),fun l hl=>?_⟩⟩
          have hlD:l≠D:=fun e=>by rw [e,h2] at hl; cases hl
          refine ⟨_,BW h2 hl,Bs (by rw [List.length_map]; omega),AN (k2.trans (Ai.new hl)) hD,ts++[l],?_,?_⟩
          · rw [Ab,List.map_append]; rfl
          · rw [BC hrow,List.map_append]
            refine Gy (CK t2 fun a' q' _ e=>?_) ?_
            · exact Aj (BW e hl) (fun z=>by rw [z,h2] at e; cases e)
            · rw [A9 hlD,Ab,hbv]
      · rintro D H' hD ⟨k2,ts,h2,t2⟩
        rw [List.length_map,hal,List.take_length] at t2
        refine ⟨x.u.t,nn,D,call,nums,ts,rs,b,rfl,I.st.bld.tree.BN k2,SqL.of (k2.at_ _ _ hn1 (by simp)),h2,t2,hask,h4,h9,fun H3 p k3 hp h3=>same H3 p _ ?_ (k2.trans k3) (k2.Fz hp) h3⟩
        exact Prod.ext (Aso b hask h4 h9) rfl
end
theorem Ac9 (rs:List (List Int)) (r:List Int):FtV.Bk (rs++[r])=FtV.Bk rs++((r.length:Int)::r):=by
  unfold FtV.Bk
  rw [List.flatMap_append]; simp
theorem WK {rs:List (List Int)} {k:Nat} {r:List Int} (h:rs[k]? = some r):FtV.Bk rs=FtV.Bk (rs.take k)++(((r.length:Int)::r)++FtV.Bk (rs.drop (k + 1))):=by
  have hlt:k < rs.length:=(List.getElem?_eq_some_iff.mp h).1
  have hd:rs.drop k=r::rs.drop (k + 1):=by
    rw [List.drop_eq_getElem_cons hlt]
    rw [List.getElem?_eq_getElem hlt] at h
    rw [Option.some.inj h]
  conv=>lhs; rw [← List.take_append_drop k rs,hd]
  unfold FtV.Bk
  rw [List.flatMap_append,List.flatMap_cons]
theorem YD {l u v:List Int} {i:Nat} (h:l.drop i=u++v):l.drop (i + u.length)=v:=by
  rw [← List.drop_drop,h,List.drop_left]
theorem Aif {l v:List Int} {i:Nat} {x:Int} (h:l.drop i=x::v):l[i]? = some x:=by
  have:=List.getElem?_drop (xs:=l) (i:=i) (j:=0)
  rw [h,Nat.add_zero] at this
  exact this.symm
theorem UW {l u v:List Int} {i:Nat} (h:l.drop i=u++v) (hi:i≤l.length):i + u.length≤l.length:=by
  have:=congrArg List.length h
  rw [List.length_drop,List.length_append] at this
  omega
theorem AhN {l u v:List Int} {i:Nat} {a b:Int} (h:l.drop i=u++v) (hi:i≤l.length) (ha:a=(i:Int)) (hb:b=((i + u.length:Nat):Int)):RQ (l.map V.int) (some a) (some b)=u.map V.int:=by
  rw [AnT ha hb (by omega) (by rw [List.length_map]; exact UW h hi),← List.map_drop,← List.map_take,h]
  congr 1
  rw [show i + u.length - i=u.length by omega,List.take_left]
section
variable {P:Program} {w:World} {K:PySem.W.Frag} {mg:Str→Option Value} {base:Heap} {A:Ad}
def Asg (K:PySem.W.Frag):Sp:=fun vs H Q _=>∃ (c:Addr) (l t:List Int) (i:Nat) (rs:List (List Int)),vs=[.ref c,.int (i:Int),.int (rs.length:Int)]∧SqL K H c (l.map V.int)∧i≤l.length∧l.drop i=FtV.Bk rs++t∧rs.length≤2 ∧
  ∀ (H':Hp) (r:Addr) (as:List Addr),Ai [] H H'→H r=none→(∀ a ∈ as,H a=none)→H' r=some (.lst (as.map V.ref))→Paired (fun a q=>H' a=some (.lst (q.map V.int))) as rs→Q (.ref r) H'
theorem Aml (T:Tx K mg A):AY P w K mg base CX0 1 A.Gs A.VO ["calls","at","wanted"] (Asg K):=by
  refine T.Lm.ok MB (fun vs H Q E h=>?_) (fun cdv Ar outer s H vs Q E hr h=>?_)
  · obtain ⟨c,l,t,i,rs,rfl,_⟩:=h
    rfl
  · obtain ⟨c,l,t,i,rs,rfl,hc,hi,hd,hrl,k⟩:=h
    have hu:=AZ hr
    refine ⟨_,(Ac (Be (i:=3) MB.nd rfl (Or.inl rfl) (BI Ag))
      (Ac (Vj PassesOwn.never (Ao Xa (AS AI (by rfl) T.Es PySem.boot_len (Aa (pv 3) Ag)) (pv 2) (As _)) (Ac (Be (i:=4) MB.nd rfl (Or.inl rfl) (LD YJ (pv 0) (Ie (CY Ge (pv 1) Ap)) (Ie (CY Ge (CY Ge (pv 1) Ap) (Ng Kr (pv 0) (pv 1) (fun _ _=>rfl))))))
      (Ac (AE (Gz PySem.F.plainAttrs_list PySem.F.slot_list_append PySem.F.type_list_append Fv (pv 3) (Aa (pv 4) Ag)))
      (Ae (Tj (i:=1) MB.nd rfl (Or.inl rfl) (CY Ge Ap (AS AI (by rfl) T.Es PySem.boot_len (Aa (pv 4) Ag))) Aaj)))))
      (Ae (Av (pv 3))))),?_⟩
    walk_at "rd"
    refine ⟨Nat.zero_le _,fun r hr1=>?_⟩
    refine AbU rs.length (fun j σ H'=>(∃ v,σ=[some (.ref c),some (.int ((i + (FtV.Bk (rs.take j)).length:Nat):Int)),some (.int (rs.length:Int)),some (.ref r),v])∧Ai [] H H'∧j≤rs.length∧∃ as:List Addr,H' r=some (.lst (as.map V.ref))∧Paired (fun a q=>H' a=some (.lst (q.map V.int))∧a≠r) as (rs.take j)∧∀ a ∈ as,H a=none) ?_ ?_ ?_
    · exact ⟨⟨none,rfl⟩,Ai.new hr1,Nat.zero_le _,[],Ab,.nil,fun _ h=>by cases h⟩
    · rintro j σ H' ⟨⟨v,rfl⟩,k1,hj,as,h1,p1,f1⟩
      have hal:as.length=j:=by have:=Paired.length p1; rw [List.length_take] at this; omega
      walk_at "rd"
      refine ⟨_,.inl (SqL.of h1),?_⟩
      rw [List.length_map,hal]
      by_cases hlt:j < rs.length
      · rw [if_pos (by omega)]
        refine ⟨hlt,?_⟩
        obtain ⟨row,hrow⟩:∃ row,rs[j]? = some row:=⟨_,List.getElem?_eq_getElem hlt⟩
        have hd1:l.drop (i + (FtV.Bk (rs.take j)).length)=((row.length:Int)::row)++(FtV.Bk (rs.drop (j + 1))++t):=by
          rw [WK hrow,List.append_assoc] at hd
          have:=YD hd
          rw [List.append_assoc] at this
          exact this
        have hle:i + (FtV.Bk (rs.take j)).length≤l.length:=by
          rw [WK hrow,List.append_assoc] at hd
          exact UW hd hi
        have hnext:(FtV.Bk (rs.take (j + 1))).length=(FtV.Bk (rs.take j)).length + (row.length + 1):=by
          rw [BC hrow,Ac9,List.length_append,List.length_cons]
        generalize (FtV.Bk (rs.take j)).length=m at hd1 hle hnext
        have hrest:=YD (u:=[(row.length:Int)]) hd1
        have hle1:=UW (u:=[(row.length:Int)]) hd1 hle
        refine ⟨_,hc.keep k1,_,Aeu (by rw [List.getElem?_map,Aif hd1]; rfl),row.length,rfl,_,hc.keep k1,fun p hp=>?_⟩
        rw [AhN hrest hle1 (by rw [List.length_singleton]; omega) (by rw [List.length_singleton]; omega)]
        have hpr:p≠r:=fun e=>by rw [e,h1] at hp; cases hp
        refine ⟨.inl ⟨rfl,_,SqL.of (BW h1 hp)⟩,_,BW h1 hp,Bs (by rw [List.length_map]; omega),_,.inl (SqL.of (Aj Ab hpr)),?_,AN (k1.trans (Ai.new hp)) hr1,by omega,as++[p],?_,?_,?_⟩
        · rw [List.length_map,hnext]; omega
        · rw [Ab,List.map_append]; rfl
        · rw [BC hrow]
          exact Gy (CK p1 fun a q _ ⟨e1,e2⟩=>⟨Aj (BW e1 hp) e2,e2⟩) ⟨Aj Ab hpr,hpr⟩
        · intro a ha
          rcases List.mem_append.mp ha with z | z
          · exact f1 a z
          · rw [List.mem_singleton] at z; rw [z]; exact k1.Fz hp
      · rw [if_neg (by omega)]
        have:j=rs.length:=by omega
        subst this
        rw [List.take_length] at p1
        exact k _ r as k1 hr1 f1 h1 (CK p1 fun _ _ _ h=>h.1)
    · exact Va (Ad8 Aok (Ary Af5 (Af4 Pn AlQ)) Pn)
theorem AmK (s:FtTree.Bytes) {c:List (List Int)} (h:WrfirsNeutral.asked1 c=true):(WrfirsNeutral.step s c).2.length≤18000:=by
  have W:=(FtQ.S2 s).wf
  have byD:∀ (p:B8) (f:B8→List Int),(∀ d:B8,d.length≤600→(f d).length≤1000)→(FtT.KP (FtQ.mOf s).w p f).length≤18000:=by
    intro p f hf
    rcases Wv (FtQ.mOf s).w p f with ⟨_,h2⟩ | ⟨_,d,hd,h2⟩
    · rw [h2]; simp
    · rw [h2]; exact Nat.le_trans (hf d (AhP W hd)) (by omega)
  rcases FtV.Gk h with rfl | ⟨b,rfl,_⟩ | rfl | ⟨b,rfl,_⟩ | ⟨b,rfl,_⟩ | ⟨a,k,b,rfl,_⟩ | ⟨b,d,rfl,_⟩ | ⟨b,rfl,_⟩ | ⟨b,rfl,_⟩ | rfl
  · rw [FtT.Asi]; simp
  · rw [FtT.AgI]; simp
  · rw [FtT.AjK]; simp
  · rw [FtT.Aos]; simp
  · rw [FtT.Aow]; exact byD _ _ fun d _=>by simp
  · rw [FtT.Aou]
    refine byD _ _ fun d hd=>?_
    rw [List.length_cons,FtS.itz,List.length_map,List.length_take,List.length_drop]
    omega
  · rw [FtT.Aov]; simp
  · rw [FtT.Aot]
    dsimp only
    cases e:(FtT.BQ (FtQ.mOf s).w).find? (FtTree.before (FtQ.bytes b)) with
    | none=>simp
    | some q =>
      have:=JZ W (List.mem_of_find?_eq_some e)
      show (0::FtS.itz q).length≤_
      rw [List.length_cons,FtS.itz,List.length_map]
      omega
  · rw [FtT.AjJ]
    dsimp only
    rcases WU (FtQ.mOf s).w (FtQ.bytes b) with ⟨_,h2⟩ | ⟨_,i,hv⟩
    · exact Nat.le_trans (Nat.le_of_eq (congrArg List.length h2)) (by simp)
    · rw [hv]
      dsimp only
      have h1:=ZS (ps:=FtT.CN (FtQ.mOf s).w i) fun q hq=>JZ W (List.mem_filter.mp hq).1
      have h2:(FtT.CN (FtQ.mOf s).w i).length≤16:=Nat.le_trans (List.length_filter_le _ _) (by rw [FtT.LC]; exact W.len)
      rw [List.length_cons]
      omega
  · rw [FtT.AjL]
    have:=Xi W
    rw [List.length_cons,FtS.itz,List.length_map]
    omega
def AsX (A:Ad):List (Key × V):=[(Sum.inl 1,.ref A.Vz),(Sum.inl 2,.ref A.V0),(Sum.inl 3,.ref A.V1),(Sum.inl 4,.ref A.V2),(Sum.inl 5,.ref A.V3),(Sum.inl 6,.ref A.V4),(Sum.inl 7,.ref A.V5),(Sum.inl 8,.ref A.V6),(Sum.inl 9,.ref A.V7),(Sum.inl 10,.ref A.R0)]
theorem AsW (T:Tx K mg A) {c:List (List Int)} (h:WrfirsNeutral.asked1 c=true):∃ (call:Int) (nums:List Int) (rs:List (List Int)) (fa:Addr),c=(call::nums)::rs∧Hs (AsX A) (Sum.inl call)=some (.ref fa)∧(∀ H,SqT K H fa [.int (nums.length:Int),.int (rs.length:Int)])∧rs.length≤2:=by
  rcases FtV.Gk h with rfl | ⟨b,rfl,_⟩ | rfl | ⟨b,rfl,_⟩ | ⟨b,rfl,_⟩ | ⟨a,k,b,rfl,_⟩ | ⟨b,d,rfl,_⟩ | ⟨b,rfl,_⟩ | ⟨b,rfl,_⟩ | rfl
  · exact ⟨1,[],[],_,rfl,rfl,T.An8,by decide⟩
  · exact ⟨2,[],[b],_,rfl,rfl,T.An9,by simp⟩
  · exact ⟨3,[],[],_,rfl,rfl,T.AnA,by decide⟩
  · exact ⟨4,[],[b],_,rfl,rfl,T.AnB,by simp⟩
  · exact ⟨5,[],[b],_,rfl,rfl,T.AnC,by simp⟩
  · exact ⟨6,[(a:Int),(k:Int)],[b],_,rfl,rfl,T.AnD,by simp⟩
  · exact ⟨7,[],[b,d],_,rfl,rfl,T.AnE,by simp⟩
  · exact ⟨8,[],[b],_,rfl,rfl,T.AnF,by simp⟩
  · exact ⟨9,[],[b],_,rfl,rfl,T.AnG,by simp⟩
  · exact ⟨10,[],[],_,rfl,rfl,T.Aka,by decide⟩
theorem DAt.Aa0 {F:List Addr} {H H':Hp} {d:Addr} {x:SA} {m:FtM.M} (I:DAt A H d x m) (k:Ai F H H') (h:∀ a ∈ d::x.fp,a ∉ F):DAt A H' d x m :=
  ⟨let ⟨dx,e⟩:=I.ins; ⟨dx,k.at_ _ _ e (h d (List.mem_cons_self ..))⟩,I.st.Aa0 k fun a ha=>h a (List.mem_cons_of_mem _ ha),I.mi,I.out⟩
theorem DAt.BN {H H':Hp} {d:Addr} {x:SA} {m:FtM.M} (I:DAt A H d x m) (k:Ai [] H H'):DAt A H' d x m:=I.Aa0 k (by simp)
theorem DAt.free {H:Hp} {d:Addr} {x:SA} {m:FtM.M} (I:DAt A H d x m) {a:Addr} (h:H a=none):a ∉ d::x.fp:=by
  intro z
  rcases List.mem_cons.mp z with z | z
  · obtain ⟨d2,e2⟩:=I.ins
    rw [z,e2] at h; cases h
  · exact I.st.free h z
theorem Ajz:∀ rs:List (List Int),(rs.map fun q=>(1:Int) + (q.length:Int)).sum=((FtV.Bk rs).length:Int)
  | []=>rfl
  | q::rs=>by
    rw [List.map_cons,List.sum_cons,Ajz rs]
    show _=((((q.length:Int)::q)++FtV.Bk rs).length:Int)
    rw [List.length_append,List.length_cons]
    omega
structure AwF (A:Ad) (H:Hp) (l:List Int) (d an:Addr) (n k i:Nat) (H':Hp) (x:SA) (b:FtTree.Bytes) (acc:List Int) (cs:List (List (List Int))):Prop where
  kp:Ai [] H H'
  dsk:DAt A H' d x (FtQ.mOf b)
  fr:∀ a ∈ d::x.fp,H a=none
  hat:H' an=some (.lst (acc.map V.int))
  ann:an ∉ d::x.fp
  an0:H an=none
  go:FtV.Go l i acc b cs
  cnt:cs.length + k=n
  al:acc.length≤20000 * k
def Awa (K:PySem.W.Frag):Sp:=fun vs H Q _=>∃ (a:Addr) (l:List Int),vs=[.ref a]∧SqL K H a (l.map V.int)∧PyWrfirs.answers_asked l=true∧∀ (H':Hp) (p:Addr),H' p=some (.lst ((PyWrfirs.answers l).map V.int))→Q (.ref p) H'
theorem Amh (T:Tx K mg A):AY P w K mg base CX0 16 A.Fs A.Lw ["calls"] (Awa K):=by
  refine T.Qj.ok Ci (fun vs H Q E h=>?_) (fun cdv Ar outer s H vs Q E hr h=>?_)
  · obtain ⟨a,l,rfl,_⟩:=h
    rfl
  · obtain ⟨c,l,rfl,hc,hask,k⟩:=h
    have hu:=AZ hr
    obtain ⟨cs0,G0⟩:=FtV.Ard hask
    have hfew:=G0.few
    refine ⟨_,(Ac (Be (i:=1) Ci.nd rfl (Or.inl rfl) (P6 T.Av9 (AfT T) (hr.mono (by decide)) (by rfl) T.Avb T.NR .nil A1))
      (Ac (Be (i:=2) Ci.nd rfl (Or.inl rfl) (BI Ag))
      (Ac (Be (i:=3) Ci.nd rfl (Or.inl rfl) Ap)
      (Ac (Vj PassesOwn.never (Ao Xa (pv 3) (AS AI (by rfl) T.Es PySem.boot_len (Aa (pv 0) Ag)) (As _)) (Ac (Be (i:=4) Ci.nd rfl (Or.inl rfl) (Ng Kr (pv 0) (pv 3) (fun _ _=>rfl)))
      (Ac (Be (i:=5) Ci.nd rfl (Or.inl rfl) (Ar7 T.Atp rfl T.Aut (pv 4) (fun _ _=>rfl)))
      (Ac (Tj (i:=3) Ci.nd rfl (Or.inl rfl) Ap Aaj)
      (Ac (Be (i:=6) Ci.nd rfl (Or.inl rfl) (LD YJ (pv 0) (Ie (pv 3)) (Ie (CY Ge (pv 3) (Ng Afp (pv 5) Ap (fun _ _=>rfl))))))
      (Ac (Tj (i:=3) Ci.nd rfl (Or.inl rfl) (AS AI (by rfl) T.Es PySem.boot_len (Aa (pv 6) Ag)) Aaj)
      (Ac (Be (i:=7) Ci.nd rfl (Or.inl rfl) (AJ (Aml T) (hr.mono (by decide)) (by rfl) T.AoD T.Lm.kp T.Vx .nil A1 (Aa (pv 0) (Aa (pv 3) (Aa (Ng Afp (pv 5) Ap (fun _ _=>rfl)) Ag)))))
      (Ac (Tj (i:=3) Ci.nd rfl (Or.inl rfl) (AS (AqK rfl) (by rfl) T.Au9 (by decide +kernel) (Aa (AdB (own:=[("row",9)]) (te:=tOp (rI0 fun i j=>V.int (i + j)) (tC (V.int 1)) (tCB (fun xs H Q=>∃ p ys,xs=[V.ref p]∧(SqL K H p ys∨SqT K H p ys)∧Q (V.int ys.length) H) (AbN (Qe 9) AgL))) rfl Ci.nd (K6 (pv 7)) (Lp (N:=["calls","desk","answered","at","call","form","numbers","rows","answer","row"]) (sc:=Af HM) (by decide +kernel)) (fun _ _ _ _ _=>ET (i:=9) Ci.nd rfl (Or.inl rfl)) (fun _ _ _ _ _=>YH) (fun _ _ _ _ _=>(CY Ge Ap (AS AI (by rfl) T.Es PySem.boot_len (Aa (pv 9) Ag))))) Ag)) Aaj)
      (Ac (Be (i:=8) Ci.nd rfl (Or.inl rfl) (AH (pv 1) T.Oq T.Ace (Abb T) (hr.mono (by decide)) T.KA .nil A1 (Aa (pv 4) (Aa (pv 6) (Aa (pv 7) Ag)))))
      (Ac (AE (Gz PySem.F.plainAttrs_list PySem.F.slot_list_append PySem.F.type_list_append Fv (pv 2) (Aa (AS AI (by rfl) T.Es PySem.boot_len (Aa (pv 8) Ag)) Ag)))
      (Ae (AE (Gz PySem.F.plainAttrs_list PySem.F.slot_list_extend PySem.F.type_list_extend Gx (pv 2) (Aa (pv 8) Ag))))))))))))))
      (Ae (Av (pv 2))))))),?_⟩
    walk_at "rd"
    intro d dd hd hdd hne
    refine ⟨d,dd,rfl,Ab,fun H1 y k1 hfp D1=>⟨rfl,?_⟩⟩
    obtain ⟨kH,fpn⟩:=made (fp:=y.fp) hd hdd k1 (fun b hb=>.inr (hfp b hb))
    refine ⟨Nat.zero_le _,fun an han=>?_⟩
    have J0:AwF A H l d an cs0.length 0 0 (upd H1 an (.lst [])) y [] [] cs0:=by
      refine ⟨kH.trans (Ai.new han),D1.BN (Ai.new han),fun a ha=>?_,Ab,fun z=>?_,kH.Fz han,G0,rfl,Nat.zero_le _⟩
      · rcases List.mem_cons.mp ha with z | z
        · rw [z]; exact hd
        · exact fpn a z
      · rcases List.mem_cons.mp z with z | z
        · obtain ⟨d2,e2⟩:=D1.ins
          rw [z,e2] at han; cases han
        · exact D1.st.free han z
    refine AbU cs0.length (fun j σ H'=>∃ i x b acc cs,(∃ v4 v5 v6 v7 v8 v9,σ=[some (.ref c),some (.ref d),some (.ref an),some (.int ((i:Nat):Int)),v4,v5,v6,v7,v8,v9])∧AwF A H l d an cs0.length j i H' x b acc cs) ⟨0,y,[],[],cs0,⟨none,none,none,none,none,none,rfl⟩,J0⟩ ?_ ?_
    · rintro j σ H' ⟨i,x,b,acc,cs,⟨v4,v5,v6,v7,v8,v9,rfl⟩,J⟩
      walk_at "rd"
      have hcH:=hc.keep J.kp
      refine ⟨_,.inl hcH,?_⟩
      rw [List.length_map]
      by_cases hlt:i < l.length
      · rw [if_pos (by omega)]
        obtain ⟨cc,t,ds,rfl,hask1,hdrop,hroom,G2⟩:=FtV.Atf J.go hlt
        have hjn:j < cs0.length:=by have:=J.cnt; rw [List.length_cons] at this; omega
        refine ⟨hjn,?_⟩
        obtain ⟨call,nums,rs,fa,rfl,hva,hfa,hrl⟩:=AsW T hask1
        have hd0:l.drop i=call::(nums++(FtV.Bk rs++t)):=by
          rw [hdrop]
          show ((call::nums)++FtV.Bk rs)++t=_
          rw [List.append_assoc]; rfl
        have hd1:l.drop (i + 1)=nums++(FtV.Bk rs++t):=YD (u:=[call]) hd0
        have hd2:l.drop (i + 1 + nums.length)=FtV.Bk rs++t:=YD hd1
        have hl1:i + 1≤l.length:=hlt
        have hl2:=UW hd1 hl1
        refine ⟨_,hcH,_,Aeu (by rw [List.getElem?_map,Aif hd0]; rfl),Sum.inl call,rfl,_,hva,?_⟩
        refine ⟨fa,rfl,_,hfa _,_,rfl,_,rfl,_,hcH,fun nn hnn=>?_⟩
        rw [AhN hd1 hl1 (by omega) (by omega)]
        have k2:Ai [] H' (upd H' nn (.lst (nums.map V.int))):=Ai.new hnn
        refine ⟨_,.inl (SqL.of Ab),fa,rfl,_,hfa _,_,rfl,c,l,t,i + 1 + nums.length,rs,by rw [List.length_map,show ((i:Int) + 1 + (nums.length:Int))=((i + 1 + nums.length:Nat):Int) by omega],hcH.keep k2,hl2,hd2,hrl,fun H3 r as k3 hr3 hf3 h3 p3=>⟨r,rfl,⟨_,SqL.of h3⟩,?_⟩⟩
        have hal:as.length=rs.length:=Paired.length p3
        refine Ady (as.map V.ref) (fun D j H4=>Ai [] H3 H4∧H4 D=some (.lst (((rs.take j).map fun q=>(1:Int) + (q.length:Int)).map V.int))) (fun D hD=>⟨Ai.new hD,Ab⟩) (fun D j H4 _ h=>SqL.of (h.1.at_ _ _ h3 (by simp))) ?_ ?_
        · rintro D m y H4 hD hm ⟨k4,h4⟩
          rw [List.getElem?_map] at hm
          cases ha:as[m]? with
          | none=>rw [ha] at hm; cases hm
          | some a =>
            rw [ha] at hm
            cases hm
            obtain ⟨row,hrow,hra⟩:=De p3 ha
            walk_at "rd"
            refine ⟨_,.inl (SqL.of (k4.at_ _ _ hra (by simp))),_,h4,Bs (by rw [List.length_map,List.length_map,List.length_take]; omega),AN k4 hD,?_⟩
            rw [Ab,BC hrow,List.map_append,List.map_append,List.length_map]; rfl
        · rintro D H4 hD ⟨k4,h4⟩
          rw [List.length_map,hal,List.take_length] at h4
          have KK:Ai [] H' H4:=(k2.trans k3).trans k4
          have D4:=J.dsk.BN KK
          obtain ⟨dd4,e4⟩:=D4.ins
          have an4:=KK.at_ _ _ J.hat (by simp)
          refine ⟨D,rfl,_,SqL.of h4,_,_,e4,rfl,d,nn,r,x,b,call,nums,as,rs,rfl,D4,(k3.trans k4).at_ _ _ Ab (by simp),k4.at_ _ _ h3 (by simp),CK p3 fun _ _ _ e=>k4.at_ _ _ e (by simp),fun a ha=>J.dsk.free (k2.Fz (hf3 a ha)),hask1,hroom,fun H5 p x' f hp hpn h5 D5=>?_⟩
          have an5:H5 an=some (.lst (acc.map V.int)):=f.keep.at_ _ _ an4 J.ann
          have hpa:p≠an:=fun e=>by
            rcases hp with z | z
            · rw [e,an4] at z; cases z
            · exact J.ann (by rw [← e]; exact z)
          have ann5:an ∉ d::x'.fp:=fun z=>by
            rcases f.sub an z with q | q
            · exact J.ann q
            · rw [an4] at q; cases q
          have sm:=AmK b hask1
          have al:=J.al
          have hcnt:=J.cnt
          rw [List.length_cons] at hcnt
          have hj40:j < 40:=by omega
          have kJ:=J.kp.trans KK
          have K5:Ai [] H H5:=⟨fun a o e _=>f.keep.at_ _ _ (kJ.at_ _ _ e (by simp)) (fun z=>by rw [J.fr _ z] at e; cases e),fun a xs e=>f.keep.tup _ _ (kJ.tup _ _ e)⟩
          generalize hans:(WrfirsNeutral.step b ((call::nums)::rs)).2=ans at sm h5 G2
          refine ⟨.inl ⟨rfl,_,SqL.of an5⟩,p,rfl,_,.inl (SqL.of h5),_,an5,?_,.inl ⟨rfl,_,SqL.of Ab⟩,p,rfl,_,Ab,_,Aj h5 hpa,?_,i + (FtV.flat ((call::nums)::rs)).length,?_,x',_,_,ds,⟨AN (AN K5 J.an0) J.an0,?_,fun a ha=>?_,?_,ann5,J.an0,G2,by omega,?_⟩⟩
          · rw [sizeLine_eq,List.length_map]; omega
          · rw [sizeLine_eq,List.length_append,List.length_map,List.length_map,List.length_singleton]; omega
          · rw [List.length_map,Ajz]
            show _=(((i + ((call::nums)++FtV.Bk rs).length:Nat)):Int)
            rw [List.length_append,List.length_cons]
            omega
          · exact D5.Aa0 (F:=[an]) ((Ai.put an5 trivial (by simp)).trans (Ai.put Ab trivial (by simp))) fun a ha z=>by
              rw [List.mem_singleton] at z
              rw [z] at ha
              exact ann5 ha
          · rcases f.sub a ha with q | q
            · exact J.fr a q
            · exact kJ.Fz q
          · rw [Ab]
            simp
          · rw [List.length_append,List.length_cons]; omega
      · rw [if_neg (by omega)]
        refine k _ an ?_
        rw [J.hat,FtV.Avr J.go (by omega)]
    · exact Va (Ad8 Aok Pn (Ary Af5 (Af4 Pn AlQ)))
end
end Ft
end
section
set_option maxRecDepth 100000
set_option maxHeartbeats 4000000
namespace Ft
open PySem PySem.Spec PyProof.Rows L2
theorem ex1 {α:Type}:∀ {us:List α},us.length=1→∃ a0:α,us=[a0]
  | [a0],_=>⟨a0,rfl⟩
theorem ex2 {α:Type}:∀ {us:List α},us.length=2→∃ a0 a1:α,us=[a0,a1]
  | [a0,a1],_=>⟨a0,a1,rfl⟩
theorem ex3 {α:Type}:∀ {us:List α},us.length=3→∃ a0 a1 a2:α,us=[a0,a1,a2]
  | [a0,a1,a2],_=>⟨a0,a1,a2,rfl⟩
theorem ex4 {α:Type}:∀ {us:List α},us.length=4→∃ a0 a1 a2 a3:α,us=[a0,a1,a2,a3]
  | [a0,a1,a2,a3],_=>⟨a0,a1,a2,a3,rfl⟩
theorem ex5 {α:Type}:∀ {us:List α},us.length=5→∃ a0 a1 a2 a3 a4:α,us=[a0,a1,a2,a3,a4]
  | [a0,a1,a2,a3,a4],_=>⟨a0,a1,a2,a3,a4,rfl⟩
theorem Axl {K:PySem.W.Frag} {h:Heap} {mg:Str→Option Value} (X:K.In h) (G:h.Ns mainGlobals mg) {Bv A8 AA Am D7 D0 CO CU CS CT CP C7 Fi Gp Gq Eb Dx Fe Gn DW Fg Ea DV DY DZ Dy Ce Cc Cd Bb B4 B3 B2 BJ AM AW Bc BK Bi BL Bn Cb AU Ba Bf Bm AV By Bx Fh C8 Cy B9 Cw Cz Bg Bq AR B0 B1 Bh Bz Dz DX Gr Dv Cv Ff Fj CQ Gs Fs Aev Qn Aew Ud Uc Jk Jl Jm Jn Jo Jp Jq Jr Js HH:Addr} {Adc AcI Ac8 Adi Rk Ac6 AaL Aar ZG Abs Oz Z5 AaQ Aaw ZL Abx O4 ZA AaO Aau ZJ Abv O2 Z8 AaP Aav ZK Abw O3 Z9 AaM Aas ZH Abt O0 Z6 Yd XS XB Yu MY X4 Aja Aiz AhU Ajx WD AhL AlX Al5 Aln Amu Zx Alf AlY Al6 Alo Amv Zy Alh AfI Afz AeV Agr Uy AeK AfA Afr AeN Agj Uq AeC AiW Aiv AhQ Ajt W9 AhH AlW Al4 Alm Amt Zw Ale AfD Afu AeQ Agm Ut AeF AiY Aix AhS Ajv WB AhJ AfH Afy AeU Agq Ux AeJ AfC Aft AeP Agl Us AeE AfF Afw AeS Ago Uv AeH AfG Afx AeT Agp Uw AeI AfB Afs AeO Agk Ur AeD Yc XR XA Yt MX X3 Ya XO X8 Yr MV X1 Yb XQ X9 Ys MW X2 NA N4 Ny NJ Hx Nu SH Sx Sg Ti JL RP SG Sw Sf Th JK RO SF Sv Se Tg JJ RN We VY VP Wq Lq VG L7 L3 Lx LF Gm Lv Mv Mo Mi M5 GV Md NB N5 Nz NK Hy Nv Wf VZ VQ Wr Lr VH Pt Pa OO PF Iv OA Wg Wa VR Ws Ls VI QU QO QI Ra IP QG XY XM X6 Yp MS Xz Mt Mm Mg M3 GS Mb N9 N3 Nw NI Hw Nt Pp OX OL P9 Iq O7 QT QN QH QZ IM QF Mu Mn Mh M4 GU Mc S7 So RY Tb JE RI S6 Sn RX Ta JD RH AiZ Aiy AhT Ajw WC AhK Ye XT XC Yv MZ X5 AaJ Aap ZE Abq Ox Z3 Vc UK U1 Vi Km U0 AaI Aao ZD Abp Ow Z2 AaK Aaq ZF Abr Oy Z4 Pq OY OM PB Ir O8 XZ XN X7 Yq MU X0 SE Su Sd Tf JI RM S9 Sr Sa Td JG RK SD Ss Sb Te JH RL Pr OZ ON PD Iu O9 S8 Sq RZ Tc JF RJ Adb AcH Ac7 Adh Rj Ac5 AfE Afv AeR Agn Uu AeG AlZ Al7 Alp Amw Zz Ali Af9 Afq AeM Agi Up AeB AaH Aan ZC Abo Ov Z1 AiX Aiw AhR Aju WA AhI Ajb Ai0 AhV Ajy WE AhM AaN Aat ZI Abu O1 Z7 Ama Al8 Alq Amx Z0 Alj AlV Al3 Alk Ams Zv Ald:Value} {Adf Acs AaV Zf Aba Zk AaY Zi AaZ Zj AaW Zg Yk Xu Ajg Ahw Amd AkM Ame AkN AfS Aet AfK Ael Ajc Ahs Amc AkL AfN Aeo Aje Ahu AfR Aes AfM Aen AfP Aeq AfQ Aer AfL Aem Yj Xt Yh Xr Yi Xs ND Nm SS RC SR RB SQ RA Wh VA L8 Lo My LU NF Nn Wi VB Py Om Wj VC QW QA Yf Xp Mw LR NC Nl Pu Oi QV Q9 Mx LS SJ R5 SI R3 Ajf Ahv Yl Xv AaT Zd Vd TZ AaS Zc AaU Ze Pw Oj Yg Xq SO R9 SM R7 SN R8 Px Ol SK R6 Ade Acr AfO Aep Amf AkO AfJ Aek AaR Zb Ajd Aht Ajh Ahx AaX Zh Amg AkP Amb AkK Auz Anj Au0 AmZ Ana Anb Anc Ane Anf Ang Anh Ani AjW:Option Addr} {Adk AbB AbG AbE AbF AbC Y6 AjB Am7 Am8 AgC Ag4 Aj7 Am6 Ag7 Aj9 AgB Ag6 Ag9 AgA Ag5 Y5 Y3 Y4 NP T4 T3 T2 Wy LH MG NQ Wz Qc W0 Rg Y1 MD NO PY Rf MF Tu Tt AjA Y7 Ab9 Vl Ab8 AbA PZ Y2 T1 Tw Tz Qa Tv Adj Ag8 Am9 Ag3 Ab7 Aj8 AjC AbD AmA Am5 Au3 An5 Au4 Anv Anw Anx Anz An0 An1 An2 An3 An4 AjZ:Array (Option Value)} {Aq0 Aw0 AjQ Aw3 Auw Axi AbQ AgO As2 Y9 AbP AbR AgV Adn Aq1 AgS AgR Y8 Aw9 Vp AgU AmW Axj Aw1 Aw4 AgT Awy AgN AjS W2 AjT AmV AjU Vo AgP AjR Auv Awz Aux Aw2 Aw8 Aw6 Aw7 Aw5 Auy As5 As6 As7 As8 As9 AsA Akt Aku Akv Akw Akx Aky Akz Ak0 Ak1 Ak2 AsB AdY AdZ Aea Aeb Aec Aed Aee Aef AdP AdQ AdR AdS AdT AdU AdV AdW AdX AbV Akb Akc Akd Ake Akf Akg Akh Aki Akj Akk Akl Akm Akn Ako Akp Akq Akr Aks AgY AgZ:Tok} {Au1 Anu Au2 AqS AqR Ank Anl Anm Ann Ano Anp Anq Anr Ant AjX:Nat}
    (AsN:PySem.W.nsIn K mainGlobals "Head" = some (some (.ref Bv)))
    (AtT:PySem.W.plainGet K Bv Str.empty=true)
    (Ath:PySem.W.hasDictIn K Bv=true)
    (AtW:PySem.W.plainOver K Bv=true)
    (Auf:PySem.W.findIn K (.ref Bv) "__setattr__" = some (some (.builtin "object.__setattr__")))
    (AtC:PySem.W.makesIn K Bv=true)
    (Atu:PySem.W.keepIn K (.ref Bv)=true)
    (Ic:PySem.W.findIn K (.ref Bv) "serial" = some none)
    (Co:PySem.W.findIn K (.ref Bv) "kind" = some none)
    (Hh:PySem.W.findIn K (.ref Bv) "names" = some none)
    (BD:PySem.W.findIn K (.ref Bv) "size" = some none)
    (Ja:PySem.W.findIn K (.ref Bv) "major" = some none)
    (Jb:PySem.W.findIn K (.ref Bv) "minor" = some none)
    (D8:PySem.W.findIn K (.ref Bv) "length" = some none)
    (AsO:PySem.W.nsIn K mainGlobals "Tree" = some (some (.ref A8)))
    (AtU:PySem.W.plainGet K A8 Str.empty=true)
    (Ati:PySem.W.hasDictIn K A8=true)
    (AtX:PySem.W.plainOver K A8=true)
    (Aug:PySem.W.findIn K (.ref A8) "__setattr__" = some (some (.builtin "object.__setattr__")))
    (AtD:PySem.W.makesIn K A8=true)
    (Atv:PySem.W.keepIn K (.ref A8)=true)
    (C2:PySem.W.findIn K (.ref A8) "kinds" = some none)
    (Hj:PySem.W.findIn K (.ref A8) "texts" = some none)
    (B5:PySem.W.findIn K (.ref A8) "holders" = some none)
    (Bt:PySem.W.findIn K (.ref A8) "contents" = some none)
    (BP:PySem.W.findIn K (.ref A8) "last_number" = some none)
    (AkB:PySem.W.nsIn K mainGlobals "Builder" = some (some (.ref AA)))
    (Amp:PySem.W.plainGet K AA Str.empty=true)
    (Alz:PySem.W.hasDictIn K AA=true)
    (Amy:PySem.W.plainOver K AA=true)
    (Am2:PySem.W.findIn K (.ref AA) "__setattr__" = some (some (.builtin "object.__setattr__")))
    (AlT:PySem.W.makesIn K AA=true)
    (AlF:PySem.W.keepIn K (.ref AA)=true)
    (AK:PySem.W.findIn K (.ref AA) "tree" = some none)
    (CZ:PySem.W.findIn K (.ref AA) "linked" = some none)
    (AoO:PySem.W.nsIn K mainGlobals "Stream" = some (some (.ref Am)))
    (ApY:PySem.W.plainGet K Am Str.empty=true)
    (Apr:PySem.W.hasDictIn K Am=true)
    (Aqa:PySem.W.plainOver K Am=true)
    (Aqe:PySem.W.findIn K (.ref Am) "__setattr__" = some (some (.builtin "object.__setattr__")))
    (ApR:PySem.W.makesIn K Am=true)
    (Ap2:PySem.W.keepIn K (.ref Am)=true)
    (Bu:PySem.W.findIn K (.ref Am) "builder" = some none)
    (BH:PySem.W.findIn K (.ref Am) "code" = some none)
    (Fn:PySem.W.findIn K (.ref Am) "place" = some none)
    (An:PySem.W.findIn K (.ref Am) "phase" = some none)
    (AQ:PySem.W.findIn K (.ref Am) "part" = some none)
    (BM:PySem.W.findIn K (.ref Am) "wanted" = some none)
    (AO:PySem.W.findIn K (.ref Am) "head" = some none)
    (CW:PySem.W.findIn K (.ref Am) "name" = some none)
    (AsM:PySem.W.nsIn K mainGlobals "Desk" = some (some (.ref D7)))
    (AtS:PySem.W.plainGet K D7 Str.empty=true)
    (Atg:PySem.W.hasDictIn K D7=true)
    (AtV:PySem.W.plainOver K D7=true)
    (Aue:PySem.W.findIn K (.ref D7) "__setattr__" = some (some (.builtin "object.__setattr__")))
    (AtB:PySem.W.makesIn K D7=true)
    (Ats:PySem.W.keepIn K (.ref D7)=true)
    (C1:PySem.W.findIn K (.ref D7) "stream" = some none)
    (Aej:PySem.W.nsIn K mainGlobals "refusal_of" = some (some (.ref D0)))
    (Af3:K.lookup D0=some ⟨Adc,Adf,.func (PySem.W.fnOf "refusal_of" "refusal_of" (Ay Fy) (Aw Fy) (Af Fy) .none AcI Ac8 Adi Acs Rk Ac6),Adk⟩)
    (Ae5:PySem.W.codeIn K Rk "refusal_of" = true)
    (Af1:PySem.W.keepIn K (.ref D0)=true)
    (Acl:PySem.W.nsIn K mainGlobals "kind_answer" = some (some (.ref CO)))
    (AcU:K.lookup CO=some ⟨AaL,AaV,.func (PySem.W.fnOf "kind_answer" "kind_answer" (Ay E1) (Aw E1) (Af E1) .none Aar ZG Abs Zf Oz Z5),AbB⟩)
    (Acy:PySem.W.codeIn K Oz "kind_answer" = true)
    (AcK:PySem.W.keepIn K (.ref CO)=true)
    (Acq:PySem.W.nsIn K mainGlobals "size_answer" = some (some (.ref CU)))
    (AcZ:K.lookup CU=some ⟨AaQ,Aba,.func (PySem.W.fnOf "size_answer" "size_answer" (Ay E7) (Aw E7) (Af E7) .none Aaw ZL Abx Zk O4 ZA),AbG⟩)
    (Ac3:PySem.W.codeIn K O4 "size_answer" = true)
    (AcP:PySem.W.keepIn K (.ref CU)=true)
    (Aco:PySem.W.nsIn K mainGlobals "read_answer" = some (some (.ref CS)))
    (AcX:K.lookup CS=some ⟨AaO,AaY,.func (PySem.W.fnOf "read_answer" "read_answer" (Ay E5) (Aw E5) (Af E5) .none Aau ZJ Abv Zi O2 Z8),AbE⟩)
    (Ac1:PySem.W.codeIn K O2 "read_answer" = true)
    (AcN:PySem.W.keepIn K (.ref CS)=true)
    (Acp:PySem.W.nsIn K mainGlobals "same_answer" = some (some (.ref CT)))
    (AcY:K.lookup CT=some ⟨AaP,AaZ,.func (PySem.W.fnOf "same_answer" "same_answer" (Ay E6) (Aw E6) (Af E6) .none Aav ZK Abw Zj O3 Z9),AbF⟩)
    (Ac2:PySem.W.codeIn K O3 "same_answer" = true)
    (AcO:PySem.W.keepIn K (.ref CT)=true)
    (Acm:PySem.W.nsIn K mainGlobals "next_answer" = some (some (.ref CP)))
    (AcV:K.lookup CP=some ⟨AaM,AaW,.func (PySem.W.fnOf "next_answer" "next_answer" (Ay E3) (Aw E3) (Af E3) .none Aas ZH Abt Zg O0 Z6),AbC⟩)
    (Acz:PySem.W.codeIn K O0 "next_answer" = true)
    (AcL:PySem.W.keepIn K (.ref CP)=true)
    (YZ:PySem.W.nsIn K mainGlobals "names_answer" = some (some (.ref C7)))
    (Aa7:K.lookup C7=some ⟨Yd,Yk,.func (PySem.W.fnOf "names_answer" "names_answer" (Ay DS) (Aw DS) (Af DS) .none XS XB Yu Xu MY X4),Y6⟩)
    (Zs:PySem.W.codeIn K MY "names_answer" = true)
    (Aay:PySem.W.keepIn K (.ref C7)=true)
    (AkH:PySem.W.nsIn K mainGlobals "parts_of" = some (some (.ref Fi)))
    (AlL:K.lookup Fi=some ⟨Aja,Ajg,.func (PySem.W.fnOf "parts_of" "parts_of" (Ay HU) (Aw HU) (Af HU) .none Aiz AhU Ajx Ahw WD AhL),AjB⟩)
    (AkX:PySem.W.codeIn K WD "parts_of" = true)
    (AlD:PySem.W.keepIn K (.ref Fi)=true)
    (AoR:PySem.W.nsIn K mainGlobals "is_part" = some (some (.ref Gp)))
    (ApH:K.lookup Gp=some ⟨AlX,Amd,.func (PySem.W.fnOf "is_part" "is_part" (Ay Jw) (Aw Jw) (Af Jw) .none Al5 Aln Amu AkM Zx Alf),Am7⟩)
    (AoY:PySem.W.codeIn K Zx "is_part" = true)
    (Apy:PySem.W.keepIn K (.ref Gp)=true)
    (AoS:PySem.W.nsIn K mainGlobals "is_path" = some (some (.ref Gq)))
    (ApI:K.lookup Gq=some ⟨AlY,Ame,.func (PySem.W.fnOf "is_path" "is_path" (Ay HR) (Aw HR) (Af HR) .none Al6 Alo Amv AkN Zy Alh),Am8⟩)
    (AoZ:PySem.W.codeIn K Zy "is_path" = true)
    (Apz:PySem.W.keepIn K (.ref Gq)=true)
    (Ahr:PySem.W.nsIn K mainGlobals "parent_of" = some (some (.ref Eb)))
    (AiK:K.lookup Eb=some ⟨AfI,AfS,.func (PySem.W.fnOf "parent_of" "parent_of" (Ay GB) (Aw GB) (Af GB) .none Afz AeV Agr Aet Uy AeK),AgC⟩)
    (AhD:PySem.W.codeIn K Uy "parent_of" = true)
    (AiA:PySem.W.keepIn K (.ref Eb)=true)
    (Ahj:PySem.W.findIn K (.ref Bv) "__init__" = some (some (.ref Dx)))
    (Aip:PySem.W.isFn K (.ref Dx)=true)
    (AiC:K.lookup Dx=some ⟨AfA,AfK,.func (PySem.W.fnOf "__init__" "Head.__init__" (Ay G3) (Aw G3) (Af G3) .none Afr AeN Agj Ael Uq AeC),Ag4⟩)
    (Ah5:PySem.W.codeIn K Uq "Head.__init__" = true)
    (Ai2:PySem.W.keepIn K (.ref Dx)=true)
    (AkD:PySem.W.nsIn K mainGlobals "digit_of" = some (some (.ref Fe)))
    (AlH:K.lookup Fe=some ⟨AiW,Ajc,.func (PySem.W.fnOf "digit_of" "digit_of" (Ay HN) (Aw HN) (Af HN) .none Aiv AhQ Ajt Ahs W9 AhH),Aj7⟩)
    (AkT:PySem.W.codeIn K W9 "digit_of" = true)
    (Al9:PySem.W.keepIn K (.ref Fe)=true)
    (AoQ:PySem.W.nsIn K mainGlobals "byte_of" = some (some (.ref Gn)))
    (ApG:K.lookup Gn=some ⟨AlW,Amc,.func (PySem.W.fnOf "byte_of" "byte_of" (Ay Jv) (Aw Jv) (Af Jv) .none Al4 Alm Amt AkL Zw Ale),Am6⟩)
    (AoX:PySem.W.codeIn K Zw "byte_of" = true)
    (Apx:PySem.W.keepIn K (.ref Gn)=true)
    (Ahm:PySem.W.nsIn K mainGlobals "digits_of" = some (some (.ref DW)))
    (AiF:K.lookup DW=some ⟨AfD,AfN,.func (PySem.W.fnOf "digits_of" "digits_of" (Ay G6) (Aw G6) (Af G6) .none Afu AeQ Agm Aeo Ut AeF),Ag7⟩)
    (Ah8:PySem.W.codeIn K Ut "digits_of" = true)
    (Ai5:PySem.W.keepIn K (.ref DW)=true)
    (AkF:PySem.W.nsIn K mainGlobals "head_row" = some (some (.ref Fg)))
    (AlJ:K.lookup Fg=some ⟨AiY,Aje,.func (PySem.W.fnOf "head_row" "head_row" (Ay HQ) (Aw HQ) (Af HQ) .none Aix AhS Ajv Ahu WB AhJ),Aj9⟩)
    (AkV:PySem.W.codeIn K WB "head_row" = true)
    (AlB:PySem.W.keepIn K (.ref Fg)=true)
    (Ahq:PySem.W.nsIn K mainGlobals "number_at" = some (some (.ref Ea)))
    (AiJ:K.lookup Ea=some ⟨AfH,AfR,.func (PySem.W.fnOf "number_at" "number_at" (Ay GA) (Aw GA) (Af GA) .none Afy AeU Agq Aes Ux AeJ),AgB⟩)
    (AhC:PySem.W.codeIn K Ux "number_at" = true)
    (Ai9:PySem.W.keepIn K (.ref Ea)=true)
    (Ahl:PySem.W.nsIn K mainGlobals "byte_fits" = some (some (.ref DV)))
    (AiE:K.lookup DV=some ⟨AfC,AfM,.func (PySem.W.fnOf "byte_fits" "byte_fits" (Ay G5) (Aw G5) (Af G5) .none Aft AeP Agl Aen Us AeE),Ag6⟩)
    (Ah7:PySem.W.codeIn K Us "byte_fits" = true)
    (Ai4:PySem.W.keepIn K (.ref DV)=true)
    (Aho:PySem.W.nsIn K mainGlobals "head_fits" = some (some (.ref DY)))
    (AiH:K.lookup DY=some ⟨AfF,AfP,.func (PySem.W.fnOf "head_fits" "head_fits" (Ay G8) (Aw G8) (Af G8) .none Afw AeS Ago Aeq Uv AeH),Ag9⟩)
    (AhA:PySem.W.codeIn K Uv "head_fits" = true)
    (Ai7:PySem.W.keepIn K (.ref DY)=true)
    (Ahp:PySem.W.nsIn K mainGlobals "name_fits" = some (some (.ref DZ)))
    (AiI:K.lookup DZ=some ⟨AfG,AfQ,.func (PySem.W.fnOf "name_fits" "name_fits" (Ay G9) (Aw G9) (Af G9) .none Afx AeT Agp Aer Uw AeI),AgA⟩)
    (AhB:PySem.W.codeIn K Uw "name_fits" = true)
    (Ai8:PySem.W.keepIn K (.ref DZ)=true)
    (Ahk:PySem.W.findIn K (.ref A8) "__init__" = some (some (.ref Dy)))
    (Air:PySem.W.isFn K (.ref Dy)=true)
    (AiD:K.lookup Dy=some ⟨AfB,AfL,.func (PySem.W.fnOf "__init__" "Tree.__init__" (Ay G4) (Aw G4) (Af G4) .none Afs AeO Agk Aem Ur AeD),Ag5⟩)
    (Ah6:PySem.W.codeIn K Ur "Tree.__init__" = true)
    (Ai3:PySem.W.keepIn K (.ref Dy)=true)
    (YY:PySem.W.findIn K (.ref A8) "kind_at" = some (some (.ref Ce)))
    (Aai:PySem.W.isFn K (.ref Ce)=true)
    (Aa6:K.lookup Ce=some ⟨Yc,Yj,.func (PySem.W.fnOf "kind_at" "Tree.kind_at" (Ay DR) (Aw DR) (Af DR) .none XR XA Yt Xt MX X3),Y5⟩)
    (Zr:PySem.W.codeIn K MX "Tree.kind_at" = true)
    (Pf:PySem.W.keepIn K (.ref Ce)=true)
    (YW:PySem.W.findIn K (.ref A8) "data_at" = some (some (.ref Cc)))
    (Aag:PySem.W.isFn K (.ref Cc)=true)
    (Aa4:K.lookup Cc=some ⟨Ya,Yh,.func (PySem.W.fnOf "data_at" "Tree.data_at" (Ay DP) (Aw DP) (Af DP) .none XO X8 Yr Xr MV X1),Y3⟩)
    (Zp:PySem.W.codeIn K MV "Tree.data_at" = true)
    (Pc:PySem.W.keepIn K (.ref Cc)=true)
    (YX:PySem.W.findIn K (.ref A8) "file_at" = some (some (.ref Cd)))
    (Aah:PySem.W.isFn K (.ref Cd)=true)
    (Aa5:K.lookup Cd=some ⟨Yb,Yi,.func (PySem.W.fnOf "file_at" "Tree.file_at" (Ay DQ) (Aw DQ) (Af DQ) .none XQ X9 Ys Xs MW X2),Y4⟩)
    (Zq:PySem.W.codeIn K MW "Tree.file_at" = true)
    (Pe:PySem.W.keepIn K (.ref Cd)=true)
    (Of:PySem.W.findIn K (.ref A8) "ordered_paths" = some (some (.ref Bb)))
    (OU:PySem.W.isFn K (.ref Bb)=true)
    (Ph:K.lookup Bb=some ⟨NA,ND,.func (PySem.W.fnOf "ordered_paths" "Tree.ordered_paths" (Ay BS) (Aw BS) (Af BS) .none N4 Ny NJ Nm Hx Nu),NP⟩)
    (Ot:PySem.W.codeIn K Hx "Tree.ordered_paths" = true)
    (IA:PySem.W.keepIn K (.ref Bb)=true)
    (TY:PySem.W.findIn K (.ref A8) "paths_with" = some (some (.ref B4)))
    (UH:PySem.W.isFn K (.ref B4)=true)
    (UU:K.lookup B4=some ⟨SH,SS,.func (PySem.W.fnOf "paths_with" "Tree.paths_with" (Ay Cg) (Aw Cg) (Af Cg) .none Sx Sg Ti RC JL RP),T4⟩)
    (Uo:PySem.W.codeIn K JL "Tree.paths_with" = true)
    (K0:PySem.W.keepIn K (.ref B4)=true)
    (TX:PySem.W.findIn K (.ref A8) "path_count" = some (some (.ref B3)))
    (UG:PySem.W.isFn K (.ref B3)=true)
    (UT:K.lookup B3=some ⟨SG,SR,.func (PySem.W.fnOf "path_count" "Tree.path_count" (Ay CI) (Aw CI) (Af CI) .none Sw Sf Th RB JK RO),T3⟩)
    (Um:PySem.W.codeIn K JK "Tree.path_count" = true)
    (Kz:PySem.W.keepIn K (.ref B3)=true)
    (TV:PySem.W.findIn K (.ref A8) "byte_count" = some (some (.ref B2)))
    (UE:PySem.W.isFn K (.ref B2)=true)
    (US:K.lookup B2=some ⟨SF,SQ,.func (PySem.W.fnOf "byte_count" "Tree.byte_count" (Ay Cf) (Aw Cf) (Af Cf) .none Sv Se Tg RA JJ RN),T2⟩)
    (Ul:PySem.W.codeIn K JJ "Tree.byte_count" = true)
    (Ky:PySem.W.keepIn K (.ref B2)=true)
    (Xm:PySem.W.findIn K (.ref A8) "has_file" = some (some (.ref BJ)))
    (XH:PySem.W.isFn K (.ref BJ)=true)
    (XU:K.lookup BJ=some ⟨We,Wh,.func (PySem.W.fnOf "has_file" "Tree.has_file" (Ay Dl) (Aw Dl) (Af Dl) .none VY VP Wq VA Lq VG),Wy⟩)
    (Xw:PySem.W.codeIn K Lq "Tree.has_file" = true)
    (Nb:PySem.W.keepIn K (.ref BJ)=true)
    (LQ:PySem.W.findIn K (.ref A8) "byte_count_with" = some (some (.ref AM)))
    (Ml:PySem.W.isFn K (.ref AM)=true)
    (Mp:K.lookup AM=some ⟨L7,L8,.func (PySem.W.fnOf "byte_count_with" "Tree.byte_count_with" (Ay BB) (Aw BB) (Af BB) .none L3 Lx LF Lo Gm Lv),LH⟩)
    (LZ:PySem.W.codeIn K Gm "Tree.byte_count_with" = true)
    (He:PySem.W.keepIn K (.ref AM)=true)
    (Nk:PySem.W.findIn K (.ref A8) "is_held_beside" = some (some (.ref AW)))
    (N2:PySem.W.isFn K (.ref AW)=true)
    (N8:K.lookup AW=some ⟨Mv,My,.func (PySem.W.fnOf "is_held_beside" "Tree.is_held_beside" (Ay Bw) (Aw Bw) (Af Bw) .none Mo Mi M5 LU GV Md),MG⟩)
    (Nr:PySem.W.codeIn K GV "Tree.is_held_beside" = true)
    (HA:PySem.W.keepIn K (.ref AW)=true)
    (Og:PySem.W.findIn K (.ref A8) "put_directory" = some (some (.ref Bc)))
    (OV:PySem.W.isFn K (.ref Bc)=true)
    (Pj:K.lookup Bc=some ⟨NB,NF,.func (PySem.W.fnOf "put_directory" "Tree.put_directory" (Ay BU) (Aw BU) (Af BU) .none N5 Nz NK Nn Hy Nv),NQ⟩)
    (Ou:PySem.W.codeIn K Hy "Tree.put_directory" = true)
    (IB:PySem.W.keepIn K (.ref Bc)=true)
    (Xn:PySem.W.findIn K (.ref A8) "put_link" = some (some (.ref BK)))
    (XI:PySem.W.isFn K (.ref BK)=true)
    (XW:K.lookup BK=some ⟨Wf,Wi,.func (PySem.W.fnOf "put_link" "Tree.put_link" (Ay Dm) (Aw Dm) (Af Dm) .none VZ VQ Wr VB Lr VH),Wz⟩)
    (Xx:PySem.W.codeIn K Lr "Tree.put_link" = true)
    (Nc:PySem.W.keepIn K (.ref BK)=true)
    (Q8:PySem.W.findIn K (.ref A8) "put_new_file" = some (some (.ref Bi)))
    (QM:PySem.W.isFn K (.ref Bi)=true)
    (QS:K.lookup Bi=some ⟨Pt,Py,.func (PySem.W.fnOf "put_new_file" "Tree.put_new_file" (Ay Cn) (Aw Cn) (Af Cn) .none Pa OO PF Om Iv OA),Qc⟩)
    (QE:PySem.W.codeIn K Iv "Tree.put_new_file" = true)
    (IU:PySem.W.keepIn K (.ref Bi)=true)
    (Xo:PySem.W.findIn K (.ref A8) "put_name" = some (some (.ref BL)))
    (XJ:PySem.W.isFn K (.ref BL)=true)
    (XX:K.lookup BL=some ⟨Wg,Wj,.func (PySem.W.fnOf "put_name" "Tree.put_name" (Ay Dn) (Aw Dn) (Af Dn) .none Wa VR Ws VC Ls VI),W0⟩)
    (Xy:PySem.W.codeIn K Ls "Tree.put_name" = true)
    (Nd:PySem.W.keepIn K (.ref BL)=true)
    (R1:PySem.W.findIn K (.ref A8) "change_data" = some (some (.ref Bn)))
    (Sl:PySem.W.isFn K (.ref Bn)=true)
    (Sz:K.lookup Bn=some ⟨QU,QW,.func (PySem.W.fnOf "change_data" "Tree.change_data" (Ay Cs) (Aw Cs) (Af Cs) .none QO QI Ra QA IP QG),Rg⟩)
    (RG:PySem.W.codeIn K IP "Tree.change_data" = true)
    (JV:PySem.W.keepIn K (.ref Bn)=true)
    (YU:PySem.W.findIn K (.ref AA) "__init__" = some (some (.ref Cb)))
    (ZZ:PySem.W.isFn K (.ref Cb)=true)
    (Aa2:K.lookup Cb=some ⟨XY,Yf,.func (PySem.W.fnOf "__init__" "Builder.__init__" (Ay DN) (Aw DN) (Af DN) .none XM X6 Yp Xp MS Xz),Y1⟩)
    (Zn:PySem.W.codeIn K MS "Builder.__init__" = true)
    (Aax:PySem.W.keepIn K (.ref Cb)=true)
    (Ni:PySem.W.findIn K (.ref AA) "end_archive" = some (some (.ref AU)))
    (N0:PySem.W.isFn K (.ref AU)=true)
    (N6:K.lookup AU=some ⟨Mt,Mw,.func (PySem.W.fnOf "end_archive" "Builder.end_archive" (Ay BE) (Aw BE) (Af BE) .none Mm Mg M3 LR GS Mb),MD⟩)
    (Np:PySem.W.codeIn K GS "Builder.end_archive" = true)
    (Hz:PySem.W.keepIn K (.ref AU)=true)
    (Oe:PySem.W.findIn K (.ref AA) "name_fault" = some (some (.ref Ba)))
    (OR:PySem.W.isFn K (.ref Ba)=true)
    (Pg:K.lookup Ba=some ⟨N9,NC,.func (PySem.W.fnOf "name_fault" "Builder.name_fault" (Ay BR) (Aw BR) (Af BR) .none N3 Nw NI Nl Hw Nt),NO⟩)
    (Oo:PySem.W.codeIn K Hw "Builder.name_fault" = true)
    (Iz:PySem.W.keepIn K (.ref Ba)=true)
    (Q5:PySem.W.findIn K (.ref AA) "has_place" = some (some (.ref Bf)))
    (QJ:PySem.W.isFn K (.ref Bf)=true)
    (QP:K.lookup Bf=some ⟨Pp,Pu,.func (PySem.W.fnOf "has_place" "Builder.has_place" (Ay Cj) (Aw Cj) (Af Cj) .none OX OL P9 Oi Iq O7),PY⟩)
    (QB:PySem.W.codeIn K Iq "Builder.has_place" = true)
    (IQ:PySem.W.keepIn K (.ref Bf)=true)
    (Rz:PySem.W.findIn K (.ref AA) "has_room" = some (some (.ref Bm)))
    (Sk:PySem.W.isFn K (.ref Bm)=true)
    (Sy:K.lookup Bm=some ⟨QT,QV,.func (PySem.W.fnOf "has_room" "Builder.has_room" (Ay Cr) (Aw Cr) (Af Cr) .none QN QH QZ Q9 IM QF),Rf⟩)
    (RF:PySem.W.codeIn K IM "Builder.has_room" = true)
    (JU:PySem.W.keepIn K (.ref Bm)=true)
    (Nj:PySem.W.findIn K (.ref AA) "linked_file" = some (some (.ref AV)))
    (N1:PySem.W.isFn K (.ref AV)=true)
    (N7:K.lookup AV=some ⟨Mu,Mx,.func (PySem.W.fnOf "linked_file" "Builder.linked_file" (Ay BF) (Aw BF) (Af BF) .none Mn Mh M4 LS GU Mc),MF⟩)
    (Nq:PySem.W.codeIn K GU "Builder.linked_file" = true)
    (H0:PySem.W.keepIn K (.ref AV)=true)
    (TM:PySem.W.findIn K (.ref AA) "do_item" = some (some (.ref By)))
    (U7:PySem.W.isFn K (.ref By)=true)
    (UN:K.lookup By=some ⟨S7,SJ,.func (PySem.W.fnOf "do_item" "Builder.do_item" (Ay CC) (Aw CC) (Af CC) .none So RY Tb R5 JE RI),Tu⟩)
    (Ug:PySem.W.codeIn K JE "Builder.do_item" = true)
    (Kt:PySem.W.keepIn K (.ref By)=true)
    (TK:PySem.W.findIn K (.ref AA) "do_file" = some (some (.ref Bx)))
    (U6:PySem.W.isFn K (.ref Bx)=true)
    (UM:K.lookup Bx=some ⟨S6,SI,.func (PySem.W.fnOf "do_file" "Builder.do_file" (Ay CB) (Aw CB) (Af CB) .none Sn RX Ta R3 JD RH),Tt⟩)
    (Ue:PySem.W.codeIn K JD "Builder.do_file" = true)
    (Ks:PySem.W.keepIn K (.ref Bx)=true)
    (AkG:PySem.W.nsIn K mainGlobals "link_key" = some (some (.ref Fh)))
    (AlK:K.lookup Fh=some ⟨AiZ,Ajf,.func (PySem.W.fnOf "link_key" "link_key" (Ay HS) (Aw HS) (Af HS) .none Aiy AhT Ajw Ahv WC AhK),AjA⟩)
    (AkW:PySem.W.codeIn K WC "link_key" = true)
    (AlC:PySem.W.keepIn K (.ref Fh)=true)
    (Za:PySem.W.nsIn K mainGlobals "zeros_behind" = some (some (.ref C8)))
    (Aa8:K.lookup C8=some ⟨Ye,Yl,.func (PySem.W.fnOf "zeros_behind" "zeros_behind" (Ay DT) (Aw DT) (Af DT) .none XT XC Yv Xv MZ X5),Y7⟩)
    (Zt:PySem.W.codeIn K MZ "zeros_behind" = true)
    (Aaz:PySem.W.keepIn K (.ref C8)=true)
    (Acj:PySem.W.findIn K (.ref Am) "__init__" = some (some (.ref Cy)))
    (AcE:PySem.W.isFn K (.ref Cy)=true)
    (AcS:K.lookup Cy=some ⟨AaJ,AaT,.func (PySem.W.fnOf "__init__" "Stream.__init__" (Ay Ey) (Aw Ey) (Af Ey) .none Aap ZE Abq Zd Ox Z3),Ab9⟩)
    (Acw:PySem.W.codeIn K Ox "Stream.__init__" = true)
    (AcJ:PySem.W.keepIn K (.ref Cy)=true)
    (V8:PySem.W.findIn K (.ref Am) "may_end" = some (some (.ref B9)))
    (VW:PySem.W.isFn K (.ref B9)=true)
    (Wd:K.lookup B9=some ⟨Vc,Vd,.func (PySem.W.fnOf "may_end" "Stream.may_end" (Ay Dc) (Aw Dc) (Af Dc) .none UK U1 Vi TZ Km U0),Vl⟩)
    (VD:PySem.W.codeIn K Km "Stream.may_end" = true)
    (L4:PySem.W.keepIn K (.ref B9)=true)
    (Aci:PySem.W.findIn K (.ref Am) "feed" = some (some (.ref Cw)))
    (AcD:PySem.W.isFn K (.ref Cw)=true)
    (AcR:K.lookup Cw=some ⟨AaI,AaS,.func (PySem.W.fnOf "feed" "Stream.feed" (Ay Ex) (Aw Ex) (Af Ex) .none Aao ZD Abp Zc Ow Z2),Ab8⟩)
    (Acv:PySem.W.codeIn K Ow "Stream.feed" = true)
    (Rm:PySem.W.keepIn K (.ref Cw)=true)
    (Ack:PySem.W.findIn K (.ref Am) "take" = some (some (.ref Cz)))
    (AcF:PySem.W.isFn K (.ref Cz)=true)
    (AcT:K.lookup Cz=some ⟨AaK,AaU,.func (PySem.W.fnOf "take" "Stream.take" (Ay Ez) (Aw Ez) (Af Ez) .none Aaq ZF Abr Ze Oy Z4),AbA⟩)
    (Acx:PySem.W.codeIn K Oy "Stream.take" = true)
    (Rn:PySem.W.keepIn K (.ref Cz)=true)
    (Q6:PySem.W.findIn K (.ref Am) "byte_fault" = some (some (.ref Bg)))
    (QK:PySem.W.isFn K (.ref Bg)=true)
    (QQ:K.lookup Bg=some ⟨Pq,Pw,.func (PySem.W.fnOf "byte_fault" "Stream.byte_fault" (Ay Ck) (Aw Ck) (Af Ck) .none OY OM PB Oj Ir O8),PZ⟩)
    (QC:PySem.W.codeIn K Ir "Stream.byte_fault" = true)
    (IS:PySem.W.keepIn K (.ref Bg)=true)
    (YV:PySem.W.findIn K (.ref Am) "begin" = some (some (.ref Bq)))
    (Aaf:PySem.W.isFn K (.ref Bq)=true)
    (Aa3:K.lookup Bq=some ⟨XZ,Yg,.func (PySem.W.fnOf "begin" "Stream.begin" (Ay DO) (Aw DO) (Af DO) .none XN X7 Yq Xq MU X0),Y2⟩)
    (Zo:PySem.W.codeIn K MU "Stream.begin" = true)
    (Pb:PySem.W.keepIn K (.ref Bq)=true)
    (TU:PySem.W.findIn K (.ref Am) "end_part" = some (some (.ref AR)))
    (UD:PySem.W.isFn K (.ref AR)=true)
    (UR:K.lookup AR=some ⟨SE,SO,.func (PySem.W.fnOf "end_part" "Stream.end_part" (Ay CH) (Aw CH) (Af CH) .none Su Sd Tf R9 JI RM),T1⟩)
    (Uk:PySem.W.codeIn K JI "Stream.end_part" = true)
    (Kx:PySem.W.keepIn K (.ref AR)=true)
    (TQ:PySem.W.findIn K (.ref Am) "end_head" = some (some (.ref B0)))
    (UB:PySem.W.isFn K (.ref B0)=true)
    (UP:K.lookup B0=some ⟨S9,SM,.func (PySem.W.fnOf "end_head" "Stream.end_head" (Ay CF) (Aw CF) (Af CF) .none Sr Sa Td R7 JG RK),Tw⟩)
    (Ui:PySem.W.codeIn K JG "Stream.end_head" = true)
    (Kv:PySem.W.keepIn K (.ref B0)=true)
    (TR:PySem.W.findIn K (.ref Am) "end_name" = some (some (.ref B1)))
    (UC:PySem.W.isFn K (.ref B1)=true)
    (UQ:K.lookup B1=some ⟨SD,SN,.func (PySem.W.fnOf "end_name" "Stream.end_name" (Ay CG) (Aw CG) (Af CG) .none Ss Sb Te R8 JH RL),Tz⟩)
    (Uj:PySem.W.codeIn K JH "Stream.end_name" = true)
    (Kw:PySem.W.keepIn K (.ref B1)=true)
    (Q7:PySem.W.findIn K (.ref Am) "name_fault" = some (some (.ref Bh)))
    (QL:PySem.W.isFn K (.ref Bh)=true)
    (QR:K.lookup Bh=some ⟨Pr,Px,.func (PySem.W.fnOf "name_fault" "Stream.name_fault" (Ay Cm) (Aw Cm) (Af Cm) .none OZ ON PD Ol Iu O9),Qa⟩)
    (QD:PySem.W.codeIn K Iu "Stream.name_fault" = true)
    (IT:PySem.W.keepIn K (.ref Bh)=true)
    (TN:PySem.W.findIn K (.ref Am) "end_data" = some (some (.ref Bz)))
    (UA:PySem.W.isFn K (.ref Bz)=true)
    (UO:K.lookup Bz=some ⟨S8,SK,.func (PySem.W.fnOf "end_data" "Stream.end_data" (Ay CD) (Aw CD) (Af CD) .none Sq RZ Tc R6 JF RJ),Tv⟩)
    (Uh:PySem.W.codeIn K JF "Stream.end_data" = true)
    (Ku:PySem.W.keepIn K (.ref Bz)=true)
    (Aei:PySem.W.nsIn K mainGlobals "archive_of" = some (some (.ref Dz)))
    (Af2:K.lookup Dz=some ⟨Adb,Ade,.func (PySem.W.fnOf "archive_of" "archive_of" (Ay Fx) (Aw Fx) (Af Fx) .none AcH Ac7 Adh Acr Rj Ac5),Adj⟩)
    (Ae4:PySem.W.codeIn K Rj "archive_of" = true)
    (Af0:PySem.W.keepIn K (.ref Dz)=true)
    (Ahn:PySem.W.nsIn K mainGlobals "file_item" = some (some (.ref DX)))
    (AiG:K.lookup DX=some ⟨AfE,AfO,.func (PySem.W.fnOf "file_item" "file_item" (Ay G7) (Aw G7) (Af G7) .none Afv AeR Agn Aep Uu AeG),Ag8⟩)
    (Ah9:PySem.W.codeIn K Uu "file_item" = true)
    (Ai6:PySem.W.keepIn K (.ref DX)=true)
    (AoT:PySem.W.nsIn K mainGlobals "item_of" = some (some (.ref Gr)))
    (ApJ:K.lookup Gr=some ⟨AlZ,Amf,.func (PySem.W.fnOf "item_of" "item_of" (Ay Jx) (Aw Jx) (Af Jx) .none Al7 Alp Amw AkO Zz Ali),Am9⟩)
    (Apa:PySem.W.codeIn K Zz "item_of" = true)
    (Ap0:PySem.W.keepIn K (.ref Gr)=true)
    (Ahi:PySem.W.findIn K (.ref D7) "__init__" = some (some (.ref Dv)))
    (Aim:PySem.W.isFn K (.ref Dv)=true)
    (AiB:K.lookup Dv=some ⟨Af9,AfJ,.func (PySem.W.fnOf "__init__" "Desk.__init__" (Ay G1) (Aw G1) (Af G1) .none Afq AeM Agi Aek Up AeB),Ag3⟩)
    (Ah4:PySem.W.codeIn K Up "Desk.__init__" = true)
    (Ai1:PySem.W.keepIn K (.ref Dv)=true)
    (Ach:PySem.W.findIn K (.ref D7) "answer" = some (some (.ref Cv)))
    (AcC:PySem.W.isFn K (.ref Cv)=true)
    (AcQ:K.lookup Cv=some ⟨AaH,AaR,.func (PySem.W.fnOf "answer" "Desk.answer" (Ay D9) (Aw D9) (Af D9) .none Aan ZC Abo Zb Ov Z1),Ab7⟩)
    (Acu:PySem.W.codeIn K Ov "Desk.answer" = true)
    (Rl:PySem.W.keepIn K (.ref Cv)=true)
    (AkE:PySem.W.nsIn K mainGlobals "fault_of" = some (some (.ref Ff)))
    (AlI:K.lookup Ff=some ⟨AiX,Ajd,.func (PySem.W.fnOf "fault_of" "fault_of" (Ay HP) (Aw HP) (Af HP) .none Aiw AhR Aju Aht WA AhI),Aj8⟩)
    (AkU:PySem.W.codeIn K WA "fault_of" = true)
    (AlA:PySem.W.keepIn K (.ref Ff)=true)
    (AkI:PySem.W.nsIn K mainGlobals "state_of" = some (some (.ref Fj)))
    (AlM:K.lookup Fj=some ⟨Ajb,Ajh,.func (PySem.W.fnOf "state_of" "state_of" (Ay HV) (Aw HV) (Af HV) .none Ai0 AhV Ajy Ahx WE AhM),AjC⟩)
    (AkY:PySem.W.codeIn K WE "state_of" = true)
    (AlE:PySem.W.keepIn K (.ref Fj)=true)
    (Acn:PySem.W.nsIn K mainGlobals "path_answer" = some (some (.ref CQ)))
    (AcW:K.lookup CQ=some ⟨AaN,AaX,.func (PySem.W.fnOf "path_answer" "path_answer" (Ay E4) (Aw E4) (Af E4) .none Aat ZI Abu Zh O1 Z7),AbD⟩)
    (Ac0:PySem.W.codeIn K O1 "path_answer" = true)
    (AcM:PySem.W.keepIn K (.ref CQ)=true)
    (AoU:PySem.W.nsIn K mainGlobals "rows_at" = some (some (.ref Gs)))
    (ApK:K.lookup Gs=some ⟨Ama,Amg,.func (PySem.W.fnOf "rows_at" "rows_at" (Ay Jy) (Aw Jy) (Af Jy) .none Al8 Alq Amx AkP Z0 Alj),AmA⟩)
    (Apb:PySem.W.codeIn K Z0 "rows_at" = true)
    (Ap1:PySem.W.keepIn K (.ref Gs)=true)
    (AoP:PySem.W.nsIn K mainGlobals "answers" = some (some (.ref Fs)))
    (ApF:K.lookup Fs=some ⟨AlV,Amb,.func (PySem.W.fnOf "answers" "answers" (Ay HM) (Aw HM) (Af HM) .none Al3 Alk Ams AkK Zv Ald),Am5⟩)
    (AoW:PySem.W.codeIn K Zv "answers" = true)
    (Apw:PySem.W.keepIn K (.ref Fs)=true)
    (Apm:PySem.W.nsIn K mainGlobals "NOTHING" = some (some (.int 0 Aq0)))
    (Avd:PySem.W.nsIn K mainGlobals "FILE" = some (some (.int 1 Aw0)))
    (AhZ:PySem.W.nsIn K mainGlobals "DIRECTORY" = some (some (.int 2 AjQ)))
    (Avh:PySem.W.nsIn K mainGlobals "LINK" = some (some (.int 3 Aw3)))
    (Atc:PySem.W.nsIn K mainGlobals "SLASH" = some (some (.int 47 Auw)))
    (AwS:PySem.W.nsIn K mainGlobals "DOT" = some (some (.int 46 Axi)))
    (ZV:PySem.W.nsIn K mainGlobals "LONGEST_PATH" = some (some (.int 255 AbQ)))
    (AeZ:PySem.W.nsIn K mainGlobals "HEAD_BYTES" = some (some (.int 110 AgO)))
    (Ara:PySem.W.nsIn K mainGlobals "DIGITS" = some (some (.int 8 As2)))
    (XF:PySem.W.nsIn K mainGlobals "SHORTEST_NAME" = some (some (.int 2 Y9)))
    (ZU:PySem.W.nsIn K mainGlobals "LONGEST_NAME" = some (some (.int 256 AbP)))
    (ZW:PySem.W.nsIn K mainGlobals "LONGEST_TEXT" = some (some (.int 255 AbR)))
    (Afg:PySem.W.nsIn K mainGlobals "WRONG_NAME" = some (some (.int 3 AgV)))
    (AcA:PySem.W.nsIn K mainGlobals "WRONG_PLACE" = some (some (.int 4 Adn)))
    (Apn:PySem.W.nsIn K mainGlobals "NO_ROOM" = some (some (.int 5 Aq1)))
    (Afc:PySem.W.nsIn K mainGlobals "MOST_PATHS" = some (some (.int 16 AgS)))
    (Afb:PySem.W.nsIn K mainGlobals "MOST_BYTES" = some (some (.int 600 AgR)))
    (XE:PySem.W.nsIn K mainGlobals "SEVERAL_NAMES" = some (some (.int 2 Y8)))
    (Avp:PySem.W.nsIn K mainGlobals "STEP" = some (some (.int 4 Aw9)))
    (U4:PySem.W.nsIn K mainGlobals "WRONG_HEAD_BYTE" = some (some (.int 1 Vp)))
    (Afe:PySem.W.nsIn K mainGlobals "WRONG_HEAD" = some (some (.int 2 AgU)))
    (Alx:PySem.W.nsIn K mainGlobals "NOT_ZERO" = some (some (.int 6 AmW)))
    (AwT:PySem.W.nsIn K mainGlobals "GAP" = some (some (.int 0 Axj)))
    (Ave:PySem.W.nsIn K mainGlobals "HEAD" = some (some (.int 1 Aw1)))
    (Avj:PySem.W.nsIn K mainGlobals "NAME" = some (some (.int 2 Aw4)))
    (Afd:PySem.W.nsIn K mainGlobals "NAME_ZEROS" = some (some (.int 3 AgT)))
    (Ava:PySem.W.nsIn K mainGlobals "DATA" = some (some (.int 4 Awy)))
    (AeY:PySem.W.nsIn K mainGlobals "DATA_ZEROS" = some (some (.int 5 AgN)))
    (Aib:PySem.W.nsIn K mainGlobals "FILE_MODE" = some (some (.int 33188 AjS)))
    (VS:PySem.W.nsIn K mainGlobals "DIRECTORY_MODE" = some (some (.int 16877 W2)))
    (Aic:PySem.W.nsIn K mainGlobals "LINK_MODE" = some (some (.int 41471 AjT)))
    (Alw:PySem.W.nsIn K mainGlobals "END_MODE" = some (some (.int 0 AmV)))
    (Aid:PySem.W.nsIn K mainGlobals "NO_SERIAL" = some (some (.int 0 AjU)))
    (U3:PySem.W.nsIn K mainGlobals "DIRECTORY_NAMES" = some (some (.int 2 Vo)))
    (Afa:PySem.W.nsIn K mainGlobals "LINK_NAMES" = some (some (.int 1 AgP)))
    (Aia:PySem.W.nsIn K mainGlobals "END_NAMES" = some (some (.int 1 AjR)))
    (Atb:PySem.W.nsIn K mainGlobals "RESET" = some (some (.int 1 Auv)))
    (Avc:PySem.W.nsIn K mainGlobals "FEED" = some (some (.int 2 Awz)))
    (Atd:PySem.W.nsIn K mainGlobals "STATE" = some (some (.int 3 Aux)))
    (Avg:PySem.W.nsIn K mainGlobals "KIND" = some (some (.int 4 Aw2)))
    (Avo:PySem.W.nsIn K mainGlobals "SIZE" = some (some (.int 5 Aw8)))
    (Avl:PySem.W.nsIn K mainGlobals "READ" = some (some (.int 6 Aw6)))
    (Avn:PySem.W.nsIn K mainGlobals "SAME" = some (some (.int 7 Aw7)))
    (Avk:PySem.W.nsIn K mainGlobals "NEXT" = some (some (.int 8 Aw5)))
    (Ate:PySem.W.nsIn K mainGlobals "WRITE" = some (some (.int 10 Auy)))
    (Avi:PySem.W.nsIn K mainGlobals "MARK" = some (some (.ref Aev)))
    (Av6:K.lookup Aev=some ⟨.type "tuple",Auz,.seq #[.int 48 As5,.int 55 As6,.int 48 As7,.int 55 As8,.int 48 As9,.int 49 AsA] Au1,Au3⟩)
    (Apo:PySem.W.nsIn K mainGlobals "TRAILER" = some (some (.ref Qn)))
    (ApE:K.lookup Qn=some ⟨.type "tuple",Anj,.seq #[.int 84 Akt,.int 82 Aku,.int 65 Akv,.int 73 Akw,.int 76 Akx,.int 69 Aky,.int 82 Akz,.int 33 Ak0,.int 33 Ak1,.int 33 Ak2] Anu,An5⟩)
    (Avm:PySem.W.nsIn K mainGlobals "ROOT" = some (some (.ref Aew)))
    (Av7:K.lookup Aew=some ⟨.type "tuple",Au0,.seq #[.int 46 AsB] Au2,Au4⟩)
    (Ata:PySem.W.nsIn K mainGlobals "KINDS" = some (some (.ref Ud)))
    (Atz:K.lookup Ud=some { cls:=.type "dict",dict:=none,data:=.dict #[⟨8,.int 8 AdY,.int 1 Aec⟩,⟨4,.int 4 AdZ,.int 2 Aed⟩,⟨10,.int 10 Aea,.int 3 Aee⟩,⟨0,.int 0 Aeb,.int 0 Aef⟩] AqS,slots:=#[] })
    (Aud:(Ud == sysModules)=false)
    (AsZ:PySem.W.nsIn K mainGlobals "FORMS" = some (some (.ref Uc)))
    (Aty:K.lookup Uc=some { cls:=.type "dict",dict:=none,data:=.dict #[⟨1,.int 1 AdP,.ref Jk⟩,⟨2,.int 2 AdQ,.ref Jl⟩,⟨3,.int 3 AdR,.ref Jm⟩,⟨4,.int 4 AdS,.ref Jn⟩,⟨5,.int 5 AdT,.ref Jo⟩,⟨6,.int 6 AdU,.ref Jp⟩,⟨7,.int 7 AdV,.ref Jq⟩,⟨8,.int 8 AdW,.ref Jr⟩,⟨9,.int 9 AdX,.ref Js⟩,⟨10,.int 10 AbV,.ref HH⟩] AqR,slots:=#[] })
    (Auc:(Uc == sysModules)=false)
    (Ap5:K.lookup Jk=some ⟨.type "tuple",AmZ,.seq #[.int 0 Akb,.int 0 Akc] Ank,Anv⟩)
    (Ap6:K.lookup Jl=some ⟨.type "tuple",Ana,.seq #[.int 0 Akd,.int 1 Ake] Anl,Anw⟩)
    (Ap7:K.lookup Jm=some ⟨.type "tuple",Anb,.seq #[.int 0 Akf,.int 0 Akg] Anm,Anx⟩)
    (Ap8:K.lookup Jn=some ⟨.type "tuple",Anc,.seq #[.int 0 Akh,.int 1 Aki] Ann,Anz⟩)
    (Ap9:K.lookup Jo=some ⟨.type "tuple",Ane,.seq #[.int 0 Akj,.int 1 Akk] Ano,An0⟩)
    (ApA:K.lookup Jp=some ⟨.type "tuple",Anf,.seq #[.int 2 Akl,.int 1 Akm] Anp,An1⟩)
    (ApB:K.lookup Jq=some ⟨.type "tuple",Ang,.seq #[.int 0 Akn,.int 2 Ako] Anq,An2⟩)
    (ApC:K.lookup Jr=some ⟨.type "tuple",Anh,.seq #[.int 0 Akp,.int 1 Akq] Anr,An3⟩)
    (ApD:K.lookup Js=some ⟨.type "tuple",Ani,.seq #[.int 0 Akr,.int 1 Aks] Ant,An4⟩)
    (AlG:K.lookup HH=some ⟨.type "tuple",AjW,.seq #[.int 0 AgY,.int 0 AgZ] AjX,AjZ⟩)
    (Axm:PySem.W.nsIn K mainGlobals "all" = some none)
    (Axn:PySem.W.nsIn K mainGlobals "any" = some none)
    (Axo:PySem.W.nsIn K mainGlobals "len" = some none)
    (AwB:PySem.W.nsIn K mainGlobals "list" = some none)
    (AsG:PySem.W.nsIn K mainGlobals "sorted" = some none)
    (Axp:PySem.W.nsIn K mainGlobals "sum" = some none)
    (Au6:PySem.W.nsIn K mainGlobals "tuple" = some none) :
    ∃ A:Ad,Tx K mg A∧∀ (s:Shared) (us:List Value),us.length=(["calls"]:List Str).length→BindsTo s A.Lw ⟨us,[]⟩ ((["calls"]:List Str).zip us):=by
  have Eh:=AB (st:=Fy) Af3 Ae5 Af1
  have GI:=Eh.binds (ps:=["tree","path","fitting"]) fun _ _ _ _ _ _ us hl=>by obtain ⟨_,_,_,rfl⟩:=ex3 hl; rfl
  have F8:=AB (st:=E1) AcU Acy AcK
  have KH:=F8.binds (ps:=["tree","path"]) fun _ _ _ _ _ _ us hl=>by obtain ⟨_,_,rfl⟩:=ex2 hl; rfl
  have FE:=AB (st:=E7) AcZ Ac3 AcP
  have KO:=FE.binds (ps:=["tree","path"]) fun _ _ _ _ _ _ us hl=>by obtain ⟨_,_,rfl⟩:=ex2 hl; rfl
  have FC:=AB (st:=E5) AcX Ac1 AcN
  have KL:=FC.binds (ps:=["tree","path","start","most"]) fun _ _ _ _ _ _ us hl=>by obtain ⟨_,_,_,_,rfl⟩:=ex4 hl; rfl
  have FD:=AB (st:=E6) AcY Ac2 AcO
  have KN:=FD.binds (ps:=["tree","path","other"]) fun _ _ _ _ _ _ us hl=>by obtain ⟨_,_,_,rfl⟩:=ex3 hl; rfl
  have F9:=AB (st:=E3) AcV Acz AcL
  have KI:=F9.binds (ps:=["tree","path"]) fun _ _ _ _ _ _ us hl=>by obtain ⟨_,_,rfl⟩:=ex2 hl; rfl
  have EW:=AB (st:=DS) Aa7 Zs Aay
  have J8:=EW.binds (ps:=["tree","path"]) fun _ _ _ _ _ _ us hl=>by obtain ⟨_,_,rfl⟩:=ex2 hl; rfl
  have JA:=AB (st:=HU) AlL AkX AlD
  have Rv:=JA.binds (ps:=["name"]) fun _ _ _ _ _ _ us hl=>by obtain ⟨_,rfl⟩:=ex1 hl; rfl
  have Lk:=AB (st:=Jw) ApH AoY Apy
  have Vv:=Lk.binds (ps:=["part"]) fun _ _ _ _ _ _ us hl=>by obtain ⟨_,rfl⟩:=ex1 hl; rfl
  have Ll:=AB (st:=HR) ApI AoZ Apz
  have Vw:=Ll.binds (ps:=["name"]) fun _ _ _ _ _ _ us hl=>by obtain ⟨_,rfl⟩:=ex1 hl; rfl
  have Il:=AB (st:=GB) AiK AhD AiA
  have NZ:=Il.binds (ps:=["path"]) fun _ _ _ _ _ _ us hl=>by obtain ⟨_,rfl⟩:=ex1 hl; rfl
  have Kf:=AB (st:=G3) AiC Ah5 Ai2
  have NS:=Kf.binds (ps:=["self","row"]) fun _ _ _ _ _ _ us hl=>by obtain ⟨_,_,rfl⟩:=ex2 hl; rfl
  have HE:=AB (st:=HN) AlH AkT Al9
  have LL:=HE.binds (ps:=["byte"]) fun _ _ _ _ _ _ us hl=>by obtain ⟨_,rfl⟩:=ex1 hl; rfl
  have Lj:=AB (st:=Jv) ApG AoX Apx
  have Vu:=Lj.binds (ps:=["digit"]) fun _ _ _ _ _ _ us hl=>by obtain ⟨_,rfl⟩:=ex1 hl; rfl
  have Ih:=AB (st:=G6) AiF Ah8 Ai5
  have NV:=Ih.binds (ps:=["number"]) fun _ _ _ _ _ _ us hl=>by obtain ⟨_,rfl⟩:=ex1 hl; rfl
  have J9:=AB (st:=HQ) AlJ AkV AlB
  have Ru:=J9.binds (ps:=["serial","mode","names","size","length"]) fun _ _ _ _ _ _ us hl=>by obtain ⟨_,_,_,_,_,rfl⟩:=ex5 hl; rfl
  have C4:=AB (st:=GA) AiJ AhC Ai9
  have Dr:=C4.binds (ps:=["row","which"]) fun _ _ _ _ _ _ us hl=>by obtain ⟨_,_,rfl⟩:=ex2 hl; rfl
  have Ig:=AB (st:=G5) AiE Ah7 Ai4
  have NU:=Ig.binds (ps:=["at","byte"]) fun _ _ _ _ _ _ us hl=>by obtain ⟨_,_,rfl⟩:=ex2 hl; rfl
  have Ij:=AB (st:=G8) AiH AhA Ai7
  have NX:=Ij.binds (ps:=["head"]) fun _ _ _ _ _ _ us hl=>by obtain ⟨_,rfl⟩:=ex1 hl; rfl
  have Ik:=AB (st:=G9) AiI AhB Ai8
  have NY:=Ik.binds (ps:=["head","name"]) fun _ _ _ _ _ _ us hl=>by obtain ⟨_,_,rfl⟩:=ex2 hl; rfl
  have Kg:=AB (st:=G4) AiD Ah6 Ai3
  have NT:=Kg.binds (ps:=["self"]) fun _ _ _ _ _ _ us hl=>by obtain ⟨_,rfl⟩:=ex1 hl; rfl
  have GN:=AB (st:=DR) Aa6 Zr Pf
  have C3:=GN.binds (ps:=["self","path"]) fun _ _ _ _ _ _ us hl=>by obtain ⟨_,_,rfl⟩:=ex2 hl; rfl
  have GK:=AB (st:=DP) Aa4 Zp Pc
  have DG:=GK.binds (ps:=["self","path"]) fun _ _ _ _ _ _ us hl=>by obtain ⟨_,_,rfl⟩:=ex2 hl; rfl
  have GL:=AB (st:=DQ) Aa5 Zq Pe
  have DH:=GL.binds (ps:=["self","path"]) fun _ _ _ _ _ _ us hl=>by obtain ⟨_,_,rfl⟩:=ex2 hl; rfl
  have Dt:=AB (st:=BS) Ph Ot IA
  have Dq:=Dt.binds (ps:=["self"]) fun _ _ _ _ _ _ us hl=>by obtain ⟨_,rfl⟩:=ex1 hl; rfl
  have EO:=AB (st:=Cg) UU Uo K0
  have EG:=EO.binds (ps:=["self","number"]) fun _ _ _ _ _ _ us hl=>by obtain ⟨_,_,rfl⟩:=ex2 hl; rfl
  have EN:=AB (st:=CI) UT Um Kz
  have EF:=EN.binds (ps:=["self"]) fun _ _ _ _ _ _ us hl=>by obtain ⟨_,rfl⟩:=ex1 hl; rfl
  have EM:=AB (st:=Cf) US Ul Ky
  have GH:=EM.binds (ps:=["self"]) fun _ _ _ _ _ _ us hl=>by obtain ⟨_,rfl⟩:=ex1 hl; rfl
  have FK:=AB (st:=Dl) XU Xw Nb
  have IF:=FK.binds (ps:=["self","number"]) fun _ _ _ _ _ _ us hl=>by obtain ⟨_,_,rfl⟩:=ex2 hl; rfl
  have CM:=AB (st:=BB) Mp LZ He
  have Ee:=CM.binds (ps:=["self","path","number","size"]) fun _ _ _ _ _ _ us hl=>by obtain ⟨_,_,_,_,rfl⟩:=ex4 hl; rfl
  have Dj:=AB (st:=Bw) N8 Nr HA
  have Dg:=Dj.binds (ps:=["self","path","number"]) fun _ _ _ _ _ _ us hl=>by obtain ⟨_,_,_,rfl⟩:=ex3 hl; rfl
  have Du:=AB (st:=BU) Pj Ou IB
  have EV:=Du.binds (ps:=["self","path"]) fun _ _ _ _ _ _ us hl=>by obtain ⟨_,_,rfl⟩:=ex2 hl; rfl
  have FL:=AB (st:=Dm) XW Xx Nc
  have IG:=FL.binds (ps:=["self","path","text"]) fun _ _ _ _ _ _ us hl=>by obtain ⟨_,_,_,rfl⟩:=ex3 hl; rfl
  have DE:=AB (st:=Cn) QS QE IU
  have F3:=DE.binds (ps:=["self","path","data"]) fun _ _ _ _ _ _ us hl=>by obtain ⟨_,_,_,rfl⟩:=ex3 hl; rfl
  have FN:=AB (st:=Dn) XX Xy Nd
  have FJ:=FN.binds (ps:=["self","path","number"]) fun _ _ _ _ _ _ us hl=>by obtain ⟨_,_,_,rfl⟩:=ex3 hl; rfl
  have Eg:=AB (st:=Cs) Sz RG JV
  have FX:=Eg.binds (ps:=["self","number","data"]) fun _ _ _ _ _ _ us hl=>by obtain ⟨_,_,_,rfl⟩:=ex3 hl; rfl
  have GJ:=AB (st:=DN) Aa2 Zn Aax
  have Jz:=GJ.binds (ps:=["self"]) fun _ _ _ _ _ _ us hl=>by obtain ⟨_,rfl⟩:=ex1 hl; rfl
  have Dh:=AB (st:=BE) N6 Np Hz
  have E9:=Dh.binds (ps:=["self"]) fun _ _ _ _ _ _ us hl=>by obtain ⟨_,rfl⟩:=ex1 hl; rfl
  have Ds:=AB (st:=BR) Pg Oo Iz
  have EU:=Ds.binds (ps:=["self","head","name"]) fun _ _ _ _ _ _ us hl=>by obtain ⟨_,_,_,rfl⟩:=ex3 hl; rfl
  have DB:=AB (st:=Cj) QP QB IQ
  have F0:=DB.binds (ps:=["self","head","path"]) fun _ _ _ _ _ _ us hl=>by obtain ⟨_,_,_,rfl⟩:=ex3 hl; rfl
  have Ef:=AB (st:=Cr) Sy RF JU
  have FW:=Ef.binds (ps:=["self","head","path"]) fun _ _ _ _ _ _ us hl=>by obtain ⟨_,_,_,rfl⟩:=ex3 hl; rfl
  have Di:=AB (st:=BF) N7 Nq H0
  have Df:=Di.binds (ps:=["self","head"]) fun _ _ _ _ _ _ us hl=>by obtain ⟨_,_,rfl⟩:=ex2 hl; rfl
  have EI:=AB (st:=CC) UN Ug Kt
  have ED:=EI.binds (ps:=["self","head","name","data"]) fun _ _ _ _ _ _ us hl=>by obtain ⟨_,_,_,_,rfl⟩:=ex4 hl; rfl
  have EH:=AB (st:=CB) UM Ue Ks
  have GD:=EH.binds (ps:=["self","head","path","data"]) fun _ _ _ _ _ _ us hl=>by obtain ⟨_,_,_,_,rfl⟩:=ex4 hl; rfl
  have HG:=AB (st:=HS) AlK AkW AlC
  have LN:=HG.binds (ps:=["head"]) fun _ _ _ _ _ _ us hl=>by obtain ⟨_,rfl⟩:=ex1 hl; rfl
  have C5:=AB (st:=DT) Aa8 Zt Aaz
  have DI:=C5.binds (ps:=["length"]) fun _ _ _ _ _ _ us hl=>by obtain ⟨_,rfl⟩:=ex1 hl; rfl
  have HZ:=AB (st:=Ey) AcS Acw AcJ
  have HW:=HZ.binds (ps:=["self"]) fun _ _ _ _ _ _ us hl=>by obtain ⟨_,rfl⟩:=ex1 hl; rfl
  have Fp:=AB (st:=Dc) Wd VD L4
  have HC:=Fp.binds (ps:=["self"]) fun _ _ _ _ _ _ us hl=>by obtain ⟨_,rfl⟩:=ex1 hl; rfl
  have HY:=AB (st:=Ex) AcR Acv Rm
  have KC:=HY.binds (ps:=["self","row"]) fun _ _ _ _ _ _ us hl=>by obtain ⟨_,_,rfl⟩:=ex2 hl; rfl
  have Ia:=AB (st:=Ez) AcT Acx Rn
  have KG:=Ia.binds (ps:=["self","byte"]) fun _ _ _ _ _ _ us hl=>by obtain ⟨_,_,rfl⟩:=ex2 hl; rfl
  have DC:=AB (st:=Ck) QQ QC IS
  have F1:=DC.binds (ps:=["self","byte"]) fun _ _ _ _ _ _ us hl=>by obtain ⟨_,_,rfl⟩:=ex2 hl; rfl
  have Dd:=AB (st:=DO) Aa3 Zo Pb
  have Bo:=Dd.binds (ps:=["self","phase","wanted"]) fun _ _ _ _ _ _ us hl=>by obtain ⟨_,_,_,rfl⟩:=ex3 hl; rfl
  have BY:=AB (st:=CH) UR Uk Kx
  have C9:=BY.binds (ps:=["self"]) fun _ _ _ _ _ _ us hl=>by obtain ⟨_,rfl⟩:=ex1 hl; rfl
  have EK:=AB (st:=CF) UP Ui Kv
  have GF:=EK.binds (ps:=["self"]) fun _ _ _ _ _ _ us hl=>by obtain ⟨_,rfl⟩:=ex1 hl; rfl
  have EL:=AB (st:=CG) UQ Uj Kw
  have GG:=EL.binds (ps:=["self"]) fun _ _ _ _ _ _ us hl=>by obtain ⟨_,rfl⟩:=ex1 hl; rfl
  have DD:=AB (st:=Cm) QR QD IT
  have F2:=DD.binds (ps:=["self"]) fun _ _ _ _ _ _ us hl=>by obtain ⟨_,rfl⟩:=ex1 hl; rfl
  have EJ:=AB (st:=CD) UO Uh Ku
  have EE:=EJ.binds (ps:=["self"]) fun _ _ _ _ _ _ us hl=>by obtain ⟨_,rfl⟩:=ex1 hl; rfl
  have GO:=AB (st:=Fx) Af2 Ae4 Af0
  have LK:=GO.binds (ps:=["tree"]) fun _ _ _ _ _ _ us hl=>by obtain ⟨_,rfl⟩:=ex1 hl; rfl
  have Ii:=AB (st:=G7) AiG Ah9 Ai6
  have NW:=Ii.binds (ps:=["tree","path","serials"]) fun _ _ _ _ _ _ us hl=>by obtain ⟨_,_,_,rfl⟩:=ex3 hl; rfl
  have Gj:=AB (st:=Jx) ApJ Apa Ap0
  have Jj:=Gj.binds (ps:=["name","serial","mode","names","data"]) fun _ _ _ _ _ _ us hl=>by obtain ⟨_,_,_,_,_,rfl⟩:=ex5 hl; rfl
  have Ke:=AB (st:=G1) AiB Ah4 Ai1
  have NR:=Ke.binds (ps:=["self"]) fun _ _ _ _ _ _ us hl=>by obtain ⟨_,rfl⟩:=ex1 hl; rfl
  have HX:=AB (st:=D9) AcQ Acu Rl
  have KA:=HX.binds (ps:=["self","call","numbers","rows"]) fun _ _ _ _ _ _ us hl=>by obtain ⟨_,_,_,_,rfl⟩:=ex4 hl; rfl
  have HF:=AB (st:=HP) AlI AkU AlA
  have LM:=HF.binds (ps:=["stream"]) fun _ _ _ _ _ _ us hl=>by obtain ⟨_,rfl⟩:=ex1 hl; rfl
  have JB:=AB (st:=HV) AlM AkY AlE
  have Rw:=JB.binds (ps:=["stream"]) fun _ _ _ _ _ _ us hl=>by obtain ⟨_,rfl⟩:=ex1 hl; rfl
  have FA:=AB (st:=E4) AcW Ac0 AcM
  have KJ:=FA.binds (ps:=["tree","call","numbers","paths"]) fun _ _ _ _ _ _ us hl=>by obtain ⟨_,_,_,_,rfl⟩:=ex4 hl; rfl
  have Lm:=AB (st:=Jy) ApK Apb Ap1
  have Vx:=Lm.binds (ps:=["calls","at","wanted"]) fun _ _ _ _ _ _ us hl=>by obtain ⟨_,_,_,rfl⟩:=ex3 hl; rfl
  have Qj:=AB (st:=HM) ApF AoW Apw
  have Adr:=Qj.binds (ps:=["calls"]) fun _ _ _ _ _ _ us hl=>by obtain ⟨_,rfl⟩:=ex1 hl; rfl
  have AuO:∀ H,SqT K H Aev [.int 48,.int 55,.int 48,.int 55,.int 48,.int 49]:=fun H=>.inr ⟨_,_,_,Av6,rfl,rfl,Br (by show 6≤20000; decide),.cons ⟨_,rfl⟩ (.cons ⟨_,rfl⟩ (.cons ⟨_,rfl⟩ (.cons ⟨_,rfl⟩ (.cons ⟨_,rfl⟩ (.cons ⟨_,rfl⟩ (.nil))))))⟩
  have AoN:∀ H,SqT K H Qn [.int 84,.int 82,.int 65,.int 73,.int 76,.int 69,.int 82,.int 33,.int 33,.int 33]:=fun H=>.inr ⟨_,_,_,ApE,rfl,rfl,Br (by show 10≤20000; decide),.cons ⟨_,rfl⟩ (.cons ⟨_,rfl⟩ (.cons ⟨_,rfl⟩ (.cons ⟨_,rfl⟩ (.cons ⟨_,rfl⟩ (.cons ⟨_,rfl⟩ (.cons ⟨_,rfl⟩ (.cons ⟨_,rfl⟩ (.cons ⟨_,rfl⟩ (.cons ⟨_,rfl⟩ (.nil))))))))))⟩
  have AuP:∀ H,SqT K H Aew [.int 46]:=fun H=>.inr ⟨_,_,_,Av7,rfl,rfl,Br (by show 1≤20000; decide),.cons ⟨_,rfl⟩ (.nil)⟩
  have AsL:KD K Ud (Aa1 [(8,1),(4,2),(10,3),(0,0)]):=Atw (l:=[(8,1,AdY,Aec),(4,2,AdZ,Aed),(10,3,Aea,Aee),(0,0,Aeb,Aef)]) Aud (show ([8,4,10,0]:List Int).Nodup by decide) (Br (by show 4≤20000; decide)) Atz
  have AsK:KD K Uc [(Sum.inl 1,.ref Jk),(Sum.inl 2,.ref Jl),(Sum.inl 3,.ref Jm),(Sum.inl 4,.ref Jn),(Sum.inl 5,.ref Jo),(Sum.inl 6,.ref Jp),(Sum.inl 7,.ref Jq),(Sum.inl 8,.ref Jr),(Sum.inl 9,.ref Js),(Sum.inl 10,.ref HH)]:=Atx (l:=[(1,Jk,AdP),(2,Jl,AdQ),(3,Jm,AdR),(4,Jn,AdS),(5,Jo,AdT),(6,Jp,AdU),(7,Jq,AdV),(8,Jr,AdW),(9,Js,AdX),(10,HH,AbV)]) Auc (show ([1,2,3,4,5,6,7,8,9,10]:List Int).Nodup by decide) (Br (by show 10≤20000; decide)) Aty
  have AoE:∀ H,SqT K H Jk [.int 0,.int 0]:=fun H=>.inr ⟨_,_,_,Ap5,rfl,rfl,Br (by show 2≤20000; decide),.cons ⟨_,rfl⟩ (.cons ⟨_,rfl⟩ (.nil))⟩
  have AoF:∀ H,SqT K H Jl [.int 0,.int 1]:=fun H=>.inr ⟨_,_,_,Ap6,rfl,rfl,Br (by show 2≤20000; decide),.cons ⟨_,rfl⟩ (.cons ⟨_,rfl⟩ (.nil))⟩
  have AoG:∀ H,SqT K H Jm [.int 0,.int 0]:=fun H=>.inr ⟨_,_,_,Ap7,rfl,rfl,Br (by show 2≤20000; decide),.cons ⟨_,rfl⟩ (.cons ⟨_,rfl⟩ (.nil))⟩
  have AoH:∀ H,SqT K H Jn [.int 0,.int 1]:=fun H=>.inr ⟨_,_,_,Ap8,rfl,rfl,Br (by show 2≤20000; decide),.cons ⟨_,rfl⟩ (.cons ⟨_,rfl⟩ (.nil))⟩
  have AoI:∀ H,SqT K H Jo [.int 0,.int 1]:=fun H=>.inr ⟨_,_,_,Ap9,rfl,rfl,Br (by show 2≤20000; decide),.cons ⟨_,rfl⟩ (.cons ⟨_,rfl⟩ (.nil))⟩
  have AoJ:∀ H,SqT K H Jp [.int 2,.int 1]:=fun H=>.inr ⟨_,_,_,ApA,rfl,rfl,Br (by show 2≤20000; decide),.cons ⟨_,rfl⟩ (.cons ⟨_,rfl⟩ (.nil))⟩
  have AoK:∀ H,SqT K H Jq [.int 0,.int 2]:=fun H=>.inr ⟨_,_,_,ApB,rfl,rfl,Br (by show 2≤20000; decide),.cons ⟨_,rfl⟩ (.cons ⟨_,rfl⟩ (.nil))⟩
  have AoL:∀ H,SqT K H Jr [.int 0,.int 1]:=fun H=>.inr ⟨_,_,_,ApC,rfl,rfl,Br (by show 2≤20000; decide),.cons ⟨_,rfl⟩ (.cons ⟨_,rfl⟩ (.nil))⟩
  have AoM:∀ H,SqT K H Js [.int 0,.int 1]:=fun H=>.inr ⟨_,_,_,ApD,rfl,rfl,Br (by show 2≤20000; decide),.cons ⟨_,rfl⟩ (.cons ⟨_,rfl⟩ (.nil))⟩
  have AkA:∀ H,SqT K H HH [.int 0,.int 0]:=fun H=>.inr ⟨_,_,_,AlG,rfl,rfl,Br (by show 2≤20000; decide),.cons ⟨_,rfl⟩ (.cons ⟨_,rfl⟩ (.nil))⟩
  exact ⟨⟨Bv,A8,AA,Am,D7,D0,_,CO,_,CU,_,CS,_,CT,_,CP,_,C7,_,Fi,_,Gp,_,Gq,_,Eb,_,Dx,_,Fe,_,Gn,_,DW,_,Fg,_,Ea,_,DV,_,DY,_,DZ,_,Dy,_,Ce,_,Cc,_,Cd,_,Bb,_,B4,_,B3,_,B2,_,BJ,_,AM,_,AW,_,Bc,_,BK,_,Bi,_,BL,_,Bn,_,Cb,_,AU,_,Ba,_,Bf,_,Bm,_,AV,_,By,_,Bx,_,Fh,_,C8,_,Cy,_,B9,_,Cw,_,Cz,_,Bg,_,Bq,_,AR,_,B0,_,B1,_,Bh,_,Bz,_,Dz,_,DX,_,Gr,_,Dv,_,Cv,_,Ff,_,Fj,_,CQ,_,Gs,_,Fs,_,Aev,Qn,Aew,Ud,Uc,Jk,Jl,Jm,Jn,Jo,Jp,Jq,Jr,Js,HH⟩,⟨⟨AtT,Ath,AtW,Auf⟩,PySem.W.mg_of X G AsN,⟨AtC,Ahj,Aip,Atu⟩,Ic,Co,Hh,BD,Ja,Jb,D8,⟨AtU,Ati,AtX,Aug⟩,PySem.W.mg_of X G AsO,⟨AtD,Ahk,Air,Atv⟩,C2,Hj,B5,Bt,BP,⟨Amp,Alz,Amy,Am2⟩,PySem.W.mg_of X G AkB,⟨AlT,YU,ZZ,AlF⟩,AK,CZ,⟨ApY,Apr,Aqa,Aqe⟩,PySem.W.mg_of X G AoO,⟨ApR,Acj,AcE,Ap2⟩,Bu,BH,Fn,An,AQ,BM,AO,CW,⟨AtS,Atg,AtV,Aue⟩,PySem.W.mg_of X G AsM,⟨AtB,Ahi,Aim,Ats⟩,C1,Eh,GI,PySem.W.mg_of X G Aej,F8,KH,PySem.W.mg_of X G Acl,FE,KO,PySem.W.mg_of X G Acq,FC,KL,PySem.W.mg_of X G Aco,FD,KN,PySem.W.mg_of X G Acp,F9,KI,PySem.W.mg_of X G Acm,EW,J8,PySem.W.mg_of X G YZ,JA,Rv,PySem.W.mg_of X G AkH,Lk,Vv,PySem.W.mg_of X G AoR,Ll,Vw,PySem.W.mg_of X G AoS,Il,NZ,PySem.W.mg_of X G Ahr,Kf,NS,HE,LL,PySem.W.mg_of X G AkD,Lj,Vu,PySem.W.mg_of X G AoQ,Ih,NV,PySem.W.mg_of X G Ahm,J9,Ru,PySem.W.mg_of X G AkF,C4,Dr,PySem.W.mg_of X G Ahq,Ig,NU,PySem.W.mg_of X G Ahl,Ij,NX,PySem.W.mg_of X G Aho,Ik,NY,PySem.W.mg_of X G Ahp,Kg,NT,GN,C3,⟨YY,Aai,Pf⟩,GK,DG,⟨YW,Aag,Pc⟩,GL,DH,⟨YX,Aah,Pe⟩,Dt,Dq,⟨Of,OU,IA⟩,EO,EG,⟨TY,UH,K0⟩,EN,EF,⟨TX,UG,Kz⟩,EM,GH,⟨TV,UE,Ky⟩,FK,IF,⟨Xm,XH,Nb⟩,CM,Ee,⟨LQ,Ml,He⟩,Dj,Dg,⟨Nk,N2,HA⟩,Du,EV,⟨Og,OV,IB⟩,FL,IG,⟨Xn,XI,Nc⟩,DE,F3,⟨Q8,QM,IU⟩,FN,FJ,⟨Xo,XJ,Nd⟩,Eg,FX,⟨R1,Sl,JV⟩,GJ,Jz,Dh,E9,⟨Ni,N0,Hz⟩,Ds,EU,⟨Oe,OR,Iz⟩,DB,F0,⟨Q5,QJ,IQ⟩,Ef,FW,⟨Rz,Sk,JU⟩,Di,Df,⟨Nj,N1,H0⟩,EI,ED,⟨TM,U7,Kt⟩,EH,GD,⟨TK,U6,Ks⟩,HG,LN,PySem.W.mg_of X G AkG,C5,DI,PySem.W.mg_of X G Za,HZ,HW,Fp,HC,⟨V8,VW,L4⟩,HY,KC,⟨Aci,AcD,Rm⟩,Ia,KG,⟨Ack,AcF,Rn⟩,DC,F1,⟨Q6,QK,IS⟩,Dd,Bo,⟨YV,Aaf,Pb⟩,BY,C9,⟨TU,UD,Kx⟩,EK,GF,⟨TQ,UB,Kv⟩,EL,GG,⟨TR,UC,Kw⟩,DD,F2,⟨Q7,QL,IT⟩,EJ,EE,⟨TN,UA,Ku⟩,GO,LK,PySem.W.mg_of X G Aei,Ii,NW,PySem.W.mg_of X G Ahn,Gj,Jj,PySem.W.mg_of X G AoT,Ke,NR,HX,KA,⟨Ach,AcC,Rl⟩,HF,LM,PySem.W.mg_of X G AkE,JB,Rw,PySem.W.mg_of X G AkI,FA,KJ,PySem.W.mg_of X G Acn,Lm,Vx,PySem.W.mg_of X G AoU,Qj,Adr,PySem.W.mg_of X G AoP,⟨_,PySem.W.mg_of X G Apm⟩,⟨_,PySem.W.mg_of X G Avd⟩,⟨_,PySem.W.mg_of X G AhZ⟩,⟨_,PySem.W.mg_of X G Avh⟩,⟨_,PySem.W.mg_of X G Atc⟩,⟨_,PySem.W.mg_of X G AwS⟩,⟨_,PySem.W.mg_of X G ZV⟩,⟨_,PySem.W.mg_of X G AeZ⟩,⟨_,PySem.W.mg_of X G Ara⟩,⟨_,PySem.W.mg_of X G XF⟩,⟨_,PySem.W.mg_of X G ZU⟩,⟨_,PySem.W.mg_of X G ZW⟩,⟨_,PySem.W.mg_of X G Afg⟩,⟨_,PySem.W.mg_of X G AcA⟩,⟨_,PySem.W.mg_of X G Apn⟩,⟨_,PySem.W.mg_of X G Afc⟩,⟨_,PySem.W.mg_of X G Afb⟩,⟨_,PySem.W.mg_of X G XE⟩,⟨_,PySem.W.mg_of X G Avp⟩,⟨_,PySem.W.mg_of X G U4⟩,⟨_,PySem.W.mg_of X G Afe⟩,⟨_,PySem.W.mg_of X G Alx⟩,⟨_,PySem.W.mg_of X G AwT⟩,⟨_,PySem.W.mg_of X G Ave⟩,⟨_,PySem.W.mg_of X G Avj⟩,⟨_,PySem.W.mg_of X G Afd⟩,⟨_,PySem.W.mg_of X G Ava⟩,⟨_,PySem.W.mg_of X G AeY⟩,⟨_,PySem.W.mg_of X G Aib⟩,⟨_,PySem.W.mg_of X G VS⟩,⟨_,PySem.W.mg_of X G Aic⟩,⟨_,PySem.W.mg_of X G Alw⟩,⟨_,PySem.W.mg_of X G Aid⟩,⟨_,PySem.W.mg_of X G U3⟩,⟨_,PySem.W.mg_of X G Afa⟩,⟨_,PySem.W.mg_of X G Aia⟩,⟨_,PySem.W.mg_of X G Atb⟩,⟨_,PySem.W.mg_of X G Avc⟩,⟨_,PySem.W.mg_of X G Atd⟩,⟨_,PySem.W.mg_of X G Avg⟩,⟨_,PySem.W.mg_of X G Avo⟩,⟨_,PySem.W.mg_of X G Avl⟩,⟨_,PySem.W.mg_of X G Avn⟩,⟨_,PySem.W.mg_of X G Avk⟩,⟨_,PySem.W.mg_of X G Ate⟩,PySem.W.mg_of X G Avi,AuO,PySem.W.mg_of X G Apo,AoN,PySem.W.mg_of X G Avm,AuP,PySem.W.mg_of X G Ata,AsL,PySem.W.mg_of X G AsZ,AsK,AoE,AoF,AoG,AoH,AoI,AoJ,AoK,AoL,AoM,AkA,PySem.W.mg_none_of X G Axm,PySem.W.mg_none_of X G Axn,PySem.W.mg_none_of X G Axo,PySem.W.mg_none_of X G AwB,PySem.W.mg_none_of X G AsG,PySem.W.mg_none_of X G Axp,PySem.W.mg_none_of X G Au6⟩,fun s us hu=>match us,hu with | [_],_=>.of_eq rfl⟩
end Ft
end
section
set_option maxRecDepth 100000
namespace Ft
open PySem PySem.Spec PyProof.Rows L2
open PySem.W (Codec)
def AdH (K:PySem.W.Frag):Sp:=fun vs H Q _=>∃ (a:Addr) (l:List Int),vs=[.ref a]∧SqL K H a (l.map V.int)∧l.length≤8500∧YR H∧PyWrfirs.answers_asked l=true∧∀ (H':Hp) (p:Addr),H' p=some (.lst ((PyWrfirs.answers l).map V.int))→Q (.ref p) H'
theorem Axf (K:PySem.W.Frag) (H:Hp) (xs:List V) (a:Codec.denoteAll PySem.Challenge.rw_firsttree_s01_answers.args) (hO:YR H) (hwi:Codec.withinAll PySem.Challenge.rw_firsttree_s01_answers.args a=true)
    (hask:Codec.app PySem.Challenge.rw_firsttree_s01_answers.args PySem.Challenge.rw_firsttree_s01_answers.asked a=true) (hx:Li K H xs (Codec.encAll PySem.Challenge.rw_firsttree_s01_answers.args a)) :
    AdH K xs H (fun v H'=>Dw K H' v (PySem.Challenge.rw_firsttree_s01_answers.ret.enc (Codec.app PySem.Challenge.rw_firsttree_s01_answers.args PySem.Challenge.rw_firsttree_s01_answers.f a))) fun _ _ _=>False:=by
  cases hx with
  | cons h1 h2 =>
    cases h2
    cases h1 with
    | lst hs ha =>
      have e:=L2.Aoa a.1 _ ha
      subst e
      have q:((Codec.inLen 0 8500 a.1 && a.1.all (Codec.inInt 0 1000000)) && true)=true:=hwi
      rw [Bool.and_eq_true,Bool.and_eq_true] at q
      exact ⟨_,a.1,rfl,hs,(Codec.inNat_iff.mp q.1.1).2,hO,hask,fun H' p hp=>.lst (L2.SqL.of hp) (L2.AnX _)⟩
end Ft
end
open PySem PySem.W PyProof.Rows
namespace PySem.W.Fast
theorem tw8370826558630831856:True:=⟨⟩
theorem tw6243281657029254576:True:=⟨⟩
theorem tw10630545467863940135:True:=⟨⟩
theorem tw1477105381316884029:True:=⟨⟩
theorem tw6272942197663042662:True:=⟨⟩
theorem tw9581946574691218670:True:=⟨⟩
theorem tw9807003069897909124:True:=⟨⟩
theorem tw8220249271947454434:True:=⟨⟩
theorem tw13744110509360094835:True:=⟨⟩
theorem tw13259328658405080540:True:=⟨⟩
theorem tw10405254814911604844:True:=⟨⟩
theorem tw9602832779267768732:True:=⟨⟩
theorem tw15695792155265367749:True:=⟨⟩
theorem tw11878431448582053869:True:=⟨⟩
theorem tw14087815639409005838:True:=⟨⟩
theorem tw7114614877450619499:True:=⟨⟩
theorem tw6753903492839380500:True:=⟨⟩
theorem tw1201223422410971433:True:=⟨⟩
theorem tw6652489407036770534:True:=⟨⟩
theorem tw10107879366773580263:True:=⟨⟩
theorem tw14055014243215054967:True:=⟨⟩
theorem tw13711862575645689574:True:=⟨⟩
theorem tw4384053932016751170:True:=⟨⟩
theorem tw17548530851010521612:True:=⟨⟩
theorem tw16784606607945090028:True:=⟨⟩
theorem tw7223230187895090237:True:=⟨⟩
theorem tw14632845590909828381:True:=⟨⟩
theorem tw8086965095082533059:True:=⟨⟩
theorem tw17843202089487942136:True:=⟨⟩
theorem tw5112698223891204025:True:=⟨⟩
theorem tw960472255963723041:True:=⟨⟩
theorem tw5958473742711702114:True:=⟨⟩
theorem tw16826754310327718635:True:=⟨⟩
theorem tw4007112813982079795:True:=⟨⟩
theorem tw889011164992502752:True:=⟨⟩
theorem tw8726011132921472504:True:=⟨⟩
theorem tw13032520057200455024:True:=⟨⟩
theorem tw9357213964752491306:True:=⟨⟩
theorem tw2293395031829850626:True:=⟨⟩
theorem tw10675632617920340659:True:=⟨⟩
theorem tw1523341028605615672:True:=⟨⟩
theorem tw9962264981450263556:True:=⟨⟩
theorem tw1499036375183123809:True:=⟨⟩
theorem tw17508694813186409614:True:=⟨⟩
theorem tw2593703870521813205:True:=⟨⟩
theorem tw5355475904886637867:True:=⟨⟩
theorem tw6385391060797225648:True:=⟨⟩
theorem tw11371936761354289555:True:=⟨⟩
theorem tw4000143543648894216:True:=⟨⟩
theorem tw10899148131446058378:True:=⟨⟩
theorem tw5176317023159580140:True:=⟨⟩
theorem tw8596012602326446238:True:=⟨⟩
theorem tw4696705751548537491:True:=⟨⟩
theorem tw6774156266815098152:True:=⟨⟩
theorem tw18120773781458707100:True:=⟨⟩
theorem tw11836193953897696352:True:=⟨⟩
theorem tw10465636990660057589:True:=⟨⟩
theorem tw11828593875911776695:True:=⟨⟩
theorem tw10154936346435284015:True:=⟨⟩
theorem tw3767914825807114826:True:=⟨⟩
theorem tw17329197292548182991:True:=⟨⟩
theorem tw4650064266580906083:True:=⟨⟩
theorem tw12662404814863997095:True:=⟨⟩
theorem tw18117951630964651299:True:=⟨⟩
theorem tw10825930613812752095:True:=⟨⟩
theorem tw10035365811374478586:True:=⟨⟩
theorem tw9338578204449341035:True:=⟨⟩
theorem tw7928689609658564657:True:=⟨⟩
theorem tw5562858020143263404:True:=⟨⟩
theorem tw16043415669841221033:True:=⟨⟩
theorem tw15873481887431072269:True:=⟨⟩
theorem tw16462933978157485454:True:=⟨⟩
theorem tw2578192769703155117:True:=⟨⟩
theorem tw4694098622497563762:True:=⟨⟩
theorem tw8392836411454505006:True:=⟨⟩
theorem tw4495078094101275561:True:=⟨⟩
theorem tw16121111961547594756:True:=⟨⟩
theorem tw11052474051123745683:True:=⟨⟩
theorem tw16791397157812550644:True:=⟨⟩
theorem tw12892766127410786840:True:=⟨⟩
theorem tw1629993659660699600:True:=⟨⟩
theorem tw11899654487883270296:True:=⟨⟩
theorem tw18401431796039926344:True:=⟨⟩
theorem tw17304100269156981797:True:=⟨⟩
theorem tw6835192344991423269:True:=⟨⟩
theorem tw15885208525194788404:True:=⟨⟩
theorem tw4348520878111237257:True:=⟨⟩
theorem tw14381171860051797838:True:=⟨⟩
theorem tw17053383539729916078:True:=⟨⟩
theorem tw5262401504304065302:True:=⟨⟩
theorem tw5037805898945402764:True:=⟨⟩
theorem tw11336273068020837212:True:=⟨⟩
theorem tw14164243743965438244:True:=⟨⟩
theorem tw3440413821189225963:True:=⟨⟩
theorem tw11233929161285192692:True:=⟨⟩
theorem tw15818950994501193501:True:=⟨⟩
theorem tw8050596118772006359:True:=⟨⟩
theorem tw547964911068495290:True:=⟨⟩
theorem tw1246373704272662795:True:=⟨⟩
theorem tw1906757262364264398:True:=⟨⟩
theorem tw17234500561909622562:True:=⟨⟩
theorem tw13588380714177029962:True:=⟨⟩
theorem tw1848447973519917619:True:=⟨⟩
theorem tw1092440670726248084:True:=⟨⟩
theorem tw18358295060151776053:True:=⟨⟩
theorem tw12155418196024260309:True:=⟨⟩
theorem tw9878499015145919775:True:=⟨⟩
theorem tw10958598676935418636:True:=⟨⟩
theorem tw3743742565168500900:True:=⟨⟩
theorem tw4808860802132693417:True:=⟨⟩
theorem tw13403958990826938219:True:=⟨⟩
theorem tw3851067321663842017:True:=⟨⟩
theorem tw12747657761696502874:True:=⟨⟩
theorem tw16294462211448582317:True:=⟨⟩
theorem tw9713348316494223611:True:=⟨⟩
theorem tw3080321248416654961:True:=⟨⟩
theorem tw15867971924358636983:True:=⟨⟩
theorem tw4194330284428583756:True:=⟨⟩
theorem tw11339284557433630296:True:=⟨⟩
theorem tw5185490714326857276:True:=⟨⟩
theorem tw17285497888298223775:True:=⟨⟩
theorem tw13155877654374121432:True:=⟨⟩
theorem tw622926805991441811:True:=⟨⟩
theorem tw14826390414116026975:True:=⟨⟩
theorem tw4011523909751884579:True:=⟨⟩
theorem tw3762140400931826312:True:=⟨⟩
theorem tw14592956275049877948:True:=⟨⟩
theorem tw17614390674081675202:True:=⟨⟩
theorem tw12742868933304111810:True:=⟨⟩
theorem tw15566502570085060971:True:=⟨⟩
theorem tw3589684716253077634:True:=⟨⟩
theorem tw11475449499164792438:True:=⟨⟩
theorem tw14174813454779483404:True:=⟨⟩
theorem tw14200665100129415392:True:=⟨⟩
theorem tw1793143813173451399:True:=⟨⟩
theorem tw5677955982917409641:True:=⟨⟩
theorem tw8572531804982032044:True:=⟨⟩
theorem tw3859854885261708902:True:=⟨⟩
theorem tw3390952527133580254:True:=⟨⟩
theorem tw2109340136842058362:True:=⟨⟩
theorem tw1450781490704642005:True:=⟨⟩
theorem tw3896466933370776834:True:=⟨⟩
theorem tw13734451504907178642:True:=⟨⟩
theorem tw3400416424376898941:True:=⟨⟩
theorem tw5036697616620059662:True:=⟨⟩
theorem tw8579955100775520775:True:=⟨⟩
theorem tw14042426093714652762:True:=⟨⟩
theorem tw755072160513038018:True:=⟨⟩
theorem tw8858241307264533431:True:=⟨⟩
theorem tw17607899187869031099:True:=⟨⟩
theorem tw4482478771629652134:True:=⟨⟩
theorem tw2031559248568653563:True:=⟨⟩
theorem tw3490441784708702955:True:=⟨⟩
theorem tw13089239287334145942:True:=⟨⟩
theorem tw4621558432283076221:True:=⟨⟩
theorem tw7450436642802302313:True:=⟨⟩
theorem tw4494823420093212806:True:=⟨⟩
theorem tw851173699554114345:True:=⟨⟩
theorem tw11355970383986422756:True:=⟨⟩
theorem tw2068783736041400130:True:=⟨⟩
theorem tw14436083736961932332:True:=⟨⟩
theorem tw14835068153471167761:True:=⟨⟩
theorem tw16302677684743702479:True:=⟨⟩
theorem tw12949743480766142971:True:=⟨⟩
theorem tw2510786822172567536:True:=⟨⟩
theorem tw16617292993983470654:True:=⟨⟩
theorem tw14811646828773054407:True:=⟨⟩
theorem tw15260076382859820035:True:=⟨⟩
theorem tw3729208581011396075:True:=⟨⟩
theorem tw4571556936702468135:True:=⟨⟩
theorem tw15679250996677017113:True:=⟨⟩
theorem tw18171787464658771839:True:=⟨⟩
theorem tw14963493709691534201:True:=⟨⟩
theorem tw10176425557882635706:True:=⟨⟩
theorem tw10412844562609258896:True:=⟨⟩
theorem tw892701754942816527:True:=⟨⟩
theorem tw1091512165249084285:True:=⟨⟩
theorem tw10645637391874707601:True:=⟨⟩
theorem tw6812261713774176316:True:=⟨⟩
theorem tw18230895737172919603:True:=⟨⟩
theorem tw15198402838370158237:True:=⟨⟩
theorem tw188370909952286401:True:=⟨⟩
theorem tw2237659232748510629:True:=⟨⟩
theorem tw16439294473270300910:True:=⟨⟩
theorem tw17852694685501707446:True:=⟨⟩
theorem tw930711841967732333:True:=⟨⟩
theorem tw17197695686615459921:True:=⟨⟩
theorem tw1217526768984432862:True:=⟨⟩
theorem tw8156628216696709344:True:=⟨⟩
theorem tw12534577972551126287:True:=⟨⟩
theorem tw13920947212879456653:True:=⟨⟩
theorem tw16406618036708204872:True:=⟨⟩
theorem tw9677043589804864899:True:=⟨⟩
theorem tw8039219814036694952:True:=⟨⟩
theorem tw12105750599388671335:True:=⟨⟩
theorem tw10901826556525455044:True:=⟨⟩
theorem tw3806722456259453294:True:=⟨⟩
theorem tw15586248549566571325:True:=⟨⟩
theorem tw14214333541283110243:True:=⟨⟩
theorem tw15026158101282135225:True:=⟨⟩
theorem tw14949948100612890737:True:=⟨⟩
theorem tw17811547917318944076:True:=⟨⟩
theorem tw12907665825329748769:True:=⟨⟩
theorem tw18297747269660025282:True:=⟨⟩
theorem tw2348504914842531649:True:=⟨⟩
theorem tw7774529711572034541:True:=⟨⟩
theorem tw4804513760900056551:True:=⟨⟩
theorem tw1553717859529203026:True:=⟨⟩
theorem tw4136794511410828689:True:=⟨⟩
theorem tw6768922833316661577:True:=⟨⟩
theorem tw7776717775379043530:True:=⟨⟩
theorem tw7755903006259417896:True:=⟨⟩
theorem tw9902651055644360737:True:=⟨⟩
theorem tw13094712136667328103:True:=⟨⟩
theorem tw14844100153577643107:True:=⟨⟩
theorem tw13943810392149628352:True:=⟨⟩
theorem tw637392997979401306:True:=⟨⟩
theorem tw1932448015067644389:True:=⟨⟩
theorem tw3397491493375765199:True:=⟨⟩
theorem tw4553507057757127441:True:=⟨⟩
theorem tw15753691190645122946:True:=⟨⟩
theorem tw15384886467895133874:True:=⟨⟩
theorem tw13738874025383266732:True:=⟨⟩
theorem tw2433262325256675297:True:=⟨⟩
theorem tw12552713055248480473:True:=⟨⟩
theorem tw18114995956504193535:True:=⟨⟩
theorem tw9104477952876814205:True:=⟨⟩
theorem tw15392980036320987826:True:=⟨⟩
theorem tw1832166241866077038:True:=⟨⟩
theorem tw11708058832708571250:True:=⟨⟩
theorem tw6412092425115440015:True:=⟨⟩
theorem tw5838898964021960935:True:=⟨⟩
theorem tw15924292288761812732:True:=⟨⟩
theorem tw1668940730694146089:True:=⟨⟩
theorem tw15402901226161331460:True:=⟨⟩
theorem tw15157551206705146615:True:=⟨⟩
theorem tw16722582509469125553:True:=⟨⟩
theorem tw4482161293903496446:True:=⟨⟩
theorem tw10591243743561206074:True:=⟨⟩
theorem tw10299111234995016924:True:=⟨⟩
theorem tw3936024922350321842:True:=⟨⟩
theorem tw15908577549203665967:True:=⟨⟩
theorem tw7477102567826782149:True:=⟨⟩
theorem tw6129234240671688593:True:=⟨⟩
theorem tw2795869148583370334:True:=⟨⟩
theorem tw14654627512462693609:True:=⟨⟩
theorem tw13580319271303311757:True:=⟨⟩
theorem tw8800130177075285545:True:=⟨⟩
theorem tw8713894129749217860:True:=⟨⟩
theorem tw9930670773174411994:True:=⟨⟩
theorem tw1598105703515257251:True:=⟨⟩
theorem tw13797851777715043237:True:=⟨⟩
theorem tw16845320424130987196:True:=⟨⟩
theorem tw3538888340585426792:True:=⟨⟩
theorem tw17527127946468219473:True:=⟨⟩
theorem tw7401811584274877317:True:=⟨⟩
theorem tw9831994027226187795:True:=⟨⟩
theorem tw4084419572871697475:True:=⟨⟩
theorem tw16211845375165775933:True:=⟨⟩
theorem tw3686669705000112053:True:=⟨⟩
theorem tw6360710358808806133:True:=⟨⟩
theorem tw1318531337777259975:True:=⟨⟩
theorem tw13708879450531704711:True:=⟨⟩
theorem tw7859219041683626906:True:=⟨⟩
theorem tw8107745470891396839:True:=⟨⟩
theorem tw3423558128472192304:True:=⟨⟩
theorem tw2998581351728085765:True:=⟨⟩
theorem tw3994140461936238909:True:=⟨⟩
theorem tw18044425909405650189:True:=⟨⟩
theorem tw4785757464595391109:True:=⟨⟩
theorem tw3629346635142741269:True:=⟨⟩
theorem tw15740380415751254371:True:=⟨⟩
theorem tw3263511384978211458:True:=⟨⟩
theorem tw5559374681515191124:True:=⟨⟩
theorem tw10400525334041407037:True:=⟨⟩
theorem tw1592281960045394977:True:=⟨⟩
theorem tw6625844223210976729:True:=⟨⟩
theorem tw3725286060005632192:True:=⟨⟩
theorem tw8905580710909124893:True:=⟨⟩
theorem tw8736827608716526881:True:=⟨⟩
theorem tw6679383023679337046:True:=⟨⟩
theorem tw14916366699349432072:True:=⟨⟩
theorem tw4502387924132790408:True:=⟨⟩
theorem tw8545329089108822002:True:=⟨⟩
theorem tw17374713949442217761:True:=⟨⟩
theorem tw11699507660099850160:True:=⟨⟩
theorem tw16592312987270690588:True:=⟨⟩
theorem tw13589505910728040611:True:=⟨⟩
theorem tw12918376318137174050:True:=⟨⟩
theorem tw9441024413407089973:True:=⟨⟩
theorem tw9396191984003827417:True:=⟨⟩
theorem tw16016932743375551140:True:=⟨⟩
theorem tw929589387393502449:True:=⟨⟩
theorem tw3045339291232236527:True:=⟨⟩
theorem tw4262366503205483325:True:=⟨⟩
theorem tw6401032051887559940:True:=⟨⟩
theorem tw17359563566806565630:True:=⟨⟩
theorem tw10871524956020056018:True:=⟨⟩
theorem tw17770430314987896110:True:=⟨⟩
theorem tw17378234015491849394:True:=⟨⟩
theorem tw11566212292717918027:True:=⟨⟩
theorem tw7914375180340898933:True:=⟨⟩
theorem tw3857132857254276900:True:=⟨⟩
theorem tw18413359196565144351:True:=⟨⟩
theorem tw2412662388638873302:True:=⟨⟩
theorem tw9101997746376213208:True:=⟨⟩
theorem tw14440908252800356418:True:=⟨⟩
theorem tw5915026232699885329:True:=⟨⟩
theorem tw14171723318823714478:True:=⟨⟩
theorem tw5785831935013675202:True:=⟨⟩
theorem tw10215096019758140124:True:=⟨⟩
theorem tw10586918146528291083:True:=⟨⟩
theorem tw16011898529226898763:True:=⟨⟩
theorem tw9199481844891350378:True:=⟨⟩
theorem tw15743104397873289815:True:=⟨⟩
theorem tw6630098932275146376:True:=⟨⟩
theorem tw14720498543776039130:True:=⟨⟩
theorem tw15379759597806106699:True:=⟨⟩
theorem tw12173859691198798542:True:=⟨⟩
theorem tw14933367852705176909:True:=⟨⟩
theorem tw11579596575664976337:True:=⟨⟩
theorem tw12268012283562355580:True:=⟨⟩
end PySem.W.Fast
set_option maxRecDepth 100000 in
set_option maxHeartbeats 0 in
theorem PySem.Challenge.cw_firsttree_s01_answers_holds : PySem.Challenge.rw_firsttree_s01_answers.Holds := by
  w_on; k_headS; (case hw=>exact ⟨[.list []],by decide +kernel,by decide +kernel⟩)
  k_fillS
  refine L2.AnI (r:=PySem.Challenge.rw_firsttree_s01_answers) (k:=40) (CX:=L2.CX0) (ps:=["calls"]) (sp:=Ft.AdH) (by decide +kernel) rfl rfl ⟨rfl,by decide,by decide⟩ (fun w h Y=>PySem.W.kIn_of Y) ?F ?S (fun _ _ _ _ z=>z)
  case F =>
    intro w mg fa h Y KX G hmg
    have T:=by
      refine' Ft.Axl KX G ?q0 ?q1 ?q2 ?q3 ?q4 ?q5 ?q6 ?q7 ?q8 ?q9 ?q10 ?q11 ?q12 ?q13 ?q14 ?q15 ?q16 ?q17 ?q18 ?q19 ?q20 ?q21 ?q22 ?q23 ?q24 ?q25 ?q26 ?q27 ?q28 ?q29 ?q30 ?q31 ?q32 ?q33 ?q34 ?q35 ?q36 ?q37 ?q38 ?q39 ?q40 ?q41 ?q42 ?q43 ?q44 ?q45 ?q46 ?q47 ?q48 ?q49 ?q50 ?q51 ?q52 ?q53 ?q54 ?q55 ?q56 ?q57 ?q58 ?q59 ?q60 ?q61 ?q62 ?q63 ?q64 ?q65 ?q66 ?q67 ?q68 ?q69 ?q70 ?q71 ?q72 ?q73 ?q74 ?q75 ?q76 ?q77 ?q78 ?q79 ?q80 ?q81 ?q82 ?q83 ?q84 ?q85 ?q86 ?q87 ?q88 ?q89 ?q90 ?q91 ?q92 ?q93 ?q94 ?q95 ?q96 ?q97 ?q98 ?q99 ?q100 ?q101 ?q102 ?q103 ?q104 ?q105 ?q106 ?q107 ?q108 ?q109 ?q110 ?q111 ?q112 ?q113 ?q114 ?q115 ?q116 ?q117 ?q118 ?q119 ?q120 ?q121 ?q122 ?q123 ?q124 ?q125 ?q126 ?q127 ?q128 ?q129 ?q130 ?q131 ?q132 ?q133 ?q134 ?q135 ?q136 ?q137 ?q138 ?q139 ?q140 ?q141 ?q142 ?q143 ?q144 ?q145 ?q146 ?q147 ?q148 ?q149 ?q150 ?q151 ?q152 ?q153 ?q154 ?q155 ?q156 ?q157 ?q158 ?q159 ?q160 ?q161 ?q162 ?q163 ?q164 ?q165 ?q166 ?q167 ?q168 ?q169 ?q170 ?q171 ?q172 ?q173 ?q174 ?q175 ?q176 ?q177 ?q178 ?q179 ?q180 ?q181 ?q182 ?q183 ?q184 ?q185 ?q186 ?q187 ?q188 ?q189 ?q190 ?q191 ?q192 ?q193 ?q194 ?q195 ?q196 ?q197 ?q198 ?q199 ?q200 ?q201 ?q202 ?q203 ?q204 ?q205 ?q206 ?q207 ?q208 ?q209 ?q210 ?q211 ?q212 ?q213 ?q214 ?q215 ?q216 ?q217 ?q218 ?q219 ?q220 ?q221 ?q222 ?q223 ?q224 ?q225 ?q226 ?q227 ?q228 ?q229 ?q230 ?q231 ?q232 ?q233 ?q234 ?q235 ?q236 ?q237 ?q238 ?q239 ?q240 ?q241 ?q242 ?q243 ?q244 ?q245 ?q246 ?q247 ?q248 ?q249 ?q250 ?q251 ?q252 ?q253 ?q254 ?q255 ?q256 ?q257 ?q258 ?q259 ?q260 ?q261 ?q262 ?q263 ?q264 ?q265 ?q266 ?q267 ?q268 ?q269 ?q270 ?q271 ?q272 ?q273 ?q274 ?q275 ?q276 ?q277 ?q278 ?q279 ?q280 ?q281 ?q282 ?q283 ?q284 ?q285 ?q286 ?q287 ?q288 ?q289 ?q290 ?q291 ?q292 ?q293 ?q294 ?q295 ?q296 ?q297 ?q298 ?q299 ?q300 ?q301 ?q302 ?q303 ?q304 ?q305 ?q306 ?q307 ?q308 ?q309 ?q310 ?q311 ?q312 ?q313 ?q314 ?q315 ?q316 ?q317 ?q318 ?q319 ?q320 ?q321 ?q322 ?q323 ?q324 ?q325 ?q326 ?q327 ?q328 ?q329 ?q330 ?q331 ?q332 ?q333 ?q334 ?q335 ?q336 ?q337 ?q338 ?q339 ?q340 ?q341 ?q342 ?q343 ?q344 ?q345 ?q346 ?q347 ?q348 ?q349 ?q350 ?q351 ?q352 ?q353 ?q354 ?q355 ?q356 ?q357 ?q358 ?q359 ?q360 ?q361 ?q362 ?q363 ?q364 ?q365 ?q366 ?q367 ?q368 ?q369 ?q370 ?q371 ?q372 ?q373 ?q374 ?q375 ?q376 ?q377 ?q378 ?q379 ?q380 ?q381 ?q382 ?q383 ?q384 ?q385 ?q386 ?q387 ?q388 ?q389 ?q390 ?q391 ?q392 ?q393 ?q394 ?q395 ?q396 ?q397 ?q398 ?q399 ?q400 ?q401 ?q402 ?q403 ?q404 ?q405 ?q406 ?q407 ?q408 ?q409 ?q410 ?q411 ?q412 ?q413 ?q414 ?q415 ?q416 ?q417 ?q418 ?q419 ?q420 ?q421 ?q422 ?q423 ?q424 ?q425 ?q426 ?q427 ?q428 ?q429 ?q430 ?q431 ?q432 ?q433 ?q434 ?q435 ?q436 ?q437
      (case q0=>k_is)
      (case q1=>k_is)
      (case q2=>k_is)
      (case q3=>k_is)
      (case q4=>k_is)
      (case q5=>k_is)
      (case q6=>k_is)
      (case q7=>k_is)
      (case q8=>k_is)
      (case q9=>k_is)
      (case q10=>k_is)
      (case q11=>k_is)
      (case q12=>k_is)
      (case q13=>k_is)
      (case q14=>k_is)
      (case q15=>k_is)
      (case q16=>k_is)
      (case q17=>k_is)
      (case q18=>k_is)
      (case q19=>k_is)
      (case q20=>k_is)
      (case q21=>k_is)
      (case q22=>k_is)
      (case q23=>k_is)
      (case q24=>k_is)
      (case q25=>k_is)
      (case q26=>k_is)
      (case q27=>k_is)
      (case q28=>k_is)
      (case q29=>k_is)
      (case q30=>k_is)
      (case q31=>k_is)
      (case q32=>k_is)
      (case q33=>k_is)
      (case q34=>k_is)
      (case q35=>k_is)
      (case q36=>k_is)
      (case q37=>k_is)
      (case q38=>k_is)
      (case q39=>k_is)
      (case q40=>k_is)
      (case q41=>k_is)
      (case q42=>k_is)
      (case q43=>k_is)
      (case q44=>k_is)
      (case q45=>k_is)
      (case q46=>k_is)
      (case q47=>k_is)
      (case q48=>k_is)
      (case q49=>k_is)
      (case q50=>k_is)
      (case q51=>k_is)
      (case q52=>k_is)
      (case q53=>k_is)
      (case q54=>k_is)
      (case q55=>k_is)
      (case q56=>k_is)
      (case q57=>k_is)
      (case q58=>k_is)
      (case q59=>k_is)
      (case q60=>k_is)
      (case q61=>k_is)
      (case q62=>k_is)
      (case q63=>k_is)
      (case q64=>k_is)
      (case q65=>k_is)
      (case q66=>k_is)
      (case q67=>k_is)
      (case q68=>k_is)
      (case q69=>k_is)
      (case q70=>k_is)
      (case q71=>k_is)
      (case q72=>k_is)
      (case q73=>k_is)
      (case q74=>k_is)
      (case q75=>k_is)
      (case q76=>k_is)
      (case q77=>k_is)
      (case q78=>k_is)
      (case q79=>k_is)
      (case q80=>k_is)
      (case q81=>k_is)
      (case q82=>k_is)
      (case q83=>k_is)
      (case q84=>k_is)
      (case q85=>k_is)
      (case q86=>k_is)
      (case q87=>k_is)
      (case q88=>k_is)
      (case q89=>k_is)
      (case q90=>k_is)
      (case q91=>k_is)
      (case q92=>k_is)
      (case q93=>k_is)
      (case q94=>k_is)
      (case q95=>k_is)
      (case q96=>k_is)
      (case q97=>k_is)
      (case q98=>k_is)
      (case q99=>k_is)
      (case q100=>k_is)
      (case q101=>k_is)
      (case q102=>k_is)
      (case q103=>k_is)
      (case q104=>k_is)
      (case q105=>k_is)
      (case q106=>k_is)
      (case q107=>k_is)
      (case q108=>k_is)
      (case q109=>k_is)
      (case q110=>k_is)
      (case q111=>k_is)
      (case q112=>k_is)
      (case q113=>k_is)
      (case q114=>k_is)
      (case q115=>k_is)
      (case q116=>k_is)
      (case q117=>k_is)
      (case q118=>k_is)
      (case q119=>k_is)
      (case q120=>k_is)
      (case q121=>k_is)
      (case q122=>k_is)
      (case q123=>k_is)
      (case q124=>k_is)
      (case q125=>k_is)
      (case q126=>k_is)
      (case q127=>k_is)
      (case q128=>k_is)
      (case q129=>k_is)
      (case q130=>k_is)
      (case q131=>k_is)
      (case q132=>k_is)
      (case q133=>k_is)
      (case q134=>k_is)
      (case q135=>k_is)
      (case q136=>k_is)
      (case q137=>k_is)
      (case q138=>k_is)
      (case q139=>k_is)
      (case q140=>k_is)
      (case q141=>k_is)
      (case q142=>k_is)
      (case q143=>k_is)
      (case q144=>k_is)
      (case q145=>k_is)
      (case q146=>k_is)
      (case q147=>k_is)
      (case q148=>k_is)
      (case q149=>k_is)
      (case q150=>k_is)
      (case q151=>k_is)
      (case q152=>k_is)
      (case q153=>k_is)
      (case q154=>k_is)
      (case q155=>k_is)
      (case q156=>k_is)
      (case q157=>k_is)
      (case q158=>k_is)
      (case q159=>k_is)
      (case q160=>k_is)
      (case q161=>k_is)
      (case q162=>k_is)
      (case q163=>k_is)
      (case q164=>k_is)
      (case q165=>k_is)
      (case q166=>k_is)
      (case q167=>k_is)
      (case q168=>k_is)
      (case q169=>k_is)
      (case q170=>k_is)
      (case q171=>k_is)
      (case q172=>k_is)
      (case q173=>k_is)
      (case q174=>k_is)
      (case q175=>k_is)
      (case q176=>k_is)
      (case q177=>k_is)
      (case q178=>k_is)
      (case q179=>k_is)
      (case q180=>k_is)
      (case q181=>k_is)
      (case q182=>k_is)
      (case q183=>k_is)
      (case q184=>k_is)
      (case q185=>k_is)
      (case q186=>k_is)
      (case q187=>k_is)
      (case q188=>k_is)
      (case q189=>k_is)
      (case q190=>k_is)
      (case q191=>k_is)
      (case q192=>k_is)
      (case q193=>k_is)
      (case q194=>k_is)
      (case q195=>k_is)
      (case q196=>k_is)
      (case q197=>k_is)
      (case q198=>k_is)
      (case q199=>k_is)
      (case q200=>k_is)
      (case q201=>k_is)
      (case q202=>k_is)
      (case q203=>k_is)
      (case q204=>k_is)
      (case q205=>k_is)
      (case q206=>k_is)
      (case q207=>k_is)
      (case q208=>k_is)
      (case q209=>k_is)
      (case q210=>k_is)
      (case q211=>k_is)
      (case q212=>k_is)
      (case q213=>k_is)
      (case q214=>k_is)
      (case q215=>k_is)
      (case q216=>k_is)
      (case q217=>k_is)
      (case q218=>k_is)
      (case q219=>k_is)
      (case q220=>k_is)
      (case q221=>k_is)
      (case q222=>k_is)
      (case q223=>k_is)
      (case q224=>k_is)
      (case q225=>k_is)
      (case q226=>k_is)
      (case q227=>k_is)
      (case q228=>k_is)
      (case q229=>k_is)
      (case q230=>k_is)
      (case q231=>k_is)
      (case q232=>k_is)
      (case q233=>k_is)
      (case q234=>k_is)
      (case q235=>k_is)
      (case q236=>k_is)
      (case q237=>k_is)
      (case q238=>k_is)
      (case q239=>k_is)
      (case q240=>k_is)
      (case q241=>k_is)
      (case q242=>k_is)
      (case q243=>k_is)
      (case q244=>k_is)
      (case q245=>k_is)
      (case q246=>k_is)
      (case q247=>k_is)
      (case q248=>k_is)
      (case q249=>k_is)
      (case q250=>k_is)
      (case q251=>k_is)
      (case q252=>k_is)
      (case q253=>k_is)
      (case q254=>k_is)
      (case q255=>k_is)
      (case q256=>k_is)
      (case q257=>k_is)
      (case q258=>k_is)
      (case q259=>k_is)
      (case q260=>k_is)
      (case q261=>k_is)
      (case q262=>k_is)
      (case q263=>k_is)
      (case q264=>k_is)
      (case q265=>k_is)
      (case q266=>k_is)
      (case q267=>k_is)
      (case q268=>k_is)
      (case q269=>k_is)
      (case q270=>k_is)
      (case q271=>k_is)
      (case q272=>k_is)
      (case q273=>k_is)
      (case q274=>k_is)
      (case q275=>k_is)
      (case q276=>k_is)
      (case q277=>k_is)
      (case q278=>k_is)
      (case q279=>k_is)
      (case q280=>k_is)
      (case q281=>k_is)
      (case q282=>k_is)
      (case q283=>k_is)
      (case q284=>k_is)
      (case q285=>k_is)
      (case q286=>k_is)
      (case q287=>k_is)
      (case q288=>k_is)
      (case q289=>k_is)
      (case q290=>k_is)
      (case q291=>k_is)
      (case q292=>k_is)
      (case q293=>k_is)
      (case q294=>k_is)
      (case q295=>k_is)
      (case q296=>k_is)
      (case q297=>k_is)
      (case q298=>k_is)
      (case q299=>k_is)
      (case q300=>k_is)
      (case q301=>k_is)
      (case q302=>k_is)
      (case q303=>k_is)
      (case q304=>k_is)
      (case q305=>k_is)
      (case q306=>k_is)
      (case q307=>k_is)
      (case q308=>k_is)
      (case q309=>k_is)
      (case q310=>k_is)
      (case q311=>k_is)
      (case q312=>k_is)
      (case q313=>k_is)
      (case q314=>k_is)
      (case q315=>k_is)
      (case q316=>k_is)
      (case q317=>k_is)
      (case q318=>k_is)
      (case q319=>k_is)
      (case q320=>k_is)
      (case q321=>k_is)
      (case q322=>k_is)
      (case q323=>k_is)
      (case q324=>k_is)
      (case q325=>k_is)
      (case q326=>k_is)
      (case q327=>k_is)
      (case q328=>k_is)
      (case q329=>k_is)
      (case q330=>k_is)
      (case q331=>k_is)
      (case q332=>k_is)
      (case q333=>k_is)
      (case q334=>k_is)
      (case q335=>k_is)
      (case q336=>k_is)
      (case q337=>k_is)
      (case q338=>k_is)
      (case q339=>k_is)
      (case q340=>k_is)
      (case q341=>k_is)
      (case q342=>k_is)
      (case q343=>k_is)
      (case q344=>k_is)
      (case q345=>k_is)
      (case q346=>k_is)
      (case q347=>k_is)
      (case q348=>k_is)
      (case q349=>k_is)
      (case q350=>k_is)
      (case q351=>k_is)
      (case q352=>k_is)
      (case q353=>k_is)
      (case q354=>k_is)
      (case q355=>k_is)
      (case q356=>k_is)
      (case q357=>k_is)
      (case q358=>k_is)
      (case q359=>k_is)
      (case q360=>k_is)
      (case q361=>k_is)
      (case q362=>k_is)
      (case q363=>k_is)
      (case q364=>k_is)
      (case q365=>k_is)
      (case q366=>k_is)
      (case q367=>k_is)
      (case q368=>k_is)
      (case q369=>k_is)
      (case q370=>k_is)
      (case q371=>k_is)
      (case q372=>k_is)
      (case q373=>k_is)
      (case q374=>k_is)
      (case q375=>k_is)
      (case q376=>k_is)
      (case q377=>k_is)
      (case q378=>k_is)
      (case q379=>k_is)
      (case q380=>k_is)
      (case q381=>k_is)
      (case q382=>k_is)
      (case q383=>k_is)
      (case q384=>k_is)
      (case q385=>k_is)
      (case q386=>k_is)
      (case q387=>k_is)
      (case q388=>k_is)
      (case q389=>k_is)
      (case q390=>k_is)
      (case q391=>k_is)
      (case q392=>k_is)
      (case q393=>k_is)
      (case q394=>k_is)
      (case q395=>k_is)
      (case q396=>k_is)
      (case q397=>k_is)
      (case q398=>k_is)
      (case q399=>k_is)
      (case q400=>k_is)
      (case q401=>k_is)
      (case q402=>k_is)
      (case q403=>k_is)
      (case q404=>k_is)
      (case q405=>k_is)
      (case q406=>k_is)
      (case q407=>k_is)
      (case q408=>k_is)
      (case q409=>k_is)
      (case q410=>k_is)
      (case q411=>k_is)
      (case q412=>k_is)
      (case q413=>k_is)
      (case q414=>k_is)
      (case q415=>k_is)
      (case q416=>k_is)
      (case q417=>rfl)
      (case q418=>k_is)
      (case q419=>k_is)
      (case q420=>rfl)
      (case q421=>k_is)
      (case q422=>k_is)
      (case q423=>k_is)
      (case q424=>k_is)
      (case q425=>k_is)
      (case q426=>k_is)
      (case q427=>k_is)
      (case q428=>k_is)
      (case q429=>k_is)
      (case q430=>k_is)
      (case q431=>k_is)
      (case q432=>k_is)
      (case q433=>k_is)
      (case q434=>k_is)
      (case q435=>k_is)
      (case q436=>k_is)
      (case q437=>k_is)
    obtain ⟨A,T,hB⟩:=T
    have hfa:fa=A.Fs:=by
      have e:=hmg.symm.trans T.Ao9
      cases e; rfl
    subst hfa
    refine ⟨A.Lw,hB,fun base _ _=>((Ft.Amh T).imp fun vs H Q E ⟨a,l,e,hs,_,_,hq,k⟩=>⟨a,l,e,hs,hq,k⟩).mono (by decide)⟩
  case S =>
    intro K H xs a hO hwi hask hx
    exact Ft.Axf K H xs a hO hwi hask hx
