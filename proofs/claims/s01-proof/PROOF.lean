import PyProof.Rows.All
import Wide.All
import OpenK.AllK
import Wide.FinOn
import PyProof.EqAt
import PyProof.EqKinds
import PyProof.TupleCall
import KE.BitLaws
import Open.SpecLaws
import KE.OsHead
import KE.OsGo
import OpenK.KMake
import PyProof.ExcInit
import PyProof.InstLoad
import PyProof.InstStoreFacts
import PyProof.ExcAttrAll.Exception
import PyProof.StationsW
import PyProof.RulesTry
import PyProof.RulesAs
import PyProof.PassesOwn
import KE.IntTextLaws
import PySem.Challenge.RW_pinballs_s01_answers
set_option Elab.async false
set_option linter.all false
set_option maxRecDepth 100000
set_option maxHeartbeats 1000000
noncomputable section
namespace L2
open PySem PySem.Spec PyProof.Rows
abbrev Key:=Sum Int Str
noncomputable def Cs:Key->Value->Bool
 | .inl k,v=>Value.isInt k v
 | .inr x,v=>Value.isStrOf x v
noncomputable def RD (w:World):Key->Int
 | .inl k=>hashInt k
 | .inr x=>hashStr w x
theorem eD:∀ {k:Key} {v:Value},Cs k v = true->(∃ i t,k = Sum.inl i/\v = Value.int i t)\/(∃ x t,k = Sum.inr x/\v = Value.str x t)
 | .inl i,v,h=>by
  obtain ⟨t,e⟩:=Value.isInt_shape (k:=i) (v:=v) h
  exact .inl ⟨i,t,rfl,e⟩
 | .inr x,v,h=>by
  obtain ⟨t,e⟩:=Value.isStrOf_shape (x:=x) (v:=v) h
  exact .inr ⟨x,t,rfl,e⟩
theorem JK (i:Int) (t:Tok):Cs (.inl i) (.int i t) = true:=by simp [Cs,Value.isInt]
theorem JL (x:Str) (t:Tok):Cs (.inr x) (.str x t) = true:=by simp [Cs,Value.isStrOf]
theorem Oz (a b:Int):decide ((Sum.inl a:Key) = Sum.inl b) = (a == b):=by
 by_cases e:a = b
 ·subst e;simp
 ·have h:¬ (Sum.inl a:Key) = Sum.inl b:=fun q=>e (Sum.inl.inj q)
  rw [decide_eq_false h]
  exact (beq_eq_false_iff_ne.mpr e).symm
theorem OA (a b:Str):decide ((Sum.inr a:Key) = Sum.inr b) = decide (a = b):=by
 by_cases e:a = b
 ·subst e;simp
 ·have h:¬ (Sum.inr a:Key) = Sum.inr b:=fun q=>e (Sum.inr.inj q)
  rw [decide_eq_false h,decide_eq_false e]
theorem OB (a:Int) (b:Str):decide ((Sum.inl a:Key) = Sum.inr b) = false:=decide_eq_false (fun q=>nomatch q)
theorem OC (a:Str) (b:Int):decide ((Sum.inr a:Key) = Sum.inl b) = false:=decide_eq_false (fun q=>nomatch q)
noncomputable def eE (prog:Program) (w:World):PySem.KeyKind prog w Key where
 is:=Cs
 hash:=RD w
 inj:=fun v a b ha hb=>by
  rcases eD ha with ⟨i,t,rfl,rfl⟩ | ⟨x,t,rfl,rfl⟩
  ·rcases eD hb with ⟨j,u,rfl,e⟩ | ⟨y,u,rfl,e⟩
   ·injection e with e1 _;rw [e1]
   ·exact nomatch e
  ·rcases eD hb with ⟨j,u,rfl,e⟩ | ⟨y,u,rfl,e⟩
   ·exact nomatch e
   ·injection e with e1 _;rw [e1]
 byValue:=fun k v h=>by
  rcases eD h with ⟨i,t,rfl,rfl⟩ | ⟨x,t,rfl,rfl⟩ <;> rfl
 pyHash:=fun hv h=>by
  rcases eD hv with ⟨i,t,rfl,rfl⟩ | ⟨x,t,rfl,rfl⟩
  ·exact wpAny_pyHash_int h
  ·exact wpAny_pyHash_str h
 eqBool:=fun hu hv h=>by
  rcases eD hu with ⟨i,t,rfl,rfl⟩ | ⟨x,t,rfl,rfl⟩
  ·rcases eD hv with ⟨j,u,rfl,rfl⟩ | ⟨y,u,rfl,rfl⟩
   ·rw [Oz] at h;exact wpAny_eqBool_int h
   ·rw [OB] at h;exact SeqAt.EqAt.int_str i t y u _ _ _ _ h
  ·rcases eD hv with ⟨j,u,rfl,rfl⟩ | ⟨y,u,rfl,rfl⟩
   ·rw [OC] at h;exact SeqAt.EqAt.str_int x t j u _ _ _ _ h
   ·rw [OA] at h;exact wpAny_eqBool_str h
 «strs»:=fun k x t v h=>by
  rcases eD h with ⟨i,u,rfl,e⟩ | ⟨y,u,rfl,e⟩
  ·exact nomatch e
  ·injection e with e1 _
   subst e1
   cases v <;> rfl
theorem E9 (prog:Program) (w:World) (i:Int) (t:Tok):(eE prog w).is (.inl i) (.int i t) = true:=JK i t
theorem Fb (prog:Program) (w:World) (x:Str) (t:Tok):(eE prog w).is (.inr x) (.str x t) = true:=JL x t
end L2
namespace L2
open PySem PySem.Spec PyProof.Rows
inductive V where
 | fR | bl (b:Bool) | int (i:Int) | str (x:Str) | Bw (b:Array UInt8) | Qo (b:UInt64) | ref (a:Addr) | ty (n:String)
 deriving DecidableEq
noncomputable def RelV:V->Value->Prop
 | .fR,u=>u = Value.none
 | .bl b,u=>u = Value.bool b
 | .int i,u=>∃ t,u = Value.int i t
 | .str x,u=>∃ t,u = Value.str x t
 | .Bw b,u=>∃ t,u = Value.bytes b t
 | .Qo b,u=>∃ t,u = Value.float b t
 | .ref a,u=>u = Value.ref a
 | .ty n,u=>u = Value.type n
abbrev Vals:List V->List Value->Prop:=Paired RelV
theorem Vals.length {xs:List V} {us:List Value} (r:Vals xs us):xs.length = us.length:=Paired.length r
theorem Vals.get:∀ {xs:List V} {us:List Value} {i:Nat} {x:V},Vals xs us->xs[i]? = some x->∃ u,us[i]? = some u/\RelV x u
 | _,_,_,_,.nil,e=>by simp at e
 | _,_,0,_,.cons r _,e=>by simp at e;subst e;exact ⟨_,rfl,r⟩
 | _,_,i + 1,x,.cons _ t,e=>by
  obtain ⟨u,h1,h2⟩:=Vals.get (i:=i) (x:=x) t (by simpa using e)
  exact ⟨u,by simpa using h1,h2⟩
theorem Vals.append:∀ {xs ys:List V} {us ws:List Value},Vals xs us->Vals ys ws->Vals (xs ++ ys) (us ++ ws)
 | _,_,_,_,.nil,s=>s
 | _,_,_,_,.cons r t,s=>.cons r (Vals.append t s)
theorem Vals.take:∀ {xs:List V} {us:List Value} (n:Nat),Vals xs us->Vals (xs.take n) (us.take n)
 | _,_,0,_=>.nil
 | _,_,_ + 1,.nil=>.nil
 | _,_,n + 1,.cons r t=>.cons r (Vals.take n t)
theorem Vals.drop:∀ {xs:List V} {us:List Value} (n:Nat),Vals xs us->Vals (xs.drop n) (us.drop n)
 | _,_,0,r=>r
 | _,_,_ + 1,.nil=>.nil
 | _,_,n + 1,.cons _ t=>Vals.drop n t
noncomputable def oY:Option V->Option Value->Prop
 | some v,some u=>RelV v u
 | none,none=>True
 | _,_=>False
noncomputable def KV {κ:Type}:List (κ × V)->List (κ × Value)->Prop:=Paired fun (p:κ × V) (q:κ × Value)=>p.1 = q.1/\RelV p.2 q.2
noncomputable def kV:Key->V
 | .inl i=>.int i
 | .inr x=>.str x
inductive HO where
 | lst (xs:List V)
 | tup (xs:List V)
 | dK (kvs:List (Key × V)) | dT (kvs:List (List Key × V))
 | set (S:Int->Bool) (n:Nat)
 | ins (C dx:Addr) (fs:List (Str × V))
 | own (x:Addr)
 | xd (fs:List (Str × V))
 | met (f x:Addr)
 | RE (lo hi:Int)
 | ra (o:Obj) (u:HO)
 | OD (ps:Array Value)
 | ext (φ:Heap->Prop)
abbrev Hp:=Addr->Option HO
noncomputable def upd (H:Hp) (a:Addr) (o:HO):Hp:=fun b=>if b = a then some o else H b
theorem af {H:Hp} {a:Addr} {o:HO}:upd H a o a = some o:=by unfold upd;rw [if_pos rfl]
theorem ai {H:Hp} {a b:Addr} {o:HO} (h:b ≠ a):upd H a o b = H b:=by unfold upd;rw [if_neg h]
theorem aW {H:Hp} {a:Addr} {o u:HO}:upd (upd H a o) a u = upd H a u:=by
 funext b;unfold upd;split <;> rfl
theorem nV {H:Hp} {a b:Addr} {o u:HO} (h:H a = some o) (h':H b = some u) (d:o ≠ u):a ≠ b:=by
 intro e;subst e;rw [h] at h';exact d (Option.some.inj h')
theorem aw {H:Hp} {a b:Addr} {o:HO} (h:H a = some o) (h':H b = none):a ≠ b:=by
 intro e;subst e;rw [h] at h';cases h'
section
variable (P:Program) (w:World)
noncomputable def d8 (H:Hp) (h:Heap) (a:Addr):HO->Prop
 | .lst xs=>xs.length<=sizeLine/\∃ (its:List Value) (n:Nat),Vals xs its/\h.get? a = some { cls:=.type "list",data:=.seq its.toArray n }
 | .tup xs=>xs.length<=sizeLine/\∃ its:List Value,Vals xs its/\IsTup h a its.toArray
 | .dK kvs=>kvs.length<=sizeLine/\(a == sysModules) = false/\∃ vs,KV kvs vs/\h.DictOf (eE P w) a vs
 | .dT kvs=>kvs.length<=sizeLine/\(a == sysModules) = false/\∃ xs:List (List Key × Addr × Value),
   Paired (fun (p:List Key × V) (q:List Key × Addr × Value)=>p.1 = q.1/\H q.2.1 = some (.tup (p.1.map kV))/\RelV p.2 q.2.2) kvs xs ∧
   ∃ o es ep,h.get? a = some o/\o.ExactDict/\o.data = .dict es ep/\es.toList = xs.map (entryOfKey (tupleKind (eE P w)))/\(xs.map (·.1)).Nodup
 | .set S n=>h.SetOf (intKind P w) a S n
 | .ins C dx fs=>H dx = some (.own a)/\fs.length<=1000/\dx ≠ a/\h.get? a = some (PySem.W.instObj C dx) ∧
   ∃ mA,h.Ns1 dx mA/\(∀ f,oY (fs.lookup f) (mA f))/\PySem.Within mA (fs.map (·.1))
 | .own _=>∃ o,h.get? a = some o
 | .xd fs=>∃ mA,h.Ns1 a mA/\∀ f,oY (fs.lookup f) (mA f)
 | .RE lo hi=>∃ t u v,h.get? a = some { cls:=.type "range",data:=.fields #[.int lo t,.int hi u,.int 1 v] }
 | .ra o u=>h.get? a = some o/\d8 H h a u
 | .OD ps=>h.get? a = some { cls:=.none,data:=.fields ps }
 | .met f x=>h.get? a = some (PySem.W.methodObj (.ref f) (.ref x))
 | .ext φ=>φ h/\(∃ o,h.get? a = some o)/\∀ h1 h2:Heap,φ h1->(∀ o,h1.get? a = some o->h2.get? a = some o)->φ h2
noncomputable def qh (H:Hp) (h:Heap):Prop:=∀ a o,H a = some o->d8 P w H h a o
end
section
variable {P:Program} {w:World} {H H':Hp} {h h':Heap} {a:Addr} {o:HO}
theorem d8.lt (x:d8 P w H h a o):a < h.objs.size:=by
 cases o with
 | lst xs=>obtain ⟨_,_,_,_,e⟩:=x;exact Heap.lt_size e
 | tup xs=>obtain ⟨_,_,_,p⟩:=x;exact p.lt
 | dK kvs=>obtain ⟨_,_,_,_,o,_,_,e,_⟩:=x;exact Heap.lt_size e
 | dT kvs=>obtain ⟨_,_,_,_,o,_,_,e,_⟩:=x;exact Heap.lt_size e
 | set S n=>obtain ⟨o,_,_,_,e,_⟩:=x;exact Heap.lt_size e
 | ins C dx fs=>obtain ⟨_,_,_,e,_⟩:=x;exact Heap.lt_size e
 | own y=>obtain ⟨_,e⟩:=x;exact Heap.lt_size e
 | xd fs=>obtain ⟨_,⟨_,_,_,e,_⟩,_⟩:=x;exact Heap.lt_size e
 | RE lo hi=>obtain ⟨_,_,_,e⟩:=x;exact Heap.lt_size e
 | ra ob u=>obtain ⟨e,_⟩:=x;exact Heap.lt_size e
 | OD ps=>exact Heap.lt_size (show h.get? a = some _ from x)
 | met f y=>exact Heap.lt_size (show h.get? a = some _ from x)
 | ext φ=>obtain ⟨_,⟨_,e⟩,_⟩:=x;exact Heap.lt_size e
theorem Paired.OE {α β:Type} {F G:α->β->Prop}:∀ {l₁:List α} {l₂:List β},Paired F l₁ l₂->(∀ a b,F a b->G a b)->Paired G l₁ l₂
 | _,_,.nil,_=>.nil
 | _,_,.cons r t,f=>.cons (f _ _ r) (Paired.OE t f)
theorem d8.vq (x:d8 P w H h a o) (k:∀ b u,(b = a\/H b = some (.own a))->h.get? b = some u->h'.get? b = some u)
  (ho:∀ b,H b = some (.own a)->H' b = some (.own a)) (ht:∀ b xs,H b = some (.tup xs)->H' b = some (.tup xs)):d8 P w H' h' a o:=by
 induction o with
 | lst xs=>obtain ⟨z,its,n,r,e⟩:=x;exact ⟨z,its,n,r,k _ _ (.inl rfl) e⟩
 | tup xs=>obtain ⟨z,its,r,ob,e,c⟩:=x;exact ⟨z,its,r,ob,k _ _ (.inl rfl) e,c⟩
 | dK kvs=>obtain ⟨z,y,vs,r,ob,es,ep,e,c⟩:=x;exact ⟨z,y,vs,r,ob,es,ep,k _ _ (.inl rfl) e,c⟩
 | dT kvs =>
  obtain ⟨z,y,xs,r,ob,es,ep,e,c⟩:=x
  exact ⟨z,y,xs,Paired.OE r fun p q z=>⟨z.1,ht _ _ z.2.1,z.2.2⟩,ob,es,ep,k _ _ (.inl rfl) e,c⟩
 | set S n=>obtain ⟨ob,es,ep,t,e,c⟩:=x;exact ⟨ob,es,ep,t,k _ _ (.inl rfl) e,c⟩
 | ins C dx fs =>
  obtain ⟨d,z,ne,e,mA,⟨od,es,ep,e2,c⟩,r⟩:=x
  exact ⟨ho _ d,z,ne,k _ _ (.inl rfl) e,mA,⟨od,es,ep,k _ _ (.inr d) e2,c⟩,r⟩
 | own y=>obtain ⟨ob,e⟩:=x;exact ⟨ob,k _ _ (.inl rfl) e⟩
 | xd fs=>obtain ⟨mA,⟨od,es,ep,e,c⟩,r⟩:=x;exact ⟨mA,⟨od,es,ep,k _ _ (.inl rfl) e,c⟩,r⟩
 | RE lo hi=>obtain ⟨t,u,v,e⟩:=x;exact ⟨t,u,v,k _ _ (.inl rfl) e⟩
 | ra ob u ih=>obtain ⟨e,q⟩:=x;exact ⟨k _ _ (.inl rfl) e,ih q⟩
 | OD ps =>
  have e:h.get? a = some { cls:=.none,data:=.fields ps }:=x
  show h'.get? a = some { cls:=.none,data:=.fields ps }
  exact k a _ (.inl rfl) e
 | met f y =>
  have e:h.get? a = some (PySem.W.methodObj (.ref f) (.ref y)):=x
  show h'.get? a = some (PySem.W.methodObj (.ref f) (.ref y))
  exact k a _ (.inl rfl) e
 | ext φ=>obtain ⟨p,⟨o,e⟩,st⟩:=x;exact ⟨st _ _ p fun o q=>k _ _ (.inl rfl) q,⟨o,k _ _ (.inl rfl) e⟩,st⟩
theorem qh.lt (x:qh P w H h) (e:H a = some o):a < h.objs.size:=(x a o e).lt
theorem qh.fresh (x:qh P w H h) (e:h.objs.size<=a):H a = none:=by
 cases q:H a with
 | none=>rfl
 | some u=>exact absurd (Nat.lt_of_lt_of_le (x.lt q) e) (Nat.lt_irrefl _)
theorem qh.kept (x:qh P w H h) (k:∀ b u,h.get? b = some u->h'.get? b = some u):qh P w H h':=fun a o e =>
 (x a o e).vq (fun b u _ q=>k b u q) (fun _ q=>q) fun _ _ q=>q
theorem qh.laid (x:qh P w H h) (k:∀ b u,h.get? b = some u->h'.get? b = some u) (hp:h.objs.size<=a) (new:d8 P w (upd H a o) h' a o):qh P w (upd H a o) h':=fun b u e=>by
 have hn:=x.fresh hp
 by_cases hb:b = a
 ·subst hb;rw [af] at e;cases e;exact new
 ·rw [ai hb] at e
  exact (x b u e).vq (fun c v _ q=>k c v q) (fun c q=>by rw [ai (aw q hn)];exact q) fun c xs q=>by rw [ai (aw q hn)];exact q
end
noncomputable def Rd (H:Hp) (a:Addr) (u:HO):Prop:=H a = some u\/∃ o,H a = some (.ra o u)
theorem Rd.ok {P:Program} {w:World} {H:Hp} {h:Heap} {a:Addr} {u:HO} (r:Rd H a u) (x:qh P w H h):d8 P w H h a u:=by
 rcases r with r | ⟨o,r⟩
 ·exact x a u r
 ·obtain ⟨_,q⟩:=x a _ r
  exact q
noncomputable def N7:Option HO->Prop
 | some (.lst _)=>True
 | some (.dK _)=>True
 | some (.dT _)=>True
 | some (.set _ _)=>True
 | some (.ins _ _ _)=>True
 | some (.ext _)=>True
 | _=>False
section
variable {P:Program} {w:World} {H:Hp} {h h':Heap} {x e:Addr} {o':HO}
theorem qh.write (ok:qh P w H h) (mu:N7 (H x)) (he:e = x\/H e = some (.own x)) (k:∀ b u,b ≠ e->h.get? b = some u->h'.get? b = some u) (heo:∃ u,h'.get? e = some u)
  (new:d8 P w (upd H x o') h' x o'):qh P w (upd H x o') h':=fun b u q=>by
 have nown:∀ c y,H c = some (.own y)->c ≠ x:=fun c y r z=>by subst z;rw [r] at mu;exact mu
 have ntup:∀ c xs,H c = some (.tup xs)->c ≠ x:=fun c xs r z=>by subst z;rw [r] at mu;exact mu
 by_cases hb:b = x
 ·subst hb;rw [af] at q;cases q;exact new
 ·rw [ai hb] at q
  by_cases hbe:b = e
  ·have q':H b = some (.own x):=by
    rcases he with z | z
    ·exact absurd (hbe.trans z) hb
    ·rw [hbe];exact z
   rw [q] at q';cases q'
   obtain ⟨v,hv⟩:=heo
   exact ⟨v,by rw [hbe];exact hv⟩
  ·refine (ok b u q).vq (fun c v hc r=>k c v ?_ r) (fun c r=>by rw [ai (nown c b r)];exact r) fun c xs r=>by rw [ai (ntup c xs r)];exact r
   rcases hc with rfl | hc
   ·exact hbe
   ·rintro rfl
    rcases he with z | z
    ·exact nown c b hc z
    ·rw [hc] at z;cases z;exact hb rfl
end
structure Un (fs ex:List Addr) (H H':Hp) (h h':Heap):Prop where
 keep:∀ b o,h.get? b = some o->H b = none->b ∉ fs->b ∉ ex->h'.get? b = some o
 slot:∀ b o,h.get? b = some o->H b = none->b ∈ fs->b ∉ ex->∃ sl,h'.get? b = some { o with slots:=sl }
 free:∀ b o,h.get? b = some o->H b = none->b ∉ ex->H' b = none
 there:∀ b o,h.get? b = some o->b ∉ ex->∃ o',h'.get? b = some o'
 wM:∀ b xs,H b = some (.tup xs)->H' b = some (.tup xs)
 uB:∀ b o u,H b = some (.ra o u)->H' b = some (.ra o u)
 wN:∀ b ps,H b = some (.OD ps)->∃ more,H' b = some (.OD (ps ++ more))
section
variable {fs fs' ex ex':List Addr} {H H1 H2:Hp} {h h1 h2 h':Heap} {a x e:Addr} {o:HO}
theorem Un.any (u:Un fs ex H H1 h h1) {b:Addr} {ob:Obj} (q:h.get? b = some ob) (n:H b = none) (hx:b ∉ ex):∃ sl,h1.get? b = some { ob with slots:=sl }:=by
 by_cases hb:b ∈ fs
 ·exact u.slot b ob q n hb hx
 ·exact ⟨ob.slots,u.keep b ob q n hb hx⟩
theorem Un.kept (k:∀ b u,h.get? b = some u->h'.get? b = some u):Un fs ex H H h h' :=
 ⟨fun b ob q _ _ _=>k b ob q,fun b ob q _ _ _=>⟨ob.slots,k b ob q⟩,fun _ _ _ n _=>n,fun b ob q _=>⟨ob,k b ob q⟩,fun _ _ q=>q,fun _ _ _ q=>q,fun _ ps q=>⟨#[],by rw [q];simp⟩⟩
theorem Un.refl:Un fs ex H H h h:=Un.kept fun _ _ q=>q
theorem Un.laid (k:∀ b u,h.get? b = some u->h'.get? b = some u) (hp:h.objs.size<=a) (hn:H a = none):Un fs ex H (upd H a o) h h' where
 keep:=fun b u q _ _ _=>k b u q
 slot:=fun b u q _ _ _=>⟨u.slots,k b u q⟩
 free:=fun b u q n _=>by rw [ai (Nat.ne_of_lt (Nat.lt_of_lt_of_le (Heap.lt_size q) hp))];exact n
 there:=fun b u q _=>⟨u,k b u q⟩
 wM:=fun b xs q=>by rw [ai (aw q hn)];exact q
 uB:=fun b u xs q=>by rw [ai (aw q hn)];exact q
 wN:=fun b ps q=>⟨#[],by rw [ai (aw q hn),q];simp⟩
theorem Un.write (mu:N7 (H x)) (he:e = x\/H e = some (.own x)) (k:∀ b u,b ≠ e->h.get? b = some u->h'.get? b = some u) (heo:∃ u,h'.get? e = some u):Un fs ex H (upd H x o) h h':=by
 have hx:∀ b,H b = none->b ≠ x:=fun b n z=>by subst z;rw [n] at mu;exact mu
 have hb:∀ b,H b = none->b ≠ e:=fun b n z=>by
  subst z
  rcases he with r | r
  ·exact hx b n r
  ·rw [n] at r;cases r
 have hm:∀ b u,H b = some u->¬ N7 (some u)->b ≠ x:=fun b u q nm z=>by subst z;rw [q] at mu;exact nm mu
 refine ⟨fun b u q n _ _=>k b u (hb b n) q,fun b u q n _ _=>⟨u.slots,k b u (hb b n) q⟩,fun b u q n _=>by rw [ai (hx b n)];exact n,fun b u q _=>?_,
  fun b xs q=>by rw [ai (hm b _ q fun z=>z)];exact q,fun b u xs q=>by rw [ai (hm b _ q fun z=>z)];exact q,fun b ps q=>⟨#[],by rw [ai (hm b _ q fun z=>z),q];simp⟩⟩
 by_cases hbe:b = e
 ·subst hbe;exact heo
 ·exact ⟨u,k b u hbe q⟩
end
noncomputable def OF (h:Heap) (H:Hp):List Addr:=(List.range h.objs.size).filter fun a=>(H a).isSome
noncomputable def C7 (h:Heap) (H:Hp):Heap:=PySem.W.hideAll h (OF h H)
theorem JM (h:Heap) (H:Hp):(C7 h H).objs.size = h.objs.size:=PySem.W.hideAll_size _ _
theorem Lh {h:Heap} {H:Hp} {b:Addr} {o:Obj} (e:h.get? b = some o) (n:H b = none):(C7 h H).get? b = some o :=
 PySem.W.hideAll_get _ e fun hm=>by
  have q:(H b).isSome = true:=(List.mem_filter.mp hm).2
  rw [n] at q;simp at q
theorem MA {h:Heap} {H:Hp} {b:Addr} {o:Obj} (e:(C7 h H).get? b = some o):h.get? b = some o/\H b = none:=by
 have e':h.get? b = some o:=PySem.W.of_hideAll (OF h H) e
 refine ⟨e',?_⟩
 cases q:H b with
 | none=>rfl
 | some x =>
  have hm:b ∈ OF h H:=List.mem_filter.mpr ⟨List.mem_range.mpr (Heap.lt_size e'),by simp [q]⟩
  have z:(C7 h H).get? b = none:=PySem.W.hideAll_none (OF h H) hm
  rw [z] at e;cases e
end L2
namespace L2
open PySem PySem.Spec PyProof.Rows
structure Mod (K:PySem.W.Frag) (mg:Str->Option Value) (base:Heap):Prop where
 OG:K.In base
 glob:base.Ns mainGlobals mg
 blt:∃ mb,base.Ns builtinsNs mb/\∀ x:Str,x ≠ "__name__"->mb x = bootBuiltins x
 nolimit:base.NoLimit
structure Cx where
 prog:Program
 w:World
 K:PySem.W.Frag
 mg:Str->Option Value
 base:Heap
 A:Around
 N:List Str
 vp:Shared
 Ms:Hp
 env:Env
 outer:List Env
 stack:List Env
 ex:List Addr
 fn:Str->Bool
 calm:Bool
 pn:List (Addr × Obj)
 xe:Value->Shared->Prop
noncomputable def Bu (l:List Env):List Addr:=l.filterMap (·.frame)
abbrev Cx.fs (X:Cx):List Addr:=Bu X.outer
noncomputable def Qp (sc:Scope) (x:Str):Prop:=sc.names.lookup x = some .local\/sc.names.lookup x = some .cell\/sc.names.lookup x = some .free
noncomputable def Loc (sc:Scope) (x:Str):Prop:=sc.names.lookup x = some .local\/sc.names.lookup x = some .cell
noncomputable def Look (env:Env) (h:Heap) (m:Str->Option Value) (x:Str) (u:Value):Prop :=
 (env.kindOf x = some .local/\m x = some u)\/((env.kindOf x = some .cell\/env.kindOf x = some .free)/\∃ c,env.cells.lookup x = some c/\h.IsCell c (some u))
structure Cx.Ok (X:Cx):Prop where
 mod:Mod X.K X.mg X.base
 kind:X.env.scope.kind = .function
 glob:X.env.globals = mainGlobals
 blt:X.env.builtins = builtinsNs
 above:X.vp.heap.objs.size<=X.env.locals
 inj:∀ x y c,X.env.cells.lookup x = some c->X.env.cells.lookup y = some c->x = y
 has:∀ x,(X.env.kindOf x = some .cell\/X.env.kindOf x = some .free)->∃ c,X.env.cells.lookup x = some c
 N8:∀ x c,X.fn x = true->X.env.cells.lookup x = some c->X.vp.heap.objs.size<=c
 hd:X.calm = true->X.A.handled = none
 frames:X.A.frames = some X.stack
 Fc:X.stack = X.outer\/(X.stack = X.env :: X.outer/\X.env.frame = some X.env.locals)
 OH:∀ b ∈ X.ex,b ≠ X.env.locals/\∀ x c,X.env.cells.lookup x = some c->c ≠ b
 bs:∀ b o,X.base.get? b = some o->X.vp.heap.get? b = some o/\X.Ms b = none
 Lf:X.base.objs.size<=X.vp.heap.objs.size
 Fd:∀ b o,X.base.get? b = some o->b ∉ X.ex
 Fe:∀ b ∈ X.ex,b ∉ X.fs
 uC:X.vp.heap.FunFrames X.base X.outer
 Mt:∀ b ∈ X.fs,X.Ms b = none
structure Inv (X:Cx) (pins:List (Addr × Obj)) (σ:List (Option V)) (H:Hp) (s:Shared):Prop where
 ok:X.Ok
 os:s.os = X.vp.os
 bare:AllBare s.gens
 base:Un X.fs X.ex X.Ms H X.vp.heap s.heap
 loc:∃ m,s.heap.Ns X.env.locals m/\∀ (i:Nat) (x:Str) (v:V),X.N[i]? = some x->σ[i]? = some (some v)->Qp X.env.scope x->∃ u,RelV v u/\Look X.env s.heap m x u
 cell:∀ x c,X.env.cells.lookup x = some c->∃ v,s.heap.IsCell c v
 free:H X.env.locals = none
 jE:∀ x c,X.env.cells.lookup x = some c->H c = none
 pin:∀ p ∈ X.pn ++ pins,s.heap.get? p.1 = some p.2/\H p.1 = none/\p.1 ≠ X.env.locals/\p.1 ∉ X.fs/\∀ v,p.2.data ≠ .cell v
 bL:qh X.prog X.w H s.heap
 len:σ.length = X.N.length
section
variable {X:Cx} {pins:List (Addr × Obj)} {σ:List (Option V)} {H H':Hp} {s:Shared} {h':Heap}
theorem Cx.Ok.RF (ok:X.Ok) {b:Addr} {o:Obj} (e:X.base.get? b = some o):b ∉ X.fs:=fun hb=>by
 have:=(ok.uC.mem hb).1
 rw [e] at this;cases this
theorem Inv.bs (I:Inv X pins σ H s):∀ b o,X.base.get? b = some o->s.heap.get? b = some o/\H b = none:=fun b o e =>
 ⟨I.base.keep b o (I.ok.bs b o e).1 (I.ok.bs b o e).2 (I.ok.RF e) (I.ok.Fd b o e),I.base.free b o (I.ok.bs b o e).1 (I.ok.bs b o e).2 (I.ok.Fd b o e)⟩
theorem Inv.bk (I:Inv X pins σ H s):∀ b o,X.base.get? b = some o->s.heap.get? b = some o:=fun b o e=>(I.bs b o e).1
theorem Inv.mod (I:Inv X pins σ H s):Mod X.K X.mg X.base:=I.ok.mod
theorem Inv.yi (I:Inv X pins σ H s):X.K.In s.heap:=I.ok.mod.OG.keeps I.bk
theorem Inv.lt (I:Inv X pins σ H s):X.env.locals < s.heap.objs.size:=let ⟨_,hn,_⟩:=I.loc;hn.lt
theorem Inv.sz (I:Inv X pins σ H s):X.vp.heap.objs.size<=s.heap.objs.size:=Nat.le_trans I.ok.above (Nat.le_of_lt I.lt)
theorem Inv.RG (I:Inv X pins σ H s) {a:Addr} (h:s.heap.objs.size<=a):a ∉ X.fs:=fun hb=>by
 obtain ⟨_,o,ho,_⟩:=I.ok.uC.mem hb
 exact absurd (Nat.lt_of_lt_of_le (Heap.lt_size ho) (Nat.le_trans I.sz h)) (Nat.lt_irrefl _)
theorem Inv.N9 (I:Inv X pins σ H s):∀ x c,X.env.cells.lookup x = some c->c ≠ X.env.locals:=fun x c e z=>by
 obtain ⟨v,o,ho,hd⟩:=I.cell x c e
 obtain ⟨m,⟨o',es,ep,ho',hd',_⟩,_⟩:=I.loc
 rw [z,ho'] at ho;cases ho;rw [hd'] at hd;cases hd
theorem Inv.uC (I:Inv X pins σ H s):s.heap.FunFrames X.base X.outer:=by
 have all:∀ (l:List Env),(∀ b ∈ Bu l,b ∈ X.fs)->X.vp.heap.FunFrames X.base l->s.heap.FunFrames X.base l:=by
  intro l
  induction l with
  | nil=>intro _ _;trivial
  | cons env r ih =>
   intro hs hl
   obtain ⟨hk,⟨L,o,hf,hn,ho,hd⟩,hr⟩:=hl
   have hL:L ∈ X.fs:=hs L (by unfold Bu;rw [List.filterMap_cons,hf];exact List.mem_cons_self)
   obtain ⟨sl,e⟩:=I.base.slot L o ho (I.ok.Mt L hL) hL fun z=>I.ok.Fe L z hL
   exact ⟨hk,⟨L,_,hf,hn,e,hd⟩,ih (fun b hb=>hs b (by unfold Bu;rw [List.filterMap_cons,hf];exact List.mem_cons_of_mem _ hb)) hr⟩
 exact all X.outer (fun _ hb=>hb) I.ok.uC
theorem Inv.stack (I:Inv X pins σ H s):s.heap.FunFrames X.base X.stack:=by
 rcases I.ok.Fc with e | ⟨e,hf⟩
 ·rw [e];exact I.uC
 ·rw [e]
  obtain ⟨m,hn,_⟩:=I.loc
  refine .cons (by rw [I.ok.kind];decide) hf hn ?_ I.uC
  exact Heap.get?_none_of_le (Nat.le_trans I.ok.Lf I.ok.above)
theorem Inv.C8 (I:Inv X pins σ H s):∀ b ∈ Bu X.stack,b ∈ X.env.locals :: X.fs:=fun b hb=>by
 rcases I.ok.Fc with e | ⟨e,hf⟩
 ·rw [e] at hb;exact List.mem_cons_of_mem _ hb
 ·rw [e] at hb
  unfold Bu at hb
  rw [List.filterMap_cons,hf] at hb
  exact hb
theorem Inv.C9 (I:Inv X pins σ H s):∀ b ∈ Bu X.stack,H b = none:=fun b hb=>by
 rcases List.mem_cons.mp (I.C8 b hb) with e | hb
 ·rw [e];exact I.free
 ·obtain ⟨_,o,ho,_⟩:=I.ok.uC.mem hb
  exact I.base.free b o ho (I.ok.Mt b hb) fun z=>I.ok.Fe b z hb
theorem Inv.step {g':Array GenState} {t':Nat} {d':Drawn} {ch:List Addr} (I:Inv X pins σ H s)
  (hch:∀ b ∈ ch,(b ∈ X.ex\/X.vp.heap.objs.size<=b)/\b ≠ X.env.locals/\(∀ x c,X.env.cells.lookup x = some c->c ≠ b)/\∀ p ∈ X.pn ++ pins,p.1 ≠ b)
  (keep:∀ b o,b ≠ X.env.locals->b ∉ X.fs->b ∉ ch->s.heap.get? b = some o->H b = none->h'.get? b = some o)
  (slot:∀ b o,b ≠ X.env.locals->b ∈ X.fs->b ∉ ch->s.heap.get? b = some o->H b = none->∃ sl,h'.get? b = some { o with slots:=sl }) (free:∀ b o,b ∉ ch->s.heap.get? b = some o->H b = none->H' b = none)
  (there:∀ b o,b ∉ ch->s.heap.get? b = some o->∃ o',h'.get? b = some o')
  (wM:∀ b xs,H b = some (.tup xs)->H' b = some (.tup xs)) (uB:∀ b o u,H b = some (.ra o u)->H' b = some (.ra o u)) (wN:∀ b ps,H b = some (.OD ps)->∃ more,H' b = some (.OD (ps ++ more)))
  (ns:∀ m,s.heap.Ns X.env.locals m->h'.Ns X.env.locals m) (bL:qh X.prog X.w H' h') (hg:AllBare g') :
  Inv X pins σ H' { s with heap:=h',gens:=g',drawn:=d',toks:=t' }:=by
 have neL:∀ b o,X.vp.heap.get? b = some o->b ≠ X.env.locals:=fun b o e=>Nat.ne_of_lt (Nat.lt_of_lt_of_le (Heap.lt_size e) I.ok.above)
 have neC:∀ b o,X.vp.heap.get? b = some o->b ∉ X.ex->b ∉ ch:=fun b o e hx hb=>by
  rcases (hch b hb).1 with z | z
  ·exact hx z
  ·exact absurd (Nat.lt_of_lt_of_le (Heap.lt_size e) z) (Nat.lt_irrefl _)
 have cellK:∀ x c,X.env.cells.lookup x = some c->∀ v,s.heap.IsCell c v->h'.IsCell c v:=fun x c e v ⟨o,ho,hd⟩=>by
  have nch:c ∉ ch:=fun z=>(hch c z).2.2.1 x c e rfl
  by_cases hc:c ∈ X.fs
  ·obtain ⟨sl,q⟩:=slot c o (I.N9 x c e) hc nch ho (I.jE x c e)
   exact ⟨_,q,hd⟩
  ·exact ⟨o,keep c o (I.N9 x c e) hc nch ho (I.jE x c e),hd⟩
 refine ⟨I.ok,I.os,hg,⟨fun b o e n hb hx=>?_,fun b o e n hb hx=>?_,fun b o e n hx=>?_,fun b o e hx=>?_,fun b xs e=>wM b xs (I.base.wM b xs e),fun b o xs e=>uB b o xs (I.base.uB b o xs e),fun b ps e=>?_⟩,?_,fun x c e=>?_,?_,fun x c e=>?_,fun p hp=>?_,bL,I.len⟩
 ·exact keep b o (neL b o e) hb (neC b o e hx) (I.base.keep b o e n hb hx) (I.base.free b o e n hx)
 ·obtain ⟨sl,e1⟩:=I.base.slot b o e n hb hx
  obtain ⟨sl',e2⟩:=slot b _ (neL b o e) hb (neC b o e hx) e1 (I.base.free b o e n hx)
  exact ⟨sl',e2⟩
 ·obtain ⟨o',e1⟩:=I.base.there b o e hx
  exact free b o' (neC b o e hx) e1 (I.base.free b o e n hx)
 ·obtain ⟨o',e1⟩:=I.base.there b o e hx
  exact there b o' (neC b o e hx) e1
 ·obtain ⟨m1,e1⟩:=I.base.wN b ps e
  obtain ⟨m2,e2⟩:=wN b _ e1
  exact ⟨m1 ++ m2,by rw [e2,Array.append_assoc]⟩
 ·obtain ⟨m,hn,hl⟩:=I.loc
  refine ⟨m,ns m hn,fun i x v e1 e2 e3=>?_⟩
  obtain ⟨u,r,l⟩:=hl i x v e1 e2 e3
  refine ⟨u,r,?_⟩
  rcases l with l | ⟨k,c,e,z⟩
  ·exact .inl l
  ·exact .inr ⟨k,c,e,cellK x c e _ z⟩
 ·obtain ⟨v,z⟩:=I.cell x c e
  exact ⟨v,cellK x c e v z⟩
 ·obtain ⟨m,⟨o,_,_,ho,_⟩,_⟩:=I.loc
  exact free _ o (fun z=>(hch _ z).2.1 rfl) ho I.free
 ·obtain ⟨v,o,ho,hd⟩:=I.cell x c e
  exact free c o (fun z=>(hch c z).2.2.1 x c e rfl) ho (I.jE x c e)
 ·obtain ⟨e,n,ne,nf,d⟩:=I.pin p hp
  have nch:p.1 ∉ ch:=fun z=>(hch p.1 z).2.2.2 p hp rfl
  exact ⟨keep p.1 p.2 ne nf nch e n,free p.1 p.2 nch e n,ne,nf,d⟩
theorem Inv.un {t':Nat} (I:Inv X pins σ H s) (u:Un X.fs [] H H' s.heap h') (bL:qh X.prog X.w H' h'):Inv X pins σ H' { s with heap:=h',toks:=t' }:=by
 obtain ⟨m,⟨o,es,ep,ho,r⟩,_⟩:=id I.loc
 obtain ⟨sl,hL⟩:=u.any ho I.free (by simp)
 exact I.step (g':=s.gens) (d':=s.drawn) (ch:=[]) (fun _ z=>nomatch z) (fun b o _ hb _ e n=>u.keep b o e n hb (by simp)) (fun b o _ hb _ e n=>u.slot b o e n hb (by simp)) (fun b o _ e n=>u.free b o e n (by simp)) (fun b o _ e=>u.there b o e (by simp)) u.wM u.uB u.wN (fun m' hm=>by
  obtain ⟨o',es',ep',ho',r'⟩:=hm
  rw [ho] at ho';cases ho'
  exact ⟨_,es',ep',hL,r'⟩) bL I.bare
theorem Inv.call {g':Array GenState} {t':Nat} {d':Drawn} {ch:List Addr} (I:Inv X pins σ H s) (u:Un (Bu X.stack) ch H H' s.heap h') (bL:qh X.prog X.w H' h') (hg:AllBare g')
  (hch:∀ b ∈ ch,(b ∈ X.ex\/X.vp.heap.objs.size<=b)/\b ≠ X.env.locals/\(∀ x c,X.env.cells.lookup x = some c->c ≠ b)/\∀ p ∈ X.pn ++ pins,p.1 ≠ b) :
  Inv X pins σ H' { s with heap:=h',gens:=g',drawn:=d',toks:=t' }:=by
 obtain ⟨m,⟨o,es,ep,ho,r⟩,_⟩:=id I.loc
 obtain ⟨sl,hL⟩:=u.any ho I.free fun z=>(hch _ z).2.1 rfl
 exact I.step (ch:=ch) hch (fun b o hL hb hc e n=>u.keep b o e n (fun z=>(List.mem_cons.mp (I.C8 b z)).elim hL hb) hc) (fun b o _ _ hc e n=>u.any e n hc) (fun b o hc e n=>u.free b o e n hc) (fun b o hc e=>u.there b o e hc) u.wM u.uB u.wN (fun m' hm=>by
  obtain ⟨o',es',ep',ho',r'⟩:=hm
  rw [ho] at ho';cases ho'
  exact ⟨_,es',ep',hL,r'⟩) bL hg
theorem Inv.turned {t':Nat} {it:Addr} (I:Inv X pins σ H s) (k:∀ b o,b ≠ it->s.heap.get? b = some o->h'.get? b = some o) (hn:H it = none) (hL:it ≠ X.env.locals)
  (h1:it ∈ X.ex\/X.vp.heap.objs.size<=it) (h2:∀ x c,X.env.cells.lookup x = some c->c ≠ it) (h3:∀ p ∈ X.pn ++ pins,p.1 ≠ it):Inv X pins σ H { s with heap:=h',toks:=t' }:=by
 have nit:∀ b u,H b = some u->b ≠ it:=fun b u e z=>by rw [z,hn] at e;cases e
 refine I.step (g':=s.gens) (d':=s.drawn) (ch:=[it]) (fun b hb=>?_) (fun b o _ _ hc e _=>k b o (fun z=>hc (by simp [z])) e) (fun b o _ _ hc e _=>⟨o.slots,k b o (fun z=>hc (by simp [z])) e⟩) (fun _ _ _ _ n=>n)
  (fun b o hc e=>⟨o,k b o (fun z=>hc (by simp [z])) e⟩) (fun _ _ e=>e) (fun _ _ _ e=>e) (fun b ps e=>⟨#[],by rw [e];simp⟩) (fun m hm=>?_) (fun b u e=>?_) I.bare
 ·have e:b = it:=by simpa using hb
  subst e
  exact ⟨h1,hL,h2,h3⟩
 ·obtain ⟨o,es,ep,ho,r⟩:=hm
  exact ⟨o,es,ep,k _ o (Ne.symm hL) ho,r⟩
 ·refine (I.bL b u e).vq (fun c v hc q=>k c v ?_ q) (fun _ q=>q) fun _ _ q=>q
  rcases hc with z | z
  ·rw [z];exact nit b u e
  ·exact nit c _ z
theorem Inv.tok (I:Inv X pins σ H s) (t:Nat):Inv X pins σ H { s with toks:=t }:=I.un (h':=s.heap) (t':=t) Un.refl I.bL
theorem Inv.kept {t':Nat} (I:Inv X pins σ H s) (k:∀ b u,s.heap.get? b = some u->h'.get? b = some u):Inv X pins σ H { s with heap:=h',toks:=t' }:=I.un (Un.kept k) (I.bL.kept k)
theorem Inv.laid {a:Addr} {o:HO} {t':Nat} (I:Inv X pins σ H s) (k:∀ b u,s.heap.get? b = some u->h'.get? b = some u) (hp:s.heap.objs.size<=a) (new:d8 X.prog X.w (upd H a o) h' a o) :
  Inv X pins σ (upd H a o) { s with heap:=h',toks:=t' }:=I.un (Un.laid k hp (I.bL.fresh hp)) (I.bL.laid k hp new)
theorem Inv.write {x e:Addr} {o:HO} {t':Nat} (I:Inv X pins σ H s) (mu:N7 (H x)) (he:e = x\/H e = some (.own x)) (k:∀ b u,b ≠ e->s.heap.get? b = some u->h'.get? b = some u) (heo:∃ u,h'.get? e = some u)
  (new:d8 X.prog X.w (upd H x o) h' x o):Inv X pins σ (upd H x o) { s with heap:=h',toks:=t' }:=I.un (Un.write mu he k heo) (I.bL.write mu he k heo new)
theorem Inv.weak {σ':List (Option V)} (I:Inv X pins σ H s) (hl:σ'.length = σ.length) (w:∀ (i:Nat) v,σ'[i]? = some (some v)->σ[i]? = some (some v)):Inv X pins σ' H s :=
 ⟨I.ok,I.os,I.bare,I.base,let ⟨m,hn,hl'⟩:=I.loc;⟨m,hn,fun i x v e1 e2 e3=>hl' i x v e1 (w i v e2) e3⟩,I.cell,I.free,I.jE,I.pin,I.bL,hl.trans I.len⟩
theorem Inv.IV {pins':List (Addr × Obj)} (I:Inv X pins σ H s) (h:∀ p ∈ pins',s.heap.get? p.1 = some p.2/\H p.1 = none/\p.1 ≠ X.env.locals/\p.1 ∉ X.fs/\∀ v,p.2.data ≠ .cell v):Inv X pins' σ H s :=
 ⟨I.ok,I.os,I.bare,I.base,I.loc,I.cell,I.free,I.jE,fun p hp=>(List.mem_append.mp hp).elim (fun z=>I.pin p (List.mem_append_left _ z)) (h p),I.bL,I.len⟩
theorem zV {N:List Str} (hN:N.Nodup) {i j:Nat} {x:Str} (a:N[i]? = some x) (b:N[j]? = some x):i = j:=by
 obtain ⟨h1,e1⟩:=List.getElem?_eq_some_iff.mp a
 obtain ⟨h2,e2⟩:=List.getElem?_eq_some_iff.mp b
 exact (List.getElem_inj hN).mp (e1.trans e2.symm)
theorem JN {M:Model} {A:Around} {E:Value->Shared->Prop} {i:Nat} {x:Str} {v:V} {u:Value} {Q:Unit->Shared->Prop} (I:Inv X pins σ H s) (hN:X.N.Nodup) (hi:X.N[i]? = some x) (hx:Loc X.env.scope x) (r:RelV v u)
  (h:∀ s',Inv X pins (σ.set i (some v)) H s'->(∃ a,Heap.SameBut a s.heap s'.heap/\(a = X.env.locals\/X.env.cells.lookup x = some a))->Q () s') (hf:X.fn x = true\/X.env.scope.names.lookup x = some .local:=by first | exact .inl rfl | exact .inr rfl | assumption):wpAny M A (storeName X.env x u) Q E s:=by
 obtain ⟨m,hn,hl⟩:=id I.loc
 have hcls:(X.env.scope.kind == .class || (X.env.scope.kind == .module && X.env.locals != X.env.globals)) = false:=by rw [I.ok.kind];rfl
 have hiσ:i < σ.length:=by rw [I.len];exact (List.getElem?_eq_some_iff.mp hi).1
 have N9:=I.N9
 have tracked:∀ {a:Addr} {h':Heap},(∃ o,s.heap.get? a = some o/\H a = none)->Heap.SameBut a s.heap h'->qh X.prog X.w H h':=fun {a h'} ha hs b ob e=>by
  obtain ⟨_,_,hfree⟩:=ha
  refine (I.bL b ob e).vq (fun c w' hc q=>(hs.2 c ?_).trans q) (fun _ q=>q) fun _ _ q=>q
  rintro rfl
  rcases hc with rfl | hc
  ·rw [hfree] at e;cases e
  ·rw [hfree] at hc;cases hc
 rcases hx with hk | hk
 ·refine wpAny_storeName_local hk hn (fun h' hn' hs=>?_) hcls
  obtain ⟨oL,_,_,hoL,_⟩:=id hn
  refine h _ ⟨I.ok,I.os,I.bare,⟨fun b o e n hb hx=>?_,fun b o e n hb hx=>?_,I.base.free,fun b o e hx=>?_,I.base.wM,I.base.uB,I.base.wN⟩,⟨_,hn',fun j y v' e1 e2 e3=>?_⟩,fun y c e=>?_,I.free,I.jE,fun p hp=>?_,tracked ⟨oL,hoL,I.free⟩ hs,by simpa using I.len⟩ ⟨_,hs,.inl rfl⟩
  ·exact (hs.2 b (Nat.ne_of_lt (Nat.lt_of_lt_of_le (Heap.lt_size e) I.ok.above))).trans (I.base.keep b o e n hb hx)
  ·obtain ⟨sl,e1⟩:=I.base.slot b o e n hb hx
   exact ⟨sl,(hs.2 b (Nat.ne_of_lt (Nat.lt_of_lt_of_le (Heap.lt_size e) I.ok.above))).trans e1⟩
  ·obtain ⟨o',e1⟩:=I.base.there b o e hx
   exact ⟨o',(hs.2 b (Nat.ne_of_lt (Nat.lt_of_lt_of_le (Heap.lt_size e) I.ok.above))).trans e1⟩
  ·by_cases hj:j = i
   ·subst hj
    rw [hi] at e1;cases e1
    rw [List.getElem?_set_self hiσ] at e2
    cases e2
    exact ⟨u,r,.inl ⟨hk,by simp⟩⟩
   ·rw [List.getElem?_set_ne (Ne.symm hj)] at e2
    obtain ⟨u',r',q⟩:=hl j y v' e1 e2 e3
    refine ⟨u',r',?_⟩
    rcases q with ⟨k,e⟩ | ⟨k,c,e,z⟩
    ·refine .inl ⟨k,?_⟩
     have:y ≠ x:=fun e=>hj (zV hN e1 (e ▸ hi))
     simp [this,e]
    ·exact .inr ⟨k,c,e,z.sameBut hs (N9 y c e)⟩
  ·obtain ⟨w',z⟩:=I.cell y c e
   exact ⟨w',z.sameBut hs (N9 y c e)⟩
  ·obtain ⟨e,n,ne,nf,d⟩:=I.pin p hp
   exact ⟨(hs.2 p.1 ne).trans e,n,ne,nf,d⟩
 ·have hfn:X.fn x = true:=by
   rcases hf with z | z
   ·exact z
   ·rw [z] at hk;cases hk
  obtain ⟨c,hc⟩:=I.ok.has x (.inl hk)
  obtain ⟨w',z⟩:=I.cell x c hc
  refine wpAny_storeName_cell I.ok.kind hk hc z (fun h' hc' hs=>?_)
  obtain ⟨oc,hoc,hocd⟩:=id z
  refine h { s with heap:=h' } ⟨I.ok,I.os,I.bare,⟨fun b o e n hb hx=>?_,fun b o e n hb hx=>?_,I.base.free,fun b o e hx=>?_,I.base.wM,I.base.uB,I.base.wN⟩,⟨m,hn.sameBut hs (Ne.symm (N9 x c hc)),fun j y v' e1 e2 e3=>?_⟩,fun y c' e=>?_,I.free,I.jE,fun p hp=>?_,tracked ⟨oc,hoc,I.jE x c hc⟩ hs,by simpa using I.len⟩ ⟨c,hs,.inr hc⟩
  ·exact (hs.2 b (Nat.ne_of_lt (Nat.lt_of_lt_of_le (Heap.lt_size e) (I.ok.N8 x c hfn hc)))).trans (I.base.keep b o e n hb hx)
  ·obtain ⟨sl,e1⟩:=I.base.slot b o e n hb hx
   exact ⟨sl,(hs.2 b (Nat.ne_of_lt (Nat.lt_of_lt_of_le (Heap.lt_size e) (I.ok.N8 x c hfn hc)))).trans e1⟩
  ·obtain ⟨o',e1⟩:=I.base.there b o e hx
   exact ⟨o',(hs.2 b (Nat.ne_of_lt (Nat.lt_of_lt_of_le (Heap.lt_size e) (I.ok.N8 x c hfn hc)))).trans e1⟩
  ·by_cases hj:j = i
   ·subst hj
    rw [hi] at e1;cases e1
    rw [List.getElem?_set_self hiσ] at e2
    cases e2
    exact ⟨u,r,.inr ⟨.inl hk,c,hc,hc'⟩⟩
   ·rw [List.getElem?_set_ne (Ne.symm hj)] at e2
    obtain ⟨u',r',q⟩:=hl j y v' e1 e2 e3
    refine ⟨u',r',?_⟩
    rcases q with q | ⟨k,c',e,z'⟩
    ·exact .inl q
    ·refine .inr ⟨k,c',e,z'.sameBut hs ?_⟩
     rintro rfl
     exact hj (zV hN e1 (I.ok.inj _ _ _ e hc ▸ hi))
  ·by_cases hcc:c' = c
   ·subst hcc;exact ⟨_,hc'⟩
   ·obtain ⟨w2,z2⟩:=I.cell y c' e
    exact ⟨w2,z2.sameBut hs hcc⟩
  ·obtain ⟨e,n,ne,nf,d⟩:=I.pin p hp
   refine ⟨(hs.2 p.1 ?_).trans e,n,ne,nf,d⟩
   intro q
   rw [q,hoc] at e
   have q':oc = p.2:=Option.some.inj e
   exact d w' (by rw [←q'];exact hocd)
theorem zW {M:Model} {A:Around} {E:Value->Shared->Prop} {i:Nat} {x:Str} {v:V} {u:Value} {Q:Unit->Shared->Prop} (I:Inv X pins σ H s) (hN:X.N.Nodup) (hi:X.N[i]? = some x) (hx:Loc X.env.scope x) (r:RelV v u)
  (h:∀ s',Inv X pins (σ.set i (some v)) H s'->Q () s') (hf:X.fn x = true\/X.env.scope.names.lookup x = some .local:=by first | exact .inl rfl | exact .inr rfl | assumption):wpAny M A (storeName X.env x u) Q E s :=
 JN I hN hi hx r (fun s' I' _=>h s' I') hf
theorem Inv.call' {s':Shared} {ch:List Addr} (I:Inv X pins σ H s) (ho:s'.os = s.os) (u:Un (Bu X.stack) ch H H' s.heap s'.heap) (bL:qh X.prog X.w H' s'.heap) (hg:AllBare s'.gens)
  (hch:∀ b ∈ ch,(b ∈ X.ex\/X.vp.heap.objs.size<=b)/\b ≠ X.env.locals/\(∀ x c,X.env.cells.lookup x = some c->c ≠ b)/\∀ p ∈ X.pn ++ pins,p.1 ≠ b):Inv X pins σ H' s':=by
 obtain ⟨h',g',d',t',o'⟩:=s'
 have e:o' = s.os:=ho
 subst e
 exact I.call (g':=g') (t':=t') (d':=d') u bL hg hch
end
abbrev XK:=Value->Option Addr->Hp->Prop
abbrev St:=List (Option V)
abbrev VK:=V->Hp->Prop
abbrev TE:=St->Hp->VK->Prop
abbrev TT:=St->Hp->(Bool->Hp->Prop)->Prop
abbrev TA:=St->Hp->(List V->Hp->Prop)->Prop
structure Ends where
 nx:St->Hp->Prop
 rt:VK
 bk:St->Hp->Prop:=fun _ _=>False
 ct:St->Hp->Prop:=fun _ _=>False
abbrev TS:=Ends->St->Hp->Prop
noncomputable def EP (X:Cx) (pins:List (Addr × Obj)) (σ:St) (Q:VK) (u:Value) (s':Shared):Prop:=∃ v H',Inv X pins σ H' s'/\RelV v u/\Q v H'
noncomputable def TP (X:Cx) (pins:List (Addr × Obj)) (σ:St) (Q:Bool->Hp->Prop) (b:Bool) (s':Shared):Prop:=∃ H',Inv X pins σ H' s'/\Q b H'
noncomputable def AP (X:Cx) (pins:List (Addr × Obj)) (σ:St) (Q:List V->Hp->Prop) (us:List Value) (s':Shared):Prop:=∃ vs H',Inv X pins σ H' s'/\Vals vs us/\Q vs H'
noncomputable def SP (X:Cx) (pins:List (Addr × Obj)) (D:Ends) (f:Flow) (s':Shared):Prop :=
 match f with
 | .next=>∃ σ' H',Inv X pins σ' H' s'/\D.nx σ' H'
 | .brk=>∃ σ' H',Inv X pins σ' H' s'/\D.bk σ' H'
 | .cont=>∃ σ' H',Inv X pins σ' H' s'/\D.ct σ' H'
 | .ret u=>∃ v σ' H',Inv X pins σ' H' s'/\RelV v u/\D.rt v H'
noncomputable def PE (X:Cx) (e:Expr) (t:TE):Prop :=
 ∀ (pins:List (Addr × Obj)) (s:Shared) (σ:St) (H:Hp) (Q:VK),Inv X pins σ H s->t σ H Q->wpAny (model X.prog X.w) X.A (eval e X.env) (EP X pins σ Q) X.xe s
noncomputable def PT (X:Cx) (e:Expr) (t:TT):Prop :=
 ∀ (pins:List (Addr × Obj)) (s:Shared) (σ:St) (H:Hp) (Q:Bool->Hp->Prop),Inv X pins σ H s->t σ H Q->wpAny (model X.prog X.w) X.A (isTrue e X.env (eval e X.env)) (TP X pins σ Q) X.xe s
noncomputable def PW (X:Cx) (e:Expr) (t:TT):Prop :=
 ∀ (whole:Sem Value) (pins:List (Addr × Obj)) (s:Shared) (σ:St) (H:Hp) (Q:Bool->Hp->Prop),Inv X pins σ H s->t σ H Q->wpAny (model X.prog X.w) X.A (isTrue e X.env whole) (TP X pins σ Q) X.xe s
theorem PW.pt {X:Cx} {e:Expr} {t:TT} (h:PW X e t):PT X e t:=h _
noncomputable def PA (X:Cx) (es:List Expr) (t:TA):Prop :=
 ∀ (pos:Pos) (pins:List (Addr × Obj)) (s:Shared) (σ:St) (H:Hp) (Q:List V->Hp->Prop),Inv X pins σ H s->t σ H Q->wpAny (model X.prog X.w) X.A (spliced (backTo pos (starEach es X.env))) (AP X pins σ Q) X.xe s
noncomputable def PS (X:Cx) (st:Stmt) (t:TS):Prop :=
 ∀ (pins:List (Addr × Obj)) (s:Shared) (σ:St) (H:Hp) (D:Ends),Inv X pins σ H s->t D σ H->wpAny (model X.prog X.w) X.A (exec st X.env) (SP X pins D) X.xe s
noncomputable def Hn (X:Cx) (st:List Stmt) (t:TS):Prop :=
 ∀ (pins:List (Addr × Obj)) (s:Shared) (σ:St) (H:Hp) (D:Ends),Inv X pins σ H s->t D σ H->wpAny (model X.prog X.w) X.A (execs st X.env) (SP X pins D) X.xe s
theorem d9 {α:Type} {t:Sem α} {Q Q':α->Shared->Prop} {M:Model} {A:Around} {E:Value->Shared->Prop} {s:Shared} (h:wpAny M A t Q E s) (hQ:∀ a s,Q a s->Q' a s):wpAny M A t Q' E s:=wpAny_mono h hQ fun _ _ x=>x
end L2
namespace L2
open PySem PySem.Spec PyProof.Rows
section
variable {X:Cx}
noncomputable def Li (i:Nat):TE:=fun σ H Q=>∃ v,σ[i]? = some (some v)/\Q v H
noncomputable def tC (v:V):TE:=fun _ H Q=>Q v H
theorem OI {i:Nat} {x:Str} {pos:Pos} (hN:X.N[i]? = some x) (hv:Qp X.env.scope x) (hd:(x == ("__debug__" : Str)) = false:=by decide) (hcd:(x == ("__classdict__" : Str)) = false:=by decide):PE X (.Name x pos) (Li i):=by
 intro pins s σ H Q I h
 obtain ⟨v,e,h⟩:=h
 obtain ⟨m,hn,hl⟩:=I.loc
 obtain ⟨u,r,l⟩:=hl i x v hN e hv
 have fin:EP X pins σ Q u s:=⟨v,H,I,r,h⟩
 rcases l with ⟨hk,hm⟩ | ⟨hk,c,hc,hcell⟩
 ·exact wpAny_Name (wpAny_loadName_local I.ok.kind hk hn hm fin) hd
 ·rcases hk with hk | hk
  ·exact wpAny_Name (wpAny_loadName_cell I.ok.kind hk hc hcell fin) hd
  ·exact wpAny_Name (wpAny_loadName_free I.ok.kind hk hc hcell fin hcd) hd
theorem ao {i j pos}:PE X (.Constant (.int i) j pos) (tC (.int i)):=fun _ _ _ H _ I h=>wpAny_Constant_int ⟨.int i,H,I.tok _,⟨_,rfl⟩,h⟩
theorem rA {b j pos}:PE X (.Constant (.bool b) j pos) (tC (.bl b)):=fun _ _ _ H _ I h=>Constant_bool ⟨.bl b,H,I,rfl,h⟩
theorem OJ {j pos}:PE X (.Constant .none j pos) (tC .fR):=fun _ _ _ H _ I h=>Constant_none ⟨.fR,H,I,rfl,h⟩
theorem eY {x j pos}:PE X (.Constant (.str x) j pos) (tC (.str x)):=fun _ _ _ H _ I h=>Calls.Constant_str ⟨.str x,H,I.tok _,⟨_,rfl⟩,h⟩
noncomputable def Gl (X:Cx) (x:Str):Prop:=X.env.kindOf x = some .globalImplicit
theorem sR {E:Value->Shared->Prop} {pins:List (Addr × Obj)} {s:Shared} {σ:St} {H:Hp} {x:Str} {u:Value} {pos:Pos} {Q:Value->Shared->Prop} (I:Inv X pins σ H s) (hg:Gl X x) (hm:X.mg x = some u) (h:Q u s)
  (hd:(x == ("__debug__" : Str)) = false:=by decide):wpAny (model X.prog X.w) X.A (eval (.Name x pos) X.env) Q E s :=
 Calls.Name_function_global I.ok.kind hg (Calls.loadGlobal_global (by rw [I.ok.glob];exact I.mod.glob.keeps I.bk) hm h) hd
theorem qi {E:Value->Shared->Prop} {pins:List (Addr × Obj)} {s:Shared} {σ:St} {H:Hp} {x:Str} {u:Value} {pos:Pos} {Q:Value->Shared->Prop} (I:Inv X pins σ H s) (hg:Gl X x) (hm:X.mg x = none) (hv:bootBuiltins x = some u) (h:Q u s)
  (hn:x ≠ "__name__":=by decide) (hd:(x == ("__debug__" : Str)) = false:=by decide):wpAny (model X.prog X.w) X.A (eval (.Name x pos) X.env) Q E s:=by
 obtain ⟨mb,h1,h2⟩:=I.mod.blt
 exact Calls.Name_function_global I.ok.kind hg (Calls.loadGlobal_builtin (by rw [I.ok.glob];exact I.mod.glob.keeps I.bk) hm (by rw [I.ok.blt];exact h1.keeps I.bk) ((h2 x hn).trans hv) h) hd
theorem MB {x:Str} {v:V} {u:Value} {pos:Pos} (hg:Gl X x) (hm:X.mg x = some u) (r:RelV v u) (hd:(x == ("__debug__" : Str)) = false:=by decide):PE X (.Name x pos) (tC v) :=
 fun _ _ _ H _ I h=>sR I hg hm ⟨v,H,I,r,h⟩ hd
variable {a b:Expr} {ta tb:TE} {pos:Pos}
noncomputable def PC (X:Cx) (op:CmpOp) (a b:Expr) (t:TE):Prop :=
 ∀ (pins:List (Addr × Obj)) (s:Shared) (σ:St) (H:Hp) (Q:VK),Inv X pins σ H s->t σ H Q →
  wpAny (model X.prog X.w) X.A (eval a X.env) (fun v s₁=>wpAny (model X.prog X.w) X.A (eval b X.env) (fun u s₂=>wpAny (model X.prog X.w) X.A (compareOp op v u) (EP X pins σ Q) X.xe s₂) X.xe s₁) X.xe s
theorem Lj (b:Expr) {op:CmpOp} (h:op ≠ .In) (h2:op ≠ .NotIn):behindInMarks op b = false:=by
 have e1:(op == CmpOp.In) = false:=by cases op <;> first | rfl | exact absurd rfl h
 have e2:(op == CmpOp.NotIn) = false:=by cases op <;> first | rfl | exact absurd rfl h2
 cases b <;> simp [behindInMarks,e1,e2]
noncomputable def RH (ta:TE):TE:=fun σ H Q=>ta σ H fun x H1=>Q (.bl (decide (x = .fR))) H1
theorem RelV.Lk {x:V} {v:Value} (r:RelV x v):(v == Value.none) = decide (x = .fR):=by
 cases x with
 | fR=>cases r;rfl
 | bl _=>cases r;rfl
 | int _=>obtain ⟨t,rfl⟩:=r;rfl
 | str _=>obtain ⟨t,rfl⟩:=r;rfl
 | Bw _=>obtain ⟨t,rfl⟩:=r;rfl
 | Qo _=>obtain ⟨t,rfl⟩:=r;rfl
 | ref _=>cases r;rfl
 | ty _=>cases r;rfl
theorem Dc {j pos'} (ha:PE X a ta):PC X .Is a (.Constant .none j pos') (RH ta):=by
 intro pins s σ H Q I h
 refine d9 (ha pins s σ H _ I h) fun v s1 ⟨x,H1,I1,r1,q1⟩=>?_
 exact Constant_none (is_none_gen ⟨.bl _,H1,I1,by rw [r1.Lk];rfl,q1⟩)
noncomputable def tB (t:TE):TT:=fun σ H Q=>t σ H fun x H1=>∃ c,x = .bl c/\Q c H1
theorem qj {op:CmpOp} {t:TE} (h:PC X op a b t) (h1:behindInMarks op b = false:=by first | exact Lj _ (by decide) (by decide) | rfl):PT X (.Compare a [op] [b] pos) (tB t):=by
 intro pins s σ H Q I hw
 refine wpAny_isTrue_Compare1 (d9 (h pins s σ H _ I hw) fun v s1 h1=>d9 h1 fun u s2 h2=>d9 h2 fun c s3 ⟨x,H1,I1,r1,q1⟩=>?_) h1
 obtain ⟨d,rfl,q⟩:=q1
 cases r1
 exact wpAny_truthy_bool ⟨H1,I1,q⟩
variable {tA tB':TT} {rest:List Expr}
noncomputable def RI (t u:TT):TT:=fun σ H Q=>t σ H fun c H1=>if c = true then u σ H1 Q else Q false H1
noncomputable def SD (t u:TT):TT:=fun σ H Q=>t σ H fun c H1=>if c = true then Q true H1 else u σ H1 Q
noncomputable def RJ (t:TT):TT:=fun σ H Q=>t σ H fun c H1=>Q (!c) H1
theorem sS (ha:PT X a tA):PW X (.BoolOp .And [a] pos) tA:=by
 intro wh pins s σ H Q I h
 refine isTrue_and (d9 (ha pins s σ H Q I h) fun c s1 e=>?_)
 cases c with
 | true=>exact isTrue_and_nil e
 | false=>exact e
theorem uD (ha:PT X a tA):PW X (.BoolOp .Or [a] pos) tA:=by
 intro wh pins s σ H Q I h
 refine isTrue_or (d9 (ha pins s σ H Q I h) fun c s1 e=>?_)
 cases c with
 | false=>exact isTrue_or_nil e
 | true=>exact e
theorem uE (ha:PT X a tA) (hb:PW X (.BoolOp .And (b :: rest) pos) tB'):PW X (.BoolOp .And (a :: b :: rest) pos) (RI tA tB'):=by
 intro wh pins s σ H Q I h
 refine isTrue_and (d9 (ha pins s σ H _ I h) fun c s1 ⟨H1,I1,q1⟩=>?_)
 cases c with
 | true=>exact hb wh pins s1 σ H1 Q I1 q1
 | false=>exact ⟨H1,I1,q1⟩
theorem zX (ha:PT X a tA) (hb:PW X (.BoolOp .Or (b :: rest) pos) tB'):PW X (.BoolOp .Or (a :: b :: rest) pos) (SD tA tB'):=by
 intro wh pins s σ H Q I h
 refine isTrue_or (d9 (ha pins s σ H _ I h) fun c s1 ⟨H1,I1,q1⟩=>?_)
 cases c with
 | true=>exact ⟨H1,I1,q1⟩
 | false=>exact hb wh pins s1 σ H1 Q I1 q1
theorem rB (ha:PT X a tA):PT X (.UnaryOp .Not a pos) (RJ tA):=by
 intro pins s σ H Q I h
 exact isTrue_not (ha pins s σ H (fun c H1=>Q (!c) H1) I h)
noncomputable def Qq (ta tb:TE):TE:=fun σ H Q=>ta σ H fun x H1=>∃ c,x = .bl c/\if c = true then tb σ H1 Q else Q (.bl false) H1
noncomputable def Qr (ta tb:TE):TE:=fun σ H Q=>ta σ H fun x H1=>∃ c,x = .bl c/\if c = true then Q (.bl true) H1 else tb σ H1 Q
theorem Dd {op} {t:TE} (h:PE X a t):PE X (.BoolOp op [a] pos) t:=fun pins s σ H Q I hw=>BoolOp_one (h pins s σ H Q I hw)
theorem zY (ha:PE X a ta) (hb:PE X (.BoolOp .And (b :: rest) pos) tb):PE X (.BoolOp .And (a :: b :: rest) pos) (Qq ta tb):=by
 intro pins s σ H Q I h
 refine BoolOp_and (d9 (ha pins s σ H _ I h) fun v s1 ⟨x,H1,I1,r1,q1⟩=>?_)
 obtain ⟨c,rfl,q1⟩:=q1
 cases r1
 refine wpAny_truthy_bool ?_
 cases c with
 | true=>exact hb pins s1 σ H1 Q I1 q1
 | false=>exact ⟨.bl false,H1,I1,rfl,q1⟩
theorem Ll (ha:PE X a ta) (hb:PE X (.BoolOp .Or (b :: rest) pos) tb):PE X (.BoolOp .Or (a :: b :: rest) pos) (Qr ta tb):=by
 intro pins s σ H Q I h
 refine BoolOp_or (d9 (ha pins s σ H _ I h) fun v s1 ⟨x,H1,I1,r1,q1⟩=>?_)
 obtain ⟨c,rfl,q1⟩:=q1
 cases r1
 refine wpAny_truthy_bool ?_
 cases c with
 | false=>exact hb pins s1 σ H1 Q I1 q1
 | true=>exact ⟨.bl true,H1,I1,rfl,q1⟩
noncomputable def SX (t:TT) (ta tb:TE):TE:=fun σ H Q=>t σ H fun c H1=>if c = true then ta σ H1 Q else tb σ H1 Q
theorem Ff {c:Expr} (hc:PT X c tA) (ha:PE X a ta) (hb:PE X b tb):PE X (.IfExp c a b pos) (SX tA ta tb):=by
 intro pins s σ H Q I h
 refine wpAny_IfExp (d9 (hc pins s σ H _ I h) fun d s1 ⟨H1,I1,q1⟩=>?_)
 cases d with
 | true=>exact ha pins s1 σ H1 Q I1 q1
 | false=>exact hb pins s1 σ H1 Q I1 q1
end
end L2
namespace L2
open PySem PySem.Spec PyProof.Rows
noncomputable def dj (K:PySem.W.Frag) (H:Hp) (a:Addr) (xs:List V):Prop :=
 Rd H a (.lst xs) ∨
  ∃ (o:Obj) (its:Array Value) (n:Nat),K.lookup a = some o/\o.cls = .type "list"/\o.dict = none/\o.data = .seq its n/\its.size<=sizeLine/\Vals xs its.toList
noncomputable def yD (K:PySem.W.Frag) (H:Hp) (a:Addr) (xs:List V):Prop :=
 Rd H a (.tup xs) ∨
  ∃ (o:Obj) (its:Array Value) (n:Nat),K.lookup a = some o/\o.cls = .type "tuple"/\o.data = .seq its n/\its.size<=sizeLine/\Vals xs its.toList
noncomputable def RK:Value->Option V
 | .none=>some .fR
 | .bool b=>some (.bl b)
 | .int i _=>some (.int i)
 | .str x _=>some (.str x)
 | .bytes b _=>some (.Bw b)
 | .float b _=>some (.Qo b)
 | .ref a=>some (.ref a)
 | .type n=>some (.ty n)
 | _=>none
theorem RelV.abs {x:V} {u:Value} (r:RelV x u):RK u = some x:=by
 cases x with
 | fR=>cases r;rfl
 | bl _=>cases r;rfl
 | int _=>obtain ⟨t,rfl⟩:=r;rfl
 | str _=>obtain ⟨t,rfl⟩:=r;rfl
 | Bw _=>obtain ⟨t,rfl⟩:=r;rfl
 | Qo _=>obtain ⟨t,rfl⟩:=r;rfl
 | ref _=>cases r;rfl
 | ty _=>cases r;rfl
theorem RelV.inj {x y:V} {u:Value} (r:RelV x u) (q:RelV y u):x = y:=Option.some.inj (r.abs.symm.trans q.abs)
theorem Vals.inj:∀ {xs ys:List V} {us:List Value},Vals xs us->Vals ys us->xs = ys
 | _,_,_,.nil,.nil=>rfl
 | _,_,_,.cons r t,.cons r' t'=>by rw [r.inj r',Vals.inj t t']
section
variable {X:Cx} {pins:List (Addr × Obj)} {σ:St} {H:Hp} {s:Shared} {a:Addr} {xs ys:List V}
theorem dj.of {K:PySem.W.Frag} (h:H a = some (.lst xs)):dj K H a xs:=.inl (.inl h)
theorem yD.of {K:PySem.W.Frag} (h:H a = some (.tup xs)):yD K H a xs:=.inl (.inl h)
theorem Inv.list (I:Inv X pins σ H s) (h:dj X.K H a xs):∃ its:List Value,Vals xs its/\PlainL s.heap a its.toArray/\xs.length<=sizeLine:=by
 rcases h with h | ⟨o,its,n,hk,hc,hd,hs,hz,r⟩
 ·obtain ⟨z,its,n,r,e⟩:=h.ok I.bL
  exact ⟨its,r,⟨_,n,e,rfl,rfl,rfl⟩,z⟩
 ·refine ⟨its.toList,r,⟨o,n,I.yi a o hk,hc,hd,by simpa using hs⟩,?_⟩
  have e:=r.length
  simp only [Array.length_toList] at e
  omega
theorem Inv.tuple (I:Inv X pins σ H s) (h:yD X.K H a xs):∃ its:List Value,Vals xs its/\IsTup s.heap a its.toArray/\xs.length<=sizeLine:=by
 rcases h with h | ⟨o,its,n,hk,hc,hs,hz,r⟩
 ·obtain ⟨z,its,r,p⟩:=h.ok I.bL
  exact ⟨its,r,p,z⟩
 ·refine ⟨its.toList,r,⟨o,I.yi a o hk,hc,n,by simpa using hs⟩,?_⟩
  have e:=r.length
  simp only [Array.length_toList] at e
  omega
theorem Inv.Fg (I:Inv X pins σ H s) (h:dj X.K H a xs) (h':dj X.K H a ys):xs = ys:=by
 obtain ⟨its,r,⟨o,n,e,_,_,d⟩,_⟩:=I.list h
 obtain ⟨its',r',⟨o',n',e',_,_,d'⟩,_⟩:=I.list h'
 rw [e] at e';cases e'
 rw [d] at d'
 injection d' with d1 _
 have:its = its':=by simpa using congrArg Array.toList d1
 subst this
 exact r.inj r'
theorem Inv.JO (I:Inv X pins σ H s) (h:yD X.K H a xs) (h':yD X.K H a ys):xs = ys:=by
 obtain ⟨its,r,⟨o,e,_,n,d⟩,_⟩:=I.tuple h
 obtain ⟨its',r',⟨o',e',_,n',d'⟩,_⟩:=I.tuple h'
 rw [e] at e';cases e'
 rw [d] at d'
 injection d' with d1 _
 have:its = its':=by simpa using congrArg Array.toList d1
 subst this
 exact r.inj r'
end
abbrev Cx.Bx (X:Cx) (E:Value->Shared->Prop):Cx:={ X with xe:=E }
abbrev Cx.Rr (X:Cx):Cx:=X.Bx fun _ _=>False
theorem Cx.Ok.Bx {X:Cx} (ok:X.Ok) (E:Value->Shared->Prop):(X.Bx E).Ok :=
 ⟨ok.mod,ok.kind,ok.glob,ok.blt,ok.above,ok.inj,ok.has,ok.N8,ok.hd,ok.frames,ok.Fc,ok.OH,ok.bs,ok.Lf,ok.Fd,ok.Fe,ok.uC,ok.Mt⟩
theorem Cx.Ok.rC {X:Cx} {E:Value->Shared->Prop} (ok:(X.Bx E).Ok):X.Ok :=
 ⟨ok.mod,ok.kind,ok.glob,ok.blt,ok.above,ok.inj,ok.has,ok.N8,ok.hd,ok.frames,ok.Fc,ok.OH,ok.bs,ok.Lf,ok.Fd,ok.Fe,ok.uC,ok.Mt⟩
section
variable {X:Cx} {pins:List (Addr × Obj)} {σ:St} {H:Hp} {s:Shared} {E:Value->Shared->Prop}
theorem Inv.Bx (I:Inv X pins σ H s) (E:Value->Shared->Prop):Inv (X.Bx E) pins σ H s:=⟨I.ok.Bx E,I.os,I.bare,I.base,I.loc,I.cell,I.free,I.jE,I.pin,I.bL,I.len⟩
theorem Inv.rC (I:Inv (X.Bx E) pins σ H s):Inv X pins σ H s:=⟨I.ok.rC,I.os,I.bare,I.base,I.loc,I.cell,I.free,I.jE,I.pin,I.bL,I.len⟩
theorem SP.rC {D:Ends} {f:Flow} {s':Shared} (h:SP (X.Bx E) pins D f s'):SP X pins D f s':=by
 cases f with
 | next=>obtain ⟨σ',H',I,q⟩:=h;exact ⟨σ',H',I.rC,q⟩
 | brk=>obtain ⟨σ',H',I,q⟩:=h;exact ⟨σ',H',I.rC,q⟩
 | cont=>obtain ⟨σ',H',I,q⟩:=h;exact ⟨σ',H',I.rC,q⟩
 | ret u=>obtain ⟨v,σ',H',I,r,q⟩:=h;exact ⟨v,σ',H',I.rC,r,q⟩
theorem Hn.Rr {st:List Stmt} {t:TS} (h:Hn X.Rr st t):Hn X st t:=fun pins s σ H D I hw =>
 wpAny_mono (h pins s σ H D (I.Bx _) hw) (fun _ _ q=>q.rC) fun _ _ z=>False.elim z
end
section
variable {X:Cx} {st:Stmt} {rest:List Stmt} {t u:TS} {e:Expr} {te:TE} {pos:Pos}
noncomputable def Qs:TS:=fun D σ H=>D.nx σ H
noncomputable def RL (t u:TS):TS:=fun D σ H=>t { D with nx:=u D } σ H
theorem aC:Hn X [] Qs:=fun _ _ σ H _ I h=>wpAny_execs_nil ⟨σ,H,I,h⟩
theorem ae (h1:PS X st t) (h2:Hn X rest u):Hn X (st :: rest) (RL t u):=by
 intro pins s σ H D I h
 refine wpAny_execs_cons (d9 (h1 pins s σ H { D with nx:=u D } I h) fun f s1 q=>?_)
 cases f with
 | next =>
  obtain ⟨σ',H',I',q⟩:=q
  exact h2 pins s1 σ' H' D I' q
 | ret v=>exact q
 | brk=>exact q
 | cont=>exact q
theorem ah (h1:PS X st t):Hn X [st] t:=by
 intro pins s σ H D I h
 refine wpAny_execs_cons (d9 (h1 pins s σ H D I h) fun f s1 q=>?_)
 cases f with
 | next=>exact wpAny_execs_nil q
 | ret v=>exact q
 | brk=>exact q
 | cont=>exact q
theorem Inv.quiet {pins:List (Addr × Obj)} {σ:St} {H:Hp} {s:Shared} (I:Inv X pins σ H s):interactive X.env = false:=by simp [interactive,I.ok.kind]
noncomputable def Qt (te:TE):TS:=fun D σ H=>te σ H fun _ H1=>D.nx σ H1
theorem aJ (he:PE X e te) (hs:swapsWith e none pos.line X.env = pure false:=by rfl):PS X (.Expr e pos) (Qt te):=by
 intro pins s σ H D I h
 exact wpAny_Expr_any (d9 (he pins s σ H _ I h) fun v s1 ⟨x,H1,I1,r1,q1⟩=>⟨σ,H1,I1,q1⟩) I.quiet hs
noncomputable def RM (te:TE):TS:=fun D σ H=>te σ H D.rt
theorem aE (he:PE X e te):PS X (.Return (some e) pos) (RM te):=by
 intro pins s σ H D I h
 exact wpAny_Return_some (d9 (he pins s σ H _ I h) fun v s1 ⟨x,H1,I1,r1,q1⟩=>⟨x,σ,H1,I1,r1,q1⟩)
noncomputable def Qu:TS:=fun D _ H=>D.rt .fR H
theorem MC:PS X (.Return none pos) Qu:=fun _ _ σ H _ I h=>wpAny_Return_none ⟨.fR,σ,H,I,rfl,h⟩
noncomputable def RN (c:TT) (t u:TS):TS:=fun D σ H=>c σ H fun b H1=>if b = true then t D σ H1 else u D σ H1
theorem aY {c:Expr} {a b:List Stmt} {tc:TT} (hc:PT X c tc) (ha:Hn X a t) (hb:Hn X b u):PS X (.If c a b pos) (RN tc t u):=by
 intro pins s σ H D I h
 refine wpAny_If (d9 (hc pins s σ H _ I h) fun d s1 ⟨H1,I1,q1⟩=>?_)
 cases d with
 | true=>exact ha pins s1 σ H1 D I1 q1
 | false=>exact hb pins s1 σ H1 D I1 q1
end
abbrev TG:=V->St->Hp->(St->Hp->Prop)->Prop
abbrev OK:=List V->St->Hp->(St->Hp->Prop)->Prop
noncomputable def PG (X:Cx) (target:Expr) (t:TG):Prop :=
 ∀ (pins:List (Addr × Obj)) (s:Shared) (σ:St) (H:Hp) (v:V) (u:Value) (Q:St->Hp->Prop),Inv X pins σ H s->RelV v u->t v σ H Q →
  wpAny (model X.prog X.w) X.A (assign target X.env u) (fun _ s'=>∃ σ' H',Inv X pins σ' H' s'/\Q σ' H') X.xe s
noncomputable def Rt (X:Cx) (ts:List Expr) (t:OK):Prop :=
 ∀ (pins:List (Addr × Obj)) (s:Shared) (σ:St) (H:Hp) (vs:List V) (us:List Value) (Q:St->Hp->Prop),Inv X pins σ H s->Vals vs us->t vs σ H Q →
  wpAny (model X.prog X.w) X.A (assignInOrder ((assignEach ts X.env).map (·.2)) us) (fun _ s'=>∃ σ' H',Inv X pins σ' H' s'/\Q σ' H') X.xe s
section
variable {X:Cx} {pos:Pos}
noncomputable def IW (i:Nat):TG:=fun v σ H Q=>Q (σ.set i (some v)) H
theorem d7 {i:Nat} {x:Str} (hN:X.N.Nodup) (hi:X.N[i]? = some x) (hx:Loc X.env.scope x) (hf:X.fn x = true\/X.env.scope.names.lookup x = some .local:=by first | exact .inl rfl | exact .inr rfl | assumption):PG X (.Name x pos) (IW i):=by
 intro pins s σ H v u Q I r h
 exact wpAny_assign_Name (zW I hN hi hx r (fun s' I'=>⟨_,H,I',h⟩) hf)
noncomputable def Qv:OK:=fun vs σ H Q=>vs = []/\Q σ H
noncomputable def Lm (t:TG) (u:OK):OK:=fun vs σ H Q=>∃ v r,vs = v :: r/\t v σ H fun σ' H'=>u r σ' H' Q
theorem De:Rt X [] Qv:=by
 intro pins s σ H vs us Q I r h
 obtain ⟨e,h⟩:=h
 subst e
 cases r
 exact assignInOrder_nil ⟨σ,H,I,h⟩
theorem pE {e:Expr} {es:List Expr} {t:TG} {u:OK} (h1:PG X e t) (h2:Rt X es u)
  (hs:(assignEach (e :: es) X.env).map (·.2) = assign e X.env :: (assignEach es X.env).map (·.2):=by rfl):Rt X (e :: es) (Lm t u):=by
 intro pins s σ H vs us Q I r h
 obtain ⟨v,vr,e1,h⟩:=h
 subst e1
 cases r with
 | cons r rr =>
  rw [hs]
  refine assignInOrder_cons (d9 (h1 pins s σ H _ _ _ I r h) fun _ s1 ⟨σ1,H1,I1,q1⟩=>?_)
  exact h2 pins s1 σ1 H1 _ _ Q I1 rr q1
noncomputable def Qw (K:PySem.W.Frag) (n:Nat) (t:OK):TG:=fun v σ H Q=>∃ a xs,v = .ref a/\yD K H a xs/\xs.length = n/\t xs σ H Q
theorem Ht {es:List Expr} {k:Nat} {t:OK} {n:Nat} (hc:X.calm = true) (h:Rt X es t)
  (hn:(assignEach es X.env).length = n:=by rfl) (hst:(assignEach es X.env).findIdx? (·.1) = none:=by rfl):PG X (.Tuple es k pos) (Qw X.K n t):=by
 intro pins s σ H v u Q I r hw
 obtain ⟨a,xs,e1,hq,hl,hw⟩:=hw
 subst e1
 cases r
 obtain ⟨its,rv,ht,hz⟩:=I.tuple hq
 refine assign_Tuple_tuple (I.ok.hd hc) ht (by simp [hn,←hl,rv.length]) hst fun h' hx=>?_
 have I1:Inv X pins σ H { s with heap:=h' }:=I.kept (t':=s.toks) fun b o e=>hx b o (Nat.ne_of_lt (Heap.lt_size e)) e
 exact h pins _ σ H xs _ Q I1 (by simpa using rv) hw
noncomputable def RO (te:TE) (g:TG):TS:=fun D σ H=>te σ H fun x H1=>g x σ H1 D.nx
theorem aR {i:Nat} {x:Str} {e:Expr} {te:TE} {pos':Pos} (hN:X.N.Nodup) (hi:X.N[i]? = some x) (hx:Loc X.env.scope x) (he:PE X e te) (hs:swapsWith e (some (.Name x pos')) pos.line X.env = pure false:=by rfl) (hf:X.fn x = true\/X.env.scope.names.lookup x = some .local:=by first | exact .inl rfl | exact .inr rfl | assumption) :
  PS X (.Assign [.Name x pos'] e pos) (RO te (IW i)):=by
 intro pins s σ H D I h
 refine wpAny_Assign_Name (d9 (he pins s σ H _ I h) fun v s1 ⟨y,H1,I1,r1,q1⟩=>?_) hs
 exact zW I1 hN hi hx r1 (fun s2 I2=>⟨_,H1,I2,q1⟩) hf
end
section
variable {X:Cx} {pos:Pos}
noncomputable def OL (c:TT) (tb:TS):TS:=fun D σ H=>∃ W:Nat->St->Hp->Prop,(∃ m,W m σ H)/\∀ m σ H,W m σ H →
 c σ H fun b H1=>if b = true then ∃ N:St->Hp->Prop,(∀ σ' H',N σ' H'->∃ m',m' < m/\W m' σ' H')/\tb { D with nx:=N,ct:=N,bk:=D.nx } σ H1 else D.nx σ H1
theorem zZ {c:Expr} {body:List Stmt} {tc:TT} {tb:TS} (hp:PassesOwn (model X.prog X.w) X.A X.env X.xe) (hc:PT X c tc) (hb:Hn X body tb):PS X (.While c body [] pos) (OL tc tb):=by
 intro pins s σ H D I h
 obtain ⟨W,⟨m0,w0⟩,turn⟩:=h
 refine wpAny_While (codeAny_whileLoop (fun n s'=>∃ σ' H',Inv X pins σ' H' s'/\W n σ' H') ?_ m0 ⟨σ,H,I,w0⟩)
 rintro n s1 ⟨σ1,H1,I1,w1⟩
 refine wpAny_passesOwn hp (d9 (hc pins s1 σ1 H1 _ I1 (turn n σ1 H1 w1)) fun b s2 ⟨H2,I2,q2⟩=>?_)
 cases b with
 | true =>
  obtain ⟨N,hN,q2⟩:=q2
  rw [if_pos rfl]
  refine wpAny_passesOwn hp (d9 (hb pins s2 σ1 H2 _ I2 q2) fun f s3 q3=>?_)
  cases f with
  | next =>
   obtain ⟨σ3,H3,I3,n3⟩:=q3
   obtain ⟨m',hm,w3⟩:=hN σ3 H3 n3
   exact ⟨m',hm,σ3,H3,I3,w3⟩
  | cont =>
   obtain ⟨σ3,H3,I3,n3⟩:=q3
   obtain ⟨m',hm,w3⟩:=hN σ3 H3 n3
   exact ⟨m',hm,σ3,H3,I3,w3⟩
  | brk=>exact q3
  | ret v=>exact q3
 | false =>
  rw [if_neg Bool.false_ne_true]
  exact wpAny_execs_nil ⟨σ1,H2,I2,q2⟩
end
structure It where
 go:Nat->Hp->Prop
 Mu:Nat->Hp->V->Hp->Prop
 stop:Nat->Hp->Prop
noncomputable def z8 (X:Cx) (pins:List (Addr × Obj)) (H:Hp) (b:Addr):Prop :=
 H b = none/\b ≠ X.env.locals/\b ∉ X.fs/\(b ∈ X.ex\/X.vp.heap.objs.size<=b)/\(∀ x c,X.env.cells.lookup x = some c->c ≠ b)/\∀ p ∈ X.pn ++ pins,p.1 ≠ b
theorem Inv.Ln {X:Cx} {pins:List (Addr × Obj)} {σ:St} {H H':Hp} {s:Shared} {b:Addr} (I:Inv X pins σ H s) (hb:s.heap.objs.size<=b) (hn:H' b = none):z8 X pins H' b:=by
 refine ⟨hn,Nat.ne_of_gt (Nat.lt_of_lt_of_le I.lt hb),I.RG hb,.inr (Nat.le_trans I.sz hb),fun x c e z=>?_,fun p hp z=>?_⟩
 ·obtain ⟨v,q⟩:=I.cell x c e
  exact absurd (Nat.lt_of_lt_of_le q.lt (by rw [z];exact hb)) (Nat.lt_irrefl _)
 ·exact absurd (Nat.lt_of_lt_of_le (Heap.lt_size (I.pin p hp).1) (by rw [z];exact hb)) (Nat.lt_irrefl _)
structure Turn (P:Program) (w:World) (K:PySem.W.Frag) (tg:Expr) (J:It) (fp:List Addr) (it:Addr) (tn:Nat->Heap->Prop):Prop where
 mem:it ∈ fp
 obj:∀ i h,tn i h->∀ b ∈ fp,∃ o,h.get? b = some o/\∀ v,o.data ≠ .cell v
 keep:∀ i h h',tn i h->(∀ b ∈ fp,∀ o,h.get? b = some o->h'.get? b = some o)->tn i h'
 item:∀ (X:Cx),X.prog = P->X.w = w->X.K = K->X.calm = true->∀ (i:Nat) (pins:List (Addr × Obj)) (s:Shared) (σ:St) (H:Hp) (E:Value->Shared->Prop),Inv X pins σ H s->(∀ b ∈ fp,z8 X pins H b)->tn i s.heap->J.go i H →
  wpAny (model P w) X.A (pyNext (.ref it)) (fun r s1=>∃ u,r = some u ∧
   wpAny (model P w) X.A (letOwnedTupleGo tg (.ref it) u) (fun _ s2=>∃ x H',Inv X pins σ H' s2/\RelV x u/\J.Mu i H x H'/\tn (i + 1) s2.heap/\∀ b ∈ fp,H' b = none) E s1) E s
 done:∀ (X:Cx),X.prog = P->X.w = w->X.K = K->X.calm = true->∀ (i:Nat) (pins:List (Addr × Obj)) (s:Shared) (σ:St) (H:Hp) (E:Value->Shared->Prop),Inv X pins σ H s->(∀ b ∈ fp,z8 X pins H b)->tn i s.heap->J.stop i H →
  wpAny (model P w) X.A (pyNext (.ref it)) (fun r s1=>r = none/\Inv X pins σ H s1) E s
 self:∀ (A:Around) (i:Nat) (s:Shared) (Q:Value->Shared->Prop) (E:Value->Shared->Prop),tn i s.heap->Q (.ref it) s->wpAny (model P w) A (pyIter (.ref it)) Q E s
abbrev TI:=St->Hp->(It->Hp->Prop)->Prop
noncomputable def SE (X:Cx) (pins:List (Addr × Obj)) (σ:St) (tg:Expr) (R:It->Hp->Prop) (itv:Value) (s2:Shared):Prop :=
 ∃ (it:Addr) (fp:List Addr) (tn:Nat->Heap->Prop) (J:It) (H':Hp),itv = .ref it/\Inv X pins σ H' s2/\Turn X.prog X.w X.K tg J fp it tn/\tn 0 s2.heap/\(∀ b ∈ fp,z8 X pins H' b)/\R J H'
noncomputable def PI (X:Cx) (tg iter:Expr) (wi:TI):Prop :=
 ∀ (pins:List (Addr × Obj)) (s:Shared) (σ:St) (H:Hp) (R:It->Hp->Prop),Inv X pins σ H s->wi σ H R →
  wpAny (model X.prog X.w) X.A (eval iter X.env) (fun v s1=>wpAny (model X.prog X.w) X.A (pyIter v) (SE X pins σ tg R) X.xe s1) X.xe s
theorem Oa {M:Model} {A:Around} {E:Value->Shared->Prop} {s:Shared} {tg:Expr} {it:Addr} {u:Value} {o:Obj} {n:String} {vs:Array Value} {Q:Unit->Shared->Prop} (ho:s.heap.get? it = some o) (hc:o.cls = .type n) (hd:o.data = .fields vs)
    (hn:["enumerate","zip","dict_itemiterator","dict_reverseitemiterator","odict_iterator","itertools.zip_longest","itertools.pairwise"].contains n = false) (hQ:Q () s):wpAny M A (letOwnedTupleGo tg (.ref it) u) Q E s:=by
  unfold letOwnedTupleGo
  cases tg <;> first
    | exact wpAny_pure hQ
    | (cases u <;> first
        | exact wpAny_pure hQ
        | (refine wpAny_bind (wpAny_load ho ?_)
           rw [hc,hd]
           show wpAny M A (if (["enumerate","zip","dict_itemiterator","dict_reverseitemiterator","odict_iterator","itertools.zip_longest","itertools.pairwise"].contains n && vs[0]? == some (rawInt _)) = true then _ else _) Q E s
           rw [if_neg (by intro h;rw [hn,Bool.false_and] at h;cases h)]
           exact wpAny_pure hQ))
noncomputable def Ob (K:PySem.W.Frag) (a:Addr):It :=
 ⟨fun i H=>∃ xs x,dj K H a xs/\xs[i]? = some x,fun i H x H'=>H' = H/\∀ xs,dj K H a xs->xs[i]? = some x,fun i H=>∃ xs,dj K H a xs/\xs.length<=i⟩
noncomputable def OM (lo:Int) (n:Nat):It:=⟨fun i _=>i < n,fun i H x H'=>H' = H/\x = .int (lo + i),fun i _=>n<=i⟩
theorem JP {P:Program} {w:World} {K:PySem.W.Frag} {tg:Expr} (a it:Addr):Turn P w K tg (Ob K a) [it] it (fun i h=>h.IsListIter it a i) where
 mem:=by simp
 obj:=fun i h st b hb=>by
  have e:b = it:=by simpa using hb
  subst e
  obtain ⟨o,e,c,d⟩:=st
  exact ⟨o,e,fun v z=>by rw [d] at z;cases z⟩
 keep:=fun i h h' st k=>st.at fun o e=>k it (by simp) o e
 item:=by
  intro X hP hw hK hc i pins s σ H E I hf st hg
  subst hP hw hK
  obtain ⟨xs,x,hq,hx⟩:=hg
  obtain ⟨its,rv,p,hz⟩:=I.list hq
  obtain ⟨u,hu,ru⟩:=rv.get hx
  obtain ⟨f0,f1,f2,f3,f4,f5⟩:=hf it (by simp)
  refine wpAny_pyNext_list_item st p.isList (x:=u) (by simpa using hu) fun h' st' sb=>?_
  have I1:Inv X pins σ H { s with heap:=h' }:=I.turned (t':=s.toks) (fun b o hb e=>(sb.2 b hb).trans e) f0 f1 f3 f4 f5
  obtain ⟨o,e,c,d⟩:=id st'
  exact ⟨u,rfl,Oa (s:={ s with heap:=h' }) e c d (by decide) ⟨x,H,I1,ru,⟨rfl,fun ys hy=>by rw [I.Fg hy hq];exact hx⟩,st',fun b hb=>(hf b hb).1⟩⟩
 done:=by
  intro X hP hw hK hc i pins s σ H E I hf st hg
  subst hP hw hK
  obtain ⟨xs,hq,hx⟩:=hg
  obtain ⟨its,rv,p,hz⟩:=I.list hq
  obtain ⟨f0,f1,f2,f3,f4,f5⟩:=hf it (by simp)
  have hl:=rv.length
  exact wpAny_pyNext_list_end (I.ok.hd hc) st p.isList (by simp;omega) fun h' eb=>⟨rfl,I.turned (t':=s.toks) (fun b o hb e=>eb b o hb e) f0 f1 f3 f4 f5⟩
 self:=fun _ _ _ _ _ st h=>wpAny_pyIter_listiter st h
theorem Hu {P:Program} {w:World} {K:PySem.W.Frag} {tg:Expr} (it:Addr) (lo:Int) (n:Nat):Turn P w K tg (OM lo n) [it] it (fun i h=>IsRangeIter h it (lo + (i:Nat) * 1) ((n:Int) - (i:Nat)) 1) where
 mem:=by simp
 obj:=fun i h st b hb=>by
  have e:b = it:=by simpa using hb
  subst e
  exact ⟨_,st,fun v z=>by
   have z':Data.fields _ = Data.cell v:=z
   cases z'⟩
 keep:=fun i h h' st k=>k it (by simp) _ st
 item:=by
  intro X hP hw hK hc i pins s σ H E I hf st hg
  subst hP hw hK
  obtain ⟨f0,f1,f2,f3,f4,f5⟩:=hf it (by simp)
  have W:=Walks.range (prog:=X.prog) (w:=X.w) (I.ok.hd hc) it lo 1 n
  refine W.item i s _ _ hg st fun v h' tk hv st' kk=>?_
  obtain ⟨t,rfl⟩:=hv
  have I1:Inv X pins σ H { s with heap:=h',toks:=tk }:=I.turned (fun b o hb e=>kk b o (by simpa using hb) e) f0 f1 f3 f4 f5
  refine ⟨_,rfl,Oa (s:={ s with heap:=h',toks:=tk }) (n:="range_iterator") st' rfl rfl (by decide) ⟨.int (lo + i),H,I1,⟨t,?_⟩,⟨rfl,rfl⟩,st',fun b hb=>(hf b hb).1⟩⟩
  rw [Int.mul_one]
 done:=by
  intro X hP hw hK hc i pins s σ H E I hf st hg
  subst hP hw hK
  obtain ⟨f0,f1,f2,f3,f4,f5⟩:=hf it (by simp)
  exact wpAny_pyNext_range_end (I.ok.hd hc) st (by have:n<=i:=hg;omega) fun h' eb=>⟨rfl,I.turned (t':=s.toks) (fun b o hb e=>eb b o hb e) f0 f1 f3 f4 f5⟩
 self:=fun _ _ _ _ _ st h=>wpAny_pyIter_rangeiter st h
end L2
namespace L2
open PySem PySem.Spec PyProof.Rows
section
variable {X:Cx} {tg:Expr}
noncomputable def Qx (K:PySem.W.Frag) (tl:TE):TI:=fun σ H R=>tl σ H fun x H1=>∃ a,x = .ref a/\(∃ xs,dj K H1 a xs)/\R (Ob K a) H1
theorem sT {l:Expr} {tl:TE} (hl:PE X l tl):PI X tg l (Qx X.K tl):=by
 intro pins s σ H R I h
 refine d9 (hl pins s σ H _ I h) fun v s1 ⟨x,H1,I1,r1,q1⟩=>?_
 obtain ⟨a,e,⟨xs,hq⟩,q⟩:=q1
 subst e
 cases r1
 obtain ⟨its,rv,p,hz⟩:=I1.list hq
 refine wpAny_pyIter_list p.isList ?_
 refine ⟨s1.heap.objs.size,[s1.heap.objs.size],_,_,H1,rfl,I1.kept (t':=s1.toks) fun b o e=>Heap.get?_push_of_some _ e,JP a _,⟨_,Heap.get?_push_size _ rfl,rfl,rfl⟩,fun b hb=>?_,q⟩
 have e:b = s1.heap.objs.size:=by simpa using hb
 subst e
 exact I1.Ln (Nat.le_refl _) (I1.bL.fresh (Nat.le_refl _))
theorem Fh {pins:List (Addr × Obj)} {σ:St} {H:Hp} {s:Shared} {R:It->Hp->Prop} {E:Value->Shared->Prop} {lo hi:Int} {t u v:Tok} {tk:Nat} (I:Inv X pins σ H s) (h1:-(2 ^ 62)<=lo) (h2:lo < 2 ^ 62) (h3:-(2 ^ 62)<=hi) (h4:hi < 2 ^ 62)
  (q:R (OM lo (hi - lo).toNat) H):wpAny (model X.prog X.w) X.A (pyIter (.ref s.heap.objs.size)) (SE X pins σ tg R) E { s with heap:=s.heap.push { cls:=.type "range",data:=.fields #[.int lo t,.int hi u,.int 1 v] },toks:=tk }:=by
 refine wpAny_pyIter_range (IsRange.new ..) (small_one h1 h2 h3 h4) ?_
 have I1:Inv X pins σ H { s with heap:=s.heap.push { cls:=.type "range",data:=.fields #[.int lo t,.int hi u,.int 1 v] },toks:=tk }:=I.kept fun b o e=>Heap.get?_push_of_some _ e
 refine ⟨(s.heap.push { cls:=.type "range",data:=.fields #[.int lo t,.int hi u,.int 1 v] }).objs.size,[(s.heap.push { cls:=.type "range",data:=.fields #[.int lo t,.int hi u,.int 1 v] }).objs.size],_,_,H,rfl,
  I1.kept (t':=tk) fun b o e=>Heap.get?_push_of_some _ e,Hu _ lo (hi - lo).toNat,?_,fun b hb=>?_,q⟩
 ·have e1:lo + ((0:Nat):Int) * 1 = lo:=by simp
  have e2:(((hi - lo).toNat:Nat):Int) - ((0:Nat):Int) = Builtin.Range.rangeSize lo hi 1:=by rw [rangeSize_one];split <;> omega
  show IsRangeIter _ _ (lo + ((0:Nat):Int) * 1) ((((hi - lo).toNat:Nat):Int) - ((0:Nat):Int)) 1
  rw [e1,e2]
  exact Heap.get?_push_size _ rfl
 ·have e:b = (s.heap.push { cls:=.type "range",data:=.fields #[.int lo t,.int hi u,.int 1 v] }).objs.size:=by simpa using hb
  subst e
  exact I1.Ln (Nat.le_refl _) (I1.bL.fresh (Nat.le_refl _))
noncomputable def Qy (ta:TA):TI:=fun σ H R=>ta σ H fun vs H1=>∃ j:Int,vs = [.int j]/\-(2 ^ 62)<=j/\j < 2 ^ 62/\R (OM 0 j.toNat) H1
noncomputable def Qz (ta:TA):TI:=fun σ H R=>ta σ H fun vs H1=>∃ i j:Int,vs = [.int i,.int j]/\(-(2 ^ 62)<=i/\i < 2 ^ 62/\-(2 ^ 62)<=j/\j < 2 ^ 62)/\R (OM i (j - i).toNat) H1
theorem wO {a:Expr} {ta:TA} {p pos:Pos} (hg:Gl X "range") (hm:X.mg "range" = none) (ha:PA X [a] ta) (hs:starEach [a] X.env = [(false,eval a X.env)]:=by rfl):PI X tg (.Call (.Name "range" p) [a] [] pos) (Qy ta):=by
 intro pins s σ H R I h
 refine Call_ (qi I hg hm boot_range (PyProof.Rows.callWith_type1 (d9 (ha pos pins s σ H _ I h) fun us s1 ⟨vs,H1,I1,r1,q1⟩=>?_) hs rfl))
 obtain ⟨j,e,q1,q2,q⟩:=q1
 subst e
 cases r1 with
 | cons r rr =>
  cases rr
  obtain ⟨t,rfl⟩:=r
  exact call_range_1 (Fh I1 (by omega) (by omega) q1 q2 (by simpa using q))
theorem wQ {a b:Expr} {ta:TA} {p pos:Pos} (hg:Gl X "range") (hm:X.mg "range" = none) (ha:PA X [a,b] ta) (hs:starEach [a,b] X.env = [(false,eval a X.env),(false,eval b X.env)]:=by rfl) (hs2:starEach [b] X.env = [(false,eval b X.env)]:=by rfl) :
  PI X tg (.Call (.Name "range" p) [a,b] [] pos) (Qz ta):=by
 intro pins s σ H R I h
 refine Call_ (qi I hg hm boot_range (PyProof.Rows.callWith_type1 (d9 (ha pos pins s σ H _ I h) fun us s1 ⟨vs,H1,I1,r1,q1⟩=>?_) (by rw [hs,hs2]) (by rw [hs2];rfl)))
 obtain ⟨i,j,e,⟨q1,q2,q3,q4⟩,q⟩:=q1
 subst e
 cases r1 with
 | cons r rr =>
  cases rr with
  | cons r' rr =>
   cases rr
   obtain ⟨t,rfl⟩:=r
   obtain ⟨t',rfl⟩:=r'
   exact call_range_2 (Fh I1 q1 q2 q3 q4 q)
noncomputable def RP (wi:TI) (g:TG) (tb:TS):TS:=fun D σ H=>wi σ H fun J H1=>∃ W:Nat->Nat->St->Hp->Prop,(∃ m,W 0 m σ H1)/\∀ i m σ H,W i m σ H →
 (J.stop i H/\D.nx σ H)\/(J.go i H/\∃ N:St->Hp->Prop,(∀ σ' H',N σ' H'->∃ m',m' < m/\W (i + 1) m' σ' H')/\∀ x H',J.Mu i H x H'->g x σ H' fun σ2 H2=>tb { D with nx:=N,ct:=N,bk:=D.nx } σ2 H2)
noncomputable def z9 (fp:List Addr) (h:Heap):List (Addr × Obj):=fp.filterMap fun b=>(h.get? b).map fun o=>(b,o)
theorem uF {fp:List Addr} {h:Heap} {b:Addr} {o:Obj} (hb:b ∈ fp) (e:h.get? b = some o):(b,o) ∈ z9 fp h:=List.mem_filterMap.mpr ⟨b,hb,by rw [e];rfl⟩
theorem JQ {fp:List Addr} {h:Heap} {p:Addr × Obj} (hp:p ∈ z9 fp h):p.1 ∈ fp/\h.get? p.1 = some p.2:=by
 obtain ⟨b,hb,e⟩:=List.mem_filterMap.mp hp
 cases q:h.get? b with
 | none=>rw [q] at e;cases e
 | some o =>
  rw [q] at e
  have e':(b,o) = p:=Option.some.inj e
  subst e'
  exact ⟨hb,q⟩
theorem Inv.pinned {pins:List (Addr × Obj)} {σ:St} {H:Hp} {s:Shared} {fp:List Addr} (I:Inv X pins σ H s) (hf:∀ b ∈ fp,z8 X pins H b) (ho:∀ b ∈ fp,∃ o,s.heap.get? b = some o/\∀ v,o.data ≠ .cell v):Inv X (pins ++ z9 fp s.heap) σ H s :=
 I.IV fun p hp=>(List.mem_append.mp hp).elim (fun z=>I.pin p (List.mem_append_right _ z)) fun z=>by
  obtain ⟨hb,e⟩:=JQ z
  obtain ⟨f0,f1,f2,_⟩:=hf p.1 hb
  obtain ⟨o,e',d⟩:=ho p.1 hb
  rw [e] at e';cases e'
  exact ⟨e,f0,f1,f2,d⟩
theorem Inv.vt {pins pl:List (Addr × Obj)} {σ:St} {H:Hp} {s:Shared} (I:Inv X (pins ++ pl) σ H s):Inv X pins σ H s:=I.IV fun p hp=>I.pin p (List.mem_append_right _ (List.mem_append_left _ hp))
theorem qk {iter:Expr} {body:List Stmt} {wi:TI} {g:TG} {tb:TS} {pos:Pos} (hp:PassesOwn (model X.prog X.w) X.A X.env X.xe) (hc:X.calm = true) (hi:PI X tg iter wi) (hg:PG X tg g) (hb:Hn X body tb)
  (hs:∀ x,foldedSetIterable iter X.env x = pure x:=by intro _;rfl):PS X (.For tg iter body [] pos) (RP wi g tb):=by
 intro pins s σ H D I h
 refine wpAny_For (d9 (hi pins s σ H _ I h) fun v s1 h1=>d9 h1 fun itv s2 h2=>?_) hs
 obtain ⟨it,fp,tn,J,H2,e,I2,T,st2,f2,W,⟨m0,w0⟩,turn⟩:=h2
 subst e
 have stat:∀ {H':Hp},(∀ b ∈ fp,H' b = none)->∀ b ∈ fp,z8 X pins H' b:=fun hn b hb=>⟨hn b hb,(f2 b hb).2⟩
 refine codeAny_forLoop_any (fun n s'=>∃ i σ' H',Inv X pins σ' H' s'/\tn i s'.heap/\(∀ b ∈ fp,H' b = none)/\W i n σ' H') ?_ m0 ⟨0,σ,H2,I2,st2,fun b hb=>(f2 b hb).1,w0⟩
 rintro n s3 ⟨i,σ3,H3,I3,st3,fr3,w3⟩
 rcases turn i n σ3 H3 w3 with ⟨stop,qn⟩ | ⟨go,N,hN,step⟩
 ·refine wpAny_passesOwn hp (d9 (T.done X rfl rfl rfl hc i pins s3 σ3 H3 X.xe I3 (stat fr3) st3 stop) fun r s4 ⟨hr,I4⟩=>?_)
  subst hr
  exact wpAny_execs_nil ⟨σ3,H3,I4,qn⟩
 ·refine wpAny_passesOwn hp (d9 (T.item X rfl rfl rfl hc i pins s3 σ3 H3 X.xe I3 (stat fr3) st3 go) fun r s4 ⟨u,hr,h4⟩=>?_)
  subst hr
  refine wpAny_passesOwn hp (d9 h4 fun _ s5 ⟨x,H5,I5,r5,y5,st5,fr5⟩=>?_)
  have I5':=I5.pinned (stat fr5) (T.obj _ _ st5)
  refine wpAny_passesOwn hp (d9 (hg _ s5 σ3 H5 x u _ I5' r5 (step x H5 y5)) fun _ s6 ⟨σ6,H6,I6,q6⟩=>?_)
  refine wpAny_passesOwn hp (d9 (hb _ s6 σ6 H6 _ I6 q6) fun f s7 q7=>?_)
  have again:∀ {σ7:St} {H7:Hp},Inv X (pins ++ z9 fp s5.heap) σ7 H7 s7->N σ7 H7->∃ m,m < n/\∃ i σ' H',Inv X pins σ' H' s7/\tn i s7.heap/\(∀ b ∈ fp,H' b = none)/\W i m σ' H':=fun {σ7 H7} I7 n7=>by
   obtain ⟨m',hm,w7⟩:=hN σ7 H7 n7
   refine ⟨m',hm,i + 1,σ7,H7,I7.vt,T.keep _ _ _ st5 fun b hb o e=>(I7.pin (b,o) (List.mem_append_right _ (List.mem_append_right _ (uF hb e)))).1,fun b hb=>?_,w7⟩
   obtain ⟨o,e,d⟩:=T.obj _ _ st5 b hb
   exact (I7.pin (b,o) (List.mem_append_right _ (List.mem_append_right _ (uF hb e)))).2.1
  cases f with
  | next=>obtain ⟨σ7,H7,I7,n7⟩:=q7;exact again I7 n7
  | cont=>obtain ⟨σ7,H7,I7,n7⟩:=q7;exact again I7 n7
  | brk=>obtain ⟨σ7,H7,I7,q7⟩:=q7;exact ⟨σ7,H7,I7.vt,q7⟩
  | ret v=>obtain ⟨x7,σ7,H7,I7,r7,q7⟩:=q7;exact ⟨x7,σ7,H7,I7.vt,r7,q7⟩
end
theorem Lo {K:PySem.W.Frag} {a:Addr} {xs:List V} {g:TG} {tb:TS} {D:Ends} {σ:St} {H:Hp} (Pv:Nat->St->Hp->Prop) (h0:Pv 0 σ H) (hl:∀ i σ H,i<=xs.length->Pv i σ H->dj K H a xs)
  (hs:∀ i x σ H,xs[i]? = some x->Pv i σ H->g x σ H fun σ2 H2=>tb { D with nx:=Pv (i + 1),ct:=Pv (i + 1),bk:=D.nx } σ2 H2) (hd:∀ σ H,Pv xs.length σ H->D.nx σ H) :
  ∃ W:Nat->Nat->St->Hp->Prop,(∃ m,W 0 m σ H)/\∀ i m σ H,W i m σ H →
   ((Ob K a).stop i H/\D.nx σ H)\/((Ob K a).go i H/\∃ N:St->Hp->Prop,(∀ σ' H',N σ' H'->∃ m',m' < m/\W (i + 1) m' σ' H')/\∀ x H',(Ob K a).Mu i H x H'->g x σ H' fun σ2 H2=>tb { D with nx:=N,ct:=N,bk:=D.nx } σ2 H2):=by
 refine ⟨fun i m σ H=>m = xs.length - i/\i<=xs.length/\Pv i σ H,⟨xs.length,by simp,Nat.zero_le _,h0⟩,?_⟩
 rintro i m σ H ⟨rfl,hi,p⟩
 have q:=hl i σ H hi p
 by_cases hlt:i < xs.length
 ·refine .inr ⟨⟨xs,xs[i],q,by simp [hlt]⟩,Pv (i + 1),fun σ' H' p'=>⟨xs.length - (i + 1),by omega,rfl,hlt,p'⟩,fun x H' y=>?_⟩
  obtain ⟨e,y⟩:=y
  subst e
  exact hs i x σ _ (y xs q) p
 ·have e:i = xs.length:=by omega
  subst e
  exact .inl ⟨⟨xs,q,Nat.le_refl _⟩,hd σ H p⟩
theorem m9 {lo:Int} {n:Nat} {g:TG} {tb:TS} {D:Ends} {σ:St} {H:Hp} (Pv:Nat->St->Hp->Prop) (h0:Pv 0 σ H)
  (hs:∀ i σ H,i < n->Pv i σ H->g (.int (lo + i)) σ H fun σ2 H2=>tb { D with nx:=Pv (i + 1),ct:=Pv (i + 1),bk:=D.nx } σ2 H2) (hd:∀ σ H,Pv n σ H->D.nx σ H) :
  ∃ W:Nat->Nat->St->Hp->Prop,(∃ m,W 0 m σ H)/\∀ i m σ H,W i m σ H →
   ((OM lo n).stop i H/\D.nx σ H)\/((OM lo n).go i H/\∃ N:St->Hp->Prop,(∀ σ' H',N σ' H'->∃ m',m' < m/\W (i + 1) m' σ' H')/\∀ x H',(OM lo n).Mu i H x H'->g x σ H' fun σ2 H2=>tb { D with nx:=N,ct:=N,bk:=D.nx } σ2 H2):=by
 refine ⟨fun i m σ H=>m = n - i/\i<=n/\Pv i σ H,⟨n,by simp,Nat.zero_le _,h0⟩,?_⟩
 rintro i m σ H ⟨rfl,hi,p⟩
 by_cases hlt:i < n
 ·refine .inr ⟨hlt,Pv (i + 1),fun σ' H' p'=>⟨n - (i + 1),by omega,rfl,hlt,p'⟩,fun x H' y=>?_⟩
  obtain ⟨e,y⟩:=y
  subst e y
  exact hs i σ _ hlt p
 ·have e:i = n:=by omega
  subst e
  exact .inl ⟨Nat.le_refl _,hd σ H p⟩
end L2
namespace L2
open PySem PySem.Spec PyProof.Rows
abbrev R2:=V->V->Hp->VK->Prop
noncomputable def zx (X:Cx) (f:Value->Value->Sem Value) (r:R2):Prop :=
 ∀ (pins:List (Addr × Obj)) (s:Shared) (σ:St) (H:Hp) (x y:V) (v u:Value) (Q:VK),Inv X pins σ H s->RelV x v->RelV y u->r x y H Q →
  wpAny (model X.prog X.w) X.A (f v u) (EP X pins σ Q) X.xe s
noncomputable def Ru (X:Cx) (f:Value->Sem Value) (r:V->Hp->VK->Prop):Prop :=
 ∀ (pins:List (Addr × Obj)) (s:Shared) (σ:St) (H:Hp) (x:V) (v:Value) (Q:VK),Inv X pins σ H s->RelV x v->r x H Q →
  wpAny (model X.prog X.w) X.A (f v) (EP X pins σ Q) X.xe s
noncomputable def yj (X:Cx) (f:Value) (r:List V->Hp->VK->Prop):Prop :=
 ∀ (pins:List (Addr × Obj)) (s:Shared) (σ:St) (H:Hp) (xs:List V) (us:List Value) (Q:VK),Inv X pins σ H s->Vals xs us->r xs H Q →
  wpAny (model X.prog X.w) X.A (call f us) (EP X pins σ Q) X.xe s
noncomputable def RQ (X:Cx) (r:V->Hp->(Bool->Hp->Prop)->Prop):Prop :=
 ∀ (pins:List (Addr × Obj)) (s:Shared) (σ:St) (H:Hp) (x:V) (v:Value) (Q:Bool->Hp->Prop),Inv X pins σ H s->RelV x v->r x H Q →
  wpAny (model X.prog X.w) X.A (truthy v) (TP X pins σ Q) X.xe s
noncomputable def Qb (r:R2) (ta tb:TE):TE:=fun σ H Q=>ta σ H fun x H1=>tb σ H1 fun y H2=>r x y H2 Q
noncomputable def SY (r:V->Hp->VK->Prop) (ta:TE):TE:=fun σ H Q=>ta σ H fun x H1=>r x H1 Q
noncomputable def rI (C:Int->Int->Prop) (g:Int->Int->V):R2:=fun x y H Q=>∃ i j,x = .int i/\y = .int j/\C i j/\Q (g i j) H
noncomputable def Lp (g:Int->Int->V):R2:=fun x y H Q=>∃ i j,x = .int i/\y = .int j/\Q (g i j) H
noncomputable def rU (g:Int->V):V->Hp->VK->Prop:=fun x H Q=>∃ i,x = .int i/\Q (g i) H
section
variable {X:Cx} {a b c:Expr} {ta tb tc:TE} {pos:Pos}
theorem ON (ha:PE X a ta) (hb:PE X b tb) {pins:List (Addr × Obj)} {s:Shared} {σ:St} {H:Hp} {R:V->V->Hp->Prop} (I:Inv X pins σ H s)
  (h:ta σ H fun x H1=>tb σ H1 fun y H2=>R x y H2) {Q:Value->Shared->Prop} {f:Value->Value->Sem Value}
  (hf:∀ v u s2 x y H2,Inv X pins σ H2 s2->RelV x v->RelV y u->R x y H2->wpAny (model X.prog X.w) X.A (f v u) Q X.xe s2) :
  wpAny (model X.prog X.w) X.A (eval a X.env) (fun v s₁=>wpAny (model X.prog X.w) X.A (eval b X.env) (fun u s₂=>wpAny (model X.prog X.w) X.A (f v u) Q X.xe s₂) X.xe s₁) X.xe s:=by
 refine d9 (ha pins s σ H _ I h) fun v s1 ⟨x,H1,I1,r1,q1⟩=>?_
 refine d9 (hb pins s1 σ H1 _ I1 q1) fun u s2 ⟨y,H2,I2,r2,q2⟩=>?_
 exact hf v u s2 x y H2 I2 r1 r2 q2
theorem cQ {op:Operator} {r:R2} (ho:zx X (binaryOp op) r) (ha:PE X a ta) (hb:PE X b tb):PE X (.BinOp a op b pos) (Qb r ta tb):=by
 intro pins s σ H Q I h
 exact wpAny_BinOp (ON ha hb I h fun v u s2 x y H2 I2 rx ry q=>ho pins s2 σ H2 x y v u Q I2 rx ry q)
theorem IX {op:UnaryOp} {r:V->Hp->VK->Prop} (ho:Ru X (unaryOp op) r) (ha:PE X a ta):PE X (.UnaryOp op a pos) (SY r ta):=by
 intro pins s σ H Q I h
 exact UnaryOp_ (d9 (ha pins s σ H _ I h) fun v s1 ⟨x,H1,I1,r1,q1⟩=>ho pins s1 σ H1 x v Q I1 r1 q1)
theorem QA {f:Value->Value->Sem Value} {C:Int->Int->Prop} {g:Int->Int->Int}
  (rule:∀ (i j:Int) (t u:Tok) (s:Shared) (Q:Value->Shared->Prop) (E:Value->Shared->Prop),C i j->Q (.int (g i j) s.toks) { s with toks:=s.toks + 1 }->wpAny (model X.prog X.w) X.A (f (.int i t) (.int j u)) Q E s) :
  zx X f (rI C fun i j=>.int (g i j)):=by
 intro pins s σ H x y v u Q I rx ry h
 obtain ⟨i,j,rfl,rfl,hc,q⟩:=h
 obtain ⟨t,rfl⟩:=rx
 obtain ⟨t',rfl⟩:=ry
 exact rule i j t t' s _ _ hc ⟨.int (g i j),H,I.tok _,⟨_,rfl⟩,q⟩
theorem OO {f:Value->Value->Sem Value} {g:Int->Int->Int}
  (rule:∀ (i j:Int) (t u:Tok) (s:Shared) (Q:Value->Shared->Prop) (E:Value->Shared->Prop),Q (.int (g i j) s.toks) { s with toks:=s.toks + 1 }->wpAny (model X.prog X.w) X.A (f (.int i t) (.int j u)) Q E s) :
  zx X f (Lp fun i j=>.int (g i j)):=by
 intro pins s σ H x y v u Q I rx ry h
 obtain ⟨i,j,rfl,rfl,q⟩:=h
 obtain ⟨t,rfl⟩:=rx
 obtain ⟨t',rfl⟩:=ry
 exact rule i j t t' s _ _ ⟨.int (g i j),H,I.tok _,⟨_,rfl⟩,q⟩
theorem MD {f:Value->Value->Sem Value} {g:Int->Int->Bool}
  (rule:∀ (i j:Int) (t u:Tok) (s:Shared) (Q:Value->Shared->Prop) (E:Value->Shared->Prop),Q (.bool (g i j)) s->wpAny (model X.prog X.w) X.A (f (.int i t) (.int j u)) Q E s) :
  zx X f (Lp fun i j=>.bl (g i j)):=by
 intro pins s σ H x y v u Q I rx ry h
 obtain ⟨i,j,rfl,rfl,q⟩:=h
 obtain ⟨t,rfl⟩:=rx
 obtain ⟨t',rfl⟩:=ry
 exact rule i j t t' s _ _ ⟨.bl (g i j),H,I,rfl,q⟩
noncomputable def RR (i j:Int):Prop:=0 < j/\j < 1073741824
noncomputable def RS (i j:Int):Prop:=0<=j/\j<=1000000/\i.natAbs < 2 ^ 64
noncomputable def OP (i j:Int):Prop:=(-(2 ^ 64) < i/\i < 2 ^ 64)\/(-(2 ^ 64) < j/\j < 2 ^ 64)
theorem OP.ok {i j:Int} (h:OP i j):IntMulOk i j:=by
 rcases h with ⟨h1,h2⟩ | ⟨h1,h2⟩
 ·exact .of_left (intBits_le_64 h1 h2)
 ·exact .of_right (intBits_le_64 h1 h2)
theorem Hv (k:Nat):(0:Int)<=2 ^ k:=by
 rw [two_pow_cast]
 exact Int.natCast_nonneg _
theorem lX:zx X (binaryOp .Add) (Lp fun i j=>.int (i + j)):=OO fun _ _ _ _ _ _ _ q=>add_int q
theorem uG:zx X (binaryOp .Sub) (Lp fun i j=>.int (i - j)):=OO fun _ _ _ _ _ _ _ q=>sub_int q
theorem Hw:zx X (binaryOp .Mult) (rI OP fun i j=>.int (i * j)):=QA fun _ _ _ _ _ _ _ hc q=>mul_int q hc.ok
theorem zy:zx X (binaryOp .FloorDiv) (rI RR fun i j=>.int (i / j)):=QA fun i j _ _ _ _ _ hc q=>by
 have h1:(0:Int) < j:=hc.1
 have h2:j < 1073741824:=hc.2
 exact floordiv_int (by omega) (by rw [Int.fdiv_eq_ediv_of_nonneg i (by omega)];exact q) (.inl (PyProof.noPylong_small (by omega)))
theorem Lq:zx X (binaryOp .Mod) (rI (fun _ j=>0 < j) fun i j=>.int (i % j)):=QA fun i j _ _ _ _ _ hc q=>by
 have h1:(0:Int) < j:=hc
 exact mod_int' (by omega) (by rw [Int.fmod_eq_emod_of_nonneg i (by omega)];exact q)
theorem OQ:zx X (binaryOp .LShift) (rI RS fun i j=>.int (i * 2 ^ j.toNat)):=QA fun _ _ _ _ _ _ _ hc q=>lshift_int_small hc.1 hc.2.1 hc.2.2 q
theorem Lr:zx X (binaryOp .RShift) (rI (fun _ j=>0<=j) fun i j=>.int (i / 2 ^ j.toNat)):=QA fun i j _ _ _ _ _ hc q =>
 rshift_int hc (by rw [Int.fdiv_eq_ediv_of_nonneg i (Hv _)];exact q)
theorem Hx:zx X (binaryOp .BitAnd) (Lp fun i j=>.int (Builtin.bitAnd i j)):=OO fun _ _ _ _ _ _ _ q=>and_int q
theorem SG {f:Value->Sem Value} {g:Int->Int}
  (rule:∀ (i:Int) (t:Tok) (s:Shared) (Q:Value->Shared->Prop) (E:Value->Shared->Prop),Q (.int (g i) s.toks) { s with toks:=s.toks + 1 }->wpAny (model X.prog X.w) X.A (f (.int i t)) Q E s) :
  Ru X f (rU fun i=>.int (g i)):=by
 intro pins s σ H x v Q I rx h
 obtain ⟨i,rfl,q⟩:=h
 obtain ⟨t,rfl⟩:=rx
 exact rule i t s _ _ ⟨.int (g i),H,I.tok _,⟨_,rfl⟩,q⟩
theorem Hy:Ru X (unaryOp .USub) (rU fun i=>.int (-i)):=SG fun _ _ _ _ _ q=>neg_int q
theorem OR:Ru X (unaryOp .Invert) (rU fun i=>.int (Builtin.bitNot i)):=SG fun _ _ _ _ _ q=>invert_int q
end
noncomputable def QB:V->V->Bool
 | .fR,.fR=>true | .fR,.int _=>true | .int _,.fR=>true | .fR,.bl _=>true | .bl _,.fR=>true | .fR,.str _=>true | .str _,.fR=>true
 | .int _,.int _=>true | .bl _,.bl _=>true | .str _,.str _=>true | .Bw _,.Bw _=>true
 | .int _,.str _=>true | .str _,.int _=>true | .bl _,.str _=>true | .str _,.bl _=>true
 | _,_=>false
noncomputable def S0:R2:=fun x y H Q=>QB x y = true/\Q (.bl (decide (x = y))) H
noncomputable def S1:R2:=fun x y H Q=>QB x y = true/\Q (.bl (!decide (x = y))) H
theorem Df {i j:Int}:decide (V.int i = V.int j) = (i == j):=by
 rw [Bool.eq_iff_iff]
 simp
theorem Ls {i j:Bool}:decide (V.bl i = V.bl j) = (i == j):=by
 rw [Bool.eq_iff_iff]
 simp
theorem sU {i j:Str}:decide (V.str i = V.str j) = (i == j):=by
 rw [Bool.eq_iff_iff]
 simp
theorem IY {i j:Array UInt8}:decide (V.Bw i = V.Bw j) = (i.toList == j.toList):=by
 rw [Bool.eq_iff_iff]
 cases i
 cases j
 simp
section
variable {X:Cx} {a b c:Expr} {ta tb tc:TE} {pos:Pos}
theorem bW {pins:List (Addr × Obj)} {σ:St} {H:Hp} {s:Shared} {Q:VK} {k k':Bool} (I:Inv X pins σ H s) (q:Q (.bl k) H) (e:k = k'):EP X pins σ Q (.bool k') s:=by
 subst e
 exact ⟨.bl k,H,I,rfl,q⟩
theorem dX:zx X (compareOp .Eq) S0:=by
 intro pins s σ H x y v u Q I rx ry h
 obtain ⟨hs,q⟩:=h
 cases x with
 | fR =>
  cases rx
  cases y with
  | fR=>cases ry;exact PySem.EqNone.eq_none_none (bW I q (by simp))
  | bl j=>cases ry;exact PySem.EqNone.eq_none_bool (bW I q (by simp))
  | int j=>obtain ⟨t',rfl⟩:=ry;exact PySem.EqNone.eq_none_int (bW I q (by simp))
  | str j=>obtain ⟨t',rfl⟩:=ry;exact PySem.EqNone.eq_none_str (bW I q (by simp))
  | _=>exact absurd (show false = true from hs) Bool.false_ne_true
 | bl i =>
  cases rx
  cases y with
  | fR=>cases ry;exact PySem.EqNone.eq_bool_none (bW I q (by simp))
  | bl j=>cases ry;exact eq_bool (bW I q Ls)
  | str j=>obtain ⟨t',rfl⟩:=ry;exact PySem.EqMixed.eq_bool_str (bW I q (by simp))
  | _=>exact absurd (show false = true from hs) Bool.false_ne_true
 | int i =>
  obtain ⟨t,rfl⟩:=rx
  cases y with
  | fR=>cases ry;exact PySem.EqNone.eq_int_none (bW I q (by simp))
  | int j=>obtain ⟨t',rfl⟩:=ry;exact eq_int (bW I q Df)
  | str j=>obtain ⟨t',rfl⟩:=ry;exact PySem.EqMixed.eq_int_str (bW I q (by simp))
  | _=>exact absurd (show false = true from hs) Bool.false_ne_true
 | str i =>
  obtain ⟨t,rfl⟩:=rx
  cases y with
  | fR=>cases ry;exact PySem.EqNone.eq_str_none (bW I q (by simp))
  | bl j=>cases ry;exact PySem.EqMixed.eq_str_bool (bW I q (by simp))
  | int j=>obtain ⟨t',rfl⟩:=ry;exact PySem.EqMixed.eq_str_int (bW I q (by simp))
  | str j=>obtain ⟨t',rfl⟩:=ry;exact eq_str (bW I q sU)
  | _=>exact absurd (show false = true from hs) Bool.false_ne_true
 | Bw i =>
  obtain ⟨t,rfl⟩:=rx
  cases y with
  | Bw j=>obtain ⟨t',rfl⟩:=ry;exact PySem.W.eq_bytes (bW I q IY)
  | _=>exact absurd (show false = true from hs) Bool.false_ne_true
 | _=>cases y <;> exact absurd (show false = true from hs) Bool.false_ne_true
theorem Fi:zx X (compareOp .NotEq) S1:=by
 intro pins s σ H x y v u Q I rx ry h
 obtain ⟨hs,q⟩:=h
 cases x with
 | fR =>
  cases rx
  cases y with
  | fR=>cases ry;exact PySem.EqNone.ne_none_none (bW I q (by simp))
  | bl j=>cases ry;exact PySem.EqNone.ne_none_bool (bW I q (by simp))
  | int j=>obtain ⟨t',rfl⟩:=ry;exact PySem.EqNone.ne_none_int (bW I q (by simp))
  | str j=>obtain ⟨t',rfl⟩:=ry;exact PySem.EqNone.ne_none_str (bW I q (by simp))
  | _=>exact absurd (show false = true from hs) Bool.false_ne_true
 | bl i =>
  cases rx
  cases y with
  | fR=>cases ry;exact PySem.EqNone.ne_bool_none (bW I q (by simp))
  | bl j=>cases ry;exact ne_bool (bW I q (congrArg not Ls))
  | str j=>obtain ⟨t',rfl⟩:=ry;exact PySem.EqMixed.ne_bool_str (bW I q (by simp))
  | _=>exact absurd (show false = true from hs) Bool.false_ne_true
 | int i =>
  obtain ⟨t,rfl⟩:=rx
  cases y with
  | fR=>cases ry;exact PySem.EqNone.ne_int_none (bW I q (by simp))
  | int j=>obtain ⟨t',rfl⟩:=ry;exact ne_int (bW I q (congrArg not Df))
  | str j=>obtain ⟨t',rfl⟩:=ry;exact PySem.EqMixed.ne_int_str (bW I q (by simp))
  | _=>exact absurd (show false = true from hs) Bool.false_ne_true
 | str i =>
  obtain ⟨t,rfl⟩:=rx
  cases y with
  | fR=>cases ry;exact PySem.EqNone.ne_str_none (bW I q (by simp))
  | bl j=>cases ry;exact PySem.EqMixed.ne_str_bool (bW I q (by simp))
  | int j=>obtain ⟨t',rfl⟩:=ry;exact PySem.EqMixed.ne_str_int (bW I q (by simp))
  | str j=>obtain ⟨t',rfl⟩:=ry;exact ne_str (bW I q (congrArg not sU))
  | _=>exact absurd (show false = true from hs) Bool.false_ne_true
 | Bw i =>
  obtain ⟨t,rfl⟩:=rx
  cases y with
  | Bw j=>obtain ⟨t',rfl⟩:=ry;exact PySem.W.ne_bytes (bW I q (congrArg not IY))
  | _=>exact absurd (show false = true from hs) Bool.false_ne_true
 | _=>cases y <;> exact absurd (show false = true from hs) Bool.false_ne_true
theorem pF:zx X (compareOp .Lt) (Lp fun i j=>.bl (decide (i < j))):=MD fun _ _ _ _ _ _ _ q=>lt_int q
theorem Aa:zx X (compareOp .LtE) (Lp fun i j=>.bl (decide (i<=j))):=MD fun _ _ _ _ _ _ _ q=>le_int q
theorem pG:zx X (compareOp .Gt) (Lp fun i j=>.bl (decide (j < i))):=MD fun _ _ _ _ _ _ _ q=>gt_int q
theorem QC:zx X (compareOp .GtE) (Lp fun i j=>.bl (decide (j<=i))):=MD fun _ _ _ _ _ _ _ q=>ge_int q
theorem aG (b:Expr) {op:CmpOp} (h:op ≠ .In:=by decide) (h2:op ≠ .NotIn:=by decide):behindInMarks op b = false:=by
 have e1:(op == CmpOp.In) = false:=by cases op <;> first | rfl | exact absurd rfl h
 have e2:(op == CmpOp.NotIn) = false:=by cases op <;> first | rfl | exact absurd rfl h2
 cases b <;> simp [behindInMarks,e1,e2]
theorem cR {op:CmpOp} {r:R2} (ho:zx X (compareOp op) r) (ha:PE X a ta) (hb:PE X b tb) (hm:behindInMarks op b = false):PE X (.Compare a [op] [b] pos) (Qb r ta tb):=by
 intro pins s σ H Q I h
 exact wpAny_Compare1 (ON ha hb I h fun v u s2 x y H2 I2 rx ry q=>ho pins s2 σ H2 x y v u Q I2 rx ry q) hm
noncomputable def Oc (t:TE):TT:=fun σ H Q=>t σ H fun x H'=>∃ k,x = .bl k/\Q k H'
theorem aI {op:CmpOp} {r:R2} (ho:zx X (compareOp op) r) (ha:PE X a ta) (hb:PE X b tb) (hm:behindInMarks op b = false):PT X (.Compare a [op] [b] pos) (Oc (Qb r ta tb)):=by
 intro pins s σ H Q I h
 refine wpAny_isTrue_Compare1 (d9 (ha pins s σ H _ I h) fun v s1 ⟨x,H1,I1,r1,q1⟩=>d9 (hb pins s1 σ H1 _ I1 q1) fun u s2 ⟨y,H2,I2,r2,q2⟩ =>
  d9 (ho pins s2 σ H2 x y v u _ I2 r1 r2 q2) fun c s3 ⟨z,H3,I3,r3,k,e,q3⟩=>?_) hm
 subst e
 cases r3
 exact wpAny_truthy_bool ⟨H3,I3,q3⟩
noncomputable def OS (r r':R2) (ta tb tc:TE):TE:=fun σ H Q=>ta σ H fun x H1=>tb σ H1 fun y H2=>r x y H2 fun z H3=>∃ k,z = .bl k ∧
 (if k = true then tc σ H3 fun w' H4=>r' y w' H4 Q else Q (.bl false) H3)
theorem Fj {op op':CmpOp} {r r':R2} (ho:zx X (compareOp op) r) (ho':zx X (compareOp op') r') (ha:PE X a ta) (hb:PE X b tb) (hc:PE X c tc)
  (hm:lastMarks [op,op'] [b,c] = false:=by with_unfolding_all rfl):PT X (.Compare a [op,op'] [b,c] pos) (Oc (OS r r' ta tb tc)):=by
 intro pins s σ H Q I h
 refine isTrue_chain (d9 (ha pins s σ H _ I h) fun v s1 ⟨x,H1,I1,r1,q1⟩=>test_link (d9 (hb pins s1 σ H1 _ I1 q1) fun u s2 ⟨y,H2,I2,r2,q2⟩ =>
  d9 (ho pins s2 σ H2 x y v u _ I2 r1 r2 q2) fun d s3 ⟨z,H3,I3,r3,k,e,q3⟩=>?_)) hm
 subst e
 cases r3
 refine wpAny_truthy_bool ?_
 cases k with
 | false =>
  obtain ⟨k',e',q'⟩:=q3
  cases e'
  exact ite_ff ⟨H3,I3,q'⟩
 | true =>
  refine ite_tt (test_last (d9 (hc pins s3 σ H3 _ I3 q3) fun w' s4 ⟨z',H4,I4,r4,q4⟩=>d9 (ho' pins s4 σ H4 y z' u w' _ I4 r2 r4 q4) fun d' s5 ⟨z2,H5,I5,r5,k2,e2,q5⟩=>?_))
  subst e2
  cases r5
  exact wpAny_truthy_bool ⟨H5,I5,q5⟩
noncomputable def QD (K:PySem.W.Frag) (x:V) (H:Hp) (k:Bool):Prop :=
 match x with
 | .fR=>k = false
 | .bl b=>k = b
 | .int i=>k = (i != 0)
 | .str y=>y.length<=sizeLine/\k = ((y.length:Int) != 0)
 | .Bw y=>y.size<=sizeLine/\k = ((y.size:Int) != 0)
 | .ref p=>(∃ xs,dj K H p xs/\k = !xs.isEmpty)\/(∃ xs,yD K H p xs/\k = !xs.isEmpty)\/∃ kvs,H p = some (.dK kvs)/\k = !kvs.isEmpty
 | _=>False
theorem Hz {κ:Type} {kvs:List (κ × V)} {vs:List (κ × Value)} (r:KV kvs vs):(!vs.isEmpty) = !kvs.isEmpty:=by
 cases r <;> rfl
theorem Ab {xs:List V} {its:List Value} (r:Vals xs its):(!its.toArray.isEmpty) = !xs.isEmpty:=by
 cases r <;> simp
theorem Ac:(sizeLine:Nat) < 2 ^ 63:=by rw [sizeLine_eq];decide
theorem OT:RQ X (fun x H Q=>∃ k,QD X.K x H k/\Q k H):=by
 intro pins s σ H x v Q I rx h
 obtain ⟨k,e,q⟩:=h
 have hl:=Ac
 have hs:sizeLine = 16777216:=sizeLine_eq
 cases x with
 | fR =>
  cases rx
  have e':k = false:=e
  subst e'
  exact truthy_none ⟨H,I,q⟩
 | bl b =>
  cases rx
  have e':k = b:=e
  subst e'
  exact wpAny_truthy_bool ⟨H,I,q⟩
 | int i =>
  obtain ⟨t,rfl⟩:=rx
  have e':k = (i != 0):=e
  subst e'
  exact PySem.P.truthy_int ⟨H,I,q⟩
 | str y =>
  obtain ⟨t,rfl⟩:=rx
  obtain ⟨hy,e'⟩:y.length<=sizeLine/\k = ((y.length:Int) != 0):=e
  subst e'
  exact PySem.P.truthy_str (by omega) ⟨H,I.tok _,q⟩
 | Bw y =>
  obtain ⟨t,rfl⟩:=rx
  obtain ⟨hy,e'⟩:y.size<=sizeLine/\k = ((y.size:Int) != 0):=e
  subst e'
  exact PySem.W.truthy_bytes (by omega) ⟨H,I.tok _,q⟩
 | ref p =>
  cases rx
  have e':(∃ xs,dj X.K H p xs/\k = !xs.isEmpty)\/(∃ xs,yD X.K H p xs/\k = !xs.isEmpty)\/∃ kvs,H p = some (.dK kvs)/\k = !kvs.isEmpty:=e
  rcases e' with ⟨xs,hx,e'⟩ | ⟨xs,hx,e'⟩ | ⟨kvs,hx,e'⟩
  ·subst e'
   obtain ⟨its,r,pl,hz⟩:=I.list hx
   have hlen:=r.length
   exact wpAny_truthy_list pl.isList (by simp only [List.size_toArray];omega) ⟨H,I.tok _,by rw [Ab r];exact q⟩
  ·subst e'
   obtain ⟨its,r,pl,hz⟩:=I.tuple hx
   have hlen:=r.length
   exact truthy_tuple pl (by simp only [List.size_toArray];omega) ⟨H,I.tok _,by rw [Ab r];exact q⟩
  ·subst e'
   obtain ⟨hz,hS,vs,r,m⟩:kvs.length<=sizeLine/\(p == sysModules) = false/\∃ vs,KV kvs vs/\s.heap.DictOf (eE X.prog X.w) p vs:=I.bL p _ hx
   have hlen:kvs.length = vs.length:=Paired.length r
   exact wpAny_truthy_dict hS m (by omega) ⟨H,I.tok _,by rw [Hz r];exact q⟩
 | _=>exact (show False from e).elim
theorem bQ (ha:PE X a ta) (he:∀ whole,isTrue a X.env whole = (do let v ←whole;standAt a.pos;holding [v] (truthy v))) :
  PT X a (fun σ H Q=>ta σ H fun x H'=>∃ k,QD X.K x H' k/\Q k H'):=by
 intro pins s σ H Q I h
 exact isTrue_plain (d9 (ha pins s σ H _ I h) fun v s1 ⟨x,H1,I1,r1,q1⟩=>OT pins s1 σ H1 x v Q I1 r1 q1) (he _)
theorem vals1 {x:V} {us:List Value} (r:Vals [x] us):∃ u,us = [u]/\RelV x u:=by
 cases r with
 | cons r1 r2=>cases r2;exact ⟨_,rfl,r1⟩
theorem vals2 {x y:V} {us:List Value} (r:Vals [x,y] us):∃ u w',us = [u,w']/\RelV x u/\RelV y w':=by
 cases r with
 | cons r1 r2 =>
  cases r2 with
  | cons r3 r4=>cases r4;exact ⟨_,_,rfl,r1,r3⟩
theorem JR (hc:X.calm = true):yj X (.builtin "max") (fun xs H Q=>∃ i j,xs = [.int i,.int j]/\Q (.int (if j > i then j else i)) H):=by
 intro pins s σ H xs us Q I r h
 obtain ⟨i,j,rfl,q⟩:=h
 obtain ⟨u,w',rfl,⟨t,rfl⟩,⟨t',rfl⟩⟩:=vals2 r
 refine max_two_ints (I.ok.hd hc) fun h' tk k=>⟨_,H,I.kept k,?_,q⟩
 by_cases hj:j > i
 ·rw [if_pos hj,if_pos hj];exact ⟨_,rfl⟩
 ·rw [if_neg hj,if_neg hj];exact ⟨_,rfl⟩
theorem sV (hc:X.calm = true):yj X (.builtin "min") (fun xs H Q=>∃ i j,xs = [.int i,.int j]/\Q (.int (if j < i then j else i)) H):=by
 intro pins s σ H xs us Q I r h
 obtain ⟨i,j,rfl,q⟩:=h
 obtain ⟨u,w',rfl,⟨t,rfl⟩,⟨t',rfl⟩⟩:=vals2 r
 refine min_two_ints (I.ok.hd hc) fun h' tk k=>⟨_,H,I.kept k,?_,q⟩
 by_cases hj:j < i
 ·rw [if_pos hj,if_pos hj];exact ⟨_,rfl⟩
 ·rw [if_neg hj,if_neg hj];exact ⟨_,rfl⟩
noncomputable def QE (K:PySem.W.Frag) (x:V) (H:Hp) (n:Nat):Prop :=
 match x with
 | .str y=>y.length<=sizeLine/\n = y.length
 | .Bw y=>y.size<=sizeLine/\n = y.size
 | .ref p=>(∃ xs,dj K H p xs/\n = xs.length)\/∃ xs,yD K H p xs/\n = xs.length
 | _=>False
theorem bX:yj X (.builtin "len") (fun xs H Q=>∃ x n,xs = [x]/\QE X.K x H n/\Q (.int n) H):=by
 intro pins s σ H xs us Q I r h
 obtain ⟨x,n,rfl,e,q⟩:=h
 obtain ⟨u,rfl,rx⟩:=vals1 r
 have hl:=Ac
 have hs:sizeLine = 16777216:=sizeLine_eq
 cases x with
 | str y =>
  obtain ⟨t,rfl⟩:=rx
  obtain ⟨hy,e'⟩:y.length<=sizeLine/\n = y.length:=e
  subst e'
  exact len_str (by omega) ⟨.int _,H,I.tok _,⟨_,rfl⟩,q⟩
 | Bw y =>
  obtain ⟨t,rfl⟩:=rx
  obtain ⟨hy,e'⟩:y.size<=sizeLine/\n = y.size:=e
  subst e'
  exact PySem.W.len_bytes (by omega) ⟨.int _,H,I.tok _,⟨_,rfl⟩,q⟩
 | ref p =>
  cases rx
  have e':(∃ xs,dj X.K H p xs/\n = xs.length)\/∃ xs,yD X.K H p xs/\n = xs.length:=e
  rcases e' with ⟨xs,hx,e'⟩ | ⟨xs,hx,e'⟩
  ·subst e'
   obtain ⟨its,r',pl,hz⟩:=I.list hx
   have hlen:=r'.length
   exact Calls.call_len_list pl.isList (by simp only [List.size_toArray];omega) ⟨.int xs.length,H,I.tok _,⟨_,by simp only [List.size_toArray];rw [hlen]⟩,q⟩
  ·subst e'
   obtain ⟨its,r',pl,hz⟩:=I.tuple hx
   have hlen:=r'.length
   exact len_tuple pl (by simp only [List.size_toArray];omega) ⟨.int xs.length,H,I.tok _,⟨_,by simp only [List.size_toArray];rw [hlen]⟩,q⟩
 | _=>exact (show False from e).elim
end
end L2
namespace L2
open PySem PySem.Spec PyProof.Rows
structure HA (h:Heap) (x dx C:Addr) (mA:Str->Option Value):Prop where
 obj:h.get? x = some (PySem.W.instObj C dx)
 ns:h.Ns1 dx mA
 ne:dx ≠ x
theorem Ct {h:Heap} {dx:Addr} {mA:Str->Option Value} (n:h.Ns1 dx mA):∃ od,h.get? dx = some od/\∀ name,PySem.W.lookIn name od = some (mA name):=by
 obtain ⟨o,es,ep,ho,hd,hk,_,hm⟩:=n
 refine ⟨o,ho,fun name=>?_⟩
 have e:=hm name
 unfold nsFind findBy at e
 rw [←Array.find?_toList] at e
 unfold PySem.W.lookIn
 rw [hd]
 dsimp only
 split
 ·rename_i y q
  rw [q] at e
  exact congrArg some e
 ·rename_i q
  rw [q] at e
  have a:es.toList.any (·.refKey) = false:=by
   rw [List.any_eq_false]
   intro y hy
   obtain ⟨z,t,hkey⟩:=hk y (Array.mem_toList_iff.mp hy)
   simp [DictEntry.refKey,hkey]
  have a':¬ es.toList.any (·.refKey) = true:=by rw [a];exact Bool.false_ne_true
  rw [if_neg a']
  exact congrArg some e
theorem HA.look {h:Heap} {x dx C:Addr} {mA:Str->Option Value} (I:HA h x dx C mA):∃ od,PySem.W.InstAt h x (PySem.W.instObj C dx) C (some od)/\∀ name,PySem.W.lookIn name od = some (mA name) :=
 let ⟨od,ho,hl⟩:=Ct I.ns
 ⟨od,⟨I.obj,rfl,rfl,ho⟩,hl⟩
section
variable {prog:Program} {w:World} {A:Around} {E:Value->Shared->Prop} {s:Shared} {K:PySem.W.Frag} {x dx C f:Addr} {mA:Str->Option Value} {name:Str} {v:Value}
theorem get_map {expr:Bool} {Q:Value->Shared->Prop} (X:K.In s.heap) (I:HA s.heap x dx C mA) (hg:PySem.W.plainGet K C name = true) (hh:PySem.W.hasDictIn K C = true)
  (ha:PySem.W.findIn K (.ref C) name = some none) (hv:mA name = some v) (hv':PySem.W.handedIn v = true) (h:Q v { s with toks:=s.toks + 1 }) :
  wpAny (model prog w) A (getAttr (.ref x) name expr) Q E s:=by
 obtain ⟨od,J,hl⟩:=I.look
 exact PySem.W.get_value X J (PySem.W.plainGet_of hg).1 (PySem.W.findObj_own hh ha rfl (by rw [hl,hv])) hv' h
theorem Lu {pl:Sem Bool} {Q:Value × List Value->Shared->Prop} (X:K.In s.heap) (I:HA s.heap x dx C mA) (hg:PySem.W.plainGet K C name = true)
  (hf:PySem.W.findIn K (.ref C) name = some (some (.ref f))) (ht:PySem.W.isFn K (.ref f) = true) (hv:mA name = none) (h:Q (.ref f,[.ref x]) s) :
  wpAny (model prog w) A (getMethod (.ref x) name pl) Q E s:=by
 obtain ⟨od,J,hl⟩:=I.look
 exact PySem.W.method_fn X J (PySem.W.plainGet_of hg).1 (PySem.W.plainGet_of hg).2 hf (beq_iff_eq.mp ht) (by show (PySem.W.lookIn name od).map (·.isSome) = some false;rw [hl,hv];rfl) h
theorem ME {ns:List Str} {Q:Unit->Shared->Prop} (X:K.In s.heap) (I:HA s.heap x dx C mA)
  (hs:PySem.W.findIn K (.ref C) "__setattr__" = some (some (.builtin "object.__setattr__"))) (hp:PySem.W.plainOver K C = true) (ht:PySem.W.takerIn K C name = some none) (hh:PySem.W.hasDictIn K C = true)
  (hw:PySem.Within mA ns) (hsz:ns.length<=sizeLine)
  (h:∀ h',HA h' x dx C (fun y=>if y = name then some v else mA y)->Heap.SameBut dx s.heap h'->Q () { s with heap:=h',toks:=s.toks + 2 }) :
  wpAny (model prog w) A (setAttr (.ref x) name v) Q E s:=by
 obtain ⟨od,J,hl⟩:=I.look
 refine PySem.W.set_plain X J hs (PySem.W.osa_open (s:={ s with toks:=s.toks + 1 }) (r:=none) X J hp ht fun b=>?_)
 obtain ⟨cd,hc,hd'⟩:=PySem.W.any_some hh
 have hx:s.heap.get? x = some ⟨.ref C,some dx,.plain,#[]⟩:=I.obj
 refine wpAny_bind (wpAny_pure (wpAny_bind (wpAny_bind (wpAny_loadPart hx (wpAny_bind (PySem.W.Looks.here (s:={ s with toks:=s.toks + 1 }) (PySem.W.looks_clsIn X hc) ?_))))))
 rw [hd']
 refine wpAny_pure (a:=some dx) (wpAny_bind (wpAny_pure (wpAny_bind ?_)))
 refine wpAny_nsSet1 (s:={ s with toks:=s.toks + 1 }) I.ns fun h' hn2 hs2=>?_
 obtain ⟨oD,esD,epD,hoD,hdD,hcD⟩:=hn2.count (PySem.Within.cons name v hw)
 refine wpAny_bind (wpAny_lookBehind hoD (by rw [hdD];exact pastItsLine_dict (Nat.le_trans hcD (by rw [List.length_cons];omega))) ?_)
 exact wpAny_pure (h _ ⟨(hs2.2 _ (Ne.symm I.ne)).trans I.obj,hn2,I.ne⟩ hs2)
theorem Lv {R:Result->Shared->Prop} {vs:List Value} {kw:List (Str × Value)} (X:K.In s.heap) (hm:PySem.W.makesIn K C = true)
  (hi:PySem.W.findIn K (.ref C) "__init__" = some (some (.ref f))) (hf:PySem.W.typeIn K (.ref f) = some (.type "function"))
  (h:codeAny (model prog w) (A.under (.builtin "type.__call__" ⟨.ref C :: vs,kw⟩)) (.call (.ref f) ⟨.ref (s.heap.objs.size + 1) :: vs,kw⟩) (PySem.W.InitBack (s.heap.objs.size + 1) R)
   { s with heap:=(s.heap.push PySem.W.emptyDict).push (PySem.W.instObj C s.heap.objs.size) }) :
  codeAny (model prog w) A (.call (.ref C) ⟨vs,kw⟩) R s:=by
 obtain ⟨hh,g,d,t,os⟩:=s
 exact PySem.W.make_core (PySem.W.makes_of X hm) (PySem.W.looks_findIn X hi) (fun self=>PySem.W.bind_fn X self hf) (.inl rfl) h
end
noncomputable def gA (f:Str) (v:V):List (Str × V)->List (Str × V)
 | []=>[(f,v)]
 | (g,x) :: r=>if g = f then (g,v) :: r else (g,x) :: gA f v r
theorem rD (f g:Str) (v:V):∀ fs:List (Str × V),(gA f v fs).lookup g = if g = f then some v else fs.lookup g
 | []=>by
  show List.lookup g [(f,v)] = _
  by_cases h:g = f
  ·have hb:(g == f) = true:=beq_iff_eq.mpr h
   simp only [List.lookup,hb,if_pos h]
  ·have hb:(g == f) = false:=beq_eq_false_iff_ne.mpr h
   simp only [List.lookup,hb,if_neg h]
 | (k,x) :: r=>by
  have ih:=rD f g v r
  rw [show gA f v ((k,x) :: r) = (if k = f then (k,v) :: r else (k,x) :: gA f v r) from rfl]
  by_cases hk:k = f
  ·rw [if_pos hk]
   by_cases h:g = k
   ·have hb:(g == k) = true:=beq_iff_eq.mpr h
    simp only [List.lookup,hb,if_pos (h.trans hk)]
   ·have hb:(g == k) = false:=beq_eq_false_iff_ne.mpr h
    simp only [List.lookup,hb,if_neg (fun e:g = f=>h (e.trans hk.symm))]
  ·rw [if_neg hk]
   by_cases h:g = k
   ·have hb:(g == k) = true:=beq_iff_eq.mpr h
    simp only [List.lookup,hb,if_neg (fun e:g = f=>hk (h.symm.trans e))]
   ·have hb:(g == k) = false:=beq_eq_false_iff_ne.mpr h
    simp only [List.lookup,hb]
    exact ih
theorem pH (f:Str) (v:V):∀ fs:List (Str × V),f ∈ (gA f v fs).map (·.1)/\∀ g,g ∈ fs.map (·.1)->g ∈ (gA f v fs).map (·.1)
 | []=>⟨by simp [gA],fun g h=>by simp at h⟩
 | (k,x) :: r=>by
  obtain ⟨i1,i2⟩:=pH f v r
  rw [show gA f v ((k,x) :: r) = (if k = f then (k,v) :: r else (k,x) :: gA f v r) from rfl]
  by_cases hk:k = f
  ·rw [if_pos hk]
   subst hk
   exact ⟨by simp,fun g h=>by simpa using h⟩
  ·rw [if_neg hk]
   refine ⟨?_,fun g h=>?_⟩
   ·rw [List.map_cons]
    exact List.mem_cons_of_mem _ i1
   ·rw [List.map_cons] at h ⊢
    rcases List.mem_cons.mp h with e | e
    ·exact List.mem_cons.mpr (.inl e)
    ·exact List.mem_cons_of_mem _ (i2 g e)
theorem yk (f:Str) (v:V):∀ fs:List (Str × V),(gA f v fs).length<=fs.length + 1
 | []=>by simp [gA]
 | (k,x) :: r=>by
  have ih:=yk f v r
  rw [show gA f v ((k,x) :: r) = (if k = f then (k,v) :: r else (k,x) :: gA f v r) from rfl]
  by_cases hk:k = f
  ·rw [if_pos hk,List.length_cons,List.length_cons];omega
  ·rw [if_neg hk,List.length_cons,List.length_cons];omega
theorem oY.some_of {v:V} {o:Option Value} (r:oY (some v) o):∃ u,o = some u/\RelV v u:=by
 cases o with
 | none=>exact (show False from r).elim
 | some u=>exact ⟨u,rfl,r⟩
theorem oY.none_of {o:Option Value} (r:oY none o):o = none:=by
 cases o with
 | none=>rfl
 | some u=>exact (show False from r).elim
theorem Cu {v:V} {u:Value} (r:RelV v u):PySem.W.handedIn u = true:=by
 cases v with
 | fR=>cases (show u = Value.none from r);rfl
 | bl b=>cases (show u = Value.bool b from r);rfl
 | int i=>obtain ⟨t,e⟩:=(show ∃ t,u = Value.int i t from r);cases e;rfl
 | str x=>obtain ⟨t,e⟩:=(show ∃ t,u = Value.str x t from r);cases e;rfl
 | Bw b=>obtain ⟨t,e⟩:=(show ∃ t,u = Value.bytes b t from r);cases e;rfl
 | Qo b=>obtain ⟨t,e⟩:=(show ∃ t,u = Value.float b t from r);cases e;rfl
 | ref a=>cases (show u = Value.ref a from r);rfl
 | ty n=>cases (show u = Value.type n from r);rfl
section
variable {P:Program} {w:World} {H H':Hp} {h h':Heap} {a C dx:Addr} {fs fs':List (Str × V)}
theorem Dg (bL:qh P w H h) (e:H a = some (.ins C dx fs)):∃ mA,HA h a dx C mA/\(∀ f,oY (fs.lookup f) (mA f))/\PySem.Within mA (fs.map (·.1))/\fs.length<=1000/\H dx = some (.own a):=by
 obtain ⟨d,z,ne,ob,mA,n,r,q⟩:=(show d8 P w H h a (.ins C dx fs) from bL a _ e)
 exact ⟨mA,⟨ob,n,ne⟩,r,q,z,d⟩
end
structure Cv (K:PySem.W.Frag) (C:Addr):Prop where
 pg:PySem.W.plainGet K C Str.empty = true
 hd:PySem.W.hasDictIn K C = true
 po:PySem.W.plainOver K C = true
 sa:PySem.W.findIn K (.ref C) "__setattr__" = some (some (.builtin "object.__setattr__"))
theorem Cv.get {K:PySem.W.Frag} {C:Addr} (c:Cv K C) (f:Str):PySem.W.plainGet K C f = true:=c.pg
noncomputable def aK (K:PySem.W.Frag) (C:Addr) (f:Str):Prop:=PySem.W.findIn K (.ref C) f = some none
theorem aK.QF {K:PySem.W.Frag} {C:Addr} {f:Str} (n:aK K C f):PySem.W.takerIn K C f = some none:=by
 unfold PySem.W.takerIn
 rw [show PySem.W.findIn K (.ref C) f = some none from n]
 rfl
structure Meth (K:PySem.W.Frag) (C:Addr) (m:Str) (f:Addr):Prop where
 at_:PySem.W.findIn K (.ref C) m = some (some (.ref f))
 fn:PySem.W.isFn K (.ref f) = true
 kp:PySem.W.keepIn K (.ref f) = true
section
variable {X:Cx} {pins:List (Addr × Obj)} {σ:St} {H:Hp} {s:Shared} {a C dx:Addr} {fs:List (Str × V)} {f:Str} {v:V} {A:Around} {E:Value->Shared->Prop}
theorem Ad {b:Bool} {Q:Value->Shared->Prop} (I:Inv X pins σ H s) (e:H a = some (.ins C dx fs)) (c:Cv X.K C) (n:aK X.K C f) (l:fs.lookup f = some v)
  (h:∀ u s',Inv X pins σ H s'->RelV v u->Q u s'):wpAny (model X.prog X.w) A (getAttr (.ref a) f b) Q E s:=by
 obtain ⟨mA,O,r,_,_,_⟩:=Dg I.bL e
 obtain ⟨u,hu,ru⟩:=oY.some_of (v:=v) (o:=mA f) (by rw [←l];exact r f)
 exact get_map I.yi O (c.get f) c.hd n hu (Cu ru) (h u _ (I.tok _) ru)
theorem Ae {m:Str} {g:Addr} {pl:Sem Bool} {Q:Value × List Value->Shared->Prop} (I:Inv X pins σ H s) (e:H a = some (.ins C dx fs)) (c:Cv X.K C) (k:Meth X.K C m g) (l:fs.lookup m = none)
  (h:Q (.ref g,[.ref a]) s):wpAny (model X.prog X.w) A (getMethod (.ref a) m pl) Q E s:=by
 obtain ⟨mA,O,r,_,_,_⟩:=Dg I.bL e
 have hn:mA m = none:=oY.none_of (by rw [←l];exact r m)
 exact Lu I.yi O (c.get m) k.at_ k.fn hn h
theorem Af {y:V} {u:Value} {Q:Unit->Shared->Prop} (I:Inv X pins σ H s) (e:H a = some (.ins C dx fs)) (c:Cv X.K C) (n:aK X.K C f) (hl:fs.length < 1000) (ry:RelV y u)
  (h:∀ s',Inv X pins σ (upd H a (.ins C dx (gA f y fs))) s'->Q () s'):wpAny (model X.prog X.w) A (setAttr (.ref a) f u) Q E s:=by
 obtain ⟨mA,O,r,wi,_,ho⟩:=Dg I.bL e
 have hz:(fs.map (·.1)).length<=sizeLine:=by rw [List.length_map,sizeLine_eq];omega
 refine ME I.yi O c.sa c.po n.QF c.hd wi hz fun h' O' sb=>h _ ?_
 have hd:∃ o,h'.get? dx = some o:=let ⟨o,_,_,e',_⟩:=O'.ns;⟨o,e'⟩
 refine I.write (x:=a) (e:=dx) (by rw [e];exact True.intro) (.inr ho) (fun b q hb z=>(sb.2 b hb).trans z) hd ?_
 refine ⟨by rw [ai O.ne];exact ho,?_,O.ne,O'.obj,_,O'.ns,fun g=>?_,fun g hg=>?_⟩
 ·have:=yk f y fs;omega
 ·show oY ((gA f y fs).lookup g) (if g = f then some u else mA g)
  rw [rD]
  by_cases q:g = f
  ·rw [if_pos q,if_pos q];exact ry
  ·rw [if_neg q,if_neg q];exact r g
 ·by_cases q:g = f
  ·rw [q];exact (pH f y fs).1
  ·refine (pH f y fs).2 g (wi g fun z=>hg ?_)
   show (if g = f then some u else mA g) = none
   rw [if_neg q];exact z
theorem Inv.made (I:Inv X pins σ H s):Inv X pins σ (upd (upd H s.heap.objs.size (.own (s.heap.objs.size + 1))) (s.heap.objs.size + 1) (.ins C s.heap.objs.size []))
  { s with heap:=(s.heap.push PySem.W.emptyDict).push (PySem.W.instObj C s.heap.objs.size) }:=by
 have e1:(s.heap.push PySem.W.emptyDict).get? s.heap.objs.size = some PySem.W.emptyDict:=Heap.get?_push_size s.heap rfl
 have e2:((s.heap.push PySem.W.emptyDict).push (PySem.W.instObj C s.heap.objs.size)).get? (s.heap.objs.size + 1) = some (PySem.W.instObj C s.heap.objs.size):=by
  have:=Heap.get?_push_size (s.heap.push PySem.W.emptyDict) (o:=PySem.W.instObj C s.heap.objs.size) rfl
  rwa [Heap.size_push] at this
 have e3:(s.heap.push PySem.W.emptyDict).Ns s.heap.objs.size (fun _=>none):=⟨PySem.W.emptyDict,#[],_,e1,rfl,(fun e he=>absurd he (by simp)),fun _=>rfl⟩
 have I1:=I.laid (a:=s.heap.objs.size) (o:=.own (s.heap.objs.size + 1)) (h':=s.heap.push PySem.W.emptyDict) (t':=s.toks) (fun b u q=>Heap.get?_push_of_some _ q) (Nat.le_refl _) ⟨_,e1⟩
 refine I1.laid (a:=s.heap.objs.size + 1) (o:=.ins C s.heap.objs.size []) (t':=s.toks) (fun b u q=>Heap.get?_push_of_some _ q) (Nat.le_of_eq (Heap.size_push _ _)) ?_
 have ne:s.heap.objs.size ≠ s.heap.objs.size + 1:=Nat.ne_of_lt (Nat.lt_succ_self _)
 refine ⟨by rw [ai ne,af],Nat.zero_le _,ne,e2,fun _=>none,(Heap.Ns1.of_empty e3).at fun o q=>Heap.get?_push_of_some _ q,fun _=>True.intro,fun y hy=>absurd rfl hy⟩
theorem IZ {prog:Program} {w:World} {env:Env} {e:Expr} {f:Str} {pos:Pos} {s:Shared} {Q:Value->Shared->Prop} (hb:attributeBase e f env (eval e env) = eval e env)
  (h:wpAny (model prog w) A (eval e env) (fun o s₁=>wpAny (model prog w) A (getAttr o f true) Q E s₁) E s):wpAny (model prog w) A (eval (.Attribute e f pos) env) Q E s :=
 Attribute_any_ h (by rw [arm_eval_Attribute,hb])
end
noncomputable def MF (K:PySem.W.Frag) (ta:TE) (f:Str):TE:=fun σ H Q=>ta σ H fun x H1=>∃ a C dx fs v,x = .ref a/\H1 a = some (.ins C dx fs)/\Cv K C/\aK K C f/\fs.lookup f = some v/\Q v H1
noncomputable def RT (K:PySem.W.Frag) (ta tv:TE) (f:Str):TS:=fun D σ H=>tv σ H fun y H1=>ta σ H1 fun x H2=>∃ a C dx fs,x = .ref a/\H2 a = some (.ins C dx fs)/\Cv K C/\aK K C f/\fs.length < 1000 ∧
 D.nx σ (upd H2 a (.ins C dx (gA f y fs)))
noncomputable def OU (X:Cx) (op:Operator) (rd:V->V->Hp->VK->Prop):Prop :=
 ∀ (pins:List (Addr × Obj)) (s:Shared) (σ:St) (H:Hp) (x y:V) (u v:Value) (Q:VK),Inv X pins σ H s->RelV x u->RelV y v->rd x y H Q->wpAny (model X.prog X.w) X.A (inplaceOp op u v) (EP X pins σ Q) X.xe s
noncomputable def MG (K:PySem.W.Frag) (ta tv:TE) (rd:V->V->Hp->VK->Prop) (f:Str):TS:=fun D σ H=>ta σ H fun x H1=>∃ a C dx fs v,x = .ref a/\H1 a = some (.ins C dx fs)/\Cv K C/\aK K C f/\fs.lookup f = some v ∧
 tv σ H1 fun y H2=>rd v y H2 fun z H3=>∃ dx' fs',H3 a = some (.ins C dx' fs')/\fs'.length < 1000/\D.nx σ (upd H3 a (.ins C dx' (gA f z fs')))
section
variable {X:Cx} {o e value:Expr} {f:Str} {pos pos' tpos:Pos} {ta tv:TE}
theorem aj (he:PE X e ta) (hb:attributeBase e f X.env (eval e X.env) = eval e X.env):PE X (.Attribute e f pos) (MF X.K ta f):=by
 intro pins s σ H Q I h
 refine IZ hb (d9 (he pins s σ H _ I h) fun u s1 ⟨x,H1,I1,rx,a,C,dx,fs,v,ex,ea,c,n,l,q⟩=>?_)
 subst ex
 obtain rfl:u = Value.ref a:=rx
 exact Ad I1 ea c n l fun u' s2 I2 ru=>⟨v,H1,I2,ru,q⟩
theorem aH (ha:PE X o ta) (hv:PE X value tv) (hs:swapsWith value (some (.Attribute o f pos')) pos.line X.env = pure false):PS X (.Assign [.Attribute o f pos'] value pos) (RT X.K ta tv f):=by
 intro pins s σ H D I h
 refine plainObj_wpAny_Assign_Attribute (d9 (hv pins s σ H _ I h) fun u s1 ⟨y,H1,I1,ry,q⟩=>d9 (ha pins s1 σ H1 _ I1 q) fun ov s2 ⟨x,H2,I2,rx,a,C,dx,fs,ex,ea,c,n,l,q2⟩=>?_) hs
 subst ex
 obtain rfl:ov = Value.ref a:=rx
 exact Af I2 ea c n l ry fun s3 I3=>⟨σ,_,I3,q2⟩
theorem gd {op:Operator} {rd:V->V->Hp->VK->Prop} (ha:PE X o ta) (hv:PE X value tv) (hop:OU X op rd):PS X (.AugAssign (.Attribute o f tpos) op value pos) (MG X.K ta tv rd f):=by
 intro pins s σ H D I h
 refine wpAny_AugAssign_AttributeAny (d9 (ha pins s σ H _ I h) fun ov s1 ⟨x,H1,I1,rx,a,C,dx,fs,v,ex,ea,c,n,l,q⟩=>?_)
 subst ex
 obtain rfl:ov = Value.ref a:=rx
 refine Ad I1 ea c n l fun u s2 I2 ru=>d9 (hv pins s2 σ H1 _ I2 q) fun w3 s3 ⟨y,H2,I3,ry,q3⟩=>d9 (hop pins s3 σ H2 v y u w3 _ I3 ru ry q3) fun w4 s4 ⟨z,H3,I4,rz,dx',fs',ea',l',q4⟩=>?_
 exact Af I4 ea' c n l' rz fun s5 I5=>⟨σ,_,I5,q4⟩
noncomputable def RU:V->V->Hp->VK->Prop:=fun x y H Q=>∃ i j,x = .int i/\y = .int j/\Q (.int (i + j)) H
noncomputable def RV:V->V->Hp->VK->Prop:=fun x y H Q=>∃ i j,x = .int i/\y = .int j/\Q (.int (i - j)) H
theorem rE:OU X .Add RU:=by
 rintro pins s σ H x y u v Q I rx ry ⟨i,j,rfl,rfl,q⟩
 obtain ⟨t,rfl⟩:=(show ∃ t,u = Value.int i t from rx)
 obtain ⟨t',rfl⟩:=(show ∃ t',v = Value.int j t' from ry)
 exact PyProof.Rows.iadd_int ⟨.int (i + j),H,I.tok _,⟨_,rfl⟩,q⟩
theorem Lw:OU X .Sub RV:=by
 rintro pins s σ H x y u v Q I rx ry ⟨i,j,rfl,rfl,q⟩
 obtain ⟨t,rfl⟩:=(show ∃ t,u = Value.int i t from rx)
 obtain ⟨t',rfl⟩:=(show ∃ t',v = Value.int j t' from ry)
 exact PyProof.Rows.isub_int ⟨.int (i - j),H,I.tok _,⟨_,rfl⟩,q⟩
end
section
variable {X:Cx} {pins:List (Addr × Obj)} {σ:St} {H:Hp} {s:Shared} {A:Around} {E:Value->Shared->Prop} {Q:Value->Shared->Prop} {c:Value} {b:Bool}
end
end L2
namespace L2
open PySem PySem.Spec PyProof.Rows
structure iZ (k:Nat) (A:Around):Prop where
 hd:A.handled = none
 dp:A.depth + 3 * k + 5 < recursionLimit
 un:A.units + 16 * k + 200 < cLine
theorem iZ.mono {j k:Nat} {A:Around} (r:iZ k A) (h:j<=k):iZ j A:=⟨r.hd,by have:=r.dp;omega,by have:=r.un;omega⟩
theorem iZ.deeper {k:Nat} {A:Around} (r:iZ (k + 1) A) (env:Env):iZ k (A.deeper env) :=
 ⟨r.hd,by have:=r.dp;show A.depth + 1 + 3 * k + 5 < _;omega,by have:=r.un;show A.units + 3 + 16 * k + 200 < _;omega⟩
theorem HB {A:Around} {C:Addr} {us:List Value} {kw:List (Str × Value)}:(A.under (.builtin "type.__call__" ⟨.ref C :: us,kw⟩)).depth = A.depth + 1:=by
 first | rfl | simp [Around.under,Code.weight,Code.isCreation,Code.isGuard,Code.isCaller,Code.frames,Code.isFrame,guardIds]
theorem HC {A:Around} {C:Addr} {us:List Value} {kw:List (Str × Value)}:(A.under (.builtin "type.__call__" ⟨.ref C :: us,kw⟩)).units = A.units + 1:=by
 first | rfl | simp [Around.under,Code.cUnits,Code.frames,Code.isFrame]
theorem iZ.make {k:Nat} {A:Around} (r:iZ (k + 1) A) (C:Addr) (us:List Value) (kw:List (Str × Value)):iZ k (A.under (.builtin "type.__call__" ⟨.ref C :: us,kw⟩)) :=
 ⟨r.hd,by have:=r.dp;rw [HB];omega,by have:=r.un;rw [HC];omega⟩
theorem iZ.depth {k:Nat} {A:Around} (r:iZ k A):A.depth < recursionLimit:=by have:=r.dp;omega
theorem iZ.units {k:Nat} {A:Around} (r:iZ k A):A.units + 64 < cLine:=by have:=r.un;omega
noncomputable def OV:TA:=fun _ H Q=>Q [] H
noncomputable def QG (ta:TE) (tr:TA):TA:=fun σ H Q=>ta σ H fun x H1=>tr σ H1 fun xs H2=>Q (x :: xs) H2
section
variable {X:Cx} {e:Expr} {es:List Expr} {te:TE} {t:TA} {pos:Pos}
theorem ag:PA X [] OV:=fun _ _ _ _ H Q I h=>Calls.spliced_nil ⟨[],H,I,.nil,h⟩
theorem aa (ha:PE X e te) (hr:PA X es t) (hs:starEach (e :: es) X.env = (false,eval e X.env) :: starEach es X.env:=by rfl):PA X (e :: es) (QG te t):=by
 intro pos pins s σ H Q I h
 rw [hs]
 show wpAny _ _ (spliced ((false,eval e X.env) :: backTo pos (starEach es X.env))) _ _ s
 refine Calls.spliced_cons (d9 (ha pins s σ H _ I h) fun u s1 ⟨x,H1,I1,r1,q1⟩=>?_)
 exact d9 (hr pos pins s1 σ H1 _ I1 q1) fun us s2 ⟨xs,H2,I2,r2,q2⟩=>⟨x :: xs,H2,I2,.cons r1 r2,q2⟩
noncomputable def RW (t:TA):TE:=fun σ H Q=>t σ H fun xs H1=>xs.length<=sizeLine/\∀ p,H1 p = none->Q (.ref p) (upd H1 p (.lst xs))
theorem dk (h:PA X es t):PE X (.List es pos) (RW t):=by
 intro pins s σ H Q I hq
 refine wpAny_List_spliced (d9 (h pos pins s σ H _ I hq) fun us s1 ⟨xs,H1,I1,r,z,q⟩=>⟨by rw [←r.length];exact z,?_⟩)
 have hf:H1 s1.heap.objs.size = none:=I1.bL.fresh (Nat.le_refl _)
 refine ⟨.ref s1.heap.objs.size,upd H1 s1.heap.objs.size (.lst xs),I1.laid (t':=s1.toks) (fun b u e=>Heap.get?_push_of_some _ e) (Nat.le_refl _) ?_,rfl,q _ hf⟩
 exact ⟨z,us,0,r,Heap.get?_push_size _ rfl⟩
end
abbrev Sp:=List V->Hp->VK->XK->Prop
abbrev Ho:=List Env->Hp->Shared->XK->Value->Shared->Prop
structure HD (P:Program) (w:World) (K:PySem.W.Frag) (mg:Str->Option Value) (base:Heap) (A:Around) (outer:List Env) (s:Shared) (H:Hp):Prop where
 frames:A.frames = some outer
 mod:Mod K mg base
 bs:∀ b o,base.get? b = some o->s.heap.get? b = some o/\H b = none
 Lf:base.objs.size<=s.heap.objs.size
 uC:s.heap.FunFrames base outer
 Mt:∀ b ∈ Bu outer,H b = none
 bL:qh P w H s.heap
 bare:AllBare s.gens
noncomputable def CE (outer:List Env) (P:Program) (w:World) (H:Hp) (s:Shared) (Q:VK) (u:Value) (s':Shared):Prop :=
 ∃ v H',s'.os = s.os/\AllBare s'.gens/\Un (Bu outer) [] H H' s.heap s'.heap/\qh P w H' s'.heap/\RelV v u/\Q v H'
noncomputable def CR (CX:Ho) (outer:List Env) (P:Program) (w:World) (H:Hp) (s:Shared) (Q:VK) (E:XK) (r:Result) (s':Shared):Prop :=
 match r with
 | .ok (.ret u)=>CE outer P w H s Q u s'
 | .ok _=>False
 | .error e=>CX outer H s E e s'
structure a8 (P:Program) (w:World) (K:PySem.W.Frag) (mg:Str->Option Value) (base:Heap) (CX:Ho) (k:Nat) (f:Addr) (fd:FuncData) (ps:List Str) (sp:Sp):Prop where
 len:∀ vs H Q E,sp vs H Q E->vs.length = ps.length
 run:∀ (A:Around) (outer:List Env) (s:Shared) (H:Hp) (args:Args) (us:List Value) (vs:List V) (Q:VK) (E:XK),iZ k A->HD P w K mg base A outer s H->BindsTo s fd args (ps.zip us)->Vals vs us->sp vs H Q E →
  codeAny (model P w) A (.call (.ref f) args) (CR CX outer P w H s Q E) s
theorem HD.make {P:Program} {w:World} {K:PySem.W.Frag} {mg:Str->Option Value} {base:Heap} {A:Around} {outer:List Env} {s:Shared} {H:Hp} (e:HD P w K mg base A outer s H) (C:Addr) (us:List Value) (kw:List (Str × Value)) :
  HD P w K mg base (A.under (.builtin "type.__call__" ⟨.ref C :: us,kw⟩)) outer s H:=⟨by first | exact e.frames | (simpa [Around.under,Code.envs,Code.isFrame,pushEnvs] using e.frames),e.mod,e.bs,e.Lf,e.uC,e.Mt,e.bL,e.bare⟩
section
variable {X:Cx} {pins:List (Addr × Obj)} {σ:St} {H:Hp} {s s':Shared}
theorem Inv.OW (I:Inv X pins σ H s):HD X.prog X.w X.K X.mg X.base X.A X.stack s H :=
 ⟨I.ok.frames,I.ok.mod,I.bs,Nat.le_trans I.ok.Lf I.sz,I.stack,I.C9,I.bL,I.bare⟩
theorem Inv.after {Q:VK} {u:Value} (I:Inv X pins σ H s) (h:CE X.stack X.prog X.w H s Q u s'):EP X pins σ Q u s':=by
 obtain ⟨v,H',os,bare,un,bL,r,q⟩:=h
 obtain ⟨hh,g,d,t,os'⟩:=s'
 obtain rfl:os' = s.os:=os
 exact ⟨v,H',I.call (h':=hh) (g':=g) (d':=d) (t':=t) (ch:=[]) un bL bare (fun b z=>absurd z (by simp)),r,q⟩
end
noncomputable def QH (sp:Sp) (dvs:List V) (E:XK) (t:TA):TE:=fun σ H Q=>t σ H fun vs H1=>sp (vs ++ dvs) H1 Q E
noncomputable def Od (C:Addr) (m:Str) (sp:Sp) (dvs:List V) (E:XK) (ta:TE) (t:TA):TE:=fun σ H Q=>ta σ H fun x H1=>∃ a dx fs,x = .ref a/\H1 a = some (.ins C dx fs)/\fs.lookup m = none ∧
 t σ H1 fun vs H2=>sp (x :: (vs ++ dvs)) H2 Q E
noncomputable def Oe (C:Addr) (sp:Sp) (dvs:List V) (E:XK) (t:TA):TE:=fun σ H Q=>t σ H fun vs H1=>∀ x dx,H1 x = none->H1 dx = none->dx ≠ x →
 sp (.ref x :: (vs ++ dvs)) (upd (upd H1 dx (.own x)) x (.ins C dx [])) (fun v H2=>v = .fR/\Q (.ref x) H2) E
noncomputable def Binds (K:PySem.W.Frag) (fd:FuncData) (ps:List Str) (ds:List Value):Prop :=
 ∀ (s:Shared) (us:List Value),K.In s.heap->(us ++ ds).length = ps.length->BindsTo s fd ⟨us,[]⟩ (ps.zip (us ++ ds))
theorem Binds.all {K:PySem.W.Frag} {fd:FuncData} {ps:List Str} (h:∀ us:List Value,us.length = ps.length->bindArgs fd ⟨us,[]⟩ = pure (ps.zip us)):Binds K fd ps []:=fun s us _ hl=>by
 rw [List.append_nil] at hl ⊢
 exact .of_eq (h us hl)
noncomputable def Passes (CX:Ho) (X:Cx) (E:XK):Prop:=∀ (pins:List (Addr × Obj)) (σ:St) (H:Hp) (s:Shared) (e:Value) (s':Shared),Inv X pins σ H s->CX X.stack H s E e s'->X.xe e s'
section
variable {X:Cx} {CX:Ho} {k:Nat} {f C:Addr} {fd:FuncData} {ps:List Str} {sp:Sp} {dvs:List V} {ds:List Value} {E:XK} {x m:Str} {p pos apos:Pos} {e o:Expr} {es:List Expr} {ta:TE} {t:TA}
theorem Dh {pins:List (Addr × Obj)} {σ:St} {H:Hp} {s:Shared} {Q:VK} {us:List Value} {vs:List V} (F:a8 X.prog X.w X.K X.mg X.base CX k f fd ps sp) (hr:iZ k X.A) (hb:Binds X.K fd ps ds) (hd:Vals dvs ds) (hx:Passes CX X E)
  (I:Inv X pins σ H s) (r:Vals vs us) (h:sp (vs ++ dvs) H Q E):wpAny (model X.prog X.w) X.A (call (.ref f) us) (EP X pins σ Q) X.xe s:=by
 have r2:Vals (vs ++ dvs) (us ++ ds):=r.append hd
 have hl:(us ++ ds).length = ps.length:=by rw [←r2.length];exact F.len _ _ _ _ h
 refine wpAny_call (codeAny_mono (F.run X.A X.stack s H ⟨us,[]⟩ (us ++ ds) (vs ++ dvs) Q E hr I.OW (hb s us I.yi hl) r2 h) fun r s' hq=>?_)
 cases r with
 | error e=>exact hx pins σ H s e s' I hq
 | ok fl =>
  cases fl with
  | ret u=>exact I.after hq
  | next=>exact False.elim hq
  | brk=>exact False.elim hq
  | cont=>exact False.elim hq
theorem aq (F:a8 X.prog X.w X.K X.mg X.base CX k f fd ps sp) (hr:iZ k X.A) (hg:Gl X x) (hm:X.mg x = some (.ref f)) (hk:PySem.W.keepIn X.K (.ref f) = true) (hb:Binds X.K fd ps ds) (hd:Vals dvs ds) (hx:Passes CX X E)
  (ha:PA X (e :: es) t) (hdb:(x == ("__debug__" : Str)) = false:=by decide) (he:starEach (e :: es) X.env = (false,eval e X.env) :: starEach es X.env:=by rfl) (hpl:(backTo pos (starEach es X.env)).any (·.1) = false:=by rfl) :
  PE X (.Call (.Name x p) (e :: es) [] pos) (QH sp dvs E t):=by
 intro pins s σ H Q I h
 refine wpAny_Call_Name_kw (sR I hg hm ?_ hdb)
 refine PySem.W.callWith_K (h₀:=X.base) I.ok.mod.OG hk (d9 (ha pos pins s σ H _ I h) fun us s1 ⟨vs,H1,I1,r,q⟩=>⟨I1.yi,?_⟩) he hpl
 exact Dh F hr hb hd hx I1 r q
theorem mz {pl:Sem Bool} (he:PE X o ta) (c:Cv X.K C) (hm:Meth X.K C m f) (F:a8 X.prog X.w X.K X.mg X.base CX k f fd ps sp) (hr:iZ k X.A) (hb:Binds X.K fd ps ds) (hd:Vals dvs ds) (hx:Passes CX X E) (ha:PA X (e :: es) t)
  (hst:starEach (e :: es) X.env = (false,eval e X.env) :: starEach es X.env:=by rfl) (hpl:(backTo pos (starEach es X.env)).any (·.1) = false:=by rfl)
  (ht:eval (.Call (.Attribute o m apos) (e :: es) [] pos) X.env = (do
   let ov ←eval o X.env
   standAt apos.atName
   let (f,first) ←holding [ov] (getMethod ov m pl)
   callWith pos f first (backTo pos (starEach (e :: es) X.env)) (backToKw pos (keywordEach [] X.env))):=by rfl) :
  PE X (.Call (.Attribute o m apos) (e :: es) [] pos) (Od C m sp dvs E ta t):=by
 intro pins s σ H Q I h
 refine PySem.W.methodCall_KW (pl:=pl) (d9 (he pins s σ H _ I h) fun u s1 ⟨x,H1,I1,rx,a,dx,fs,ex,ea,l,q⟩=>?_) ht
 subst ex
 obtain rfl:u = Value.ref a:=rx
 refine Ae I1 ea c hm l ?_
 refine PySem.W.callWith_K (first:=[.ref a]) (h₀:=X.base) I.ok.mod.OG hm.kp (d9 (ha pos pins s1 σ H1 _ I1 q) fun us s2 ⟨vs,H2,I2,r,q2⟩=>⟨I2.yi,?_⟩) hst hpl
 exact Dh (us:=.ref a :: us) (vs:=.ref a :: vs) F hr hb hd hx I2 (.cons rfl r) q2
theorem bg {pl:Sem Bool} (he:PE X o ta) (c:Cv X.K C) (hm:Meth X.K C m f) (F:a8 X.prog X.w X.K X.mg X.base CX k f fd ps sp) (hr:iZ k X.A) (hb:Binds X.K fd ps ds) (hd:Vals dvs ds) (hx:Passes CX X E)
  (ht:eval (.Call (.Attribute o m apos) [] [] pos) X.env = (do
   let ov ←eval o X.env
   standAt apos.atName
   let (f,first) ←holding [ov] (getMethod ov m pl)
   callWith pos f first (backTo pos (starEach [] X.env)) (backToKw pos (keywordEach [] X.env))):=by rfl) :
  PE X (.Call (.Attribute o m apos) [] [] pos) (Od C m sp dvs E ta OV):=by
 intro pins s σ H Q I h
 refine PySem.W.methodCall_KW (pl:=pl) (d9 (he pins s σ H _ I h) fun u s1 ⟨x,H1,I1,rx,a,dx,fs,ex,ea,l,q⟩=>?_) ht
 subst ex
 obtain rfl:u = Value.ref a:=rx
 refine Ae I1 ea c hm l ?_
 exact PySem.W.callWith_K0 (first:=[.ref a]) I1.yi hm.kp (Dh (us:=[.ref a]) (vs:=[.ref a]) F hr hb hd hx I1 (.cons rfl .nil) q)
structure Mk (K:PySem.W.Frag) (C f:Addr):Prop where
 makes:PySem.W.makesIn K C = true
 init:PySem.W.findIn K (.ref C) "__init__" = some (some (.ref f))
 fn:PySem.W.isFn K (.ref f) = true
 kp:PySem.W.keepIn K (.ref C) = true
theorem Fl {pins:List (Addr × Obj)} {σ:St} {H:Hp} {s:Shared} {Q:VK} {us:List Value} {vs:List V} (M:Mk X.K C f) (F:a8 X.prog X.w X.K X.mg X.base CX k f fd ps sp) (hr:iZ (k + 1) X.A) (hb:Binds X.K fd ps ds) (hd:Vals dvs ds)
  (hx:Passes CX X E) (I:Inv X pins σ H s) (r:Vals vs us)
  (h:∀ x dx,H x = none->H dx = none->dx ≠ x->sp (.ref x :: (vs ++ dvs)) (upd (upd H dx (.own x)) x (.ins C dx [])) (fun v H2=>v = .fR/\Q (.ref x) H2) E) :
  wpAny (model X.prog X.w) X.A (call (.ref C) us) (EP X pins σ Q) X.xe s:=by
 have hq:=h (s.heap.objs.size + 1) s.heap.objs.size (I.bL.fresh (Nat.le_succ _)) (I.bL.fresh (Nat.le_refl _)) (Nat.ne_of_lt (Nat.lt_succ_self _))
 have I2:=Inv.made (C:=C) I
 have r2:Vals (V.ref (s.heap.objs.size + 1) :: (vs ++ dvs)) (Value.ref (s.heap.objs.size + 1) :: (us ++ ds)):=.cons rfl (r.append hd)
 have hl:(Value.ref (s.heap.objs.size + 1) :: us ++ ds).length = ps.length:=by
  have e:=r2.length
  rw [F.len _ _ _ _ hq] at e
  exact e.symm
 refine wpAny_call (Lv (f:=f) I.yi M.makes M.init (beq_iff_eq.mp M.fn) (codeAny_mono (F.run _ X.stack _ _ ⟨Value.ref (s.heap.objs.size + 1) :: us,[]⟩ (Value.ref (s.heap.objs.size + 1) :: (us ++ ds)) _ _ E (hr.make C us [])
  (I2.OW.make C us []) (hb _ (Value.ref (s.heap.objs.size + 1) :: us) I2.yi hl) r2 hq) fun r s' hq'=>?_))
 cases r with
 | error e=>exact hx pins σ _ _ e s' I2 hq'
 | ok fl =>
  cases fl with
  | ret u =>
   obtain ⟨v,H',I3,rv,ev,q3⟩:=I2.after hq'
   subst ev
   exact ⟨rv,⟨V.ref (s.heap.objs.size + 1),H',I3,rfl,q3⟩⟩
  | next=>exact False.elim hq'
  | brk=>exact False.elim hq'
  | cont=>exact False.elim hq'
theorem mB (M:Mk X.K C f) (F:a8 X.prog X.w X.K X.mg X.base CX k f fd ps sp) (hr:iZ (k + 1) X.A) (hg:Gl X x) (hm:X.mg x = some (.ref C)) (hb:Binds X.K fd ps ds) (hd:Vals dvs ds) (hx:Passes CX X E)
  (ha:PA X (e :: es) t) (hdb:(x == ("__debug__" : Str)) = false:=by decide) (he:starEach (e :: es) X.env = (false,eval e X.env) :: starEach es X.env:=by rfl) (hpl:(backTo pos (starEach es X.env)).any (·.1) = false:=by rfl) :
  PE X (.Call (.Name x p) (e :: es) [] pos) (Oe C sp dvs E t):=by
 intro pins s σ H Q I h
 refine wpAny_Call_Name_kw (sR I hg hm ?_ hdb)
 refine PySem.W.callWith_K (h₀:=X.base) I.ok.mod.OG M.kp (d9 (ha pos pins s σ H _ I h) fun us s1 ⟨vs,H1,I1,r,q⟩=>⟨I1.yi,?_⟩) he hpl
 exact Fl M F hr hb hd hx I1 r q
theorem Ag (M:Mk X.K C f) (F:a8 X.prog X.w X.K X.mg X.base CX k f fd ps sp) (hr:iZ (k + 1) X.A) (hg:Gl X x) (hm:X.mg x = some (.ref C)) (hb:Binds X.K fd ps ds) (hd:Vals dvs ds) (hx:Passes CX X E)
  (hdb:(x == ("__debug__" : Str)) = false:=by decide):PE X (.Call (.Name x p) [] [] pos) (Oe C sp dvs E OV):=by
 intro pins s σ H Q I h
 refine wpAny_Call_Name_kw (sR I hg hm ?_ hdb)
 exact PySem.W.callWith_K0 I.yi M.kp (Fl (us:=[]) M F hr hb hd hx I .nil h)
end
section
variable {X:Cx} {CX:Ho} {k:Nat} {f C:Addr} {fd:FuncData} {ps ks:List Str} {sp:Sp} {E:XK} {x m:Str} {p pos apos kpos:Pos} {e o:Expr} {es:List Expr} {kws:List Keyword} {te ta:TE} {t tk:TA} {nm:Option Str}
variable {g:List Value->List Value->List Value} {gV:List V->List V->List V}
end
structure au (N P:List Str) (sc:Scope):Prop where
 kind:sc.kind = .function
 co:sc.isCoroutine = false
 gen:sc.isGenerator = false
 nd:N.Nodup
 pre:N.take P.length = P
 par:∀ x ∈ P,sc.names.lookup x = some .local\/sc.names.lookup x = some .cell
 OX:∀ y ∈ sc.names,y.2 ≠ .free
theorem Cw {kindOf:Str->Option NameKind} {x:Str}:∀ {binds:List (Str × Value)} {m:Str->Option Value},(∀ v,(x,v) ∉ binds)->bindL kindOf binds m x = m x
 | [],_,_=>rfl
 | (n,v) :: r,m,h=>by
  unfold bindL
  rw [Cw fun w hw=>h w (List.mem_cons_of_mem _ hw)]
  split
  ·have:x ≠ n:=by rintro rfl;exact h v List.mem_cons_self
   simp [this]
  ·rfl
theorem Cy {kindOf:Str->Option NameKind} {x:Str}:∀ {binds:List (Str × Value)} {m:Str->Option Value},(∀ v,(x,v) ∉ binds)->bindC kindOf binds m x = m x
 | [],_,_=>rfl
 | (n,v) :: r,m,h=>by
  unfold bindC
  rw [Cy fun w hw=>h w (List.mem_cons_of_mem _ hw)]
  split
  ·rfl
  ·have:x ≠ n:=by rintro rfl;exact h v List.mem_cons_self
   simp [this]
theorem Cz {kindOf:Str->Option NameKind} {x:Str} {v:Value}:∀ {P:List Str} {vs:List Value} {i:Nat} {m:Str->Option Value},P.Nodup->P[i]? = some x->vs[i]? = some v->kindOf x = some .local →
  bindL kindOf (P.zip vs) m x = some v
 | [],_,_,_,_,h,_,_=>by simp at h
 | _ :: _,[],_,_,_,_,h,_=>by simp at h
 | p :: P,w :: vs,0,m,nd,h1,h2,hk=>by
  simp at h1 h2;subst h1;subst h2
  show bindL kindOf ((p,w) :: P.zip vs) m p = _
  unfold bindL
  rw [Cw fun v hv=>(List.nodup_cons.mp nd).1 (List.of_mem_zip hv).1,if_pos hk]
  simp
 | p :: P,w :: vs,i + 1,m,nd,h1,h2,hk=>by
  show bindL kindOf ((p,w) :: P.zip vs) m x = _
  unfold bindL
  exact Cz (i:=i) (List.nodup_cons.mp nd).2 (by simpa using h1) (by simpa using h2) hk
theorem CA {kindOf:Str->Option NameKind} {x:Str} {v:Value}:∀ {P:List Str} {vs:List Value} {i:Nat} {m:Str->Option Value},P.Nodup->P[i]? = some x->vs[i]? = some v->kindOf x ≠ some .local →
  bindC kindOf (P.zip vs) m x = some v
 | [],_,_,_,_,h,_,_=>by simp at h
 | _ :: _,[],_,_,_,_,h,_=>by simp at h
 | p :: P,w :: vs,0,m,nd,h1,h2,hk=>by
  simp at h1 h2;subst h1;subst h2
  show bindC kindOf ((p,w) :: P.zip vs) m p = _
  unfold bindC
  rw [Cy fun v hv=>(List.nodup_cons.mp nd).1 (List.of_mem_zip hv).1,if_neg hk]
  simp
 | p :: P,w :: vs,i + 1,m,nd,h1,h2,hk=>by
  show bindC kindOf ((p,w) :: P.zip vs) m x = _
  unfold bindC
  exact CA (i:=i) (List.nodup_cons.mp nd).2 (by simpa using h1) (by simpa using h2) hk
noncomputable def start (N:List Str) (vs:List V):St:=vs.map some ++ List.replicate (N.length - vs.length) none
noncomputable def Fm (CX:Ho) (P:Program) (w:World) (K:PySem.W.Frag) (mg:Str->Option Value) (base:Heap) (N:List Str) (qual:Str) (scope:Scope) (f:Addr) (cd:Value) (A:Around) (outer:List Env) (s:Shared) (H:Hp) (E:XK):Cx where
 prog:=P
 w:=w
 K:=K
 mg:=mg
 base:=base
 A:=A.deeper (envOfC qual scope s.heap.objs.size f cd)
 N:=N
 vp:=s
 Ms:=H
 env:=envOfC qual scope s.heap.objs.size f cd
 outer:=outer
 stack:=envOfC qual scope s.heap.objs.size f cd :: outer
 ex:=[]
 calm:=true
 fn:=fun _=>true
 pn:=[]
 xe:=fun e s'=>wpAny (model P w) (A.deeper (envOfC qual scope s.heap.objs.size f cd)) (leaving (envOfC qual scope s.heap.objs.size f cd) e) (fun _ s''=>CX outer H s E e s'') (fun e' s''=>CX outer H s E e' s'') s'
theorem Fn {sc:Scope} {n:Nat} {x:Str} (h:sc.names.lookup x = some .cell):∃ c,(cellsFrom n sc.names []).lookup x = some c:=by
 have q:=PySem.W.cellsFrom_some sc.names n [] (.inl h)
 exact Option.isSome_iff_exists.mp q
theorem JS {CX:Ho} {P:Program} {w:World} {K:PySem.W.Frag} {mg:Str->Option Value} {base:Heap} {N ps:List Str} {qual:Str} {scope:Scope} {f:Addr} {cd:Value} {A:Around} {outer:List Env} {s s1:Shared} {H:Hp} {E:XK} {us:List Value} {vs:List V}
  (S:au N ps scope) (hd:A.handled = none) (e0:HD P w K mg base A outer s H) (hl:vs.length = ps.length) (r:Vals vs us)
  (x:InCallC s s.heap.objs.size (bindL (envOfC qual scope s.heap.objs.size f cd).kindOf (ps.zip us) fun _=>none) (cellsFrom (s.heap.objs.size + 1) scope.names []) (bindC (envOfC qual scope s.heap.objs.size f cd).kindOf (ps.zip us) fun _=>none) s1) :
  Inv (Fm CX P w K mg base N qual scope f cd A outer s H E) [] (start N vs) H s1:=by
 have hpl:ps.length<=N.length:=by have:=congrArg List.length S.pre;rw [List.length_take] at this;omega
 obtain ⟨h1,tk,rfl,hk⟩:=x.done
 have noA:∀ b:Addr,b ∉ (Fm CX P w K mg base N qual scope f cd A outer s H E).ex:=fun b z=>absurd (show b ∈ ([]:List Addr) from z) (by simp)
 refine ⟨⟨e0.mod,S.kind,rfl,rfl,Nat.le_refl _,fun y z c h1 h2=>?_,fun y hy=>?_,fun y c _ h=>?_,fun _=>hd,Around.frames_deeper e0.frames,.inr ⟨rfl,rfl⟩,fun b z=>absurd z (noA b),e0.bs,e0.Lf,fun b _ _=>noA b,fun b z=>absurd z (noA b),e0.uC,e0.Mt⟩,
  rfl,e0.bare,Un.kept hk,⟨_,x.toInCall.ns,fun i y v h1 h2 h3=>?_⟩,fun y c h=>⟨_,x.cell y c h⟩,e0.bL.fresh (Nat.le_refl _),fun y c h=>?_,fun p hp=>absurd (show p ∈ ([]:List (Addr × Obj)) from hp) (by simp),e0.bL.kept hk,?_⟩
 ·exact name_of_addr x.apart (PySem.mem_of_lookup h1) (PySem.mem_of_lookup h2)
 ·have hy:scope.names.lookup y = some .cell\/scope.names.lookup y = some .free:=hy
  rcases hy with hy | hy
  ·exact Fn hy
  ·exact absurd rfl (S.OX _ (PySem.mem_of_lookup hy))
 ·exact Nat.le_of_lt (x.above y c (PySem.mem_of_lookup h))
 ·have hi:i < vs.length:=by
   unfold start at h2
   by_cases hi:i < vs.length
   ·exact hi
   ·rw [List.getElem?_append_right (by simpa using hi)] at h2
    rw [List.getElem?_replicate] at h2
    split at h2 <;> cases h2
  have ha:vs[i]? = some v:=by
   unfold start at h2
   rw [List.getElem?_append_left (by simpa using hi),List.getElem?_map] at h2
   cases e:vs[i]? with
   | none=>rw [e] at h2;cases h2
   | some a=>rw [e] at h2;cases h2;rfl
  obtain ⟨u,hu,rv⟩:=r.get ha
  have hp:ps[i]? = some y:=by
   rw [←S.pre,List.getElem?_take_of_lt (by omega)];exact h1
  have ndP:ps.Nodup:=by rw [←S.pre];exact S.nd.sublist (List.take_sublist _ _)
  refine ⟨u,rv,?_⟩
  rcases S.par y (List.mem_of_getElem? hp) with k | k
  ·exact .inl ⟨k,Cz ndP hp hu k⟩
  ·obtain ⟨c,e⟩:=Fn (n:=s.heap.objs.size + 1) k
   refine .inr ⟨.inl k,c,e,?_⟩
   have q:=x.cell y c e
   rw [CA ndP hp hu (by show scope.names.lookup y ≠ _;rw [k];decide)] at q
   exact q
 ·exact e0.bL.fresh (Nat.le_of_lt (x.above y c (PySem.mem_of_lookup h)))
 ·unfold start
  show _ = N.length
  rw [List.length_append,List.length_map,List.length_replicate]
  omega
theorem Of {CX:Ho} {P:Program} {w:World} {K:PySem.W.Frag} {mg:Str->Option Value} {base:Heap} {k:Nat} {f:Addr} {name qual:Str} {params:Arguments} {body:List Stmt} {scope:Scope} {dV kV doc pm cdv ct oc:Value} {an od:Option Addr}
  {osl:Array (Option Value)} {N ps:List Str} {sp:Sp} (lk:K.lookup f = some ⟨oc,od,.func (PySem.W.fnOf name qual params body scope dV kV doc pm an cdv ct),osl⟩) (hcd:PySem.W.codeIn K cdv qual = true) (S:au N ps scope)
  (len:∀ vs H Q E,sp vs H Q E->vs.length = ps.length)
  (hbody:∀ (A:Around) (outer:List Env) (s:Shared) (H:Hp) (vs:List V) (Q:VK) (E:XK),iZ k (A.deeper (envOfC qual scope s.heap.objs.size f cdv))->sp vs H Q E →
   ∃ t,Hn (Fm CX P w K mg base N qual scope f cdv A outer s H E) body t/\t { nx:=fun _ H'=>Q .fR H',rt:=Q } (start N vs) H) :
  a8 P w K mg base CX (k + 1) f (PySem.W.fnOf name qual params body scope dV kV doc pm an cdv ct) ps sp:=by
 refine ⟨len,fun A outer s H args us vs Q E hr e0 hb r hsp=>?_⟩
 have hl:=len _ _ _ _ hsp
 have KX:K.In s.heap:=e0.mod.OG.keeps fun b o e=>(e0.bs b o e).1
 have lim:s.heap.NoLimit:=e0.mod.nolimit.keeps fun b o e=>(e0.bs b o e).1
 have hkind:∀ y ∈ ps.zip us,scope.names.lookup y.1 = some .local\/(scope.names.lookup y.1 = some .cell/\((cellsFrom (s.heap.objs.size + 1) scope.names []).lookup y.1).isSome = true):=fun ⟨n,v⟩ hy=>by
  rcases S.par n (List.of_mem_zip hy).1 with q | q
  ·exact .inl q
  ·exact .inr ⟨q,PySem.W.cellsFrom_some _ _ _ (.inl q)⟩
 refine codeAny_call_function hr.depth (KX _ _ lk) rfl S.co S.gen rfl (PySem.W.codeRec_of KX hcd) (hb _ _ _ _ ?_)
 refine wpAny_newFunctionEnv_cells S.kind hkind fun env he s1 x=>?_
 subst he
 refine ⟨lim.keeps x.toInCall.keep,codeAny_func ?_⟩
 obtain ⟨t,ht,hq⟩:=hbody A outer s H vs Q E (hr.deeper _) hsp
 have I:Inv (Fm CX P w K mg base N qual scope f cdv A outer s H E) [] (start N vs) H s1:=JS S hr.hd e0 hl r x
 refine wpAny_mono (ht [] s1 (start N vs) H _ I hq) (fun fl s' hs=>?_) fun e s' hs=>hs
 have fin:∀ {σ':St} {H':Hp} {v:V} {u:Value},Inv (Fm CX P w K mg base N qual scope f cdv A outer s H E) [] σ' H' s'->RelV v u->Q v H'->CE outer P w H s Q u s' :=
  fun {σ' H' v u} J rv q=>⟨v,H',J.os,J.bare,J.base,J.bL,rv,q⟩
 cases fl with
 | ret u =>
  obtain ⟨v,σ',H',J,rv,q⟩:=hs
  exact fin J rv q
 | next =>
  obtain ⟨σ',H',J,q⟩:=hs
  exact fin (v:=V.fR) (u:=Value.none) J rfl q
 | brk =>
  obtain ⟨_,_,_,q⟩:=hs
  exact False.elim q
 | cont =>
  obtain ⟨_,_,_,q⟩:=hs
  exact False.elim q
end L2
namespace L2
open PySem PySem.Spec PyProof.Rows
section
variable {X:Cx} {x:Str} {p pos:Pos} {e:Expr} {es:List Expr} {t:TA} {id T:String} {r:List V->Hp->VK->Prop}
noncomputable def SH (r:List V->Hp->VK->Prop) (t:TA):TE:=fun σ H Q=>t σ H fun vs H1=>r vs H1 Q
theorem aZ (hc:yj X (.builtin id) r) (hg:Gl X x) (hm:X.mg x = none) (hv:bootBuiltins x = some (.builtin id)) (ha:PA X (e :: es) t) (hn:x ≠ "__name__":=by decide) (hdb:(x == ("__debug__" : Str)) = false:=by decide)
  (he:starEach (e :: es) X.env = (false,eval e X.env) :: starEach es X.env:=by rfl) (hpl:(backTo pos (starEach es X.env)).any (·.1) = false:=by rfl):PE X (.Call (.Name x p) (e :: es) [] pos) (SH r t):=by
 intro pins s σ H Q I h
 refine wpAny_Call_Name_kw (qi I hg hm hv ?_ hn hdb)
 exact PyProof.Rows.callWith_builtin1 (d9 (ha pos pins s σ H _ I h) fun us s1 ⟨vs,H1,I1,r1,q1⟩=>hc pins s1 σ H1 vs us Q I1 r1 q1) he hpl
theorem JT (hc:yj X (.type T) r) (hg:Gl X x) (hm:X.mg x = none) (hv:bootBuiltins x = some (.type T)) (ha:PA X (e :: es) t) (hn:x ≠ "__name__":=by decide) (hdb:(x == ("__debug__" : Str)) = false:=by decide)
  (he:starEach (e :: es) X.env = (false,eval e X.env) :: starEach es X.env:=by rfl) (hpl:(backTo pos (starEach es X.env)).any (·.1) = false:=by rfl):PE X (.Call (.Name x p) (e :: es) [] pos) (SH r t):=by
 intro pins s σ H Q I h
 refine wpAny_Call_Name_kw (qi I hg hm hv ?_ hn hdb)
 exact PyProof.Rows.callWith_type1 (d9 (ha pos pins s σ H _ I h) fun us s1 ⟨vs,H1,I1,r1,q1⟩=>hc pins s1 σ H1 vs us Q I1 r1 q1) he hpl
end
end L2
namespace HT
open PySem PyProof.Rows
section
open PySem.SeqAt
open PySem.AutoSeq1 (wpAny_loadPart')
open PySem.MeetsSeq PySem.MeetsSeq2 PySem.MeetsSeq3
end
section
variable {prog:Program} {w:World} {A:Around} {E:Value->Shared->Prop} {s:Shared}
noncomputable def Hq (n d:Nat):Option Int->Nat
 | none=>d
 | some v=>if v < 0 then (v + (n:Int)).toNat else min v.toNat n
theorem zA (n d k:Nat):Hq n d (some (k:Int)) = min k n:=by
 show (if (k:Int) < 0 then ((k:Int) + (n:Int)).toNat else min (k:Int).toNat n) = min k n
 rw [if_neg (by omega),Int.toNat_natCast]
end
end HT
namespace L2
open PySem PySem.Spec PyProof.Rows
abbrev TO:=St->Hp->(Option Int->Hp->Prop)->Prop
noncomputable def PO (X:Cx) (e:Option Expr) (t:TO):Prop :=
 ∀ (pins:List (Addr × Obj)) (s:Shared) (σ:St) (H:Hp) (Q:Option Int->Hp->Prop),Inv X pins σ H s->t σ H Q →
  wpAny (model X.prog X.w) X.A (evalPart e X.env) (fun u s'=>∃ o H',Inv X pins σ H' s'/\IsPart u o/\Q o H') X.xe s
noncomputable def QI (t:TE):TO:=fun σ H Q=>t σ H fun x H1=>∃ i,x = .int i/\Q (some i) H1
section
variable {X:Cx} {e:Expr} {te:TE} {lo hi:Option Expr} {tl th:TO} {pos p2:Pos}
theorem zB (h:PE X e te):PO X (some e) (QI te):=by
 intro pins s σ H Q I hw
 rw [evalPart_some]
 refine d9 (h pins s σ H _ I hw) fun u s1 ⟨x,H1,I1,r1,q1⟩=>?_
 obtain ⟨i,rfl,q⟩:=q1
 obtain ⟨t,rfl⟩:=r1
 exact ⟨some i,H1,I1,.int i t,q⟩
noncomputable def SI (X:Cx) (r:V->Option Int->Option Int->Hp->VK->Prop):Prop :=
 ∀ (pins:List (Addr × Obj)) (s:Shared) (σ:St) (H:Hp) (x:V) (v vl vu:Value) (lo hi:Option Int) (sl:Addr) (Q:VK),Inv X pins σ H s->RelV x v->s.heap.IsSliceOf sl vl vu .none->IsPart vl lo->IsPart vu hi->r x lo hi H Q →
  ∃ T id,typeLookup (.type T) "__getitem__" = pure (some (.builtin id))/\s.TypeIs v T/\wpAny (model X.prog X.w) X.A (getItem v (.ref sl)) (EP X pins σ Q) X.xe s
noncomputable def S2 (r:V->Option Int->Option Int->Hp->VK->Prop) (te:TE) (tl th:TO):TE:=fun σ H Q=>te σ H fun x H1=>tl σ H1 fun l H2=>th σ H2 fun u H3=>r x l u H3 Q
theorem Fo {r:V->Option Int->Option Int->Hp->VK->Prop} (hr:SI X r) (he:PE X e te) (hl:PO X lo tl) (hu:PO X hi th):PE X (.Subscript e (.Slice lo hi none p2) pos) (S2 r te tl th):=by
 intro pins s σ H Q I h
 refine Subscript_ (d9 (he pins s σ H _ I h) fun v s1 ⟨x,H1,I1,r1,q1⟩=>?_)
 refine wpAny_Slice (d9 (hl pins s1 σ H1 _ I1 q1) fun vl s2 ⟨l,H2,I2,pl,q2⟩=>d9 (hu pins s2 σ H2 _ I2 q2) fun vu s3 ⟨u,H3,I3,pu,q3⟩=>?_)
 rw [evalPart_none]
 refine wpAny_pure ?_
 have I4:Inv X pins σ H3 { s3 with heap:=s3.heap.push { cls:=.type "slice",data:=.fields #[vl,vu,.none] } }:=I3.kept (t':=s3.toks) fun b ob q=>Heap.get?_push_of_some _ q
 obtain ⟨T,id,hT,ht,hg⟩:=hr pins { s3 with heap:=s3.heap.push { cls:=.type "slice",data:=.fields #[vl,vu,.none] } } σ H3 x v vl vu l u s3.heap.objs.size Q I4 r1 (Heap.IsSliceOf.new ..) pl pu q3
 show wpAny (model X.prog X.w) X.A (subscriptTail e (.Slice lo hi none p2) v (.ref s3.heap.objs.size)) (EP X pins σ Q) X.xe { s3 with heap:=s3.heap.push { cls:=.type "slice",data:=.fields #[vl,vu,.none] } }
 exact tail_any (ops:=[.ref s3.heap.objs.size,v]) ht hT hg (by with_unfolding_all rfl)
noncomputable def Di (xs:List V) (lo hi:Option Int):List V:=(xs.drop (HT.Hq xs.length 0 lo)).take (HT.Hq xs.length xs.length hi - HT.Hq xs.length 0 lo)
theorem Fp (xs:List V) (lo hi:Option Int):(Di xs lo hi).length<=xs.length:=by
 unfold Di
 rw [List.length_take,List.length_drop]
 omega
end
end L2
namespace L2
open PySem PySem.Spec PyProof.Rows
noncomputable def Qe (n:Nat) (i:Int):Option Nat:=if 0<=i then (if i < n then some i.toNat else none) else if -(n:Int)<=i then some (i + n).toNat else none
noncomputable def Mv {α:Type} (xs:List α) (i:Int):Option α:=(Qe xs.length i).bind fun j=>xs[j]?
theorem MH {n:Nat} {i:Int} {j:Nat} (h:Qe n i = some j):seqIndex? i n = some j/\j < n/\-(n:Int)<=i/\i < n:=by
 unfold Qe at h
 by_cases h0:0<=i
 ·rw [if_pos h0] at h
  by_cases h1:i < n
  ·rw [if_pos h1] at h
   have e:i.toNat = j:=Option.some.inj h
   exact ⟨by rw [seqIndex_of h0 h1,e],by omega,by omega,h1⟩
  ·rw [if_neg h1] at h;cases h
 ·rw [if_neg h0] at h
  by_cases h1:-(n:Int)<=i
  ·rw [if_pos h1] at h
   have e:(i + n).toNat = j:=Option.some.inj h
   exact ⟨by rw [seqIndex_neg (by omega) h1,e],by omega,h1,by omega⟩
  ·rw [if_neg h1] at h;cases h
theorem Dj {α:Type} {xs:List α} {i:Int} {v:α} (h:Mv xs i = some v):∃ j,seqIndex? i xs.length = some j/\xs[j]? = some v/\j < xs.length/\-(xs.length:Int)<=i/\i < xs.length:=by
 unfold Mv at h
 cases e:Qe xs.length i with
 | none=>rw [e] at h;cases h
 | some j =>
  rw [e] at h
  obtain ⟨h1,h2,h3,h4⟩:=MH e
  exact ⟨j,h1,h,h2,h3,h4⟩
theorem mC {α:Type} {xs:List α} {j:Nat} {v:α} (h:xs[j]? = some v):Mv xs (j:Int) = some v:=by
 have hj:j < xs.length:=(List.getElem?_eq_some_iff.mp h).1
 have e:Qe xs.length (j:Int) = some j:=by
  unfold Qe
  rw [if_pos (by omega),if_pos (by omega)];simp
 unfold Mv;rw [e];exact h
noncomputable def MI (b:Expr):Prop:=∀ o i,subscripted b false o i = operate [o,i] (getItem o i)
noncomputable def Rv (X:Cx) (r:R2):Prop :=
 ∀ (value slice:Expr) (pins:List (Addr × Obj)) (s:Shared) (σ:St) (H:Hp) (x y:V) (v u:Value) (Q:VK),Inv X pins σ H s->RelV x v->RelV y u->r x y H Q →
  subscripted slice false v u = operate [v,u] (getItem v u)->wpAny (model X.prog X.w) X.A (subscriptTail value slice v u) (EP X pins σ Q) X.xe s
noncomputable def Qg (X:Cx) (id:String) (r:V->List V->Hp->VK->Prop):Prop :=
 ∀ (pins:List (Addr × Obj)) (s:Shared) (σ:St) (H:Hp) (x:V) (xs:List V) (v:Value) (us:List Value) (Q:VK),Inv X pins σ H s->RelV x v->Vals xs us->r x xs H Q →
  wpAny (model X.prog X.w) X.A (call (.builtin id) (v :: us)) (EP X pins σ Q) X.xe s
section
variable {X:Cx} {a b:Expr} {ta tb:TE} {pos:Pos}
theorem kz {r:R2} (hr:Rv X r) (ha:PE X a ta) (hb:PE X b tb) (hs:MI b):PE X (.Subscript a b pos) (Qb r ta tb):=by
 intro pins s σ H Q I h
 exact Subscript_ (ON ha hb I h fun v u s2 x y H2 I2 rx ry q=>hr a b pins s2 σ H2 x y v u Q I2 rx ry q (hs _ _))
noncomputable def RX (K:PySem.W.Frag):R2:=fun x y H Q=>∃ p xs i v,x = .ref p/\y = .int i/\dj K H p xs/\Mv xs i = some v/\Q v H
noncomputable def RY (K:PySem.W.Frag):R2:=fun x y H Q=>∃ p xs i v,x = .ref p/\y = .int i/\yD K H p xs/\Mv xs i = some v/\Q v H
noncomputable def RZ:R2:=fun x y H Q=>∃ z i c,x = .str z/\y = .int i/\z.length<=sizeLine/\Mv z.cps.toList i = some c/\Q (.str ⟨#[c]⟩) H
theorem h9:Rv X (RX X.K):=by
 intro value slice pins s σ H x y v u Q I rx ry h hs
 obtain ⟨p,xs,i,z,rfl,rfl,hq,he,q⟩:=h
 cases rx
 obtain ⟨t,rfl⟩:=ry
 obtain ⟨its,r,pl,hz⟩:=I.list hq
 obtain ⟨j,h1,h2,h3,h4,h5⟩:=Dj he
 obtain ⟨w,ew,rw'⟩:=r.get h2
 have hl:=r.length
 have hn:=Ac
 have fin:EP X pins σ Q w s:=⟨z,H,I,rw',q⟩
 by_cases h0:0<=i
 ·have hj:i.toNat = j:=by
   rw [seqIndex_of h0 h5] at h1
   exact Option.some.inj h1
  exact item_listR pl.isList h0 (by omega) (by rw [hj];simpa using ew) fin hs
 ·have hj:(i + (its.toArray.size:Int)).toNat = j:=by
   rw [seqIndex_neg (by omega) h4] at h1
   rw [List.size_toArray,←hl]
   exact Option.some.inj h1
  exact subscriptTail_builtinR (x:=w) pl.isList.typeIs slot_list_getitem.lookup
   (wpAny_getItem_list_neg (Q:=fun r s'=>r = w/\EP X pins σ Q r s') pl.isList (by omega) (by rw [List.size_toArray] <;> omega) (by omega) (by rw [hj];simpa using ew) ⟨rfl,fin⟩) hs
theorem OY:Rv X (RY X.K):=by
 intro value slice pins s σ H x y v u Q I rx ry h hs
 obtain ⟨p,xs,i,z,rfl,rfl,hq,he,q⟩:=h
 cases rx
 obtain ⟨t,rfl⟩:=ry
 obtain ⟨its,r,pl,hz⟩:=I.tuple hq
 obtain ⟨j,h1,h2,h3,h4,h5⟩:=Dj he
 obtain ⟨w,ew,rw'⟩:=r.get h2
 have hl:=r.length
 have hn:=Ac
 have fin:EP X pins σ Q w s:=⟨z,H,I,rw',q⟩
 exact subscriptTail_builtinR (x:=w) pl.typeIs slot_tuple_getitem.lookup
  (getItem_tuple (j:=j) (Q:=fun r s'=>r = w/\EP X pins σ Q r s') pl (by omega) (by omega) (by rw [List.size_toArray,←hl];exact h1) (by simpa using ew) ⟨rfl,fin⟩) hs
theorem Dk:Rv X RZ:=by
 intro value slice pins s σ H x y v u Q I rx ry h hs
 obtain ⟨z,i,c,rfl,rfl,hz,he,q⟩:=h
 obtain ⟨t,rfl⟩:=rx
 obtain ⟨t',rfl⟩:=ry
 obtain ⟨j,h1,h2,h3,h4,h5⟩:=Dj he
 have hl:z.cps.toList.length = z.length:=by simp [Str.length]
 rw [hl] at h1 h4 h5
 have hn:=Ac
 exact tail_any (typeIs_str s z t) slot_str_getitem.lookup (getItem_str (c:=c) (by
  have e1:decide (i < -(2 ^ 63:Int)) = false:=decide_eq_false (by omega)
  have e2:decide (i>=2 ^ 63) = false:=decide_eq_false (by omega)
  rw [e1,e2,Bool.or_false]) (by rw [h1];simpa using h2) ⟨.str ⟨#[c]⟩,H,I.tok _,⟨_,rfl⟩,q⟩) hs
theorem Dl (lo hi:Option Int) (n:Nat):(sliceBounds lo hi none n).1 = ((HT.Hq n 0 lo:Nat):Int)/\(sliceBounds lo hi none n).2.1 = ((HT.Hq n n hi:Nat):Int)/\(sliceBounds lo hi none n).2.2 = 1:=by
 refine ⟨?_,?_,rfl⟩
 ·cases lo with
  | none=>simp [sliceBounds,HT.Hq]
  | some i =>
   simp only [sliceBounds,HT.Hq,Option.getD_none,show (1:Int) > 0 by decide,if_true]
   by_cases h:i < 0
   ·simp only [h,if_true] <;> omega
   ·simp only [h,if_false] <;> omega
 ·cases hi with
  | none=>simp [sliceBounds,HT.Hq]
  | some i =>
   simp only [sliceBounds,HT.Hq,Option.getD_none,show (1:Int) > 0 by decide,if_true]
   by_cases h:i < 0
   ·simp only [h,if_true] <;> omega
   ·simp only [h,if_false] <;> omega
theorem By (its:List Value) (lo hi:Option Int):slicePick its.toArray lo hi none = ((its.drop (HT.Hq its.length 0 lo)).take (HT.Hq its.length its.length hi - HT.Hq its.length 0 lo)).toArray:=by
 obtain ⟨h1,h2,h3⟩:=Dl lo hi its.toArray.size
 unfold slicePick
 rw [h1,h2,h3]
 simp only [sliceRange_one,pick_run,List.size_toArray] <;> rfl
noncomputable def R0 (K:PySem.W.Frag):V->Option Int->Option Int->Hp->VK->Prop:=fun x lo hi H Q=>∃ a xs,x = .ref a/\dj K H a xs/\∀ p,H p = none->Q (.ref p) (upd H p (.lst (Di xs lo hi)))
theorem Ja:SI X (R0 X.K):=by
 intro pins s σ H x v vl vu lo hi sl Q I rx hs pl pu h
 obtain ⟨a,xs,rfl,hx,q⟩:=h
 cases rx
 obtain ⟨its,r,ht,hz⟩:=I.list hx
 have hlen:=r.length
 refine ⟨"list",_,slot_list_getitem.lookup,ht.isList.typeIs,?_⟩
 refine wpAny_getItem_list_slice ht.isList hs pl pu .none (by simp) ?_ (by rw [List.size_toArray] <;> omega)
 rw [By,←hlen]
 refine ⟨.ref s.heap.objs.size,_,I.laid (t':=s.toks) (o:=.lst (Di xs lo hi)) (fun b ob q=>Heap.get?_push_of_some _ q) (Nat.le_refl _) ?_,rfl,q _ (I.bL.fresh (Nat.le_refl _))⟩
 exact ⟨Nat.le_trans (Fp xs lo hi) hz,_,0,(r.drop (HT.Hq xs.length 0 lo)).take (HT.Hq xs.length xs.length hi - HT.Hq xs.length 0 lo),Heap.get?_push_size _ rfl⟩
noncomputable def SJ (K:PySem.W.Frag) (T:String) (x:V) (H:Hp):Prop:=match x with
 | .str _=>T = "str"
 | .int _=>T = "int"
 | .ref p=>(T = "list"/\∃ xs,dj K H p xs)\/(T = "tuple"/\∃ o,K.lookup p = some o/\o.cls = .type "tuple"/\o.dict = none) ∨
   (T = "dict"/\((∃ kvs,H p = some (.dK kvs))\/∃ kvs,H p = some (.dT kvs)))\/(T = "set"/\∃ S n,H p = some (.set S n))
 | _=>False
theorem OZ {pins:List (Addr × Obj)} {σ:St} {H:Hp} {s:Shared} {T:String} {x:V} {v:Value} (I:Inv X pins σ H s) (r:RelV x v) (ty:SJ X.K T x H) :
  s.TypeIs v T/\∀ a,v = .ref a->∃ ob,s.heap.get? a = some ob/\ob.dict = none:=by
 cases x with
 | str z =>
  obtain ⟨t,rfl⟩:=r
  cases (show T = "str" from ty)
  exact ⟨typeIs_str s z t,fun _ e=>nomatch e⟩
 | int i =>
  obtain ⟨t,rfl⟩:=r
  cases (show T = "int" from ty)
  exact ⟨typeIs_int s i t,fun _ e=>nomatch e⟩
 | ref p =>
  cases r
  rcases ty with ⟨rfl,xs,hq⟩ | ⟨rfl,o,hk,hc,hd⟩ | ⟨rfl,hk⟩ | ⟨rfl,S,n,hk⟩
  ·obtain ⟨its,_,pl,_⟩:=I.list hq
   refine ⟨pl.isList.typeIs,fun a e=>?_⟩
   cases e
   obtain ⟨o,n,e,c,hd,_⟩:=pl
   exact ⟨o,e,hd⟩
  ·refine ⟨⟨o,I.yi p o hk,hc⟩,fun a e=>?_⟩
   cases e
   exact ⟨o,I.yi _ o hk,hd⟩
  ·have z:∃ o,s.heap.get? p = some o/\o.ExactDict:=by
    rcases hk with ⟨kvs,hk⟩ | ⟨kvs,hk⟩
    ·obtain ⟨_,_,_,_,o,_,_,e,ex,_⟩:=I.bL p _ hk
     exact ⟨o,e,ex⟩
    ·obtain ⟨_,_,_,_,o,_,_,e,ex,_⟩:=I.bL p _ hk
     exact ⟨o,e,ex⟩
   obtain ⟨o,e,ex⟩:=z
   refine ⟨⟨o,e,ex.1⟩,fun a e2=>?_⟩
   cases e2
   exact ⟨o,e,ex.2.1⟩
  ·obtain ⟨o,_,_,_,e,ex,_⟩:=I.bL p _ hk
   refine ⟨⟨o,e,ex.1⟩,fun a e2=>?_⟩
   cases e2
   exact ⟨o,e,ex.2.1⟩
 | _=>exact False.elim ty
noncomputable def S3 (K:PySem.W.Frag) (T:String) (r:V->List V->Hp->VK->Prop) (to:TE) (t:TA):TE:=fun σ H Q=>to σ H fun x H1=>SJ K T x H1/\t σ H1 fun xs H2=>r x xs H2 Q
variable {o e:Expr} {es:List Expr} {to:TE} {t:TA} {name:Str} {apos cpos:Pos} {T id:String} {r:V->List V->Hp->VK->Prop}
theorem ug (pa:PlainAttrs T) (slot:Slot T name id) (hty:typeOf (.builtin id) = pure (.type "method_descriptor")) (hm:Qg X id r) (ho:PE X o to) (ha:PA X (e :: es) t)
  (hbase:attributeBase o name X.env (eval o X.env) = eval o X.env:=by rfl)
  (hfew:((backTo cpos (starEach (e :: es) X.env)).all (fun x=>!x.1) && (backToKw cpos (keywordEach [] X.env)).all (fun x=>x.1.isSome)
   && decide ((e :: es).length + ([]:List Keyword).length + (if ([]:List Keyword).isEmpty then 0 else 1) < 30)) = true:=by rfl)
  (hline:(apos.endLine == cpos.line) = true:=by rfl) (hs:starEach (e :: es) X.env = (false,eval e X.env) :: starEach es X.env:=by rfl) (hplain:(backTo cpos (starEach es X.env)).any (·.1) = false:=by rfl) :
  PE X (.Call (.Attribute o name apos) (e :: es) [] cpos) (S3 X.K T r to t):=by
 intro pins s σ H Q I h
 refine wpAny_Call_method_late hbase hfew hline rfl (d9 (ho pins s σ H _ I h) fun v s1 ⟨x,H1,I1,r1,ty,q1⟩=>?_)
 obtain ⟨h1,h2⟩:=OZ I1 r1 ty
 refine ⟨T,id,pa,slot,hty,h1,h2,?_⟩
 have hA:=ha cpos pins s1 σ H1 _ I1 q1
 rw [hs] at hA ⊢
 refine Calls.callWith_builtin (by show (false || (backTo cpos (starEach es X.env)).any (·.1)) = false;rw [hplain] <;> rfl) (Calls.evalArgs_plain ?_)
 exact d9 hA fun us s2 ⟨vs,H2,I2,r2,q2⟩=>hm pins s2 σ H2 x vs v us Q I2 r1 r2 q2
end
end L2
namespace L2
open PySem PySem.Spec PyProof.Rows
noncomputable def SK (X:Cx) (id:String) (r:V->List V->Hp->VK->Prop):Prop :=
 ∀ (pins:List (Addr × Obj)) (s:Shared) (σ:St) (H:Hp) (x:V) (xs:List V) (v:Value) (us:List Value) (Q:VK),Inv X pins σ H s->RelV x v->Vals xs us->r x xs H Q →
  wpAny (model X.prog X.w) X.A (call (.builtin id) (v :: us)) (EP X pins σ Q) X.xe s
theorem Vals.one:∀ {x:V} {us:List Value},Vals [x] us->∃ u,us = [u]/\RelV x u
 | _,_,.cons r .nil=>⟨_,rfl,r⟩
section
variable {X:Cx} {pins:List (Addr × Obj)} {σ:St} {H:Hp} {s:Shared} {l b:Addr} {xs ys zs:List V}
theorem Inv.QJ {its its':List Value} {n:Nat} {f:Array Value->Array Value} {t':Nat} (I:Inv X pins σ H s) (hH:H l = some (.lst xs))
  (e:s.heap.get? l = some { cls:=.type "list",data:=.seq its.toArray n }) (hf:f its.toArray = its'.toArray) (hv:Vals ys its') (hz:ys.length<=sizeLine) :
  Inv X pins σ (upd H l (.lst ys)) { s with heap:=s.heap.update l (Obj.mapSeq f),toks:=t' }:=by
 have q:=PySem.IsL.update e f
 rw [hf] at q
 refine I.write (x:=l) (e:=l) (by rw [hH];exact trivial) (.inl rfl) (fun b' u hb hu=>(Heap.get?_update_other s.heap (Obj.mapSeq f) (Ne.symm hb)).trans hu) ⟨_,q⟩ ?_
 exact ⟨hz,its',_,hv,q⟩
theorem Inv.O0 (I:Inv X pins σ H s) (hH:H l = some (.lst xs)):xs.length<=sizeLine/\∃ (its:List Value) (n:Nat),Vals xs its/\xs.length = its.length/\s.heap.get? l = some { cls:=.type "list",data:=.seq its.toArray n }:=by
 obtain ⟨z,its,n,r,e⟩:=I.bL l _ hH
 exact ⟨z,its,n,r,r.length,e⟩
theorem Lx {n:Nat} (h:n<=sizeLine):Builtin.List.listTooLong n = false:=by
 unfold Builtin.List.listTooLong
 exact decide_eq_false (by omega)
end
section
variable {X:Cx}
noncomputable def MJ:V->List V->Hp->VK->Prop:=fun x vs H Q=>∃ l xs y,x = .ref l/\vs = [y]/\H l = some (.lst xs)/\xs.length < sizeLine/\Q .fR (upd H l (.lst (xs ++ [y])))
theorem pI:SK X "list.append" MJ:=by
 intro pins s σ H x vs v us Q I rx rv h
 obtain ⟨l,xs,y,rfl,rfl,hH,hz,q⟩:=h
 cases rx
 obtain ⟨u,rfl,ru⟩:=rv.one
 obtain ⟨z,its,n,r,hl,e⟩:=I.O0 hH
 refine call_meets F.slot_list_append ⟨_,e,rfl⟩ F.entry_list_append (F.args_list_append_2 _ _) (PySem.list_append l its.toArray n u (by rw [List.size_toArray];omega)) ⟨e,?_⟩
 refine ⟨.fR,_,I.QJ (its':=its ++ [u]) hH e (by simp) (r.append (.cons ru .nil)) ?_,rfl,q⟩
 rw [List.length_append,List.length_singleton]
 omega
noncomputable def MK:V->List V->Hp->VK->Prop:=fun x vs H Q=>∃ l b xs zs,x = .ref l/\vs = [.ref b]/\H l = some (.lst xs)/\H b = some (.lst zs)/\xs.length + zs.length<=sizeLine/\Q .fR (upd H l (.lst (xs ++ zs)))
theorem pJ:SK X "list.extend" MK:=by
 intro pins s σ H x vs v us Q I rx rv h
 obtain ⟨l,b,xs,zs,rfl,rfl,hH,hB,hz,q⟩:=h
 cases rx
 obtain ⟨u,rfl,ru⟩:=rv.one
 cases ru
 obtain ⟨z,its,n,r,hl,e⟩:=I.O0 hH
 obtain ⟨z2,its2,n2,r2,hl2,e2⟩:=I.O0 hB
 have hsz:its.toArray.size + its2.toArray.size<=sizeLine:=by rw [List.size_toArray,List.size_toArray];omega
 have hlong:¬ (!its.toArray.isEmpty && Builtin.List.listTooLong (its.toArray.size + its2.toArray.size)) = true:=by
  rw [Lx hsz,Bool.and_false]
  exact Bool.false_ne_true
 refine call_meets F.slot_list_extend ⟨_,e,rfl⟩ F.entry_list_extend (F.args_list_extend_2 _ _)
  (AutoSeq1.list_extend_list_list_0 l its.toArray n b its2.toArray n2 hlong (by rw [List.size_toArray];omega) (by omega)) ⟨e,e2,?_⟩
 refine ⟨.fR,_,I.QJ (its':=its ++ its2) hH e (by simp) (r.append r2) ?_,rfl,q⟩
 rw [List.length_append]
 omega
end
section
variable {prog:Program} {w:World} {A:Around} {E:Value->Shared->Prop} {s:Shared}
set_option maxRecDepth 100000 in
end
section
variable {X:Cx}
end
end L2
namespace L2
open PySem PySem.Spec PyProof.Rows
theorem Vals.ints:∀ {ns:List Int} {us:List Value},Vals (ns.map V.int) us->IntsAre us ns
 | [],us,h=>by
  rw [List.map_nil] at h
  cases h
  exact IntsAre.nil
 | n :: ns,us,h=>by
  rw [List.map_cons] at h
  cases h with
  | cons r t =>
   obtain ⟨k,rfl⟩:=r
   exact IntsAre.cons n k (Vals.ints t)
theorem Vals.SM:∀ {bs:List Bool} {us:List Value},Vals (bs.map V.bl) us->us = bs.map Value.bool
 | [],us,h=>by
  rw [List.map_nil] at h
  cases h
  rfl
 | b :: bs,us,h=>by
  rw [List.map_cons] at h
  cases h with
  | cons r t =>
   cases r
   rw [Vals.SM t,List.map_cons]
theorem Vals.QK {a:Addr} {us:List Value} (r:Vals [V.ref a] us):us = [Value.ref a]:=by
 cases r with
 | cons r t =>
  cases t
  cases r
  rfl
section
variable {prog:Program} {w:World} {A:Around} {E:Value->Shared->Prop} {s:Shared} {l:Addr} {its:List Value} {ns:List Int} {Q:Value->Shared->Prop}
theorem ML (hh:A.handled = none) (hl:s.heap.IsList l its.toArray) (hi:IntsAre its ns)
  (h:∀ h' tk t',(∀ b o,s.heap.get? b = some o->h'.get? b = some o)->Q (.int ns.sum t') { s with heap:=h',toks:=tk }):wpAny (model prog w) A (call (.builtin "sum") [.ref l]) Q E s:=by
 obtain ⟨xs,e⟩:=hi.allInts.items
 have hn:numsOf (intItems xs).toList = ns:=by rw [←e];exact hi.numsOf
 rw [nums_intItems] at hn
 rw [e] at hl
 refine PySem.sum_intListG hh hl fun h' tk t' hk=>?_
 have:=h h' tk t' hk
 rw [preSum_eq,List.take_of_length_le (by simp),hn];exact this
end
section
variable {X:Cx}
noncomputable def R1 (K:PySem.W.Frag):List V->Hp->VK->Prop:=fun vs H Q=>∃ (a:Addr) (ns:List Int),vs = [V.ref a]/\dj K H a (ns.map V.int)/\Q (.int ns.sum) H
theorem HE (hc:X.calm = true):yj X (.builtin "sum") (R1 X.K):=by
 intro pins s σ H vs us Q I r h
 obtain ⟨a,ns,rfl,hs,q⟩:=h
 obtain ⟨its,rv,hl,_⟩:=I.list hs
 rw [Vals.QK r]
 exact ML (I.ok.hd hc) hl.isList rv.ints fun h' tk t' hk=>⟨.int _,H,I.kept hk,⟨_,rfl⟩,q⟩
end
section
variable {X:Cx}
end
section
variable {X:Cx}
end
theorem Ly {prog:Program} {w:World} {A:Around} {E:Value->Shared->Prop} {s:Shared} {l:Addr} {items:Array Value} {Q:Value->Shared->Prop} (hl:s.heap.IsList l items)
  (h:∀ s₂:Shared,s₂ = { s with heap:=s.heap.push { cls:=.type "list_iterator",data:=.fields #[.ref l,.int 0 0] } } →
   (s₂.heap.IsListIter s.heap.objs.size l 0/\s₂.heap.IsList l items)->l ≠ s.heap.objs.size->Q (.ref s.heap.objs.size) s₂):wpAny (model prog w) A (pyIter (.ref l)) Q E s:=by
 have hlt:l < s.heap.objs.size:=by obtain ⟨_,e,_⟩:=hl;exact Heap.lt_size e
 exact wpAny_pyIter_list hl (h _ rfl ⟨⟨_,Heap.get?_push_size _ rfl,rfl,rfl⟩,hl.push _⟩ (Nat.ne_of_lt hlt))
theorem Fq {prog:Program} {w:World} {A:Around} {bs:List Bool} {its:List Value} (e:its = bs.map Value.bool) :
  TruthOf prog w A (fun i v=>its.toArray[i]? = some v) (fun i=>bs.getD i false):=fun i v s Q E hv hq=>by
 have hv':its[i]? = some v:=by simpa using hv
 rw [e,List.getElem?_map] at hv'
 obtain ⟨b,hb,rfl⟩:=Option.map_eq_some_iff.mp hv'
 have hg:bs.getD i false = b:=by rw [List.getD_eq_getElem?_getD,hb] <;> rfl
 have hq':Q (bs.getD i false) s:=hq
 rw [hg] at hq'
 exact wpAny_truthy_bool hq'
theorem any_range:∀ bs:List Bool,(List.range bs.length).any (fun i=>bs.getD i false) = bs.any id
 | []=>rfl
 | b :: bs=>by
  rw [List.length_cons,List.range_succ_eq_map,List.any_cons,List.any_map,List.any_cons,←any_range bs]
  all_goals rfl
section
variable {X:Cx}
noncomputable def R3 (K:PySem.W.Frag):List V->Hp->VK->Prop:=fun vs H Q=>∃ (a:Addr) (bs:List Bool),vs = [V.ref a]/\dj K H a (bs.map V.bl)/\Q (.bl (bs.any id)) H
theorem O1 (hc:X.calm = true):yj X (.builtin "any") (R3 X.K):=by
 intro pins s σ H vs us Q I r h
 obtain ⟨a,bs,rfl,hs,q⟩:=h
 obtain ⟨its,rv,hl,_⟩:=I.list hs
 rw [Vals.QK r]
 have hb:=rv.SM
 refine call_any_walk (Ly hl.isList fun s₂ e2 st hne=>?_)
 subst e2
 refine ⟨_,_,_,_,_,_,_,rfl,Walks.list (A:=X.A.in1) (I.ok.hd hc) _ a hne its.toArray,st,Fq hb,fun h' tk hk=>?_⟩
 refine ⟨.bl _,H,I.kept fun b o eo=>hk b o (fun hmem=>?_) (Heap.get?_push_of_some _ eo),?_,q⟩
 ·rcases List.mem_cons.mp hmem with e1 | hmem
  ·exact absurd (e1 ▸ Heap.lt_size eo) (Nat.lt_irrefl _)
  ·cases hmem
 ·show Value.bool _ = Value.bool _
  rw [←any_range,hb,List.size_toArray,List.length_map]
end
section
variable {X:Cx} {pins:List (Addr × Obj)} {σ:St} {H:Hp} {s:Shared}
end
section
variable {X:Cx}
end
end L2
namespace L2
open PySem PySem.Spec PyProof.Rows
abbrev Lz (h:Heap) (c:Addr) (v:Option Value):Prop:=h.IsCell c v
noncomputable def R4 (scope sc:Scope):Scope :=
 { scope with names:=scope.names.map fun (n,k)=>if (k == .free && sc.kind == .function && sc.names.lookup n == some .cell) then (n,.cell) else (n,k) }
noncomputable def cG (cells:List (Str × Addr)):List (Str × NameKind)->List (Str × Addr)->List (Str × Addr)
 | [],acc=>acc
 | (n,k) :: r,acc=>if k == .free then cG cells r ((n,(cells.lookup n).getD 0) :: acc) else cG cells r acc
theorem vv (env:Env) (f:Str × NameKind->List (Str × Addr)->Sem (ForInStep (List (Str × Addr))))
  (hf:∀ n k c,f (n,k) c = if k == .free then (do let a ←cellOf env n;pure (.yield ((n,a) :: c))) else pure (.yield c)) :
  ∀ (names:List (Str × NameKind)) (acc:List (Str × Addr)),(∀ y ∈ names,y.2 = .free->∃ c,env.cells.lookup y.1 = some c)->forIn names acc f = pure (cG env.cells names acc)
 | [],acc,_=>by rw [List.forIn_nil];rfl
 | (n,k) :: r,acc,h=>by
  rw [List.forIn_cons,hf]
  have ih:=fun acc=>vv env f hf r acc fun y hy=>h y (List.mem_cons_of_mem _ hy)
  unfold cG
  by_cases hk:(k == NameKind.free) = true
  ·rw [if_pos hk,if_pos hk]
   obtain ⟨c,hc⟩:=h (n,k) List.mem_cons_self (by simpa using hk)
   have e:cellOf env n = pure c:=by unfold cellOf;rw [hc]
   rw [e]
   have e2:(env.cells.lookup n).getD 0 = c:=by rw [hc];rfl
   rw [e2]
   exact ih _
  ·rw [if_neg hk,if_neg hk]
   exact ih _
theorem HF {scope:Scope} {env:Env} (h:∀ y ∈ scope.names,y.2 = .free->∃ c,env.cells.lookup y.1 = some c):closureFor scope env = pure (cG env.cells scope.names []):=by
 simp only [closureFor]
 rw [vv env _ (fun n k c=>rfl) scope.names [] h]
 rfl
theorem mem_lookup {α:Type}:∀ {l:List (Str × α)} {n:Str} {c:α},(n,c) ∈ l->∃ c',l.lookup n = some c'
 | (k,v) :: r,n,c,h=>by
  rw [List.lookup_cons]
  cases hb:n == k with
  | true=>exact ⟨_,rfl⟩
  | false =>
   rcases List.mem_cons.mp h with e | h
   ·cases e;simp at hb
   ·exact mem_lookup h
theorem nW {cells:List (Str × Addr)}:∀ {names:List (Str × NameKind)} {acc:List (Str × Addr)} {n:Str} {c:Addr},(n,c) ∈ cG cells names acc->(n,c) ∈ acc\/((n,.free) ∈ names/\c = (cells.lookup n).getD 0)
 | [],_,_,_,h=>.inl h
 | (m,k) :: r,acc,n,c,h=>by
  unfold cG at h
  split at h
  ·rename_i hk
   have hk:k = .free:=by simpa using hk
   rcases nW h with h | ⟨h1,h2⟩
   ·rcases List.mem_cons.mp h with e | h
    ·cases e;exact .inr ⟨hk ▸ List.mem_cons_self,rfl⟩
    ·exact .inl h
   ·exact .inr ⟨List.mem_cons_of_mem _ h1,h2⟩
  ·rcases nW h with h | ⟨h1,h2⟩
   ·exact .inl h
   ·exact .inr ⟨List.mem_cons_of_mem _ h1,h2⟩
theorem rF {cells:List (Str × Addr)}:∀ {names:List (Str × NameKind)} {acc:List (Str × Addr)} {p:Str × Addr},p ∈ acc->p ∈ cG cells names acc
 | [],_,_,h=>h
 | (m,k) :: r,acc,p,h=>by
  unfold cG
  split
  ·exact rF (List.mem_cons_of_mem _ h)
  ·exact rF h
theorem rG {cells:List (Str × Addr)}:∀ {names:List (Str × NameKind)} {acc:List (Str × Addr)} {n:Str},(n,.free) ∈ names->(n,(cells.lookup n).getD 0) ∈ cG cells names acc
 | (m,k) :: r,acc,n,h=>by
  unfold cG
  rcases List.mem_cons.mp h with e | h
  ·cases e
   exact rF List.mem_cons_self
  ·split
   ·exact rG h
   ·exact rG h
theorem pK:∀ {names:List (Str × NameKind)} {h:Heap} {acc:List (Str × Addr)} {x:Str} {c:Addr},(x,c) ∈ cellsFrom h.objs.size names acc →
  (x,c) ∈ acc\/((x,.cell) ∈ names/\h.objs.size<=c/\Lz (pushCells h names) c none)
 | [],_,_,_,_,h=>.inl h
 | (n,k) :: r,h,acc,x,c,hm=>by
  unfold cellsFrom at hm
  unfold pushCells
  split at hm
  ·rename_i hk
   rw [if_pos hk]
   have hk:k = .cell:=by simpa using hk
   rw [←Heap.size_push h { cls:=.type "cell",data:=.cell none }] at hm
   rcases pK hm with hm | ⟨h1,h2,h3⟩
   ·rcases List.mem_cons.mp hm with e | hm
    ·cases e
     exact .inr ⟨hk ▸ List.mem_cons_self,Nat.le_refl _,_,pushCells_keeps r _ _ _ (Heap.get?_push_size _ rfl),rfl⟩
    ·exact .inl hm
   ·rw [Heap.size_push] at h2
    exact .inr ⟨List.mem_cons_of_mem _ h1,Nat.le_of_succ_le h2,h3⟩
  ·rename_i hk
   rw [if_neg hk]
   rcases pK hm with hm | ⟨h1,h2,h3⟩
   ·exact .inl hm
   ·exact .inr ⟨List.mem_cons_of_mem _ h1,h2,h3⟩
theorem sW:∀ {names:List (Str × NameKind)} {n:Nat} {acc:List (Str × Addr)} {p:Str × Addr},p ∈ acc->p ∈ cellsFrom n names acc
 | [],_,_,_,h=>h
 | (m,k) :: r,n,acc,p,h=>by
  unfold cellsFrom
  split
  ·exact sW (List.mem_cons_of_mem _ h)
  ·exact sW h
theorem wR:∀ {names:List (Str × NameKind)} {n:Nat} {acc:List (Str × Addr)} {x:Str},(x,.cell) ∈ names->∃ c,(x,c) ∈ cellsFrom n names acc
 | (m,k) :: r,n,acc,x,h=>by
  unfold cellsFrom
  rcases List.mem_cons.mp h with e | h
  ·cases e
   exact ⟨n,sW List.mem_cons_self⟩
  ·split
   ·exact wR h
   ·exact wR h
theorem wU:∀ {names:List (Str × NameKind)} {h:Heap} {acc:List (Str × Addr)} {x y:Str} {c:Addr},(∀ p ∈ acc,p.2 < h.objs.size)->(∀ x y c,(x,c) ∈ acc->(y,c) ∈ acc->x = y) →
  (x,c) ∈ cellsFrom h.objs.size names acc->(y,c) ∈ cellsFrom h.objs.size names acc->x = y
 | [],_,_,_,_,_,_,hi,h1,h2=>hi _ _ _ h1 h2
 | (n,k) :: r,h,acc,x,y,c,hl,hi,h1,h2=>by
  unfold cellsFrom at h1 h2
  split at h1
  ·rename_i hk
   rw [if_pos hk] at h2
   rw [←Heap.size_push h { cls:=.type "cell",data:=.cell none }] at h1 h2
   refine wU (h:=h.push _) (fun p hp=>?_) (fun x y c a b=>?_) h1 h2
   ·rw [Heap.size_push]
    rcases List.mem_cons.mp hp with rfl | hp
    ·exact Nat.lt_succ_self _
    ·exact Nat.lt_succ_of_lt (hl p hp)
   ·rcases List.mem_cons.mp a with e | a <;> rcases List.mem_cons.mp b with e' | b
    ·cases e;cases e';rfl
    ·cases e;exact absurd (hl _ b) (Nat.lt_irrefl _)
    ·cases e';exact absurd (hl _ a) (Nat.lt_irrefl _)
    ·exact hi _ _ _ a b
  ·rename_i hk
   rw [if_neg hk] at h2
   exact wU hl hi h1 h2
theorem Fs {M:Model} {A:Around} {E:Value->Shared->Prop} {s:Shared} {scope:Scope} {globals:Addr} {closure:List (Str × Addr)} {qual:Str} {func:Option Addr} {code:Value} {around:Env} {builtins:Addr} {Q:Env->Shared->Prop}
  (h:Q (newEnv scope s.heap.objs.size globals (cellsFrom (s.heap.objs.size + 1) scope.names closure) qual func code (some around) builtins)
   { s with heap:=pushCells (s.heap.push { cls:=.type "dict",data:=.dict #[] }) scope.names }) :
  wpAny M A (newFunctionEnv scope globals closure [] qual func code (some around) builtins) Q E s:=by
 simp only [newFunctionEnv,Option.isSome_some,if_true]
 refine wpAny_bind (wpAny_alloc ?_)
 refine wpAny_bind (wpAny_layCells _ (fun n k c=>rfl) scope.names closure _ _ ?_)
 rw [show ({ s with heap:=s.heap.push { cls:=.type "dict",data:=.dict #[] } }:Shared).heap.objs.size = s.heap.objs.size + 1 from Heap.size_push ..]
 rw [List.forIn_nil]
 exact wpAny_bind (wpAny_pure (wpAny_pure h))
theorem rH {sc:Scope}:∀ {names:List (Str × NameKind)} {x:Str} {k:NameKind},
  (names.map fun (n,k)=>if (k == NameKind.free && sc.kind == .function && sc.names.lookup n == some .cell) then (n,NameKind.cell) else (n,k)).lookup x = some k →
  ∃ k',names.lookup x = some k'/\(k = k'\/(k' = .free/\k = .cell))
 | [],_,_,h=>by simp at h
 | (n,k₀) :: r,x,k,h=>by
  have ih:=@rH sc r x k
  have h':List.lookup x ((if (k₀ == NameKind.free && sc.kind == .function && sc.names.lookup n == some .cell) = true then (n,NameKind.cell) else (n,k₀)) :: (r.map _)) = some k:=h
  cases hx:x == n with
  | true =>
   simp only [List.lookup_cons,hx]
   by_cases hc:(k₀ == NameKind.free && sc.kind == .function && sc.names.lookup n == some .cell) = true
   ·rw [if_pos hc] at h'
    simp only [List.lookup_cons,hx] at h'
    cases h'
    simp only [Bool.and_eq_true,beq_iff_eq] at hc
    exact ⟨k₀,rfl,.inr ⟨hc.1.1,rfl⟩⟩
   ·rw [if_neg hc] at h'
    simp only [List.lookup_cons,hx] at h'
    cases h'
    exact ⟨_,rfl,.inl rfl⟩
  | false =>
   simp only [List.lookup_cons,hx]
   by_cases hc:(k₀ == NameKind.free && sc.kind == .function && sc.names.lookup n == some .cell) = true
   ·rw [if_pos hc] at h'
    simp only [List.lookup_cons,hx] at h'
    exact ih h'
   ·rw [if_neg hc] at h'
    simp only [List.lookup_cons,hx] at h'
    exact ih h'
structure vw (N:List Str) (sc scope:Scope) (own:List (Str × Nat)):Prop where
 kind:scope.kind = .function
 uniq:∀ y ∈ scope.names,scope.names.lookup y.1 = some y.2
 ix:∀ p ∈ own,N[p.2]? = some p.1
 free:∀ y ∈ scope.names,y.2 = .free->sc.names.lookup y.1 = some .cell\/sc.names.lookup y.1 = some .free
 own:∀ y ∈ scope.names,y.2 = .local\/y.2 = .cell->y.1 ∈ own.map (·.1)\/y.1 ∉ N
noncomputable def wipe (σ:St):List Nat->St
 | []=>σ
 | v :: vs=>(wipe σ vs).set v none
theorem rJ (σ:St):∀ vs:List Nat,(wipe σ vs).length = σ.length
 | []=>rfl
 | v :: vs=>by unfold wipe;rw [List.length_set,rJ σ vs]
theorem wV {σ:St} {i:Nat} {x:V}:∀ {vs:List Nat},(wipe σ vs)[i]? = some (some x)->σ[i]? = some (some x)/\i ∉ vs
 | [],h=>⟨h,by simp⟩
 | v :: vs,h=>by
  unfold wipe at h
  by_cases hi:v = i
  ·subst hi
   by_cases hv:v < (wipe σ vs).length
   ·rw [List.getElem?_set_self hv] at h;cases h
   ·rw [List.getElem?_eq_none (by simpa using hv)] at h;cases h
  ·rw [List.getElem?_set_ne hi] at h
   obtain ⟨h1,h2⟩:=wV h
   exact ⟨h1,by simp only [List.mem_cons,not_or];exact ⟨fun e=>hi e.symm,h2⟩⟩
abbrev Cx.Hr (X:Cx) (s:Shared) (H:Hp) (scope:Scope) (cenv:Env) (fp:List Addr):Cx:={ X with vp:=s,Ms:=H,env:=cenv,outer:=X.stack,ex:=fp,fn:=fun x=>scope.names.lookup x == some .cell,pn:=[],xe:=fun _ _=>False }
section
variable {X:Cx} {pins:List (Addr × Obj)} {σ:St} {H:Hp} {s:Shared}
theorem Ft {scope:Scope} {own:List (Str × Nat)} {fp:List Addr} (I:Inv X pins σ H s) (ok:vw X.N X.env.scope scope own) (hN:X.N.Nodup) (hfp:∀ b ∈ fp,z8 X pins H b/\b < s.heap.objs.size) :
  Inv (X.Hr s H scope (compEnvC scope (cellsFrom (s.heap.objs.size + 1) scope.names (cG X.env.cells scope.names [])) s.heap.objs.size X.env) fp) [] (wipe σ (own.map (·.2))) H { s with heap:=pushCells (s.heap.push { cls:=.type "dict",data:=.dict #[] }) scope.names }:=by
 have hfree:∀ y ∈ scope.names,y.2 = .free->∃ c,X.env.cells.lookup y.1 = some c:=fun y hy e=>by
  rcases ok.free y hy e with k | k
  ·exact I.ok.has _ (.inl k)
  ·exact I.ok.has _ (.inr k)
 generalize hcenv:compEnvC scope (cellsFrom (s.heap.objs.size + 1) scope.names (cG X.env.cells scope.names [])) s.heap.objs.size X.env = cenv
 have kp:∀ b o,s.heap.get? b = some o->(pushCells (s.heap.push { cls:=.type "dict",data:=.dict #[] }) scope.names).get? b = some o:=fun b o e=>pushCells_keeps _ _ _ _ (Heap.get?_push_of_some _ e)
 have hL:cenv.locals = s.heap.objs.size:=by rw [←hcenv];rfl
 have hcl:cenv.cells = cellsFrom (s.heap.objs.size + 1) scope.names (cG X.env.cells scope.names []):=by rw [←hcenv];rfl
 have hsc:cenv.scope = R4 scope X.env.scope:=by rw [←hcenv];rfl
 rw [←Heap.size_push s.heap { cls:=.type "dict",data:=.dict #[] }] at hcl
 have cm:∀ {y c},(y,c) ∈ cG X.env.cells scope.names []->X.env.cells.lookup y = some c/\c < s.heap.objs.size:=fun {y c} hm=>by
  rcases nW hm with hm | ⟨h1,rfl⟩
  ·cases hm
  ·obtain ⟨c,hc⟩:=hfree _ h1 rfl
   rw [hc]
   obtain ⟨w,z⟩:=I.cell _ _ hc
   exact ⟨rfl,z.lt⟩
 have mem:∀ {y c},cenv.cells.lookup y = some c->(X.env.cells.lookup y = some c/\c < s.heap.objs.size)\/(s.heap.objs.size + 1<=c/\Lz (pushCells (s.heap.push { cls:=.type "dict",data:=.dict #[] }) scope.names) c none):=fun {y c} e=>by
  rw [hcl] at e
  rcases pK (PySem.mem_of_lookup e) with hm | ⟨_,h2,h3⟩
  ·exact .inl (cm hm)
  ·rw [Heap.size_push] at h2;exact .inr ⟨h2,h3⟩
 have look:∀ {y},scope.names.lookup y = some .free->∃ c,cenv.cells.lookup y = some c/\X.env.cells.lookup y = some c:=fun {y} hl=>by
  have hy:(y,NameKind.free) ∈ scope.names:=PySem.mem_of_lookup hl
  obtain ⟨c',e'⟩:=mem_lookup (sW (names:=scope.names) (n:=(s.heap.push { cls:=.type "dict",data:=.dict #[] }).objs.size) (rG (cells:=X.env.cells) (acc:=[]) hy))
  rw [←hcl] at e'
  refine ⟨c',e',?_⟩
  rw [hcl] at e'
  rcases pK (PySem.mem_of_lookup e') with hm | ⟨h1,_,_⟩
  ·exact (cm hm).1
  ·have:=ok.uniq _ h1
   rw [hl] at this;cases this
 have okB:(X.Hr s H scope cenv fp).Ok:=by
  refine ⟨I.ok.mod,by show cenv.scope.kind = _;rw [hsc];exact ok.kind,by show cenv.globals = _;rw [←hcenv];exact I.ok.glob,by show cenv.builtins = _;rw [←hcenv];exact I.ok.blt,by show s.heap.objs.size<=cenv.locals;rw [hL];exact Nat.le_refl _,
   fun y z c e1 e2=>?_,fun y hy=>?_,fun y c z e=>?_,I.ok.hd,I.ok.frames,.inl rfl,fun b hb=>⟨?_,fun y c e z=>?_⟩,I.bs,Nat.le_trans I.ok.Lf I.sz,fun b o e hb=>?_,fun b hb z=>?_,I.stack,I.C9⟩
  ·have e1:cenv.cells.lookup y = some c:=e1
   have e2:cenv.cells.lookup z = some c:=e2
   rw [hcl] at e1 e2
   refine wU (fun p hp=>?_) (fun y z c a b=>I.ok.inj y z c (cm a).1 (cm b).1) (PySem.mem_of_lookup e1) (PySem.mem_of_lookup e2)
   rw [Heap.size_push]
   exact Nat.lt_succ_of_lt (cm (y:=p.1) (c:=p.2) hp).2
  ·show ∃ c,cenv.cells.lookup y = some c
   have key:∀ k,cenv.kindOf y = some k->(k = .cell\/k = .free)->∃ c,cenv.cells.lookup y = some c:=fun k hk hk'=>by
    unfold Env.kindOf at hk
    rw [hsc] at hk
    obtain ⟨k',e,r⟩:=rH hk
    have:k' = .cell\/k' = .free:=by
     rcases r with rfl | ⟨rfl,_⟩
     ·exact hk'
     ·exact .inr rfl
    rcases this with rfl | rfl
    ·obtain ⟨c,hm⟩:=wR (n:=(s.heap.push { cls:=.type "dict",data:=.dict #[] }).objs.size) (acc:=cG X.env.cells scope.names []) (PySem.mem_of_lookup e)
     obtain ⟨c',e'⟩:=mem_lookup hm
     exact ⟨c',by rw [hcl];exact e'⟩
    ·obtain ⟨c,h1,_⟩:=look e
     exact ⟨c,h1⟩
   rcases hy with hy | hy
   ·exact key _ hy (.inl rfl)
   ·exact key _ hy (.inr rfl)
  ·have z:(scope.names.lookup y == some NameKind.cell) = true:=z
   have z:scope.names.lookup y = some .cell:=by simpa using z
   have e:cenv.cells.lookup y = some c:=e
   rw [hcl] at e
   rcases pK (PySem.mem_of_lookup e) with hm | ⟨_,h2,_⟩
   ·rcases nW hm with hm | ⟨h1,_⟩
    ·cases hm
    ·have q:=ok.uniq _ h1
     rw [z] at q;cases q
   ·rw [Heap.size_push] at h2
    exact Nat.le_of_succ_le h2
  ·show b ≠ cenv.locals
   rw [hL];exact Nat.ne_of_lt (hfp b hb).2
  ·have e:cenv.cells.lookup y = some c:=e
   rcases mem e with ⟨h1,_⟩ | ⟨h1,_⟩
   ·exact (hfp b hb).1.2.2.2.2.1 y c h1 z
   ·have h2:s.heap.objs.size + 1<=b:=by rw [←z];exact h1
    exact absurd (Nat.lt_of_lt_of_le (hfp b hb).2 (Nat.le_of_succ_le h2)) (Nat.lt_irrefl _)
  ·rcases (hfp b hb).1.2.2.2.1 with z | z
   ·exact I.ok.Fd b o e z
   ·exact absurd (Nat.lt_of_lt_of_le (Heap.lt_size e) (Nat.le_trans I.ok.Lf z)) (Nat.lt_irrefl _)
  ·rcases List.mem_cons.mp (I.C8 b z) with z | z
   ·exact (hfp b hb).1.2.1 z
   ·exact (hfp b hb).1.2.2.1 z
 refine ⟨okB,rfl,I.bare,Un.kept kp,⟨fun _=>none,?_,fun i y av e1 e2 e3=>?_⟩,fun y c e=>?_,?_,fun y c e=>?_,fun p hp=>?_,I.bL.kept kp,by rw [rJ];exact I.len⟩
 ·show Heap.Ns _ cenv.locals _
  rw [hL]
  exact Heap.Ns.keeps (Heap.Ns.new ..) fun b o e=>pushCells_keeps _ _ _ _ e
 ·obtain ⟨e2,hne⟩:=wV e2
  have hfr:scope.names.lookup y = some .free/\(cenv.kindOf y = some .cell\/cenv.kindOf y = some .free):=by
   have key:∀ k,cenv.scope.names.lookup y = some k->k = .local\/k = .cell\/k = .free->scope.names.lookup y = some .free/\(cenv.kindOf y = some .cell\/cenv.kindOf y = some .free):=fun k hk hk'=>by
    have hk0:=hk
    rw [hsc] at hk
    obtain ⟨k',e,r⟩:=rH hk
    have no:¬ (k' = .local\/k' = .cell):=fun hh=>by
     rcases ok.own _ (PySem.mem_of_lookup e) hh with e' | e'
     ·obtain ⟨p,hp,hpy⟩:=List.mem_map.mp e'
      have e3:=ok.ix p hp
      have:p.1 = y:=hpy
      rw [this] at e3
      exact hne (List.mem_map.mpr ⟨p,hp,zV hN e3 e1⟩)
     ·exact e' (List.mem_of_getElem? e1)
    rcases r with rfl | ⟨rfl,rfl⟩
    ·rcases hk' with rfl | rfl | rfl
     ·exact absurd (.inl rfl) no
     ·exact absurd (.inr rfl) no
     ·exact ⟨e,.inr hk0⟩
    ·exact ⟨e,.inl hk0⟩
   have e3:Qp cenv.scope y:=e3
   rcases e3 with e3 | e3 | e3
   ·exact key _ e3 (.inl rfl)
   ·exact key _ e3 (.inr (.inl rfl))
   ·exact key _ e3 (.inr (.inr rfl))
  obtain ⟨m,hn,hl⟩:=I.loc
  have hvis:Qp X.env.scope y:=(ok.free _ (PySem.mem_of_lookup hfr.1) rfl).elim (fun k=>.inr (.inl k)) (fun k=>.inr (.inr k))
  obtain ⟨w,r,q⟩:=hl i y av e1 e2 hvis
  refine ⟨w,r,.inr ⟨hfr.2,?_⟩⟩
  obtain ⟨c,h1,h2⟩:=look hfr.1
  rcases q with ⟨k,_⟩ | ⟨_,c',e',z⟩
  ·have k:X.env.scope.names.lookup y = some .local:=k
   rcases ok.free _ (PySem.mem_of_lookup hfr.1) rfl with k' | k' <;> rw [show X.env.scope.names.lookup y = _ from k'] at k <;> cases k
  ·rw [h2] at e';cases e'
   exact ⟨c,h1,z.keeps kp⟩
 ·have e:cenv.cells.lookup y = some c:=e
  rcases mem e with ⟨h1,_⟩ | ⟨_,z⟩
  ·obtain ⟨w,z⟩:=I.cell y c h1
   exact ⟨w,z.keeps kp⟩
  ·exact ⟨_,z⟩
 ·show H cenv.locals = none
  rw [hL];exact I.bL.fresh (Nat.le_refl _)
 ·have e:cenv.cells.lookup y = some c:=e
  rcases mem e with ⟨h1,_⟩ | ⟨h1,_⟩
  ·exact I.jE y c h1
  ·exact I.bL.fresh (Nat.le_of_succ_le h1)
 ·exact absurd (show p ∈ ([]:List (Addr × Obj)) ++ [] from hp) (by simp)
theorem O2 {E:Value->Shared->Prop} {D:Addr} {xs:List V} {y:V} {v:Value} {Q:Value->Shared->Prop} (I:Inv X pins σ H s) (hD:H D = some (.lst xs)) (hz:xs.length < sizeLine) (r:RelV y v)
  (h:∀ s',Inv X pins σ (upd H D (.lst (xs ++ [y]))) s'->Q .none s'):wpAny (model X.prog X.w) X.A (call (.builtin "list.append") [.ref D,v]) Q E s:=by
 obtain ⟨hz',its,n,ri,e⟩:=I.bL D _ hD
 have hl:=ri.length
 refine append_at (hsz:=by rw [List.size_toArray];omega) e fun h' sb ho'=>?_
 refine h { s with heap:=h' } (I.write (t':=s.toks) (by rw [hD];trivial) (.inl rfl) (fun b u hb q=>(sb.2 b hb).trans q) ⟨_,ho'⟩ ⟨by rw [List.length_append];exact hz,its ++ [v],n + 1,ri.append (.cons r .nil),?_⟩)
 rw [ho']
 simp
noncomputable def R5 (X:Cx) (ifs:List Expr) (t:TT):Prop :=
 ∀ (pins:List (Addr × Obj)) (s:Shared) (σ:St) (H:Hp) (Q:Bool->Hp->Prop),Inv X pins σ H s->t σ H Q →
  wpAny (model X.prog X.w) X.A (forIn ifs true fun c r=>if r = true then do let ok ←isTrue c X.env (eval c X.env);pure (ForInStep.yield ok) else pure (ForInStep.yield r)) (TP X pins σ Q) X.xe s
noncomputable def HG:TT:=fun _ H Q=>Q true H
theorem sX:R5 X [] HG:=fun _ _ _ H _ I h=>wpAny_tests_nil ⟨H,I,h⟩
end
theorem JU {α:Type} {t:Sem α} {Q Q':α->Shared->Prop} {M:Model} {A:Around} {E:Value->Shared->Prop} {s:Shared} (h:wpAny M A t Q (fun _ _=>False) s) (hQ:∀ a s,Q a s->Q' a s):wpAny M A t Q' E s:=wpAny_mono h hQ fun _ _ z=>False.elim z
theorem Dm {prog:Program} {w:World} {A:Around} {R:Result->Shared->Prop} {s:Shared} {elt target iter:Expr} {ifs:List Expr} {scope:Scope} {pos:Pos} {it acc:Value} {env:Env} (I:Nat->Shared->Prop)
  (turn:∀ n s,I n s->wpAny (model prog w) A (pyNext it) (fun r s₁=>match r with
   | none=>R (.ok .next) s₁
   | some v=>wpAny (model prog w) A (letOwnedTupleGo target it v) (fun _ s₁'=>wpAny (model prog w) A (assign target env v) (fun _ s₂ =>
     wpAny (model prog w) A (forIn ifs true fun c r=>if r = true then do let ok ←isTrue c env (eval c env);pure (ForInStep.yield ok) else pure (ForInStep.yield r)) (fun ok s₃ =>
      if ok = true then wpAny (model prog w) A (eval elt env) (fun x s₄ =>
       wpAny (model prog w) A (call (.builtin "list.append") [acc,x]) (fun _ s₅=>∃ m,m < n/\I m s₅) (notedBy (model prog w) A env fun e s'=>R (.error e) s') s₄) (notedBy (model prog w) A env fun e s'=>R (.error e) s') s₃
      else ∃ m,m < n/\I m s₃) (notedBy (model prog w) A env fun e s'=>R (.error e) s') s₂) (notedBy (model prog w) A env fun e s'=>R (.error e) s') s₁') (notedBy (model prog w) A env fun e s'=>R (.error e) s') s₁) (notedBy (model prog w) A env fun e s'=>R (.error e) s') s)
  (n:Nat) (h:I n s) :
  codeAny (model prog w) A (.compLoop (.ListComp elt [⟨target,iter,ifs,0⟩] scope pos) 0 it acc env) R s:=by
 refine codeAny_loop rfl I (fun n s hI=>?_) n h
 show wpAny _ A ((compTurn (.ListComp elt [⟨target,iter,ifs,0⟩] scope pos) 0 it acc env).onRaise (fun x=>do noteFrame x env;theTreesLotGoes x)) _ _ s
 refine wpAny_noted ?_
 rw [compTurn_list]
 refine wpAny_bind (wpAny_standAt (wpAny_bind (wpAny_mono (turn n s hI) (fun r s₁ h₁=>?_) fun _ _ h'=>h')))
 cases r with
 | none=>exact wpAny_pure h₁
 | some v =>
  refine wpAny_bind (wpAny_mono h₁ (fun _ s₁' h₁'=>?_) fun _ _ h'=>h')
  refine wpAny_bind (wpAny_mono h₁' (fun _ s₂ h₂=>wpAny_bind (wpAny_mono h₂ (fun ok s₃ h₃=>?_) fun _ _ h'=>h')) fun _ _ h'=>h')
  cases ok with
  | false=>exact wpAny_pure ⟨rfl,h₃⟩
  | true =>
   exact wpAny_bind (wpAny_bind (wpAny_mono h₃ (fun x s₄ h₄=>wpAny_bind (wpAny_mono h₄ (fun _ s₅ h₅=>wpAny_pure (wpAny_pure ⟨rfl,h₅⟩)) fun _ _ h'=>h')) fun _ _ h'=>h'))
section
variable {X:Cx}
noncomputable def SN (wi:TI) (g:TG) (tt:TT) (te:TE) (vs:List Nat):TE:=fun σ H Q=>wi σ H fun J H1=>∀ D,H1 D = none->∃ W:Nat->Nat->Hp->Prop,(∃ m,W 0 m (upd H1 D (.lst [])))/\∀ i m H,W i m H →
 (J.stop i H/\Q (.ref D) H)\/(J.go i H/\∃ Nx:Hp->Prop,(∀ H',Nx H'->∃ m',m' < m/\W (i + 1) m' H')/\∀ x H',J.Mu i H x H'->g x (wipe σ vs) H' fun σ2 H2=>wipe σ2 vs = wipe σ vs/\tt σ2 H2 fun b H3 =>
  if b = true then te σ2 H3 fun y H4=>∃ acc,H4 D = some (.lst acc)/\acc.length < sizeLine/\Nx (upd H4 D (.lst (acc ++ [y]))) else Nx H3)
theorem MM {pins:List (Addr × Obj)} {s:Shared} {σ:St} {H:Hp} {Q:VK} {elt tg iter:Expr} {ifs:List Expr} {scope:Scope} {own:List (Str × Nat)} {pos pos':Pos} {wi:TI} {g:TG} {tt:TT} {te:TE} {use:Option (Value->Sem Unit)} {Qf:Value->Shared->Prop}
  (hc:X.calm = true) (hN:X.N.Nodup) (I:Inv X pins σ H s) (hi:PI X tg iter wi) (ok:vw X.N X.env.scope scope own)
  (hg:∀ (s:Shared) (H:Hp) (C:Addr) (cl:List (Str × Addr)) (fp:List Addr),PG (X.Hr s H scope (compEnvC scope cl C X.env) fp) tg g) (ht:∀ (s:Shared) (H:Hp) (C:Addr) (cl:List (Str × Addr)) (fp:List Addr),R5 (X.Hr s H scope (compEnvC scope cl C X.env) fp) ifs tt)
  (he:∀ (s:Shared) (H:Hp) (C:Addr) (cl:List (Str × Addr)) (fp:List Addr),PE (X.Hr s H scope (compEnvC scope cl C X.env) fp) elt te) (hs:∀ x,foldedSetIterable iter X.env x = pure x)
  (h:SN wi g tt te (own.map (·.2)) σ H Q)
  (hRR:∀ D C s' m H',Inv X pins σ H' s'->Q (.ref D) H'->s'.heap.Ns C m->z8 X pins H' C->compPost (model X.prog X.w) X.A X.xe use Qf (.ref D) C (.ok .next) s') :
  wpAny (model X.prog X.w) X.A (comprehension (.ListComp elt [⟨tg,iter,ifs,0⟩] scope pos) scope X.env pos' (newList []) false (eval iter X.env) use) Qf X.xe s:=by
 have hfree:∀ y ∈ scope.names,y.2 = .free->∃ c,X.env.cells.lookup y.1 = some c:=fun y hy e=>by
  rcases ok.free y hy e with k | k
  ·exact I.ok.has _ (.inl k)
  ·exact I.ok.has _ (.inr k)
 refine wpAny_comprehension_free (use:=use) rfl hs (HF hfree) ok.kind (fun y hy e=>by rw [ok.uniq y hy,e])
  (d9 (hi pins s σ H _ I h) fun xv s1 hx=>d9 hx fun itv s2 h2=>?_)
 obtain ⟨it,fp,tn,J,H2,e,I2,T,st2,f2,q⟩:=h2
 subst e
 refine wpAny_newObj_type (Fs ?_) (by show 0<=sizeLine;decide)
 generalize hD:s2.heap.objs.size = D
 have hDn:H2 D = none:=I2.bL.fresh (Nat.le_of_eq hD)
 obtain ⟨W,⟨m0,w0⟩,turn⟩:=q D hDn
 generalize hs3:({ s2 with heap:=s2.heap.push { cls:=.type "list",data:=.seq ([]:List Value).toArray } }:Shared) = s3
 have I3:Inv X pins σ (upd H2 D (.lst [])) s3:=by
  rw [←hs3]
  refine I2.laid (t':=s2.toks) (fun b o e=>Heap.get?_push_of_some _ e) (Nat.le_of_eq hD) ⟨Nat.zero_le _,[],0,.nil,?_⟩
  rw [←hD]
  exact Heap.get?_push_size _ rfl
 have h3:s3.heap = s2.heap.push { cls:=.type "list",data:=.seq ([]:List Value).toArray }:=by rw [←hs3]
 have sz:∀ b ∈ fp,b < s2.heap.objs.size:=fun b hb=>by
  obtain ⟨o,e,_⟩:=T.obj _ _ st2 b hb
  exact Heap.lt_size e
 have f3:∀ b ∈ fp,z8 X pins (upd H2 D (.lst [])) b/\b < s3.heap.objs.size:=fun b hb=>by
  have hlt:=sz b hb
  refine ⟨⟨?_,(f2 b hb).2⟩,by rw [h3,Heap.size_push];exact Nat.lt_succ_of_lt hlt⟩
  rw [ai (by rw [←hD];exact Nat.ne_of_lt hlt)]
  exact (f2 b hb).1
 have st3:tn 0 s3.heap:=T.keep _ _ _ st2 fun b _ o e=>by rw [h3];exact Heap.get?_push_of_some _ e
 have I4:=Ft I3 ok hN f3
 have pg:=hg s3 (upd H2 D (.lst [])) s3.heap.objs.size (cellsFrom (s3.heap.objs.size + 1) scope.names (cG X.env.cells scope.names [])) fp
 have pt:=ht s3 (upd H2 D (.lst [])) s3.heap.objs.size (cellsFrom (s3.heap.objs.size + 1) scope.names (cG X.env.cells scope.names [])) fp
 have pe:=he s3 (upd H2 D (.lst [])) s3.heap.objs.size (cellsFrom (s3.heap.objs.size + 1) scope.names (cG X.env.cells scope.names [])) fp
 show codeAny _ _ (.compStart (.ListComp elt [⟨tg,iter,ifs,0⟩] scope pos) 0 (.ref it) (.ref D) (compEnvC scope (cellsFrom (s3.heap.objs.size + 1) scope.names (cG X.env.cells scope.names [])) s3.heap.objs.size X.env)) (compPost (model X.prog X.w) X.A X.xe use Qf (.ref D) s3.heap.objs.size) { s3 with heap:=pushCells (s3.heap.push { cls:=.type "dict",data:=.dict #[] }) scope.names }
 have nfp:∀ b ∈ fp,(upd H2 D (.lst [])) b = none:=fun b hb=>(f3 b hb).1.1
 generalize hce:compEnvC scope (cellsFrom (s3.heap.objs.size + 1) scope.names (cG X.env.cells scope.names [])) s3.heap.objs.size X.env = ce at I4 pg pt pe ⊢
 have cL:ce.locals = s3.heap.objs.size:=by subst hce;rfl
 generalize hH3:upd H2 D (.lst []) = H3 at I3 I4 pg pt pe w0 nfp f3
 generalize hs4:({ s3 with heap:=pushCells (s3.heap.push { cls:=.type "dict",data:=.dict #[] }) scope.names }:Shared) = s4 at I4 ⊢
 have st4:tn 0 s4.heap:=T.keep _ _ _ st3 fun b _ o e=>by rw [←hs4];exact pushCells_keeps _ _ _ _ (Heap.get?_push_of_some _ e)
 have stat:∀ {σ':St} {H':Hp} {s':Shared},Inv (X.Hr s3 H3 scope ce fp) [] σ' H' s'->(∀ b ∈ fp,H' b = none)->∀ b ∈ fp,z8 (X.Hr s3 H3 scope ce fp) [] H' b:=fun {σ' H' s'} I' hn b hb =>
  ⟨hn b hb,(I'.ok.OH b hb).1,I'.ok.Fe b hb,.inl hb,fun x c e=>(I'.ok.OH b hb).2 x c e,fun p hp=>absurd (show p ∈ ([]:List (Addr × Obj)) ++ [] from hp) (by simp)⟩
 have loop:codeAny (model X.prog X.w) X.A (.compLoop (.ListComp elt [⟨tg,iter,ifs,0⟩] scope pos) 0 (.ref it) (.ref D) ce) (compPost (model X.prog X.w) X.A X.xe use Qf (.ref D) s3.heap.objs.size) s4:=by
  refine Dm (fun n s'=>∃ i H',Inv (X.Hr s3 H3 scope ce fp) [] (wipe σ (own.map (·.2))) H' s'/\tn i s'.heap/\(∀ b ∈ fp,H' b = none)/\W i n H') ?_ m0 ⟨0,H3,I4,st4,nfp,w0⟩
  rintro n s5 ⟨i,H5,I5,st5,n5,w5⟩
  rcases turn i n H5 w5 with ⟨stop,qq⟩ | ⟨go,Nx,hNx,step⟩
  ·have td:=T.done (X.Hr s3 H3 scope ce fp) rfl rfl rfl hc i [] s5 _ H5 (fun _ _=>False) I5 (stat I5 n5) st5 stop
   refine JU td fun r s6 ⟨hr,I6⟩=>?_
   subst hr
   have I7:Inv X pins σ H5 s6:=I3.call' (ch:=fp) I6.os I6.base I6.bL I6.bare fun b hb=>⟨(f3 b hb).1.2.2.2.1,(f3 b hb).1.2.1,(f3 b hb).1.2.2.2.2.1,(f3 b hb).1.2.2.2.2.2⟩
   have nC:H5 s3.heap.objs.size = none:=by
    have z:H5 ce.locals = none:=I6.free
    rw [cL] at z
    exact z
   obtain ⟨m,hn,_⟩:=I6.loc
   have hn:s6.heap.Ns ce.locals m:=hn
   rw [cL] at hn
   exact hRR D s3.heap.objs.size s6 m H5 I7 qq hn (I3.Ln (Nat.le_refl _) nC)
  ·have ti:=T.item (X.Hr s3 H3 scope ce fp) rfl rfl rfl hc i [] s5 _ H5 (fun _ _=>False) I5 (stat I5 n5) st5 go
   refine JU ti fun r s6 ⟨u,hr,h6⟩=>?_
   subst hr
   refine JU h6 fun _ s7 ⟨x,H7,I7,r7,y7,st7,n7⟩=>?_
   have I7':=I7.pinned (stat I7 n7) (T.obj _ _ st7)
   refine JU (pg _ s7 _ H7 x u _ I7' r7 (step x H7 y7)) fun _ s8 ⟨σ8,H8,I8,hw8,q8⟩=>?_
   refine JU (pt _ s8 σ8 H8 _ I8 q8) fun b s9 ⟨H9,I9,q9⟩=>?_
   have fin:∀ {s':Shared} {H':Hp},Inv (X.Hr s3 H3 scope ce fp) ([] ++ z9 fp s7.heap) σ8 H' s'->Nx H'->∃ m,m < n/\∃ i H',Inv (X.Hr s3 H3 scope ce fp) [] (wipe σ (own.map (·.2))) H' s'/\tn i s'.heap/\(∀ b ∈ fp,H' b = none)/\W i m H':=fun {s' H'} I' nx=>by
    obtain ⟨m',hm,w'⟩:=hNx H' nx
    have pin':∀ b ∈ fp,∀ o,s7.heap.get? b = some o->s'.heap.get? b = some o/\H' b = none:=fun b hb o e =>
     let z:=I'.pin (b,o) (List.mem_append_right _ (List.mem_append_right _ (uF hb e)))
     ⟨z.1,z.2.1⟩
    have hl:(wipe σ (own.map (·.2))).length = σ8.length:=by rw [←hw8,rJ]
    refine ⟨m',hm,i + 1,H',(I'.vt (pins:=[])).weak hl (fun j v e=>?_),T.keep _ _ _ st7 fun b hb o e=>(pin' b hb o e).1,fun b hb=>?_,w'⟩
    ·rw [←hw8] at e
     exact (wV e).1
    ·obtain ⟨o,e,_⟩:=T.obj _ _ st7 b hb
     exact (pin' b hb o e).2
   cases b with
   | false =>
    simp only [Bool.false_eq_true,if_false] at q9 ⊢
    exact fin I9 q9
   | true =>
    simp only [if_true] at q9 ⊢
    refine JU (pe _ s9 σ8 H9 _ I9 q9) fun z s10 ⟨yv,H10,I10,r10,acc,hD10,hz10,nx⟩=>?_
    exact O2 (X:=X.Hr s3 H3 scope ce fp) I10 hD10 hz10 r10 fun s11 I11=>fin I11 nx
 exact codeAny_compStart_list loop (T.self X.A 0 _ _ _ st4 loop)
theorem CB {elt tg iter:Expr} {ifs:List Expr} {scope:Scope} {own:List (Str × Nat)} {pos:Pos} {wi:TI} {g:TG} {tt:TT} {te:TE} (hc:X.calm = true) (hN:X.N.Nodup) (hi:PI X tg iter wi) (ok:vw X.N X.env.scope scope own)
  (hg:∀ (s:Shared) (H:Hp) (C:Addr) (cl:List (Str × Addr)) (fp:List Addr),PG (X.Hr s H scope (compEnvC scope cl C X.env) fp) tg g) (ht:∀ (s:Shared) (H:Hp) (C:Addr) (cl:List (Str × Addr)) (fp:List Addr),R5 (X.Hr s H scope (compEnvC scope cl C X.env) fp) ifs tt)
  (he:∀ (s:Shared) (H:Hp) (C:Addr) (cl:List (Str × Addr)) (fp:List Addr),PE (X.Hr s H scope (compEnvC scope cl C X.env) fp) elt te) (hs:∀ x,foldedSetIterable iter X.env x = pure x:=by intro _;rfl) :
  PE X (.ListComp elt [⟨tg,iter,ifs,0⟩] scope pos) (SN wi g tt te (own.map (·.2))):=by
 intro pins s σ H Q I h
 rw [eval_ListComp]
 refine MM hc hN I hi ok hg ht he hs h fun D C s' m H' I' q hn f=>⟨m,hn,fun h'' sb=>?_⟩
 obtain ⟨f0,f1,f2,f3,f4,f5⟩:=f
 exact ⟨.ref D,H',I'.turned (t':=s'.toks) (fun b o hb e=>(sb.2 b hb).trans e) f0 f1 f3 f4 f5,rfl,q⟩
end
theorem vx {K:PySem.W.Frag} {a:Addr} {xs:List V} {g:TG} {tt:TT} {te:TE} {vs:List Nat} {σ:St} {H1:Hp} {D:Addr} {Qd:Hp->Prop} (Pv:Nat->Hp->Prop) (h0:Pv 0 (upd H1 D (.lst []))) (hl:∀ i H,i<=xs.length->Pv i H->dj K H a xs)
  (hs:∀ i x H,xs[i]? = some x->Pv i H->g x (wipe σ vs) H fun σ2 H2=>wipe σ2 vs = wipe σ vs/\tt σ2 H2 fun b H3 =>
   if b = true then te σ2 H3 fun y H4=>∃ acc,H4 D = some (.lst acc)/\acc.length < sizeLine/\Pv (i + 1) (upd H4 D (.lst (acc ++ [y]))) else Pv (i + 1) H3) (hd:∀ H,Pv xs.length H->Qd H) :
  ∃ W:Nat->Nat->Hp->Prop,(∃ m,W 0 m (upd H1 D (.lst [])))/\∀ i m H,W i m H →
   ((Ob K a).stop i H/\Qd H)\/((Ob K a).go i H/\∃ Nx:Hp->Prop,(∀ H',Nx H'->∃ m',m' < m/\W (i + 1) m' H')/\∀ x H',(Ob K a).Mu i H x H'->g x (wipe σ vs) H' fun σ2 H2=>wipe σ2 vs = wipe σ vs/\tt σ2 H2 fun b H3 =>
    if b = true then te σ2 H3 fun y H4=>∃ acc,H4 D = some (.lst acc)/\acc.length < sizeLine/\Nx (upd H4 D (.lst (acc ++ [y]))) else Nx H3):=by
 refine ⟨fun i m H=>m = xs.length - i/\i<=xs.length/\Pv i H,⟨xs.length,by simp,Nat.zero_le _,h0⟩,?_⟩
 rintro i m H ⟨rfl,hi,p⟩
 have q:=hl i H hi p
 by_cases hlt:i < xs.length
 ·refine .inr ⟨⟨xs,xs[i],q,by simp [hlt]⟩,Pv (i + 1),fun H' p'=>⟨xs.length - (i + 1),by omega,rfl,hlt,p'⟩,fun x H' y=>?_⟩
  obtain ⟨e,y⟩:=y
  subst e
  exact hs i x _ (y xs q) p
 ·have e:i = xs.length:=by omega
  subst e
  exact .inl ⟨⟨xs,q,Nat.le_refl _⟩,hd H p⟩
end L2
namespace L2
open PySem PySem.Spec PyProof.Rows
section
variable {prog:Program} {w:World} {A:Around} {R:Result->Shared->Prop} {s:Shared} {elt t0 i0 t1 i1:Expr} {ifs0 ifs1:List Expr} {scope:Scope} {pos:Pos} {it acc:Value} {env:Env}
end
section
variable {X:Cx}
end
end L2
namespace L2
open PySem PySem.Spec PyProof.Rows
section
variable {κ:Type} [DecidableEq κ]
noncomputable def pL (kvs:List (κ × V)) (k:κ):Option V:=(kvs.find? fun kv=>decide (kv.1 = k)).map (·.2)
noncomputable def putK (kvs:List (κ × V)) (k:κ) (v:V):List (κ × V) :=
 if (kvs.any fun kv=>decide (kv.1 = k)) = true then kvs.map (fun kv=>if kv.1 = k then (kv.1,v) else kv) else kvs ++ [(k,v)]
theorem vy {p:κ × V} {r:List (κ × V)} {k:κ} (e:p.1 = k):pL (p :: r) k = some p.2:=by simp [pL,List.find?_cons,e]
theorem vz {p:κ × V} {r:List (κ × V)} {k:κ} (e:¬ p.1 = k):pL (p :: r) k = pL r k:=by simp [pL,List.find?_cons,e]
theorem Fu (k:κ):∀ kvs:List (κ × V),(kvs.any fun kv=>decide (kv.1 = k)) = (pL kvs k).isSome
 | []=>rfl
 | p :: r=>by
  rw [List.any_cons]
  by_cases e:p.1 = k
  ·simp only [vy e,decide_eq_true e,Bool.true_or,Option.isSome_some]
  ·rw [vz e,decide_eq_false e,Bool.false_or];exact Fu k r
theorem yl (kvs:List (κ × V)) (k:κ) (v:V):(putK kvs k v).length<=kvs.length + 1:=by
 unfold putK
 split
 ·rw [List.length_map];omega
 ·rw [List.length_append,List.length_cons,List.length_nil];omega
theorem oY.pM {o:Option V} {u:Option Value} (r:oY o u):o.isSome = u.isSome:=by
 cases o with
 | none=>cases u with
  | none=>rfl
  | some _=>exact (show False from r).elim
 | some _=>cases u with
  | none=>exact (show False from r).elim
  | some _=>rfl
theorem KV.val {kvs:List (κ × V)} {vs:List (κ × Value)} (r:KV kvs vs) (k:κ):oY (pL kvs k) (valueAt vs k):=by
 unfold KV at r
 induction r with
 | nil=>exact True.intro
 | @cons p q ps qs h t ih =>
  obtain ⟨h1,h2⟩:=h
  by_cases e:p.1 = k
  ·have e':q.1 = k:=h1.symm.trans e
   have b:valueAt (q :: qs) k = some q.2:=by simp [valueAt,List.find?_cons,e']
   rw [vy e,b];exact h2
  ·have e':¬ q.1 = k:=fun z=>e (h1.trans z)
   have b:valueAt (q :: qs) k = valueAt qs k:=by simp [valueAt,List.find?_cons,e']
   rw [vz e,b];exact ih
theorem KV.any {kvs:List (κ × V)} {vs:List (κ × Value)} (r:KV kvs vs) (k:κ):(kvs.any fun kv=>decide (kv.1 = k)) = vs.any fun kv=>decide (kv.1 = k):=by
 unfold KV at r
 induction r with
 | nil=>rfl
 | cons h t ih=>rw [List.any_cons,List.any_cons,ih,h.1]
theorem KV.O3 {kvs:List (κ × V)} {vs:List (κ × Value)} (r:KV kvs vs) (k:κ) {y:V} {u:Value} (ry:RelV y u) :
  KV (kvs.map fun kv=>if kv.1 = k then (kv.1,y) else kv) (vs.map fun kv=>if kv.1 = k then (kv.1,u) else kv):=by
 unfold KV at r ⊢
 induction r with
 | nil=>exact .nil
 | @cons p q ps qs h t ih =>
  rw [List.map_cons,List.map_cons]
  refine .cons ?_ ih
  obtain ⟨h1,h2⟩:=h
  by_cases e:p.1 = k
  ·rw [if_pos e,if_pos (h1.symm.trans e)];exact ⟨h1,ry⟩
  ·rw [if_neg e,if_neg (fun z=>e (h1.trans z))];exact ⟨h1,h2⟩
theorem KV.put {kvs:List (κ × V)} {vs:List (κ × Value)} (r:KV kvs vs) (k:κ) {y:V} {u:Value} (ry:RelV y u):KV (putK kvs k y) (stored vs k u):=by
 unfold putK stored
 rw [r.any k]
 by_cases e:(vs.any fun kv=>decide (kv.1 = k)) = true
 ·rw [if_pos e,if_pos e];exact r.O3 k ry
 ·rw [if_neg e,if_neg e];exact Paired.snoc r ⟨rfl,ry⟩
theorem KV.length {kvs:List (κ × V)} {vs:List (κ × Value)} (r:KV kvs vs):kvs.length = vs.length:=Paired.length r
end
theorem Fv {P:Program} {w:World} {k:Key} {u:Value} (r:RelV (kV k) u):(eE P w).is k u = true:=by
 cases k with
 | inl i=>obtain ⟨t,e⟩:=(show ∃ t,u = Value.int i t from r);subst e;exact E9 P w i t
 | inr x=>obtain ⟨t,e⟩:=(show ∃ t,u = Value.str x t from r);subst e;exact Fb P w x t
theorem CC {P:Program} {w:World}:∀ {ks:List Key} {us:List Value},Vals (ks.map kV) us->ItemsAre (eE P w) ks us
 | [],_,r=>by rw [List.map_nil] at r;cases r;exact .nil
 | k :: ks,_,r=>by
  rw [List.map_cons] at r
  cases r with
  | cons h t=>exact .cons (Fv h) (CC t)
abbrev KT (H:Hp):List (List Key × V)->List (List Key × Addr × Value)->Prop:=Paired fun p q=>p.1 = q.1/\H q.2.1 = some (.tup (p.1.map kV))/\RelV p.2 q.2.2
theorem KT.val {H:Hp} {kvs:List (List Key × V)} {xs:List (List Key × Addr × Value)} (r:KT H kvs xs) (k:List Key):oY (pL kvs k) ((atKey xs k).map (·.2)):=by
 induction r with
 | nil=>exact True.intro
 | @cons p q ps qs h t ih =>
  obtain ⟨h1,_,h2⟩:=h
  by_cases e:p.1 = k
  ·have e':q.1 = k:=h1.symm.trans e
   have b:atKey (q :: qs) k = some q.2:=by simp [atKey,List.find?_cons,e']
   rw [vy e,b];exact h2
  ·have e':¬ q.1 = k:=fun z=>e (h1.trans z)
   have b:atKey (q :: qs) k = atKey qs k:=by simp [atKey,List.find?_cons,e']
   rw [vz e,b];exact ih
theorem KT.O3 {H:Hp} {kvs:List (List Key × V)} {xs:List (List Key × Addr × Value)} (r:KT H kvs xs) (k:List Key) {y:V} {u:Value} (ry:RelV y u) :
  KT H (kvs.map fun kv=>if kv.1 = k then (kv.1,y) else kv) (xs.map (putAt k u)):=by
 induction r with
 | nil=>exact .nil
 | @cons p q ps qs h t ih =>
  rw [List.map_cons,List.map_cons]
  refine .cons ?_ ih
  obtain ⟨h1,h2,h3⟩:=h
  unfold putAt
  by_cases e:p.1 = k
  ·rw [if_pos e,if_pos (h1.symm.trans e)];exact ⟨h1,h2,ry⟩
  ·rw [if_neg e,if_neg (fun z=>e (h1.trans z))];exact ⟨h1,h2,h3⟩
theorem KT.put {H:Hp} {kvs:List (List Key × V)} {xs:List (List Key × Addr × Value)} (r:KT H kvs xs) (k:List Key) {b:Addr} {y:V} {u:Value} (hb:H b = some (.tup (k.map kV))) (ry:RelV y u) :
  KT H (putK kvs k y) (storedH xs k b u):=by
 have e:(kvs.any fun kv=>decide (kv.1 = k)) = (atKey xs k).isSome:=by
  rw [Fu,(r.val k).pM,Option.isSome_map]
 unfold putK storedH
 rw [e]
 by_cases q:(atKey xs k).isSome = true
 ·rw [if_pos q,if_pos q];exact r.O3 k ry
 ·rw [if_neg q,if_neg q];exact Paired.snoc r ⟨rfl,hb,ry⟩
theorem KT.keeps {H H':Hp} {kvs:List (List Key × V)} {xs:List (List Key × Addr × Value)} (r:KT H kvs xs) (ht:∀ b ys,H b = some (.tup ys)->H' b = some (.tup ys)):KT H' kvs xs :=
 Paired.OE r fun _ _ z=>⟨z.1,ht _ _ z.2.1,z.2.2⟩
section
variable {P:Program} {w:World} {H:Hp} {h:Heap} {a:Addr}
theorem Og {u:HO} (ok:qh P w H h) (e:Rd H a u):d8 P w H h a u:=e.ok ok
theorem Fw {kvs:List (Key × V)} (ok:qh P w H h) (e:Rd H a (.dK kvs)):kvs.length<=sizeLine/\(a == sysModules) = false/\∃ vs,KV kvs vs/\h.DictOf (eE P w) a vs :=
 show d8 P w H h a (.dK kvs) from Og ok e
theorem QL {kvs:List (Key × V)} (ok:qh P w H h) (e:H a = some (.dK kvs)):kvs.length<=sizeLine/\(a == sysModules) = false/\∃ vs,KV kvs vs/\h.DictOf (eE P w) a vs:=Fw ok (.inl e)
theorem Ah {ks:List Key} (ok:qh P w H h) (e:H a = some (.tup (ks.map kV))):(tupleKind (eE P w)).is h ks a:=by
 obtain ⟨_,its,r,o,h1,h2,n,h3⟩:=(show d8 P w H h a (.tup (ks.map kV)) from ok a _ e)
 exact ⟨o,its.toArray,n,h1,h2,h3,by simpa using CC r⟩
theorem Fy {kvs:List (List Key × V)} (ok:qh P w H h) (e:Rd H a (.dT kvs)):kvs.length<=sizeLine/\(a == sysModules) = false ∧
  ∃ xs,KT H kvs xs/\h.DictOfH (tupleKind (eE P w)) a xs:=by
 obtain ⟨z,y,xs,r,o,es,ep,h1,h2,h3,h4,h5⟩:=(show d8 P w H h a (.dT kvs) from Og ok e)
 refine ⟨z,y,xs,r,o,es,ep,h1,h2,h3,h4,fun x hx=>?_,h5⟩
 have all:∀ {l:List (List Key × V)} {m:List (List Key × Addr × Value)},KT H l m->∀ x ∈ m,(tupleKind (eE P w)).is h x.1 x.2.1:=by
  intro l m q
  induction q with
  | nil=>intro x hx;exact nomatch hx
  | @cons p q ps qs hq t ih =>
   intro x hx
   rcases List.mem_cons.mp hx with e | hx
   ·subst e
    exact Ah ok (by rw [←hq.1];exact hq.2.1)
   ·exact ih x hx
 exact all r x hx
theorem QM {kvs:List (List Key × V)} (ok:qh P w H h) (e:H a = some (.dT kvs)):kvs.length<=sizeLine/\(a == sysModules) = false ∧
  ∃ xs,KT H kvs xs/\h.DictOfH (tupleKind (eE P w)) a xs:=Fy ok (.inl e)
end
noncomputable def pN (H:Hp) (a:Addr) (y:V) (r:Option V):Prop :=
 (∃ kvs k,Rd H a (.dK kvs)/\y = kV k/\r = pL kvs k)\/∃ kvs k b,Rd H a (.dT kvs)/\y = .ref b/\H b = some (.tup (k.map kV))/\r = pL kvs k
noncomputable def Dn (H:Hp) (a:Addr) (y v:V) (H':Hp):Prop :=
 (∃ kvs k,H a = some (.dK kvs)/\y = kV k/\kvs.length < sizeLine/\H' = upd H a (.dK (putK kvs k v))) ∨
 ∃ kvs k b,H a = some (.dT kvs)/\y = .ref b/\H b = some (.tup (k.map kV))/\kvs.length < sizeLine/\H' = upd H a (.dT (putK kvs k v))
theorem pN.k {H:Hp} {a:Addr} {kvs:List (Key × V)} {k:Key} (e:H a = some (.dK kvs)):pN H a (kV k) (pL kvs k):=.inl ⟨kvs,k,.inl e,rfl,rfl⟩
theorem Dn.k {H:Hp} {a:Addr} {kvs:List (Key × V)} {k:Key} {v:V} (e:H a = some (.dK kvs)) (hl:kvs.length < sizeLine):Dn H a (kV k) v (upd H a (.dK (putK kvs k v))):=.inl ⟨kvs,k,e,rfl,hl,rfl⟩
section
variable {X:Cx} {pins:List (Addr × Obj)} {σ:St} {H:Hp} {s:Shared} {a:Addr} {y v:V} {u r:Value} {o:Option V} {A:Around} {E:Value->Shared->Prop}
theorem Inv.big (I:Inv X pins σ H s):sysModules < s.heap.objs.size:=by
 have h:mainGlobals < s.heap.objs.size:=(I.mod.glob.keeps I.bk).lt
 exact Nat.lt_trans (by decide) h
theorem JV {Q:Value->Shared->Prop} (hu:A.units + 1 < cLine) (I:Inv X pins σ H s) (g:pN H a y (some v)) (ry:RelV y u) (h:∀ w' s',Inv X pins σ H s'->RelV v w'->Q w' s') :
  wpAny (model X.prog X.w) A (getItem (.ref a) u) Q E s:=by
 rcases g with ⟨kvs,k,e,ey,l⟩ | ⟨kvs,k,b,e,ey,eb,l⟩
 ·subst ey
  obtain ⟨z,hd,vs,rel,dd⟩:=Fw I.bL e
  obtain ⟨w',hw,rw'⟩:=oY.some_of (v:=v) (o:=valueAt vs k) (by rw [l];exact rel.val k)
  exact wpAny_getItem_of (Fv ry) dd.mapOf hw (h w' _ (I.tok _) rw')
 ·subst ey
  cases (show u = Value.ref b from ry)
  obtain ⟨z,hd,xs,rel,dd⟩:=Fy I.bL e
  obtain ⟨w',hw,rw'⟩:=oY.some_of (v:=v) (o:=(atKey xs k).map (·.2)) (by rw [l];exact rel.val k)
  obtain ⟨p,hp,hp2⟩:=Option.map_eq_some_iff.mp hw
  refine wpAny_getItem_heap (tupleKind_room_in1 hu) (Ah I.bL eb) dd hp ?_
  rw [hp2]
  exact h w' _ (I.tok _) rw'
theorem R6 {Q:Value->Shared->Prop} (hu:A.units + 1 < cLine) (I:Inv X pins σ H s) (g:pN H a y o) (ry:RelV y u) (h:∀ s',Inv X pins σ H s'->Q (.bool o.isSome) s') :
  wpAny (model X.prog X.w) A (compareOp .In u (.ref a)) Q E s:=by
 rcases g with ⟨kvs,k,e,ey,l⟩ | ⟨kvs,k,b,e,ey,eb,l⟩
 ·subst ey
  obtain ⟨z,hd,vs,rel,dd⟩:=Fw I.bL e
  refine wpAny_in_of (Fv ry) hd dd.mapOf ?_
  rw [←(rel.val k).pM,←l]
  exact h _ (I.tok _)
 ·subst ey
  cases (show u = Value.ref b from ry)
  obtain ⟨z,hd,xs,rel,dd⟩:=Fy I.bL e
  refine wpAny_in_heap (tupleKind_room_in1 hu) (Ah I.bL eb) hd dd ?_
  have q:=(rel.val k).pM
  rw [Option.isSome_map] at q
  rw [←q,←l]
  exact h _ (I.tok _)
theorem MN {Q:Value->Shared->Prop} (hu:A.units + 1 < cLine) (I:Inv X pins σ H s) (g:pN H a y o) (ry:RelV y u) (h:∀ s',Inv X pins σ H s'->Q (.bool (!o.isSome)) s') :
  wpAny (model X.prog X.w) A (compareOp .NotIn u (.ref a)) Q E s:=by
 rcases g with ⟨kvs,k,e,ey,l⟩ | ⟨kvs,k,b,e,ey,eb,l⟩
 ·subst ey
  obtain ⟨z,hd,vs,rel,dd⟩:=Fw I.bL e
  refine wpAny_notIn_of (Fv ry) hd dd.mapOf ?_
  rw [←(rel.val k).pM,←l]
  exact h _ (I.tok _)
 ·subst ey
  cases (show u = Value.ref b from ry)
  obtain ⟨z,hd,xs,rel,dd⟩:=Fy I.bL e
  refine wpAny_notIn_heap (tupleKind_room_in1 hu) (Ah I.bL eb) hd dd ?_
  have q:=(rel.val k).pM
  rw [Option.isSome_map] at q
  rw [←q,←l]
  exact h _ (I.tok _)
theorem Jb {h':Heap} {t':Nat} {ob:HO} (I:Inv X pins σ H s) (mu:N7 (H a)) (hs:Heap.SameBut a s.heap h') (he:∃ q,h'.get? a = some q) (new:d8 X.prog X.w (upd H a ob) h' a ob) :
  Inv X pins σ (upd H a ob) { s with heap:=h',toks:=t' } :=
 I.write (x:=a) (e:=a) mu (.inl rfl) (fun b q hb z=>(hs.2 b hb).trans z) he new
theorem O4 {P:Program} {w:World} {H':Hp} {h':Heap} {kvs:List (Key × V)} {vs:List (Key × Value)} (z:kvs.length<=sizeLine) (hd:(a == sysModules) = false) (rel:KV kvs vs) (dd:h'.DictOf (eE P w) a vs) :
  d8 P w H' h' a (.dK kvs):=⟨z,hd,vs,rel,dd⟩
theorem JW {H':Hp} {Q:Unit->Shared->Prop} (hu:A.units + 1 < cLine) (I:Inv X pins σ H s) (g:Dn H a y v H') (ry:RelV y u) (rv:RelV v r) (h:∀ s',Inv X pins σ H' s'->Q () s') :
  wpAny (model X.prog X.w) A (setItem (.ref a) u r) Q E s:=by
 rcases g with ⟨kvs,k,e,ey,l,eH⟩ | ⟨kvs,k,b,e,ey,eb,l,eH⟩
 ·subst ey eH
  obtain ⟨z,hd,vs,rel,dd⟩:=QL I.bL e
  have hz:vs.length<=sizeLine:=by rw [←rel.length];exact z
  have hl:(putK kvs k v).length<=sizeLine:=by have:=yl kvs k v;omega
  refine wpAny_setItem_pairs (hsz:=hz) (Fv ry) dd fun h' dd' hs=>h _ ?_
  have he:∃ q,h'.get? a = some q:=let ⟨q,_,_,hq,_⟩:=dd';⟨q,hq⟩
  exact Jb I (by rw [e];exact True.intro) hs he (O4 hl hd (rel.put k rv) dd')
 ·subst ey eH
  cases (show u = Value.ref b from ry)
  obtain ⟨z,hd,xs,rel,dd⟩:=QM I.bL e
  have hz:xs.length<=sizeLine:=by rw [←Paired.length rel];exact z
  have hl:(putK kvs k v).length<=sizeLine:=by have:=yl kvs k v;omega
  refine wpAny_setItem_heap (hsz:=hz) (tupleKind_room_in1 hu) (Ah I.bL eb) dd fun h' dd' hs=>h _ ?_
  obtain ⟨q,es,ep,hq,h2,h3,h4,_,h5⟩:=dd'
  refine Jb I (by rw [e];exact True.intro) hs ⟨q,hq⟩ ⟨hl,hd,_,(rel.put k eb rv).keeps fun c ys ec=>?_,q,es,ep,hq,h2,h3,h4,h5⟩
  rw [ai (nV ec e (fun z=>nomatch z))]
  exact ec
end
section
variable {X:Cx} {pins:List (Addr × Obj)} {σ:St} {H:Hp} {s:Shared} {a:Addr} {kvs:List (Key × V)} {k:Key} {u:Value} {A:Around} {E:Value->Shared->Prop}
end
noncomputable def QN (i:Expr):Prop:=∀ ov iv,subscripted i false ov iv = operate [ov,iv] (getItem ov iv)
theorem MO {prog:Program} {w:World} {A:Around} {E:Value->Shared->Prop} {s:Shared} {env:Env} {value slice:Expr} {pos:Pos} {T id:String} {Q:Value->Shared->Prop}
  (hl:typeLookup (.type T) "__getitem__" = pure (some (.builtin id))) (hs:QN slice)
  (h:wpAny (model prog w) A (eval value env) (fun o s₁=>wpAny (model prog w) A (eval slice env) (fun i s₂=>s₂.TypeIs o T/\wpAny (model prog w) A (getItem o i) Q E s₂) E s₁) E s) :
  wpAny (model prog w) A (eval (.Subscript value slice pos) env) Q E s:=by
 refine Subscript_ (wpAny_mono h (fun o s₁ h₁=>wpAny_mono h₁ (fun i s₂ h₂=>?_) fun _ _ x=>x) fun _ _ x=>x)
 obtain ⟨hT,h₂⟩:=h₂
 unfold subscriptTail
 refine wpAny_bind ?_
 rw [getitemInPython_of_ne hT.not_modules]
 refine wpAny_bind (wpAny_specialOf hT hl ?_)
 have fin:wpAny (model prog w) A (subscripted slice false o i) (fun r s₃=>wpAny (model prog w) A (letTemporaryGo value o r >>= fun _=>pure r) Q E s₃) E s₂:=by
  rw [hs o i]
  exact wpAny_operating (wpAny_mono h₂ (fun r s₃ h₃=>wpAny_bind (wpAny_letTemporaryGo (wpAny_pure h₃))) fun _ _ x=>x)
 first
  | exact wpAny_pure (wpAny_bind fin)
  | exact wpAny_bind (wpAny_pure (wpAny_bind fin))
  | exact wpAny_bind fin
theorem Fz {X:Cx} {pins:List (Addr × Obj)} {σ:St} {H:Hp} {s:Shared} {a:Addr} {y:V} {o:Option V} (I:Inv X pins σ H s) (g:pN H a y o):s.TypeIs (.ref a) "dict":=by
 rcases g with ⟨kvs,k,e,_,_⟩ | ⟨kvs,k,b,e,_,_,_⟩
 ·obtain ⟨_,_,vs,_,dd⟩:=Fw I.bL e
  exact dd.typeIs
 ·obtain ⟨_,_,xs,_,dd⟩:=Fy I.bL e
  exact dd.typeIs
noncomputable def QO (td ty:TE):TE:=fun σ H Q=>td σ H fun x H1=>ty σ H1 fun y H2=>∃ a v,x = .ref a/\pN H2 a y (some v)/\Q v H2
noncomputable def R7 (ty td:TE):TE:=fun σ H Q=>ty σ H fun y H1=>td σ H1 fun x H2=>∃ a o,x = .ref a/\pN H2 a y o/\Q (.bl o.isSome) H2
noncomputable def MP (ty td:TE):TE:=fun σ H Q=>ty σ H fun y H1=>td σ H1 fun x H2=>∃ a o,x = .ref a/\pN H2 a y o/\Q (.bl (!o.isSome)) H2
noncomputable def QP (td ty tv:TE):TS:=fun D σ H=>tv σ H fun v H1=>td σ H1 fun x H2=>ty σ H2 fun y H3=>∃ a H4,x = .ref a/\Dn H3 a y v H4/\D.nx σ H4
section
variable {X:Cx} {o i e value:Expr} {pos pos' tpos:Pos} {td ty tv:TE}
theorem vA (hu:X.A.units + 1 < cLine) (ho:PE X o td) (hi:PE X i ty) (hs:QN i):PE X (.Subscript o i pos) (QO td ty):=by
 intro pins s σ H Q I h
 refine MO PySem.F.slot_dict_getitem.lookup hs (d9 (ho pins s σ H _ I h) fun u s1 ⟨x,H1,I1,rx,q1⟩=>d9 (hi pins s1 σ H1 _ I1 q1) fun iv s2 ⟨y,H2,I2,ry,a,v,ex,g,q2⟩=>?_)
 subst ex
 obtain rfl:u = Value.ref a:=rx
 exact ⟨Fz I2 g,JV hu I2 g ry fun w' s3 I3 rw'=>⟨v,H2,I3,rw',q2⟩⟩
theorem Dq (hu:X.A.units + 1 < cLine) (hi:PE X i ty) (ho:PE X o td):PC X .In i o (R7 ty td):=by
 intro pins s σ H Q I h
 refine d9 (hi pins s σ H _ I h) fun iv s1 ⟨y,H1,I1,ry,q1⟩=>d9 (ho pins s1 σ H1 _ I1 q1) fun u s2 ⟨x,H2,I2,rx,a,ov,ex,g,q2⟩=>?_
 subst ex
 obtain rfl:u = Value.ref a:=rx
 exact R6 hu I2 g ry fun s3 I3=>⟨.bl ov.isSome,H2,I3,rfl,q2⟩
theorem JX (hu:X.A.units + 1 < cLine) (hi:PE X i ty) (ho:PE X o td):PC X .NotIn i o (MP ty td):=by
 intro pins s σ H Q I h
 refine d9 (hi pins s σ H _ I h) fun iv s1 ⟨y,H1,I1,ry,q1⟩=>d9 (ho pins s1 σ H1 _ I1 q1) fun u s2 ⟨x,H2,I2,rx,a,ov,ex,g,q2⟩=>?_
 subst ex
 obtain rfl:u = Value.ref a:=rx
 exact MN hu I2 g ry fun s3 I3=>⟨.bl (!ov.isSome),H2,I3,rfl,q2⟩
theorem vB (hu:X.A.units + 1 < cLine) (ho:PE X o td) (hi:PE X i ty) (hv:PE X value tv) (hs:swapsWith value (some (.Subscript o i pos')) pos.line X.env = pure false) :
  PS X (.Assign [.Subscript o i pos'] value pos) (QP td ty tv):=by
 intro pins s σ H D I h
 refine wpAny_Assign_Subscript (d9 (hv pins s σ H _ I h) fun r s1 ⟨v,H1,I1,rv,q1⟩=>d9 (ho pins s1 σ H1 _ I1 q1) fun u s2 ⟨x,H2,I2,rx,q2⟩=>d9 (hi pins s2 σ H2 _ I2 q2) fun iv s3 ⟨y,H3,I3,ry,a,H4,ex,g,q3⟩=>?_) hs
 subst ex
 obtain rfl:u = Value.ref a:=rx
 exact JW hu I3 g ry rv fun s4 I4=>⟨σ,H4,I4,q3⟩
end
theorem LB {P:Program} {w:World} {H:Hp} (h:Heap) (hb:sysModules < h.objs.size):d8 P w H (h.push { cls:=.type "dict",data:=.dict #[] }) h.objs.size (.dK []) :=
 ⟨Nat.zero_le _,beq_eq_false_iff_ne.mpr (Ne.symm (Nat.ne_of_lt hb)),[],.nil,Heap.DictOf.new h⟩
noncomputable def O5:TE:=fun _ H Q=>∀ p,H p = none->Q (.ref p) (upd H p (.dK []))
section
variable {X:Cx} {pos:Pos}
theorem rK:PE X (.Dict [] [] pos) O5:=fun pins s σ H Q I h =>
 wpAny_Dict_empty ⟨.ref s.heap.objs.size,_,I.laid (a:=s.heap.objs.size) (o:=.dK []) (t':=s.toks) (fun _ _ q=>Heap.get?_push_of_some _ q) (Nat.le_refl _) (LB s.heap I.big),rfl,h _ (I.bL.fresh (Nat.le_refl _))⟩
end
section
variable {X:Cx} {pins:List (Addr × Obj)} {σ:St} {H:Hp} {s:Shared} {a:Addr} {y d:V} {u r:Value} {o:Option V} {A:Around} {E:Value->Shared->Prop}
end
section
variable {X:Cx} {o e f:Expr} {apos cpos:Pos} {td ty tx:TE}
end
section
variable {X:Cx} {pins:List (Addr × Obj)} {σ:St} {H:Hp} {s:Shared} {a:Addr} {kvs:List (Key × V)} {A:Around} {E:Value->Shared->Prop}
end
section
variable {X:Cx} {pins:List (Addr × Obj)} {σ:St} {H:Hp} {s:Shared} {a:Addr} {y:V} {u:Value} {A:Around} {E:Value->Shared->Prop}
end
end L2
namespace L2
open PySem PySem.Spec PyProof.Rows
section
variable {prog:Program} {w:World} {A:Around} {E:Value->Shared->Prop}
end
section
variable {X:Cx}
end
end L2
namespace L2
open PySem PySem.Spec PyProof.Rows
section
variable {X:Cx} {pins:List (Addr × Obj)} {σ:St} {H:Hp} {s:Shared} {h':Heap}
theorem Inv.CD {t':Nat} {ch:List Addr} {T:Addr} {ob:HO} (I:Inv X pins σ H s) (k:∀ b o,b ∉ ch->s.heap.get? b = some o->h'.get? b = some o) (hf:∀ b ∈ ch,z8 X pins H b) (hT:s.heap.objs.size<=T)
  (new:d8 X.prog X.w (upd H T ob) h' T ob):Inv X pins σ (upd H T ob) { s with heap:=h',toks:=t' }:=by
 have hn:H T = none:=I.bL.fresh hT
 have nit:∀ b u,H b = some u->b ∉ ch:=fun b u e z=>by
  have q:=(hf b z).1
  rw [q] at e;cases e
 refine I.step (g':=s.gens) (d':=s.drawn) (ch:=ch) (fun b hb=>⟨(hf b hb).2.2.2.1,(hf b hb).2.1,(hf b hb).2.2.2.2.1,(hf b hb).2.2.2.2.2⟩) (fun b o _ _ hc e _=>k b o hc e) (fun b o _ _ hc e _=>⟨o.slots,k b o hc e⟩)
  (fun b o _ e n=>?_) (fun b o hc e=>⟨o,k b o hc e⟩) (fun b xs e=>?_) (fun b o u e=>?_) (fun b ps e=>⟨#[],?_⟩) (fun m hm=>?_) (fun b u e=>?_) I.bare
 ·rw [ai (Nat.ne_of_lt (Nat.lt_of_lt_of_le (Heap.lt_size e) hT))];exact n
 ·rw [ai (aw e hn)];exact e
 ·rw [ai (aw e hn)];exact e
 ·rw [ai (aw e hn),e];simp
 ·obtain ⟨o,es,ep,ho,r⟩:=hm
  exact ⟨o,es,ep,k _ o (fun z=>(hf _ z).2.1 rfl) ho,r⟩
 ·by_cases hb:b = T
  ·subst hb
   rw [af] at e
   cases e
   exact new
  ·rw [ai hb] at e
   refine (I.bL b u e).vq (fun c v hc q=>k c v ?_ q) (fun c q=>by rw [ai (aw q hn)];exact q) fun c xs q=>by rw [ai (aw q hn)];exact q
   rcases hc with z | z
   ·rw [z];exact nit b u e
   ·exact nit c _ z
theorem Inv.lock {d:Addr} {u:HO} (I:Inv X pins σ H s) (h:H d = some u) (mu:N7 (some u)):∃ od,Inv X pins σ (upd H d (.ra od u)) s:=by
 have x:=I.bL d u h
 have ex:∃ od,s.heap.get? d = some od:=by
  cases u with
  | lst xs=>obtain ⟨_,_,_,_,e⟩:=x;exact ⟨_,e⟩
  | dK kvs=>obtain ⟨_,_,_,_,o,_,_,e,_⟩:=x;exact ⟨o,e⟩
  | dT kvs=>obtain ⟨_,_,_,_,o,_,_,e,_⟩:=x;exact ⟨o,e⟩
  | set S n=>obtain ⟨o,_,_,_,e,_⟩:=x;exact ⟨o,e⟩
  | ins C dx fs=>obtain ⟨_,_,_,e,_⟩:=x;exact ⟨_,e⟩
  | ext φ=>obtain ⟨_,⟨_,e⟩,_⟩:=x;exact ⟨_,e⟩
  | _=>exact False.elim mu
 obtain ⟨od,e⟩:=ex
 have new:d8 X.prog X.w (upd H d (.ra od u)) s.heap d (.ra od u):=by
  refine ⟨e,x.vq (fun b v _ q=>q) (fun b q=>?_) fun b xs q=>?_⟩
  ·rw [ai (fun z=>by rw [z,h] at q;cases q;exact mu)];exact q
  ·rw [ai (fun z=>by rw [z,h] at q;cases q;exact mu)];exact q
 exact ⟨od,I.write (x:=d) (e:=d) (t':=s.toks) (h':=s.heap) (by rw [h];exact mu) (.inl rfl) (fun b v _ q=>q) ⟨od,e⟩ new⟩
theorem Inv.QQ {d:Addr} {u:HO} (I:Inv X pins σ H s) (h:H d = some u) (mu:N7 (some u)):∀ o' u',X.Ms d ≠ some (.ra o' u'):=fun o' u' e=>by
 have q:=I.base.uB d o' u' e
 rw [h] at q
 cases q
 exact mu
theorem Inv.unlock {d:Addr} {od:Obj} {u:HO} (I:Inv X pins σ H s) (h:H d = some (.ra od u)) (hn:∀ o' u',X.Ms d ≠ some (.ra o' u')):Inv X pins σ (upd H d u) s:=by
 have neH:∀ b o,H b = some o->(∀ o' u',o ≠ .ra o' u')->b ≠ d:=fun b o e hne z=>by
  rw [z,h] at e
  cases e
  exact hne _ _ rfl
 have neN:∀ b,H b = none->b ≠ d:=fun b e z=>by rw [z,h] at e;cases e
 refine ⟨I.ok,I.os,I.bare,⟨I.base.keep,I.base.slot,fun b o e n hx=>?_,I.base.there,fun b xs e=>?_,fun b o x e=>?_,fun b ps e=>?_⟩,I.loc,I.cell,?_,fun x c e=>?_,fun p hp=>?_,fun b o e=>?_,I.len⟩
 ·rw [ai (neN b (I.base.free b o e n hx))];exact I.base.free b o e n hx
 ·have q:=I.base.wM b xs e
  rw [ai (neH b _ q (fun _ _ z=>nomatch z))];exact q
 ·have q:=I.base.uB b o x e
  rw [ai (fun z=>by rw [z] at e;exact hn _ _ e)];exact q
 ·obtain ⟨m,q⟩:=I.base.wN b ps e
  exact ⟨m,by rw [ai (neH b _ q (fun _ _ z=>nomatch z))];exact q⟩
 ·rw [ai (neN _ I.free)];exact I.free
 ·rw [ai (neN c (I.jE x c e))];exact I.jE x c e
 ·obtain ⟨e,n,r⟩:=I.pin p hp
  exact ⟨e,by rw [ai (neN _ n)];exact n,r⟩
 ·by_cases hb:b = d
  ·rw [hb,af] at e
   cases e
   rw [hb]
   obtain ⟨_,x⟩:=I.bL d _ h
   exact x.vq (fun c v _ q=>q) (fun c q=>by rw [ai (neH c _ q (fun _ _ z=>nomatch z))];exact q) fun c xs q=>by rw [ai (neH c _ q (fun _ _ z=>nomatch z))];exact q
  ·rw [ai hb] at e
   exact (I.bL b o e).vq (fun c v _ q=>q) (fun c q=>by rw [ai (neH c _ q (fun _ _ z=>nomatch z))];exact q) fun c xs q=>by rw [ai (neH c _ q (fun _ _ z=>nomatch z))];exact q
end
noncomputable def O6 (t:TE):TE:=fun σ H Q=>∃ d u,H d = some u/\N7 (some u)/\∀ od,t σ (upd H d (.ra od u)) fun v H'=>H' d = some (.ra od u)/\Q v (upd H' d u)
section
variable {X:Cx}
theorem MQ {e:Expr} {t:TE} (h:PE X e t):PE X e (O6 t):=by
 intro pins s σ H Q I hw
 obtain ⟨d,u,hd,mu,hw⟩:=hw
 obtain ⟨od,I1⟩:=I.lock hd mu
 refine d9 (h pins s σ _ _ I1 (hw od)) fun v s1 ⟨x,H1,I2,r,e2,q⟩=>?_
 exact ⟨x,_,I2.unlock e2 (I.QQ hd mu),r,q⟩
end
section
variable {X:Cx} {tg:Expr}
end
section
variable {X:Cx} {tg:Expr}
end
section
variable {prog:Program} {w:World} {A:Around} {E:Value->Shared->Prop} {s:Shared}
end
section
variable {X:Cx} {pins:List (Addr × Obj)} {σ:St} {H:Hp} {s:Shared} {d:Addr} {o:Obj}
end
section
variable {P:Program} {w:World} {K:PySem.W.Frag} {tg:Expr} {d:Addr} {o:Obj} {es:Array DictEntry} {ep:Nat}
end
section
variable {X:Cx} {tg e:Expr} {td:TE} {apos cpos:Pos}
end
noncomputable def SO (K:PySem.W.Frag) (a:Addr):It :=
 ⟨fun i H=>∃ (xs:List V) (x:V),dj K H a xs/\xs[i]? = some x,fun i H v H'=>∃ T x,v = .ref T/\H T = none/\H' = upd H T (.tup [.int (i:Nat),x])/\∀ xs,dj K H a xs->xs[i]? = some x,fun i H=>∃ xs:List V,dj K H a xs/\xs.length<=i⟩
theorem JY {P:Program} {w:World} {K:PySem.W.Frag} {elts:List Expr} {kk:Nat} {tpos:Pos} (a e it:Addr) :
  Turn P w K (.Tuple elts kk tpos) (SO K a) [e,it] e (fun i h=>(∃ old,IsEnum h e it ((i:Nat):Int) old)/\h.IsListIter it a i/\e ≠ it) where
 mem:=by simp
 obj:=fun i h st b hb=>by
  obtain ⟨⟨old,he⟩,⟨o,ho,hc,hd⟩,_⟩:=st
  have e':b = e\/b = it:=by simpa using hb
  rcases e' with z | z
  ·rw [z];exact ⟨_,he,fun v q=>nomatch q⟩
  ·rw [z];exact ⟨o,ho,fun v q=>by rw [hd] at q;cases q⟩
 keep:=fun i h h' st k=>let ⟨⟨old,he⟩,hi,hne⟩:=st;⟨⟨old,k e (by simp) _ he⟩,hi.at fun o q=>k it (by simp) o q,hne⟩
 item:=by
  intro X hP hw hK hc i pins s σ H E I hf st hg
  subst hP hw hK
  obtain ⟨⟨old,he⟩,hit,hne⟩:=st
  obtain ⟨xs,x,hq,hx⟩:=hg
  obtain ⟨its,rv,p,hz⟩:=I.list hq
  obtain ⟨u,hu,ru⟩:=rv.get hx
  have hel:e < s.heap.objs.size:=Heap.lt_size he
  have hil:it < s.heap.objs.size:=by obtain ⟨_,q,_⟩:=hit;exact Heap.lt_size q
  refine wpAny_pyNext_enum_item he hit p.isList (x:=u) (by simpa using hu) hne fun h' ho hit' hT hsz hk=>?_
  refine ⟨_,rfl,wpAny_letOwnedTupleGo_enum (s:={ s with heap:=h',toks:=s.toks + 1 }) ho fun h'' he' sb=>?_⟩
  have hT2:h''.get? s.heap.objs.size = some { cls:=.type "tuple",data:=.seq #[.int i s.toks,u] }:=(sb.2 _ (Nat.ne_of_gt hel)).trans hT
  have new:d8 X.prog X.w (upd H s.heap.objs.size (.tup [.int (i:Nat),x])) h'' s.heap.objs.size (.tup [.int (i:Nat),x]) :=
   ⟨by show 2<=sizeLine;decide,[.int i s.toks,u],.cons ⟨_,rfl⟩ (.cons ru .nil),⟨_,hT2,rfl,_,rfl⟩⟩
  have I1:Inv X pins σ (upd H s.heap.objs.size (.tup [.int (i:Nat),x])) { s with heap:=h'',toks:=s.toks + 1 } :=
   I.CD (ch:=[e,it]) (fun b ob hb q=>(sb.2 b (fun z=>hb (by simp [z]))).trans (hk b ob (fun z=>hb (by simp [z])) (fun z=>hb (by simp [z])) q)) hf (Nat.le_refl _) new
  refine ⟨.ref s.heap.objs.size,_,I1,rfl,⟨_,x,rfl,I.bL.fresh (Nat.le_refl _),rfl,fun ys hy=>by rw [I.Fg hy hq];exact hx⟩,⟨⟨u,?_⟩,hit'.at fun o q=>(sb.2 it (Ne.symm hne)).trans q,hne⟩,fun b hb=>?_⟩
  ·have e1:((i + 1:Nat):Int) = (i:Int) + 1:=by omega
   rw [e1];exact he'
  ·have hb':b < s.heap.objs.size:=by
    have e':b = e\/b = it:=by simpa using hb
    rcases e' with z | z
    ·rw [z];exact hel
    ·rw [z];exact hil
   rw [ai (Nat.ne_of_lt hb')]
   exact (hf b hb).1
 done:=by
  intro X hP hw hK hc i pins s σ H E I hf st hg
  subst hP hw hK
  obtain ⟨⟨old,he⟩,hit,hne⟩:=st
  obtain ⟨xs,hq,hx⟩:=hg
  obtain ⟨its,rv,p,hz⟩:=I.list hq
  obtain ⟨f0,f1,f2,f3,f4,f5⟩:=hf it (by simp)
  have hl:=rv.length
  exact wpAny_pyNext_enum_end (I.ok.hd hc) he hit p.isList (by simp;omega) fun h' eb=>⟨rfl,I.turned (t':=s.toks) (fun b o hb q=>eb b o hb q) f0 f1 f3 f4 f5⟩
 self:=fun A i s Q E st h=>let ⟨⟨_,he⟩,_⟩:=st;wpAny_pyIter_enum he h
noncomputable def QR (K:PySem.W.Frag) (ta:TA):TI:=fun σ H R=>ta σ H fun vs H1=>∃ a xs,vs = [.ref a]/\dj K H1 a xs/\R (SO K a) H1
theorem Jc {X:Cx} {e:Expr} {ta:TA} {p pos tpos:Pos} {elts:List Expr} {kk:Nat} (hg:Gl X "enumerate") (hm:X.mg "enumerate" = none) (ha:PA X [e] ta) (hs:starEach [e] X.env = [(false,eval e X.env)]:=by rfl) :
  PI X (.Tuple elts kk tpos) (.Call (.Name "enumerate" p) [e] [] pos) (QR X.K ta):=by
 intro pins s σ H R I h
 refine Call_ (qi I hg hm boot_enumerate (PyProof.Rows.callWith_type1 (d9 (ha pos pins s σ H _ I h) fun us s1 ⟨vs,H1,I1,r1,q1⟩=>?_) hs rfl))
 obtain ⟨a,xs,ex,hq,q⟩:=q1
 subst ex
 cases r1 with
 | cons r rr =>
  cases rr
  cases r
  obtain ⟨its,rv,p',hz⟩:=I1.list hq
  refine call_enumerate_list p'.isList fun h' he hit hsz hk=>wpAny_pyIter_enum he ?_
  have I2:Inv X pins σ H1 { s1 with heap:=h' }:=I1.kept (t':=s1.toks) hk
  refine ⟨s1.heap.objs.size + 1,[s1.heap.objs.size + 1,s1.heap.objs.size],_,_,H1,rfl,I2,JY a (s1.heap.objs.size + 1) s1.heap.objs.size,⟨⟨.none,he⟩,hit,Nat.succ_ne_self _⟩,fun b hb=>?_,q⟩
  have e':b = s1.heap.objs.size + 1\/b = s1.heap.objs.size:=by simpa using hb
  have hle:s1.heap.objs.size<=b:=by
   rcases e' with z | z
   ·rw [z];exact Nat.le_add_right _ _
   ·rw [z];exact Nat.le_refl _
  exact I1.Ln hle (I1.bL.fresh hle)
end L2
section
namespace Bits
open PySem PyProof.Rows
end Bits
end
section
namespace TL
open PySem PySem.Builtin PySem.Builtin.Str PySem.StrLaws
abbrev tl (x:Str):List Nat:=x.cps.toList
theorem O7 {x y:Str} (h:tl x = tl y):x = y:=Str.ext' (Array.toList_inj.mp h)
theorem CF (x y:Str):tl (x ++ y) = tl x ++ tl y:=by
 show (x ++ y).cps.toList = _
 rw [Str.cps_append,Array.toList_append]
theorem Ai:∀ {l m:List Str},l.map tl = m.map tl->l = m
 | [],[],_=>rfl
 | [],_ :: _,h=>by simp at h
 | _ :: _,[],h=>by simp at h
 | x :: l,y :: m,h=>by
  rw [List.map_cons,List.map_cons] at h
  injection h with h1 h2
  rw [O7 h1,Ai h2]
noncomputable def FA (S:List Nat):List (List Nat)->List Nat
 | []=>[]
 | [p]=>p
 | p :: q :: r=>p ++ (S ++ FA S (q :: r))
theorem Jd (y:Str):∀ parts:List Str,tl (Str.join y parts) = FA (tl y) (parts.map tl)
 | []=>rfl
 | [_]=>rfl
 | x :: z :: r=>by
  show tl (x ++ y ++ Str.join y (z :: r)) = tl x ++ (tl y ++ FA (tl y) ((z :: r).map tl))
  rw [CF,CF,Jd y (z :: r),List.append_assoc]
theorem join_eq (y:Str) (parts:List Str):Txt.join y parts = Str.join y parts:=glued_eq_join y parts
end TL
end
namespace L2
open PySem PySem.Spec PyProof.Rows
theorem ql:∀ {ys:List Str} {us:List Value},Vals (ys.map V.str) us->StrsAre us ys
 | [],_,.nil=>.nil
 | y :: ys,_,.cons r t=>by
  obtain ⟨k,rfl⟩:=r
  exact .cons y k (ql t)
section
variable {X:Cx} {pins:List (Addr × Obj)} {σ:St} {H:Hp} {s:Shared} {Q:VK}
end
section
variable {X:Cx}
theorem MR:Qg X "str.join" (fun x xs H Q=>∃ a p,∃ ys:List Str,x = .str a/\xs = [.ref p]/\(dj X.K H p (ys.map V.str)\/yD X.K H p (ys.map V.str)) ∧
  (ys.map (·.length)).sum + ys.length * a.length<=16777216/\Q (.str (Txt.join a ys)) H):=by
 intro pins s σ H x xs v us Q I rx rs h
 obtain ⟨a,p,ys,rfl,rfl,hp,hz,h⟩:=h
 obtain ⟨t,rfl⟩:=rx
 cases rs with
 | cons r1 rs =>
  cases rs
  cases r1
  rcases hp with hp | hp
  ·obtain ⟨its,r,⟨o,n,ho,hc,_,hd⟩,_⟩:=I.list hp
   exact PyProof.Rows.join_list (items:=its.toArray) ⟨o,ho,hc,n,hd⟩ (by rw [List.toList_toArray];exact ql r) hz fun t' k=>⟨.str _,H,I.tok k,⟨t',rfl⟩,h⟩
  ·obtain ⟨its,r,ht,_⟩:=I.tuple hp
   exact PyProof.Rows.join_tuple (items:=its.toArray) ht (by rw [List.toList_toArray];exact ql r) hz fun t' k=>⟨.str _,H,I.tok k,⟨t',rfl⟩,h⟩
theorem S4 {id:String} {C:Str->Prop} {g:Str->V} (rule:∀ (a:Str) (t:Tok) (s:Shared) (Q:Value->Shared->Prop),C a->(∀ (u:Value) (k:Nat),RelV (g a) u->Q u { s with toks:=k }) →
  wpAny (model X.prog X.w) X.A (call (.builtin id) [.str a t]) Q X.xe s):Qg X id (fun x xs H Q=>∃ a,x = .str a/\xs = []/\C a/\Q (g a) H):=by
 intro pins s σ H x xs v us Q I rx rs h
 obtain ⟨a,rfl,rfl,hc,h⟩:=h
 obtain ⟨t,rfl⟩:=rx
 cases rs
 exact rule a t s _ hc fun u k r=>⟨g a,H,I.tok k,r,h⟩
theorem HH:Qg X "str.isdigit" (fun x xs H Q=>∃ a,x = .str a/\xs = []/\True/\Q (.bl (Txt.isdigit a)) H) :=
 S4 (C:=fun _=>True) (g:=fun a=>.bl (Txt.isdigit a)) fun _ _ s _ _ h=>PySem.SC.isdigit (h _ s.toks rfl)
theorem Dr:yj X (.type "int") (fun xs H Q=>∃ a n,xs = [.str a]/\PySem.intText? a = some n/\a.length<=640/\Q (.int n) H):=by
 intro pins s σ H xs us Q I rs h
 obtain ⟨a,n,rfl,hn,hl,h⟩:=h
 cases rs with
 | cons r1 rs =>
  cases rs
  obtain ⟨t,rfl⟩:=r1
  exact PySem.W.KIN.call_text hn hl ⟨.int n,H,I.tok _,⟨_,rfl⟩,h⟩
end
section
variable {X:Cx} {o e:Expr} {to te:TE}
noncomputable def S5 (r:V->List V->Hp->VK->Prop) (to:TE):TE:=fun σ H Q=>to σ H fun x H1=>(∃ a,x = .str a)/\r x [] H1 Q
noncomputable def SQ (r:V->List V->Hp->VK->Prop) (to te:TE):TE:=fun σ H Q=>to σ H fun x H1=>(∃ a,x = .str a)/\te σ H1 fun y H2=>r x [y] H2 Q
theorem QS {id:String} {name:Str} {apos pos:Pos} {r:V->List V->Hp->VK->Prop} (slot:Slot "str" name id) (ty:typeOf (.builtin id) = pure (.type "method_descriptor")) (rule:Qg X id r) (ho:PE X o to)
  (hbase:attributeBase o name X.env (eval o X.env) = eval o X.env:=by rfl) (hline:(apos.endLine == pos.line) = true:=by rfl):PE X (.Call (.Attribute o name apos) [] [] pos) (S5 r to):=by
 intro pins s σ H Q I h
 refine PySem.Call_method0 hbase hline (d9 (ho pins s σ H _ I h) fun v s1 ⟨x,H1,I1,r1,q1⟩=>?_)
 obtain ⟨⟨a,rfl⟩,q1⟩:=q1
 obtain ⟨t,rfl⟩:=_root_.id r1
 exact ⟨"str",_,F.plainAttrs_str,slot,ty,typeIs_str _ _ _,(fun _ e=>nomatch e),Calls.callWith_builtin rfl (PySem.evalArgs_none (rule pins s1 σ H1 _ [] _ [] Q I1 r1 .nil q1))⟩
theorem QT {id:String} {name:Str} {apos pos:Pos} {r:V->List V->Hp->VK->Prop} (slot:Slot "str" name id) (ty:typeOf (.builtin id) = pure (.type "method_descriptor")) (rule:Qg X id r) (ho:PE X o to) (he:PE X e te)
  (hs:starEach [e] X.env = [(false,eval e X.env)]:=by rfl) (hbase:attributeBase o name X.env (eval o X.env) = eval o X.env:=by rfl) (hline:(apos.endLine == pos.line) = true:=by rfl) :
  PE X (.Call (.Attribute o name apos) [e] [] pos) (SQ r to te):=by
 intro pins s σ H Q I h
 refine PySem.Call_method1 hbase hs hline (d9 (ho pins s σ H _ I h) fun v s1 ⟨x,H1,I1,r1,q1⟩=>?_)
 obtain ⟨⟨a,rfl⟩,q1⟩:=q1
 obtain ⟨t,rfl⟩:=_root_.id r1
 refine ⟨"str",_,F.plainAttrs_str,slot,ty,typeIs_str _ _ _,(fun _ e=>nomatch e),Calls.callWith_builtin rfl (Calls.evalArgs_plain (Calls.spliced_cons ?_))⟩
 exact d9 (he pins s1 σ H1 _ I1 q1) fun u s2 ⟨y,H2,I2,r2,q2⟩=>Calls.spliced_nil (rule pins s2 σ H2 _ [y] _ [u] Q I2 r1 (.cons r2 .nil) q2)
theorem MS {apos pos:Pos} (ho:PE X o to) (he:PE X e te) (hs:starEach [e] X.env = [(false,eval e X.env)]:=by rfl) (hbase:attributeBase o "join" X.env (eval o X.env) = eval o X.env:=by rfl) (hline:(apos.endLine == pos.line) = true:=by rfl) :
  PE X (.Call (.Attribute o "join" apos) [e] [] pos) (SQ (fun x xs H Q=>∃ a p,∃ ys:List Str,x = .str a/\xs = [.ref p]/\(dj X.K H p (ys.map V.str)\/yD X.K H p (ys.map V.str)) ∧
   (ys.map (·.length)).sum + ys.length * a.length<=16777216/\Q (.str (Txt.join a ys)) H) to te) :=
 QT F.slot_str_join F.type_str_join MR ho he hs hbase hline
end
end L2
namespace L2
open PySem PySem.Spec PyProof.Rows
section
variable {X:Cx}
theorem HI:zx X (compareOp .In) (fun x y H Q=>∃ (c:Nat) (z:Str),x = .str ⟨#[c]⟩/\y = .str z/\Q (.bl (decide (c ∈ z.cps.toList))) H):=by
 intro pins s σ H x y v u Q I rx ry h
 obtain ⟨c,z,rfl,rfl,q⟩:=h
 obtain ⟨t,rfl⟩:=rx
 obtain ⟨t',rfl⟩:=ry
 exact PyProof.Rows.in_str (bW I q (PySem.StrLaws.found_one z c).symm)
theorem Bz:zx X (compareOp .NotIn) (fun x y H Q=>∃ (c:Nat) (z:Str),x = .str ⟨#[c]⟩/\y = .str z/\Q (.bl (!decide (c ∈ z.cps.toList))) H):=by
 intro pins s σ H x y v u Q I rx ry h
 obtain ⟨c,z,rfl,rfl,q⟩:=h
 obtain ⟨t,rfl⟩:=rx
 obtain ⟨t',rfl⟩:=ry
 exact PyProof.Rows.notIn_str (bW I q (congrArg Bool.not (PySem.StrLaws.found_one z c).symm))
end
end L2
namespace Att
open PySem PySem.W PySem.Calls PyProof.Rows
section
variable {prog:Program} {w:World} {A:Around} {E:Value->Shared->Prop} {s:Shared} {K:Frag}
end
end Att
namespace L2
open PySem PySem.Spec PyProof.Rows
end L2
namespace L2
open PySem PySem.Spec PyProof.Rows
end L2
namespace L2
open PySem PySem.Spec PyProof.Rows
noncomputable def inClass (s:Stmt) (j:Nat):Stmt:=match s with
 | .ClassDef _ _ _ body _ _ _ _ _ _ _=>body.getD j (.Pass ⟨0,0,0,0⟩)
 | _=>.Pass ⟨0,0,0,0⟩
noncomputable def zC (s:Stmt):Arguments:=match s with
 | .FunctionDef _ a _ _ _ _ _ _ _ _=>a
 | _=>{ posonlyargs:=[],args:=[],vararg:=none,kwonlyargs:=[],kw_defaults:=[],kwarg:=none,defaults:=[] }
noncomputable def qm (s:Stmt):List Stmt:=match s with
 | .FunctionDef _ _ b _ _ _ _ _ _ _=>b
 | _=>[]
noncomputable def ak (s:Stmt):Scope:=match s with
 | .FunctionDef _ _ _ _ _ _ sc _ _ _=>sc
 | _=>{ kind:=.function,names:=[],isGenerator:=false,isCoroutine:=false }
abbrev kD:Ho:=fun _ _ _ _ _ _=>False
abbrev E0:XK:=fun _ _ _=>False
theorem aN {X:Cx}:Passes kD X E0:=fun _ _ _ _ _ _ _ h=>h.elim
structure br (K:PySem.W.Frag) (x qual:Str) (st:Stmt) (f:Addr) (fd:FuncData):Prop where
 ex:∃ (oc:Value) (od:Option Addr) (kV doc pm:Value) (an:Option Addr) (cdv ct:Value) (osl:Array (Option Value)),
  fd = PySem.W.fnOf x qual (zC st) (qm st) (ak st) .none kV doc pm an cdv ct/\K.lookup f = some ⟨oc,od,.func fd,osl⟩/\PySem.W.codeIn K cdv qual = true
 kp:PySem.W.keepIn K (.ref f) = true
section
variable {P:Program} {w:World} {K:PySem.W.Frag} {mg:Str->Option Value} {base:Heap}
theorem br.ok {x qual:Str} {st:Stmt} {f:Addr} {fd:FuncData} {N ps:List Str} {k:Nat} {sp:Sp} (F:br K x qual st f fd) (S:au N ps (ak st)) (len:∀ vs H Q E,sp vs H Q E->vs.length = ps.length)
  (hbody:∀ (cdv:Value) (A:Around) (outer:List Env) (s:Shared) (H:Hp) (vs:List V) (Q:VK) (E:XK),iZ k (A.deeper (envOfC qual (ak st) s.heap.objs.size f cdv))->sp vs H Q E →
   ∃ t,Hn (Fm kD P w K mg base N qual (ak st) f cdv A outer s H E).Rr (qm st) t/\t { nx:=fun _ H'=>Q .fR H',rt:=Q } (start N vs) H):a8 P w K mg base kD (k + 1) f fd ps sp:=by
 obtain ⟨oc,od,kV,doc,pm,an,cdv,ct,osl,rfl,lk,hcd⟩:=F.ex
 refine Of lk hcd S len fun A outer s H vs Q E hr hsp=>?_
 obtain ⟨t,h,q⟩:=hbody cdv A outer s H vs Q E hr hsp
 exact ⟨t,h.Rr,q⟩
theorem br.binds {x qual:Str} {st:Stmt} {f:Addr} {fd:FuncData} {ps:List Str} (F:br K x qual st f fd)
  (h:∀ (kV doc pm:Value) (an:Option Addr) (cdv ct:Value) (us:List Value),us.length = ps.length->bindArgs (PySem.W.fnOf x qual (zC st) (qm st) (ak st) .none kV doc pm an cdv ct) ⟨us,[]⟩ = pure (ps.zip us)):Binds K fd ps []:=by
 obtain ⟨oc,od,kV,doc,pm,an,cdv,ct,osl,rfl,lk,hcd⟩:=F.ex
 exact .all (h kV doc pm an cdv ct)
theorem aD {x qual:Str} {st:Stmt} {f:Addr} {oc:Value} {od an:Option Addr} {osl:Array (Option Value)} {kV doc pm cdv ct:Value} (l:K.lookup f = some ⟨oc,od,.func (PySem.W.fnOf x qual (zC st) (qm st) (ak st) .none kV doc pm an cdv ct),osl⟩)
  (c:PySem.W.codeIn K cdv qual = true) (k:PySem.W.keepIn K (.ref f) = true):br K x qual st f (PySem.W.fnOf x qual (zC st) (qm st) (ak st) .none kV doc pm an cdv ct):=⟨⟨oc,od,kV,doc,pm,an,cdv,ct,osl,rfl,l,c⟩,k⟩
end
theorem nk {A:Around} {k:Nat} (hr:iZ k A):A.units + 1 < cLine:=Nat.lt_of_le_of_lt (Nat.add_le_add_left (by decide:1<=64) _) hr.units
section
variable {X:Cx}
theorem pv (i:Nat) {x:Str} {pos:Pos} (hN:X.N[i]? = some x:=by rfl) (hv:Qp X.env.scope x:=by first | exact Or.inl rfl | exact Or.inr (Or.inl rfl) | exact Or.inr (Or.inr rfl)) (hd:(x == ("__debug__" : Str)) = false:=by decide)
  (hcd:(x == ("__classdict__" : Str)) = false:=by decide):PE X (.Name x pos) (Li i):=OI hN hv hd hcd
end
theorem aM {A B:Prop} (h:B):if false = true then A else B:=by
 rw [if_neg Bool.false_ne_true]
 exact h
theorem aQ {A B:Prop} (h:A):if true = true then A else B:=by
 rw [if_pos rfl]
 exact h
noncomputable def bc (H H':Hp):Prop:=∀ b o,H b = some o->H' b = some o
theorem bc.refl (H:Hp):bc H H:=fun _ _ h=>h
theorem bc.trans {H H1 H2:Hp} (a:bc H H1) (b:bc H1 H2):bc H H2:=fun c o h=>b c o (a c o h)
theorem bc.free {H H':Hp} (e:bc H H') {l:Addr} (h:H' l = Option.none):H l = Option.none:=by
 cases q:H l with
 | none=>rfl
 | some o =>
  rw [e l o q] at h
  cases h
section
variable {κ:Type} [DecidableEq κ]
end
theorem at_of {xs:List V} {z:Int} {j:Nat} {v:V} (e:z = (j:Int)) (h:xs[j]? = some v):Mv xs z = some v:=by
 rw [e]
 exact mC h
theorem Oh {α:Type} {l:List α} (hN:l.Nodup) {i j:Nat} {x:α} (a:l[i]? = some x) (b:l[j]? = some x):i = j:=by
 obtain ⟨h1,e1⟩:=List.getElem?_eq_some_iff.mp a
 obtain ⟨h2,e2⟩:=List.getElem?_eq_some_iff.mp b
 exact (List.getElem_inj hN).mp (e1.trans e2.symm)
end L2
section
namespace L2
open PySem PySem.Spec PyProof.Rows
open PySem.W (WData Codec OpenSpec Well WellAll ReadsW ReadsAllW)
mutual
inductive Dw (K:PySem.W.Frag) (H:Hp):V->WData->Prop
 | fR:Dw K H .fR .none
 | bl (b:Bool):Dw K H (.bl b) (.bool b)
 | int (i:Int):Dw K H (.int i) (.int i)
 | str (x:Str):Dw K H (.str x) (.str x)
 | Bw (b:Array UInt8):Dw K H (.Bw b) (.bytes b.toList)
 | lst {a:Addr} {xs:List V} {ds:List WData}:dj K H a xs->rb K H xs ds->Dw K H (.ref a) (.list ds)
 | tup {a:Addr} {xs:List V} {ds:List WData}:yD K H a xs->rb K H xs ds->Dw K H (.ref a) (.tuple ds)
inductive rb (K:PySem.W.Frag) (H:Hp):List V->List WData->Prop
 | nil:rb K H [] []
 | cons {v:V} {vs:List V} {d:WData} {ds:List WData}:Dw K H v d->rb K H vs ds->rb K H (v :: vs) (d :: ds)
end
theorem Je {K:PySem.W.Frag} {H:Hp}:∀ ns:List Int,rb K H (ns.map V.int) (ns.map WData.int)
 | []=>.nil
 | n :: r=>.cons (.int n) (Je r)
theorem Jf {K:PySem.W.Frag} {H:Hp}:∀ (ns:List Int) (xs:List V),rb K H xs (ns.map WData.int)->xs = ns.map V.int
 | [],xs,h=>by
  cases h
  rfl
 | n :: r,xs,h=>by
  cases h with
  | cons h1 h2 =>
   cases h1
   rw [Jf r _ h2] <;> rfl
section
variable {P:Program} {w:World} {K:PySem.W.Frag} {H:Hp} {h:Heap} {R:PySem.W.WRecords} {cl:Str->Option Addr}
theorem O8 {a:Addr} {xs:List V} (bL:qh P w H h) (KX:K.In h) (q:dj K H a xs):∃ (its:List Value) (o:Obj) (n:Nat),Vals xs its/\h.get? a = some o/\o.cls = .type "list"/\o.data = .seq its.toArray n:=by
 rcases q with q | ⟨o,its,n,e,hc,_,hd,_,hv⟩
 ·obtain ⟨_,its,n,hv,e⟩:=(show d8 P w H h a (.lst xs) from q.ok bL)
  exact ⟨its,_,n,hv,e,rfl,rfl⟩
 ·exact ⟨its.toList,o,n,hv,KX _ _ e,hc,by simp [hd]⟩
theorem O9 {a:Addr} {xs:List V} (bL:qh P w H h) (KX:K.In h) (q:yD K H a xs):∃ (its:List Value) (o:Obj) (n:Nat),Vals xs its/\h.get? a = some o/\o.cls = .type "tuple"/\o.data = .seq its.toArray n:=by
 rcases q with q | ⟨o,its,n,e,hc,hd,_,hv⟩
 ·obtain ⟨_,its,hv,o,e,hc,n,hd⟩:=(show d8 P w H h a (.tup xs) from q.ok bL)
  exact ⟨its,o,n,hv,e,hc,hd⟩
 ·exact ⟨its.toList,o,n,hv,KX _ _ e,hc,by simp [hd]⟩
mutual
theorem Dw.reads (bL:qh P w H h) (KX:K.In h):∀ (d:WData) (v:V) (u:Value),Dw K H v d->RelV v u->∃ as,ReadsW R cl h u d as
 | .none,_,_,x,r=>by
  cases x
  cases r
  exact ⟨_,ReadsW.none⟩
 | .bool b,_,_,x,r=>by
  cases x
  cases r
  exact ⟨_,ReadsW.bool b⟩
 | .int i,_,_,x,r=>by
  cases x
  obtain ⟨t,rfl⟩:=r
  exact ⟨_,ReadsW.int i t⟩
 | .str s,_,_,x,r=>by
  cases x
  obtain ⟨t,rfl⟩:=r
  exact ⟨_,ReadsW.str s t⟩
 | .bytes b,_,_,x,r=>by
  cases x
  obtain ⟨t,rfl⟩:=r
  exact ⟨_,ReadsW.bytes _ t⟩
 | .list ds,_,_,x,r=>by
  cases x with
  | lst hs ha =>
   cases r
   obtain ⟨its,o,n,rv,ho,hc,hd⟩:=O8 bL KX hs
   obtain ⟨as,hr⟩:=Dw.readsAll bL KX ds _ its ha rv
   exact ⟨_,ReadsW.list ho hc hd hr⟩
 | .tuple ds,_,_,x,r=>by
  cases x with
  | tup hs ha =>
   cases r
   obtain ⟨its,o,n,rv,ho,hc,hd⟩:=O9 bL KX hs
   obtain ⟨as,hr⟩:=Dw.readsAll bL KX ds _ its ha rv
   exact ⟨_,ReadsW.tuple ho hc hd hr⟩
 | .float _,_,_,x,_=>by cases x
 | .dict _,_,_,x,_=>by cases x
 | .bytearray _,_,_,x,_=>by cases x
 | .set _,_,_,x,_=>by cases x
 | .frozenset _,_,_,x,_=>by cases x
 | .obj _ _,_,_,x,_=>by cases x
theorem Dw.readsAll (bL:qh P w H h) (KX:K.In h):∀ (ds:List WData) (vs:List V) (us:List Value),rb K H vs ds->Vals vs us->∃ as,ReadsAllW R cl h us ds as
 | [],_,_,x,r=>by
  cases x
  cases r
  exact ⟨_,ReadsAllW.nil⟩
 | d :: ds,_,_,x,r=>by
  cases x with
  | cons h1 h2 =>
   cases r with
   | cons r1 r2 =>
    obtain ⟨as,q1⟩:=Dw.reads bL KX d _ _ h1 r1
    obtain ⟨bs,q2⟩:=Dw.readsAll bL KX ds _ _ h2 r2
    exact ⟨_,ReadsAllW.cons q1 q2⟩
end
end
mutual
noncomputable def Jg:WData->Bool
 | .none=>true
 | .bool _=>true
 | .int _=>true
 | .str _=>true
 | .bytes _=>true
 | .list xs=>yE xs
 | .tuple xs=>yE xs
 | _=>false
noncomputable def yE:List WData->Bool
 | []=>true
 | x :: r=>Jg x && yE r
end
theorem FC {α:Type} {f:α->WData} (h:∀ a,Jg (f a) = true):∀ l:List α,yE (l.map f) = true
 | []=>rfl
 | x :: r=>by
  show (Jg (f x) && yE (r.map f)) = true
  rw [h x,FC h r] <;> rfl
theorem rL:∀ (c:Codec) (a:c.denote),Jg (c.enc a) = true
 | .unit,_=>rfl
 | .bool,_=>rfl
 | .int _ _,_=>rfl
 | .nat _ _,_=>rfl
 | .u8,_=>rfl
 | .bytes _ _,_=>rfl
 | .text _ _ _ _,_=>rfl
 | .list _ _ c,a=>FC (fun x=>rL c x) a
 | .pair c d,a=>by
  show (Jg (c.enc a.1) && (Jg (d.enc a.2) && true)) = true
  rw [rL c a.1,rL d a.2] <;> rfl
 | .triple c d e,a=>by
  show (Jg (c.enc a.1) && (Jg (d.enc a.2.1) && (Jg (e.enc a.2.2) && true))) = true
  rw [rL c a.1,rL d a.2.1,rL e a.2.2] <;> rfl
 | .option c,none=>rfl
 | .option c,some x=>rL c x
theorem CG:∀ (cs:List Codec) (a:Codec.denoteAll cs),yE (Codec.encAll cs a) = true
 | [],_=>rfl
 | c :: cs,a=>by
  show (Jg (c.enc a.1) && yE (Codec.encAll cs a.2)) = true
  rw [rL c a.1,CG cs a.2] <;> rfl
theorem uH:∀ {xs:List WData} {d:WData},d ∈ xs->d.weight<=WData.weightAll xs
 | [],d,h=>absurd h (by simp)
 | x :: r,d,h=>by
  show d.weight<=x.weight + 1 + WData.weightAll r
  rcases List.mem_cons.mp h with e | m
  ·rw [e]
   omega
  ·have z:=uH m
   omega
noncomputable def toV:Value->V
 | .none=>.fR
 | .bool b=>.bl b
 | .int i _=>.int i
 | .str x _=>.str x
 | .bytes b _=>.Bw b
 | .ref a=>.ref a
 | _=>.fR
noncomputable def JZ (A:List Addr):Value->Prop
 | .none=>True
 | .bool _=>True
 | .int _ _=>True
 | .str _ _=>True
 | .bytes _ _=>True
 | .ref a=>a ∈ A
 | _=>False
theorem JZ.mono {A B:List Addr} (h:∀ a ∈ A,a ∈ B):∀ {u:Value},JZ A u->JZ B u:=fun {u} x=>by
 cases u with
 | ref a=>exact h a x
 | none=>trivial
 | bool b=>trivial
 | int i t=>trivial
 | str s t=>trivial
 | bytes b t=>trivial
 | _=>exact False.elim x
theorem LC {A:List Addr} {u:Value} (x:JZ A u):RelV (toV u) u:=by
 cases u with
 | ref a=>rfl
 | none=>rfl
 | bool b=>rfl
 | int i t=>exact ⟨t,rfl⟩
 | str s t=>exact ⟨t,rfl⟩
 | bytes b t=>exact ⟨t,rfl⟩
 | _=>exact False.elim x
theorem pO {A:List Addr}:∀ {vs:List Value},(∀ u ∈ vs,JZ A u)->Vals (vs.map toV) vs
 | [],_=>.nil
 | u :: r,h=>.cons (LC (h u (List.mem_cons_self ..))) (pO fun x hx=>h x (List.mem_cons_of_mem _ hx))
noncomputable def rg (h:Heap) (A:List Addr) (a:Addr):Prop:=∃ vs:List Value,vs.length<=sizeLine/\(∀ u ∈ vs,JZ A u) ∧
 (h.get? a = some { cls:=.type "list",data:=.seq vs.toArray }\/h.get? a = some { cls:=.type "tuple",data:=.seq vs.toArray })
theorem rg.mono {h:Heap} {A B:List Addr} {a:Addr} (k:∀ a ∈ A,a ∈ B) (x:rg h A a):rg h B a:=by
 obtain ⟨vs,h1,h2,h3⟩:=x
 exact ⟨vs,h1,fun u hu=>(h2 u hu).mono k,h3⟩
theorem nX {P:Params} {h:Heap}:∀ {vs:List Value} {ds:List WData},WellAll P h vs ds->vs.length = ds.length
 | _,_,.nil=>rfl
 | _,_,.cons _ b=>by
  show _ + 1 = _ + 1
  rw [nX b]
theorem CH {P:Params} {h:Heap} {v:Value} {ds:List WData} (x:Well P h v (.list ds)):∃ (a:Addr) (vs:List Value),v = .ref a/\h.get? a = some { cls:=.type "list",data:=.seq vs.toArray }/\WellAll P h vs ds:=by
 cases x with
 | list ho hall=>exact ⟨_,_,rfl,ho,hall⟩
theorem Aj {P:Params} {h:Heap} {v:Value} {ds:List WData} (x:Well P h v (.tuple ds)):∃ (a:Addr) (vs:List Value),v = .ref a/\h.get? a = some { cls:=.type "tuple",data:=.seq vs.toArray }/\WellAll P h vs ds:=by
 cases x with
 | tuple ho hall=>exact ⟨_,_,rfl,ho,hall⟩
theorem CI {P:Params} {h:Heap} {us:List Value} {d:WData} {ds:List WData} (x:WellAll P h us (d :: ds)):∃ (v:Value) (vs:List Value),us = v :: vs/\Well P h v d/\WellAll P h vs ds:=by
 cases x with
 | cons a b=>exact ⟨_,_,rfl,a,b⟩
theorem Jh {n:Nat} (h:n<=1048576):n<=sizeLine:=Nat.le_trans h (by decide)
section
variable {P:Params} {h:Heap}
mutual
theorem LD:∀ (d:WData) (v:Value),Well P h v d->Jg d = true->d.weight<=1048576->∃ A:List Addr,JZ A v/\∀ a ∈ A,rg h A a
 | .none,_,x,_,_=>by
  cases x
  exact ⟨[],trivial,fun a m=>absurd m (by simp)⟩
 | .bool b,_,x,_,_=>by
  cases x
  exact ⟨[],trivial,fun a m=>absurd m (by simp)⟩
 | .int i,_,x,_,_=>by
  cases x
  exact ⟨[],trivial,fun a m=>absurd m (by simp)⟩
 | .str s,_,x,_,_=>by
  cases x
  exact ⟨[],trivial,fun a m=>absurd m (by simp)⟩
 | .bytes b,_,x,_,_=>by
  cases x
  exact ⟨[],trivial,fun a m=>absurd m (by simp)⟩
 | .list ds,_,x,p,z=>by
  obtain ⟨a,vs,rfl,ho,hall⟩:=CH x
  have z2:WData.weightAll ds<=1048576:=z
  obtain ⟨A,h1,h2⟩:=vC ds _ hall p fun d hd=>Nat.le_trans (uH hd) z2
  have k:∀ b ∈ A,b ∈ a :: A:=fun b hb=>List.mem_cons_of_mem _ hb
  refine ⟨a :: A,List.mem_cons_self ..,fun b hb=>?_⟩
  rcases List.mem_cons.mp hb with e | m
  ·rw [e]
   exact ⟨vs,Jh (by rw [nX hall];exact Nat.le_trans (PySem.W.length_le_weightAllW ds) z2),fun u hu=>(h1 u hu).mono k,.inl ho⟩
  ·exact (h2 b m).mono k
 | .tuple ds,_,x,p,z=>by
  obtain ⟨a,vs,rfl,ho,hall⟩:=Aj x
  have z2:WData.weightAll ds<=1048576:=z
  obtain ⟨A,h1,h2⟩:=vC ds _ hall p fun d hd=>Nat.le_trans (uH hd) z2
  have k:∀ b ∈ A,b ∈ a :: A:=fun b hb=>List.mem_cons_of_mem _ hb
  refine ⟨a :: A,List.mem_cons_self ..,fun b hb=>?_⟩
  rcases List.mem_cons.mp hb with e | m
  ·rw [e]
   exact ⟨vs,Jh (by rw [nX hall];exact Nat.le_trans (PySem.W.length_le_weightAllW ds) z2),fun u hu=>(h1 u hu).mono k,.inr ho⟩
  ·exact (h2 b m).mono k
 | .float _,_,_,p,_=>Bool.noConfusion (show false = true from p)
 | .dict _,_,_,p,_=>Bool.noConfusion (show false = true from p)
 | .bytearray _,_,_,p,_=>Bool.noConfusion (show false = true from p)
 | .set _,_,_,p,_=>Bool.noConfusion (show false = true from p)
 | .frozenset _,_,_,p,_=>Bool.noConfusion (show false = true from p)
 | .obj _ _,_,_,p,_=>Bool.noConfusion (show false = true from p)
theorem vC:∀ (ds:List WData) (vs:List Value),WellAll P h vs ds->yE ds = true->(∀ d ∈ ds,d.weight<=1048576)->∃ A:List Addr,(∀ u ∈ vs,JZ A u)/\∀ a ∈ A,rg h A a
 | [],_,x,_,_=>by
  cases x
  exact ⟨[],fun u m=>absurd m (by simp),fun a m=>absurd m (by simp)⟩
 | d :: ds,_,x,p,z=>by
  obtain ⟨v,vs,rfl,x1,x2⟩:=CI x
  have q:Jg d = true/\yE ds = true:=Bool.and_eq_true_iff.mp p
  obtain ⟨A,a1,a2⟩:=LD d v x1 q.1 (z d (List.mem_cons_self ..))
  obtain ⟨B,b1,b2⟩:=vC ds vs x2 q.2 fun e he=>z e (List.mem_cons_of_mem _ he)
  have kA:∀ b ∈ A,b ∈ A ++ B:=fun b hb=>List.mem_append.mpr (.inl hb)
  have kB:∀ b ∈ B,b ∈ A ++ B:=fun b hb=>List.mem_append.mpr (.inr hb)
  refine ⟨A ++ B,fun u hu=>?_,fun b hb=>?_⟩
  ·rcases List.mem_cons.mp hu with e | m
   ·rw [e]
    exact a1.mono kA
   ·exact (b1 u m).mono kB
  ·rcases List.mem_append.mp hb with m | m
   ·exact (a2 b m).mono kA
   ·exact (b2 b m).mono kB
end
end
noncomputable def MT (o:Obj):Option HO:=match o.data with
 | .seq vs _=>if (o.cls == Value.type "list") = true then some (.ra o (.lst (vs.toList.map toV))) else some (.ra o (.tup (vs.toList.map toV)))
 | _=>none
noncomputable def qo (K:PySem.W.Frag) (h:Heap) (A:List Addr):Hp:=fun b=>if b ∈ A then (if (K.lookup b).isNone = true then (h.get? b).bind MT else none) else none
noncomputable def Ak (H:Hp):Prop:=∀ b,H b = none\/∃ o u,H b = some (.ra o u)
theorem FD (vs:List Value):MT { cls:=.type "list",data:=.seq vs.toArray } = some (.ra { cls:=.type "list",data:=.seq vs.toArray } (.lst (vs.map toV))):=by
 show (if (Value.type "list" == Value.type "list") = true then some (HO.ra { cls:=.type "list",data:=.seq vs.toArray } (.lst (vs.toArray.toList.map toV))) else some (HO.ra { cls:=.type "list",data:=.seq vs.toArray } (.tup (vs.toArray.toList.map toV)))) = _
 rw [if_pos (beq_self_eq_true _)]
theorem FE (vs:List Value):MT { cls:=.type "tuple",data:=.seq vs.toArray } = some (.ra { cls:=.type "tuple",data:=.seq vs.toArray } (.tup (vs.map toV))):=by
 show (if (Value.type "tuple" == Value.type "list") = true then some (HO.ra { cls:=.type "tuple",data:=.seq vs.toArray } (.lst (vs.toArray.toList.map toV))) else some (HO.ra { cls:=.type "tuple",data:=.seq vs.toArray } (.tup (vs.toArray.toList.map toV)))) = _
 rw [if_neg (by decide)]
section
variable {P:Program} {w:World} {K:PySem.W.Frag} {h:Heap} {A:List Addr}
theorem zD {b:Addr} {o:Obj} (hb:b ∈ A) (hk:K.lookup b = none) (e:h.get? b = some o):qo K h A b = MT o:=by
 unfold qo
 rw [if_pos hb,hk,if_pos (show (none:Option Obj).isNone = true from rfl),e] <;> rfl
theorem MU {b:Addr} {u:HO} (q:qo K h A b = some u):b ∈ A/\K.lookup b = none:=by
 unfold qo at q
 by_cases hb:b ∈ A
 ·rw [if_pos hb] at q
  cases hk:K.lookup b with
  | none=>exact ⟨hb,rfl⟩
  | some o =>
   rw [hk,if_neg (by simp)] at q
   cases q
 ·rw [if_neg hb] at q
  cases q
theorem zE (ar:∀ a ∈ A,rg h A a) {b:Addr} {u:HO} (q:qo K h A b = some u):K.lookup b = none/\∃ vs:List Value,vs.length<=sizeLine/\(∀ u ∈ vs,JZ A u) ∧
    ((h.get? b = some { cls:=.type "list",data:=.seq vs.toArray }/\u = .ra { cls:=.type "list",data:=.seq vs.toArray } (.lst (vs.map toV))) ∨
     (h.get? b = some { cls:=.type "tuple",data:=.seq vs.toArray }/\u = .ra { cls:=.type "tuple",data:=.seq vs.toArray } (.tup (vs.map toV)))):=by
  obtain ⟨hb,hk⟩:=MU q
  obtain ⟨vs,h1,h2,h3⟩:=ar b hb
  refine ⟨hk,vs,h1,h2,?_⟩
  rcases h3 with e | e
  · rw [zD hb hk e,FD] at q
    exact .inl ⟨e,(Option.some.inj q).symm⟩
  · rw [zD hb hk e,FE] at q
    exact .inr ⟨e,(Option.some.inj q).symm⟩
theorem J0 (ar:∀ a ∈ A,rg h A a):Ak (qo K h A):=fun b=>by
 cases q:qo K h A b with
 | none=>exact .inl rfl
 | some u =>
  obtain ⟨_,vs,_,_,⟨_,e⟩ | ⟨_,e⟩⟩:=zE ar q
  ·exact .inr ⟨_,_,by rw [e]⟩
  ·exact .inr ⟨_,_,by rw [e]⟩
theorem MV (ar:∀ a ∈ A,rg h A a):qh P w (qo K h A) h:=fun b u q=>by
 obtain ⟨_,vs,h1,h2,⟨e,rfl⟩ | ⟨e,rfl⟩⟩:=zE ar q
 ·exact ⟨e,by rw [List.length_map];exact h1,vs,_,pO h2,e⟩
 ·exact ⟨e,by rw [List.length_map];exact h1,vs,pO h2,_,e,rfl,_,rfl⟩
theorem zF {c c':Value} {vs us:List Value} (e:(some { cls:=c,data:=.seq vs.toArray }:Option Obj) = some { cls:=c',data:=.seq us.toArray }):c = c'/\vs = us:=by
 have e1:=Option.some.inj e
 have e2:c = c':=congrArg Obj.cls e1
 have e3:Data.seq vs.toArray = Data.seq us.toArray:=congrArg Obj.data e1
 injection e3 with e4
 refine ⟨e2,?_⟩
 have e5:=congrArg Array.toList e4
 simpa using e5
theorem R8 (KX:K.In h) (ar:∀ a ∈ A,rg h A a) {a:Addr} {vs:List Value} (ha:a ∈ A) (e:h.get? a = some { cls:=.type "list",data:=.seq vs.toArray }):(∀ u ∈ vs,JZ A u)/\dj K (qo K h A) a (vs.map toV):=by
 obtain ⟨us,h1,h2,h3⟩:=ar a ha
 have hu:us = vs:=by
  rcases h3 with q | q
  ·rw [e] at q
   exact (zF q).2.symm
  ·rw [e] at q
   exact absurd (Value.type.inj (zF q).1) (by decide)
 subst hu
 refine ⟨h2,?_⟩
 cases hk:K.lookup a with
 | none=>exact .inl (.inr ⟨_,by rw [zD ha hk e,FD]⟩)
 | some o =>
  have e2:=KX a o hk
  rw [e] at e2
  obtain rfl:=Option.some.inj e2
  exact .inr ⟨_,us.toArray,_,hk,rfl,rfl,rfl,by rw [List.size_toArray];exact h1,by simpa using pO h2⟩
theorem R9 (KX:K.In h) (ar:∀ a ∈ A,rg h A a) {a:Addr} {vs:List Value} (ha:a ∈ A) (e:h.get? a = some { cls:=.type "tuple",data:=.seq vs.toArray }):(∀ u ∈ vs,JZ A u)/\yD K (qo K h A) a (vs.map toV):=by
 obtain ⟨us,h1,h2,h3⟩:=ar a ha
 have hu:us = vs:=by
  rcases h3 with q | q
  ·rw [e] at q
   exact absurd (Value.type.inj (zF q).1) (by decide)
  ·rw [e] at q
   exact (zF q).2.symm
 subst hu
 refine ⟨h2,?_⟩
 cases hk:K.lookup a with
 | none=>exact .inl (.inr ⟨_,by rw [zD ha hk e,FE]⟩)
 | some o =>
  have e2:=KX a o hk
  rw [e] at e2
  obtain rfl:=Option.some.inj e2
  exact .inr ⟨_,us.toArray,_,hk,rfl,rfl,by rw [List.size_toArray];exact h1,by simpa using pO h2⟩
mutual
theorem Pa {Pm:Params} (KX:K.In h) (ar:∀ a ∈ A,rg h A a):∀ (d:WData) (v:Value),Well Pm h v d->Jg d = true->JZ A v->Dw K (qo K h A) (toV v) d
 | .none,_,x,_,_=>by
  cases x
  exact .fR
 | .bool b,_,x,_,_=>by
  cases x
  exact .bl b
 | .int i,_,x,_,_=>by
  cases x
  exact .int i
 | .str s,_,x,_,_=>by
  cases x
  exact .str s
 | .bytes b,_,x,_,_=>by
  cases x
  have z:=Dw.Bw (K:=K) (H:=qo K h A) b.toArray
  exact z
 | .list ds,_,x,p,hu=>by
  obtain ⟨a,vs,rfl,ho,hall⟩:=CH x
  obtain ⟨h2,hs⟩:=R8 KX ar hu ho
  exact .lst hs (Ds KX ar ds _ hall p h2)
 | .tuple ds,_,x,p,hu=>by
  obtain ⟨a,vs,rfl,ho,hall⟩:=Aj x
  obtain ⟨h2,hs⟩:=R9 KX ar hu ho
  exact .tup hs (Ds KX ar ds _ hall p h2)
 | .float _,_,_,p,_=>Bool.noConfusion (show false = true from p)
 | .dict _,_,_,p,_=>Bool.noConfusion (show false = true from p)
 | .bytearray _,_,_,p,_=>Bool.noConfusion (show false = true from p)
 | .set _,_,_,p,_=>Bool.noConfusion (show false = true from p)
 | .frozenset _,_,_,p,_=>Bool.noConfusion (show false = true from p)
 | .obj _ _,_,_,p,_=>Bool.noConfusion (show false = true from p)
theorem Ds {Pm:Params} (KX:K.In h) (ar:∀ a ∈ A,rg h A a):∀ (ds:List WData) (vs:List Value),WellAll Pm h vs ds->yE ds = true->(∀ u ∈ vs,JZ A u)->rb K (qo K h A) (vs.map toV) ds
 | [],_,x,_,_=>by
  cases x
  exact .nil
 | d :: ds,_,x,p,hu=>by
  obtain ⟨v,vs,rfl,x1,x2⟩:=CI x
  have q:Jg d = true/\yE ds = true:=Bool.and_eq_true_iff.mp p
  exact .cons (Pa KX ar d v x1 q.1 (hu _ (List.mem_cons_self ..))) (Ds KX ar ds vs x2 q.2 fun u m=>hu u (List.mem_cons_of_mem _ m))
end
end
theorem J1 {P:Program} {w:World} {K:PySem.W.Frag} {mg mb:Str->Option Value} {CX:Ho} {k:Nat} {fa:Addr} {fd:FuncData} {ps:List Str} {sp:Sp} {s₁:Shared} {vals:List Value} {ds:List WData} {R:PySem.W.WRecords} {cl:Str->Option Addr} {d0:WData}
  (KX:K.In s₁.heap) (hns:s₁.heap.Ns mainGlobals mg) (hb:s₁.heap.Ns builtinsNs mb) (hbb:∀ x:Str,x ≠ "__name__"->mb x = bootBuiltins x) (hlim:s₁.heap.NoLimit) (hg:s₁.gens = #[])
  (hwl:WellAll w.params s₁.heap vals ds) (hpl:yE ds = true) (hwt:∀ d ∈ ds,d.weight<=1048576) (hr:iZ k callerA)
  (F:∀ base:Heap,K.In base->base.Ns mainGlobals mg->a8 P w K mg base CX k fa fd ps sp) (hbind:∀ (s:Shared) (us:List Value),us.length = ps.length->BindsTo s fd ⟨us,[]⟩ (ps.zip us)) (hlen:ds.length = ps.length)
  (hsp:∀ (H:Hp) (xs:List V),Ak H->rb K H xs ds->sp xs H (fun v H'=>Dw K H' v d0) fun _ _ _=>False)
  (hCX:∀ H e s',CX [] H s₁ (fun _ _ _=>False) e s'->False) :
  codeAny (model P w) callerA (.call (.ref fa) ⟨vals,[]⟩) (fun r s'=>∃ u as,r = .ok (.ret u)/\ReadsW R cl s'.heap u d0 as/\OldK s₁.heap s'.heap/\s'.os = s₁.os/\AllBare s'.gens) s₁:=by
 obtain ⟨A,ho,ar⟩:=vC ds vals hwl hpl hwt
 have hO:Ak (qo K s₁.heap A):=J0 ar
 have bL:qh P w (qo K s₁.heap A) s₁.heap:=MV ar
 have hS:=Ds KX ar ds vals hwl hpl ho
 have hV:=pO ho
 have hK:∀ b u,qo K s₁.heap A b = some u->K.lookup b = none:=fun b u q=>(zE ar q).1
 have noA:∀ {b:Addr} {o:Obj} {es:Array DictEntry} {ep:Nat},s₁.heap.get? b = some o->o.data = .dict es ep->qo K s₁.heap A b = none:=fun {b o es ep} e d=>by
  cases q:qo K s₁.heap A b with
  | none=>rfl
  | some u =>
   obtain ⟨_,vs,_,_,⟨e2,_⟩ | ⟨e2,_⟩⟩:=zE ar q
   ·rw [e2] at e
    cases e
    have d':Data.seq vs.toArray _ = Data.dict es ep:=d
    cases d'
   ·rw [e2] at e
    cases e
    have d':Data.seq vs.toArray _ = Data.dict es ep:=d
    cases d'
 generalize qo K s₁.heap A = H at hO bL hS hK noA
 have base_of:∀ {b:Addr} {o:Obj},s₁.heap.get? b = some o->H b = none->(C7 s₁.heap H).get? b = some o:=fun e n=>Lh e n
 have nsK:∀ {b:Addr} {m:Str->Option Value},s₁.heap.Ns b m->(C7 s₁.heap H).Ns b m:=fun {b m} ⟨o,es,ep,e,d,r⟩=>⟨o,es,ep,base_of e (noA e d),d,r⟩
 have nK:∀ b o,K.lookup b = some o->H b = none:=fun b o e=>by
  cases q:H b with
  | none=>rfl
  | some u =>
   rw [hK b u q] at e
   cases e
 have hKb:K.In (C7 s₁.heap H):=fun b o e=>base_of (KX b o e) (nK b o e)
 have hM:Mod K mg (C7 s₁.heap H):=⟨hKb,nsK hns,⟨mb,nsK hb,hbb⟩,let ⟨mc,h1,h2⟩:=hlim;⟨mc,nsK h1,h2⟩⟩
 have e0:HD P w K mg (C7 s₁.heap H) callerA [] s₁ H:=⟨rfl,hM,fun b o e=>MA e,Nat.le_of_eq (JM _ _),trivial,fun b hb=>absurd (show b ∈ ([]:List Addr) from hb) (by simp),bL,.of_eq hg⟩
 have hl:vals.length = ps.length:=by rw [nX hwl];exact hlen
 refine codeAny_mono ((F _ hKb (nsK hns)).run callerA [] s₁ H ⟨vals,[]⟩ vals (vals.map toV) _ _ hr e0 (hbind s₁ vals hl) hV (hsp H _ hO hS)) fun r s' x=>?_
 cases r with
 | error e=>exact (hCX H e s' x).elim
 | ok fl =>
  cases fl with
  | next=>exact False.elim x
  | brk=>exact False.elim x
  | cont=>exact False.elim x
  | ret u =>
   obtain ⟨v,H',os,bare,un,hok',r',q⟩:=x
   have kept:∀ b o,s₁.heap.get? b = some o->s'.heap.get? b = some o:=fun b o e=>by
    cases q2:H b with
    | none=>exact un.keep b o e q2 (by intro z;exact absurd (show b ∈ ([]:List Addr) from z) (by simp)) (by simp)
    | some u2 =>
     rcases hO b with z | ⟨ob,u3,z⟩
     ·rw [q2] at z
      cases z
     ·have z2:=un.uB b ob _ z
      obtain ⟨e1,_⟩:=bL b _ z
      obtain ⟨e2,_⟩:=hok' b _ z2
      rw [e] at e1
      cases e1
      exact e2
   have KX':K.In s'.heap:=fun b o e=>kept b o (KX b o e)
   obtain ⟨as,hrd⟩:=Dw.reads (R:=R) (cl:=cl) hok' KX' d0 v u q r'
   exact ⟨u,as,rfl,hrd,OldK.of_keep kept,os,bare⟩
theorem Al {ds:List WData} (h:WData.layableAll ds = true):∀ d ∈ ds,d.weight<=1048576:=fun d hd =>
 (PySem.W.layableW_iff.mp (List.all_eq_true.mp h d hd)).2.2
theorem Am:∀ (cs:List Codec) (a:Codec.denoteAll cs),(Codec.encAll cs a).length = cs.length
 | [],_=>rfl
 | c :: cs,a=>by
  show (Codec.encAll cs a.2).length + 1 = cs.length + 1
  rw [Am cs a.2]
theorem J8 {r:OpenSpec} {k:Nat} {q:Program} {loose:List Str} {XP:(Str->Option Value)->Heap->Prop} {YP:World->Heap->Prop} {d:DefRec} {K:Params->PySem.W.Frag} {CX:World->Ho} {ps:List Str} {sp:World->Sp}
  (hwell:r.wellSaid = true) (hdf:d.params.defaults = []) (hlen:r.args.length = ps.length) (hr:iZ k callerA)
  (hY:∀ (w:World) (h:Heap),YP w h->(K w.params).In h)
  (F:∀ (w:World) (mg:Str->Option Value) (fa:Addr) (h:Heap),YP w h->(K w.params).In h->h.Ns mainGlobals mg->mg d.name = some (.ref fa) →
   ∃ fd:FuncData,(∀ (s:Shared) (us:List Value),us.length = ps.length->BindsTo s fd ⟨us,[]⟩ (ps.zip us)) ∧
    ∀ base:Heap,(K w.params).In base->base.Ns mainGlobals mg->a8 r.prog w (K w.params) mg base (CX w) k fa fd ps (sp w))
  (hsp:∀ (w:World) (H:Hp) (xs:List V) (a:Codec.denoteAll r.args),Ak H->Codec.withinAll r.args a = true->Codec.app r.args r.asked a = true->rb (K w.params) H xs (Codec.encAll r.args a) →
   sp w xs H (fun v H'=>Dw (K w.params) H' v (r.ret.enc (Codec.app r.args r.f a))) fun _ _ _=>False)
  (hCX:∀ (w:World) (H:Hp) (s:Shared) (e:Value) (s':Shared),CX w [] H s (fun _ _ _=>False) e s'->False) :
  PySem.W.WalkOS q loose XP YP r d [] (fun f vs=>PySem.call f vs):=by
 intro w vp s₁ mg mb G Y fa o pm cd doc dV kV ho hd hcd hD hmg hg args vals as hpre hlay hrd hwl hlo
 obtain ⟨a,e1,e2⟩:=PySem.W.os_pre_some hpre
 obtain ⟨e3,hwi⟩:=Codec.encAll_of_decAll r.args args a e1
 subst e3
 have KX:=hY w _ Y
 obtain ⟨fd,hb,hF⟩:=F w mg fa _ Y KX G.T.g hmg
 refine PySem.W.enter_call (codeAny_mono (J1 (R:=[]) (cl:=classAt vp.heap) (d0:=r.ret.enc (Codec.app r.args r.f a)) KX G.T.g G.T.b G.T.builtins G.T.nolimit hg hwl (CG _ _) (Al hlay) hr hF hb (by rw [Am];exact hlen)
  (fun H xs hO hS=>hsp w H xs a hO hwi e2 hS) fun H e s'=>hCX w H s₁ e s') fun r' s' hq=>?_)
 obtain ⟨u,as',rfl,h1,h2,h3,h4⟩:=hq
 exact ⟨.inl ⟨u,_,as',rfl,fun _=>rfl,h1,(OpenSpec.post_iff hwell hwi _ _).mpr rfl,fun z=>Bool.noConfusion (show false = true from z)⟩,h2,h3,h4⟩
theorem HJ {r:OpenSpec} {k:Nat} {q:Program} {loose:List Str} {XP:(Str->Option Value)->Heap->Prop} {YP:World->Heap->Prop} {d:DefRec} {K:Params->PySem.W.Frag} {CX:Ho} {ps:List Str} {sp:PySem.W.Frag->Sp}
  (hwell:r.wellSaid = true) (hdf:d.params.defaults = []) (hlen:r.args.length = ps.length) (hr:iZ k callerA)
  (hY:∀ (w:World) (h:Heap),YP w h->(K w.params).In h)
  (F:∀ (w:World) (mg:Str->Option Value) (fa:Addr) (h:Heap),YP w h->(K w.params).In h->h.Ns mainGlobals mg->mg d.name = some (.ref fa) →
   ∃ fd:FuncData,(∀ (s:Shared) (us:List Value),us.length = ps.length->BindsTo s fd ⟨us,[]⟩ (ps.zip us)) ∧
    ∀ base:Heap,(K w.params).In base->base.Ns mainGlobals mg->a8 r.prog w (K w.params) mg base CX k fa fd ps (sp (K w.params)))
  (hsp:∀ (K:PySem.W.Frag) (H:Hp) (xs:List V) (a:Codec.denoteAll r.args),Ak H->Codec.withinAll r.args a = true->Codec.app r.args r.asked a = true->rb K H xs (Codec.encAll r.args a) →
   sp K xs H (fun v H'=>Dw K H' v (r.ret.enc (Codec.app r.args r.f a))) fun _ _ _=>False)
  (hCX:∀ (H:Hp) (s:Shared) (e:Value) (s':Shared),CX [] H s (fun _ _ _=>False) e s'->False) :
  PySem.W.WalkOS q loose XP YP r d [] (fun f vs=>PySem.call f vs) :=
 J8 (K:=K) (CX:=fun _=>CX) (sp:=fun w=>sp (K w.params)) hwell hdf hlen hr hY F (fun w H xs a h1 h2 h3 h4=>hsp (K w.params) H xs a h1 h2 h3 h4) fun _ H s e s'=>hCX H s e s'
end L2
end
namespace Xc
open PySem PySem.W PySem.Spec PyProof.Rows
abbrev Ji:List Value:=[.type "Exception",.type "BaseException",.type "object"]
section
variable {prog:Program} {w:World} {A:Around} {E:Value->Shared->Prop} {s:Shared} {K:Frag} {x C:Addr} {ox:Obj} {od:Option Obj} {name:Str} {expr:Bool} {Q:Value->Shared->Prop}
theorem Sa {v:Value} (X:K.In s.heap) (I:InstAt s.heap x ox C od) (h1:findIn K (.ref C) "__getattribute__" = some (some (.builtin "BaseException.__getattribute__")))
  (h2:findIn K (.ref C) "__getattr__" = some none) (h3:mroIn K C (.type "BaseException") = some true) (h4:findObj K C od name = some (.value v)) (h5:handedIn v = true)
  (q:Q v { s with toks:=s.toks + 1 }):wpAny (model prog w) A (getAttr (.ref x) name expr) Q E s:=by
 obtain ⟨hh,g,d,t,os⟩:=s
 have La:=I.type (M:=model prog w)
 have Lb:=looks_findIn (M:=model prog w) X h1
 have Lc:=looks_findIn (M:=model prog w) X h2
 have Ld:=looks_find (M:=model prog w) X I h4
 have Le:Looks (model prog w) hh (isInstance (.ref x) (.type "BaseException")) true:=La.andThen (looks_mroIn X h3)
 have f3:=PySem.F.attr_Exception.ga.bind (.ref x)
 unfold getAttr getAttrBy
 refine wpAny_bind (wpAny_mkText (wpAny_holding (wpAny_bind (La.at (wpAny_bind (Lb.at ?_))))))
 dsimp only
 rw [if_neg (by simp)]
 unfold getAttrByItsOwn
 refine wpAny_bind (Lc.at ?_)
 have hx0:(expr && onTheHeap (Value.builtin "BaseException.__getattribute__")) = false:=by cases expr <;> rfl
 refine wpAny_bind (wpAny_attempt (wpAny_holding ?_))
 unfold callGetattribute
 rw [hx0,if_neg (by simp)]
 unfold boundAndCalled
 rw [f3]
 refine wpAny_bind (wpAny_pure (wpAny_call ?_))
 refine codeAny_call_builtin PySem.F.attr_Exception.ga.plain PySem.F.entry_bexc_ga ?_
 refine @check_slot (model prog w) _ _ _ "BaseException.__getattribute__" "BaseException" "__getattribute__" (.ref x) [.str name t] [] _ (by decide +kernel) (by decide +kernel) Le (PySem.F.args_bexc_ga _ _) ?_
 unfold Builtin.«object.__getattribute__»
 repeat lk
 show wpAny _ _ (handedOut v) _ _ _
 rw [handedOut_of h5]
 exact wpAny_pure q
end
noncomputable def Traced (h base:Heap) (lo:Nat) (e:Addr) (c:Value) (od:Option Addr) (fl:Value):Prop :=
 ∃ (oe:Obj) (vs:Array Value) (T:Addr) (oT:Obj) (ts:Array Value),h.get? e = some oe/\oe.cls = c/\oe.dict = od/\oe.data = .fields vs ∧
  vs[1]? = some (.ref T)/\base.get? T = none/\lo<=T/\T ≠ e/\h.get? T = some oT/\oT.data = .fields ts/\ts[3]? = some fl
structure MW (base:Heap) (lo:Nat) (l:List Env) (e:Addr) (c:Value) (od:Option Addr) (fl:Value) (h:Heap):Prop where
 stays:base.StaysIn h
 new:base.get? e = none
 frames:h.FunFrames base l
 Pc:Traced h base lo e c od fl
section
variable {M:Model} {A:Around} {E:Value->Shared->Prop} {s:Shared} {base:Heap} {env:Env} {outer l:List Env} {L e:Addr} {c:Value} {od:Option Addr} {fl:Value} {Q:Unit->Shared->Prop} {lo:Nat}
abbrev FF (hd L:Value) (fr:Addr) (pl:List Value):Obj :=
 { cls:=.type "traceback",dict:=none,data:=.fields ([hd,.ref fr,.none,L,.none] ++ (if pl.isEmpty then List.replicate 6 Value.none else pl)).toArray }
theorem LF {oe:Obj} {vs:Array Value} {hd:Value} {had:Bool} (fr:A.frames = some (env :: outer)) (ff:s.heap.FunFrames base (env :: outer)) (ef:env.frame = some L) (he:s.heap.get? e = some oe)
  (kb:base.StaysIn s.heap) (ne:base.get? e = none) (de:oe.data = .fields vs) (sz:1 < vs.size) (hlo:lo<=s.heap.objs.size)
  (k:∀ h',MW base lo (env :: outer) e oe.cls oe.dict (rawInt L) h'->s.heap.UpToSlots h'->Q () { s with heap:=h' }) :
  wpAny M A (do
   let a ←frameOf env
   let pl ←entryPlaceOf L had
   let b ←EntryCells.newEntry hd a .none (rawInt L) .none pl
   setField (.ref e) 1 b) Q E s:=by
 have nfr:e ∉ (env :: outer).filterMap (·.frame):=by
  intro hm
  obtain ⟨_,o,ho,nf⟩:=ff.mem hm
  rw [he] at ho
  cases ho
  exact nf vs de
 refine wpAny_bind (wpAny_frameOf_fun fr ff ef fun h1 s1=>?_)
 refine wpAny_bind (wpAny_entryPlaceOf fun pl isp=>?_)
 unfold EntryCells.newEntry newFields
 refine wpAny_bind (wpAny_newObj_type ?_ (isp.sizeOk5 _ _ _ _ _))
 have e1:h1.get? e = some oe:=by rw [s1.2.1 e nfr];exact he
 have k1:base.StaysIn h1:=by
  intro b o hb
  rw [s1.2.1 b fun hm=>by rw [(ff.mem hm).1] at hb;cases hb]
  exact kb b o hb
 have e2:(h1.push (FF hd (rawInt L) L pl)).get? e = some oe:=Heap.get?_push_of_some _ e1
 refine wpAny_setField e2 de sz ?_
 have ne1:h1.objs.size ≠ e:=Nat.ne_of_gt (Heap.lt_size e1)
 have d3:=Obj.data_mapFields de (·.setIfInBounds 1 (Value.ref h1.objs.size))
 have e3:=Heap.get?_update_self (Obj.mapFields (·.setIfInBounds 1 (Value.ref h1.objs.size))) e2 (Obj.isFreed_of_fields d3)
 have t3:((h1.push (FF hd (rawInt L) L pl)).update e (Obj.mapFields (·.setIfInBounds 1 (Value.ref h1.objs.size)))).get? h1.objs.size = some (FF hd (rawInt L) L pl):=by
  rw [Heap.get?_update_other _ _ (Ne.symm ne1)]
  exact Heap.get?_push_size h1 rfl
 have kp:∀ b o,b ≠ e->h1.get? b = some o->((h1.push (FF hd (rawInt L) L pl)).update e (Obj.mapFields (·.setIfInBounds 1 (Value.ref h1.objs.size)))).get? b = some o:=by
  intro b o hbe hb
  rw [Heap.get?_update_other _ _ (Ne.symm hbe)]
  exact Heap.get?_push_of_some _ hb
 have nr:∀ b o,s.heap.get? b = some o->(∀ ws,o.data ≠ .fields ws)->b ≠ e:=by
  intro b o hb nf q
  rw [q,he] at hb
  cases hb
  exact nf vs de
 have up:s.heap.UpToSlots ((h1.push (FF hd (rawInt L) L pl)).update e (Obj.mapFields (·.setIfInBounds 1 (Value.ref h1.objs.size)))):=by
  intro b o hb nf
  obtain ⟨sl,hs⟩:=s1.2.2 b o hb
  exact ⟨sl,kp b _ (nr b o hb nf) hs⟩
 refine k _ ⟨fun b o hb=>kp b o (fun q=>by rw [q,ne] at hb;cases hb) (k1 b o hb),ne,?_,?_⟩ up
 ·refine ff.of_keeps fun b o hb nf=>?_
  obtain ⟨sl,hs⟩:=up b o hb nf
  exact ⟨_,hs,rfl⟩
 ·refine ⟨_,_,h1.objs.size,_,_,e3,Obj.cls_mapFields _ _,?_,d3,by simp [sz],k1.fresh,by rw [s1.1];exact hlo,ne1,t3,rfl,?_⟩
  ·obtain ⟨_,_,dt,_⟩:=oe
   cases dt <;> rfl
  ·first | (simp;done) | (rcases isp with rfl | ⟨_,_,_,_,_,_,_,rfl⟩ <;> simp)
theorem LG {oe:Obj} {vs:Array Value} (fr:A.frames = some (env :: outer)) (ff:s.heap.FunFrames base (env :: outer)) (ef:env.frame = some L) (he:s.heap.get? e = some oe)
  (kb:base.StaysIn s.heap) (ne:base.get? e = none) (de:oe.data = .fields vs) (h1:vs[1]? = some .none) (hlo:lo<=s.heap.objs.size)
  (k:∀ h',MW base lo (env :: outer) e oe.cls oe.dict (rawInt L) h'->s.heap.UpToSlots h'->Q () { s with heap:=h' }):wpAny M A (noteFrame (.ref e) env) Q E s:=by
 unfold noteFrame
 simp only [ef]
 refine wpAny_bind (wpAny_field he de h1 ?_)
 rw [if_neg (by decide)]
 exact LF fr ff ef he kb ne de (Array.getElem?_eq_some_iff.mp h1).1 hlo k
theorem J9 {lo0:Nat} (fr:A.frames = some (env :: outer)) (ef:env.frame = some L) (y:MW base lo0 (env :: outer) e c od .none s.heap) (hlo:lo<=s.heap.objs.size)
  (k:∀ h',MW base lo (env :: outer) e c od (rawInt L) h'->s.heap.UpToSlots h'->Q () { s with heap:=h' }):wpAny M A (noteFrame (.ref e) env) Q E s:=by
 obtain ⟨kb,ne,ff,oe,vs,T,oT,ts,he,hc,hod,de,h1,nT,lT,Te,hT,dT,h3⟩:=y
 subst hc hod
 unfold noteFrame
 simp only [ef]
 refine wpAny_bind (wpAny_field he de h1 ?_)
 rw [if_pos (show (Value.ref T != Value.none) = true by simp)]
 refine wpAny_bind (wpAny_field hT dT h3 ?_)
 rw [if_neg (show ¬ ((Value.none == rawInt L) = true) by simp [rawInt])]
 refine wpAny_bind (wpAny_setField hT dT (Array.getElem?_eq_some_iff.mp h3).1 ?_)
 have ot:∀ b,b ≠ T->(s.heap.update T (Obj.mapFields (·.setIfInBounds 3 Value.none))).get? b = s.heap.get? b:=fun b hb=>Heap.get?_update_other _ _ (Ne.symm hb)
 have nr:∀ b o,s.heap.get? b = some o->(∀ ws,o.data ≠ .fields ws)->b ≠ T:=by
  intro b o hb nf q
  rw [q,hT] at hb
  cases hb
  exact nf ts dT
 have up:s.heap.UpToSlots (s.heap.update T (Obj.mapFields (·.setIfInBounds 3 Value.none))):=fun b o hb nf=>⟨o.slots,by rw [ot b (nr b o hb nf)];exact hb⟩
 refine LF (s:={ s with heap:=s.heap.update T (Obj.mapFields (·.setIfInBounds 3 Value.none)) }) fr ?_ ef ?_ ?_ ne de (Array.getElem?_eq_some_iff.mp h1).1 ?_ fun h' y1 y2=>k h' y1 (up.trans y2)
 ·exact ff.of_keeps fun b o hb nf=>⟨o,by rw [ot b (nr b o hb nf)];exact hb,rfl⟩
 ·exact (ot e (Ne.symm Te)).trans he
 ·intro b o hb
  rw [ot b fun q=>by rw [q,nT] at hb;cases hb]
  exact kb b o hb
 ·show lo<=(s.heap.update T _).objs.size
  rw [Heap.size_after_update]
  exact hlo
theorem Ka {fo:Option Addr} (y:MW base lo l e c od fl s.heap) (k:∀ h',MW base lo l e c od (fo.elim Value.none fun f=>rawInt f) h'->s.heap.UpToSlots h'->Q () { s with heap:=h' }):wpAny M A (setFlight (.ref e) fo) Q E s:=by
 obtain ⟨kb,ne,ff,oe,vs,T,oT,ts,he,hc,hod,de,h1,nT,lT,Te,hT,dT,h3⟩:=y
 have z3:3 < ts.size:=(Array.getElem?_eq_some_iff.mp h3).1
 have ot:∀ b,b ≠ T->(s.heap.update T (Obj.mapFields (·.setIfInBounds 3 (fo.elim Value.none fun f=>rawInt f)))).get? b = s.heap.get? b:=fun b hb=>Heap.get?_update_other _ _ (Ne.symm hb)
 have nr:∀ b o,s.heap.get? b = some o->(∀ ws,o.data ≠ .fields ws)->b ≠ T:=by
  intro b o hb nf q
  rw [q,hT] at hb
  cases hb
  exact nf ts dT
 unfold setFlight
 refine wpAny_bind (wpAny_field he de h1 ?_)
 rw [if_pos (show (Value.ref T != Value.none) = true by simp)]
 refine wpAny_setField hT dT z3 (k _ ⟨?_,ne,?_,?_⟩ ?_)
 ·intro b o hb
  rw [ot b fun q=>by rw [q,nT] at hb;cases hb]
  exact kb b o hb
 ·exact ff.of_keeps fun b o hb nf=>⟨o,by rw [ot b (nr b o hb nf)];exact hb,rfl⟩
 ·refine ⟨oe,vs,T,_,ts.setIfInBounds 3 (fo.elim Value.none fun f=>rawInt f),(ot e (Ne.symm Te)).trans he,hc,hod,de,h1,nT,lT,Te,Heap.get?_update_self _ hT ?_,?_,?_⟩
  ·exact Obj.isFreed_of_fields (Obj.data_mapFields dT _)
  ·exact Obj.data_mapFields dT (·.setIfInBounds 3 (fo.elim Value.none fun f=>rawInt f))
  ·rw [Array.getElem?_setIfInBounds_self_of_lt z3]
 ·exact fun b o hb nf=>⟨o.slots,by rw [ot b (nr b o hb nf)];exact hb⟩
end
section
variable {M:Model} {A:Around} {E:Value->Shared->Prop} {s:Shared} {env:Env} {nm q:Str} {C N:Addr} {bs:List Value} {hdct:Bool} {sn:List Str} {sub:List Value} {ab:Bool} {col:Option Bool} {dd:Option Addr} {k0 k1 k2 k3 k5:Option Value} {newId:String}
theorem Kb {y:Sem Value} {Q:Flow->Shared->Prop} (hh:A.handled = none)
  (k:wpAny M A y (fun v s1=>∃ (e:Addr) (oe:Obj) (vs:Array Value),v = .ref e/\s1.heap.get? C = some (excClassObj nm q C N bs Ji hdct sn sub ab col dd k0 k1 k2 k3 k5 newId) ∧
   s1.heap.get? e = some oe/\oe.cls = .ref C/\oe.data = .fields vs/\vs[1]? = some .none/\E (.ref e) s1) E s):wpAny M A (raiseStmt env (some y) none) Q E s:=by
 have hcB:(Value.ref C :: Ji).contains (.type "BaseException") = true:=by simp
 unfold raiseStmt
 refine wpAny_bind (wpAny_mono k (fun v s1 z=>?_) fun _ _ z=>z)
 obtain ⟨e,oe,vs,rfl,hC,he,hc,de,h1,hE⟩:=z
 obtain ⟨hp,g,d,tk,os⟩:=s1
 repeat (first | (with_reducible refine wpAny_loadPart_at he ?_;rw [hc]) | with_reducible refine wpAny_loadPart_at hC ?_ | (with_reducible refine wpAny_isSubtype_exc hC ?_;rw [hcB]) | with_reducible refine wpAny_field he de h1 ?_ | wp_step)
 exact wpAny_raiseNew_none hh hE
theorem Raise_own {x:Expr} {pos:Pos} {Q:Flow->Shared->Prop} (hh:A.handled = none)
  (k:wpAny M A (eval x env) (fun v s1=>∃ (e:Addr) (oe:Obj) (vs:Array Value),v = .ref e/\s1.heap.get? C = some (excClassObj nm q C N bs Ji hdct sn sub ab col dd k0 k1 k2 k3 k5 newId) ∧
   s1.heap.get? e = some oe/\oe.cls = .ref C/\oe.data = .fields vs/\vs[1]? = some .none/\E (.ref e) s1) E s):wpAny M A (exec (.Raise (some x) none pos) env) Q E s:=by
 rw [arm_exec_Raise]
 refine wpAny_bind (wpAny_standAt ?_)
 show wpAny M A (raiseStmt env (some (do let v ←eval x env;standAt pos;pure v)) none) Q E s
 refine Kb (C:=C) (nm:=nm) (q:=q) (N:=N) (bs:=bs) (hdct:=hdct) (sn:=sn) (sub:=sub) (ab:=ab) (col:=col) (dd:=dd) (k0:=k0) (k1:=k1) (k2:=k2) (k3:=k3) (k5:=k5) (newId:=newId) hh ?_
 exact wpAny_bind (wpAny_mono k (fun v s1 z=>wpAny_bind (wpAny_standAt (wpAny_pure z))) fun _ _ z=>z)
end
section
variable {prog:Program} {w:World} {A:Around} {E:Value->Shared->Prop} {s:Shared} {K:Frag} {x C:Addr} {ox:Obj} {od:Option Obj} {name:Str} {v:Value} {R:Result->Shared->Prop} {cd:ClassData}
theorem MX (self:Value):refuseLoop self "__setattr__" (.ref C :: Ji) = pure ():=by
 rw [refuseLoop_ref]
 exact PySem.F.store_Exception.passes self
theorem QU {tk:Tok} (X:K.In s.heap) (I:InstAt s.heap x ox C od) (hc:clsIn K C = some cd) (hm:cd.mro = .ref C :: Ji) (ht:findIn K (.ref C) name = some none)
  (k:wpAny (model prog w) A.in1 (Builtin.ObjectAttr.storeInOwnDict (.ref x) (.ref C) (.str name tk) name v false) (fun fin s'=>match fin with
   | .done f=>R (.ok f) s'
   | .again c'=>c'.quiet = true/\codeAny (model prog w) A c' R s') (fun e s'=>R (.error e) s') s) :
  codeAny (model prog w) A (.call (.builtin "object.__setattr__") ⟨[.ref x,.str name tk,v],[]⟩) R s:=by
 have SF:=PySem.F.store_object
 have sb:Looks (model prog w) s.heap (isInstance (.ref x) (.type "object")) true:=by
  refine I.type.andThen (looks_mroIn X ?_)
  unfold mroIn
  rw [hc,Option.bind_some,hm]
  simp
 refine codeAny_call_builtin SF.slot.plain SF.entry ?_
 refine @check_slot (model prog w) _ _ s "object.__setattr__" "object" "__setattr__" (.ref x) [.str name tk,v] [] _ SF.kind SF.split sb (SF.args _ _ _) ?_
 have lm:Looks (model prog w) s.heap (mroOf (.ref C)) cd.mro:=(looks_clsIn X hc).andThen .now
 rw [osa_eq,refuse_eq]
 refine wpAny_bind (wpAny_bind (I.type.here (wpAny_bind (lm.here ?_))))
 rw [hm,MX]
 refine wpAny_pure (wpAny_bind (I.type.here (wpAny_bind ((looks_findIn X ht).here (wpAny_bind ?_)))))
 exact wpAny_pure k
theorem QV {vs:Array Value} {sl:Array (Option Value)} {Q:Unit->Shared->Prop} (X:K.In s.heap) (hx:s.heap.get? x = some ⟨.ref C,none,.fields vs,sl⟩) (hc:clsIn K C = some cd) (hm:cd.mro = .ref C :: Ji) (hd:cd.hasDict = true)
  (hs:findIn K (.ref C) "__setattr__" = some (some (.builtin "object.__setattr__"))) (ht:findIn K (.ref C) name = some none)
  (k:∀ h' t',h'.get? x = some ⟨.ref C,some s.heap.objs.size,.fields vs,sl⟩->h'.Ns1 s.heap.objs.size (fun y=>if y = name then some v else none)->(∀ b o,b ≠ x->s.heap.get? b = some o->h'.get? b = some o)->Q () { s with heap:=h',toks:=t' }) :
  wpAny (model prog w) A (setAttr (.ref x) name v) Q E s:=by
 have I:InstAt s.heap x ⟨.ref C,none,.fields vs,sl⟩ C none:=⟨hx,rfl,rfl,trivial⟩
 refine set_plain X I hs (QU (s:={ s with toks:=s.toks + 1 }) X I hc hm ht ?_)
 unfold Builtin.ObjectAttr.storeInOwnDict Builtin.ObjectAttr.ownDictForStores instanceDict
 refine wpAny_bind (wpAny_pure (wpAny_bind (wpAny_bind (wpAny_loadPart hx (wpAny_bind (Looks.here (s:={ s with toks:=s.toks + 1 }) (looks_clsIn X hc) ?_))))))
 rw [hd]
 have hx1:(s.heap.push { cls:=.type "dict",data:=.dict #[] }).get? x = some ⟨.ref C,none,.fields vs,sl⟩:=Heap.get?_push_of_some _ hx
 have hxs:x ≠ s.heap.objs.size:=Nat.ne_of_lt (Heap.lt_size hx)
 show wpAny _ _ (do
  let d ←alloc { cls:=.type "dict",data:=.dict #[] }
  update x fun o=>{ o with dict:=some d }
  pure (some d)) _ _ _
 refine wpAny_bind (wpAny_alloc (wpAny_bind (wpAny_update hx1 (wpAny_pure ?_))))
 have hu:((s.heap.push { cls:=.type "dict",data:=.dict #[] }).update x fun o=>{ o with dict:=some s.heap.objs.size }).get? x = some ⟨.ref C,some s.heap.objs.size,.fields vs,sl⟩ :=
  Heap.get?_update_self (fun o=>{ o with dict:=some s.heap.objs.size }) hx1 rfl
 have hg:((s.heap.push { cls:=.type "dict",data:=.dict #[] }).update x fun o=>{ o with dict:=some s.heap.objs.size }).get? s.heap.objs.size = some { cls:=.type "dict",data:=.dict #[] }:=by
  rw [Heap.get?_update_other _ _ hxs]
  exact Heap.get?_push_at rfl rfl
 have hn:((s.heap.push { cls:=.type "dict",data:=.dict #[] }).update x fun o=>{ o with dict:=some s.heap.objs.size }).Ns s.heap.objs.size (fun _=>none) :=
  ⟨_,#[],_,hg,rfl,fun e he=>absurd he (by simp),fun _=>rfl⟩
 show wpAny _ _ (Builtin.ObjectAttr.storeInDict s.heap.objs.size (.str name s.toks) name v) _ _ _
 unfold Builtin.ObjectAttr.storeInDict Builtin.ObjectAttr.newKeyGuard
 refine wpAny_bind (wpAny_pure (wpAny_bind (wpAny_nsSet1 (Heap.Ns1.of_empty hn) fun h2 n2 s2=>?_)))
 obtain ⟨oD,esD,epD,hoD,hdD,hcD⟩:=n2.count (Within.cons name v Within.nil)
 have hz:oD.data = .dict esD epD/\esD.size<=sizeLine:=⟨hdD,Nat.le_trans hcD (by rw [List.length_cons,List.length_nil,sizeLine_eq];omega)⟩
 refine wpAny_bind (wpAny_lookBehind hoD (by rw [hz.1];exact pastItsLine_dict (Nat.le_succ_of_le hz.2)) (wpAny_pure ?_))
 refine k h2 _ ((s2.2 x hxs).trans hu) n2 fun b o hb e=>?_
 rw [s2.2 b (Nat.ne_of_lt (Heap.lt_size e)),Heap.get?_update_other _ _ (Ne.symm hb)]
 exact Heap.get?_push_of_some _ e
theorem QW {dx:Addr} {dt:Data} {sl:Array (Option Value)} {mA:Str->Option Value} {ns:List Str} {Q:Unit->Shared->Prop} (X:K.In s.heap) (hx:s.heap.get? x = some ⟨.ref C,some dx,dt,sl⟩) (hnc:notCls ⟨.ref C,some dx,dt,sl⟩ = true) (ne:dx ≠ x)
  (hn:s.heap.Ns1 dx mA) (hw:PySem.Within mA ns) (hz:ns.length < sizeLine) (hc:clsIn K C = some cd) (hm:cd.mro = .ref C :: Ji) (hd:cd.hasDict = true)
  (hs:findIn K (.ref C) "__setattr__" = some (some (.builtin "object.__setattr__"))) (ht:findIn K (.ref C) name = some none)
  (k:∀ h' t',h'.Ns1 dx (fun y=>if y = name then some v else mA y)->Heap.SameBut dx s.heap h'->Q () { s with heap:=h',toks:=t' }) :
  wpAny (model prog w) A (setAttr (.ref x) name v) Q E s:=by
 obtain ⟨o1,es1,ep1,ho1,_⟩:=id hn
 have I:InstAt s.heap x ⟨.ref C,some dx,dt,sl⟩ C (some o1):=⟨hx,rfl,hnc,ho1⟩
 refine set_plain X I hs (QU (s:={ s with toks:=s.toks + 1 }) X I hc hm ht ?_)
 unfold Builtin.ObjectAttr.storeInOwnDict Builtin.ObjectAttr.ownDictForStores instanceDict
 refine wpAny_bind (wpAny_pure (wpAny_bind (wpAny_bind (wpAny_loadPart hx (wpAny_bind (Looks.here (s:={ s with toks:=s.toks + 1 }) (looks_clsIn X hc) ?_))))))
 rw [hd]
 refine wpAny_pure (a:=some dx) ?_
 show wpAny _ _ (Builtin.ObjectAttr.storeInDict dx (.str name s.toks) name v) _ _ _
 unfold Builtin.ObjectAttr.storeInDict Builtin.ObjectAttr.newKeyGuard
 refine wpAny_bind (wpAny_pure (wpAny_bind (wpAny_nsSet1 (s:={ s with toks:=s.toks + 1 }) hn fun h2 n2 s2=>?_)))
 obtain ⟨oD,esD,epD,hoD,hdD,hcD⟩:=n2.count (Within.cons name v hw)
 have hz:oD.data = .dict esD epD/\esD.size<=sizeLine:=⟨hdD,Nat.le_trans hcD (by rw [List.length_cons];omega)⟩
 refine wpAny_bind (wpAny_lookBehind hoD (by rw [hz.1];exact pastItsLine_dict (Nat.le_succ_of_le hz.2)) (wpAny_pure ?_))
 exact k h2 _ n2 s2
end
section
variable {prog:Program} {w:World} {A:Around} {E:Value->Shared->Prop} {h:Heap} {g:Array GenState} {dr:Drawn} {t:Nat} {os:OsState} {nm q:Str} {C N fI:Addr} {bs:List Value} {hdct:Bool} {sn:List Str} {sub:List Value} {ab:Bool} {col:Option Bool}
 {dd:Option Addr} {k0 k1 k2 k3 k5:Option Value}
abbrev FG (us:List Value):Obj:={ cls:=.type "tuple",data:=.seq us.toArray }
abbrev Dt (C tp:Addr):Obj:={ cls:=.ref C,data:=.fields #[.ref tp,.none,.none,.none,.bool false,.none] }
theorem Kc {mN:Str->Option Value} {us:List Value} {oI:Obj} {Q:Fin->Shared->Prop} (hC:h.get? C = some (excClassObj nm q C N bs Ji hdct sn sub ab col dd k0 k1 k2 k3 k5 "Exception.__new__")) (hn:h.Ns N mN)
  (hi:mN "__init__" = some (.ref fI)) (gI:h.get? fI = some oI) (cI:oI.cls = .type "function") (hz:us.length<=sizeLine)
  (k:wpAny (model prog w) A (call (.ref fI) (.ref (h.objs.size + 1) :: us)) (fun r s'=>r = .none/\Q (.done (.ret (.ref (h.objs.size + 1)))) s') E ⟨(h.push (FG us)).push (Dt C h.objs.size),g,dr,t,os⟩) :
  wpAny (model prog w) A (Builtin.«type.__call__» ⟨.ref C :: us,[]⟩) Q E ⟨h,g,dr,t,os⟩:=by
 have F:=PySem.F.excBase_Exception
 repeat (first | with_reducible refine wpAny_loadPart_at hC ?_ | with_reducible refine wpAny_madeBy_exc hC ?_ | wp_step)
 refine codeAny_call_builtin_code (Code.quiet_builtin _ F.quiet) (wpAny_check_new_sub F hC (codeAny_exc_new_sub F hC ?_ hz))
 show wpAny _ _ _ _ _ _
 have kp:∀ b o,h.get? b = some o->((h.push (FG us)).push (Dt C h.objs.size)).get? b = some o:=fun b o e=>Heap.get?_push_of_some _ (Heap.get?_push_of_some _ e)
 have gx:((h.push (FG us)).push (Dt C h.objs.size)).get? (h.objs.size + 1) = some (Dt C h.objs.size):=by heap_get
 have n1:((h.push (FG us)).push (Dt C h.objs.size)).Ns N mN:=by
  obtain ⟨o,es,ep,e,r⟩:=hn
  exact ⟨o,es,ep,kp _ _ e,r⟩
 have sf:(Value.ref C :: Ji).contains (.ref C) = true:=by simp
 unfold isInstance
 repeat (first | with_reducible refine wpAny_loadPart_at gx ?_ | (with_reducible refine wpAny_isSubtype_exc (kp _ _ hC) ?_;rw [sf]) | wp_step)
 show wpAny _ _ (typeLookup (.ref C) _) _ _ _
 refine wpAny_typeLookup_exc (kp _ _ hC) n1 F.mroIs F.init.lookup ?_
 rw [hi]
 refine wpAny_holding (wpAny_bind ?_)
 unfold bindSpecial
 refine wpAny_bind (wpAny_typeOf (T:="function") ⟨_,kp _ _ gI,cI⟩ ?_)
 rw [if_pos (by decide)]
 refine wpAny_pure (wpAny_bind (wpAny_mono k (fun r s' z=>?_) fun _ _ z=>z))
 obtain ⟨rfl,z⟩:=z
 wp_walk
 exact z
theorem Kd {mN:Str->Option Value} {us:List Value} {oI:Obj} {Q:Value->Shared->Prop} (hC:h.get? C = some (excClassObj nm q C N bs Ji hdct sn sub ab col dd k0 k1 k2 k3 k5 "Exception.__new__")) (hn:h.Ns N mN)
  (hi:mN "__init__" = some (.ref fI)) (gI:h.get? fI = some oI) (cI:oI.cls = .type "function") (hz:us.length<=sizeLine)
  (k:wpAny (model prog w) (A.under (.builtin "type.__call__" ⟨.ref C :: us,[]⟩)) (call (.ref fI) (.ref (h.objs.size + 1) :: us)) (fun r s'=>r = .none/\Q (.ref (h.objs.size + 1)) s') E ⟨(h.push (FG us)).push (Dt C h.objs.size),g,dr,t,os⟩) :
  wpAny (model prog w) A (call (.ref C) us) Q E ⟨h,g,dr,t,os⟩:=by
 have t1:=tc_lookup
 have t2:=tc_bind (.ref C)
 have tT:(⟨h,g,dr,t,os⟩:Shared).TypeIs (.ref C) "type":=⟨_,hC,rfl⟩
 refine wpAny_call (codeAny_of_tree ?_)
 show wpAny _ _ (callAny (.ref C) _) _ _ _
 repeat (any_goals (first | assumption | with_reducible refine wpAny_loadPart_at hC ?_ | wp_step))
 refine ⟨rfl,codeAny_call_builtin_at (Code.quiet_builtin _ (by decide +kernel)) entry_typeCall (wpAny_check_type_call_sub hC ?_)⟩
 exact Kc hC hn hi gI cI hz k
end
end Xc
namespace L2
open PySem PySem.Spec PyProof.Rows
noncomputable def yF (C e:Addr) (od:Option Addr):HO:=.ext fun h=>∃ vs:Array Value,h.get? e = some ⟨.ref C,od,.fields vs,#[]⟩/\vs[1]? = some .none
noncomputable def Ke (C e:Addr) (od:Option Addr):HO:=.ext fun h=>∃ o:Obj,h.get? e = some o/\o.cls = .ref C/\o.dict = od/\∃ vs,o.data = .fields vs
noncomputable def vD (d:Addr) (fs:List (Str × V)):HO:=.ext fun h=>∃ mA,h.Ns1 d mA/\(∀ f,oY (fs.lookup f) (mA f))/\PySem.Within mA (fs.map (·.1))
section
variable {P:Program} {w:World} {H:Hp} {h:Heap} {C e d:Addr} {od:Option Addr} {fs:List (Str × V)}
theorem Jj {vs:Array Value} (g:h.get? e = some ⟨.ref C,od,.fields vs,#[]⟩) (v:vs[1]? = some .none):d8 P w H h e (yF C e od) :=
 ⟨⟨vs,g,v⟩,⟨_,g⟩,fun h1 h2 ⟨vs',g',v'⟩ k=>⟨vs',k _ g',v'⟩⟩
theorem MY {o:Obj} {vs:Array Value} (g:h.get? e = some o) (hc:o.cls = .ref C) (hd:o.dict = od) (hv:o.data = .fields vs):d8 P w H h e (Ke C e od) :=
 ⟨⟨o,g,hc,hd,vs,hv⟩,⟨_,g⟩,fun h1 h2 ⟨o',g',r'⟩ k=>⟨o',k _ g',r'⟩⟩
theorem FH {mA:Str->Option Value} (n:h.Ns1 d mA) (r:∀ f,oY (fs.lookup f) (mA f)) (wi:PySem.Within mA (fs.map (·.1))):d8 P w H h d (vD d fs):=by
 refine ⟨⟨mA,n,r,wi⟩,?_,fun h1 h2 ⟨mA',n',r'⟩ k=>⟨mA',n'.at fun o q=>k o q,r'⟩⟩
 obtain ⟨o,es,ep,ho,_⟩:=n
 exact ⟨o,ho⟩
theorem An (bL:qh P w H h) (q:H e = some (yF C e od)):∃ vs:Array Value,h.get? e = some ⟨.ref C,od,.fields vs,#[]⟩/\vs[1]? = some .none:=(bL e _ q).1
theorem LH (bL:qh P w H h) (q:H e = some (Ke C e od)):∃ o:Obj,h.get? e = some o/\o.cls = .ref C/\o.dict = od/\∃ vs,o.data = .fields vs:=(bL e _ q).1
theorem CJ (bL:qh P w H h) (q:H d = some (vD d fs)):∃ mA,h.Ns1 d mA/\(∀ f,oY (fs.lookup f) (mA f))/\PySem.Within mA (fs.map (·.1)):=(bL d _ q).1
end
structure FI (K:PySem.W.Frag) (C N fI:Addr):Prop where
 obj:∃ nm q bs sn sub ab col dd k0 k1 k2 k3 k5,K.lookup C = some (excClassObj nm q C N bs Xc.Ji true sn sub ab col dd k0 k1 k2 k3 k5 "Exception.__new__")
 sa:PySem.W.findIn K (.ref C) "__setattr__" = some (some (.builtin "object.__setattr__"))
 ga:PySem.W.findIn K (.ref C) "__getattribute__" = some (some (.builtin "BaseException.__getattribute__"))
 gh:PySem.W.findIn K (.ref C) "__getattr__" = some none
 mb:PySem.W.mroIn K C (.type "BaseException") = some true
 init:∀ h:Heap,K.In h->∃ mN,h.Ns N mN/\mN "__init__" = some (.ref fI)
 fn:∃ oI,K.lookup fI = some oI/\oI.cls = .type "function"
 kp:PySem.W.keepIn K (.ref C) = true
theorem FI.cls {K:PySem.W.Frag} {C N fI:Addr} (c:FI K C N fI):∃ cd,PySem.W.clsIn K C = some cd/\cd.mro = .ref C :: Xc.Ji/\cd.hasDict = true:=by
 obtain ⟨nm,q,bs,sn,sub,ab,col,dd,k0,k1,k2,k3,k5,e⟩:=c.obj
 refine ⟨{ name:=nm,bases:=bs,mro:=.ref C :: Xc.Ji,ns:=N,qualname:=q,hasDict:=true,slotNames:=sn,subclasses:=sub,abstract:=ab,collection:=col,hasDel:=false },?_,rfl,rfl⟩
 unfold PySem.W.clsIn
 rw [e]
section
variable {X:Cx} {o value:Expr} {f:Str} {pos pos':Pos} {ta tv:TE} {C N fI:Addr}
noncomputable def S6 (C:Addr) (ta tv:TE) (f:Str):TS:=fun D σ H=>tv σ H fun y H1=>ta σ H1 fun x H2=>∃ e,x = .ref e/\H2 e = some (yF C e none)/\∀ d,H2 d = none->D.nx σ (upd (upd H2 d (vD d [(f,y)])) e (yF C e (some d)))
noncomputable def S7 (C:Addr) (ta tv:TE) (f:Str):TS:=fun D σ H=>tv σ H fun y H1=>ta σ H1 fun x H2=>∃ e d fs,x = .ref e/\H2 e = some (yF C e (some d))/\H2 d = some (vD d fs)/\d ≠ e/\fs.length < 100/\D.nx σ (upd H2 d (vD d (gA f y fs)))
theorem QX (c:FI X.K C N fI) (nf:aK X.K C f) (ha:PE X o ta) (hv:PE X value tv) (hs:swapsWith value (some (.Attribute o f pos')) pos.line X.env = pure false):PS X (.Assign [.Attribute o f pos'] value pos) (S6 C ta tv f):=by
 intro pins s σ H D I h
 refine plainObj_wpAny_Assign_Attribute (d9 (hv pins s σ H _ I h) fun u s1 ⟨y,H1,I1,ry,q⟩=>d9 (ha pins s1 σ H1 _ I1 q) fun ov s2 ⟨x,H2,I2,rx,e,ex,he,q2⟩=>?_) hs
 subst ex
 obtain rfl:ov = Value.ref e:=rx
 obtain ⟨vs,g,v1⟩:=An I2.bL he
 obtain ⟨cd,hc,hm,hd⟩:=c.cls
 refine Xc.QV I2.yi g hc hm hd c.sa nf fun h' t' g' n' k'=>⟨σ,_,?_,q2 s2.heap.objs.size (I2.bL.fresh (Nat.le_refl _))⟩
 have nd:H2 s2.heap.objs.size = none:=I2.bL.fresh (Nat.le_refl _)
 have ned:e ≠ s2.heap.objs.size:=Nat.ne_of_lt (I2.bL.lt he)
 refine I2.un (t':=t') ?_ ?_
 ·refine ⟨fun b o' e1 n1 _ _=>k' b o' (fun z=>by rw [z,he] at n1;cases n1) e1,fun b o' e1 n1 _ _=>⟨o'.slots,k' b o' (fun z=>by rw [z,he] at n1;cases n1) e1⟩,fun b o' e1 n1 _=>?_,fun b o' e1 _=>?_,fun b xs e1=>?_,fun b o' u' e1=>?_,fun b ps e1=>⟨#[],?_⟩⟩
  ·rw [ai (fun z=>by rw [z,he] at n1;cases n1),ai (Nat.ne_of_lt (Heap.lt_size e1))];exact n1
  ·by_cases z:b = e
   ·subst z;exact ⟨_,g'⟩
   ·exact ⟨o',k' b o' z e1⟩
  ·rw [ai (fun z=>by rw [z,he] at e1;cases e1),ai (aw e1 nd)];exact e1
  ·rw [ai (fun z=>by rw [z,he] at e1;cases e1),ai (aw e1 nd)];exact e1
  ·rw [ai (fun z=>by rw [z,he] at e1;cases e1),ai (aw e1 nd),e1];simp
 ·intro a u' e1
  by_cases z:a = e
  ·subst z
   rw [af] at e1
   cases e1
   exact Jj g' v1
  ·rw [ai z] at e1
   by_cases z2:a = s2.heap.objs.size
   ·subst z2
    rw [af] at e1
    cases e1
    refine FH n' (fun g0=>?_) (fun g0 hg=>?_)
    ·show oY (List.lookup g0 [(f,y)]) (if g0 = f then some u else none)
     by_cases q:g0 = f
     ·subst q;rw [if_pos rfl,List.lookup_cons,beq_self_eq_true];exact ry
     ·rw [if_neg q,List.lookup_cons,show (g0 == f) = false from by simpa using q];exact True.intro
    ·by_cases q:g0 = f
     ·subst q;simp
     ·exact absurd (show (if g0 = f then some u else none) = none from if_neg q) hg
   ·rw [ai z2] at e1
    have own:∀ b,H2 b = some (.own a)->b ≠ e/\b ≠ s2.heap.objs.size:=fun b q=>⟨fun z=>(by rw [z,he] at q;cases q),aw q nd⟩
    refine (I2.bL a u' e1).vq (fun b u2 hb q=>k' b u2 ?_ q) (fun b q=>by rw [ai (own b q).1,ai (own b q).2];exact q) (fun b xs q=>by rw [ai (fun z=>by rw [z,he] at q;cases q),ai (aw q nd)];exact q)
    rcases hb with rfl | hb
    ·exact z
    ·exact (own b hb).1
theorem QY (c:FI X.K C N fI) (nf:aK X.K C f) (ha:PE X o ta) (hv:PE X value tv) (hs:swapsWith value (some (.Attribute o f pos')) pos.line X.env = pure false):PS X (.Assign [.Attribute o f pos'] value pos) (S7 C ta tv f):=by
 intro pins s σ H D I h
 refine plainObj_wpAny_Assign_Attribute (d9 (hv pins s σ H _ I h) fun u s1 ⟨y,H1,I1,ry,q⟩=>d9 (ha pins s1 σ H1 _ I1 q) fun ov s2 ⟨x,H2,I2,rx,e,d,fs,ex,he,hd,nde,hl,q2⟩=>?_) hs
 subst ex
 obtain rfl:ov = Value.ref e:=rx
 obtain ⟨vs,g,v1⟩:=An I2.bL he
 obtain ⟨mA,n1,r1,w1⟩:=CJ I2.bL hd
 obtain ⟨cd,hc,hm,hdd⟩:=c.cls
 refine Xc.QW I2.yi g rfl nde n1 w1 (by rw [List.length_map,sizeLine_eq];omega) hc hm hdd c.sa nf fun h' t' n' sb=>⟨σ,_,?_,q2⟩
 refine I2.write (t':=t') (x:=d) (e:=d) (by rw [hd];exact True.intro) (.inl rfl) (fun b q hb z=>(sb.2 b hb).trans z) (let ⟨o',_,_,e',_⟩:=n';⟨o',e'⟩) ?_
 refine FH n' (fun g0=>?_) (fun g0 hg=>?_)
 ·show oY ((gA f y fs).lookup g0) (if g0 = f then some u else mA g0)
  rw [rD]
  by_cases q:g0 = f
  ·rw [if_pos q,if_pos q];exact ry
  ·rw [if_neg q,if_neg q];exact r1 g0
 ·by_cases q:g0 = f
  ·rw [q];exact (pH f y fs).1
  ·refine (pH f y fs).2 g0 (w1 g0 fun z=>hg ?_)
   show (if g0 = f then some u else mA g0) = none
   rw [if_neg q];exact z
end
end L2
namespace L2
open PySem PySem.Spec PyProof.Rows
noncomputable def Jk (h:Heap) (x T:Addr) (c:Value) (od:Option Addr) (fl:Value):Prop :=
 ∃ (oe:Obj) (vs:Array Value) (oT:Obj) (ts:Array Value),h.get? x = some oe/\oe.cls = c/\oe.dict = od/\oe.data = .fields vs/\vs[1]? = some (.ref T)/\T ≠ x/\h.get? T = some oT/\oT.data = .fields ts/\ts[3]? = some fl
structure nY (l:List Env) (gone:List Addr) (h h':Heap):Prop where
 keep:∀ b o,h.get? b = some o->b ∉ Bu l->b ∉ gone->h'.get? b = some o
 slot:∀ b o,h.get? b = some o->b ∈ Bu l->∃ sl,h'.get? b = some { o with slots:=sl }
section
variable {h h' base:Heap} {l:List Env} {x T:Addr} {c:Value} {od:Option Addr} {fl:Value} {lo:Nat}
theorem nY.trans {h1 h2 h3:Heap} {g1 g2:List Addr} (a:nY l g1 h1 h2) (b:nY l g2 h2 h3):nY l (g1 ++ g2) h1 h3 :=
 ⟨fun b' o e n g=>b.keep b' o (a.keep b' o e n fun z=>g (List.mem_append_left _ z)) n fun z=>g (List.mem_append_right _ z),fun b' o e n=>let ⟨_,e1⟩:=a.slot b' o e n;let ⟨sl,e2⟩:=b.slot b' _ e1 n;⟨sl,e2⟩⟩
theorem Jk.SR (ff:h.FunFrames base l) (a:Jk h x T c od fl) (hl:lo<=T):Xc.MW (PySem.W.hideAll h (Bu l ++ [x,T])) lo l x c od fl h:=by
 obtain ⟨oe,vs,oT,ts,he,hc,hd,de,h1,ne,hT,dT,h3⟩:=a
 refine ⟨fun b o e=>PySem.W.of_hideAll _ e,PySem.W.hideAll_none _ (by simp),PySem.W.funFrames_hide ff fun env hv a ha=>List.mem_append_left _ (List.mem_filterMap.mpr ⟨env,hv,ha⟩),?_⟩
 exact ⟨oe,vs,T,oT,ts,he,hc,hd,de,h1,PySem.W.hideAll_none _ (by simp),hl,ne,hT,dT,h3⟩
theorem Ao {as gone:List Addr} (ff:h.FunFrames base l) (ha:∀ b,b ∈ as->b ∈ Bu l\/b ∈ gone) (y:Xc.MW (PySem.W.hideAll h as) lo l x c od fl h') (u:h.UpToSlots h'):nY l gone h h':=by
 refine ⟨fun b o e n g=>y.stays b o (PySem.W.hideAll_get _ e fun z=>(ha b z).elim n g),fun b o e n=>?_⟩
 obtain ⟨_,o',e',nf⟩:=ff.mem n
 rw [e] at e'
 cases e'
 exact u b o e nf
theorem Du (y:Xc.MW base lo l x c od fl h):∃ T,lo<=T/\Jk h x T c od fl:=by
 obtain ⟨oe,vs,T,oT,ts,he,hc,hd,de,h1,nT,lT,ne,hT,dT,h3⟩:=y.Pc
 exact ⟨T,lT,oe,vs,oT,ts,he,hc,hd,de,h1,ne,hT,dT,h3⟩
end
section
variable {M:Model} {A:Around} {E:Value->Shared->Prop} {s:Shared} {base:Heap} {env:Env} {outer:List Env} {L x T:Addr} {c:Value} {od:Option Addr} {Q:Unit->Shared->Prop} {lo:Nat}
theorem LI (fr:A.frames = some (env :: outer)) (ef:env.frame = some L) (ff:s.heap.FunFrames base (env :: outer)) (a:Jk s.heap x T c od .none) (hl:lo<=s.heap.objs.size)
  (k:∀ h' T',nY (env :: outer) [x,T] s.heap h'->Jk h' x T' c od (rawInt L)->lo<=T'->h'.FunFrames base (env :: outer)->Q () { s with heap:=h' }):wpAny M A (noteFrame (.ref x) env) Q E s:=by
 refine Xc.J9 (lo:=lo) fr ef (a.SR ff (Nat.zero_le T)) hl fun h' y u=>?_
 obtain ⟨T',l',a'⟩:=Du y
 refine k h' T' (Ao ff (fun b hb=>(List.mem_append.mp hb)) y u) a' l' (ff.of_keeps fun b o e nf=>?_)
 obtain ⟨sl,e'⟩:=u b o e nf
 exact ⟨_,e',rfl⟩
theorem uI {fl:Value} {l:List Env} (ff:s.heap.FunFrames base l) (a:Jk s.heap x T c od fl) (hT:lo<=T)
  (k:∀ h' T',nY l [x,T] s.heap h'->Jk h' x T' c od .none->lo<=T'->h'.FunFrames base l->Q () { s with heap:=h' }):wpAny M A (setFlight (.ref x) none) Q E s:=by
 refine Xc.Ka (fo:=none) (a.SR ff hT) fun h' y u=>?_
 obtain ⟨T',l',a'⟩:=Du y
 refine k h' T' (Ao ff (fun b hb=>(List.mem_append.mp hb)) y u) a' l' (ff.of_keeps fun b o e nf=>?_)
 obtain ⟨sl,e'⟩:=u b o e nf
 exact ⟨_,e',rfl⟩
theorem FJ (fr:A.frames = some (env :: outer)) (ef:env.frame = some L) (ff:s.heap.FunFrames base (env :: outer)) (a:Jk s.heap x T c od .none)
  (k:∀ h' T' g,(∀ b ∈ g,b = x\/b = T\/s.heap.objs.size<=b)->nY (env :: outer) g s.heap h'->Jk h' x T' c od .none->s.heap.objs.size<=T'->h'.FunFrames base (env :: outer)->Q () { s with heap:=h' }) :
  wpAny M A (noteFrame (.ref x) env) (fun _ s1=>wpAny M A (setFlight (.ref x) none) Q E s1) E s:=by
 refine LI fr ef ff a (Nat.le_refl _) fun h1 T1 f1 a1 l1 ff1=>?_
 refine uI (s:={ s with heap:=h1 }) ff1 a1 l1 fun h2 T2 f2 a2 l2 ff2=>k h2 T2 _ (fun b hb=>?_) (f1.trans f2) a2 l2 ff2
 simp at hb
 rcases hb with q | q | q | q
 ·exact .inl q
 ·exact .inr (.inl q)
 ·exact .inl q
 ·exact .inr (.inr (by rw [q];exact l1))
theorem Kf (fr:A.frames = some (env :: outer)) (ef:env.frame = some L) (ff:s.heap.FunFrames base (env :: outer)) (a:Jk s.heap x T c od .none)
  (k:∀ h' T' g,(∀ b ∈ g,b = x\/b = T\/s.heap.objs.size<=b)->nY (env :: outer) g s.heap h'->Jk h' x T' c od .none->s.heap.objs.size<=T'->Q () { s with heap:=h' }):wpAny M A (leaving env (.ref x)) Q E s:=by
 unfold leaving
 exact wpAny_bind (FJ fr ef ff a fun h' T' g a1 a2 a3 a4 _=>k h' T' g a1 a2 a3 a4)
theorem leave_new {oe:Obj} {vs:Array Value} (fr:A.frames = some (env :: outer)) (ef:env.frame = some L) (ff:s.heap.FunFrames base (env :: outer)) (he:s.heap.get? x = some oe) (de:oe.data = .fields vs) (h1:vs[1]? = some .none)
  (k:∀ h' T' g,(∀ b ∈ g,b = x\/s.heap.objs.size<=b)->nY (env :: outer) g s.heap h'->Jk h' x T' oe.cls oe.dict .none->s.heap.objs.size<=T'->Q () { s with heap:=h' }):wpAny M A (leaving env (.ref x)) Q E s:=by
 unfold leaving
 refine wpAny_bind (Xc.LG (base:=PySem.W.hideAll s.heap (Bu (env :: outer) ++ [x])) (lo:=s.heap.objs.size) fr ?_ ef he ?_ ?_ de h1 (Nat.le_refl _) fun h' y u=>?_)
 ·exact PySem.W.funFrames_hide ff fun env hv a ha=>List.mem_append_left _ (List.mem_filterMap.mpr ⟨env,hv,ha⟩)
 ·exact fun b o e=>PySem.W.of_hideAll _ e
 ·exact PySem.W.hideAll_none _ (by simp)
 ·obtain ⟨T1,l1,a1⟩:=Du y
  have ff1:h'.FunFrames base (env :: outer):=ff.of_keeps fun b o e nf=>let ⟨sl,e'⟩:=u b o e nf;⟨_,e',rfl⟩
  have f1:nY (env :: outer) [x] s.heap h':=Ao ff (fun b hb=>(List.mem_append.mp hb)) y u
  refine uI (s:={ s with heap:=h' }) ff1 a1 l1 fun h2 T2 f2 a2 l2 _=>k h2 T2 _ (fun b hb=>?_) (f1.trans f2) a2 l2
  simp at hb
  rcases hb with rfl | rfl
  ·exact .inl rfl
  ·exact .inr l1
end
noncomputable def uh (P:Program) (w:World):Ho:=fun outer H s E e s'=>∃ (x T:Addr) (c:Value) (od:Option Addr) (H':Hp),e = .ref x/\s'.os = s.os/\AllBare s'.gens/\Un (Bu outer) [] H H' s.heap s'.heap/\qh P w H' s'.heap ∧
 s.heap.objs.size<=x/\s.heap.objs.size<=T/\H' x = none/\H' T = none/\Jk s'.heap x T c od .none/\E c od H'
structure Kg (X:Cx) (E:XK):Prop where
 ex:X.ex = []
 Fc:X.stack = X.env :: X.outer
 Sb:X.env.frame = some X.env.locals
 xe:X.xe = fun (e:Value) (s':Shared)=>wpAny (model X.prog X.w) X.A (leaving X.env e) (fun _ s''=>uh X.prog X.w X.outer X.Ms X.vp E e s'') (fun e' s''=>uh X.prog X.w X.outer X.Ms X.vp E e' s'') s'
theorem bq {P:Program} {w:World} {K:PySem.W.Frag} {mg:Str->Option Value} {base:Heap} {N:List Str} {qual:Str} {scope:Scope} {f:Addr} {cd:Value} {A:Around} {outer:List Env} {s:Shared} {H:Hp} {E:XK} :
  Kg (Fm (uh P w) P w K mg base N qual scope f cd A outer s H E) E:=⟨rfl,rfl,rfl,rfl⟩
theorem Kg.own {X:Cx} {E:XK} (d:Kg X E):PassesOwn (model X.prog X.w) X.A X.env X.xe:=by
 rw [d.xe]
 exact PassesOwn.leaving
section
variable {X:Cx} {pins:List (Addr × Obj)} {σ:St} {H:Hp} {s:Shared} {h':Heap} {E:XK}
theorem Inv.Dv (I:Inv X pins σ H s) {g:List Addr} (f:nY X.stack g s.heap h') (hg:∀ b ∈ g,H b = none):qh X.prog X.w H h':=fun a o e=>by
 have ok:∀ b u,H b = some u->b ∉ Bu X.stack/\b ∉ g:=fun b u q=>⟨fun z=>(by rw [I.C9 b z] at q;cases q),fun z=>(by rw [hg b z] at q;cases q)⟩
 refine (I.bL a o e).vq (fun b u hb q=>?_) (fun _ q=>q) fun _ _ q=>q
 rcases hb with rfl | hb
 ·exact f.keep b u q (ok b _ e).1 (ok b _ e).2
 ·exact f.keep b u q (ok b _ hb).1 (ok b _ hb).2
theorem Inv.Jl (I:Inv X pins σ H s) (d:Kg X E) {g:List Addr} (f:nY X.stack g s.heap h') (hg:∀ b ∈ g,X.vp.heap.objs.size<=b):Un X.fs [] X.Ms H X.vp.heap h':=by
 have U:=I.base
 rw [d.ex] at U
 have Fc:∀ b,b ∈ X.fs->b ∈ Bu X.stack:=fun b hb=>by
  rw [d.Fc]
  unfold Bu
  rw [List.filterMap_cons,d.Sb]
  exact List.mem_cons_of_mem _ hb
 have lt:∀ b o,X.vp.heap.get? b = some o->b ∉ g:=fun b o e z=>absurd (Heap.lt_size e) (Nat.not_lt.mpr (hg b z))
 refine ⟨fun b o e n hb hx=>f.keep b o (U.keep b o e n hb hx) (fun z=>?_) (lt b o e),fun b o e n hb hx=>?_,U.free,fun b o e hx=>?_,U.wM,U.uB,U.wN⟩
 ·rcases List.mem_cons.mp (I.C8 b z) with q | q
  ·exact absurd (Heap.lt_size e) (Nat.not_lt.mpr (by rw [q];exact I.ok.above))
  ·exact hb q
 ·obtain ⟨sl,e1⟩:=U.slot b o e n hb hx
  obtain ⟨sl2,e2⟩:=f.slot b _ e1 (Fc b hb)
  exact ⟨sl2,e2⟩
 ·obtain ⟨o1,e1⟩:=U.there b o e hx
  by_cases z:b ∈ Bu X.stack
  ·obtain ⟨sl,e2⟩:=f.slot b _ e1 z
   exact ⟨_,e2⟩
  ·exact ⟨o1,f.keep b o1 e1 z (lt b o e)⟩
theorem bC (d:Kg X E):Passes (uh X.prog X.w) X E:=by
 intro pins σ H s e s' I hc
 obtain ⟨x,T,c,od,H',rfl,os,bare,un,bL,lx,lT,nx,nT,air,hE⟩:=hc
 have I':Inv X pins σ H' s':=I.call' (ch:=[]) os un bL bare fun b z=>absurd z (by simp)
 have lo:X.vp.heap.objs.size<=s.heap.objs.size:=I.sz
 have fr:X.A.frames = some (X.env :: X.outer):=by rw [I.ok.frames,d.Fc]
 have ff:s'.heap.FunFrames X.base (X.env :: X.outer):=by rw [←d.Fc];exact I'.stack
 rw [d.xe]
 refine Kf fr d.Sb ff air fun h' T' g hg f a' l'=>?_
 rw [←d.Fc] at f
 have fresh:∀ b,s'.heap.objs.size<=b->H' b = none:=fun b hb=>bL.fresh hb
 have up:s.heap.objs.size<=s'.heap.objs.size:=by
  obtain ⟨_,_,_,_,he,_⟩:=air
  exact Nat.le_of_lt (Nat.lt_of_le_of_lt lx (Heap.lt_size he))
 refine ⟨x,T',c,od,H',rfl,I'.os,I'.bare,I'.Jl d f (fun b hb=>?_),I'.Dv f (fun b hb=>?_),Nat.le_trans lo lx,Nat.le_trans (Nat.le_trans lo up) l',nx,fresh _ l',a',hE⟩
 ·rcases hg b hb with rfl | rfl | q
  ·exact Nat.le_trans lo lx
  ·exact Nat.le_trans lo lT
  ·exact Nat.le_trans (Nat.le_trans lo up) q
 ·rcases hg b hb with rfl | rfl | q
  ·exact nx
  ·exact nT
  ·exact fresh b q
noncomputable def drop (H:Hp) (e:Addr):Hp:=fun b=>if b = e then none else H b
theorem sY {H:Hp} {e:Addr}:drop H e e = none:=by unfold drop;rw [if_pos rfl]
theorem mD {H:Hp} {e b:Addr} (h:b ≠ e):drop H e b = H b:=by unfold drop;rw [if_neg h]
theorem Inv.drop {e:Addr} {p:Heap->Prop} (I:Inv X pins σ H s) (he:H e = some (.ext p)):Inv X pins σ (drop H e) s:=by
 have U:=I.base
 have dn:∀ b,H b = none->L2.drop H e b = none:=fun b n=>by
  by_cases q:b = e
  ·rw [q];exact sY
  ·rw [mD q];exact n
 refine ⟨I.ok,I.os,I.bare,⟨U.keep,U.slot,fun b o q n x=>dn b (U.free b o q n x),U.there,fun b xs q=>?_,fun b o u q=>?_,fun b ps q=>?_⟩,I.loc,I.cell,dn _ I.free,fun x c q=>dn _ (I.jE x c q),fun q hq=>?_,fun a o q=>?_,I.len⟩
 ·have:=U.wM b xs q
  rw [mD (fun z=>by rw [z,he] at this;cases this)];exact this
 ·have:=U.uB b o u q
  rw [mD (fun z=>by rw [z,he] at this;cases this)];exact this
 ·obtain ⟨more,this⟩:=U.wN b ps q
  exact ⟨more,by rw [mD (fun z=>by rw [z,he] at this;cases this)];exact this⟩
 ·obtain ⟨a1,a2,a3⟩:=I.pin q hq
  exact ⟨a1,dn _ a2,a3⟩
 ·have ne:a ≠ e:=fun z=>by rw [z,sY] at q;cases q
  rw [mD ne] at q
  refine (I.bL a o q).vq (fun _ _ _ z=>z) (fun b z=>?_) fun b xs z=>?_
  ·rw [mD (fun y=>by rw [y,he] at z;cases z)];exact z
  ·rw [mD (fun y=>by rw [y,he] at z;cases z)];exact z
end
section
variable {X:Cx} {CX:Ho} {k:Nat} {C N fI:Addr} {fd:FuncData} {ps:List Str} {sp:Sp} {E:XK} {x:Str} {p pos pos':Pos} {e:Expr} {es:List Expr} {t:TA}
noncomputable def Pd (C:Addr) (sp:Sp) (E:XK) (t:TA):TS:=fun _ σ H=>t σ H fun vs H1=>∀ a,H1 a = none->sp (.ref a :: vs) (upd H1 a (yF C a none)) (fun v H2=>v = .fR/\∃ od,H2 a = some (yF C a od)/\E (.ref C) od (drop H2 a)) E0
theorem bF (d:Kg X E) (hc:X.calm = true) (c:FI X.K C N fI) (F:a8 X.prog X.w X.K X.mg X.base kD k fI fd ps sp) (hr:iZ (k + 1) X.A) (hg:Gl X x) (hm:X.mg x = some (.ref C)) (hb:Binds X.K fd ps []) (ha:PA X (e :: es) t) (hps:ps.length<=100:=by decide)
  (hdb:(x == ("__debug__" : Str)) = false:=by decide) (he:starEach (e :: es) X.env = (false,eval e X.env) :: starEach es X.env:=by rfl) (hpl:(backTo pos (starEach es X.env)).any (·.1) = false:=by rfl) :
  PS X (.Raise (some (.Call (.Name x p) (e :: es) [] pos)) none pos') (Pd C sp E t):=by
 intro pins s σ H D I h
 obtain ⟨nm,q,bs,sn,sub,ab,col,dd,k0,k1,k2,k3,k5,lC⟩:=c.obj
 refine Xc.Raise_own (C:=C) (nm:=nm) (q:=q) (N:=N) (bs:=bs) (hdct:=true) (sn:=sn) (sub:=sub) (ab:=ab) (col:=col) (dd:=dd) (k0:=k0) (k1:=k1) (k2:=k2) (k3:=k3) (k5:=k5) (newId:="Exception.__new__") (I.ok.hd hc) ?_
 refine wpAny_Call_Name_kw (sR I hg hm ?_ hdb)
 refine PySem.W.callWith_K (h₀:=X.base) I.ok.mod.OG c.kp (d9 (ha pos pins s σ H _ I h) fun us s1 ⟨vs,H1,I1,r,q1⟩=>⟨I1.yi,?_⟩) he hpl
 obtain ⟨mN,hN,hin⟩:=c.init s1.heap I1.yi
 obtain ⟨oI,lI,cI⟩:=c.fn
 obtain ⟨hh,gg,dr,tk,oss⟩:=s1
 have na:H1 (hh.objs.size + 1) = none:=I1.bL.fresh (Nat.le_succ _)
 have hq:=q1 (hh.objs.size + 1) na
 have gx:((hh.push (Xc.FG us)).push (Xc.Dt C hh.objs.size)).get? (hh.objs.size + 1) = some (Xc.Dt C hh.objs.size):=by heap_get
 have I0:=I1.kept (h':=hh.push (Xc.FG us)) (t':=tk) fun b u q=>Heap.get?_push_of_some _ q
 have I2:=I0.laid (a:=hh.objs.size + 1) (o:=yF C (hh.objs.size + 1) none) (h':=(hh.push (Xc.FG us)).push (Xc.Dt C hh.objs.size)) (t':=tk) (fun b u q=>Heap.get?_push_of_some _ q) (Nat.le_of_eq (Heap.size_push _ _)) (Jj gx rfl)
 have r2:Vals (V.ref (hh.objs.size + 1) :: vs) (Value.ref (hh.objs.size + 1) :: us):=.cons rfl r
 have hl:(Value.ref (hh.objs.size + 1) :: us ++ []).length = ps.length:=by
  have z:=r2.length
  rw [F.len _ _ _ _ hq] at z
  rw [List.append_nil]
  exact z.symm
 have hz:us.length<=sizeLine:=by
  have z1:=F.len _ _ _ _ hq
  have z2:=r.length
  have z3:=hps
  simp only [List.length_cons] at z1
  exact Nat.le_trans (by omega) (show 100<=sizeLine by decide)
 refine Xc.Kd (I1.yi _ _ lC) hN hin (I1.yi _ _ lI) cI hz ?_
 have hbb:=hb _ (Value.ref (hh.objs.size + 1) :: us) I2.yi hl
 rw [List.append_nil] at hbb
 refine wpAny_call (codeAny_mono (F.run _ X.stack _ _ ⟨Value.ref (hh.objs.size + 1) :: us,[]⟩ (Value.ref (hh.objs.size + 1) :: us) _ _ E0 (hr.make C us []) (I2.OW.make C us []) hbb r2 hq) fun rr s' hq'=>?_)
 cases rr with
 | error e=>exact False.elim hq'
 | ok fl =>
  cases fl with
  | next=>exact False.elim hq'
  | brk=>exact False.elim hq'
  | cont=>exact False.elim hq'
  | ret u =>
   obtain ⟨v,H3,I3,rv,ev,od,h3,hE⟩:=I2.after hq'
   subst ev
   obtain ⟨ws,g3,v3⟩:=An I3.bL h3
   refine ⟨rv,hh.objs.size + 1,_,ws,rfl,I3.yi _ _ lC,g3,rfl,rfl,v3,?_⟩
   have I4:=I3.drop h3
   have fr:X.A.frames = some (X.env :: X.outer):=by rw [I4.ok.frames,d.Fc]
   have ff:s'.heap.FunFrames X.base (X.env :: X.outer):=by rw [←d.Fc];exact I4.stack
   rw [d.xe]
   refine leave_new fr d.Sb ff g3 rfl v3 fun h' T' g hg f a' l'=>?_
   rw [←d.Fc] at f
   have lx:X.vp.heap.objs.size<=hh.objs.size + 1:=Nat.le_succ_of_le I1.sz
   refine ⟨hh.objs.size + 1,T',.ref C,od,L2.drop H3 (hh.objs.size + 1),rfl,I4.os,I4.bare,I4.Jl d f (fun b hb=>?_),I4.Dv f (fun b hb=>?_),lx,Nat.le_trans I4.sz l',sY,I4.bL.fresh l',a',hE⟩
   ·rcases hg b hb with rfl | q
    ·exact lx
    ·exact Nat.le_trans I4.sz q
   ·rcases hg b hb with rfl | q
    ·exact sY
    ·exact I4.bL.fresh q
end
end L2
namespace L2
open PySem PySem.Spec PyProof.Rows
section
variable {X:Cx} {e:Expr} {f:Str} {pos:Pos} {ta:TE} {C N fI:Addr}
noncomputable def QZ (C:Addr) (ta:TE) (f:Str):TE:=fun σ H Q=>ta σ H fun x H1=>∃ a d fs v,x = .ref a/\H1 a = some (Ke C a (some d))/\H1 d = some (vD d fs)/\fs.lookup f = some v/\Q v H1
theorem Jm (c:FI X.K C N fI) (nf:aK X.K C f) (he:PE X e ta) (hb:attributeBase e f X.env (eval e X.env) = eval e X.env):PE X (.Attribute e f pos) (QZ C ta f):=by
 intro pins s σ H Q I h
 refine IZ hb (d9 (he pins s σ H _ I h) fun u s1 ⟨x,H1,I1,rx,a,d,fs,v,ex,ha,hd,hl,q⟩=>?_)
 subst ex
 obtain rfl:u = Value.ref a:=rx
 obtain ⟨o,g,hc,hod,vs,dv⟩:=LH I1.bL ha
 obtain ⟨mA,n1,r1,w1⟩:=CJ I1.bL hd
 obtain ⟨od,god,look⟩:=Ct n1
 have hv:=r1 f
 rw [hl] at hv
 obtain ⟨u',eu,ru⟩:=hv.some_of
 have J:PySem.W.InstAt s1.heap a o C (some od):=by
  refine ⟨g,hc,?_,?_⟩
  ·obtain ⟨oc,odd,oda,osl⟩:=o
   dsimp only at dv
   subst dv
   rfl
  ·rw [hod];exact god
 obtain ⟨cd,hcd,hm,hdd⟩:=c.cls
 have hdi:PySem.W.hasDictIn X.K C = true:=by unfold PySem.W.hasDictIn;rw [hcd];exact hdd
 refine Xc.Sa I1.yi J c.ga c.gh c.mb (PySem.W.findObj_own hdi nf rfl (by rw [look,eu])) (Cu ru) ?_
 exact ⟨v,H1,I1.tok _,ru,q⟩
end
noncomputable def Kh (X:Cx) (pn:List (Addr × Obj)) (b:Addr):Prop:=(b ∈ X.ex\/X.vp.heap.objs.size<=b)/\b ≠ X.env.locals/\(∀ x c,X.env.cells.lookup x = some c->c ≠ b)/\∀ p ∈ X.pn ++ pn,p.1 ≠ b
theorem Inv.gone {X:Cx} {pn:List (Addr × Obj)} {σ:St} {H:Hp} {s:Shared} (I:Inv X pn σ H s) {b:Addr} (hb:s.heap.objs.size<=b):Kh X pn b:=by
 refine ⟨.inr (Nat.le_trans I.sz hb),fun z=>absurd I.lt (Nat.not_lt.mpr (by rw [←z];exact hb)),fun x c q z=>?_,fun p hp z=>?_⟩
 ·obtain ⟨v,o,ho,_⟩:=I.cell x c q
  have:=Heap.lt_size ho
  rw [z] at this
  exact absurd this (Nat.not_lt.mpr hb)
 ·have:=Heap.lt_size (I.pin p hp).1
  rw [z] at this
  exact absurd this (Nat.not_lt.mpr hb)
abbrev Cx.tr (X:Cx) (pn:List (Addr × Obj)) (E':XK):Cx:={ X with pn:=X.pn ++ pn,xe:=fun e s'=>∃ (σ:St) (H':Hp) (x T:Addr) (c:Value) (od:Option Addr),e = .ref x/\Inv X pn σ H' s'/\Kh X pn x/\Kh X pn T/\H' x = none/\H' T = none/\Jk s'.heap x T c od .none/\E' c od H' }
abbrev Cx.hd (X:Cx) (a:Addr):Cx:={ X with A:=X.A.mark (some (.ref a)),calm:=false,xe:=fun _ _=>False }
section
variable {X:Cx} {pn:List (Addr × Obj)} {E':XK} {σ:St} {H:Hp} {s:Shared}
theorem Cx.Ok.tr (ok:X.Ok):(X.tr pn E').Ok:=⟨ok.mod,ok.kind,ok.glob,ok.blt,ok.above,ok.inj,ok.has,ok.N8,ok.hd,ok.frames,ok.Fc,ok.OH,ok.bs,ok.Lf,ok.Fd,ok.Fe,ok.uC,ok.Mt⟩
theorem Cx.Ok.yG (ok:(X.tr pn E').Ok):X.Ok:=⟨ok.mod,ok.kind,ok.glob,ok.blt,ok.above,ok.inj,ok.has,ok.N8,ok.hd,ok.frames,ok.Fc,ok.OH,ok.bs,ok.Lf,ok.Fd,ok.Fe,ok.uC,ok.Mt⟩
theorem Cx.Ok.MZ (ok:X.Ok) (a:Addr):(X.hd a).Ok:=⟨ok.mod,ok.kind,ok.glob,ok.blt,ok.above,ok.inj,ok.has,ok.N8,fun z=>absurd z (by simp),ok.frames,ok.Fc,ok.OH,ok.bs,ok.Lf,ok.Fd,ok.Fe,ok.uC,ok.Mt⟩
theorem Inv.tr (I:Inv X pn σ H s):Inv (X.tr pn E') [] σ H s:=⟨I.ok.tr,I.os,I.bare,I.base,I.loc,I.cell,I.free,I.jE,fun p hp=>I.pin p (by simpa using hp),I.bL,I.len⟩
theorem Inv.yG {pins:List (Addr × Obj)} (I:Inv (X.tr pn E') pins σ H s):Inv X pn σ H s:=⟨I.ok.yG,I.os,I.bare,I.base,I.loc,I.cell,I.free,I.jE,fun p hp=>I.pin p (List.mem_append_left _ hp),I.bL,I.len⟩
theorem Inv.MZ (I:Inv X pn σ H s) (a:Addr):Inv (X.hd a) pn σ H s:=⟨I.ok.MZ a,I.os,I.bare,I.base,I.loc,I.cell,I.free,I.jE,I.pin,I.bL,I.len⟩
theorem Inv.Sd {a:Addr} (ok:X.Ok) (I:Inv (X.hd a) pn σ H s):Inv X pn σ H s:=⟨ok,I.os,I.bare,I.base,I.loc,I.cell,I.free,I.jE,I.pin,I.bL,I.len⟩
theorem SP.yG {D:Ends} {f:Flow} {s':Shared} (h:SP (X.tr pn E') [] D f s'):SP X pn D f s':=by
 cases f with
 | next=>obtain ⟨a,b,I,q⟩:=h;exact ⟨a,b,I.yG,q⟩
 | brk=>obtain ⟨a,b,I,q⟩:=h;exact ⟨a,b,I.yG,q⟩
 | cont=>obtain ⟨a,b,I,q⟩:=h;exact ⟨a,b,I.yG,q⟩
 | ret u=>obtain ⟨a,b,c,I,q⟩:=h;exact ⟨a,b,c,I.yG,q⟩
theorem Q0:Passes (uh X.prog X.w) (X.tr pn E') E':=by
 intro pins σ H s e s' I hc
 obtain ⟨x,T,c,od,H',rfl,os,bare,un,bL,lx,lT,nx,nT,air,hE⟩:=hc
 have I0:Inv X pn σ H s:=I.yG
 exact ⟨σ,H',x,T,c,od,rfl,I0.call' (ch:=[]) os un bL bare (fun b z=>absurd z (by simp)),I0.gone lx,I0.gone lT,nx,nT,air,hE⟩
theorem Inv.Oi {h':Heap} (I:Inv X pn σ H s) {g:List Addr} (f:nY X.stack g s.heap h') (hg:∀ b ∈ g,Kh X pn b/\H b = none):Inv X pn σ H { s with heap:=h' }:=by
 refine I.call' (ch:=g) rfl ⟨fun b o e _ nf ng=>f.keep b o e nf ng,fun b o e _ hf _=>f.slot b o e hf,fun _ _ _ n _=>n,fun b o e ng=>?_,fun _ _ q=>q,fun _ _ _ q=>q,fun _ ps q=>⟨#[],by rw [q];simp⟩⟩ (I.Dv f fun b hb=>(hg b hb).2) I.bare fun b hb=>(hg b hb).1
 by_cases z:b ∈ Bu X.stack
 ·obtain ⟨sl,e'⟩:=f.slot b o e z
  exact ⟨_,e'⟩
 ·exact ⟨o,f.keep b o e z ng⟩
theorem Inv.Q1 {a:Addr} {p:Heap->Prop} (I:Inv X pn σ H s) (g:Kh X pn a) (n:H a = none) (hx:X.ex = []) (new:∀ H',d8 X.prog X.w H' s.heap a (.ext p)):Inv X pn σ (upd H a (.ext p)) s:=by
 obtain ⟨g1,g2,g3,g4⟩:=g
 have la:X.vp.heap.objs.size<=a:=by rcases g1 with q | q;rw [hx] at q;exact absurd q (by simp);exact q
 have U:=I.base
 have un:∀ b u,H b = some u->upd H a (.ext p) b = some u:=fun b u q=>by rw [ai (aw q n)];exact q
 refine ⟨I.ok,I.os,I.bare,⟨U.keep,U.slot,fun b o e n0 x=>?_,U.there,fun b xs q=>un _ _ (U.wM b xs q),fun b o u q=>un _ _ (U.uB b o u q),fun b ps q=>?_⟩,I.loc,I.cell,?_,fun x c q=>?_,fun q hq=>?_,fun b o q=>?_,I.len⟩
 ·rw [ai (fun z=>absurd (Heap.lt_size e) (Nat.not_lt.mpr (by rw [z];exact la)))]
  exact U.free b o e n0 x
 ·obtain ⟨m,e⟩:=U.wN b ps q
  exact ⟨m,un _ _ e⟩
 ·rw [ai (Ne.symm g2)];exact I.free
 ·rw [ai (g3 x c q)];exact I.jE x c q
 ·obtain ⟨a1,a2,a3⟩:=I.pin q hq
  exact ⟨a1,by rw [ai (g4 q hq)];exact a2,a3⟩
 ·by_cases z:b = a
  ·subst z
   rw [af] at q
   cases q
   exact new _
  ·rw [ai z] at q
   exact (I.bL b o q).vq (fun _ _ _ y=>y) (fun c y=>un _ _ y) fun c xs y=>un _ _ y
theorem Inv.forget {h':Heap} {t':Nat} {m:Str->Option Value} (I:Inv X pn σ H s) (n:h'.Ns X.env.locals m) (sb:Heap.SameBut X.env.locals s.heap h'):Inv X pn (List.replicate X.N.length none) H { s with heap:=h',toks:=t' }:=by
 have U:=I.base
 have same:∀ b,b ≠ X.env.locals->h'.get? b = s.heap.get? b:=fun b hb=>sb.2 b hb
 have old:∀ b o,X.vp.heap.get? b = some o->b ≠ X.env.locals:=fun b o e z=>absurd (Heap.lt_size e) (Nat.not_lt.mpr (by rw [z];exact I.ok.above))
 have OF:∀ b o,H b = some o->b ≠ X.env.locals:=fun b o q z=>by rw [z,I.free] at q;cases q
 refine ⟨I.ok,I.os,I.bare,⟨fun b o e n0 hf hx=>?_,fun b o e n0 hf hx=>?_,U.free,fun b o e hx=>?_,U.wM,U.uB,U.wN⟩,⟨m,n,fun i x v h1 h2 _=>?_⟩,fun x c q=>?_,I.free,I.jE,fun q hq=>?_,fun a o q=>?_,List.length_replicate ..⟩
 ·show h'.get? b = _
  rw [same b (old b o e)];exact U.keep b o e n0 hf hx
 ·show ∃ sl,h'.get? b = _
  rw [same b (old b o e)];exact U.slot b o e n0 hf hx
 ·show ∃ o',h'.get? b = _
  rw [same b (old b o e)];exact U.there b o e hx
 ·rw [List.getElem?_replicate] at h2
  split at h2 <;> cases h2
 ·obtain ⟨v,o,ho,r⟩:=I.cell x c q
  exact ⟨v,o,by show h'.get? c = _;rw [same c (I.N9 x c q)];exact ho,r⟩
 ·obtain ⟨a1,a2,a3,a4⟩:=I.pin q hq
  exact ⟨by show h'.get? q.1 = _;rw [same q.1 a3];exact a1,a2,a3,a4⟩
 ·refine (I.bL a o q).vq (fun b u hb e=>?_) (fun _ y=>y) fun _ _ y=>y
  show h'.get? b = _
  rcases hb with rfl | hb
  ·rw [same b (OF b _ q)];exact e
  ·rw [same b (OF b _ hb)];exact e
end
section
variable {X:Cx} {E':XK} {tb th:TS} {C N fI:Addr} {x n:Str} {np hpos pos:Pos} {body suite:List Stmt} {b0:Stmt} {i:Nat}
noncomputable def Se (E':XK) (tb th:TS) (C:Addr) (i:Nat):TS:=fun D σ H=>tb D σ H/\∀ (σ':St) (H':Hp) (c:Value) (od:Option Addr),σ'.length = σ.length->E' c od H'->c = .ref C ∧
 ∀ a,H' a = none->th { nx:=fun _ _=>False,rt:=D.rt } (σ'.set i (some (.ref a))) (upd H' a (Ke C a od))
theorem Pe (hex:X.ex = []) (hstk:X.stack = X.env :: X.outer) (hfrm:X.env.frame = some X.env.locals) (c:FI X.K C N fI) (hg:Gl X x) (hm:X.mg x = some (.ref C)) (hN:X.N.Nodup) (hi:X.N[i]? = some n) (hl:X.env.scope.names.lookup n = some .local)
  (hb:∀ pn,Hn (X.tr pn E') body tb) (hs:∀ a,Hn (X.hd a) (b0 :: suite) th) (hdb:(x == ("__debug__" : Str)) = false:=by decide) :
  PS X (.Try body [.ExceptHandler (some (.Name x np)) (some n) (b0 :: suite) hpos] [] [] pos) (Se E' tb th C i):=by
 intro pins s σ H D I h
 obtain ⟨h1,h2⟩:=h
 rw [arm_exec_Try]
 refine wpAny_bind (wpAny_standAt (wpAny_tryStmt_except ?_))
 refine wpAny_mono (hb pins [] s σ H D I.tr h1) (fun f s1 z=>?_) (fun e s1 z=>?_)
 ·cases f with
  | next=>exact wpAny_execs_nil z.yG
  | brk=>exact z.yG
  | cont=>exact z.yG
  | ret u=>exact z.yG
 ·obtain ⟨σ1,H1,a,T,cv,od,rfl,J,ga,gT,na,nT,air,hE⟩:=z
  obtain ⟨rfl,h3⟩:=h2 σ1 H1 cv od (by rw [J.len,I.len]) hE
  have fr:X.A.frames = some (X.env :: X.outer):=by rw [J.ok.frames,hstk]
  have ff:s1.heap.FunFrames X.base (X.env :: X.outer):=by rw [←hstk];exact J.stack
  refine FJ fr hfrm ff air fun hp2 T2 g hg2 f2 a2 l2 ff2=>?_
  rw [←hstk] at f2
  have J2:Inv X pins σ1 H1 { s1 with heap:=hp2 }:=J.Oi f2 fun b hb=>by
   rcases hg2 b hb with rfl | rfl | q
   ·exact ⟨ga,na⟩
   ·exact ⟨gT,nT⟩
   ·exact ⟨J.gone q,J.bL.fresh q⟩
  have g2:Kh X pins T2:=J.gone l2
  have n2:H1 T2 = none:=J.bL.fresh l2
  obtain ⟨nm,q,bs,sn,sub,ab,col,dd,k0,k1,k2,k3,k5,lC⟩:=c.obj
  obtain ⟨oe,vs,oT,ts,ge,hc,hod,de,v1,neT,gT2,dT,t3⟩:=id a2
  refine wpAny_handleBy_cons (codeAny_handlers_test (sR (J2.MZ a) hg hm ?_ hdb)) (by intro q;cases q)
  refine wpAny_excMatches_sub_self (h:=hp2) (J2.yi _ _ lC) ge hc (by decide +kernel) (codeAny_handlers_suite_as ?_)
  refine uI (s:={ s1 with heap:=hp2 }) ff2 a2 (Nat.zero_le T2) fun hp3 T3 f3 a3 l3 ff3=>?_
  rw [←hstk] at f3
  have J3:Inv X pins σ1 H1 { s1 with heap:=hp3 }:=J2.Oi f3 fun b hb=>by
   simp at hb
   rcases hb with rfl | rfl
   ·exact ⟨ga,na⟩
   ·exact ⟨g2,n2⟩
  obtain ⟨oe3,vs3,_,_,ge3,hc3,hod3,de3,_⟩:=id a3
  have J4:Inv X pins σ1 (upd H1 a (Ke C a od)) { s1 with heap:=hp3 }:=J3.Q1 ga na hex fun H'=>MY ge3 hc3 hod3 de3
  refine zW (i:=i) (v:=.ref a) J4 hN hi (.inl hl) rfl (fun s4 J5=>?_) (.inr hl)
  refine wpAny_mono (hs a pins s4 _ _ _ (J5.MZ a) (h3 a na)) (fun f s5 z=>?_) (fun e s5 z=>z.elim)
  cases f with
  | next=>obtain ⟨_,_,_,q⟩:=z;exact q.elim
  | brk=>obtain ⟨_,_,_,q⟩:=z;exact q.elim
  | cont=>obtain ⟨_,_,_,q⟩:=z;exact q.elim
  | ret u =>
   obtain ⟨v,σ6,H6,J6,rv,q⟩:=z
   have J7:Inv X pins σ6 H6 s5:=J6.Sd J5.ok
   obtain ⟨m,hn,_⟩:=J7.loc
   have hk:(X.env.scope.kind == .class || (X.env.scope.kind == .module && X.env.locals != X.env.globals)) = false:=by rw [J7.ok.kind];rfl
   refine wpAny_nameGoes (m:=m) hl hn hk fun h' m' n' sb=>?_
   exact ⟨v,_,H6,J7.forget n' sb,rv,q⟩
end
end L2
namespace L2
open PySem PySem.Spec PyProof.Rows
section
variable {X:Cx} {CX:Ho}
noncomputable def Callee (X:Cx) (CX:Ho) (f:Addr) (sp:Sp):Prop:=∃ (k:Nat) (fd:FuncData) (ps:List Str),a8 X.prog X.w X.K X.mg X.base CX k f fd ps sp/\iZ k X.A/\PySem.W.keepIn X.K (.ref f) = true/\Binds X.K fd ps []
noncomputable def Pf (R:Addr->Sp->Prop) (E:XK) (ta:TE) (t:TA):TE:=fun σ H Q=>ta σ H fun v H1=>∃ f sp,v = .ref f/\R f sp/\t σ H1 fun vs H2=>sp (vs ++ []) H2 Q E
theorem LJ {R:Addr->Sp->Prop} {E:XK} {ta:TE} {t:TA} {x:Str} {p pos:Pos} {e:Expr} {es:List Expr} (hR:∀ f sp,R f sp->Callee X CX f sp) (hv:PE X (.Name x p) ta) (hx:Passes CX X E)
  (ha:PA X (e :: es) t) (he:starEach (e :: es) X.env = (false,eval e X.env) :: starEach es X.env:=by rfl) (hpl:(backTo pos (starEach es X.env)).any (·.1) = false:=by rfl) :
  PE X (.Call (.Name x p) (e :: es) [] pos) (Pf R E ta t):=by
 intro pins s σ H Q I h
 refine wpAny_Call_Name_kw (d9 (hv pins s σ H _ I h) fun u s1 ⟨v,H1,I1,r1,f,sp,ev,rf,q⟩=>?_)
 subst ev
 obtain rfl:u = Value.ref f:=r1
 obtain ⟨k,fd,ps,F,hr,hk,hb⟩:=hR f sp rf
 refine PySem.W.callWith_K (h₀:=X.base) I1.ok.mod.OG hk (d9 (ha pos pins s1 σ H1 _ I1 q) fun us s2 ⟨vs,H2,I2,r,q2⟩=>⟨I2.yi,?_⟩) he hpl
 exact Dh F hr hb .nil hx I2 r q2
end
end L2
namespace Xc
open PySem PySem.Spec PyProof.Rows
section
variable {P:Program} {w:World} {A:Around} {E:Value->Shared->Prop} {s:Shared}
theorem nextT {it t:Addr} {i:Nat} {its:Array Value} {v:Value} {Q:Value->Shared->Prop} (hi:s.heap.IsTupleIter it t i) (ht:s.heap.IsTuple t its) (hv:its[i]? = some v)
  (q:∀ h',h'.IsTupleIter it t (i + 1)->Heap.SameBut it s.heap h'->Q v { s with heap:=h' }):wpAny (model P w) A (Builtin.SmallTypes.nextOf (.ref it)) Q E s:=by
 obtain ⟨o,ho,oc,od⟩:=id hi
 obtain ⟨u,hu,_,n,ud⟩:=ht
 unfold Builtin.SmallTypes.nextOf
 refine wpAny_bind (wpAny_callSpecial?_slot (name:=Str.ofString "__next__") hi.typeIs F.slot_tuple_iterator_next (wpAny_call_entry F.slot_tuple_iterator_next hi.typeIs F.entry_tuple_iterator_next ?_ (F.args_tuple_iterator_next_1 _)))
 show wpAny (model P w) A.in1 (field (.ref it) 0 >>= _) _ _ s
 refine wpAny_bind (wpAny_field ho od (x:=.ref t) rfl ?_)
 show wpAny (model P w) A.in1 (if (Value.ref t == Value.none) = true then _ else _) _ _ s
 rw [if_neg (fun z:(Value.ref t == Value.none) = true=>Bool.false_ne_true z)]
 show wpAny (model P w) A.in1 (field (.ref it) 1 >>= _) _ _ s
 refine wpAny_bind (wpAny_field ho od (x:=.int i 0) rfl ?_)
 show wpAny (model P w) A.in1 (seqItems? (.ref t) >>= _) _ _ s
 refine wpAny_bind (wpAny_seqItems hu ud ?_)
 simp only [Int.toNat_natCast,hv]
 refine wpAny_bind (wpAny_setField ho od (by simp) (wpAny_pure ⟨v,rfl,wpAny_pure (q _ ?_ (Heap.SameBut.update ..))⟩))
 refine ⟨_,Heap.get?_update_self _ ho (Obj.isFreed_of_fields (Obj.data_mapFields od _)),(Obj.cls_mapFields ..).trans oc,?_⟩
 rw [Obj.data_mapFields od]
 simp [rawInt]
theorem Q2 {it t:Addr} {i:Nat} {its:Array Value} {Q:Value->Shared->Prop} (hh:A.handled = none) (hi:s.heap.IsTupleIter it t i) (ht:s.heap.IsTuple t its) (hv:its[i]? = none)
  (q:∀ h' e,Heap.ExtBut it s.heap h'->(∃ o,h'.get? e = some o/\o.cls = .type "StopIteration")->E (.ref e) { s with heap:=h' }):wpAny (model P w) A (Builtin.SmallTypes.nextOf (.ref it)) Q E s:=by
 obtain ⟨o,ho,oc,od⟩:=id hi
 obtain ⟨u,hu,_,n,ud⟩:=ht
 unfold Builtin.SmallTypes.nextOf
 refine wpAny_bind (wpAny_callSpecial?_slot (name:=Str.ofString "__next__") hi.typeIs F.slot_tuple_iterator_next (wpAny_call_entry F.slot_tuple_iterator_next hi.typeIs F.entry_tuple_iterator_next ?_ (F.args_tuple_iterator_next_1 _)))
 show wpAny (model P w) A.in1 (field (.ref it) 0 >>= _) _ _ s
 refine wpAny_bind (wpAny_field ho od (x:=.ref t) rfl ?_)
 show wpAny (model P w) A.in1 (if (Value.ref t == Value.none) = true then _ else _) _ _ s
 rw [if_neg (fun z:(Value.ref t == Value.none) = true=>Bool.false_ne_true z)]
 show wpAny (model P w) A.in1 (field (.ref it) 1 >>= _) _ _ s
 refine wpAny_bind (wpAny_field ho od (x:=.int i 0) rfl ?_)
 show wpAny (model P w) A.in1 (seqItems? (.ref t) >>= _) _ _ s
 refine wpAny_bind (wpAny_seqItems hu ud ?_)
 simp only [Int.toNat_natCast,hv]
 refine wpAny_bind (wpAny_rule (wpAny_bind (wpAny_setField ho od (by simp) ?_)))
 show wpAny (model P w) A.in1 (newExc (.type "StopIteration") [] >>= _) _ _ _
 refine wpAny_bind ?_
 simp only [newExc,newTuple]
 refine wpAny_bind (wpAny_newObj_type ?_ (by size_fits))
 refine wpAny_bind (m:=firstArgMember _ _) (wpAny_of_eq (a:=Value.none) (by first | rfl | (simp only [firstArgMember];rfl)) ?_)
 refine wpAny_newObj_type ?_ (by size_fits)
 simp only [raiseNew]
 refine wpAny_bind (wpAny_handled ?_)
 rw [show A.in1.handled = none from hh]
 exact wpAny_bind (wpAny_pure (wpAny_throw (q _ _ (((Heap.SameBut.update ..).extBut.push _).push _) ⟨_,Heap.get?_push_size _ rfl,rfl⟩)))
theorem Pg (hh:A.handled = none) (it t:Addr) (hne:t ≠ it) (its:Array Value):Draws P w A it [it,t] its.size (fun i v=>its[i]? = some v) (fun i h=>h.IsTupleIter it t i/\h.IsTuple t its) where
 live:=fun _ _ st=>let ⟨o,ho,_⟩:=st.1;⟨o,ho⟩
 frame:=fun _ _ _ st hk=>⟨let ⟨o,ho,r⟩:=st.1;⟨o,hk it (by simp) o ho,r⟩,let ⟨o,ho,r⟩:=st.2;⟨o,hk t (by simp) o ho,r⟩⟩
 item:=fun i s Q E hi st hQ=>nextT st.1 st.2 (v:=its[i]) (by simp [hi]) fun h' a b=>hQ _ h' s.toks (by simp [hi]) ⟨a,st.2.extBut b.extBut hne⟩ b
 done:=fun s Q E st hE=>Q2 hh st.1 st.2 (by simp) hE
theorem Ki (t:Addr) (its:Array Value) (n:Nat) (kF:Option Addr) (sl:Array (Option Value)) :
  Meets (Builtin.«enumerate.__new__» ⟨[.type "enumerate",.ref t],[]⟩) (fun _ R s=>s.heap.get? t = some { cls:=.type "tuple",dict:=kF,data:=.seq its n,slots:=sl } ∧
   R (.ok (.ret (.ref (s.heap.push { cls:=.type "tuple_iterator",data:=.fields #[.ref t,.int 0 0] }).objs.size)))
    { s with heap:=(s.heap.push { cls:=.type "tuple_iterator",data:=.fields #[.ref t,.int 0 0] }).push { cls:=.type "enumerate",data:=.fields #[.none,.bool false,.ref s.heap.objs.size,rawInt 0,.none,.none] } }) :=
 .of_wp fun prog w A R s h=>by
  obtain ⟨hp,g,d,tk,os⟩:=s
  obtain ⟨hl,h⟩:=h
  have hsub:=sub_enumerate
  have hT:Heap.IsTuple (Shared.heap ⟨hp,g,d,tk,os⟩) t its:=⟨_,hl,rfl,n,rfl⟩
  wp_walk using AutoSeq1.wpAny_loadPart' hl
  refine wpAny_stack_any fun st=>wpAny_pure ?_
  split
  ·rename_i c _ _ _ _ _
   cases (c == Value.type "enumerate")
   ·wp_walk using AutoSeq1.wpAny_loadPart' hl,wpAny_pyIter_tuple hT
    exact ⟨_,rfl,h⟩
   ·wp_walk using AutoSeq1.wpAny_loadPart' hl,wpAny_pyIter_tuple hT
    exact ⟨_,rfl,h⟩
  ·wp_walk using AutoSeq1.wpAny_loadPart' hl,wpAny_pyIter_tuple hT
   exact ⟨_,rfl,h⟩
theorem HK {t:Addr} {its:Array Value} {Q:Value->Shared->Prop} (hT:s.heap.IsTuple t its)
  (h:∀ h',IsEnum h' (s.heap.objs.size + 1) s.heap.objs.size 0 .none->h'.IsTupleIter s.heap.objs.size t 0->(∀ b o,s.heap.get? b = some o->h'.get? b = some o)->Q (.ref (s.heap.objs.size + 1)) { s with heap:=h' }) :
  wpAny (model P w) A (call (.type "enumerate") [.ref t]) Q E s:=by
 obtain ⟨⟨c,kF,dt,sl⟩,hl,hc,n,hd⟩:=hT
 obtain rfl:c = .type "tuple":=hc
 obtain rfl:dt = .seq its n:=hd
 refine callType_new F.called_enumerate (by decide) (F.typeCall_enumerate_1 _) (F.newCall_enumerate_1 _) (fun obj=>F.args_object_init_2 obj _) F.entry_enumerate_new (Ki t its n kF sl) ⟨hl,?_⟩
 have hz:(s.heap.push { cls:=.type "tuple_iterator",data:=.fields #[.ref t,.int 0 0] }).objs.size = s.heap.objs.size + 1:=Heap.size_push ..
 show _/\_
 rw [hz]
 have he:IsEnum ((s.heap.push { cls:=.type "tuple_iterator",data:=.fields #[.ref t,.int 0 0] }).push { cls:=.type "enumerate",data:=.fields #[.none,.bool false,.ref s.heap.objs.size,rawInt 0,.none,.none] }) (s.heap.objs.size + 1) s.heap.objs.size 0 .none:=by
  have z:=Heap.get?_push_size (s.heap.push { cls:=.type "tuple_iterator",data:=.fields #[.ref t,.int 0 0] }) (o:={ cls:=.type "enumerate",data:=.fields #[.none,.bool false,.ref s.heap.objs.size,rawInt 0,.none,.none] }) rfl
  rw [hz] at z
  exact z
 exact ⟨⟨_,he,rfl⟩,h _ he ⟨_,Heap.get?_push_of_some _ (Heap.get?_push_size _ rfl),rfl,rfl⟩ fun b o x=>Heap.get?_push_of_some _ (Heap.get?_push_of_some _ x)⟩
theorem Q3 {v d:Addr} {Q:Bool->Shared->Prop} (hv:s.heap.IsValuesView v d) (q:Q false s):wpAny (model P w) A (Builtin.List.listLengthHint (.ref v)) Q E s:=by
 unfold Builtin.List.listLengthHint
 refine wpAny_bind (wpAny_specialOf hv.typeIs F.slot_dict_values_len.lookup ?_)
 generalize hid:("dict_values.__len__" : String) = id0
 wp_delta
 rw [show splitId id0 = some ("dict_values","__len__") from by subst hid;decide +kernel]
 subst hid
 refine wpAny_bind (wpAny_isInstance (T:="dict_values") (b:=true) hv.typeIs (by rw [isSubtype_type];kernel_rfl) ?_)
 refine wpAny_ite_split (fun z=>absurd z (by decide)) (fun _=>?_)
 refine wpAny_ite_split (fun _=>?_) (fun z=>absurd (by decide +kernel) z)
 exact wpAny_bind (wpAny_typeOf hv.typeIs (wpAny_pure q))
theorem Sf {K:Type} [DecidableEq K] {knd:KeyKind P w K} {R:Result->Shared->Prop} {v d S:Addr} {kvs:List (K × Value)} {ep c0:Nat} {res:Value} (hh:A.handled = none) (hv:s.heap.IsValuesView v d) (hm:s.heap.DictAt knd d kvs ep) (hn:kvs.length<=sizeLine)
  (hS:s.heap.get? S = some { cls:=.type "list",data:=.seq #[] c0 })
  (q:∀ h' tk acc c,(∀ b o,b ≠ S->s.heap.get? b = some o->h'.get? b = some o)->h'.get? S = some { cls:=.type "list",dict:=none,data:=.seq acc c,slots:=#[] }->ItemsOf (fun i x=>∃ k,kvs[i]? = some (k,x)) acc kvs.length->R (.ok (.ret res)) { s with heap:=h',toks:=tk }) :
  wpAny (model P w) A.in1 (Builtin.List.listExtendWith (.ref S) (.ref v) res) (fun fin s'=>match fin with | .done f=>R (.ok f) s' | .again c'=>c'.quiet = true/\codeAny (model P w) A c' R s') (fun e s'=>R (.error e) s') s:=by
 obtain ⟨ov,hov,cv,dv⟩:=id hv
 have hSv:S ≠ v:=fun e=>by
  rw [e,hov] at hS
  have z:=Option.some.inj hS
  rw [z] at cv
  exact absurd (show Value.type "list" = .type "dict_values" from cv) (by decide)
 have hlt:S < s.heap.objs.size:=Heap.lt_size hS
 have hSd:S ≠ d:=fun e=>by
  obtain ⟨o,es,ho,hx,hdt,_⟩:=id hm
  rw [e,ho] at hS
  have z:=Option.some.inj hS
  rw [z] at hdt
  cases hdt
 have hdl:d < s.heap.objs.size:=by
  obtain ⟨o,es,ho,_⟩:=id hm
  exact Heap.lt_size ho
 have hSf:S ∉ [s.heap.objs.size,d]:=by
  intro hz
  simp only [List.mem_cons,List.not_mem_nil,or_false] at hz
  rcases hz with z | z
  ·exact absurd hlt (by rw [z];exact Nat.lt_irrefl _)
  ·exact hSd z
 have W:=(Walks.dictValues (prog:=P) (w:=w) (A:=A.in1) (knd:=knd) hh s.heap.objs.size d (Nat.ne_of_lt hdl) kvs ep).toS
 unfold Builtin.List.listExtendWith
 refine wpAny_bind (wpAny_typeOf hv.typeIs ?_)
 have h1:Builtin.List.listSameRef (.ref S) (.ref v) = false:=by simp [Builtin.List.listSameRef,hSv]
 have h2:(Value.type "dict_values" == Value.type "list") = false:=by decide
 have h3:(Value.type "dict_values" == Value.type "tuple") = false:=by decide
 simp only [h1,h2,h3,Bool.or_false,Bool.false_eq_true,if_false]
 refine wpAny_bind (wpAny_pyIter_values (knd:=knd) hv hm ?_)
 refine wpAny_bind (wpAny_holding (Q3 ⟨ov,Heap.get?_push_of_some _ hov,cv,dv⟩ ?_))
 have go:∀ (h:Heap) (c1 tk:Nat),h.IsValIter s.heap.objs.size d 0 kvs.length ep->h.DictAt knd d kvs ep->(∀ b o,b ≠ S->s.heap.get? b = some o->h.get? b = some o) →
   h.get? S = some { cls:=.type "list",data:=.seq #[] c1 }->codeAny (model P w) A (.builtin "list.extend.loop" ⟨[.ref S,.ref s.heap.objs.size,res],[]⟩) R { s with heap:=h,toks:=tk }:=by
  intro h c1 tk hi hd k hS1
  refine codeAny_extend_loopS W hn S hSf res kvs.length 0 _ #[] c1 rfl (Nat.zero_le _) ⟨hi,hd⟩ hS1 (ItemsOf.nil _) fun s' acc c m hS' ac=>?_
  rw [Moved.eq_with m]
  refine q s'.heap s'.toks acc c (fun b o hb e=>m.heap b o (fun z=>?_) (k b o hb e)) hS' ac
  rcases List.mem_cons.mp z with z | z
  ·exact hb z
  ·exact absurd (Heap.lt_size e) (by rw [List.mem_singleton.mp z];exact Nat.lt_irrefl _)
 have hI1:(s.heap.push { cls:=.type "dict_valueiterator",data:=.fields #[.ref d,.int 0 0,.int kvs.length 0,.int ep 0] }).IsValIter s.heap.objs.size d 0 kvs.length ep:=⟨_,Heap.get?_push_size _ rfl,rfl,rfl⟩
 have hS1:=Heap.get?_push_of_some { cls:=.type "dict_valueiterator",data:=.fields #[.ref d,.int 0 0,.int kvs.length 0,.int ep 0] } hS
 have hSI:S ≠ s.heap.objs.size:=Nat.ne_of_lt hlt
 refine wpAny_ite_split (fun _=>?_) (fun _=>wpAny_pure ⟨plainId_quiet F.plain_extend_loop _,go _ c0 _ hI1 (hm.push _) (fun b o _ e=>Heap.get?_push_of_some _ e) hS1⟩)
 refine wpAny_bind (wpAny_rule (wpAny_bind ?_))
 show wpAny _ _ (updateSeq S (fun a=>a.push .none) >>= fun _=>updateSeq S (fun a=>a.pop)) _ _ _
 refine wpAny_bind (wpAny_updateSeq hS1 rfl ?_)
 have hS2:=Heap.get?_update_self (Obj.mapSeq (fun a=>a.push Value.none)) hS1 rfl
 refine wpAny_updateSeq (hz:=by seq_fits) hS2 rfl ?_
 have hS3:=Heap.get?_update_self (Obj.mapSeq (fun a=>a.pop)) hS2 rfl
 have oth:∀ b,b ≠ S->(((s.heap.push { cls:=.type "dict_valueiterator",data:=.fields #[.ref d,.int 0 0,.int kvs.length 0,.int ep 0] }).update S (Obj.mapSeq (fun a=>a.push Value.none))).update S (Obj.mapSeq (fun a=>a.pop))).get? b = (s.heap.push { cls:=.type "dict_valueiterator",data:=.fields #[.ref d,.int 0 0,.int kvs.length 0,.int ep 0] }).get? b :=
  fun b hb=>(Heap.get?_update_other _ _ (Ne.symm hb)).trans (Heap.get?_update_other _ _ (Ne.symm hb))
 exact wpAny_pure ⟨plainId_quiet F.plain_extend_loop _,go _ _ _ (hI1.at fun o e=>(oth _ (Ne.symm hSI)).trans e) ((hm.push _).at' fun o e=>(oth _ (Ne.symm hSd)).trans e) (fun b o hb e=>(oth b hb).trans (Heap.get?_push_of_some _ e)) hS3⟩
theorem Q4 {K:Type} [DecidableEq K] {knd:KeyKind P w K} {Q:Value->Shared->Prop} {v d:Addr} {kvs:List (K × Value)} {ep:Nat} (hh:A.handled = none) (hv:s.heap.IsValuesView v d) (hm:s.heap.DictAt knd d kvs ep) (hn:kvs.length<=sizeLine)
  (q:∀ h' tk acc c,(∀ b o,s.heap.get? b = some o->h'.get? b = some o)->h'.get? s.heap.objs.size = some { cls:=.type "list",dict:=none,data:=.seq acc c,slots:=#[] }->ItemsOf (fun i x=>∃ k,kvs[i]? = some (k,x)) acc kvs.length->Q (.ref s.heap.objs.size) { s with heap:=h',toks:=tk }) :
  wpAny (model P w) A (call (.type "list") [.ref v]) Q E s:=by
 refine callType_codes (Q₁:=fun obj s1=>obj = .ref s.heap.objs.size/\s1 = { s with heap:=s.heap.push { cls:=.type "list",data:=.seq #[] } }) F.called_list (F.typeCall_list_1 _) F.entry_list_init (code_list_new _ ⟨rfl,rfl⟩) fun obj s1 hs1=>?_
 obtain ⟨rfl,rfl⟩:=hs1
 obtain ⟨ov,hov,cv,dv⟩:=id hv
 have hS:(s.heap.push { cls:=.type "list",data:=.seq #[] }).get? s.heap.objs.size = some { cls:=.type "list",data:=.seq #[] }:=Heap.get?_push_size _ rfl
 refine ⟨⟨_,hS,rfl⟩,F.args_list_init_2 _ _,?_⟩
 show wpAny _ _ (do let old ←Builtin.List.listItems (.ref s.heap.objs.size);Builtin.List.listUpdate (.ref s.heap.objs.size) (fun _=>#[]);letGo old.toList.reverse;Builtin.List.listExtendWith (.ref s.heap.objs.size) (.ref v) .none) _ _ _
 refine wpAny_bind ?_
 unfold Builtin.List.listItems
 refine wpAny_bind (wpAny_seqItems hS rfl (wpAny_pure ?_))
 show wpAny _ _ (updateSeq s.heap.objs.size (fun _=>#[]) >>= fun _=>letGo (#[]:Array Value).toList.reverse >>= fun _=>Builtin.List.listExtendWith (.ref s.heap.objs.size) (.ref v) .none) _ _ _
 refine wpAny_bind (wpAny_updateSeq hS rfl ?_)
 have hS2:=Heap.get?_update_self (Obj.mapSeq (fun _=>(#[]:Array Value))) hS rfl
 have oth:∀ b o,s.heap.get? b = some o->((s.heap.push { cls:=.type "list",data:=.seq #[] }).update s.heap.objs.size (Obj.mapSeq (fun _=>(#[]:Array Value)))).get? b = some o :=
  fun b o e=>(Heap.get?_update_other _ _ (Nat.ne_of_gt (Heap.lt_size e))).trans (Heap.get?_push_of_some _ e)
 refine wpAny_bind (wpAny_letGo ?_)
 refine Sf (A:=A.in1) (knd:=knd) hh ⟨ov,oth _ _ hov,cv,dv⟩ (hm.at' fun o e=>oth _ _ e) hn hS2 fun h' tk acc c k hS' ac=>?_
 exact ⟨rfl,q h' tk acc c (fun b o e=>k b o (Nat.ne_of_lt (Heap.lt_size e)) (oth b o e)) hS' ac⟩
end
end Xc
namespace L2
open PySem PySem.Spec PyProof.Rows
theorem Jn:bootBuiltins "list" = some (.type "list"):=by decide +kernel
theorem CK {α β:Type} {F:α->β->Prop}:∀ {l:List α} {m:List β},Paired F l m->∀ {j:Nat} {b:β},m[j]? = some b->∃ a,l[j]? = some a/\F a b
 | _,_,.nil,j,b,e=>by simp at e
 | _,_,.cons r rs,0,b,e=>by cases e;exact ⟨_,rfl,r⟩
 | _,_,.cons r rs,j + 1,b,e=>CK rs (j:=j) e
theorem Jo {acc:Array Value} {ys:List V} (hl:acc.size = ys.length) (h:∀ (j:Nat) (v:Value),acc[j]? = some v->∃ y,ys[j]? = some y/\RelV y v):Vals ys acc.toList:=by
 obtain ⟨l⟩:=acc
 have hl:l.length = ys.length:=hl
 have h:∀ (j:Nat) (v:Value),l[j]? = some v->∃ y,ys[j]? = some y/\RelV y v:=fun j v e=>h j v (by simpa using e)
 show Vals ys l
 induction l generalizing ys with
 | nil=>cases ys with
  | nil=>exact .nil
  | cons _ _=>cases hl
 | cons a l ih=>cases ys with
  | nil=>cases hl
  | cons y ys =>
   obtain ⟨y',e,r⟩:=h 0 a rfl
   cases e
   exact .cons r (ih (by simpa using hl) (fun j v e=>h (j + 1) v (by simpa using e)) (by simpa using hl) fun j v e=>h (j + 1) v (by simpa using e))
section
variable {X:Cx}
noncomputable def S8 (td:TE):TE:=fun σ H Q=>td σ H fun x H1=>∃ d kvs,x = .ref d/\H1 d = some (.dK kvs)/\∀ l,H1 l = none->Q (.ref l) (upd H1 l (.lst (kvs.map (·.2))))
theorem FK {e:Expr} {td:TE} {apos cpos p pos:Pos} (hc:X.calm = true) (hg:Gl X "list") (hml:X.mg "list" = none) (he:PE X e td) (hbase:attributeBase e "values" X.env (eval e X.env) = eval e X.env:=by rfl) (hline:(apos.endLine == cpos.line) = true:=by rfl)
  (hs:starEach [Expr.Call (.Attribute e "values" apos) [] [] cpos] X.env = [(false,eval (.Call (.Attribute e "values" apos) [] [] cpos) X.env)]:=by rfl):PE X (.Call (.Name "list" p) [.Call (.Attribute e "values" apos) [] [] cpos] [] pos) (S8 td):=by
 intro pins s σ H Q I h
 refine wpAny_Call_Name_kw (qi I hg hml Jn ?_)
 refine PyProof.Rows.callWith_type1 ?_ hs rfl
 rw [hs]
 show wpAny _ _ (spliced [(false,eval (.Call (.Attribute e "values" apos) [] [] cpos) X.env)]) _ _ s
 refine Calls.spliced_cons ?_
 refine wpAny_Call_method (T:="dict") (id:="dict.values") hbase rfl hline F.plainAttrs_dict F.slot_dict_values F.type_dict_values (d9 (he pins s σ H _ I h) fun u s1 ⟨x,H1,I1,rx,d,kvs,ex,hd,q⟩=>?_)
 subst ex
 obtain rfl:u = Value.ref d:=rx
 obtain ⟨z,hsm,vs,kv,hD⟩:=I1.bL d _ hd
 obtain ⟨o,es,ep,ho,hx,hdt,rr⟩:=id hD
 have hl:kvs.length = vs.length:=Paired.length kv
 refine ⟨hD.typeIs,hD.mapOf.noDict,?_⟩
 show wpAny _ _ (callWith cpos (.builtin "dict.values") [.ref d] [] []) _ X.xe s1
 refine method_meetsIn F.slot_dict_values F.entry_dict_values rfl (PySem.evalArgs_none ⟨rfl,hD.typeIs,F.args_dict_values_1 _,_,meets_dict_values (eE X.prog X.w) d hsm,⟨vs,hD⟩,?_⟩)
 refine wpAny_pure ?_
 have hAt:(s1.heap.push { cls:=.type "dict_values",data:=.fields #[.ref d] }).DictAt (eE X.prog X.w) d vs ep:=⟨o,es,Heap.get?_push_of_some _ ho,hx,hdt,rr⟩
 refine Xc.Q4 (knd:=eE X.prog X.w) (s:={ s1 with heap:=s1.heap.push { cls:=.type "dict_values",data:=.fields #[.ref d] } }) (I1.ok.hd hc) ⟨_,Heap.get?_push_size _ rfl,rfl,rfl⟩ hAt (by omega) fun h' tk acc c k hS ac=>?_
 have hle:s1.heap.objs.size<=(s1.heap.push { cls:=.type "dict_values",data:=.fields #[.ref d] }).objs.size:=by rw [Heap.size_push];exact Nat.le_succ _
 refine ⟨.ref _,_,I1.laid (t':=tk) (o:=.lst (kvs.map (·.2))) (fun b u e=>k b u (Heap.get?_push_of_some _ e)) hle ⟨by rw [List.length_map];exact z,acc.toList,c,?_,by simpa using hS⟩,rfl,q _ (I1.bL.fresh hle)⟩
 refine Jo (by rw [ac.1,List.length_map,hl]) fun j v e=>?_
 obtain ⟨kk,e2⟩:=ac.2 j v e
 obtain ⟨p,hp,r1,r2⟩:=CK kv e2
 exact ⟨p.2,by rw [List.getElem?_map,hp];rfl,r2⟩
end
end L2
namespace L2
open PySem PySem.Spec PyProof.Rows
theorem Jp {J:It} {n:Nat} {g:TG} {tb:TS} {D:Ends} {σ:St} {H:Hp} (Pv:Nat->St->Hp->Prop) (h0:Pv 0 σ H) (hg:∀ i σ H,i < n->Pv i σ H->J.go i H) (hp:∀ σ H,Pv n σ H->J.stop n H)
  (hs:∀ i σ H x H',i < n->Pv i σ H->J.Mu i H x H'->g x σ H' fun σ2 H2=>tb { D with nx:=Pv (i + 1),ct:=Pv (i + 1),bk:=D.nx } σ2 H2) (hd:∀ σ H,Pv n σ H->D.nx σ H) :
  ∃ W:Nat->Nat->St->Hp->Prop,(∃ m,W 0 m σ H)/\∀ i m σ H,W i m σ H →
   (J.stop i H/\D.nx σ H)\/(J.go i H/\∃ N:St->Hp->Prop,(∀ σ' H',N σ' H'->∃ m',m' < m/\W (i + 1) m' σ' H')/\∀ x H',J.Mu i H x H'->g x σ H' fun σ2 H2=>tb { D with nx:=N,ct:=N,bk:=D.nx } σ2 H2):=by
 refine ⟨fun i m σ H=>m = n - i/\i<=n/\Pv i σ H,⟨n,by simp,Nat.zero_le _,h0⟩,?_⟩
 rintro i m σ H ⟨rfl,hi,p⟩
 by_cases hlt:i < n
 ·exact .inr ⟨hg i σ H hlt p,Pv (i + 1),fun σ' H' p'=>⟨n - (i + 1),by omega,rfl,hlt,p'⟩,fun x H' y=>hs i σ H x H' hlt p y⟩
 ·have e:i = n:=by omega
  subst e
  exact .inl ⟨hp σ H p,hd σ H p⟩
theorem Ph {J:It} {n:Nat} {g:TG} {tt:TT} {te:TE} {vs:List Nat} {σ:St} {H1:Hp} {D:Addr} {Qd:Hp->Prop} (Pv:Nat->Hp->Prop) (h0:Pv 0 (upd H1 D (.lst []))) (hg:∀ i H,i < n->Pv i H->J.go i H) (hp:∀ H,Pv n H->J.stop n H)
  (hs:∀ i H x H',i < n->Pv i H->J.Mu i H x H'->g x (wipe σ vs) H' fun σ2 H2=>wipe σ2 vs = wipe σ vs/\tt σ2 H2 fun b H3 =>
   if b = true then te σ2 H3 fun y H4=>∃ acc,H4 D = some (.lst acc)/\acc.length < sizeLine/\Pv (i + 1) (upd H4 D (.lst (acc ++ [y]))) else Pv (i + 1) H3) (hd:∀ H,Pv n H->Qd H) :
  ∃ W:Nat->Nat->Hp->Prop,(∃ m,W 0 m (upd H1 D (.lst [])))/\∀ i m H,W i m H →
   (J.stop i H/\Qd H)\/(J.go i H/\∃ Nx:Hp->Prop,(∀ H',Nx H'->∃ m',m' < m/\W (i + 1) m' H')/\∀ x H',J.Mu i H x H'->g x (wipe σ vs) H' fun σ2 H2=>wipe σ2 vs = wipe σ vs/\tt σ2 H2 fun b H3 =>
    if b = true then te σ2 H3 fun y H4=>∃ acc,H4 D = some (.lst acc)/\acc.length < sizeLine/\Nx (upd H4 D (.lst (acc ++ [y]))) else Nx H3):=by
 refine ⟨fun i m H=>m = n - i/\i<=n/\Pv i H,⟨n,by simp,Nat.zero_le _,h0⟩,?_⟩
 rintro i m H ⟨rfl,hi,p⟩
 by_cases hlt:i < n
 ·exact .inr ⟨hg i H hlt p,Pv (i + 1),fun H' p'=>⟨n - (i + 1),by omega,rfl,hlt,p'⟩,fun x H' y=>hs i H x H' hlt p y⟩
 ·have e:i = n:=by omega
  subst e
  exact .inl ⟨hp H p,hd H p⟩
noncomputable def Q5 (K:PySem.W.Frag) (a:Addr):It :=
 ⟨fun i H=>∃ (xs:List V) (x:V),yD K H a xs/\xs[i]? = some x,fun i H v H'=>∃ T x,v = .ref T/\H T = none/\H' = upd H T (.tup [.int (i:Nat),x])/\∀ xs,yD K H a xs->xs[i]? = some x,fun i H=>∃ xs:List V,yD K H a xs/\xs.length<=i⟩
theorem HL {P:Program} {w:World} {K:PySem.W.Frag} {elts:List Expr} {kk:Nat} {tpos:Pos} (a e it:Addr) :
  Turn P w K (.Tuple elts kk tpos) (Q5 K a) [e,it] e (fun i h=>(∃ old,IsEnum h e it ((i:Nat):Int) old)/\h.IsTupleIter it a i/\e ≠ it/\e ≠ a/\a ≠ it) where
 mem:=by simp
 obj:=fun i h st b hb=>by
  obtain ⟨⟨old,he⟩,⟨o,ho,oc,od⟩,_⟩:=st
  have z:b = e\/b = it:=by simpa using hb
  rcases z with rfl | rfl
  ·exact ⟨_,he,fun v q=>nomatch q⟩
  ·exact ⟨o,ho,fun v q=>by rw [od] at q;cases q⟩
 keep:=fun i h h' st k=>let ⟨⟨old,he⟩,⟨o,ho,r⟩,ns⟩:=st;⟨⟨old,k e (by simp) _ he⟩,⟨o,k it (by simp) _ ho,r⟩,ns⟩
 item:=by
  intro X hP hw hK hc i pins s σ H E I hf st hg
  subst hP hw hK
  obtain ⟨⟨old,he⟩,hit,n1,n2,n3⟩:=st
  obtain ⟨xs,x,hq,hx⟩:=hg
  obtain ⟨its,rv,p,hz⟩:=I.tuple hq
  obtain ⟨u,hu,ru⟩:=rv.get hx
  have hel:e < s.heap.objs.size:=Heap.lt_size he
  have hil:it < s.heap.objs.size:=by obtain ⟨_,q,_⟩:=hit;exact Heap.lt_size q
  have hlt:i < its.toArray.size:=by have:=(List.getElem?_eq_some_iff.mp hu).1;simpa using this
  have D:=Xc.Pg (P:=X.prog) (w:=X.w) (A:=X.A.in1) (I.ok.hd hc) it a n3 its.toArray
  refine wpAny_pyNext_enum_itemD D he ⟨hit,(show s.heap.IsTuple a its.toArray from p)⟩ hlt n1 (by simp [n1,n2]) fun x' h' tk hx' ho hst hT hsz hk=>?_
  have ex:x' = u:=by
   have:its.toArray[i]? = some x':=hx'
   rw [List.getElem?_toArray,hu] at this
   exact (Option.some.inj this).symm
  subst ex
  refine ⟨_,rfl,wpAny_letOwnedTupleGo_enum (s:={ s with heap:=h',toks:=tk + 1 }) ho fun h'' he' sb=>?_⟩
  have hT2:h''.get? s.heap.objs.size = some { cls:=.type "tuple",data:=.seq #[.int i tk,x'] }:=(sb.2 _ (Nat.ne_of_gt hel)).trans hT
  have new:d8 X.prog X.w (upd H s.heap.objs.size (.tup [.int (i:Nat),x])) h'' s.heap.objs.size (.tup [.int (i:Nat),x]) :=
   ⟨by show 2<=sizeLine;decide,[.int i tk,x'],.cons ⟨_,rfl⟩ (.cons ru .nil),⟨_,hT2,rfl,_,rfl⟩⟩
  have I1:Inv X pins σ (upd H s.heap.objs.size (.tup [.int (i:Nat),x])) { s with heap:=h'',toks:=tk + 1 } :=
   I.CD (ch:=[e,it]) (fun b ob hb q=>(sb.2 b (fun z=>hb (by simp [z]))).trans (hk b ob (fun z=>hb (by simp [z])) (fun z=>hb (by simp [z])) q)) hf (Nat.le_refl _) new
  refine ⟨.ref s.heap.objs.size,_,I1,rfl,⟨_,x,rfl,I.bL.fresh (Nat.le_refl _),rfl,fun ys hy=>by rw [I.JO hy hq];exact hx⟩,⟨⟨x',?_⟩,hst.1.extBut sb.extBut (Ne.symm n1),n1,n2,n3⟩,fun b hb=>?_⟩
  ·rw [show ((i + 1:Nat):Int) = (i:Int) + 1 by omega];exact he'
  ·have hb':b < s.heap.objs.size:=by
    have z:b = e\/b = it:=by simpa using hb
    rcases z with rfl | rfl
    ·exact hel
    ·exact hil
   rw [ai (Nat.ne_of_lt hb')]
   exact (hf b hb).1
 done:=by
  intro X hP hw hK hc i pins s σ H E I hf st hg
  subst hP hw hK
  obtain ⟨⟨old,he⟩,hit,n1,n2,n3⟩:=st
  obtain ⟨xs,hq,hx⟩:=hg
  obtain ⟨its,rv,p,hz⟩:=I.tuple hq
  obtain ⟨f0,f1,f2,f3,f4,f5⟩:=hf it (by simp)
  have hl:=rv.length
  unfold pyNext
  have hT:s.TypeIs (.ref e) "enumerate":=⟨_,he,rfl⟩
  refine wpAny_bind (wpAny_attempt (wpAny_callSpecial?_slot (name:=Str.ofString "__next__") hT F.slot_enumerate_next (wpAny_call_entry F.slot_enumerate_next hT F.entry_enumerate_next ?_ (F.args_enumerate_next_1 _))))
  show wpAny (model X.prog X.w) X.A.in1 (field (.ref e) 2 >>= _) _ _ _
  refine wpAny_bind (wpAny_field he rfl (x:=.ref it) rfl ?_)
  refine wpAny_bind (Xc.Q2 (I.ok.hd hc) hit (show s.heap.IsTuple a its.toArray from p) (by simp;omega) fun h' x eb hx'=>?_)
  obtain ⟨o,ho,oc⟩:=hx'
  refine wpAny_bind (wpAny_isInstance (T:="StopIteration") (b:=true) ⟨o,ho,oc⟩ isSubtype_stop ?_)
  exact wpAny_pure ⟨rfl,I.turned (t':=s.toks) (fun b o hb q=>eb b o hb q) f0 f1 f3 f4 f5⟩
 self:=fun A i s Q E st h=>let ⟨⟨_,he⟩,_⟩:=st;wpAny_pyIter_enum he h
noncomputable def Pj (K:PySem.W.Frag) (ta:TA):TI:=fun σ H R=>ta σ H fun vs H1=>∃ a xs,vs = [.ref a]/\yD K H1 a xs/\R (Q5 K a) H1
theorem LK {X:Cx} {e:Expr} {ta:TA} {p pos tpos:Pos} {elts:List Expr} {kk:Nat} (hg:Gl X "enumerate") (hm:X.mg "enumerate" = none) (ha:PA X [e] ta) (hs:starEach [e] X.env = [(false,eval e X.env)]:=by rfl) :
  PI X (.Tuple elts kk tpos) (.Call (.Name "enumerate" p) [e] [] pos) (Pj X.K ta):=by
 intro pins s σ H R I h
 refine Call_ (qi I hg hm boot_enumerate (PyProof.Rows.callWith_type1 (d9 (ha pos pins s σ H _ I h) fun us s1 ⟨vs,H1,I1,r1,q1⟩=>?_) hs rfl))
 obtain ⟨a,xs,ex,hq,q⟩:=q1
 subst ex
 cases r1 with
 | cons r rr =>
  cases rr
  cases r
  obtain ⟨its,rv,p',hz⟩:=I1.tuple hq
  have hal:a < s1.heap.objs.size:=p'.lt
  refine Xc.HK (show s1.heap.IsTuple a its.toArray from p') fun h' he hit hk=>wpAny_pyIter_enum he ?_
  have I2:Inv X pins σ H1 { s1 with heap:=h' }:=I1.kept (t':=s1.toks) hk
  refine ⟨s1.heap.objs.size + 1,[s1.heap.objs.size + 1,s1.heap.objs.size],_,_,H1,rfl,I2,HL a (s1.heap.objs.size + 1) s1.heap.objs.size,⟨⟨.none,he⟩,hit,Nat.succ_ne_self _,Nat.ne_of_gt (Nat.lt_succ_of_lt hal),Nat.ne_of_lt hal⟩,fun b hb=>?_,q⟩
  have hle:s1.heap.objs.size<=b:=by
   have z:b = s1.heap.objs.size + 1\/b = s1.heap.objs.size:=by simpa using hb
   rcases z with rfl | rfl
   ·exact Nat.le_succ _
   ·exact Nat.le_refl _
  exact I1.Ln hle (I1.bL.fresh hle)
section
variable {X:Cx}
noncomputable def Ap (n:Nat):List V:=(List.range n).map fun i=>V.int (i:Nat)
noncomputable def S9 (ta:TA):TE:=fun σ H Q=>ta σ H fun vs H1=>∃ n:Nat,vs = [.int n]/\n<=1000/\∀ l,H1 l = none->Q (.ref l) (upd H1 l (.lst (Ap n)))
theorem Dx {a:Expr} {ta:TA} {p1 p pos1 pos:Pos} (hc:X.calm = true) (hg:Gl X "list") (hml:X.mg "list" = none) (hgr:Gl X "range") (hmr:X.mg "range" = none) (ha:PA X [a] ta) (hs1:starEach [a] X.env = [(false,eval a X.env)]:=by rfl)
  (hs:starEach [Expr.Call (.Name "range" p1) [a] [] pos1] X.env = [(false,eval (.Call (.Name "range" p1) [a] [] pos1) X.env)]:=by rfl):PE X (.Call (.Name "list" p) [.Call (.Name "range" p1) [a] [] pos1] [] pos) (S9 ta):=by
 intro pins s σ H Q I h
 refine wpAny_Call_Name_kw (qi I hg hml Jn ?_)
 refine PyProof.Rows.callWith_type1 ?_ hs rfl
 rw [hs]
 show wpAny _ _ (spliced [(false,eval (.Call (.Name "range" p1) [a] [] pos1) X.env)]) _ _ s
 refine Calls.spliced_cons ?_
 refine Call_ (qi I hgr hmr boot_range (PyProof.Rows.callWith_type1 (d9 (ha pos1 pins s σ H _ I h) fun us s1 ⟨vs,H1,I1,r1,q1⟩=>?_) hs1 rfl))
 obtain ⟨n,ev,hn,q⟩:=q1
 subst ev
 cases r1 with
 | cons r rr =>
  cases rr
  obtain ⟨t,rfl⟩:=r
  refine call_range_1 (wpAny_pure ?_)
  have e2:Builtin.Range.rangeSize 0 (n:Int) 1 = n:=by rw [rangeSize_one];split <;> omega
  refine call_list_range (n:=n) (I1.ok.hd hc) (IsRange.new ..) (small_one (by omega) (by omega) (by omega) (by omega)) e2 (by omega) fun h' tk acc c k hS ac=>?_
  have hle:s1.heap.objs.size<=(s1.heap.push { cls:=.type "range",data:=.fields #[.int 0 s1.toks,.int (n:Nat) t,.int 1 (s1.toks + 1)] }).objs.size:=by rw [Heap.size_push];exact Nat.le_succ _
  refine ⟨.ref _,_,I1.laid (t':=tk) (o:=.lst (Ap n)) (fun b u e=>k b u (Heap.get?_push_of_some _ e)) hle ⟨?_,acc.toList,c,?_,by simpa using hS⟩,rfl,q _ (I1.bL.fresh hle)⟩
  ·unfold Ap;rw [List.length_map,List.length_range];exact Nat.le_trans hn (by decide)
  ·refine Jo (by unfold Ap;rw [ac.1,List.length_map,List.length_range]) fun j v e=>?_
   obtain ⟨t',ev⟩:=ac.2 j v e
   have hj:j < n:=by
    have:=(Array.getElem?_eq_some_iff.mp e).1
    rw [ac.1] at this;exact this
   refine ⟨.int (j:Nat),by unfold Ap;rw [List.getElem?_map,List.getElem?_range hj];rfl,t',?_⟩
   rw [ev]
   congr 1
   omega
end
end L2
namespace Pb
open Tilt
theorem CL:∀ {b:Bytes},(∀ (j:Nat) (c:UInt8),b[j]? = some c->c ≠ 10)->upTo b = none
 | [],_=>rfl
 | c :: r,h=>by
  have hc:c ≠ 10:=h 0 c rfl
  have hr:upTo r = none:=CL fun j x e=>h (j + 1) x (by simpa using e)
  show (if c = 10 then some ([],r) else (upTo r).map fun (x:Bytes × Bytes)=>(c :: x.1,x.2)) = none
  rw [if_neg hc,hr];rfl
theorem CM:∀ {b:Bytes} {i:Nat},(∀ (j:Nat) (c:UInt8),j < i->b[j]? = some c->c ≠ 10)->b[i]? = some 10->upTo b = some (b.take i,b.drop (i + 1))
 | [],_,_,h=>by simp at h
 | c :: r,0,_,h=>by
  have hc:c = 10:=by simpa using h
  show (if c = 10 then some ([],r) else (upTo r).map fun (x:Bytes × Bytes)=>(c :: x.1,x.2)) = _
  rw [if_pos hc];rfl
 | c :: r,i + 1,hb,h=>by
  have hc:c ≠ 10:=hb 0 c (Nat.succ_pos _) rfl
  have hr:upTo r = some (r.take i,r.drop (i + 1)):=CM (fun j x hj e=>hb (j + 1) x (Nat.succ_lt_succ hj) (by simpa using e)) (by simpa using h)
  show (if c = 10 then some ([],r) else (upTo r).map fun (x:Bytes × Bytes)=>(c :: x.1,x.2)) = _
  rw [if_neg hc,hr];rfl
noncomputable def jF (l:Bytes):Nat->Bool
 | 0=>true
 | i + 1=>l[i]? == some 32
theorem qp {g:Bool} {p:Nat} {c:UInt8} {r:Bytes}:badByte g p (c :: r) = if c < 32\/126 < c then some p else if c = 32 then (if g = true then some p else if r.isEmpty = true then some p else badByte true (p + 1) r) else badByte false (p + 1) r:=rfl
theorem zG {α:Type} {l:List α} {i:Nat} {c:α} (h:l[i]? = some c):l.drop i = c :: l.drop (i + 1):=by
 obtain ⟨hi,e⟩:=List.getElem?_eq_some_iff.mp h
 rw [List.drop_eq_getElem_cons hi,e]
theorem Dy {l:Bytes} {i:Nat} {c:UInt8} (h:l[i]? = some c):badByte (jF l i) i (l.drop i) =
  if c < 32\/126 < c then some i else if c = 32/\(jF l i = true\/i + 1 = l.length) then some i else badByte (jF l (i + 1)) (i + 1) (l.drop (i + 1)):=by
 have hi:i < l.length:=(List.getElem?_eq_some_iff.mp h).1
 rw [zG h,qp]
 by_cases h1:c < 32\/126 < c
 ·rw [if_pos h1,if_pos h1]
 ·rw [if_neg h1,if_neg h1]
  have hg:jF l (i + 1) = (l[i]? == some 32):=rfl
  by_cases h2:c = 32
  ·subst h2
   rw [if_pos rfl]
   have hg1:jF l (i + 1) = true:=by rw [hg,h];rfl
   by_cases h3:jF l i = true
   ·rw [if_pos h3,if_pos ⟨rfl,.inl h3⟩]
   ·rw [if_neg h3]
    by_cases h4:i + 1 = l.length
    ·rw [if_pos (show (l.drop (i + 1)).isEmpty = true by rw [List.isEmpty_iff,List.drop_eq_nil_iff];omega),if_pos (show (32:UInt8) = 32/\(jF l i = true\/i + 1 = l.length) from ⟨rfl,.inr h4⟩)]
    ·rw [if_neg (show ¬ (l.drop (i + 1)).isEmpty = true by rw [List.isEmpty_iff,List.drop_eq_nil_iff];omega),if_neg (show ¬ ((32:UInt8) = 32/\(jF l i = true\/i + 1 = l.length)) from fun q=>q.2.elim h3 h4),hg1]
  ·rw [if_neg h2,if_neg (by rintro ⟨q,_⟩;exact h2 q)]
   have hg1:jF l (i + 1) = false:=by rw [hg,h];exact beq_eq_false_iff_ne.mpr (fun q=>h2 (Option.some.inj q))
   rw [hg1]
theorem FL {l:Bytes} (h:l = []\/jF l l.length = false):badByte (jF l l.length) l.length (l.drop l.length) = none:=by
 rw [List.drop_length]
 rcases h with rfl | h
 ·rfl
 ·rw [h];rfl
theorem BA (l:Bytes):badByte true 0 l = badByte (jF l 0) 0 (l.drop 0):=rfl
theorem vE:∀ (l:Bytes) (g:Bool) (p:Nat),badByte g p l = none->∀ (n:Nat),l.length = n + 1->l[n]? ≠ some 32
 | [],_,_,_,n,hn=>by simp at hn
 | c :: r,g,p,h,n,hn=>by
  rw [qp] at h
  by_cases h1:c < 32\/126 < c
  ·rw [if_pos h1] at h;cases h
  rw [if_neg h1] at h
  cases r with
  | nil =>
   have e:n = 0:=by simp at hn;omega
   subst e
   by_cases h2:c = 32
   ·rw [if_pos h2] at h
    by_cases h3:g = true
    ·rw [if_pos h3] at h;cases h
    ·rw [if_neg h3,if_pos (show ([]:Bytes).isEmpty = true from rfl)] at h;cases h
   ·intro q;exact h2 (Option.some.inj q)
  | cons d r =>
   have hn':(d :: r).length = r.length + 1:=rfl
   have e:n = r.length + 1:=by simp at hn;omega
   subst e
   have goal:∀ (g':Bool),badByte g' (p + 1) (d :: r) = none->(c :: d :: r)[r.length + 1]? ≠ some 32:=fun g' h'=>vE (d :: r) g' (p + 1) h' r.length hn'
   by_cases h2:c = 32
   ·rw [if_pos h2] at h
    by_cases h3:g = true
    ·rw [if_pos h3] at h;cases h
    ·rw [if_neg h3,if_neg (by simp)] at h;exact goal _ h
   ·rw [if_neg h2] at h;exact goal _ h
theorem nq {p:Nat} {w:Bytes} {c:UInt8} {r:Bytes}:wordsFrom p w (c :: r) = if c = 32 then ⟨w,p - w.length⟩ :: wordsFrom (p + 1) [] r else wordsFrom (p + 1) (w ++ [c]) r:=rfl
structure Cut (p:Nat) (l:Bytes) (i f:Nat) (ws:List Word):Prop where
 le:f<=i
 at_:f = 0\/l[f - 1]? = some 32
 eq:wordsFrom p [] l = ws ++ wordsFrom (p + i) ((l.take i).drop f) (l.drop i)
theorem Cut.start (p:Nat) (l:Bytes):Cut p l 0 0 []:=⟨Nat.le_refl _,.inl rfl,rfl⟩
theorem Jq {l:Bytes} {i f:Nat} (hi:i<=l.length) (hf:f<=i):((l.take i).drop f).length = i - f:=by
 rw [List.length_drop,List.length_take,Nat.min_eq_left hi]
theorem Cut.blank {p:Nat} {l:Bytes} {i f:Nat} {ws:List Word} (x:Cut p l i f ws) (h:l[i]? = some 32):Cut p l (i + 1) (i + 1) (ws ++ [⟨(l.take i).drop f,p + f⟩]):=by
 have hi:i < l.length:=(List.getElem?_eq_some_iff.mp h).1
 refine ⟨Nat.le_refl _,.inr h,?_⟩
 rw [x.eq,zG h,nq,if_pos rfl,Jq (Nat.le_of_lt hi) x.le,List.append_assoc]
 have e1:p + i - (i - f) = p + f:=by have:=x.le;omega
 have e2:(l.take (i + 1)).drop (i + 1) = []:=by rw [List.drop_eq_nil_iff,List.length_take];omega
 rw [e1,e2];rfl
theorem take_one {α:Type} {l:List α} {i:Nat} {c:α} (h:l[i]? = some c):l.take (i + 1) = l.take i ++ [c]:=by
 rw [List.take_add_one,h];rfl
theorem Cut.other {p:Nat} {l:Bytes} {i f:Nat} {ws:List Word} {c:UInt8} (x:Cut p l i f ws) (h:l[i]? = some c) (hc:c ≠ 32):Cut p l (i + 1) f ws:=by
 have hi:i < l.length:=(List.getElem?_eq_some_iff.mp h).1
 refine ⟨Nat.le_succ_of_le x.le,x.at_,?_⟩
 rw [x.eq,zG h,nq,if_neg hc,take_one h,List.drop_append_of_le_length (by rw [List.length_take,Nat.min_eq_left (Nat.le_of_lt hi)];exact x.le)]
 rfl
theorem Cut.fin {p:Nat} {l:Bytes} {f:Nat} {ws:List Word} (x:Cut p l l.length f ws) (h0:l ≠ []) (hb:badByte true 0 l = none):wordsFrom p [] l = ws ++ [⟨(l.take l.length).drop f,p + f⟩]:=by
 have hl:0 < l.length:=List.length_pos_iff.mpr h0
 obtain ⟨n,hn⟩:∃ n,l.length = n + 1:=⟨l.length - 1,by omega⟩
 have hlast:=vE l true 0 hb n hn
 have hf:f < l.length:=by
  rcases Nat.lt_or_eq_of_le x.le with h | h
  ·exact h
  ·rcases x.at_ with q | q
   ·omega
   ·exfalso;apply hlast;rw [←q];congr 1;omega
 have hw:=x.eq
 rw [List.drop_length] at hw
 have hlen:=Jq (l:=l) (Nat.le_refl _) x.le
 have hne:¬ ((l.take l.length).drop f).isEmpty = true:=by
  intro q
  rw [List.isEmpty_iff] at q
  rw [q] at hlen
  simp only [List.length_nil] at hlen
  omega
 rw [hw]
 congr 1
 show (if ((l.take l.length).drop f).isEmpty = true then [] else [(⟨(l.take l.length).drop f,p + l.length - ((l.take l.length).drop f).length⟩:Word)]) = _
 rw [if_neg hne,hlen]
 have e1:p + l.length - (l.length - f) = p + f:=by omega
 rw [e1]
theorem Dz {S:Type} {f:S->Line->Except Fault S} {k p:Nat} {s:S} {b:Bytes} (hb:b ≠ []):linesIn f (k + 1) p s b = match upTo b with
  | none=>.error ⟨1,p + b.length⟩
  | some (l,r)=>match badByte true 0 l with
   | some i=>.error ⟨2,p + i⟩
   | none=>match f s ⟨wordsFrom p [] l,p + l.length⟩ with
    | .error e=>.error e
    | .ok t=>linesIn f k (p + l.length + 1) t r:=by
 have h:¬ b.isEmpty = true:=fun q=>hb (List.isEmpty_iff.mp q)
 show (if b.isEmpty = true then Except.ok s else _) = _
 rw [if_neg h]
 rfl
theorem FN {S:Type} {f:S->Line->Except Fault S} {k p:Nat} {s:S}:linesIn f (k + 1) p s [] = .ok s:=rfl
end Pb
namespace Pb
open Tilt
structure uJ where
 ps:List (Bytes × Nat)
 hi:Int
structure Plan where
 coil:Nat
 pulse:Nat
 gE:List Nat
structure PT where
 rank:Int
 balls:Nat
 sw:uJ
 la:uJ
 co:uJ
 mo:List (Bytes × Nat)
 dn:List Bytes
 bt:List Plan
 held:List Bytes
 busy:List Bytes
 drained:Nat
 kicks:Nat
 tS:Int
noncomputable def PT.new:PT:=⟨-1,0,⟨[],-1⟩,⟨[],-1⟩,⟨[],-1⟩,[],[],[],[],[],0,0,-1⟩
abbrev EF:=Except Fault
noncomputable def rM (e:Nat):List Word->EF (Word × List Word)
 | []=>.error ⟨3,e⟩
 | w :: r=>if isName w.w = false then .error ⟨4,w.at_⟩ else .ok (w,r)
noncomputable def lz (e:Nat) (had:List Bytes) (bar:Bytes):List Word->EF (Bytes × List Word)
 | []=>.error ⟨3,e⟩
 | w :: r=>if isName w.w = false then .error ⟨4,w.at_⟩ else if w.w = bar then .error ⟨4,w.at_⟩ else if had.contains w.w = true then .error ⟨5,w.at_⟩ else .ok (w.w,r)
theorem ia {e:Nat} {had:List Bytes} {bar:Bytes} {w:Word} {r:List Word}:lz e had bar (w :: r) = if isName w.w = false then .error ⟨4,w.at_⟩ else if w.w = bar then .error ⟨4,w.at_⟩ else if had.contains w.w = true then .error ⟨5,w.at_⟩ else .ok (w.w,r):=rfl
noncomputable def bE (e:Nat) (s:Bytes):List Word->EF (List Word)
 | []=>.error ⟨3,e⟩
 | w :: r=>if w.w = s then .ok r else .error ⟨3,w.at_⟩
noncomputable def takeNum (e lo hi:Nat):List Word->EF ((Nat × Nat) × List Word)
 | []=>.error ⟨3,e⟩
 | w :: r=>match numberOf w.w with
  | none=>.error ⟨4,w.at_⟩
  | some n=>if n < lo\/hi < n then .error ⟨4,w.at_⟩ else .ok ((n,w.at_),r)
noncomputable def ei (e:Nat) (names:List Bytes):List Word->EF (Word × List Word)
 | []=>.error ⟨3,e⟩
 | w :: r=>if isName w.w = false then .error ⟨4,w.at_⟩ else if names.contains w.w = true then .ok (w,r) else .error ⟨6,w.at_⟩
theorem sZ (e:Nat) (s:String):∀ l:List Word,must e s l = bE e (ascii s) l
 | []=>rfl
 | w :: r=>by
  show (if w.w = ascii s then (pure r:EF (List Word)) else .error ⟨3,w.at_⟩) = _
  rfl
theorem nc (e lo hi:Nat):∀ l:List Word,number e lo hi l = takeNum e lo hi l
 | []=>rfl
 | w :: r=>rfl
theorem qr (e:Nat) (had:List Bytes):∀ l:List Word,newName e had l = lz e had [] l
 | []=>rfl
 | w :: r=>by
  show (if isName w.w = false then (.error ⟨4,w.at_⟩:EF (Bytes × List Word)) else if had.contains w.w = true then .error ⟨5,w.at_⟩ else pure (w.w,r)) = _
  rw [ia]
  by_cases h:isName w.w = false
  ·rw [if_pos h,if_pos h]
  ·rw [if_neg h,if_neg h,if_neg (show ¬ w.w = [] from fun q=>h (by rw [q];rfl))];rfl
theorem vF (e:Nat) (had:List Bytes) {bar:Bytes} (hb:isName bar = true):∀ l:List Word,(do let _ ←notCalled bar l;newName e had l) = lz e had bar l
 | []=>rfl
 | w :: r=>by
  show ((if (w.w != bar) = true then (.ok ():EF Unit) else .error ⟨4,w.at_⟩) >>= fun _=>newName e had (w :: r)) = _
  by_cases h:w.w = bar
  ·rw [if_neg (by rw [h];simp)]
   rw [ia]
   rw [if_neg (by rw [h,hb];simp),if_pos h];rfl
  ·rw [if_pos (by simpa using h)]
   show newName e had (w :: r) = _
   rw [qr,ia,ia]
   by_cases h2:isName w.w = false
   ·rw [if_pos h2,if_pos h2]
   ·rw [if_neg h2,if_neg h2,if_neg h,if_neg (show ¬ w.w = [] from fun q=>h2 (by rw [q];rfl))]
noncomputable def f7 {A B:Type} (R:A->B->Prop):EF A->EF B->Prop
 | .ok a,.ok b=>R a b
 | .error f,.error g=>f = g
 | _,_=>False
theorem f7.bind {A B C D:Type} {R:A->B->Prop} {S:C->D->Prop} {x:EF A} {y:EF B} {f:A->EF C} {g:B->EF D} (h:f7 R x y) (k:∀ a b,R a b->f7 S (f a) (g b)):f7 S (x >>= f) (y >>= g):=by
 cases x <;> cases y
 ·exact h
 ·exact h.elim
 ·exact h.elim
 ·exact k _ _ h
theorem f7.eq {A C D:Type} {S:C->D->Prop} {x:EF A} {f:A->EF C} {g:A->EF D} (k:∀ a,x = .ok a->f7 S (f a) (g a)):f7 S (x >>= f) (x >>= g):=by
 cases x
 ·exact rfl
 ·exact k _ rfl
structure i4 (l:List Nat) (hi:Int):Prop where
 iff:∀ x:Nat,(l.all fun p=>decide (p < x)) = decide (hi < (x:Int))
 len:(l.length:Int)<=hi + 1
theorem i4.nil:i4 [] (-1):=⟨fun x=>by simp;omega,by simp⟩
theorem i4.snoc {l:List Nat} {hi:Int} (t:i4 l hi) {x:Nat} (h:hi < (x:Int)):i4 (l ++ [x]) (x:Int):=by
 refine ⟨fun y=>?_,by have:=t.len;rw [List.length_append];simp;omega⟩
 rw [List.all_append]
 have hx:=t.iff x
 rw [decide_eq_true h,List.all_eq_true] at hx
 by_cases hy:x < y
 ·rw [show decide ((x:Int) < (y:Int)) = true from decide_eq_true (by omega)]
  have:(l.all fun p=>decide (p < y)) = true:=by
   rw [List.all_eq_true]
   intro p hp
   have:=hx p hp
   simp at this ⊢
   omega
  rw [this];simpa using hy
 ·rw [show decide ((x:Int) < (y:Int)) = false from decide_eq_false (by omega)]
  have:([x].all fun p=>decide (p < y)) = false:=by simpa using hy
  rw [this,Bool.and_false]
theorem i4.DA {l:List Nat} {hi:Int} (t:i4 l hi) {x:Nat} (h:hi < (x:Int)):x ∉ l:=fun hm=>by
 have hx:=t.iff x
 rw [decide_eq_true h,List.all_eq_true] at hx
 have:=hx x hm
 simp at this
noncomputable def ej (e most:Nat) (bar:Bytes) (ro:uJ) (l:List Word):EF ((Bytes × uJ) × List Word):=do
 let n ←lz e (ro.ps.map (·.1)) bar l
 let m ←bE e (ascii "at") n.2
 let x ←takeNum e 0 most m
 if (x.1.1:Int)<=ro.hi then .error ⟨5,x.1.2⟩ else .ok ((n.1,⟨ro.ps ++ [(n.1,x.1.1)],(x.1.1:Int)⟩),x.2)
theorem LM (e most:Nat) {pl:List Nat} {hi:Int} (t:i4 pl hi) (l:List Word):place e most pl l = (do
  let x ←takeNum e 0 most l
  if (x.1.1:Int)<=hi then .error ⟨5,x.1.2⟩ else .ok (x.1.1,x.2)):=by
 unfold place
 rw [nc]
 congr 1
 funext x
 rw [t.iff]
 by_cases h:(x.1.1:Int)<=hi
 ·rw [if_pos h,decide_eq_false (by omega)];rfl
 ·rw [if_neg h,decide_eq_true (by omega)];rfl
theorem nu {e:Nat} {had:List Bytes} {bar:Bytes} {l:List Word} {x:Bytes × List Word} (h:lz e had bar l = .ok x):isName x.1 = true/\x.1 ∉ had/\x.1 ≠ bar:=by
 cases l with
 | nil=>cases h
 | cons w r =>
  rw [ia] at h
  by_cases h1:isName w.w = false
  ·rw [if_pos h1] at h;cases h
  rw [if_neg h1] at h
  by_cases h2:w.w = bar
  ·rw [if_pos h2] at h;cases h
  rw [if_neg h2] at h
  by_cases h3:had.contains w.w = true
  ·rw [if_pos h3] at h;cases h
  rw [if_neg h3] at h
  cases h
  exact ⟨by simpa using h1,by simpa using h3,h2⟩
theorem HM {e lo hi:Nat} {l:List Word} {x:(Nat × Nat) × List Word} (h:takeNum e lo hi l = .ok x):lo<=x.1.1/\x.1.1<=hi:=by
 cases l with
 | nil=>cases h
 | cons w r =>
  unfold takeNum at h
  dsimp only at h
  cases q:numberOf w.w with
  | none=>rw [q] at h;cases h
  | some n =>
   rw [q] at h
   dsimp only at h
   by_cases h1:n < lo\/hi < n
   ·rw [if_pos h1] at h;cases h
   ·rw [if_neg h1] at h;cases h;dsimp only;omega
noncomputable def DB (most:Nat) (bar:Bytes) (ro:uJ) (n:Bytes) (p:Nat):Prop:=isName n = true/\n ∉ ro.ps.map (·.1)/\ro.hi < (p:Int)/\p<=most/\n ≠ bar
theorem wW {e most:Nat} {bar:Bytes} {ro:uJ} {had:List Bytes} {pl:List Nat} {l:List Word} (h1:ro.ps.map (·.1) = had) (t:i4 pl ro.hi) {C D:Type} {S:C->D->Prop} {f:(Bytes × uJ) × List Word->EF C}
  {g:Bytes × List Word->Nat × List Word->EF D} (k:∀ n p r r',DB most bar ro n p->f7 S (f ((n,⟨ro.ps ++ [(n,p)],(p:Int)⟩),r)) (g (n,r') (p,r))) :
  f7 S (ej e most bar ro l >>= f) (do
   let n ←lz e had bar l
   let m ←bE e (ascii "at") n.2
   let p ←place e most pl m
   g n p):=by
 unfold ej
 rw [h1]
 simp only [bind_assoc]
 refine f7.eq fun n hn=>f7.eq fun m hm=>?_
 rw [LM e most t]
 simp only [bind_assoc]
 refine f7.eq fun x hx=>?_
 by_cases h:(x.1.1:Int)<=ro.hi
 ·rw [if_pos h,if_pos h];exact rfl
 ·rw [if_neg h,if_neg h]
  obtain ⟨a1,a2,a3⟩:=nu hn
  exact k n.1 x.1.1 x.2 n.2 ⟨a1,by rw [h1];exact a2,by omega,(HM hx).2,a3⟩
theorem DC {names:List Bytes} {w:Bytes} (h:¬ names.contains w = true):(names.findIdx? fun n=>n == w) = none:=by
 rw [List.findIdx?_eq_none_iff]
 intro x hx
 have:x ≠ w:=fun q=>h (by rw [←q];simpa using hx)
 simpa using this
theorem DD {names:List Bytes} {w:Bytes} (h:names.contains w = true):∃ i,(names.findIdx? fun n=>n == w) = some i/\names[i]? = some w:=by
 have hm:w ∈ names:=by simpa using h
 cases q:names.findIdx? fun n=>n == w with
 | none =>
  rw [List.findIdx?_eq_none_iff] at q
  have:=q w hm
  simp at this
 | some i =>
  obtain ⟨hi,h1,_⟩:=List.findIdx?_eq_some_iff_getElem.mp q
  exact ⟨i,rfl,by rw [List.getElem?_eq_getElem hi];exact congrArg some (by simpa using h1)⟩
theorem pP {e:Nat} {names:List Bytes} {l:List Word} {C D:Type} {S:C->D->Prop} {f:Word × List Word->EF C} {g:(Nat × Nat) × List Word->EF D}
  (k:∀ w r i,l = w :: r->isName w.w = true->names[i]? = some w.w->f7 S (f (w,r)) (g ((i,w.at_),r))):f7 S (ei e names l >>= f) (known e names l >>= g):=by
 cases l with
 | nil=>exact rfl
 | cons w r =>
  show f7 S ((if isName w.w = false then .error ⟨4,w.at_⟩ else if names.contains w.w = true then .ok (w,r) else .error ⟨6,w.at_⟩:EF _) >>= f)
   ((if isName w.w = false then .error ⟨4,w.at_⟩ else match names.findIdx? fun (n:Bytes)=>n == w.w with
    | none=>.error ⟨6,w.at_⟩
    | some i=>pure ((i,w.at_),r):EF ((Nat × Nat) × List Word)) >>= g)
  by_cases h1:isName w.w = false
  ·rw [if_pos h1,if_pos h1];exact rfl
  ·rw [if_neg h1,if_neg h1]
   by_cases h2:names.contains w.w = true
   ·obtain ⟨i,e1,e2⟩:=DD h2
    rw [if_pos h2,e1]
    exact k w r i rfl (by simpa using h1) e2
   ·rw [if_neg h2,DC h2];exact rfl
abbrev Step:=Nat->PT->List Word->EF (PT × List Word)
noncomputable def ym:Step:=fun e pt l=>do
 let x ←rM e l
 let r ←bE e (ascii "balls") x.2
 let b ←takeNum e 1 8 r
 .ok ({ pt with balls:=b.1.1 },b.2)
noncomputable def vG:Step:=fun e pt l=>do
 let x ←ej e 63 DRAIN pt.sw l
 let r ←bE e (ascii "close") x.2
 let c ←takeNum e 1 31 r
 let r ←bE e (ascii "open") c.2
 let o ←takeNum e 1 31 r
 if o.2.isEmpty = true then .ok ({ pt with sw:=x.1.2 },[]) else do
  let r ←bE e (ascii "turned") o.2
  .ok ({ pt with sw:=x.1.2 },r)
noncomputable def FO:Step:=fun e pt l=>do
 let x ←ej e 63 LOOP pt.la l
 .ok ({ pt with la:=x.1.2 },x.2)
noncomputable def FP:Step:=fun e pt l=>do
 let x ←ej e 31 [] pt.co l
 let r ←bE e (ascii "most") x.2
 let m ←takeNum e 1 1023 r
 let r ←bE e (ascii "rest") m.2
 let t ←takeNum e 1 4095 r
 if t.2.isEmpty = true then .ok ({ pt with co:=x.1.2,mo:=pt.mo ++ [(x.1.1,m.1.1)] },[]) else do
  let r ←bE e (ascii "hold") t.2
  let h ←takeNum e 1 15 r
  .ok ({ pt with co:=x.1.2,mo:=pt.mo ++ [(x.1.1,m.1.1)] },h.2)
noncomputable def lS (e:Nat) (pt:PT) (l:List Word):EF ((Bytes × PT) × List Word):=do
 let x ←ei e (pt.co.ps.map (·.1)) l
 if pt.busy.contains x.1.w = true then .error ⟨7,x.1.at_⟩ else .ok ((x.1.w,{ pt with busy:=pt.busy ++ [x.1.w] }),x.2)
noncomputable def gM (e:Nat) (pt:PT) (l:List Word):EF ((Nat × PT) × List Word):=do
 let x ←ei e (pt.sw.ps.map (·.1)) l
 if pt.held.contains x.1.w = true then .error ⟨7,x.1.at_⟩ else .ok (((pt.sw.ps.lookup x.1.w).getD 0,{ pt with held:=pt.held ++ [x.1.w] }),x.2)
noncomputable def cS (e:Nat):Nat->PT->List Nat->List Word->EF ((List Nat × PT) × List Word)
 | 0,pt,sp,l=>.ok ((sp,pt),l)
 | _ + 1,pt,sp,[]=>.ok ((sp,pt),[])
 | k + 1,pt,sp,w :: r=>if w.w = DRAIN then .ok ((sp,pt),w :: r) else do
  let x ←gM e pt (w :: r)
  cS e k x.1.2 (sp ++ [x.1.1]) x.2
noncomputable def wX (e:Nat) (pt:PT) (sp:List Nat) (l:List Word):EF (PT × List Word):=if l.isEmpty = true then .ok (pt,[]) else do
 let r ←bE e DRAIN l
 .ok ({ pt with drained:=pt.drained + sp.length },r)
noncomputable def vH:Step:=fun e pt l=>do
 let n ←lz e pt.dn [] l
 let r ←bE e (ascii "by") n.2
 let c ←lS e { pt with dn:=pt.dn ++ [n.1] } r
 let r ←bE e (ascii "holds") c.2
 let s ←gM e c.1.2 r
 let h ←cS e 7 s.1.2 [s.1.1] s.2
 let d ←wX e h.1.2 h.1.1 h.2
 .ok ({ d.1 with bt:=d.1.bt ++ [⟨(d.1.co.ps.lookup c.1.1).getD 0,min 40 ((d.1.mo.lookup c.1.1).getD 0),h.1.1⟩] },d.2)
noncomputable def kG (e:Nat) (pt:PT) (l:List Word):EF ((Bytes × PT) × List Word):=do
 let x ←ei e (pt.sw.ps.map (·.1)) l
 if ((pt.sw.ps.lookup x.1.w).getD 0:Int)<=pt.tS then .error ⟨5,x.1.at_⟩ else
 if pt.held.contains x.1.w = true then .error ⟨7,x.1.at_⟩ else .ok ((x.1.w,{ pt with tS:=((pt.sw.ps.lookup x.1.w).getD 0:Nat) }),x.2)
noncomputable def LN (e:Nat) (pt:PT) (s:Bytes) (l:List Word):EF (PT × List Word):=if l.isEmpty = true then .ok ({ pt with kicks:=pt.kicks + 1 },[]) else do
 let r ←bE e (ascii "till") l
 let u ←ei e (pt.sw.ps.map (·.1)) r
 if u.1.w = s then .error ⟨7,u.1.at_⟩ else .ok ({ pt with kicks:=pt.kicks + 1 },u.2)
noncomputable def FQ:Step:=fun e pt l=>do
 let s ←kG e pt l
 let c ←lS e s.1.2 s.2
 let r ←bE e (ascii "for") c.2
 let t ←takeNum e 1 255 r
 if (c.1.2.mo.lookup c.1.1).getD 0 < t.1.1 then .error ⟨7,t.1.2⟩ else LN e c.1.2 s.1.1 t.2
noncomputable def je (pt:PT) (j:Nat):Bool:=if pt.rank = -1 then j == 0 else if j = 0\/(j:Int) < pt.rank then false else if j = 4 then decide (pt.bt.length < 8) else if j = 5 then decide (pt.kicks < 8) else true
noncomputable def bo (w:Bytes):Option Nat:=SORTS.findIdx? fun (n:String)=>ascii n == w
noncomputable def pQ (e:Nat) (pt:PT):List Word->EF (Nat × List Word)
 | []=>.error ⟨3,e⟩
 | w :: r=>match bo w.w with
  | none=>.error ⟨3,w.at_⟩
  | some j=>if je pt j = true then .ok (j,r) else .error ⟨3,w.at_⟩
noncomputable def reader:Nat->Step
 | 0=>ym
 | 1=>vG
 | 2=>FO
 | 3=>FP
 | 4=>vH
 | _=>FQ
noncomputable def Aq (pt:PT) (x:Line):EF PT:=do
 let j ←pQ x.end_ pt x.words
 let y ←reader j.1 x.end_ { pt with rank:=(j.1:Int) } j.2
 let _ ←closed y.2
 .ok y.1
end Pb
namespace Pb
open Tilt
theorem lookup_at:∀ {ps:List (Bytes × Nat)} {i:Nat} {w:Bytes} {p:Nat},(ps.map (·.1)).Nodup->ps[i]? = some (w,p)->ps.lookup w = some p
 | [],_,_,_,_,h=>by simp at h
 | (a,b) :: r,0,w,p,_,h=>by
  have e:(a,b) = (w,p):=by simpa using h
  cases e
  simp [List.lookup]
 | (a,b) :: r,i + 1,w,p,hn,h=>by
  have h':r[i]? = some (w,p):=by simpa using h
  have hm:w ∈ r.map (·.1):=List.mem_map.mpr ⟨(w,p),List.mem_of_getElem? h',rfl⟩
  have hne:w ≠ a:=fun q=>(List.nodup_cons.mp hn).1 (by rw [←q];exact hm)
  rw [List.lookup_cons,show (w == a) = false from by simpa using hne]
  exact lookup_at (List.nodup_cons.mp hn).2 h'
theorem lookup_mem:∀ {ps:List (Bytes × Nat)} {w:Bytes} {p:Nat},ps.lookup w = some p->(w,p) ∈ ps
 | [],_,_,h=>by simp at h
 | (a,b) :: r,w,p,h=>by
  rw [List.lookup_cons] at h
  by_cases q:w = a
  ·subst q;simp at h;subst h;exact List.mem_cons_self ..
  ·rw [show (w == a) = false from by simpa using q] at h;exact List.mem_cons_of_mem _ (lookup_mem h)
theorem DE:∀ {ps:List (Bytes × Nat)} {w v:Bytes} {p:Nat},(ps.map (·.2)).Nodup->(w,p) ∈ ps->(v,p) ∈ ps->w = v
 | [],_,_,_,_,h,_=>by simp at h
 | (a,b) :: r,w,v,p,hn,h1,h2=>by
  have hb:∀ x,(x,b) ∈ r->False:=fun x hx=>(List.nodup_cons.mp hn).1 (List.mem_map.mpr ⟨(x,b),hx,rfl⟩)
  rcases List.mem_cons.mp h1 with e1 | h1 <;> rcases List.mem_cons.mp h2 with e2 | h2
  ·cases e1;cases e2;rfl
  ·cases e1;exact (hb _ h2).elim
  ·cases e2;exact (hb _ h1).elim
  ·exact DE (List.nodup_cons.mp hn).2 h1 h2
noncomputable def Holds (ps:List (Bytes × Nat)) (ns:List Bytes) (pl:List Nat):Prop:=ns.map (fun n=>ps.lookup n) = pl.map some
theorem Holds.iff {ps:List (Bytes × Nat)} {ns:List Bytes} {pl:List Nat} (h:Holds ps ns pl) (hn:(ps.map (·.2)).Nodup) {w:Bytes} {p:Nat} (hw:ps.lookup w = some p):ns.contains w = pl.contains p:=by
 have h1:w ∈ ns->p ∈ pl:=fun hm=>by
  have:some p ∈ pl.map some:=by rw [←show ns.map (fun n=>ps.lookup n) = pl.map some from h];exact List.mem_map.mpr ⟨w,hm,hw⟩
  simpa using this
 have h2:p ∈ pl->w ∈ ns:=fun hm=>by
  have:some p ∈ ns.map (fun n=>ps.lookup n):=by rw [show ns.map (fun n=>ps.lookup n) = pl.map some from h];simpa using hm
  obtain ⟨v,hv,e⟩:=List.mem_map.mp this
  rw [DE hn (lookup_mem hw) (lookup_mem e)];exact hv
 rw [Bool.eq_iff_iff]
 simp only [List.contains_iff_mem]
 exact ⟨h1,h2⟩
theorem Holds.snoc {ps:List (Bytes × Nat)} {ns:List Bytes} {pl:List Nat} (h:Holds ps ns pl) {w:Bytes} {p:Nat} (hw:ps.lookup w = some p):Holds ps (ns ++ [w]) (pl ++ [p]):=by
 unfold Holds at *
 rw [List.map_append,List.map_append,h]
 simp [hw]
theorem Holds.nil {ps:List (Bytes × Nat)}:Holds ps [] []:=rfl
structure jT (pt:PT) (s:Nat) (T:Table):Prop where
 rank:pt.rank = (s:Int)
 balls:pt.balls = T.balls
 sw:pt.sw.ps = T.switches.map fun s=>(s.name,s.place)
 HN:i4 (T.switches.map (·.place)) pt.sw.hi
 Rw:pt.sw.hi<=63
 M0:(T.switches.map (·.name)).Nodup
 Kj:(T.switches.map (·.place)).Nodup
 LO:∀ s ∈ T.switches,isName s.name = true/\s.place<=63
 la:pt.la.ps.map (·.1) = T.lamps.map (·.name)
 Kk:i4 (T.lamps.map (·.place)) pt.la.hi
 Q6:pt.la.hi<=63
 Qh:∀ s ∈ T.lamps,isName s.name = true
 co:pt.co.ps = T.coils.map fun s=>(s.name,s.place)
 FR:i4 (T.coils.map (·.place)) pt.co.hi
 Q7:pt.co.hi<=31
 Pk:(T.coils.map (·.name)).Nodup
 Mw:(T.coils.map (·.place)).Nodup
 Pl:∀ s ∈ T.coils,isName s.name = true
 mo:pt.mo = T.coils.map fun s=>(s.name,s.most)
 dn:pt.dn = T.devices.map (·.name)
 Qi:∀ s ∈ T.devices,isName s.name = true
 M4:T.devices.length<=8
 Oj:∀ d ∈ T.devices,d.at_.length<=8/\∀ p ∈ d.at_,p<=63
 bt:pt.bt = T.devices.map fun d=>⟨d.coil,min 40 (((T.coilAt d.coil).map fun (c:Coil)=>c.most).getD 0),d.at_⟩
 held:Holds pt.sw.ps pt.held T.held
 busy:Holds pt.co.ps pt.busy (T.devices.map (·.coil) ++ T.kicks.map (·.coil))
 drained:pt.drained = T.room
 kicks:pt.kicks = T.kicks.length
 kL:T.kicks.length<=8
 tS:i4 (T.kicks.map (·.first)) pt.tS
 dv:s < 4->T.devices = []
 kv:s < 5->T.kicks = []
 Qj:(pt.la.ps.length:Int)<=pt.la.hi + 1
theorem jT.Rx {pt:PT} {s:Nat} {T:Table} (r:jT pt s T):pt.sw.ps.map (·.1) = T.switches.map (·.name):=by rw [r.sw,List.map_map];rfl
theorem jT.SS {pt:PT} {s:Nat} {T:Table} (r:jT pt s T):pt.sw.ps.map (·.2) = T.switches.map (·.place):=by rw [r.sw,List.map_map];rfl
theorem jT.Ry {pt:PT} {s:Nat} {T:Table} (r:jT pt s T):pt.co.ps.map (·.1) = T.coils.map (·.name):=by rw [r.co,List.map_map];rfl
theorem jT.SU {pt:PT} {s:Nat} {T:Table} (r:jT pt s T):pt.co.ps.map (·.2) = T.coils.map (·.place):=by rw [r.co,List.map_map];rfl
theorem f7.tU {A C D:Type} {S:C->D->Prop} {a:A} {f:A->EF C} {y:EF D} (h:f7 S (f a) y):f7 S ((.ok a:EF A) >>= f) y:=h
theorem f7.Ta {B C D:Type} {S:C->D->Prop} {b:B} {g:B->EF D} {x:EF C} (h:f7 S x (g b)):f7 S x ((.ok b:EF B) >>= g):=h
abbrev Out (s:Nat):PT->Table->Prop:=fun p T=>jT p s T
noncomputable def uK (x:EF (PT × List Word)):EF PT:=do
 let y ←x
 let _ ←closed y.2
 .ok y.1
theorem HP:isName DRAIN = true:=by decide +kernel
theorem Kl:isName LOOP = true:=by decide +kernel
theorem LP {e:Nat} {l:List Word}:f7 (Out 0) (uK (ym e { PT.new with rank:=0 } l)) (firstIn e l):=by
 unfold uK ym firstIn
 simp only [bind_assoc,sZ,nc]
 cases l with
 | nil=>exact rfl
 | cons w r =>
  rw [qr,ia]
  show f7 _ ((if isName w.w = false then .error ⟨4,w.at_⟩ else .ok (w,r):EF _) >>= _) _
  by_cases h1:isName w.w = false
  ·rw [if_pos h1,if_pos h1];exact rfl
  ·rw [if_neg h1,if_neg h1,if_neg (show ¬ w.w = [] from fun q=>h1 (by rw [q];rfl)),if_neg (by simp)]
   refine f7.tU (f7.Ta (f7.eq fun m hm=>f7.eq fun b hb=>f7.tU (f7.eq fun _ _=>?_)))
   show jT _ 0 _
   exact ⟨rfl,rfl,rfl,i4.nil,(by show (-1:Int)<=63;decide),.nil,.nil,(by intro s h;simp [noTable] at h),rfl,i4.nil,(by show (-1:Int)<=63;decide),(by intro s h;simp [noTable] at h),rfl,i4.nil,(by show (-1:Int)<=31;decide),.nil,.nil,(by intro s h;simp [noTable] at h),rfl,rfl,(by intro s h;simp [noTable] at h),(by simp [noTable]),(by intro s h;simp [noTable] at h),rfl,Holds.nil,Holds.nil,rfl,rfl,(by simp [noTable]),i4.nil,fun _=>rfl,fun _=>rfl,(by show ((0:Nat):Int)<=-1 + 1;decide)⟩
theorem jT.CN {pt:PT} {s:Nat} {T:Table} (r:jT pt s T) (hs:s<=1) {n:Bytes} {p c o:Nat} {tu:Bool} (h:DB 63 DRAIN pt.sw n p) :
  jT { pt with rank:=1,sw:=⟨pt.sw.ps ++ [(n,p)],(p:Int)⟩ } 1 { T with switches:=T.switches ++ [⟨p,c,o,tu,n⟩] }:=by
 obtain ⟨h1,h2,h3,h4,h5⟩:=h
 have hd:T.devices = []:=r.dv (by omega)
 have hk:T.kicks = []:=r.kv (by omega)
 have hh:pt.held = []:=by
  have:=r.held
  unfold Holds Table.held at this
  rw [hd] at this
  simpa using this
 have hkeys:=r.Rx
 refine ⟨rfl,r.balls,?_,?_,?_,?_,?_,?_,r.la,r.Kk,r.Q6,r.Qh,r.co,r.FR,r.Q7,r.Pk,r.Mw,r.Pl,r.mo,r.dn,r.Qi,r.M4,r.Oj,r.bt,?_,r.busy,r.drained,r.kicks,r.kL,r.tS,fun _=>hd,fun _=>hk,r.Qj⟩
 ·show pt.sw.ps ++ [(n,p)] = _
  rw [r.sw,List.map_append];rfl
 ·show i4 ((T.switches ++ _).map _) (p:Int)
  rw [List.map_append]
  exact r.HN.snoc h3
 ·show (p:Int)<=63
  omega
 ·show ((T.switches ++ _).map _).Nodup
  rw [List.map_append,List.nodup_append]
  refine ⟨r.M0,by simp,?_⟩
  intro a ha b hb
  simp at hb
  subst hb
  rintro rfl
  exact h2 (by rw [hkeys];exact ha)
 ·show ((T.switches ++ _).map _).Nodup
  rw [List.map_append,List.nodup_append]
  refine ⟨r.Kj,by simp,?_⟩
  intro a ha b hb
  simp at hb
  subst hb
  rintro rfl
  exact r.HN.DA h3 ha
 ·intro x hx
  rcases List.mem_append.mp hx with hx | hx
  ·exact r.LO x hx
  ·simp at hx;subst hx;exact ⟨h1,h4⟩
 ·show Holds _ pt.held T.held
  unfold Holds Table.held
  rw [hh,hd];rfl
theorem HQ {e:Nat} {pt:PT} {s:Nat} {T:Table} (r:jT pt s T) (hs:s<=1) {l:List Word}:f7 (Out 1) (uK (vG e { pt with rank:=1 } l)) (switchIn e T l):=by
 unfold uK vG switchIn
 simp only [bind_assoc,sZ,nc]
 rw [←bind_assoc (notCalled DRAIN l),vF e _ HP]
 refine wW (pl:=T.switches.map fun (s:Switch)=>s.place) r.Rx r.HN fun n p r1 r2 bL=>?_
 refine f7.eq fun m1 _=>f7.eq fun c _=>f7.eq fun m2 _=>f7.eq fun o _=>?_
 by_cases h:o.2.isEmpty = true
 ·rw [if_pos h,if_pos h]
  exact r.CN hs bL
 ·rw [if_neg h,if_neg h]
  simp only [bind_assoc]
  refine f7.eq fun m3 _=>f7.tU (f7.eq fun _ _=>?_)
  exact r.CN hs bL
theorem LQ {e:Nat} {pt:PT} {s:Nat} {T:Table} (r:jT pt s T) (hs:s<=2) {l:List Word}:f7 (Out 2) (uK (FO e { pt with rank:=2 } l)) (lampIn e T l):=by
 unfold uK FO lampIn
 simp only [bind_assoc,sZ,nc]
 rw [←bind_assoc (notCalled LOOP l),vF e _ Kl]
 refine wW (pl:=T.lamps.map fun (s:Lamp)=>s.place) r.la r.Kk fun n p r1 r2 bL=>?_
 refine f7.tU (f7.eq fun _ _=>?_)
 obtain ⟨h1,h2,h3,h4,h5⟩:=bL
 show jT _ 2 _
 refine ⟨rfl,r.balls,r.sw,r.HN,r.Rw,r.M0,r.Kj,r.LO,?_,?_,?_,?_,r.co,r.FR,r.Q7,r.Pk,r.Mw,r.Pl,r.mo,r.dn,r.Qi,r.M4,r.Oj,r.bt,r.held,r.busy,r.drained,r.kicks,r.kL,r.tS,fun _=>r.dv (by omega),fun _=>r.kv (by omega),(by have:=r.Qj;show ((pt.la.ps ++ [(n,p)]).length:Int)<=(p:Int) + 1;rw [List.length_append,List.length_singleton];omega)⟩
 ·show (pt.la.ps ++ [(n,p)]).map _ = (T.lamps ++ _).map _
  rw [List.map_append,List.map_append,r.la];rfl
 ·show i4 ((T.lamps ++ _).map _) (p:Int)
  rw [List.map_append]
  exact r.Kk.snoc h3
 ·show (p:Int)<=63
  omega
 ·intro x hx
  rcases List.mem_append.mp hx with hx | hx
  ·exact r.Qh x hx
  ·simp at hx;subst hx;exact h1
theorem jT.Jr {pt:PT} {s:Nat} {T:Table} (r:jT pt s T) (hs:s<=3) {n:Bytes} {p m t hh:Nat} (h:DB 31 [] pt.co n p) :
  jT { pt with rank:=3,co:=⟨pt.co.ps ++ [(n,p)],(p:Int)⟩,mo:=pt.mo ++ [(n,m)] } 3 { T with coils:=T.coils ++ [⟨p,m,t,hh,n⟩] }:=by
 obtain ⟨h1,h2,h3,h4,h5⟩:=h
 have hd:T.devices = []:=r.dv (by omega)
 have hk:T.kicks = []:=r.kv (by omega)
 have hb:pt.busy = []:=by
  have:=r.busy
  unfold Holds at this
  rw [hd,hk] at this
  simpa using this
 have hp:pt.bt = []:=by rw [r.bt,hd];rfl
 have hkeys:=r.Ry
 refine ⟨rfl,r.balls,r.sw,r.HN,r.Rw,r.M0,r.Kj,r.LO,r.la,r.Kk,r.Q6,r.Qh,?_,?_,?_,?_,?_,?_,?_,r.dn,r.Qi,r.M4,r.Oj,?_,r.held,?_,r.drained,r.kicks,r.kL,r.tS,fun _=>hd,fun _=>hk,r.Qj⟩
 ·show pt.co.ps ++ [(n,p)] = _
  rw [r.co,List.map_append];rfl
 ·show i4 ((T.coils ++ _).map _) (p:Int)
  rw [List.map_append]
  exact r.FR.snoc h3
 ·show (p:Int)<=31
  omega
 ·show ((T.coils ++ _).map _).Nodup
  rw [List.map_append,List.nodup_append]
  refine ⟨r.Pk,by simp,?_⟩
  intro a ha b hb
  simp at hb
  subst hb
  rintro rfl
  exact h2 (by rw [hkeys];exact ha)
 ·show ((T.coils ++ _).map _).Nodup
  rw [List.map_append,List.nodup_append]
  refine ⟨r.Mw,by simp,?_⟩
  intro a ha b hb
  simp at hb
  subst hb
  rintro rfl
  exact r.FR.DA h3 ha
 ·intro x hx
  rcases List.mem_append.mp hx with hx | hx
  ·exact r.Pl x hx
  ·simp at hx;subst hx;exact h1
 ·show pt.mo ++ [(n,m)] = _
  rw [r.mo,List.map_append];rfl
 ·show pt.bt = _
  rw [hp]
  show [] = List.map _ T.devices
  rw [hd];rfl
 ·show Holds _ pt.busy (T.devices.map (·.coil) ++ T.kicks.map (·.coil))
  rw [hb,hd,hk];rfl
theorem LR {e:Nat} {pt:PT} {s:Nat} {T:Table} (r:jT pt s T) (hs:s<=3) {l:List Word}:f7 (Out 3) (uK (FP e { pt with rank:=3 } l)) (coilIn e T l):=by
 unfold uK FP coilIn
 simp only [bind_assoc,sZ,nc]
 rw [qr]
 refine wW (pl:=T.coils.map fun (s:Coil)=>s.place) r.Ry r.FR fun n p r1 r2 bL=>?_
 refine f7.eq fun m1 _=>f7.eq fun c _=>f7.eq fun m2 _=>f7.eq fun o _=>?_
 by_cases h:o.2.isEmpty = true
 ·rw [if_pos h,if_pos h]
  exact r.Jr hs bL
 ·rw [if_neg h,if_neg h]
  simp only [bind_assoc]
  refine f7.eq fun m3 _=>f7.eq fun h _=>f7.tU (f7.eq fun _ _=>?_)
  exact r.Jr hs bL
theorem HR {T:Table} {ps:List (Bytes × Nat)} (e:ps = T.switches.map fun s=>(s.name,s.place)) (hn:(T.switches.map (·.name)).Nodup) {i:Nat} {w:Bytes} (h:(T.switches.map fun (s:Switch)=>s.name)[i]? = some w) :
  ∃ p,ps.lookup w = some p/\((T.switches[i]?).map fun (s:Switch)=>s.place).getD 0 = p/\∃ s ∈ T.switches,s.name = w/\s.place = p:=by
 rw [List.getElem?_map] at h
 cases q:T.switches[i]? with
 | none=>rw [q] at h;cases h
 | some s =>
  rw [q] at h
  have hw:s.name = w:=Option.some.inj h
  subst hw
  refine ⟨s.place,lookup_at (i:=i) ?_ ?_,rfl,s,List.mem_of_getElem? q,rfl,rfl⟩
  ·rw [e,List.map_map];exact hn
  ·rw [e,List.getElem?_map,q];rfl
theorem FT {T:Table} {ps mo:List (Bytes × Nat)} (e:ps = T.coils.map fun s=>(s.name,s.place)) (em:mo = T.coils.map fun s=>(s.name,s.most)) (hn:(T.coils.map (·.name)).Nodup) (hp:(T.coils.map (·.place)).Nodup) {i:Nat} {w:Bytes}
  (h:(T.coils.map fun (s:Coil)=>s.name)[i]? = some w):∃ c,(T.coils[i]?).getD ⟨0,0,0,0,[]⟩ = c/\ps.lookup w = some c.place/\mo.lookup w = some c.most/\T.coilAt c.place = some c:=by
 rw [List.getElem?_map] at h
 cases q:T.coils[i]? with
 | none=>rw [q] at h;cases h
 | some s =>
  rw [q] at h
  have hw:s.name = w:=Option.some.inj h
  subst hw
  refine ⟨s,rfl,lookup_at (i:=i) ?_ ?_,lookup_at (i:=i) ?_ ?_,?_⟩
  ·rw [e,List.map_map];exact hn
  ·rw [e,List.getElem?_map,q];rfl
  ·rw [em,List.map_map];exact hn
  ·rw [em,List.getElem?_map,q];rfl
  ·unfold Table.coilAt
   have hm:=List.mem_of_getElem? q
   clear h q e em hn
   generalize T.coils = cs at hm hp
   induction cs with
   | nil=>simp at hm
   | cons a r ih =>
    rcases List.mem_cons.mp hm with rfl | hm
    ·simp [List.find?_cons]
    ·have hne:a.place ≠ s.place:=fun q=>(List.nodup_cons.mp hp).1 (List.mem_map.mpr ⟨s,hm,q.symm⟩)
     rw [List.find?_cons,show (a.place == s.place) = false from by simpa using hne]
     exact ih hm (List.nodup_cons.mp hp).2
theorem CO {C D:Type} {S:C->D->Prop} {a b:Bool} {f:EF C} {g:EF D} {k p:Nat} (h:a = !b) (k1:a = false->f7 S f g):f7 S (if a = true then (.error ⟨k,p⟩:EF C) else f) (holds b k p >>= fun _=>g):=by
 unfold holds
 cases a
 ·cases b
  ·cases h
  ·exact k1 rfl
 ·cases b
  ·exact rfl
  ·cases h
structure Qk (pt pt0:PT) (had:List Nat):Prop where
 eq:pt = { pt0 with held:=pt.held }
 held:∀ pl,Holds pt0.sw.ps pt0.held pl->Holds pt0.sw.ps pt.held (pl ++ had)
theorem FU {e:Nat} {pt pt0:PT} {s:Nat} {T:Table} {had:List Nat} (hsw:pt0.sw.ps = T.switches.map fun s=>(s.name,s.place)) (hn:(T.switches.map (·.name)).Nodup) (hp:(T.switches.map (·.place)).Nodup) (hv:∀ s ∈ T.switches,isName s.name = true/\s.place<=63)
  (hh:Holds pt0.sw.ps pt0.held T.held) (m:Qk pt pt0 had) {l:List Word} {C D:Type} {S:C->D->Prop} {f:(Nat × PT) × List Word->EF C} {g:Nat->List Word->EF D}
  (k:∀ p pt' r,Qk pt' pt0 (had ++ [p])->p<=63->f7 S (f ((p,pt'),r)) (g p r)):f7 S (gM e pt l >>= f) (do
   let x ←known e (T.switches.map fun (s:Switch)=>s.name) l
   let _ ←holds (!(T.held ++ had).contains (((T.switches[x.1.1]?).map fun (s:Switch)=>s.place).getD 0)) 7 x.1.2
   g (((T.switches[x.1.1]?).map fun (s:Switch)=>s.place).getD 0) x.2):=by
 have e1:pt.sw = pt0.sw:=by rw [m.eq]
 have hk:pt.sw.ps.map (·.1) = T.switches.map (·.name):=by rw [e1,hsw,List.map_map];rfl
 unfold gM
 rw [hk]
 simp only [bind_assoc]
 refine pP fun w r i _ hw hi=>?_
 obtain ⟨p,hl,hpl,sw,hm,_,hsp⟩:=HR hsw hn hi
 simp only [hpl]
 have hc:pt.held.contains w.w = (T.held ++ had).contains p:=(m.held _ hh).iff (by rw [hsw,List.map_map];exact hp) hl
 have key:f7 S ((if pt.held.contains w.w = true then (.error ⟨7,w.at_⟩:EF C) else f (((pt.sw.ps.lookup w.w).getD 0,{ pt with held:=pt.held ++ [w.w] }),r))) (holds (!(T.held ++ had).contains p) 7 w.at_ >>= fun _=>g p r):=by
  refine CO (by rw [hc,Bool.not_not]) fun _=>?_
  rw [e1,hl]
  refine k p _ r ⟨?_,fun pl hpl'=>?_⟩ (by rw [←hsp];exact (hv sw hm).2)
  ·rw [m.eq]
  ·show Holds _ (pt.held ++ [w.w]) _
   rw [←List.append_assoc]
   exact (m.held pl hpl').snoc hl
 by_cases q:pt.held.contains w.w = true
 ·rw [if_pos q] at key ⊢;exact key
 ·rw [if_neg q] at key ⊢;exact key
end Pb
namespace Pb
open Tilt
theorem foldl_add (l:List Nat):∀ a:Nat,l.foldl (fun (a b:Nat)=>a + b) a = a + l.foldl (fun (a b:Nat)=>a + b) 0:=by
 induction l with
 | nil=>intro a;rfl
 | cons x r ih =>
  intro a
  rw [List.foldl_cons,List.foldl_cons,ih (a + x),ih (0 + x)]
  omega
theorem Km (T:Table) (c:Nat) (sp:List Nat) (dr:Bool) (n:Bytes):({ T with devices:=T.devices ++ [⟨c,sp,dr,n⟩] }:Table).room = T.room + if dr = true then sp.length else 0:=by
 unfold Table.room
 show List.foldl _ 0 (((T.devices ++ [(⟨c,sp,dr,n⟩:Device)]).filter _).map _) = _
 rw [List.filter_append,List.map_append,List.foldl_append,foldl_add]
 congr 1
 cases dr
 ·rfl
 ·show List.foldl _ 0 [sp.length] = _
  simp
theorem mE {A:Type} (l:List A) (f:A->Nat) (p:Nat):(l.any fun d=>f d == p) = (l.map f).contains p:=by
 induction l with
 | nil=>rfl
 | cons a r ih =>
  rw [List.any_cons,List.map_cons,List.contains_cons,ih]
  congr 1
  by_cases q:f a = p
  ·subst q;simp
  ·rw [show (f a == p) = false from by simpa using q,show (p == f a) = false from by simpa using Ne.symm q]
theorem FV {e:Nat} {pt0:PT} {T:Table} (hsw:pt0.sw.ps = T.switches.map fun s=>(s.name,s.place)) (hn:(T.switches.map (·.name)).Nodup) (hp:(T.switches.map (·.place)).Nodup) (hv:∀ s ∈ T.switches,isName s.name = true/\s.place<=63)
  (hh:Holds pt0.sw.ps pt0.held T.held) {S:PT->Table->Prop} {fin:PT->List Nat->PT} {gT:List Nat->Bool->Table}
  (k1:∀ pt sp,Qk pt pt0 sp->sp.length<=8->(∀ p ∈ sp,p<=63)->S (fin pt sp) (gT sp false)/\S (fin { pt with drained:=pt.drained + sp.length } sp) (gT sp true)) :
  ∀ (k:Nat) (pt:PT) (had:List Nat) (l:List Word),had ≠ []->had.length + k<=8->(∀ p ∈ had,p<=63)->Qk pt pt0 had →
   f7 S (do
    let h ←cS e k pt had l
    let d ←wX e h.1.2 h.1.1 h.2
    let _ ←closed d.2
    .ok (fin d.1 h.1.1)) (do
    let h ←heldIn e T k had l
    .ok (gT h.1 h.2))
 | 0,pt,had,[],_,hl,h63,m=>(k1 pt had m (by omega) h63).1
 | 0,pt,had,w :: r,_,hl,h63,m=>by
  show f7 S ((do
    let d ←(do
     let r ←(if w.w = DRAIN then .ok r else .error ⟨3,w.at_⟩:EF (List Word))
     .ok ({ pt with drained:=pt.drained + had.length },r):EF (PT × List Word))
    let _ ←closed d.2
    .ok (fin d.1 had):EF PT)) ((if w.w = DRAIN then (closed r).map fun (_:Unit)=>(had,true) else .error ⟨3,w.at_⟩:EF (List Nat × Bool)) >>= fun h=>.ok (gT h.1 h.2))
  by_cases q:w.w = DRAIN
  ·rw [if_pos q,if_pos q]
   cases r with
   | nil=>exact (k1 pt had m (by omega) h63).2
   | cons _ _=>exact rfl
  ·rw [if_neg q,if_neg q];exact rfl
 | k + 1,pt,had,[],hne,hl,h63,m=>by
  cases had with
  | nil=>exact (hne rfl).elim
  | cons a b=>exact (k1 pt (a :: b) m (by omega) h63).1
 | k + 1,pt,had,w :: r,hne,hl,h63,m=>by
  have hE:heldIn e T (k + 1) had (w :: r) = if had ≠ []/\w.w = DRAIN then (closed r).map fun (_:Unit)=>(had,true) else (do
   let x ←known e (T.switches.map fun (s:Switch)=>s.name) (w :: r)
   let _ ←holds (!(T.held ++ had).contains (((T.switches[x.1.1]?).map fun (s:Switch)=>s.place).getD 0)) 7 x.1.2
   heldIn e T k (had ++ [((T.switches[x.1.1]?).map fun (s:Switch)=>s.place).getD 0]) x.2):=by
   cases had <;> rfl
  have hM:cS e (k + 1) pt had (w :: r) = if w.w = DRAIN then .ok ((had,pt),w :: r) else (do
   let x ←gM e pt (w :: r)
   cS e k x.1.2 (had ++ [x.1.1]) x.2):=rfl
  rw [hE,hM]
  by_cases q:w.w = DRAIN
  ·rw [if_pos q,if_pos ⟨hne,q⟩]
   show f7 S ((do
    let d ←(do
     let r ←(if w.w = DRAIN then .ok r else .error ⟨3,w.at_⟩:EF (List Word))
     .ok ({ pt with drained:=pt.drained + had.length },r):EF (PT × List Word))
    let _ ←closed d.2
    .ok (fin d.1 had):EF PT)) _
   rw [if_pos q]
   cases r with
   | nil=>exact (k1 pt had m (by omega) h63).2
   | cons _ _=>exact rfl
  ·rw [if_neg q,if_neg (fun z=>q z.2)]
   simp only [bind_assoc]
   refine FU (s:=0) (f:=fun x=>do
    let h ←cS e k x.1.2 (had ++ [x.1.1]) x.2
    let d ←wX e h.1.2 h.1.1 h.2
    let _ ←closed d.2
    .ok (fin d.1 h.1.1)) (g:=fun p r=>do
    let h ←heldIn e T k (had ++ [p]) r
    .ok (gT h.1 h.2)) hsw hn hp hv hh m fun p pt' r' m' hp63=>?_
   refine FV hsw hn hp hv hh k1 k pt' (had ++ [p]) r' (by simp) (by rw [List.length_append];simp;omega) ?_ m'
   intro x hx
   rcases List.mem_append.mp hx with hx | hx
   ·exact h63 x hx
   ·simp at hx;omega
theorem HS {e:Nat} {pt:PT} {s:Nat} {T:Table} (r:jT pt s T) (hs:s<=4) (h8:T.devices.length < 8) {l:List Word}:f7 (Out 4) (uK (vH e { pt with rank:=4 } l)) (deviceIn e T l):=by
 have hk:T.kicks = []:=r.kv (by omega)
 unfold uK vH deviceIn coilNamed lS
 simp only [bind_assoc,sZ]
 rw [qr,←r.dn]
 refine f7.eq fun n hn=>f7.eq fun m1 _=>?_
 obtain ⟨n1,n2,_⟩:=nu hn
 have hco:(PT.mk 4 pt.balls pt.sw pt.la pt.co pt.mo (pt.dn ++ [n.1]) pt.bt pt.held pt.busy pt.drained pt.kicks pt.tS).co.ps.map (·.1) = T.coils.map fun (s:Coil)=>s.name:=r.Ry
 rw [hco]
 refine pP fun w r1 i _ hw hi=>?_
 obtain ⟨c,hc,hl,hm,hat⟩:=FT r.co r.mo r.Pk r.Mw hi
 have hbz:pt.busy.contains w.w = (T.devices.any fun (d:Device)=>d.coil == c.place):=by
  rw [mE T.devices (fun d=>d.coil)]
  have:=r.busy.iff (by rw [r.SU];exact r.Mw) hl
  rw [hk] at this
  simpa using this
 have key:f7 (Out 4) (if pt.busy.contains w.w = true then (.error ⟨7,w.at_⟩:EF PT) else (do
   let r ←bE e (ascii "holds") r1
   let s ←gM e { pt with rank:=4,dn:=pt.dn ++ [n.1],busy:=pt.busy ++ [w.w] } r
   let h ←cS e 7 s.1.2 [s.1.1] s.2
   let d ←wX e h.1.2 h.1.1 h.2
   let _ ←closed d.2
   .ok { d.1 with bt:=d.1.bt ++ [⟨(d.1.co.ps.lookup w.w).getD 0,min 40 ((d.1.mo.lookup w.w).getD 0),h.1.1⟩] }))
   (holds (!(T.devices.any fun (d:Device)=>d.coil == c.place)) 7 w.at_ >>= fun _=>do
   let m ←bE e (ascii "holds") r1
   let h ←heldIn e T 8 [] m
   .ok { T with devices:=T.devices ++ [⟨c.place,h.1,h.2,n.1⟩] }):=by
  refine CO (by rw [hbz,Bool.not_not]) fun _=>?_
  refine f7.eq fun m2 _=>?_
  generalize hpt0:({ pt with rank:=4,dn:=pt.dn ++ [n.1],busy:=pt.busy ++ [w.w] }:PT) = pt0
  have hsw0:pt0.sw.ps = T.switches.map fun s=>(s.name,s.place):=by subst hpt0;exact r.sw
  have hh0:Holds pt0.sw.ps pt0.held T.held:=by subst hpt0;exact r.held
  have m0:Qk pt0 pt0 []:=⟨by cases pt0;rfl,fun pl h=>by rw [List.append_nil];exact h⟩
  have fin:∀ (pt':PT) (sp:List Nat) (dr:Bool),Qk pt' pt0 sp->sp.length<=8->(∀ p ∈ sp,p<=63) →
    jT { pt' with drained:=pt'.drained + (if dr = true then sp.length else 0),bt:=pt'.bt ++ [⟨(pt'.co.ps.lookup w.w).getD 0,min 40 ((pt'.mo.lookup w.w).getD 0),sp⟩] } 4 { T with devices:=T.devices ++ [⟨c.place,sp,dr,n.1⟩] }:=by
   intro pt' sp dr m' h8' h63
   rw [m'.eq]
   subst hpt0
   refine ⟨rfl,r.balls,r.sw,r.HN,r.Rw,r.M0,r.Kj,r.LO,r.la,r.Kk,r.Q6,r.Qh,r.co,r.FR,r.Q7,r.Pk,r.Mw,r.Pl,r.mo,?_,?_,?_,?_,?_,?_,?_,?_,r.kicks,r.kL,r.tS,fun q=>by omega,fun _=>hk,r.Qj⟩
   ·show pt.dn ++ [n.1] = (T.devices ++ _).map _
    rw [List.map_append,r.dn];rfl
   ·intro x hx
    rcases List.mem_append.mp hx with hx | hx
    ·exact r.Qi x hx
    ·simp at hx;subst hx;exact n1
   ·show (T.devices ++ _).length<=8
    rw [List.length_append];simp;omega
   ·intro x hx
    rcases List.mem_append.mp hx with hx | hx
    ·exact r.Oj x hx
    ·simp at hx;subst hx;exact ⟨h8',h63⟩
   ·show pt.bt ++ [⟨(pt.co.ps.lookup w.w).getD 0,min 40 ((pt.mo.lookup w.w).getD 0),sp⟩] = (T.devices ++ _).map _
    rw [List.map_append,r.bt,hl,hm]
    congr 1
    show [_] = [Plan.mk c.place (min 40 (((T.coilAt c.place).map fun (c:Coil)=>c.most).getD 0)) sp]
    rw [hat];rfl
   ·show Holds pt.sw.ps pt'.held _
    have:=m'.held T.held r.held
    show Holds pt.sw.ps pt'.held ((T.devices ++ [(⟨c.place,sp,dr,n.1⟩:Device)]).flatMap _)
    rw [List.flatMap_append]
    have e2:List.flatMap (fun (d:Device)=>d.at_) [⟨c.place,sp,dr,n.1⟩] = sp:=by simp
    rw [e2];exact this
   ·show Holds pt.co.ps (pt.busy ++ [w.w]) ((T.devices ++ [(⟨c.place,sp,dr,n.1⟩:Device)]).map (·.coil) ++ T.kicks.map (·.coil))
    have hb:=r.busy
    rw [hk,List.map_nil,List.append_nil] at hb
    rw [hk,List.map_nil,List.append_nil,List.map_append]
    exact hb.snoc hl
   ·rw [Km]
    show pt.drained + _ = _
    rw [r.drained]
  have hE:∀ l:List Word,heldIn e T 8 [] l = match l with
   | []=>.error ⟨3,e⟩
   | w :: r=>(do
    let x ←known e (T.switches.map fun (s:Switch)=>s.name) (w :: r)
    let _ ←holds (!(T.held ++ []).contains (((T.switches[x.1.1]?).map fun (s:Switch)=>s.place).getD 0)) 7 x.1.2
    heldIn e T 7 ([] ++ [((T.switches[x.1.1]?).map fun (s:Switch)=>s.place).getD 0]) x.2):=by
   intro l
   cases l with
   | nil=>rfl
   | cons w r =>
    rw [show heldIn e T 8 [] (w :: r) = if ([]:List Nat) ≠ []/\w.w = DRAIN then (closed r).map fun (_:Unit)=>([],true) else (do
     let x ←known e (T.switches.map fun (s:Switch)=>s.name) (w :: r)
     let _ ←holds (!(T.held ++ []).contains (((T.switches[x.1.1]?).map fun (s:Switch)=>s.place).getD 0)) 7 x.1.2
     heldIn e T 7 ([] ++ [((T.switches[x.1.1]?).map fun (s:Switch)=>s.place).getD 0]) x.2) from rfl,if_neg (fun z=>z.1 rfl)]
  rw [hE]
  cases m2 with
  | nil=>exact rfl
  | cons w2 r2 =>
   simp only [bind_assoc]
   refine FU (s:=0) (f:=fun x=>do
    let h ←cS e 7 x.1.2 [x.1.1] x.2
    let d ←wX e h.1.2 h.1.1 h.2
    let _ ←closed d.2
    .ok { d.1 with bt:=d.1.bt ++ [(⟨(d.1.co.ps.lookup w.w).getD 0,min 40 ((d.1.mo.lookup w.w).getD 0),h.1.1⟩:Plan)] }) (g:=fun p r=>do
    let h ←heldIn e T 7 [p] r
    .ok { T with devices:=T.devices ++ [(⟨c.place,h.1,h.2,n.1⟩:Device)] }) hsw0 r.M0 r.Kj r.LO hh0 m0 fun p pt' r' m' hp63=>?_
   refine FV (fin:=fun d sp=>{ d with bt:=d.bt ++ [⟨(d.co.ps.lookup w.w).getD 0,min 40 ((d.mo.lookup w.w).getD 0),sp⟩] }) (gT:=fun sp dr=>{ T with devices:=T.devices ++ [⟨c.place,sp,dr,n.1⟩] })
    hsw0 r.M0 r.Kj r.LO hh0 (fun pt1 sp m1 a1 a2=>⟨?_,?_⟩) 7 pt' [p] r' (by simp) (by simp) (by intro x hx;simp at hx;omega) m'
   ·exact fin pt1 sp false m1 a1 a2
   ·exact fin pt1 sp true m1 a1 a2
 simp only [hc]
 by_cases q:pt.busy.contains w.w = true
 ·rw [if_pos q] at key ⊢;exact key
 ·rw [if_neg q] at key ⊢;exact key
theorem rN {A C D:Type} {S:C->D->Prop} {c:Prop} [Decidable c] {b:Bool} {k p:Nat} {x:EF A} {f:A->EF C} {g:Unit->EF D} (h:decide c = !b) (k1:¬ c->f7 S (x >>= f) (g ())):f7 S ((if c then (.error ⟨k,p⟩:EF A) else x) >>= f) (holds b k p >>= g):=by
 unfold holds
 by_cases q:c
 ·rw [if_pos q]
  rw [decide_eq_true q] at h
  cases b
  ·exact rfl
  ·cases h
 ·rw [if_neg q]
  rw [decide_eq_false q] at h
  cases b
  ·cases h
  ·exact k1 q
theorem LS {e:Nat} {pt:PT} {s:Nat} {T:Table} (r:jT pt s T) (hs:s<=5) (h8:T.kicks.length < 8) {l:List Word}:f7 (Out 5) (uK (FQ e { pt with rank:=5 } l)) (kickIn e T l):=by
 unfold uK FQ kickIn coilNamed lS kG LN
 simp only [bind_assoc,sZ,nc]
 have hswk:(PT.mk 5 pt.balls pt.sw pt.la pt.co pt.mo pt.dn pt.bt pt.held pt.busy pt.drained pt.kicks pt.tS).sw.ps.map (·.1) = T.switches.map fun (s:Switch)=>s.name:=r.Rx
 rw [hswk]
 refine pP fun w r1 i _ hw hi=>?_
 obtain ⟨p,hl,hpl,sw,hm,_,hsp⟩:=HR r.sw r.M0 hi
 simp only [hpl,hl,Option.getD_some]
 have a1:(T.kicks.all fun (k:Kick)=>decide (k.first < p)) = decide (pt.tS < (p:Int)):=by
  have:=r.tS.iff p
  rw [List.all_map] at this
  exact this
 refine rN (by
  rw [a1]
  by_cases q:(p:Int)<=pt.tS
  ·rw [decide_eq_true q,decide_eq_false (by omega)];rfl
  ·rw [decide_eq_false q,decide_eq_true (by omega)];rfl) fun hk5=>?_
 refine rN (by rw [Bool.decide_eq_true,r.held.iff (by rw [r.SS];exact r.Kj) hl,Bool.not_not]) fun hk7=>?_
 refine f7.tU ?_
 have hco:(PT.mk 5 pt.balls pt.sw pt.la pt.co pt.mo pt.dn pt.bt pt.held pt.busy pt.drained pt.kicks (p:Int)).co.ps.map (·.1) = T.coils.map fun (s:Coil)=>s.name:=r.Ry
 dsimp only at hco ⊢
 rw [hco]
 refine pP fun v r2 j _ hv hj=>?_
 obtain ⟨c,hc,hcl,hcm,hat⟩:=FT r.co r.mo r.Pk r.Mw hj
 simp only [hc]
 refine rN (by
  rw [Bool.decide_eq_true,mE T.devices (fun d=>d.coil),mE T.kicks (fun d=>d.coil)]
  have:=r.busy.iff (by rw [r.SU];exact r.Mw) hcl
  rw [this]
  rw [Bool.eq_iff_iff]
  simp) fun hk7'=>?_
 refine f7.tU ?_
 dsimp only
 refine f7.eq fun m1 _=>f7.eq fun t ht=>?_
 rw [hcm,Option.getD_some]
 refine rN (by
  by_cases q:c.most < t.1.1
  ·rw [decide_eq_true q,decide_eq_false (by omega)];rfl
  ·rw [decide_eq_false q,decide_eq_true (by omega)];rfl) fun hk7t=>?_
 have fin:∀ till,jT { pt with rank:=5,busy:=pt.busy ++ [v.w],tS:=(p:Int),kicks:=pt.kicks + 1 } 5 { T with kicks:=T.kicks ++ [⟨p,c.place,t.1.1,till⟩] }:=by
  intro till
  refine ⟨rfl,r.balls,r.sw,r.HN,r.Rw,r.M0,r.Kj,r.LO,r.la,r.Kk,r.Q6,r.Qh,r.co,r.FR,r.Q7,r.Pk,r.Mw,r.Pl,r.mo,r.dn,r.Qi,r.M4,r.Oj,r.bt,r.held,?_,r.drained,?_,?_,?_,fun q=>by omega,fun q=>by omega,r.Qj⟩
  ·show Holds pt.co.ps (pt.busy ++ [v.w]) (T.devices.map (·.coil) ++ (T.kicks ++ [(⟨p,c.place,t.1.1,till⟩:Kick)]).map (·.coil))
   rw [List.map_append,←List.append_assoc]
   exact r.busy.snoc hcl
  ·show pt.kicks + 1 = (T.kicks ++ [_]).length
   rw [List.length_append,r.kicks];rfl
  ·show (T.kicks ++ [_]).length<=8
   rw [List.length_append];simp;omega
  ·show i4 ((T.kicks ++ [(⟨p,c.place,t.1.1,till⟩:Kick)]).map (·.first)) (p:Int)
   rw [List.map_append]
   exact r.tS.snoc (show pt.tS < (p:Int) by omega)
 by_cases ht0:t.2.isEmpty = true
 ·rw [if_pos ht0,if_pos ht0]
  exact fin none
 ·rw [if_neg ht0,if_neg ht0]
  simp only [bind_assoc]
  refine f7.eq fun m2 _=>?_
  rw [show pt.sw.ps.map (·.1) = T.switches.map fun (s:Switch)=>s.name from r.Rx]
  refine pP fun u r3 k _ hu hk=>?_
  obtain ⟨q,hlq,hql,sw2,hm2,_,hsp2⟩:=HR r.sw r.M0 hk
  simp only [hql]
  refine rN (by
   by_cases z:u.w = w.w
   ·have:q = p:=by rw [z] at hlq;exact Option.some.inj (hlq.symm.trans hl)
    rw [decide_eq_true z,this];simp
   ·have:q ≠ p:=fun y=>z (DE (by rw [r.SS];exact r.Kj) (lookup_mem hlq) (by rw [y];exact lookup_mem hl))
    rw [decide_eq_false z];simpa using this) fun _=>?_
  refine f7.tU (f7.eq fun _ _=>?_)
  exact fin (some q)
inductive yH:PT->Option Had->Prop where
 | none:yH PT.new none
 | some {pt:PT} {h:Had} (r:jT pt h.sort h.T):yH pt (some h)
theorem Ar {w:Bytes}:bo w = some 0 ↔ w = ascii "table":=by
 unfold bo SORTS
 constructor
 ·intro h
  obtain ⟨_,h1,_⟩:=List.findIdx?_eq_some_iff_getElem.mp h
  exact (eq_of_beq h1).symm
 ·intro h
  subst h
  decide +kernel
theorem DF {w:Bytes} {j:Nat} (h:bo w = some j):j < 6:=by
 obtain ⟨h1,_,_⟩:=List.findIdx?_eq_some_iff_getElem.mp h
 exact h1
theorem LU {pt:PT} {h:Option Had} (r:yH pt h) (x:Line):f7 yH (Aq pt x) (lineIn h x):=by
 obtain ⟨ws,e⟩:=x
 cases ws with
 | nil=>exact rfl
 | cons w l =>
  have hL:Aq pt ⟨w :: l,e⟩ = ((match bo w.w with
   | none=>.error ⟨3,w.at_⟩
   | some j=>if je pt j = true then .ok (j,l) else .error ⟨3,w.at_⟩:EF (Nat × List Word)) >>= fun j=>(do
    let y ←reader j.1 e { pt with rank:=(j.1:Int) } j.2
    let _ ←closed y.2
    .ok y.1)):=rfl
  rw [hL]
  clear hL
  cases r with
  | none =>
   have hR:lineIn none ⟨w :: l,e⟩ = if w.w = ascii "table" then (firstIn e l >>= fun T=>.ok (some ⟨0,T⟩):EF (Option Had)) else .error ⟨3,w.at_⟩:=rfl
   rw [hR]
   clear hR
   by_cases q:w.w = ascii "table"
   ·rw [Ar.mpr q]
    dsimp only
    rw [if_pos (show je PT.new 0 = true by decide +kernel),if_pos q]
    have:=LP (e:=e) (l:=l)
    have h2:=f7.bind (R:=Out 0) (S:=yH) (x:=uK (ym e { PT.new with rank:=0 } l)) (f:=fun y=>(.ok y:EF PT)) (g:=fun T=>(.ok (some ⟨0,T⟩):EF (Option Had))) this fun a b hab=>yH.some (h:=⟨0,b⟩) hab
    show f7 yH (uK (ym e { PT.new with rank:=0 } l)) _
    revert h2
    generalize uK (ym e { PT.new with rank:=0 } l) = x
    intro h2
    cases x <;> exact h2
   ·rw [if_neg q]
    cases z:bo w.w with
    | none=>exact rfl
    | some j =>
     dsimp only
     have hj:j ≠ 0:=fun y=>q (Ar.mp (by rw [z,y]))
     rw [if_neg (show ¬ je PT.new j = true by unfold je;rw [if_pos (show PT.new.rank = -1 from rfl)];simpa using hj)]
     exact rfl
  | some r =>
   rename_i h
   obtain ⟨s,T⟩:=h
   have hR:lineIn (some ⟨s,T⟩) ⟨w :: l,e⟩ = if (bo w.w).getD 0 = 0\/(bo w.w).getD 0 < s\/((bo w.w).getD 0 = 4/\EIGHT<=T.devices.length)\/((bo w.w).getD 0 = 5/\EIGHT<=T.kicks.length) then .error ⟨3,w.at_⟩
    else if (bo w.w).getD 0 = 1 then (switchIn e T l >>= fun T=>.ok (some ⟨(bo w.w).getD 0,T⟩)) else if (bo w.w).getD 0 = 2 then (lampIn e T l >>= fun T=>.ok (some ⟨(bo w.w).getD 0,T⟩))
    else if (bo w.w).getD 0 = 3 then (coilIn e T l >>= fun T=>.ok (some ⟨(bo w.w).getD 0,T⟩)) else if (bo w.w).getD 0 = 4 then (deviceIn e T l >>= fun T=>.ok (some ⟨(bo w.w).getD 0,T⟩)) else (kickIn e T l >>= fun T=>.ok (some ⟨(bo w.w).getD 0,T⟩)):=rfl
   rw [hR]
   clear hR
   dsimp only at r ⊢
   cases z:bo w.w with
   | none =>
    dsimp only [Option.getD]
    rw [if_pos (.inl rfl)];exact rfl
   | some j =>
    dsimp only [Option.getD]
    have hr:pt.rank ≠ -1:=by rw [r.rank];omega
    have hpl:pt.bt.length = T.devices.length:=by rw [r.bt,List.length_map]
    have hkk:=r.kicks
    have hj6:=DF z
    have hcc:je pt j = true ↔ ¬ (j = 0\/j < s\/(j = 4/\EIGHT<=T.devices.length)\/(j = 5/\EIGHT<=T.kicks.length)):=by
     unfold je EIGHT
     rw [if_neg hr,r.rank,hpl,hkk]
     by_cases a:j = 0\/(j:Int) < (s:Int)
     ·rw [if_pos a]
      simp
      omega
     ·rw [if_neg a]
      by_cases b:j = 4
      ·subst b;simp;omega
      ·rw [if_neg b]
       by_cases c:j = 5
       ·subst c;simp;omega
       ·rw [if_neg c];simp;omega
    by_cases q:je pt j = true
    ·have q':=hcc.mp q
     rw [if_pos q,if_neg q']
     have done:∀ (x:EF PT) (y:EF Table),f7 (Out j) x y->f7 yH x (y >>= fun T=>.ok (some ⟨j,T⟩)):=fun x y hxy=>by
      have:=f7.bind (S:=yH) (f:=fun y=>(.ok y:EF PT)) (g:=fun T=>(.ok (some ⟨j,T⟩):EF (Option Had))) hxy fun a b hab=>yH.some (h:=⟨j,b⟩) hab
      cases x <;> exact this
     unfold EIGHT at q'
     match j,hj6,q',done with
     | 0,_,q',_=>exact (q' (.inl rfl)).elim
     | 1,_,q',done=>exact done _ _ (HQ r (by omega))
     | 2,_,q',done=>exact done _ _ (LQ r (by omega))
     | 3,_,q',done=>exact done _ _ (LR r (by omega))
     | 4,_,q',done=>exact done _ _ (HS r (by omega) (by omega))
     | 5,_,q',done=>exact done _ _ (LS r (by omega) (by omega))
    ·rw [if_neg q,if_pos (by rcases Decidable.em (j = 0\/j < s\/(j = 4/\EIGHT<=T.devices.length)\/(j = 5/\EIGHT<=T.kicks.length)) with a | a;exact a;exact (q (hcc.mpr a)).elim)]
     exact rfl
end Pb
namespace Pb
open Tilt
structure lU (b:Bytes) (p:Nat) (pt:PT):Prop where
 le:p<=b.length
 run:∃ h k,yH pt h/\b.length - p < k/\linesIn lineIn (b.length + 1) 0 none b = linesIn lineIn k p h (b.drop p)/\(p = 0\/h ≠ none)
theorem lU.start (b:Bytes):lU b 0 PT.new:=⟨Nat.zero_le _,none,b.length + 1,.none,by omega,rfl,.inl rfl⟩
theorem nh {j:Nat} {z:EF Table} (e:(z >>= fun T=>(.ok (some ⟨j,T⟩):EF (Option Had))) = .ok none):False:=by cases z <;> cases e
theorem FW {h h':Option Had} {x:Line} (e:lineIn h x = .ok h'):h' ≠ none:=by
 intro q
 subst q
 obtain ⟨ws,en⟩:=x
 cases ws with
 | nil=>cases h <;> cases e
 | cons w l =>
  cases h with
  | none =>
   have hR:lineIn none ⟨w :: l,en⟩ = if w.w = ascii "table" then (firstIn en l >>= fun T=>.ok (some ⟨0,T⟩):EF (Option Had)) else .error ⟨3,w.at_⟩:=rfl
   rw [hR] at e
   split at e
   ·exact nh e
   ·cases e
  | some y =>
   obtain ⟨s,T⟩:=y
   have hR:lineIn (some ⟨s,T⟩) ⟨w :: l,en⟩ = if (bo w.w).getD 0 = 0\/(bo w.w).getD 0 < s\/((bo w.w).getD 0 = 4/\EIGHT<=T.devices.length)\/((bo w.w).getD 0 = 5/\EIGHT<=T.kicks.length) then .error ⟨3,w.at_⟩
    else if (bo w.w).getD 0 = 1 then (switchIn en T l >>= fun T=>.ok (some ⟨(bo w.w).getD 0,T⟩)) else if (bo w.w).getD 0 = 2 then (lampIn en T l >>= fun T=>.ok (some ⟨(bo w.w).getD 0,T⟩))
    else if (bo w.w).getD 0 = 3 then (coilIn en T l >>= fun T=>.ok (some ⟨(bo w.w).getD 0,T⟩)) else if (bo w.w).getD 0 = 4 then (deviceIn en T l >>= fun T=>.ok (some ⟨(bo w.w).getD 0,T⟩)) else (kickIn en T l >>= fun T=>.ok (some ⟨(bo w.w).getD 0,T⟩)):=rfl
   rw [hR] at e
   split at e
   ·cases e
   ·split at e
    ·exact nh e
    ·split at e
     ·exact nh e
     ·split at e
      ·exact nh e
      ·split at e
       ·exact nh e
       ·exact nh e
theorem lU.lines {b:Bytes} {p:Nat} {pt:PT} (g:lU b p pt) (hp:p < b.length):∃ h k,yH pt h/\b.length - p < k + 1/\linesIn lineIn (b.length + 1) 0 none b = (match upTo (b.drop p) with
  | none=>.error ⟨1,p + (b.drop p).length⟩
  | some (l,r)=>match badByte true 0 l with
   | some i=>.error ⟨2,p + i⟩
   | none=>match lineIn h ⟨wordsFrom p [] l,p + l.length⟩ with
    | .error e=>.error e
    | .ok t=>linesIn lineIn k (p + l.length + 1) t r):=by
 obtain ⟨h,k,r,hk,he,hz⟩:=g.run
 obtain ⟨k,rfl⟩:∃ j,k = j + 1:=⟨k - 1,by omega⟩
 have hne:b.drop p ≠ []:=by rw [Ne,List.drop_eq_nil_iff];omega
 exact ⟨h,k,r,hk,by
  rw [he,Dz hne]
  cases upTo (b.drop p) with
  | none=>rfl
  | some x =>
   obtain ⟨l,r⟩:=x
   dsimp only
   cases badByte true 0 l with
   | some i=>rfl
   | none =>
    dsimp only
    cases lineIn h ⟨wordsFrom p [] l,p + l.length⟩ <;> rfl⟩
theorem lU.M5 {b:Bytes} {p:Nat} {pt:PT} (g:lU b p pt) (hp:p < b.length) (hu:upTo (b.drop p) = none):readTable b = .error ⟨1,b.length⟩:=by
 obtain ⟨h,k,r,hk,he⟩:=g.lines hp
 rw [hu] at he
 unfold readTable
 rw [he]
 dsimp only
 rw [List.length_drop]
 congr 2
 omega
theorem lU.bad {b:Bytes} {p:Nat} {pt:PT} (g:lU b p pt) (hp:p < b.length) {l r:Bytes} {i:Nat} (hu:upTo (b.drop p) = some (l,r)) (hb:badByte true 0 l = some i):readTable b = .error ⟨2,p + i⟩:=by
 obtain ⟨h,k,_,hk,he⟩:=g.lines hp
 rw [hu] at he
 dsimp only at he
 rw [hb] at he
 unfold readTable
 rw [he]
theorem As:∀ {b l r:Bytes},upTo b = some (l,r)->b.length = l.length + 1 + r.length/\r = b.drop (l.length + 1)
 | [],_,_,h=>by cases h
 | c :: b,l,r,h=>by
  have h':(if c = 10 then some ([],b) else (upTo b).map fun (x:Bytes × Bytes)=>(c :: x.1,x.2)) = some (l,r):=h
  by_cases q:c = 10
  ·rw [if_pos q] at h';cases h';simp;omega
  ·rw [if_neg q] at h'
   cases z:upTo b with
   | none=>rw [z] at h';cases h'
   | some x =>
    obtain ⟨l1,r1⟩:=x
    rw [z] at h'
    cases h'
    obtain ⟨e1,e2⟩:=As z
    refine ⟨?_,?_⟩
    ·simp;omega
    ·simpa using e2
theorem lU.line {b:Bytes} {p:Nat} {pt:PT} (g:lU b p pt) (hp:p < b.length) {l r:Bytes} (hu:upTo (b.drop p) = some (l,r)) (hb:badByte true 0 l = none):match Aq pt ⟨wordsFrom p [] l,p + l.length⟩ with
  | .error f=>readTable b = .error f
  | .ok pt'=>lU b (p + l.length + 1) pt':=by
 obtain ⟨h,k,hr,hk,he⟩:=g.lines hp
 rw [hu] at he
 dsimp only at he
 rw [hb] at he
 dsimp only at he
 have hs:=LU hr ⟨wordsFrom p [] l,p + l.length⟩
 cases z:Aq pt ⟨wordsFrom p [] l,p + l.length⟩ with
 | error f =>
  dsimp only
  cases y:lineIn h ⟨wordsFrom p [] l,p + l.length⟩ with
  | error f' =>
   rw [z,y] at hs
   rw [y] at he
   dsimp only at he
   unfold readTable
   rw [he,show f = f' from hs]
  | ok _=>rw [z,y] at hs;exact hs.elim
 | ok pt' =>
  dsimp only
  cases y:lineIn h ⟨wordsFrom p [] l,p + l.length⟩ with
  | error f'=>rw [z,y] at hs;exact hs.elim
  | ok h' =>
   rw [z,y] at hs
   rw [y] at he
   dsimp only at he
   obtain ⟨e1,e2⟩:=As hu
   rw [List.length_drop] at e1
   refine ⟨by omega,h',k,hs,by omega,?_,.inr (FW y)⟩
   rw [he,e2,List.drop_drop]
   congr 1
theorem lU.fin {b:Bytes} {p:Nat} {pt:PT} (g:lU b p pt) (hp:b.length<=p) (h0:b ≠ []):∃ s T,jT pt s T/\readTable b = if T.balls<=T.room then .ok T else .error ⟨8,b.length⟩:=by
 obtain ⟨h,k,hr,hk,he,hz⟩:=g.run
 have hpe:p ≠ 0:=fun q=>h0 (List.length_eq_zero_iff.mp (by omega))
 obtain ⟨k,rfl⟩:∃ j,k = j + 1:=⟨k - 1,by omega⟩
 rw [List.drop_eq_nil_of_le hp,FN] at he
 cases hr with
 | none=>rcases hz with q | q;exact (hpe q).elim;exact (q rfl).elim
 | some r =>
  rename_i h
  refine ⟨h.sort,h.T,r,?_⟩
  unfold readTable
  rw [he]
end Pb
namespace Pb
open Tilt
noncomputable def pR (x:Now) (shows:Nat):Now:=if shows = x.shows then { x with still:=min REST (x.still + 1) } else { x with shows:=shows,still:=0 }
noncomputable def tf (x:Now):Now:={ x with left:=0,tries:=0,want:=x.want - 1 }
noncomputable def BB (a:Now) (i:Nat):Now × List Nat :=
  (if a.shows < a.count/\0 < a.tries then tf { a with count:=a.shows } else { a with count:=a.shows },
   List.replicate (a.shows - a.count) (144 + i) ++ List.replicate (a.count - a.shows) (152 + i))
noncomputable def Q8 (b:Now):Now:={ b with want:=min WANTS (b.want + 1) }
noncomputable def nZ (c:Now) (i:Nat):Now × List Nat × Bool :=
 if c.left = 0 then (c,[],false) else if 0 < c.left - 1 then ({ c with left:=c.left - 1 },[],false)
 else if c.tries = TRIES then (tf { c with left:=c.left - 1 },[160 + i],true) else ({ c with left:=c.left - 1 },[],true)
noncomputable def DG (d:Now):Bool:=decide (d.left = 0) && (decide (d.still = REST) && (decide (0 < d.count) && decide (0 < d.want)))
noncomputable def Pn (d:Now):Now:={ d with tries:=d.tries + 1,left:=TRY }
noncomputable def jV (asked:Bool) (b:Now):Now:=if asked = true then Q8 b else b
noncomputable def aP (a:Now) (i:Nat):Now × List Nat:=if a.still = REST then BB a i else (a,[])
noncomputable def FX (x:Now) (i shows:Nat) (asked:Bool):NowTold :=
 let b:=aP (pR x shows) i
 let c:=jV asked b.1
 let d:=nZ c i
 if d.2.2 = false/\DG d.1 = true then ⟨Pn d.1,b.2 ++ d.2.1,true⟩ else ⟨d.1,b.2 ++ d.2.1,false⟩
theorem rec_eq (a:Now) (i:Nat) (h:a.still = REST) :
    (let moved:=decide (a.still = REST) && a.shows != a.count
     let less:=moved && decide (a.shows < a.count)
     ((if moved = false then a else if less = true/\0 < a.tries then { a with count:=a.shows,left:=0,tries:=0,want:=a.want - 1 } else { a with count:=a.shows }:Now),
      (if moved = false then [] else if less = true then List.replicate (a.count - a.shows) (152 + i) else List.replicate (a.shows - a.count) (144 + i):List Nat))) = BB a i:=by
  obtain ⟨sh,st,co,wa,tr,le⟩:=a
  dsimp only at h ⊢
  subst h
  unfold BB tf
  dsimp only
  by_cases h1:sh = co
  · subst h1
    simp
  · have hb:(sh != co) = true:=by simpa using h1
    simp only [hb,decide_true,Bool.true_and,Bool.and_self]
    by_cases h2:sh < co
    · simp [h2,show sh - co = 0 by omega]
    · simp [h2,show co - sh = 0 by omega]
theorem DH (x:Now) (i shows:Nat) (asked:Bool):Now.tick x i shows asked = FX x i shows asked:=by
 unfold Now.tick FX
 dsimp only
 have ha:(if shows = x.shows then { x with still:=min REST (x.still + 1) } else { x with shows:=shows,still:=0 }:Now) = pR x shows:=rfl
 rw [ha]
 generalize pR x shows = a
 have hb:((if (decide (a.still = REST) && a.shows != a.count) = false then a else if ((decide (a.still = REST) && a.shows != a.count) && decide (a.shows < a.count)) = true/\0 < a.tries then { a with count:=a.shows,left:=0,tries:=0,want:=a.want - 1 } else { a with count:=a.shows }:Now),
   (if (decide (a.still = REST) && a.shows != a.count) = false then [] else if ((decide (a.still = REST) && a.shows != a.count) && decide (a.shows < a.count)) = true then List.replicate (a.count - a.shows) (152 + i) else List.replicate (a.shows - a.count) (144 + i):List Nat)) = aP a i:=by
  unfold aP
  by_cases h:a.still = REST
  ·rw [if_pos h,←rec_eq a i h]
  ·rw [if_neg h]
   simp [h]
 have hb1:=congrArg Prod.fst hb
 have hb2:=congrArg Prod.snd hb
 dsimp only at hb1 hb2
 rw [hb1,hb2]
 generalize (aP a i).1 = b
 generalize (aP a i).2 = e1
 have hc:(if asked = true then { b with want:=min WANTS (b.want + 1) } else b:Now) = jV asked b:=rfl
 rw [hc]
 generalize jV asked b = c
 obtain ⟨sh,st,co,wa,tr,le⟩:=c
 unfold nZ DG Pn tf
 dsimp only
 by_cases h0:le = 0
 ·subst h0;simp
 ·by_cases h1:le = 1
  ·subst h1
   by_cases h3:tr = TRIES
   ·simp [h3]
   ·simp [h3]
  ·have h2:0 < le - 1:=by omega
   simp [h0,h1,h2]
structure Good (m:Nat) (n:Now):Prop where
 Mx:0 < n.tries->0 < n.want
 still:n.still<=REST
 shows:n.shows<=m
 count:n.count<=m
theorem Good.look {m:Nat} {n:Now} {s:Nat} (g:Good m n) (hs:s<=m):Good m (pR n s):=by
 unfold pR
 split
 ·exact ⟨g.Mx,Nat.min_le_left _ _,g.shows,g.count⟩
 ·exact ⟨g.Mx,Nat.zero_le _,hs,g.count⟩
theorem Good.settle {m:Nat} {n:Now} (g:Good m n):Good m (tf n):=⟨fun h=>absurd h (Nat.lt_irrefl 0),g.still,g.shows,g.count⟩
theorem Good.rest {m:Nat} {n:Now} {i:Nat} (g:Good m n):Good m (aP n i).1:=by
 unfold aP
 split
 ·unfold BB
  dsimp only
  split
  ·exact Good.settle ⟨g.Mx,g.still,g.shows,g.shows⟩
  ·exact ⟨g.Mx,g.still,g.shows,g.shows⟩
 ·exact g
theorem Good.ask {m:Nat} {n:Now} (g:Good m n):Good m (Q8 n):=⟨fun _=>by show 0 < min WANTS (n.want + 1);unfold WANTS;omega,g.still,g.shows,g.count⟩
theorem Good.pass {m:Nat} {n:Now} {i:Nat} (g:Good m n):Good m (nZ n i).1:=by
 unfold nZ
 split
 ·exact g
 ·split
  ·exact ⟨g.Mx,g.still,g.shows,g.count⟩
  ·split
   ·exact Good.settle ⟨g.Mx,g.still,g.shows,g.count⟩
   ·exact ⟨g.Mx,g.still,g.shows,g.count⟩
theorem Good.tick {m:Nat} {n:Now} {i s:Nat} {asked:Bool} (g:Good m n) (hs:s<=m):Good m (Now.tick n i s asked).now:=by
 rw [DH]
 unfold FX
 dsimp only
 have g1:=(g.look hs).rest (i:=i)
 have g2:Good m (jV asked (aP (pR n s) i).1):=by
  unfold jV
  split
  ·exact g1.ask
  ·exact g1
 have g3:=g2.pass (i:=i)
 split
 ·rename_i h
  refine ⟨fun _=>?_,g3.still,g3.shows,g3.count⟩
  have:=h.2
  unfold DG at this
  simp only [Bool.and_eq_true,decide_eq_true_eq] at this
  exact this.2.2.2
 ·exact g3
theorem CP {m:Nat} {n:Now} {i s:Nat} {asked:Bool} (g:Good m n) (hs:s<=m):(Now.tick n i s asked).events.length<=m + 1:=by
 rw [DH]
 unfold FX
 dsimp only
 have h1:(aP (pR n s) i).2.length<=m:=by
  have g1:=g.look hs
  unfold aP
  split
  ·unfold BB
   dsimp only
   rw [List.length_append,List.length_replicate,List.length_replicate]
   have:=g1.shows
   have:=g1.count
   omega
  ·simp
 have h2:∀ c:Now,(nZ c i).2.1.length<=1:=fun c=>by
  unfold nZ
  repeat' split
  all_goals simp
 split
 ·dsimp only
  rw [List.length_append]
  have:=h2 (jV asked (aP (pR n s) i).1)
  omega
 ·dsimp only
  rw [List.length_append]
  have:=h2 (jV asked (aP (pR n s) i).1)
  omega
noncomputable def gN (T:Table) (x:Balls) (mask asks:Nat):List NowTold:=(T.devices.zip x.at_).zipIdx.map fun (z:(Device × Now) × Nat)=>z.1.2.tick z.2 (z.1.1.shows mask) (asks.testBit z.2)
theorem tj {T:Table} {x:Balls} {mask asks j:Nat} {d:Device} {n:Now} (h1:T.devices[j]? = some d) (h2:x.at_[j]? = some n):(gN T x mask asks)[j]? = some (n.tick j (d.shows mask) (asks.testBit j)):=by
 unfold gN
 rw [List.getElem?_map,List.getElem?_zipIdx]
 have:(T.devices.zip x.at_)[j]? = some (d,n):=by rw [List.getElem?_zip_eq_some];exact ⟨h1,h2⟩
 rw [this]
 simp
theorem tm {T:Table} {x:Balls} {mask asks:Nat} (h:x.at_.length = T.devices.length):(gN T x mask asks).length = T.devices.length:=by
 unfold gN
 rw [List.length_map,List.length_zipIdx,List.length_zip,h,Nat.min_self]
noncomputable def searchM (k quiet rounds:Nat):Nat × Nat × Option Nat :=
 if quiet + 1 < 15000\/(quiet + 1 - 15000) % 300 ≠ 0 then (quiet + 1,rounds,none) else if (quiet + 1 - 15000) / 300 < k then (quiet + 1,rounds,some ((quiet + 1 - 15000) / 300)) else (0,min 3 (rounds + 1),none)
noncomputable def n8 (T:Table) (i:Nat) (l:List NowTold):List Order:=((T.devices.zip l).filter fun (z:Device × NowTold)=>z.2.pulse).map fun (z:Device × NowTold)=>T.pulseOf i z.1
theorem Au {T:Table} {i:Nat} {x:Balls} {mask asks:Nat} (hq:x.quiet < 15000 + 300 * T.devices.length):T.balls_ i x mask asks =
  if mask ≠ x.mask\/T.large ⟨x.tick + 1,mask,x.quiet,x.rounds,(gN T x mask asks).map (·.now)⟩ = 0\/(⟨x.tick + 1,mask,x.quiet,x.rounds,(gN T x mask asks).map (·.now)⟩:Balls).busy = true
  then (⟨x.tick + 1,mask,0,0,(gN T x mask asks).map (·.now)⟩,(gN T x mask asks).flatMap (·.events),n8 T i (gN T x mask asks))
  else (⟨x.tick + 1,mask,(searchM T.devices.length x.quiet x.rounds).1,(searchM T.devices.length x.quiet x.rounds).2.1,(gN T x mask asks).map (·.now)⟩,(gN T x mask asks).flatMap (·.events),
   n8 T i (gN T x mask asks) ++ (((searchM T.devices.length x.quiet x.rounds).2.2.bind fun j=>T.devices[j]?).map (T.pulseOf i)).toList):=by
 unfold Table.balls_
 dsimp only
 have hl:((T.devices.zip x.at_).zipIdx.map fun (z:(Device × Now) × Nat)=>z.1.2.tick z.2 (z.1.1.shows mask) (asks.testBit z.2)) = gN T x mask asks:=rfl
 rw [hl]
 have ho:(((T.devices.zip (gN T x mask asks)).filter fun (z:Device × NowTold)=>z.2.pulse).map fun (z:Device × NowTold)=>T.pulseOf i z.1) = n8 T i (gN T x mask asks):=rfl
 rw [ho]
 generalize gN T x mask asks = l
 split
 ·rfl
 ·unfold searchM QUIET EACH ROUNDS
  by_cases h1:x.quiet + 1 = 15000 + 300 * T.devices.length
  ·rw [if_pos h1]
   have e1:x.quiet + 1 - 15000 = 300 * T.devices.length:=by omega
   rw [if_neg (show ¬ (x.quiet + 1 < 15000\/(x.quiet + 1 - 15000) % 300 ≠ 0) by omega),if_neg (show ¬ (x.quiet + 1 - 15000) / 300 < T.devices.length by omega)]
   simp
  ·rw [if_neg h1]
   by_cases h2:x.quiet + 1 < 15000\/(x.quiet + 1 - 15000) % 300 ≠ 0
   ·rw [if_pos h2,if_neg (show ¬ (15000<=x.quiet + 1/\(x.quiet + 1 - 15000) % 300 = 0) by omega)]
    rfl
   ·rw [if_neg h2,if_pos (show 15000<=x.quiet + 1/\(x.quiet + 1 - 15000) % 300 = 0 by omega),if_pos (show (x.quiet + 1 - 15000) / 300 < T.devices.length by omega)]
    rfl
structure pT (T:Table) (x:Balls):Prop where
 len:x.at_.length = T.devices.length
 quiet:x.quiet < 15000 + 300 * T.devices.length
 rounds:x.rounds<=3
 at_:∀ (j:Nat) (d:Device) (n:Now),T.devices[j]? = some d->x.at_[j]? = some n->Good d.at_.length n
theorem rO (d:Device) (mask:Nat):d.shows mask<=d.at_.length:=List.length_filter_le _ _
theorem pT.begun (T:Table) (mask:Nat):pT T (T.ballsBegun mask):=by
 refine ⟨by unfold Table.ballsBegun;simp,by show 0 < _;omega,Nat.zero_le _,fun j d n h1 h2=>?_⟩
 unfold Table.ballsBegun at h2
 dsimp only at h2
 rw [List.getElem?_map,h1] at h2
 cases h2
 exact ⟨fun h=>absurd h (Nat.lt_irrefl 0),Nat.le_refl _,rO _ _,rO _ _⟩
theorem HU {k quiet rounds:Nat} (hq:quiet < 15000 + 300 * k) (hr:rounds<=3):(searchM k quiet rounds).1 < 15000 + 300 * k/\(searchM k quiet rounds).2.1<=3:=by
 unfold searchM
 repeat' split
 all_goals dsimp only
 all_goals omega
theorem pT.tick {T:Table} {x:Balls} (g:pT T x) (i mask asks:Nat):pT T (T.balls_ i x mask asks).1:=by
 have hl:=tm (T:=T) (x:=x) (mask:=mask) (asks:=asks) g.len
 have hat:∀ (j:Nat) (d:Device) (n:Now),T.devices[j]? = some d->((gN T x mask asks).map (·.now))[j]? = some n->Good d.at_.length n:=fun j d n h1 h2=>by
  have hj:j < x.at_.length:=by rw [g.len];exact (List.getElem?_eq_some_iff.mp h1).1
  obtain ⟨m,hm⟩:∃ m,x.at_[j]? = some m:=⟨_,List.getElem?_eq_getElem hj⟩
  rw [List.getElem?_map,tj h1 hm] at h2
  cases h2
  exact (g.at_ j d m h1 hm).tick (rO _ _)
 rw [Au g.quiet]
 split
 ·exact ⟨by dsimp only;rw [List.length_map,hl],by dsimp only;omega,by dsimp only;omega,hat⟩
 ·obtain ⟨s1,s2⟩:=HU (k:=T.devices.length) g.quiet g.rounds
  exact ⟨by dsimp only;rw [List.length_map,hl],s1,s2,hat⟩
theorem rP {T:Table} {i:Nat} {x:Balls} {z:Nat × Nat} {l:List (Nat × Nat)}:T.ballsFrom i x (z :: l) = ((T.ballsFrom (i + 1) (T.balls_ i x z.1 z.2).1 l).1,
  (T.balls_ i x z.1 z.2).2.1.map (fun (e:Nat)=>(i,e)) ++ (T.ballsFrom (i + 1) (T.balls_ i x z.1 z.2).1 l).2.1,(T.balls_ i x z.1 z.2).2.2 ++ (T.ballsFrom (i + 1) (T.balls_ i x z.1 z.2).1 l).2.2):=rfl
theorem vI {A B:Type} {f:A->List B} {m:Nat}:∀ {l:List A},(∀ a ∈ l,(f a).length<=m)->(l.flatMap f).length<=m * l.length
 | [],_=>Nat.zero_le _
 | a :: l,h=>by
  rw [List.flatMap_cons,List.length_append,List.length_cons,Nat.mul_succ]
  have h1:=h a (List.mem_cons_self ..)
  have h2:=vI (l:=l) fun b hb=>h b (List.mem_cons_of_mem _ hb)
  omega
theorem Av {T:Table} {x:Balls} (g:pT T x) (h8:T.devices.length<=8) (ha:∀ d ∈ T.devices,d.at_.length<=8) (i mask asks:Nat):(T.balls_ i x mask asks).2.1.length<=72/\(T.balls_ i x mask asks).2.2.length<=9:=by
 have hl:=tm (T:=T) (x:=x) (mask:=mask) (asks:=asks) g.len
 have he:((gN T x mask asks).flatMap (·.events)).length<=72:=by
  have:=vI (f:=fun (z:NowTold)=>z.events) (m:=9) (l:=gN T x mask asks) fun z hz=>by
   obtain ⟨j,hj⟩:=List.getElem?_of_mem hz
   have hjl:j < T.devices.length:=by rw [←hl];exact (List.getElem?_eq_some_iff.mp hj).1
   obtain ⟨d,hd⟩:∃ d,T.devices[j]? = some d:=⟨_,List.getElem?_eq_getElem hjl⟩
   obtain ⟨n,hn⟩:∃ n,x.at_[j]? = some n:=⟨_,List.getElem?_eq_getElem (by rw [g.len];exact hjl)⟩
   rw [tj hd hn] at hj
   cases hj
   have h1:=CP (i:=j) (asked:=asks.testBit j) (g.at_ j d n hd hn) (rO d mask)
   have h2:=ha d (List.mem_of_getElem? hd)
   omega
  rw [hl] at this
  exact Nat.le_trans this (by omega)
 have ho:(n8 T i (gN T x mask asks)).length<=8:=by
  unfold n8
  rw [List.length_map]
  refine Nat.le_trans (List.length_filter_le _ _) ?_
  rw [List.length_zip]
  exact Nat.le_trans (Nat.min_le_left _ _) h8
 rw [Au g.quiet]
 split
 ·exact ⟨he,Nat.le_succ_of_le ho⟩
 ·refine ⟨he,?_⟩
  dsimp only
  rw [List.length_append]
  have:∀ o:Option Order,o.toList.length<=1:=fun o=>by cases o <;> simp
  have:=this (((searchM T.devices.length x.quiet x.rounds).2.2.bind fun j=>T.devices[j]?).map (T.pulseOf i))
  omega
structure M6 (T:Table) (x:Balls) (l:List (Nat × Nat)) (i:Nat) (y:Balls) (ev:List (Nat × Nat)) (os:List Order):Prop where
 eq:T.ballsFrom 0 x l = ((T.ballsFrom i y (l.drop i)).1,ev ++ (T.ballsFrom i y (l.drop i)).2.1,os ++ (T.ballsFrom i y (l.drop i)).2.2)
 good:pT T y
theorem M6.start {T:Table} {x:Balls} (g:pT T x) (l:List (Nat × Nat)):M6 T x l 0 x [] []:=⟨rfl,g⟩
theorem M6.step {T:Table} {x:Balls} {l:List (Nat × Nat)} {i:Nat} {y:Balls} {ev:List (Nat × Nat)} {os:List Order} (r:M6 T x l i y ev os) {m a:Nat} (h:l[i]? = some (m,a)) :
  M6 T x l (i + 1) (T.balls_ i y m a).1 (ev ++ (T.balls_ i y m a).2.1.map fun e=>(i,e)) (os ++ (T.balls_ i y m a).2.2):=by
 refine ⟨?_,r.good.tick i m a⟩
 rw [r.eq,zG h,rP]
 dsimp only
 rw [List.append_assoc,List.append_assoc]
theorem M6.fin {T:Table} {x:Balls} {l:List (Nat × Nat)} {y:Balls} {ev:List (Nat × Nat)} {os:List Order} (r:M6 T x l l.length y ev os):T.ballsFrom 0 x l = (y,ev,os):=by
 rw [r.eq,List.drop_length]
 show (y,ev ++ [],os ++ []) = _
 rw [List.append_nil,List.append_nil]
end Pb
namespace Pb
open PySem PySem.Spec PyProof.Rows L2
noncomputable def top (i:Nat):Stmt:=PySem.Challenge.pw_pinballs_s01_answers.main.body.getD i (.Pass ⟨0,0,0,0⟩)
abbrev ny:Stmt:=inClass (top 8) 0
abbrev kH:Stmt:=inClass (top 8) 1
abbrev kI:Stmt:=inClass (top 8) 2
abbrev jW:Stmt:=inClass (top 9) 0
abbrev i5:Stmt:=top 10
abbrev wY:Stmt:=top 11
abbrev oZ:Stmt:=top 12
abbrev HV:Stmt:=top 13
abbrev wZ:Stmt:=top 14
abbrev Aw:Stmt:=top 15
abbrev uL:Stmt:=top 16
abbrev w9:Stmt:=top 17
abbrev rQ:Stmt:=top 18
abbrev f9:Stmt:=inClass (top 23) 0
abbrev pU:Stmt:=top 24
abbrev jX:Stmt:=top 25
abbrev kJ:Stmt:=top 26
abbrev lY:Stmt:=top 27
abbrev rR:Stmt:=top 28
abbrev i6:Stmt:=top 29
abbrev rS:Stmt:=top 30
abbrev kK:Stmt:=inClass (top 45) 0
abbrev lZ:Stmt:=inClass (top 46) 0
abbrev l7:Stmt:=inClass (top 47) 0
abbrev rT:Stmt:=inClass (top 47) 1
abbrev rV:Stmt:=inClass (top 47) 2
abbrev jY:Stmt:=inClass (top 47) 3
abbrev qt:Stmt:=inClass (top 47) 4
abbrev rW:Stmt:=top 48
abbrev uM:Stmt:=top 49
abbrev o5:Stmt:=top 50
abbrev uN:Stmt:=top 51
abbrev l8:Stmt:=top 52
abbrev pV:Stmt:=top 53
abbrev xa:Stmt:=top 54
abbrev xb:Stmt:=top 55
abbrev qu:Stmt:=top 56
abbrev rX:Stmt:=top 57
abbrev o6:Stmt:=top 58
abbrev rY:Stmt:=top 59
abbrev uO:Stmt:=top 60
abbrev l9:Stmt:=inClass (top 72) 0
abbrev ma:Stmt:=inClass (top 73) 0
abbrev kM:Stmt:=inClass (top 74) 0
abbrev md:Stmt:=top 75
abbrev qv:Stmt:=top 76
abbrev qw:Stmt:=top 77
abbrev kN:Stmt:=top 78
abbrev kO:Stmt:=top 79
abbrev jB:Stmt:=top 80
abbrev rZ:Stmt:=top 81
abbrev o7:Stmt:=top 82
abbrev r9:Stmt:=top 83
abbrev sd:Stmt:=top 84
abbrev o8:Stmt:=top 85
abbrev se:Stmt:=top 86
abbrev uP:Stmt:=top 88
abbrev sg:Stmt:=top 89
abbrev si:Stmt:=top 90
abbrev qx:Stmt:=top 91
abbrev me:Stmt:=inClass (top 101) 0
abbrev qy:Stmt:=inClass (top 101) 1
abbrev kP:Stmt:=inClass (top 101) 2
abbrev jZ:Stmt:=inClass (top 101) 3
abbrev jC:Stmt:=inClass (top 101) 4
abbrev jD:Stmt:=inClass (top 101) 5
abbrev sj:Stmt:=top 102
abbrev HW:Stmt:=top 103
abbrev mf:Stmt:=inClass (top 109) 0
abbrev sk:Stmt:=inClass (top 109) 1
abbrev so:Stmt:=inClass (top 109) 2
abbrev mh:Stmt:=inClass (top 109) 3
abbrev xf:Stmt:=top 110
abbrev o9:Stmt:=top 111
theorem yI:au ["self"] ["self"] (ak ny):=⟨rfl,rfl,rfl,by decide +kernel,rfl,by decide +kernel,by decide +kernel⟩
theorem vJ:au ["self","event"] ["self","event"] (ak kH):=⟨rfl,rfl,rfl,by decide +kernel,rfl,by decide +kernel,by decide +kernel⟩
theorem vK:au ["self","plan"] ["self","plan"] (ak kI):=⟨rfl,rfl,rfl,by decide +kernel,rfl,by decide +kernel,by decide +kernel⟩
theorem uQ:au ["self","number","plan","mask"] ["self","number","plan","mask"] (ak jW):=⟨rfl,rfl,rfl,by decide +kernel,rfl,by decide +kernel,by decide +kernel⟩
theorem nz:au ["plan","mask","spot"] ["plan","mask"] (ak i5):=⟨rfl,rfl,rfl,by decide +kernel,rfl,by decide +kernel,by decide +kernel⟩
theorem HX:au ["device"] ["device"] (ak wY):=⟨rfl,rfl,rfl,by decide +kernel,rfl,by decide +kernel,by decide +kernel⟩
theorem sr:au ["device","mask","asked","log","was_over"] ["device","mask","asked","log"] (ak oZ):=⟨rfl,rfl,rfl,by decide +kernel,rfl,by decide +kernel,by decide +kernel⟩
theorem Js:au ["device","mask","shown"] ["device","mask"] (ak HV):=⟨rfl,rfl,rfl,by decide +kernel,rfl,by decide +kernel,by decide +kernel⟩
theorem qz:au ["device","log","change","step"] ["device","log"] (ak wZ):=⟨rfl,rfl,rfl,by decide +kernel,rfl,by decide +kernel,by decide +kernel⟩
theorem Kn:au ["device"] ["device"] (ak Aw):=⟨rfl,rfl,rfl,by decide +kernel,rfl,by decide +kernel,by decide +kernel⟩
theorem FY:au ["device","log"] ["device","log"] (ak uL):=⟨rfl,rfl,rfl,by decide +kernel,rfl,by decide +kernel,by decide +kernel⟩
theorem HY:au ["device"] ["device"] (ak w9):=⟨rfl,rfl,rfl,by decide +kernel,rfl,by decide +kernel,by decide +kernel⟩
theorem DI:au ["device","log"] ["device","log"] (ak rQ):=⟨rfl,rfl,rfl,by decide +kernel,rfl,by decide +kernel,by decide +kernel⟩
theorem ib:au ["self","table","mask","number","plan"] ["self","table","mask"] (ak f9):=⟨rfl,rfl,rfl,by decide +kernel,rfl,by decide +kernel,by decide +kernel⟩
theorem uR:au ["places","place"] ["places"] (ak pU):=⟨rfl,rfl,rfl,by decide +kernel,rfl,by decide +kernel,by decide +kernel⟩
theorem pb:au ["play","device"] ["play"] (ak jX):=⟨rfl,rfl,rfl,by decide +kernel,rfl,by decide +kernel,by decide +kernel⟩
theorem vL:au ["play"] ["play"] (ak kJ):=⟨rfl,rfl,rfl,by decide +kernel,rfl,by decide +kernel,by decide +kernel⟩
theorem xg:au ["play"] ["play"] (ak lY):=⟨rfl,rfl,rfl,by decide +kernel,rfl,by decide +kernel,by decide +kernel⟩
theorem qA:au ["play","mask","asks","log","device","moved"] ["play","mask","asks","log"] (ak rR):=⟨rfl,rfl,rfl,by decide +kernel,rfl,by decide +kernel,by decide +kernel⟩
theorem nA:au ["play","device"] ["play"] (ak i6):=⟨rfl,rfl,rfl,by decide +kernel,rfl,by decide +kernel,by decide +kernel⟩
theorem qB:au ["play","log","late","number"] ["play","log"] (ak rS):=⟨rfl,rfl,rfl,by decide +kernel,rfl,by decide +kernel,by decide +kernel⟩
theorem vM:au ["self","kind","place"] ["self","kind","place"] (ak kK):=⟨rfl,rfl,rfl,by decide +kernel,rfl,by decide +kernel,by decide +kernel⟩
theorem xh:au ["self","letters","place"] ["self","letters","place"] (ak lZ):=⟨rfl,rfl,rfl,by decide +kernel,rfl,by decide +kernel,by decide +kernel⟩
theorem xi:au ["self","words","finish"] ["self","words","finish"] (ak l7):=⟨rfl,rfl,rfl,by decide +kernel,rfl,by decide +kernel,by decide +kernel⟩
theorem DJ:au ["self"] ["self"] (ak rT):=⟨rfl,rfl,rfl,by decide +kernel,rfl,by decide +kernel,by decide +kernel⟩
theorem vN:au ["self","word"] ["self"] (ak rV):=⟨rfl,rfl,rfl,by decide +kernel,rfl,by decide +kernel,by decide +kernel⟩
theorem uS:au ["self"] ["self"] (ak jY):=⟨rfl,rfl,rfl,by decide +kernel,rfl,by decide +kernel,by decide +kernel⟩
theorem BC:au ["self","letters"] ["self","letters"] (ak qt):=⟨rfl,rfl,rfl,by decide +kernel,rfl,by decide +kernel,by decide +kernel⟩
theorem vO:au ["text","start","finish"] ["text","start"] (ak rW):=⟨rfl,rfl,rfl,by decide +kernel,rfl,by decide +kernel,by decide +kernel⟩
theorem yn:au ["text","start","place"] ["text","start"] (ak uM):=⟨rfl,rfl,rfl,by decide +kernel,rfl,by decide +kernel,by decide +kernel⟩
theorem nB:au ["text","start","finish","place","byte"] ["text","start","finish"] (ak o5):=⟨rfl,rfl,rfl,by decide +kernel,rfl,by decide +kernel,by decide +kernel⟩
theorem FZ:au ["text","start","place","finish"] ["text","start","place","finish"] (ak uN):=⟨rfl,rfl,rfl,by decide +kernel,rfl,by decide +kernel,by decide +kernel⟩
theorem fj:au ["text","start","finish","words","first","place"] ["text","start","finish"] (ak l8):=⟨rfl,rfl,rfl,by decide +kernel,rfl,by decide +kernel,by decide +kernel⟩
theorem uT:au ["row","byte"] ["row"] (ak pV):=⟨rfl,rfl,rfl,by decide +kernel,rfl,by decide +kernel,by decide +kernel⟩
theorem HZ:au ["byte"] ["byte"] (ak xa):=⟨rfl,rfl,rfl,by decide +kernel,rfl,by decide +kernel,by decide +kernel⟩
theorem Ia:au ["letters"] ["letters"] (ak xb):=⟨rfl,rfl,rfl,by decide +kernel,rfl,by decide +kernel,by decide +kernel⟩
theorem ui:au ["line","letters","word"] ["line","letters"] (ak qu):=⟨rfl,rfl,rfl,by decide +kernel,rfl,by decide +kernel,by decide +kernel⟩
theorem vP:au ["line","word"] ["line"] (ak rX):=⟨rfl,rfl,rfl,by decide +kernel,rfl,by decide +kernel,by decide +kernel⟩
theorem nE:au ["line","least","most","word","number"] ["line","least","most"] (ak o6):=⟨rfl,rfl,rfl,by decide +kernel,rfl,by decide +kernel,by decide +kernel⟩
theorem vQ:au ["word","letters"] ["word"] (ak rY):=⟨rfl,rfl,rfl,by decide +kernel,rfl,by decide +kernel,by decide +kernel⟩
theorem F0:au ["line"] ["line"] (ak uO):=⟨rfl,rfl,rfl,by decide +kernel,rfl,by decide +kernel,by decide +kernel⟩
theorem xj:au ["self","most","barred"] ["self","most","barred"] (ak l9):=⟨rfl,rfl,rfl,by decide +kernel,rfl,by decide +kernel,by decide +kernel⟩
theorem xk:au ["self","coil","pulse","spots"] ["self","coil","pulse","spots"] (ak ma):=⟨rfl,rfl,rfl,by decide +kernel,rfl,by decide +kernel,by decide +kernel⟩
theorem vR:au ["self"] ["self"] (ak kM):=⟨rfl,rfl,rfl,by decide +kernel,rfl,by decide +kernel,by decide +kernel⟩
theorem pW:au ["line","known","barred","word"] ["line","known","barred"] (ak md):=⟨rfl,rfl,rfl,by decide +kernel,rfl,by decide +kernel,by decide +kernel⟩
theorem uj:au ["line","roll","word"] ["line","roll"] (ak qv):=⟨rfl,rfl,rfl,by decide +kernel,rfl,by decide +kernel,by decide +kernel⟩
theorem pd:au ["line","roll","name","place"] ["line","roll"] (ak qw):=⟨rfl,rfl,rfl,by decide +kernel,rfl,by decide +kernel,by decide +kernel⟩
theorem n9:au ["table","line","coil"] ["table","line"] (ak kN):=⟨rfl,rfl,rfl,by decide +kernel,rfl,by decide +kernel,by decide +kernel⟩
theorem og:au ["table","line","switch"] ["table","line"] (ak kO):=⟨rfl,rfl,rfl,by decide +kernel,rfl,by decide +kernel,by decide +kernel⟩
theorem iW:au ["table","line","switch","place"] ["table","line"] (ak jB):=⟨rfl,rfl,rfl,by decide +kernel,rfl,by decide +kernel,by decide +kernel⟩
theorem DK:au ["table","line"] ["table","line"] (ak rZ):=⟨rfl,rfl,rfl,by decide +kernel,rfl,by decide +kernel,by decide +kernel⟩
theorem Ax:au ["table","line"] ["table","line"] (ak o7):=⟨rfl,rfl,rfl,by decide +kernel,rfl,by decide +kernel,by decide +kernel⟩
theorem DL:au ["table","line"] ["table","line"] (ak r9):=⟨rfl,rfl,rfl,by decide +kernel,rfl,by decide +kernel,by decide +kernel⟩
theorem vS:au ["table","line","coil"] ["table","line"] (ak sd):=⟨rfl,rfl,rfl,by decide +kernel,rfl,by decide +kernel,by decide +kernel⟩
theorem gO:au ["table","line","name","coil","spots","pulse"] ["table","line"] (ak o8):=⟨rfl,rfl,rfl,by decide +kernel,rfl,by decide +kernel,by decide +kernel⟩
theorem qC:au ["table","line","switch","coil"] ["table","line"] (ak se):=⟨rfl,rfl,rfl,by decide +kernel,rfl,by decide +kernel,by decide +kernel⟩
theorem F1:au ["table","rank"] ["table","rank"] (ak uP):=⟨rfl,rfl,rfl,by decide +kernel,rfl,by decide +kernel,by decide +kernel⟩
theorem mF:au ["table","line","word","rank","sort"] ["table","line"] (ak sg):=⟨rfl,rfl,rfl,by decide +kernel,rfl,by decide +kernel,by decide +kernel⟩
theorem vT:au ["table","line","reader"] ["table","line"] (ak si):=⟨rfl,rfl,rfl,by decide +kernel,rfl,by decide +kernel,by decide +kernel⟩
theorem i7:au ["text","table","start","line"] ["text"] (ak qx):=⟨rfl,rfl,rfl,by decide +kernel,rfl,by decide +kernel,by decide +kernel⟩
theorem xm:au ["self"] ["self"] (ak me):=⟨rfl,rfl,rfl,by decide +kernel,rfl,by decide +kernel,by decide +kernel⟩
theorem lA:au ["self","mask","text","table","fault","play"] ["self","mask","text"] (ak qy):=⟨rfl,rfl,rfl,by decide +kernel,rfl,by decide +kernel,by decide +kernel⟩
theorem j0:au ["self","pairs","log","tick"] ["self","pairs"] (ak kP):=⟨rfl,rfl,rfl,by decide +kernel,rfl,by decide +kernel,by decide +kernel⟩
theorem uU:au ["self"] ["self"] (ak jZ):=⟨rfl,rfl,rfl,by decide +kernel,rfl,by decide +kernel,by decide +kernel⟩
theorem mr:au ["self","number","device"] ["self","number"] (ak jC):=⟨rfl,rfl,rfl,by decide +kernel,rfl,by decide +kernel,by decide +kernel⟩
theorem tV:au ["self"] ["self"] (ak jD):=⟨rfl,rfl,rfl,by decide +kernel,rfl,by decide +kernel,by decide +kernel⟩
theorem mG:au ["play","pairs","index","number","known"] ["play","pairs"] (ak sj):=⟨rfl,rfl,rfl,by decide +kernel,rfl,by decide +kernel,by decide +kernel⟩
theorem Jt:au ["log","answer"] ["log"] (ak HW):=⟨rfl,rfl,rfl,by decide +kernel,rfl,by decide +kernel,by decide +kernel⟩
theorem xn:au ["self","numbers"] ["self","numbers"] (ak mf):=⟨rfl,rfl,rfl,by decide +kernel,rfl,by decide +kernel,by decide +kernel⟩
theorem DM:au ["self"] ["self"] (ak sk):=⟨rfl,rfl,rfl,by decide +kernel,rfl,by decide +kernel,by decide +kernel⟩
theorem vU:au ["self","number"] ["self"] (ak so):=⟨rfl,rfl,rfl,by decide +kernel,rfl,by decide +kernel,by decide +kernel⟩
theorem kQ:au ["self","length","row"] ["self"] (ak mh):=⟨rfl,rfl,rfl,by decide +kernel,rfl,by decide +kernel,by decide +kernel⟩
theorem nF:au ["calls","game","tape","given","answer"] ["calls"] (ak xf):=⟨rfl,rfl,rfl,by decide +kernel,rfl,by decide +kernel,by decide +kernel⟩
theorem nG:au ["game","tape","number","mask"] ["game","tape"] (ak o9):=⟨rfl,rfl,rfl,by decide +kernel,rfl,by decide +kernel,by decide +kernel⟩
noncomputable def vV (x0:Int) (x1:Addr) (x2:Addr):List (Str × V):=[("tick",V.int x0),("events",V.ref x1),("pulses",V.ref x2)]
theorem Po {x0:Int} {x1:Addr} {x2:Addr}:(vV x0 x1 x2).length < 1000:=(by show 3 < 1000;decide)
theorem yo {x0:Int} {x1:Addr} {x2:Addr}:(vV x0 x1 x2).lookup ("tick" : Str) = some (V.int x0):=rfl
theorem F2 {x0:Int} {x1:Addr} {x2:Addr} {y:Int}:gA "tick" (V.int y) (vV x0 x1 x2) = vV y x1 x2:=rfl
theorem pf {x0:Int} {x1:Addr} {x2:Addr}:(vV x0 x1 x2).lookup ("events" : Str) = some (V.ref x1):=rfl
theorem ph {x0:Int} {x1:Addr} {x2:Addr}:(vV x0 x1 x2).lookup ("pulses" : Str) = some (V.ref x2):=rfl
theorem j1 {x0:Int} {x1:Addr} {x2:Addr}:(vV x0 x1 x2).lookup ("tell_event" : Str) = none:=rfl
theorem oh {x0:Int} {x1:Addr} {x2:Addr}:(vV x0 x1 x2).lookup ("tell_pulse" : Str) = none:=rfl
noncomputable def a0 (x0:Int) (x1:Addr) (x2:Int) (x3:Int) (x4:Int) (x5:Int) (x6:Int) (x7:Int):List (Str × V):=[("number",V.int x0),("plan",V.ref x1),("shown",V.int x2),("steady",V.int x3),("count",V.int x4),("due",V.int x5),("tried",V.int x6),("left",V.int x7)]
theorem et {x0:Int} {x1:Addr} {x2:Int} {x3:Int} {x4:Int} {x5:Int} {x6:Int} {x7:Int}:(a0 x0 x1 x2 x3 x4 x5 x6 x7).length < 1000:=(by show 8 < 1000;decide)
theorem ic {x0:Int} {x1:Addr} {x2:Int} {x3:Int} {x4:Int} {x5:Int} {x6:Int} {x7:Int}:(a0 x0 x1 x2 x3 x4 x5 x6 x7).lookup ("number" : Str) = some (V.int x0):=rfl
theorem nH {x0:Int} {x1:Addr} {x2:Int} {x3:Int} {x4:Int} {x5:Int} {x6:Int} {x7:Int}:(a0 x0 x1 x2 x3 x4 x5 x6 x7).lookup ("plan" : Str) = some (V.ref x1):=rfl
theorem jf {x0:Int} {x1:Addr} {x2:Int} {x3:Int} {x4:Int} {x5:Int} {x6:Int} {x7:Int}:(a0 x0 x1 x2 x3 x4 x5 x6 x7).lookup ("shown" : Str) = some (V.int x2):=rfl
theorem kR {x0:Int} {x1:Addr} {x2:Int} {x3:Int} {x4:Int} {x5:Int} {x6:Int} {x7:Int}:(a0 x0 x1 x2 x3 x4 x5 x6 x7).lookup ("steady" : Str) = some (V.int x3):=rfl
theorem xo {x0:Int} {x1:Addr} {x2:Int} {x3:Int} {x4:Int} {x5:Int} {x6:Int} {x7:Int} {y:Int}:gA "steady" (V.int y) (a0 x0 x1 x2 x3 x4 x5 x6 x7) = a0 x0 x1 x2 y x4 x5 x6 x7:=rfl
theorem jg {x0:Int} {x1:Addr} {x2:Int} {x3:Int} {x4:Int} {x5:Int} {x6:Int} {x7:Int}:(a0 x0 x1 x2 x3 x4 x5 x6 x7).lookup ("count" : Str) = some (V.int x4):=rfl
theorem yJ {x0:Int} {x1:Addr} {x2:Int} {x3:Int} {x4:Int} {x5:Int} {x6:Int} {x7:Int} {y:Int}:gA "count" (V.int y) (a0 x0 x1 x2 x3 x4 x5 x6 x7) = a0 x0 x1 x2 x3 y x5 x6 x7:=rfl
theorem gf {x0:Int} {x1:Addr} {x2:Int} {x3:Int} {x4:Int} {x5:Int} {x6:Int} {x7:Int}:(a0 x0 x1 x2 x3 x4 x5 x6 x7).lookup ("due" : Str) = some (V.int x5):=rfl
theorem uk {x0:Int} {x1:Addr} {x2:Int} {x3:Int} {x4:Int} {x5:Int} {x6:Int} {x7:Int} {y:Int}:gA "due" (V.int y) (a0 x0 x1 x2 x3 x4 x5 x6 x7) = a0 x0 x1 x2 x3 x4 y x6 x7:=rfl
theorem jh {x0:Int} {x1:Addr} {x2:Int} {x3:Int} {x4:Int} {x5:Int} {x6:Int} {x7:Int}:(a0 x0 x1 x2 x3 x4 x5 x6 x7).lookup ("tried" : Str) = some (V.int x6):=rfl
theorem fk {x0:Int} {x1:Addr} {x2:Int} {x3:Int} {x4:Int} {x5:Int} {x6:Int} {x7:Int}:(a0 x0 x1 x2 x3 x4 x5 x6 x7).lookup ("left" : Str) = some (V.int x7):=rfl
theorem Ay {x0:Int} {x1:Addr} {x2:Int} {x3:Int} {x4:Int} {x5:Int} {x6:Int} {x7:Int} {y:Int}:gA "left" (V.int y) (a0 x0 x1 x2 x3 x4 x5 x6 x7) = a0 x0 x1 x2 x3 x4 x5 x6 y:=rfl
noncomputable def eF (x0:Int) (x1:Addr) (x2:Int) (x3:Int) (x4:Int) (x5:Int) (x6:Int) (x7:Int):List (Str × V):=[("balls",V.int x0),("devices",V.ref x1),("known_places",V.int x2),("known_asks",V.int x3),("mask",V.int x4),("quiet",V.int x5),("rounds",V.int x6),("ticks",V.int x7)]
theorem mH {x0:Int} {x1:Addr} {x2:Int} {x3:Int} {x4:Int} {x5:Int} {x6:Int} {x7:Int}:(eF x0 x1 x2 x3 x4 x5 x6 x7).length < 1000:=(by show 8 < 1000;decide)
theorem BD {x0:Int} {x1:Addr} {x2:Int} {x3:Int} {x4:Int} {x5:Int} {x6:Int} {x7:Int}:(eF x0 x1 x2 x3 x4 x5 x6 x7).lookup ("balls" : Str) = some (V.int x0):=rfl
theorem c4 {x0:Int} {x1:Addr} {x2:Int} {x3:Int} {x4:Int} {x5:Int} {x6:Int} {x7:Int}:(eF x0 x1 x2 x3 x4 x5 x6 x7).lookup ("devices" : Str) = some (V.ref x1):=rfl
theorem su {x0:Int} {x1:Addr} {x2:Int} {x3:Int} {x4:Int} {x5:Int} {x6:Int} {x7:Int}:(eF x0 x1 x2 x3 x4 x5 x6 x7).lookup ("known_places" : Str) = some (V.int x2):=rfl
theorem uV {x0:Int} {x1:Addr} {x2:Int} {x3:Int} {x4:Int} {x5:Int} {x6:Int} {x7:Int}:(eF x0 x1 x2 x3 x4 x5 x6 x7).lookup ("known_asks" : Str) = some (V.int x3):=rfl
theorem DN {x0:Int} {x1:Addr} {x2:Int} {x3:Int} {x4:Int} {x5:Int} {x6:Int} {x7:Int}:(eF x0 x1 x2 x3 x4 x5 x6 x7).lookup ("mask" : Str) = some (V.int x4):=rfl
theorem DO {x0:Int} {x1:Addr} {x2:Int} {x3:Int} {x4:Int} {x5:Int} {x6:Int} {x7:Int} {y:Int}:gA "mask" (V.int y) (eF x0 x1 x2 x3 x4 x5 x6 x7) = eF x0 x1 x2 x3 y x5 x6 x7:=rfl
theorem pj {x0:Int} {x1:Addr} {x2:Int} {x3:Int} {x4:Int} {x5:Int} {x6:Int} {x7:Int}:(eF x0 x1 x2 x3 x4 x5 x6 x7).lookup ("quiet" : Str) = some (V.int x5):=rfl
theorem um {x0:Int} {x1:Addr} {x2:Int} {x3:Int} {x4:Int} {x5:Int} {x6:Int} {x7:Int} {y:Int}:gA "quiet" (V.int y) (eF x0 x1 x2 x3 x4 x5 x6 x7) = eF x0 x1 x2 x3 x4 y x6 x7:=rfl
theorem nI {x0:Int} {x1:Addr} {x2:Int} {x3:Int} {x4:Int} {x5:Int} {x6:Int} {x7:Int}:(eF x0 x1 x2 x3 x4 x5 x6 x7).lookup ("rounds" : Str) = some (V.int x6):=rfl
theorem Az {x0:Int} {x1:Addr} {x2:Int} {x3:Int} {x4:Int} {x5:Int} {x6:Int} {x7:Int} {y:Int}:gA "rounds" (V.int y) (eF x0 x1 x2 x3 x4 x5 x6 x7) = eF x0 x1 x2 x3 x4 x5 y x7:=rfl
theorem uo {x0:Int} {x1:Addr} {x2:Int} {x3:Int} {x4:Int} {x5:Int} {x6:Int} {x7:Int}:(eF x0 x1 x2 x3 x4 x5 x6 x7).lookup ("ticks" : Str) = some (V.int x7):=rfl
theorem BE {x0:Int} {x1:Addr} {x2:Int} {x3:Int} {x4:Int} {x5:Int} {x6:Int} {x7:Int} {y:Int}:gA "ticks" (V.int y) (eF x0 x1 x2 x3 x4 x5 x6 x7) = eF x0 x1 x2 x3 x4 x5 x6 y:=rfl
noncomputable def AA (x0:Str) (x1:Int):List (Str × V):=[("letters",V.str x0),("place",V.int x1)]
theorem bK {x0:Str} {x1:Int}:(AA x0 x1).lookup ("letters" : Str) = some (V.str x0):=rfl
theorem bx {x0:Str} {x1:Int}:(AA x0 x1).lookup ("place" : Str) = some (V.int x1):=rfl
noncomputable def nJ (x0:Addr) (x1:Int) (x2:Int):List (Str × V):=[("words",V.ref x0),("finish",V.int x1),("taken",V.int x2)]
theorem M7 {x0:Addr} {x1:Int} {x2:Int}:(nJ x0 x1 x2).length < 1000:=(by show 3 < 1000;decide)
theorem i8 {x0:Addr} {x1:Int} {x2:Int}:(nJ x0 x1 x2).lookup ("words" : Str) = some (V.ref x0):=rfl
theorem sv {x0:Addr} {x1:Int} {x2:Int}:(nJ x0 x1 x2).lookup ("finish" : Str) = some (V.int x1):=rfl
theorem gi {x0:Addr} {x1:Int} {x2:Int}:(nJ x0 x1 x2).lookup ("taken" : Str) = some (V.int x2):=rfl
theorem BF {x0:Addr} {x1:Int} {x2:Int} {y:Int}:gA "taken" (V.int y) (nJ x0 x1 x2) = nJ x0 x1 y:=rfl
theorem fS {x0:Addr} {x1:Int} {x2:Int}:(nJ x0 x1 x2).lookup ("more" : Str) = none:=rfl
theorem mI {x0:Addr} {x1:Int} {x2:Int}:(nJ x0 x1 x2).lookup ("take" : Str) = none:=rfl
theorem b3 {x0:Addr} {x1:Int} {x2:Int}:(nJ x0 x1 x2).lookup ("last_place" : Str) = none:=rfl
theorem BG {x0:Addr} {x1:Int} {x2:Int}:(nJ x0 x1 x2).lookup ("comes" : Str) = none:=rfl
noncomputable def mv (x0:Addr) (x1:Int) (x2:Int) (x3:Str):List (Str × V):=[("places",V.ref x0),("highest",V.int x1),("most",V.int x2),("barred",V.str x3)]
theorem M8 {x0:Addr} {x1:Int} {x2:Int} {x3:Str}:(mv x0 x1 x2 x3).length < 1000:=(by show 4 < 1000;decide)
theorem cN {x0:Addr} {x1:Int} {x2:Int} {x3:Str}:(mv x0 x1 x2 x3).lookup ("places" : Str) = some (V.ref x0):=rfl
theorem yK {x0:Addr} {x1:Int} {x2:Int} {x3:Str}:(mv x0 x1 x2 x3).lookup ("highest" : Str) = some (V.int x1):=rfl
theorem yL {x0:Addr} {x1:Int} {x2:Int} {x3:Str} {y:Int}:gA "highest" (V.int y) (mv x0 x1 x2 x3) = mv x0 y x2 x3:=rfl
theorem DP {x0:Addr} {x1:Int} {x2:Int} {x3:Str}:(mv x0 x1 x2 x3).lookup ("most" : Str) = some (V.int x2):=rfl
theorem AB {x0:Addr} {x1:Int} {x2:Int} {x3:Str}:(mv x0 x1 x2 x3).lookup ("barred" : Str) = some (V.str x3):=rfl
noncomputable def nL (x0:Int) (x1:Int) (x2:Addr):List (Str × V):=[("coil",V.int x0),("pulse",V.int x1),("spots",V.ref x2)]
theorem DQ {x0:Int} {x1:Int} {x2:Addr}:(nL x0 x1 x2).lookup ("coil" : Str) = some (V.int x0):=rfl
theorem BH {x0:Int} {x1:Int} {x2:Addr}:(nL x0 x1 x2).lookup ("pulse" : Str) = some (V.int x1):=rfl
theorem BI {x0:Int} {x1:Int} {x2:Addr}:(nL x0 x1 x2).lookup ("spots" : Str) = some (V.ref x2):=rfl
noncomputable def bR (x0:Int) (x1:Int) (x2:Addr) (x3:Addr) (x4:Addr) (x5:Addr) (x6:Addr) (x7:Addr) (x8:Addr) (x9:Addr) (x10:Int) (x11:Int) (x12:Int):List (Str × V):=[("rank",V.int x0),("balls",V.int x1),("switches",V.ref x2),("lamps",V.ref x3),("coils",V.ref x4),("mosts",V.ref x5),("device_names",V.ref x6),("plans",V.ref x7),("held",V.ref x8),("busy_coils",V.ref x9),("drained",V.int x10),("kicks",V.int x11),("highest_kick",V.int x12)]
theorem pX {x0:Int} {x1:Int} {x2:Addr} {x3:Addr} {x4:Addr} {x5:Addr} {x6:Addr} {x7:Addr} {x8:Addr} {x9:Addr} {x10:Int} {x11:Int} {x12:Int}:(bR x0 x1 x2 x3 x4 x5 x6 x7 x8 x9 x10 x11 x12).length < 1000:=(by show 13 < 1000;decide)
theorem pk {x0:Int} {x1:Int} {x2:Addr} {x3:Addr} {x4:Addr} {x5:Addr} {x6:Addr} {x7:Addr} {x8:Addr} {x9:Addr} {x10:Int} {x11:Int} {x12:Int}:(bR x0 x1 x2 x3 x4 x5 x6 x7 x8 x9 x10 x11 x12).lookup ("rank" : Str) = some (V.int x0):=rfl
theorem BJ {x0:Int} {x1:Int} {x2:Addr} {x3:Addr} {x4:Addr} {x5:Addr} {x6:Addr} {x7:Addr} {x8:Addr} {x9:Addr} {x10:Int} {x11:Int} {x12:Int} {y:Int}:gA "rank" (V.int y) (bR x0 x1 x2 x3 x4 x5 x6 x7 x8 x9 x10 x11 x12) = bR y x1 x2 x3 x4 x5 x6 x7 x8 x9 x10 x11 x12:=rfl
theorem sx {x0:Int} {x1:Int} {x2:Addr} {x3:Addr} {x4:Addr} {x5:Addr} {x6:Addr} {x7:Addr} {x8:Addr} {x9:Addr} {x10:Int} {x11:Int} {x12:Int}:(bR x0 x1 x2 x3 x4 x5 x6 x7 x8 x9 x10 x11 x12).lookup ("balls" : Str) = some (V.int x1):=rfl
theorem AD {x0:Int} {x1:Int} {x2:Addr} {x3:Addr} {x4:Addr} {x5:Addr} {x6:Addr} {x7:Addr} {x8:Addr} {x9:Addr} {x10:Int} {x11:Int} {x12:Int} {y:Int}:gA "balls" (V.int y) (bR x0 x1 x2 x3 x4 x5 x6 x7 x8 x9 x10 x11 x12) = bR x0 y x2 x3 x4 x5 x6 x7 x8 x9 x10 x11 x12:=rfl
theorem cf {x0:Int} {x1:Int} {x2:Addr} {x3:Addr} {x4:Addr} {x5:Addr} {x6:Addr} {x7:Addr} {x8:Addr} {x9:Addr} {x10:Int} {x11:Int} {x12:Int}:(bR x0 x1 x2 x3 x4 x5 x6 x7 x8 x9 x10 x11 x12).lookup ("switches" : Str) = some (V.ref x2):=rfl
theorem AE {x0:Int} {x1:Int} {x2:Addr} {x3:Addr} {x4:Addr} {x5:Addr} {x6:Addr} {x7:Addr} {x8:Addr} {x9:Addr} {x10:Int} {x11:Int} {x12:Int}:(bR x0 x1 x2 x3 x4 x5 x6 x7 x8 x9 x10 x11 x12).lookup ("lamps" : Str) = some (V.ref x3):=rfl
theorem j2 {x0:Int} {x1:Int} {x2:Addr} {x3:Addr} {x4:Addr} {x5:Addr} {x6:Addr} {x7:Addr} {x8:Addr} {x9:Addr} {x10:Int} {x11:Int} {x12:Int}:(bR x0 x1 x2 x3 x4 x5 x6 x7 x8 x9 x10 x11 x12).lookup ("coils" : Str) = some (V.ref x4):=rfl
theorem j3 {x0:Int} {x1:Int} {x2:Addr} {x3:Addr} {x4:Addr} {x5:Addr} {x6:Addr} {x7:Addr} {x8:Addr} {x9:Addr} {x10:Int} {x11:Int} {x12:Int}:(bR x0 x1 x2 x3 x4 x5 x6 x7 x8 x9 x10 x11 x12).lookup ("mosts" : Str) = some (V.ref x5):=rfl
theorem kE {x0:Int} {x1:Int} {x2:Addr} {x3:Addr} {x4:Addr} {x5:Addr} {x6:Addr} {x7:Addr} {x8:Addr} {x9:Addr} {x10:Int} {x11:Int} {x12:Int}:(bR x0 x1 x2 x3 x4 x5 x6 x7 x8 x9 x10 x11 x12).lookup ("device_names" : Str) = some (V.ref x6):=rfl
theorem gP {x0:Int} {x1:Int} {x2:Addr} {x3:Addr} {x4:Addr} {x5:Addr} {x6:Addr} {x7:Addr} {x8:Addr} {x9:Addr} {x10:Int} {x11:Int} {x12:Int}:(bR x0 x1 x2 x3 x4 x5 x6 x7 x8 x9 x10 x11 x12).lookup ("plans" : Str) = some (V.ref x7):=rfl
theorem pq {x0:Int} {x1:Int} {x2:Addr} {x3:Addr} {x4:Addr} {x5:Addr} {x6:Addr} {x7:Addr} {x8:Addr} {x9:Addr} {x10:Int} {x11:Int} {x12:Int}:(bR x0 x1 x2 x3 x4 x5 x6 x7 x8 x9 x10 x11 x12).lookup ("held" : Str) = some (V.ref x8):=rfl
theorem mw {x0:Int} {x1:Int} {x2:Addr} {x3:Addr} {x4:Addr} {x5:Addr} {x6:Addr} {x7:Addr} {x8:Addr} {x9:Addr} {x10:Int} {x11:Int} {x12:Int}:(bR x0 x1 x2 x3 x4 x5 x6 x7 x8 x9 x10 x11 x12).lookup ("busy_coils" : Str) = some (V.ref x9):=rfl
theorem pY {x0:Int} {x1:Int} {x2:Addr} {x3:Addr} {x4:Addr} {x5:Addr} {x6:Addr} {x7:Addr} {x8:Addr} {x9:Addr} {x10:Int} {x11:Int} {x12:Int}:(bR x0 x1 x2 x3 x4 x5 x6 x7 x8 x9 x10 x11 x12).lookup ("drained" : Str) = some (V.int x10):=rfl
theorem xp {x0:Int} {x1:Int} {x2:Addr} {x3:Addr} {x4:Addr} {x5:Addr} {x6:Addr} {x7:Addr} {x8:Addr} {x9:Addr} {x10:Int} {x11:Int} {x12:Int} {y:Int}:gA "drained" (V.int y) (bR x0 x1 x2 x3 x4 x5 x6 x7 x8 x9 x10 x11 x12) = bR x0 x1 x2 x3 x4 x5 x6 x7 x8 x9 y x11 x12:=rfl
theorem nM {x0:Int} {x1:Int} {x2:Addr} {x3:Addr} {x4:Addr} {x5:Addr} {x6:Addr} {x7:Addr} {x8:Addr} {x9:Addr} {x10:Int} {x11:Int} {x12:Int}:(bR x0 x1 x2 x3 x4 x5 x6 x7 x8 x9 x10 x11 x12).lookup ("kicks" : Str) = some (V.int x11):=rfl
theorem sy {x0:Int} {x1:Int} {x2:Addr} {x3:Addr} {x4:Addr} {x5:Addr} {x6:Addr} {x7:Addr} {x8:Addr} {x9:Addr} {x10:Int} {x11:Int} {x12:Int} {y:Int}:gA "kicks" (V.int y) (bR x0 x1 x2 x3 x4 x5 x6 x7 x8 x9 x10 x11 x12) = bR x0 x1 x2 x3 x4 x5 x6 x7 x8 x9 x10 y x12:=rfl
theorem rn {x0:Int} {x1:Int} {x2:Addr} {x3:Addr} {x4:Addr} {x5:Addr} {x6:Addr} {x7:Addr} {x8:Addr} {x9:Addr} {x10:Int} {x11:Int} {x12:Int}:(bR x0 x1 x2 x3 x4 x5 x6 x7 x8 x9 x10 x11 x12).lookup ("highest_kick" : Str) = some (V.int x12):=rfl
theorem rp {x0:Int} {x1:Int} {x2:Addr} {x3:Addr} {x4:Addr} {x5:Addr} {x6:Addr} {x7:Addr} {x8:Addr} {x9:Addr} {x10:Int} {x11:Int} {x12:Int} {y:Int}:gA "highest_kick" (V.int y) (bR x0 x1 x2 x3 x4 x5 x6 x7 x8 x9 x10 x11 x12) = bR x0 x1 x2 x3 x4 x5 x6 x7 x8 x9 x10 x11 y:=rfl
noncomputable def jG (x0:V):List (Str × V):=[("play",x0)]
theorem M9 {x0:V}:(jG x0).length < 1000:=(by show 1 < 1000;decide)
theorem aX {x0:V}:(jG x0).lookup ("play" : Str) = some (x0):=rfl
theorem BK {x0:V}:(jG x0).lookup ("begin" : Str) = none:=rfl
theorem vW {x0:V}:(jG x0).lookup ("run_ticks" : Str) = none:=rfl
theorem uW {x0:V}:(jG x0).lookup ("tell_large" : Str) = none:=rfl
theorem tW {x0:V}:(jG x0).lookup ("tell_device" : Str) = none:=rfl
theorem tX {x0:V}:(jG x0).lookup ("tell_search" : Str) = none:=rfl
noncomputable def lV (x0:Addr) (x1:Int):List (Str × V):=[("numbers",V.ref x0),("taken",V.int x1)]
theorem Ju {x0:Addr} {x1:Int}:(lV x0 x1).length < 1000:=(by show 2 < 1000;decide)
theorem mi {x0:Addr} {x1:Int}:(lV x0 x1).lookup ("numbers" : Str) = some (V.ref x0):=rfl
theorem gj {x0:Addr} {x1:Int}:(lV x0 x1).lookup ("taken" : Str) = some (V.int x1):=rfl
theorem uq {x0:Addr} {x1:Int} {y:Int}:gA "taken" (V.int y) (lV x0 x1) = lV x0 y:=rfl
theorem DR {x0:Addr} {x1:Int}:(lV x0 x1).lookup ("more" : Str) = none:=rfl
theorem eI {x0:Addr} {x1:Int}:(lV x0 x1).lookup ("take" : Str) = none:=rfl
theorem pZ {x0:Addr} {x1:Int}:(lV x0 x1).lookup ("take_row" : Str) = none:=rfl
noncomputable def GI (mg:Str->Option Value) (x:Str) (v:V):Prop:=∃ u,mg x = some u/\RelV v u
theorem iV {X:Cx} {x:Str} {v:V} {pos:Pos} (hg:Gl X x) (h:GI X.mg x v) (hd:(x == ("__debug__" : Str)) = false:=by decide):PE X (.Name x pos) (tC v):=let ⟨_,a,b⟩:=h;MB hg a b hd
set_option genInjectivity false in
set_option genSizeOf false in
structure Txt (K:PySem.W.Frag) (mg:Str->Option Value) where
 jH:Addr
 aO:Addr
 bh:Addr
 ie:Addr
 nN:Addr
 iX:Addr
 gQ:Addr
 eZ:Addr
 aS:Addr
 fm:Addr
 gB:Addr
 F3:Addr
 zH:Addr
 xq:Addr
 j4:Addr
 eB:FuncData
 dY:br K "__init__" "Log.__init__" ny j4 eB
 ig:Addr
 cT:FuncData
 b6:br K "tell_event" "Log.tell_event" kH ig cT
 gF:Meth K jH "tell_event" ig
 ij:Addr
 cU:FuncData
 b7:br K "tell_pulse" "Log.tell_pulse" kI ij cU
 j5:Meth K jH "tell_pulse" ij
 gG:Addr
 cB:FuncData
 cg:br K "__init__" "Device.__init__" jW gG cB
 lB:Addr
 fq:FuncData
 cH:br K "balls_shown" "balls_shown" i5 lB fq
 pw:mg "balls_shown" = some (.ref lB)
 tq:Addr
 kS:FuncData
 ik:br K "at_rest" "at_rest" wY tq kS
 xr:mg "at_rest" = some (.ref tq)
 lD:Addr
 ft:FuncData
 dy:br K "tick_device" "tick_device" oZ lD ft
 ur:mg "tick_device" = some (.ref lD)
 DS:Addr
 tw:FuncData
 sA:br K "look" "look" HV DS tw
 LV:mg "look" = some (.ref DS)
 tD:Addr
 kT:FuncData
 jI:br K "recount" "recount" wZ tD kT
 CQ:mg "recount" = some (.ref tD)
 vX:Addr
 ni:FuncData
 j6:br K "settle" "settle" Aw vX ni
 AF:mg "settle" = some (.ref vX)
 qD:Addr
 jJ:FuncData
 gR:br K "pass_try" "pass_try" uL qD jJ
 AG:mg "pass_try" = some (.ref qD)
 tE:Addr
 kU:FuncData
 jK:br K "can_try" "can_try" w9 tE kU
 CS:mg "can_try" = some (.ref tE)
 oj:Addr
 il:FuncData
 fB:br K "begin_try" "begin_try" rQ oj il
 yp:mg "begin_try" = some (.ref oj)
 ji:Addr
 dH:FuncData
 c5:br K "__init__" "Play.__init__" f9 ji dH
 tF:Addr
 kW:FuncData
 ip:br K "bits_at" "bits_at" pU tF kW
 xt:mg "bits_at" = some (.ref tF)
 mJ:Addr
 gk:FuncData
 dq:br K "balls_held" "balls_held" jX mJ gk
 qE:mg "balls_held" = some (.ref mJ)
 iq:Addr
 cV:FuncData
 bz:br K "balls_at_large" "balls_at_large" kJ iq cV
 ir:mg "balls_at_large" = some (.ref iq)
 jj:Addr
 dI:FuncData
 cy:br K "balls_missing" "balls_missing" lY jj dI
 rh:mg "balls_missing" = some (.ref jj)
 om:Addr
 iu:FuncData
 fC:br K "tick_play" "tick_play" rR om iu
 yq:mg "tick_play" = some (.ref om)
 lE:Addr
 fu:FuncData
 dz:br K "is_stirring" "is_stirring" i6 lE fu
 uu:mg "is_stirring" = some (.ref lE)
 oo:Addr
 iw:FuncData
 fD:br K "search_on" "search_on" rS oo iw
 yr:mg "search_on" = some (.ref oo)
 iy:Addr
 cW:FuncData
 cC:br K "__init__" "Fault.__init__" kK iy cW
 jk:Addr
 dJ:FuncData
 c6:br K "__init__" "Word.__init__" lZ jk dJ
 jl:Addr
 dM:FuncData
 c7:br K "__init__" "Line.__init__" l7 jl dM
 oq:Addr
 iz:FuncData
 fE:br K "more" "Line.more" rT oq iz
 eJ:Meth K iX "more" oq
 ou:Addr
 iA:FuncData
 fF:br K "take" "Line.take" rV ou iA
 j7:Meth K iX "take" ou
 gH:Addr
 cD:FuncData
 bS:br K "last_place" "Line.last_place" jY gH cD
 bG:Meth K iX "last_place" gH
 mK:Addr
 gn:FuncData
 eK:br K "comes" "Line.comes" qt mK gn
 uv:Meth K iX "comes" mK
 ow:Addr
 iB:FuncData
 fG:br K "next_line" "next_line" rW ow iB
 yt:mg "next_line" = some (.ref ow)
 qF:Addr
 jL:FuncData
 gU:br K "line_end" "line_end" uM qF jL
 AH:mg "line_end" = some (.ref qF)
 lF:Addr
 fv:FuncData
 dA:br K "check_bytes" "check_bytes" o5 lF fv
 uw:mg "check_bytes" = some (.ref lF)
 qG:Addr
 jM:FuncData
 gW:br K "is_stray" "is_stray" uN qG jM
 AI:mg "is_stray" = some (.ref qG)
 jm:Addr
 dN:FuncData
 cz:br K "words_between" "words_between" l8 jm dN
 rj:mg "words_between" = some (.ref jm)
 tG:Addr
 kX:FuncData
 jN:br K "spelled" "spelled" pV tG kX
 CT:mg "spelled" = some (.ref tG)
 tH:Addr
 kY:FuncData
 jO:br K "sign_of" "sign_of" xa tH kY
 CU:mg "sign_of" = some (.ref tH)
 tI:Addr
 kZ:FuncData
 jP:br K "is_name" "is_name" xb tI kZ
 CV:mg "is_name" = some (.ref tI)
 mL:Addr
 gp:FuncData
 aT:br K "take_fixed" "take_fixed" qu mL gp
 bD:mg "take_fixed" = some (.ref mL)
 oy:Addr
 iC:FuncData
 dB:br K "take_name" "take_name" rX oy iC
 oz:mg "take_name" = some (.ref oy)
 lG:Addr
 fw:FuncData
 bb:br K "take_number" "take_number" o6 lG fw
 cJ:mg "take_number" = some (.ref lG)
 oA:Addr
 iD:FuncData
 fH:br K "number_of" "number_of" rY oA iD
 yu:mg "number_of" = some (.ref oA)
 qH:Addr
 jQ:FuncData
 gX:br K "end_line" "end_line" uO qH jQ
 AJ:mg "end_line" = some (.ref qH)
 jn:Addr
 dO:FuncData
 c8:br K "__init__" "Roll.__init__" l9 jn dO
 jo:Addr
 dP:FuncData
 c9:br K "__init__" "Plan.__init__" ma jo dP
 iE:Addr
 cX:FuncData
 cE:br K "__init__" "Table.__init__" kM iE cX
 jq:Addr
 dQ:FuncData
 bY:br K "take_new_name" "take_new_name" md jq dQ
 mj:mg "take_new_name" = some (.ref jq)
 mM:Addr
 gq:FuncData
 cj:br K "take_known" "take_known" qv mM gq
 j8:mg "take_known" = some (.ref mM)
 mO:Addr
 gr:FuncData
 cK:br K "take_entry" "take_entry" qw mO gr
 mP:mg "take_entry" = some (.ref mO)
 iF:Addr
 cY:FuncData
 bM:br K "take_free_coil" "take_free_coil" kN iF cY
 lb:mg "take_free_coil" = some (.ref iF)
 iG:Addr
 cZ:FuncData
 bN:br K "take_free_spot" "take_free_spot" kO iG cZ
 lh:mg "take_free_spot" = some (.ref iG)
 fT:Addr
 cq:FuncData
 bH:br K "take_kick_switch" "take_kick_switch" jB fT cq
 nO:mg "take_kick_switch" = some (.ref fT)
 gY:Addr
 iH:FuncData
 fJ:br K "read_head" "read_head" rZ gY iH
 F4:mg "read_head" = some (.ref gY)
 e8:Addr
 fy:FuncData
 dC:br K "read_switch" "read_switch" o7 e8 fy
 BL:mg "read_switch" = some (.ref e8)
 gZ:Addr
 iI:FuncData
 fK:br K "read_lamp" "read_lamp" r9 gZ iI
 F5:mg "read_lamp" = some (.ref gZ)
 g5:Addr
 iJ:FuncData
 fL:br K "read_coil" "read_coil" sd g5 iJ
 F6:mg "read_coil" = some (.ref g5)
 e9:Addr
 fz:FuncData
 dD:br K "read_device" "read_device" o8 e9 fz
 BM:mg "read_device" = some (.ref e9)
 g6:Addr
 iK:FuncData
 fM:br K "read_kick" "read_kick" se g6 iK
 F7:mg "read_kick" = some (.ref g6)
 qI:Addr
 jR:FuncData
 g7:br K "can_come" "can_come" uP qI jR
 AK:mg "can_come" = some (.ref qI)
 oB:Addr
 iL:FuncData
 fN:br K "take_rank" "take_rank" sg oB iL
 yw:mg "take_rank" = some (.ref oB)
 oC:Addr
 iM:FuncData
 fO:br K "read_line" "read_line" si oC iM
 yx:mg "read_line" = some (.ref oC)
 mQ:Addr
 gu:FuncData
 eL:br K "read_table" "read_table" qx mQ gu
 vY:mg "read_table" = some (.ref mQ)
 jr:Addr
 dR:FuncData
 dc:br K "__init__" "Game.__init__" me jr dR
 mR:Addr
 gw:FuncData
 eM:br K "begin" "Game.begin" qy mR gw
 ux:Meth K fm "begin" mR
 iN:Addr
 c3:FuncData
 b8:br K "run_ticks" "Game.run_ticks" kP iN c3
 oE:Meth K fm "run_ticks" iN
 gJ:Addr
 cF:FuncData
 bT:br K "tell_large" "Game.tell_large" jZ gJ cF
 nP:Meth K fm "tell_large" gJ
 fU:Addr
 cu:FuncData
 bI:br K "tell_device" "Game.tell_device" jC fU cu
 mx:Meth K fm "tell_device" fU
 fV:Addr
 cw:FuncData
 bJ:br K "tell_search" "Game.tell_search" jD fV cw
 my:Meth K fm "tell_search" fV
 oF:Addr
 iO:FuncData
 eN:br K "are_known" "are_known" sj oF iO
 sC:mg "are_known" = some (.ref oF)
 DT:Addr
 tJ:FuncData
 sD:br K "told" "told" HW DT tJ
 LW:mg "told" = some (.ref DT)
 js:Addr
 dU:FuncData
 df:br K "__init__" "Tape.__init__" mf js dU
 oG:Addr
 iP:FuncData
 fP:br K "more" "Tape.more" sk oG iP
 vZ:Meth K gB "more" oG
 oH:Addr
 iQ:FuncData
 fQ:br K "take" "Tape.take" so oH iQ
 j9:Meth K gB "take" oH
 jt:Addr
 dW:FuncData
 cA:br K "take_row" "Tape.take_row" mh jt dW
 lj:Meth K gB "take_row" jt
 tK:Addr
 ll:FuncData
 lp:br K "answers" "answers" xf tK ll
 Ko:mg "answers" = some (.ref tK)
 lH:Addr
 fA:FuncData
 dE:br K "answer_call" "answer_call" o9 lH fA
 uy:mg "answer_call" = some (.ref lH)
 Ol:mg "Log" = some (.ref jH)
 gC:Cv K jH
 DU:Mk K jH j4
 nQ:aK K jH "tick"
 kc:aK K jH "events"
 kd:aK K jH "pulses"
 F8:mg "Device" = some (.ref aO)
 ax:Cv K aO
 tL:Mk K aO gG
 eC:aK K aO "number"
 i9:aK K aO "plan"
 cO:aK K aO "shown"
 dg:aK K aO "steady"
 dZ:aK K aO "count"
 cM:aK K aO "due"
 d4:aK K aO "tried"
 b9:aK K aO "left"
 LX:mg "Play" = some (.ref bh)
 a9:Cv K bh
 zI:Mk K bh ji
 qJ:aK K bh "balls"
 ck:aK K bh "devices"
 iY:aK K bh "known_places"
 ke:aK K bh "known_asks"
 oJ:aK K bh "mask"
 eO:aK K bh "quiet"
 dF:aK K bh "rounds"
 mS:aK K bh "ticks"
 bZ:mg "Fault" = some (.ref ie)
 xc:FI K ie F3 iy
 qK:aK K ie "kind"
 px:aK K ie "place"
 LY:mg "Word" = some (.ref nN)
 bU:Cv K nN
 zJ:Mk K nN jk
 bw:aK K nN "letters"
 bp:aK K nN "place"
 LZ:mg "Line" = some (.ref iX)
 a7:Cv K iX
 zK:Mk K iX jl
 fW:aK K iX "words"
 lJ:aK K iX "finish"
 eQ:aK K iX "taken"
 DV:mg "Roll" = some (.ref gQ)
 eT:Cv K gQ
 tM:Mk K gQ jn
 cb:aK K gQ "places"
 kf:aK K gQ "highest"
 sE:aK K gQ "most"
 pz:aK K gQ "barred"
 L0:mg "Plan" = some (.ref eZ)
 qL:Cv K eZ
 zL:Mk K eZ jo
 sG:aK K eZ "coil"
 qM:aK K eZ "pulse"
 qN:aK K eZ "spots"
 Jv:mg "Table" = some (.ref aS)
 aA:Cv K aS
 v5:Mk K aS iE
 iR:aK K aS "rank"
 ja:aK K aS "balls"
 bO:aK K aS "switches"
 pA:aK K aS "lamps"
 gy:aK K aS "coils"
 gz:aK K aS "mosts"
 eU:aK K aS "device_names"
 fb:aK K aS "plans"
 kg:aK K aS "held"
 fX:aK K aS "busy_coils"
 ju:aK K aS "drained"
 jb:aK K aS "kicks"
 eV:aK K aS "highest_kick"
 L1:mg "Game" = some (.ref fm)
 bV:Cv K fm
 zM:Mk K fm jr
 aV:aK K fm "play"
 L3:mg "Tape" = some (.ref gB)
 du:Cv K gB
 zN:Mk K gB js
 g8:aK K gB "numbers"
 eW:aK K gB "taken"
 iS:GI mg "REST_TICKS" (V.int (128))
 qO:GI mg "MOST_DUE" (V.int (255))
 mT:GI mg "MOST_TRIES" (V.int (3))
 oK:GI mg "TRY_TICKS" (V.int (2000))
 DW:GI mg "CAME" (V.int (144))
 DX:GI mg "WENT" (V.int (152))
 zO:GI mg "STUCK" (V.int (160))
 lK:GI mg "QUIET_TICKS" (V.int (15000))
 g9:GI mg "SEARCH_TICKS" (V.int (300))
 jc:GI mg "MOST_ROUNDS" (V.int (3))
 tN:GI mg "NEWLINE" (V.int (10))
 qP:GI mg "BLANK" (V.int (32))
 oM:GI mg "LAST_SIGN" (V.int (126))
 p6:GI mg "SMALL_A" (V.int (97))
 tO:GI mg "SMALL_Z" (V.int (122))
 AL:GI mg "ZERO" (V.int (48))
 DY:GI mg "NINE" (V.int (57))
 oN:GI mg "UNDERLINE" (V.int (95))
 p8:GI mg "LETTERS" (V.str "abcdefghijklmnopqrstuvwxyz")
 v7:GI mg "DIGITS" (V.str "0123456789")
 v8:GI mg "OTHER" (V.str "?")
 kj:GI mg "LONGEST_NAME" (V.int (12))
 iT:GI mg "LONGEST_NUMBER" (V.int (4))
 mU:GI mg "MOST_BALLS" (V.int (8))
 kl:GI mg "MOST_DEVICES" (V.int (8))
 oO:GI mg "MOST_HELD" (V.int (8))
 mV:GI mg "MOST_KICKS" (V.int (8))
 jv:GI mg "LONGEST_PULSE" (V.int (40))
 hJ:GI mg "NOTHING_READ" (V.int (-1))
 AM:GI mg "HEAD" (V.int (0))
 jw:GI mg "DEVICE_tables" (V.int (4))
 DZ:GI mg "KICK" (V.int (5))
 km:GI mg "LONGEST_TEXT" (V.int (16384))
 mW:GI mg "MOST_TICKS" (V.int (4096))
 sI:GI mg "DONE" (V.int (0))
 gb:GI mg "UNKNOWN_PLACE" (V.int (-1))
 nR:GI mg "TOO_LONG" (V.int (-2))
 oP:GI mg "NO_DEVICE" (V.int (-4))
 v9:GI mg "FAULTY" (V.int (-6))
 hU:GI mg "NOT_BEGUN" (V.int (-10))
 zP:GI mg "BEGIN" (V.int (1))
 zQ:GI mg "TICKS" (V.int (2))
 zR:GI mg "LARGE" (V.int (3))
 ko:GI mg "DEVICE_balls" (V.int (4))
 zS:GI mg "SORTS" (V.ref zH)
 qQ:∀ H:Hp,yD K H zH [V.str "table",V.str "switch",V.str "lamp",V.str "coil",V.str "device",V.str "kick"]
 tP:GI mg "READERS" (V.ref xq)
 tQ:∀ H:Hp,yD K H xq [V.ref gY,V.ref e8,V.ref gZ,V.ref g5,V.ref e9,V.ref g6]
 Jw:mg "any" = none
 jS:mg "enumerate" = none
 Jx:mg "int" = none
 gK:mg "len" = none
 AN:mg "list" = none
 Jy:mg "max" = none
 AO:mg "min" = none
 lL:mg "range" = none
 CW:mg "sum" = none
section
variable {K:PySem.W.Frag} {mg:Str->Option Value}
theorem AQ (T:Txt K mg):Binds K T.eB ["self"] []:=T.dY.binds (ps:=["self"]) fun _ _ _ _ _ _ us hl=>match us,hl with | [_],_=>rfl
theorem lq (T:Txt K mg):Binds K T.cT ["self","event"] []:=T.b6.binds (ps:=["self","event"]) fun _ _ _ _ _ _ us hl=>match us,hl with | [_,_],_=>rfl
theorem p9 (T:Txt K mg):Binds K T.cU ["self","plan"] []:=T.b7.binds (ps:=["self","plan"]) fun _ _ _ _ _ _ us hl=>match us,hl with | [_,_],_=>rfl
theorem wb (T:Txt K mg):Binds K T.cB ["self","number","plan","mask"] []:=T.cg.binds (ps:=["self","number","plan","mask"]) fun _ _ _ _ _ _ us hl=>match us,hl with | [_,_,_,_],_=>rfl
theorem uz (T:Txt K mg):Binds K T.fq ["plan","mask"] []:=T.cH.binds (ps:=["plan","mask"]) fun _ _ _ _ _ _ us hl=>match us,hl with | [_,_],_=>rfl
theorem CY (T:Txt K mg):Binds K T.kS ["device"] []:=T.ik.binds (ps:=["device"]) fun _ _ _ _ _ _ us hl=>match us,hl with | [_],_=>rfl
theorem BN (T:Txt K mg):Binds K T.ft ["device","mask","asked","log"] []:=T.dy.binds (ps:=["device","mask","asked","log"]) fun _ _ _ _ _ _ us hl=>match us,hl with | [_,_,_,_],_=>rfl
theorem Pp (T:Txt K mg):Binds K T.tw ["device","mask"] []:=T.sA.binds (ps:=["device","mask"]) fun _ _ _ _ _ _ us hl=>match us,hl with | [_,_],_=>rfl
theorem Kq (T:Txt K mg):Binds K T.kT ["device","log"] []:=T.jI.binds (ps:=["device","log"]) fun _ _ _ _ _ _ us hl=>match us,hl with | [_,_],_=>rfl
theorem F9 (T:Txt K mg):Binds K T.ni ["device"] []:=T.j6.binds (ps:=["device"]) fun _ _ _ _ _ _ us hl=>match us,hl with | [_],_=>rfl
theorem Ib (T:Txt K mg):Binds K T.jJ ["device","log"] []:=T.gR.binds (ps:=["device","log"]) fun _ _ _ _ _ _ us hl=>match us,hl with | [_,_],_=>rfl
theorem Kr (T:Txt K mg):Binds K T.kU ["device"] []:=T.jK.binds (ps:=["device"]) fun _ _ _ _ _ _ us hl=>match us,hl with | [_],_=>rfl
theorem Ga (T:Txt K mg):Binds K T.il ["device","log"] []:=T.fB.binds (ps:=["device","log"]) fun _ _ _ _ _ _ us hl=>match us,hl with | [_,_],_=>rfl
theorem yM (T:Txt K mg):Binds K T.dH ["self","table","mask"] []:=T.c5.binds (ps:=["self","table","mask"]) fun _ _ _ _ _ _ us hl=>match us,hl with | [_,_,_],_=>rfl
theorem CZ (T:Txt K mg):Binds K T.kW ["places"] []:=T.ip.binds (ps:=["places"]) fun _ _ _ _ _ _ us hl=>match us,hl with | [_],_=>rfl
theorem wc (T:Txt K mg):Binds K T.gk ["play"] []:=T.dq.binds (ps:=["play"]) fun _ _ _ _ _ _ us hl=>match us,hl with | [_],_=>rfl
theorem lr (T:Txt K mg):Binds K T.cV ["play"] []:=T.bz.binds (ps:=["play"]) fun _ _ _ _ _ _ us hl=>match us,hl with | [_],_=>rfl
theorem yN (T:Txt K mg):Binds K T.dI ["play"] []:=T.cy.binds (ps:=["play"]) fun _ _ _ _ _ _ us hl=>match us,hl with | [_],_=>rfl
theorem Gb (T:Txt K mg):Binds K T.iu ["play","mask","asks","log"] []:=T.fC.binds (ps:=["play","mask","asks","log"]) fun _ _ _ _ _ _ us hl=>match us,hl with | [_,_,_,_],_=>rfl
theorem BO (T:Txt K mg):Binds K T.fu ["play"] []:=T.dz.binds (ps:=["play"]) fun _ _ _ _ _ _ us hl=>match us,hl with | [_],_=>rfl
theorem Gd (T:Txt K mg):Binds K T.iw ["play","log"] []:=T.fD.binds (ps:=["play","log"]) fun _ _ _ _ _ _ us hl=>match us,hl with | [_,_],_=>rfl
theorem aB (T:Txt K mg):Binds K T.cW ["self","kind","place"] []:=T.cC.binds (ps:=["self","kind","place"]) fun _ _ _ _ _ _ us hl=>match us,hl with | [_,_,_],_=>rfl
theorem yO (T:Txt K mg):Binds K T.dJ ["self","letters","place"] []:=T.c6.binds (ps:=["self","letters","place"]) fun _ _ _ _ _ _ us hl=>match us,hl with | [_,_,_],_=>rfl
theorem yP (T:Txt K mg):Binds K T.dM ["self","words","finish"] []:=T.c7.binds (ps:=["self","words","finish"]) fun _ _ _ _ _ _ us hl=>match us,hl with | [_,_,_],_=>rfl
theorem hW (T:Txt K mg):Binds K T.iz ["self"] []:=T.fE.binds (ps:=["self"]) fun _ _ _ _ _ _ us hl=>match us,hl with | [_],_=>rfl
theorem oQ (T:Txt K mg):Binds K T.iA ["self"] []:=T.fF.binds (ps:=["self"]) fun _ _ _ _ _ _ us hl=>match us,hl with | [_],_=>rfl
theorem cn (T:Txt K mg):Binds K T.cD ["self"] []:=T.bS.binds (ps:=["self"]) fun _ _ _ _ _ _ us hl=>match us,hl with | [_],_=>rfl
theorem D0 (T:Txt K mg):Binds K T.gn ["self","letters"] []:=T.eK.binds (ps:=["self","letters"]) fun _ _ _ _ _ _ us hl=>match us,hl with | [_,_],_=>rfl
theorem Ge (T:Txt K mg):Binds K T.iB ["text","start"] []:=T.fG.binds (ps:=["text","start"]) fun _ _ _ _ _ _ us hl=>match us,hl with | [_,_],_=>rfl
theorem Ic (T:Txt K mg):Binds K T.jL ["text","start"] []:=T.gU.binds (ps:=["text","start"]) fun _ _ _ _ _ _ us hl=>match us,hl with | [_,_],_=>rfl
theorem BP (T:Txt K mg):Binds K T.fv ["text","start","finish"] []:=T.dA.binds (ps:=["text","start","finish"]) fun _ _ _ _ _ _ us hl=>match us,hl with | [_,_,_],_=>rfl
theorem Ie (T:Txt K mg):Binds K T.jM ["text","start","place","finish"] []:=T.gW.binds (ps:=["text","start","place","finish"]) fun _ _ _ _ _ _ us hl=>match us,hl with | [_,_,_,_],_=>rfl
theorem yQ (T:Txt K mg):Binds K T.dN ["text","start","finish"] []:=T.cz.binds (ps:=["text","start","finish"]) fun _ _ _ _ _ _ us hl=>match us,hl with | [_,_,_],_=>rfl
theorem Ks (T:Txt K mg):Binds K T.kX ["row"] []:=T.jN.binds (ps:=["row"]) fun _ _ _ _ _ _ us hl=>match us,hl with | [_],_=>rfl
theorem Kt (T:Txt K mg):Binds K T.kY ["byte"] []:=T.jO.binds (ps:=["byte"]) fun _ _ _ _ _ _ us hl=>match us,hl with | [_],_=>rfl
theorem Ku (T:Txt K mg):Binds K T.kZ ["letters"] []:=T.jP.binds (ps:=["letters"]) fun _ _ _ _ _ _ us hl=>match us,hl with | [_],_=>rfl
theorem bP (T:Txt K mg):Binds K T.gp ["line","letters"] []:=T.aT.binds (ps:=["line","letters"]) fun _ _ _ _ _ _ us hl=>match us,hl with | [_,_],_=>rfl
theorem sJ (T:Txt K mg):Binds K T.iC ["line"] []:=T.dB.binds (ps:=["line"]) fun _ _ _ _ _ _ us hl=>match us,hl with | [_],_=>rfl
theorem dG (T:Txt K mg):Binds K T.fw ["line","least","most"] []:=T.bb.binds (ps:=["line","least","most"]) fun _ _ _ _ _ _ us hl=>match us,hl with | [_,_,_],_=>rfl
theorem Gf (T:Txt K mg):Binds K T.iD ["word"] []:=T.fH.binds (ps:=["word"]) fun _ _ _ _ _ _ us hl=>match us,hl with | [_],_=>rfl
theorem Ig (T:Txt K mg):Binds K T.jQ ["line"] []:=T.gX.binds (ps:=["line"]) fun _ _ _ _ _ _ us hl=>match us,hl with | [_],_=>rfl
theorem ml (T:Txt K mg):Binds K T.dO ["self","most","barred"] []:=T.c8.binds (ps:=["self","most","barred"]) fun _ _ _ _ _ _ us hl=>match us,hl with | [_,_,_],_=>rfl
theorem yR (T:Txt K mg):Binds K T.dP ["self","coil","pulse","spots"] []:=T.c9.binds (ps:=["self","coil","pulse","spots"]) fun _ _ _ _ _ _ us hl=>match us,hl with | [_,_,_,_],_=>rfl
theorem xu (T:Txt K mg):Binds K T.cX ["self"] []:=T.cE.binds (ps:=["self"]) fun _ _ _ _ _ _ us hl=>match us,hl with | [_],_=>rfl
theorem rl (T:Txt K mg):Binds K T.dQ ["line","known","barred"] []:=T.bY.binds (ps:=["line","known","barred"]) fun _ _ _ _ _ _ us hl=>match us,hl with | [_,_,_],_=>rfl
theorem mX (T:Txt K mg):Binds K T.gq ["line","roll"] []:=T.cj.binds (ps:=["line","roll"]) fun _ _ _ _ _ _ us hl=>match us,hl with | [_,_],_=>rfl
theorem qR (T:Txt K mg):Binds K T.gr ["line","roll"] []:=T.cK.binds (ps:=["line","roll"]) fun _ _ _ _ _ _ us hl=>match us,hl with | [_,_],_=>rfl
theorem qa (T:Txt K mg):Binds K T.cY ["table","line"] []:=T.bM.binds (ps:=["table","line"]) fun _ _ _ _ _ _ us hl=>match us,hl with | [_,_],_=>rfl
theorem qc (T:Txt K mg):Binds K T.cZ ["table","line"] []:=T.bN.binds (ps:=["table","line"]) fun _ _ _ _ _ _ us hl=>match us,hl with | [_,_],_=>rfl
theorem uX (T:Txt K mg):Binds K T.cq ["table","line"] []:=T.bH.binds (ps:=["table","line"]) fun _ _ _ _ _ _ us hl=>match us,hl with | [_,_],_=>rfl
theorem Gg (T:Txt K mg):Binds K T.iH ["table","line"] []:=T.fJ.binds (ps:=["table","line"]) fun _ _ _ _ _ _ us hl=>match us,hl with | [_,_],_=>rfl
theorem BQ (T:Txt K mg):Binds K T.fy ["table","line"] []:=T.dC.binds (ps:=["table","line"]) fun _ _ _ _ _ _ us hl=>match us,hl with | [_,_],_=>rfl
theorem Gh (T:Txt K mg):Binds K T.iI ["table","line"] []:=T.fK.binds (ps:=["table","line"]) fun _ _ _ _ _ _ us hl=>match us,hl with | [_,_],_=>rfl
theorem Gi (T:Txt K mg):Binds K T.iJ ["table","line"] []:=T.fL.binds (ps:=["table","line"]) fun _ _ _ _ _ _ us hl=>match us,hl with | [_,_],_=>rfl
theorem BR (T:Txt K mg):Binds K T.fz ["table","line"] []:=T.dD.binds (ps:=["table","line"]) fun _ _ _ _ _ _ us hl=>match us,hl with | [_,_],_=>rfl
theorem Gj (T:Txt K mg):Binds K T.iK ["table","line"] []:=T.fM.binds (ps:=["table","line"]) fun _ _ _ _ _ _ us hl=>match us,hl with | [_,_],_=>rfl
theorem Ih (T:Txt K mg):Binds K T.jR ["table","rank"] []:=T.g7.binds (ps:=["table","rank"]) fun _ _ _ _ _ _ us hl=>match us,hl with | [_,_],_=>rfl
theorem Gk (T:Txt K mg):Binds K T.iL ["table","line"] []:=T.fN.binds (ps:=["table","line"]) fun _ _ _ _ _ _ us hl=>match us,hl with | [_,_],_=>rfl
theorem Gm (T:Txt K mg):Binds K T.iM ["table","line"] []:=T.fO.binds (ps:=["table","line"]) fun _ _ _ _ _ _ us hl=>match us,hl with | [_,_],_=>rfl
theorem D1 (T:Txt K mg):Binds K T.gu ["text"] []:=T.eL.binds (ps:=["text"]) fun _ _ _ _ _ _ us hl=>match us,hl with | [_],_=>rfl
theorem yS (T:Txt K mg):Binds K T.dR ["self"] []:=T.dc.binds (ps:=["self"]) fun _ _ _ _ _ _ us hl=>match us,hl with | [_],_=>rfl
theorem D2 (T:Txt K mg):Binds K T.gw ["self","mask","text"] []:=T.eM.binds (ps:=["self","mask","text"]) fun _ _ _ _ _ _ us hl=>match us,hl with | [_,_,_],_=>rfl
theorem xw (T:Txt K mg):Binds K T.c3 ["self","pairs"] []:=T.b8.binds (ps:=["self","pairs"]) fun _ _ _ _ _ _ us hl=>match us,hl with | [_,_],_=>rfl
theorem we (T:Txt K mg):Binds K T.cF ["self"] []:=T.bT.binds (ps:=["self"]) fun _ _ _ _ _ _ us hl=>match us,hl with | [_],_=>rfl
theorem uY (T:Txt K mg):Binds K T.cu ["self","number"] []:=T.bI.binds (ps:=["self","number"]) fun _ _ _ _ _ _ us hl=>match us,hl with | [_,_],_=>rfl
theorem uZ (T:Txt K mg):Binds K T.cw ["self"] []:=T.bJ.binds (ps:=["self"]) fun _ _ _ _ _ _ us hl=>match us,hl with | [_],_=>rfl
theorem yy (T:Txt K mg):Binds K T.iO ["play","pairs"] []:=T.eN.binds (ps:=["play","pairs"]) fun _ _ _ _ _ _ us hl=>match us,hl with | [_,_],_=>rfl
theorem Pq (T:Txt K mg):Binds K T.tJ ["log"] []:=T.sD.binds (ps:=["log"]) fun _ _ _ _ _ _ us hl=>match us,hl with | [_],_=>rfl
theorem yT (T:Txt K mg):Binds K T.dU ["self","numbers"] []:=T.df.binds (ps:=["self","numbers"]) fun _ _ _ _ _ _ us hl=>match us,hl with | [_,_],_=>rfl
theorem Gn (T:Txt K mg):Binds K T.iP ["self"] []:=T.fP.binds (ps:=["self"]) fun _ _ _ _ _ _ us hl=>match us,hl with | [_],_=>rfl
theorem oR (T:Txt K mg):Binds K T.iQ ["self"] []:=T.fQ.binds (ps:=["self"]) fun _ _ _ _ _ _ us hl=>match us,hl with | [_],_=>rfl
theorem rm (T:Txt K mg):Binds K T.dW ["self"] []:=T.cA.binds (ps:=["self"]) fun _ _ _ _ _ _ us hl=>match us,hl with | [_],_=>rfl
theorem BS (T:Txt K mg):Binds K T.fA ["game","tape"] []:=T.dE.binds (ps:=["game","tape"]) fun _ _ _ _ _ _ us hl=>match us,hl with | [_,_],_=>rfl
end
end Pb
namespace L2
open PySem PySem.Spec PyProof.Rows
theorem br.tU {P:Program} {w:World} {K:PySem.W.Frag} {mg:Str->Option Value} {base:Heap} {x qual:Str} {st:Stmt} {f:Addr} {fd:FuncData} {N ps:List Str} {k:Nat} {sp:Sp} (F:br K x qual st f fd) (S:au N ps (ak st)) (len:∀ vs H Q E,sp vs H Q E->vs.length = ps.length)
  (hbody:∀ (cdv:Value) (A:Around) (outer:List Env) (s:Shared) (H:Hp) (vs:List V) (Q:VK) (E:XK),iZ k (A.deeper (envOfC qual (ak st) s.heap.objs.size f cdv))->sp vs H Q E →
   ∃ t,Hn (Fm (uh P w) P w K mg base N qual (ak st) f cdv A outer s H E) (qm st) t/\t { nx:=fun _ H'=>Q .fR H',rt:=Q } (start N vs) H):a8 P w K mg base (uh P w) (k + 1) f fd ps sp:=by
 obtain ⟨oc,od,kV,doc,pm,an,cdv,ct,osl,rfl,lk,hcd⟩:=F.ex
 exact Of lk hcd S len fun A outer s H vs Q E hr hsp=>hbody cdv A outer s H vs Q E hr hsp
end L2
namespace Pb
open PySem PySem.Spec PyProof.Rows L2
theorem Ii:bootBuiltins "sum" = some (.builtin "sum"):=by decide +kernel
theorem Pr:bootBuiltins "any" = some (.builtin "any"):=by decide +kernel
theorem D3:bootBuiltins "min" = some (.builtin "min"):=by decide +kernel
theorem Pt:bootBuiltins "max" = some (.builtin "max"):=by decide +kernel
theorem Pu:bootBuiltins "int" = some (.type "int"):=by decide +kernel
noncomputable def Kp (S:List Addr) (H H':Hp):Prop:=∀ b o,H b = some o->b ∉ S->H' b = some o
theorem Kp.refl {S:List Addr} {H:Hp}:Kp S H H:=fun _ _ e _=>e
theorem Kp.trans {S:List Addr} {H H1 H2:Hp} (a:Kp S H H1) (b:Kp S H1 H2):Kp S H H2:=fun c o e n=>b c o (a c o e n) n
theorem Kp.mono {S S':List Addr} {H H1:Hp} (a:Kp S H H1) (h:∀ b ∈ S,b ∈ S'):Kp S' H H1:=fun c o e n=>a c o e fun z=>n (h c z)
theorem Kp.wr {S:List Addr} {H:Hp} {a:Addr} {o:HO} (h:a ∈ S):Kp S H (upd H a o):=fun b u e n=>by rw [ai (fun z=>n (by rw [z];exact h))];exact e
theorem Kp.new {S:List Addr} {H:Hp} {a:Addr} {o:HO} (h:H a = none):Kp S H (upd H a o):=fun b u e n=>by rw [ai (aw e h)];exact e
theorem Kp.same {H H':Hp} (k:Kp [] H H'):bc H H':=fun b o e=>k b o e (by simp)
theorem Kp.of_same {S:List Addr} {H H':Hp} (k:bc H H'):Kp S H H':=fun b o e _=>k b o e
theorem Kp.fresh {S:List Addr} {H H':Hp} (k:Kp S H H') {a:Addr} (n:H' a = none) (hs:∀ b ∈ S,∃ o,H' b = some o):H a = none:=by
 cases q:H a with
 | none=>rfl
 | some o =>
  by_cases z:a ∈ S
  ·obtain ⟨o',e⟩:=hs a z
   rw [n] at e;cases e
  ·have:=k a o q z
   rw [n] at this;cases this
section
variable {K:PySem.W.Frag} {mg:Str->Option Value}
abbrev Ij (k p:Int):List (Str × V):=[("kind",.int k),("place",.int p)]
noncomputable def fi (T:Txt K mg) (S:List Addr) (H:Hp) (E:XK) (f:Tilt.Fault):Prop:=∀ (d:Addr) (H':Hp),H' d = some (vD d (Ij f.kind f.place))->Kp S H H'->E (.ref T.ie) (some d) H'
theorem fi.kp {T:Txt K mg} {S S':List Addr} {H H1:Hp} {E:XK} {f:Tilt.Fault} (b:fi T S H E f) (k:Kp S H H1) (hs:∀ a ∈ S',a ∈ S):fi T S' H1 E f:=fun d H' e k'=>b d H' e (k.trans (k'.mono hs))
noncomputable def oS (T:Txt K mg):Sp:=fun vs H Q _=>∃ (e:Addr) (k p:Int),vs = [.ref e,.int k,.int p]/\H e = some (yF T.ie e none)/\∀ (d:Addr) (H':Hp),H d = none->d ≠ e->H' e = some (yF T.ie e (some d))->H' d = some (vD d (Ij k p)) →
 (∀ b o,H b = some o->b ≠ e->H' b = some o)->Q .fR H'
end
theorem az {P:Program} {w:World} {K:PySem.W.Frag} {mg:Str->Option Value} {base:Heap} (T:Txt K mg):a8 P w K mg base kD 1 T.iy T.cW ["self","kind","place"] (oS T):=by
 refine T.cC.ok vM (fun vs H Q E h=>?_) (fun cdv A outer s H vs Q E hr h=>?_)
 ·obtain ⟨e,k,p,rfl,_⟩:=h
  rfl
 ·obtain ⟨e,k,p,rfl,he,q⟩:=h
  refine ⟨_,ae (QX T.xc T.qK (pv 0) (pv 1) rfl) (ah (QY T.xc T.px (pv 0) (pv 2) rfl)),?_⟩
  refine ⟨_,rfl,_,rfl,e,rfl,he,fun d nd=>⟨_,rfl,_,rfl,e,d,[("kind",.int k)],rfl,af,?_,?_,(by show 1 < 100;decide),?_⟩⟩
  ·have ne:d ≠ e:=fun z=>by rw [z,he] at nd;cases nd
   rw [ai ne,af]
  ·exact fun z=>by rw [z,he] at nd;cases nd
  ·have ne:d ≠ e:=fun z=>by rw [z,he] at nd;cases nd
   refine q d _ nd ne ?_ ?_ ?_
   ·rw [ai (Ne.symm ne),af]
   ·rw [af];rfl
   ·intro b o hb hbe
    rw [ai (aw hb nd),ai hbe,ai (aw hb nd)];exact hb
section
variable {K:PySem.W.Frag} {mg:Str->Option Value}
theorem bj {T:Txt K mg} {S:List Addr} {H:Hp} {E:XK} {k p:Nat} (hb:fi T S H E ⟨k,p⟩):∀ a,H a = none->oS T [.ref a,.int (k:Int),.int (p:Int)] (upd H a (yF T.ie a none)) (fun v H2=>v = .fR/\∃ od,H2 a = some (yF T.ie a od)/\E (.ref T.ie) od (L2.drop H2 a)) E0:=by
 intro a na
 refine ⟨a,k,p,rfl,af,fun d H' nd nde he hd kp=>⟨rfl,some d,he,hb d _ ?_ ?_⟩⟩
 ·rw [mD nde];exact hd
 ·intro b o e _
  have ne:b ≠ a:=aw e na
  rw [mD ne]
  exact kp b o (by rw [ai ne];exact e) ne
noncomputable def ee (c:UInt8):Nat:=if 97<=c.toNat/\c.toNat<=122 then c.toNat else if 48<=c.toNat/\c.toNat<=57 then c.toNat else if c.toNat = 95 then 95 else 63
noncomputable def gD (w:Tilt.Bytes):Str:=⟨(w.map ee).toArray⟩
noncomputable def sL (T:Txt K mg) (H:Hp) (a:Addr) (w:Tilt.Word):Prop:=∃ dx,H a = some (.ins T.nN dx (AA (gD w.w) w.at_))
structure LA where
 l:Addr
 dx:Addr
 wl:Addr
 as:List Addr
structure b4 (T:Txt K mg) (H:Hp) (L:LA) (fin:Nat) (pre rest:List Tilt.Word):Prop where
 obj:H L.l = some (.ins T.iX L.dx (nJ L.wl fin (pre.length:Nat)))
 lst:H L.wl = some (.lst (L.as.map V.ref))
 len:L.as.length = (pre ++ rest).length
 wd:∀ (i:Nat) (a:Addr) (w:Tilt.Word),L.as[i]? = some a->(pre ++ rest)[i]? = some w->sL T H a w
 ne:∀ w ∈ pre ++ rest,w.w ≠ []/\w.w.length<=20000
 Rz:(pre ++ rest).length<=20000
theorem b4.kp {T:Txt K mg} {S:List Addr} {H H':Hp} {L:LA} {fin:Nat} {pre rest:List Tilt.Word} (x:b4 T H L fin pre rest) (k:Kp S H H') (h1:L.l ∉ S) (h2:L.wl ∉ S) (h3:∀ a ∈ L.as,a ∉ S):b4 T H' L fin pre rest :=
 ⟨k _ _ x.obj h1,k _ _ x.lst h2,x.len,fun i a w ha hw=>let ⟨dx,e⟩:=x.wd i a w ha hw;⟨dx,k _ _ e (h3 a (List.mem_of_getElem? ha))⟩,x.ne,x.Rz⟩
theorem b4.RA {T:Txt K mg} {H:Hp} {L:LA} {fin:Nat} {pre rest:List Tilt.Word} (x:b4 T H L fin pre rest):L.wl ≠ L.l/\∀ a ∈ L.as,a ≠ L.l:=by
 refine ⟨nV x.lst x.obj (by intro z;cases z),fun a ha=>?_⟩
 obtain ⟨i,hi⟩:=List.getElem?_of_mem ha
 have hl:i < (pre ++ rest).length:=by rw [←x.len];exact (List.getElem?_eq_some_iff.mp hi).1
 obtain ⟨dx,e⟩:=x.wd i a _ hi (List.getElem?_eq_getElem hl)
 refine nV e x.obj ?_
 intro z
 have:=congrArg (fun o=>match o with | HO.ins _ _ fs=>fs.length | _=>0) z
 exact absurd this (by show ¬ (2 = 3);decide)
theorem b4.step {T:Txt K mg} {H:Hp} {L:LA} {fin:Nat} {pre rest:List Tilt.Word} {w:Tilt.Word} (x:b4 T H L fin pre (w :: rest)):b4 T (upd H L.l (.ins T.iX L.dx (nJ L.wl fin ((pre.length:Nat) + 1)))) L fin (pre ++ [w]) rest:=by
 have e:(pre ++ [w]) ++ rest = pre ++ (w :: rest):=by simp
 obtain ⟨n1,n2⟩:=x.RA
 refine ⟨?_,by rw [ai n1];exact x.lst,by rw [e];exact x.len,fun i a v ha hv=>?_,by rw [e];exact x.ne,by rw [e];exact x.Rz⟩
 ·rw [af,List.length_append];rfl
 ·rw [e] at hv
  obtain ⟨dx,q⟩:=x.wd i a v ha hv
  exact ⟨dx,by rw [ai (n2 a (List.mem_of_getElem? ha))];exact q⟩
noncomputable def xx (T:Txt K mg):Sp:=fun vs H Q _=>∃ (a dx:Addr) (s:Str) (p:Int),vs = [.ref a,.str s,.int p]/\H a = some (.ins T.nN dx [])/\Q .fR (upd H a (.ins T.nN dx (AA s p)))
noncomputable def xy (T:Txt K mg):Sp:=fun vs H Q _=>∃ (a dx wl:Addr) (f:Int),vs = [.ref a,.ref wl,.int f]/\H a = some (.ins T.iX dx [])/\Q .fR (upd H a (.ins T.iX dx (nJ wl f 0)))
noncomputable def D4 (T:Txt K mg):Sp:=fun vs H Q _=>∃ (L:LA) (fin:Nat) (pre rest:List Tilt.Word),vs = [.ref L.l]/\b4 T H L fin pre rest/\Q (.bl (!rest.isEmpty)) H
noncomputable def D5 (T:Txt K mg):Sp:=fun vs H Q E=>∃ (L:LA) (fin:Nat) (pre rest:List Tilt.Word),vs = [.ref L.l]/\b4 T H L fin pre rest/\(match rest with
 | []=>fi T [L.l] H E ⟨3,fin⟩
 | w :: r=>∀ a H',sL T H' a w->b4 T H' L fin (pre ++ [w]) r->Kp [L.l] H H'->Q (.ref a) H')
noncomputable def u0 (T:Txt K mg):Sp:=fun vs H Q _=>∃ (L:LA) (fin:Nat) (pre rest:List Tilt.Word) (w:Tilt.Word),vs = [.ref L.l]/\b4 T H L fin (pre ++ [w]) rest/\Q (.int w.at_) H
noncomputable def Lit (s:Str) (b:Tilt.Bytes):Prop:=∀ w:Tilt.Bytes,gD w = s ↔ w = b
noncomputable def BU (T:Txt K mg):Sp:=fun vs H Q _=>∃ (L:LA) (fin:Nat) (pre rest:List Tilt.Word) (w:Tilt.Word) (s:Str) (b:Tilt.Bytes),vs = [.ref L.l,.str s]/\b4 T H L fin pre (w :: rest)/\Lit s b/\Q (.bl (decide (w.w = b))) H
end
theorem xA {P:Program} {w:World} {K:PySem.W.Frag} {mg:Str->Option Value} {base:Heap} (T:Txt K mg):a8 P w K mg base kD 1 T.jk T.dJ ["self","letters","place"] (xx T):=by
 refine T.c6.ok xh (fun vs H Q E h=>?_) (fun cdv A outer s H vs Q E hr h=>?_)
 ·obtain ⟨a,dx,s,p,rfl,_⟩:=h
  rfl
 ·obtain ⟨a,dx,s,p,rfl,ha,q⟩:=h
  refine ⟨_,(ae (aH (pv 0) (pv 1) rfl)
   (ah (aH (pv 0) (pv 2) rfl))),?_⟩
  refine ⟨_,rfl,_,rfl,_,_,_,_,rfl,ha,T.bU,T.bw,(by show 0 < 1000;decide),_,rfl,_,rfl,_,_,_,_,rfl,af,T.bU,T.bp,(by show 1 < 1000;decide),?_⟩
  rw [aW]
  exact q
theorem xB {P:Program} {w:World} {K:PySem.W.Frag} {mg:Str->Option Value} {base:Heap} (T:Txt K mg):a8 P w K mg base kD 1 T.jl T.dM ["self","words","finish"] (xy T):=by
 refine T.c7.ok xi (fun vs H Q E h=>?_) (fun cdv A outer s H vs Q E hr h=>?_)
 ·obtain ⟨a,dx,wl,f,rfl,_⟩:=h
  rfl
 ·obtain ⟨a,dx,wl,f,rfl,ha,q⟩:=h
  refine ⟨_,(ae (aH (pv 0) (pv 1) rfl)
   (ae (aH (pv 0) (pv 2) rfl)
   (ah (aH (pv 0) ao rfl)))),?_⟩
  refine ⟨_,rfl,_,rfl,_,_,_,_,rfl,ha,T.a7,T.fW,(by show 0 < 1000;decide),_,rfl,_,rfl,_,_,_,_,rfl,af,T.a7,T.lJ,(by show 1 < 1000;decide),_,rfl,_,_,_,_,rfl,af,T.a7,T.eQ,(by show 2 < 1000;decide),?_⟩
  rw [aW,aW]
  exact q
theorem fY {P:Program} {w:World} {K:PySem.W.Frag} {mg:Str->Option Value} {base:Heap} (T:Txt K mg):a8 P w K mg base kD 1 T.oq T.iz ["self"] (D4 T):=by
 refine T.fE.ok DJ (fun vs H Q E h=>?_) (fun cdv A outer s H vs Q E hr h=>?_)
 ·obtain ⟨L,fin,pre,rest,rfl,_⟩:=h
  rfl
 ·obtain ⟨L,fin,pre,rest,rfl,hL,q⟩:=h
  refine ⟨_,(ah (aE (cR pF (aj (pv 0) rfl) (aZ bX (by rfl) T.gK PySem.boot_len (aa (aj (pv 0) rfl) ag)) (aG _)))),?_⟩
  refine ⟨_,rfl,_,_,_,_,_,rfl,hL.obj,T.a7,T.eQ,gi,_,rfl,_,_,_,_,_,rfl,hL.obj,T.a7,T.fW,i8,_,_,rfl,.inl ⟨_,dj.of hL.lst,rfl⟩,_,_,rfl,rfl,?_⟩
  have e:decide (((pre.length:Nat):Int) < (((L.as.map V.ref).length:Nat):Int)) = !rest.isEmpty:=by
   rw [List.length_map,hL.len,List.length_append]
   cases rest with
   | nil=>simp
   | cons a r=>simp;omega
  dsimp only
  rw [e]
  exact q
theorem mY {P:Program} {w:World} {K:PySem.W.Frag} {mg:Str->Option Value} {base:Heap} (T:Txt K mg):a8 P w K mg base (uh P w) 3 T.ou T.iA ["self"] (D5 T):=by
 refine T.fF.tU vN (fun vs H Q E h=>?_) (fun cdv A outer s H vs Q E hr h=>?_)
 ·obtain ⟨L,fin,pre,rest,rfl,_⟩:=h
  rfl
 ·obtain ⟨L,fin,pre,rest,rfl,hL,q⟩:=h
  refine ⟨_,(ae (aY (rB (bQ (bg (pv 0) T.a7 T.eJ (fY T) (hr.mono (by decide)) (hW T) .nil aN) (fun _=>rfl))) (ah (bF bq rfl T.xc (az T) (hr.mono (by decide)) rfl T.bZ (aB T) (aa ao (aa (aj (pv 0) rfl) ag)))) aC)
   (ae (aR (i:=1) vN.nd rfl (Or.inl rfl) (kz h9 (aj (pv 0) rfl) (aj (pv 0) rfl) (fun _ _=>rfl)))
   (ae (gd (pv 0) ao rE)
   (ah (aE (pv 1)))))),?_⟩
  refine ⟨_,rfl,_,_,_,rfl,hL.obj,fS,L,fin,pre,rest,rfl,hL,_,rfl,?_⟩
  cases rest with
  | nil =>
   refine aQ ?_
   refine ⟨_,rfl,_,_,_,_,_,rfl,hL.obj,T.a7,T.lJ,sv,?_⟩
   exact bj (k:=3) q
  | cons w r =>
   refine aM ?_
   have hw:(pre ++ w :: r)[pre.length]? = some w:=by simp
   have hlt:pre.length < L.as.length:=by rw [hL.len];simp
   obtain ⟨a,ha⟩:∃ a,L.as[pre.length]? = some a:=⟨_,List.getElem?_eq_getElem hlt⟩
   refine ⟨_,rfl,_,_,_,_,_,rfl,hL.obj,T.a7,T.fW,i8,_,rfl,_,_,_,_,_,rfl,hL.obj,T.a7,T.eQ,gi,_,_,_,_,rfl,rfl,dj.of hL.lst,mC (v:=V.ref a) (by rw [List.getElem?_map,ha];rfl),?_⟩
   refine ⟨_,rfl,_,_,_,_,_,rfl,hL.obj,T.a7,T.eQ,gi,_,_,rfl,rfl,_,_,hL.obj,M7,?_⟩
   refine ⟨_,rfl,?_⟩
   rw [BF]
   have hs:=hL.step
   obtain ⟨dx,ew⟩:=hL.wd _ a w ha hw
   exact q a _ ⟨dx,by rw [ai (hL.RA.2 a (List.mem_of_getElem? ha))];exact ew⟩ hs (Kp.wr (by simp))
theorem b5 {P:Program} {w:World} {K:PySem.W.Frag} {mg:Str->Option Value} {base:Heap} (T:Txt K mg):a8 P w K mg base kD 1 T.gH T.cD ["self"] (u0 T):=by
 refine T.bS.ok uS (fun vs H Q E h=>?_) (fun cdv A outer s H vs Q E hr h=>?_)
 ·obtain ⟨L,fin,pre,rest,w,rfl,_⟩:=h
  rfl
 ·obtain ⟨L,fin,pre,rest,w,rfl,hL,q⟩:=h
  refine ⟨_,(ah (aE (aj (kz h9 (aj (pv 0) rfl) (cQ uG (aj (pv 0) rfl) ao) (fun _ _=>rfl)) rfl))),?_⟩
  have hw:((pre ++ [w]) ++ rest)[pre.length]? = some w:=by simp
  have hlt:pre.length < L.as.length:=by rw [hL.len];simp
  obtain ⟨a,ha⟩:∃ a,L.as[pre.length]? = some a:=⟨_,List.getElem?_eq_getElem hlt⟩
  obtain ⟨dx,ew⟩:=hL.wd _ a w ha hw
  refine ⟨_,rfl,_,_,_,_,_,rfl,hL.obj,T.a7,T.fW,i8,_,rfl,_,_,_,_,_,rfl,hL.obj,T.a7,T.eQ,gi,_,_,rfl,rfl,_,_,_,_,rfl,rfl,dj.of hL.lst,at_of (j:=pre.length) (v:=V.ref a) (by rw [List.length_append];simp) (by rw [List.getElem?_map,ha];rfl),_,_,_,_,_,rfl,ew,T.bU,T.bp,bx,q⟩
theorem BV {P:Program} {w:World} {K:PySem.W.Frag} {mg:Str->Option Value} {base:Heap} (T:Txt K mg):a8 P w K mg base kD 1 T.mK T.gn ["self","letters"] (BU T):=by
 refine T.eK.ok BC (fun vs H Q E h=>?_) (fun cdv A outer s H vs Q E hr h=>?_)
 ·obtain ⟨L,fin,pre,rest,w,s,b,rfl,_⟩:=h
  rfl
 ·obtain ⟨L,fin,pre,rest,w,s,b,rfl,hL,hb,q⟩:=h
  refine ⟨_,(ah (aE (cR dX (aj (kz h9 (aj (pv 0) rfl) (aj (pv 0) rfl) (fun _ _=>rfl)) rfl) (pv 1) (aG _)))),?_⟩
  have hw:(pre ++ w :: rest)[pre.length]? = some w:=by simp
  have hlt:pre.length < L.as.length:=by rw [hL.len];simp
  obtain ⟨a,ha⟩:∃ a,L.as[pre.length]? = some a:=⟨_,List.getElem?_eq_getElem hlt⟩
  obtain ⟨dx,ew⟩:=hL.wd _ a w ha hw
  refine ⟨_,rfl,_,_,_,_,_,rfl,hL.obj,T.a7,T.fW,i8,_,rfl,_,_,_,_,_,rfl,hL.obj,T.a7,T.eQ,gi,_,_,_,_,rfl,rfl,dj.of hL.lst,mC (v:=V.ref a) (by rw [List.getElem?_map,ha];rfl),_,_,_,_,_,rfl,ew,T.bU,T.bw,bK,_,rfl,rfl,?_⟩
  have e:decide (V.str (gD w.w) = V.str s) = decide (w.w = b):=by
   rw [sU]
   by_cases z:w.w = b
   ·rw [decide_eq_true z,(hb w.w).mpr z];simp
   ·rw [decide_eq_false z];simpa using fun y=>z ((hb w.w).mp y)
  rw [e]
  exact q
end Pb
namespace Pb
open PySem PySem.Spec PyProof.Rows L2
theorem Na (c:UInt8):ee c < 128:=by unfold ee;(repeat' split) <;> omega
theorem Gp {c:UInt8} {n:Nat} (h:97<=n/\n<=122):ee c = n ↔ c.toNat = n:=by unfold ee;(repeat' split) <;> omega
theorem AR {c:UInt8}:(48<=ee c/\ee c<=57) ↔ (48<=c.toNat/\c.toNat<=57):=by unfold ee;(repeat' split) <;> omega
theorem Jz {c:UInt8} (h:48<=c.toNat/\c.toNat<=57):ee c = c.toNat:=by unfold ee;(repeat' split) <;> omega
theorem Ik {c:UInt8}:(97<=ee c/\ee c<=122) ↔ (97<=c.toNat/\c.toNat<=122):=by unfold ee;(repeat' split) <;> omega
theorem AS {c:UInt8}:ee c ≠ 63 ↔ ((97<=c.toNat/\c.toNat<=122)\/(48<=c.toNat/\c.toNat<=57)\/c.toNat = 95):=by unfold ee;(repeat' split) <;> omega
theorem sM (w:Tilt.Bytes):(gD w).cps.toList = w.map ee:=rfl
theorem lM (w:Tilt.Bytes):(gD w).length = w.length:=by show (w.map ee).toArray.size = _;simp
theorem Nb {w:Tilt.Bytes} {b:Tilt.Bytes} (hb:∀ c ∈ b,97<=c.toNat/\c.toNat<=122):w.map ee = b.map (·.toNat) ↔ w = b:=by
 constructor
 ·intro h
  induction w generalizing b with
  | nil=>cases b with
   | nil=>rfl
   | cons _ _=>cases h
  | cons c w ih=>cases b with
   | nil=>cases h
   | cons d b =>
    rw [List.map_cons,List.map_cons] at h
    have h1:=(List.cons.inj h).1
    have h2:=(List.cons.inj h).2
    have hd:=hb d (List.mem_cons_self ..)
    have:c.toNat = d.toNat:=(Gp hd).mp h1
    rw [UInt8.toNat_inj.mp this,ih (fun x hx=>hb x (List.mem_cons_of_mem _ hx)) h2]
 ·rintro rfl
  refine List.map_congr_left fun c hc=>?_
  exact (Gp (hb c hc)).mpr rfl
theorem fc {s:Str} {b:Tilt.Bytes} (h1:s.cps.toList = b.map (·.toNat)) (h2:(b.all fun c=>decide (97<=c.toNat) && decide (c.toNat<=122)) = true):Lit s b:=by
 intro w
 have hb:∀ c ∈ b,97<=c.toNat/\c.toNat<=122:=fun c hc=>by
  have:=List.all_eq_true.mp h2 c hc
  simpa using this
 rw [←Nb hb,←h1]
 constructor
 ·intro e;rw [←e];rfl
 ·intro e
  obtain ⟨a⟩:=s
  unfold gD
  rw [e]
theorem Pw:Lit "at" (Tilt.ascii "at"):=fc (by decide +kernel) (by decide +kernel)
theorem Kv:Lit "balls" (Tilt.ascii "balls"):=fc (by decide +kernel) (by decide +kernel)
theorem Kw:Lit "close" (Tilt.ascii "close"):=fc (by decide +kernel) (by decide +kernel)
theorem L4:Lit "open" (Tilt.ascii "open"):=fc (by decide +kernel) (by decide +kernel)
theorem Il:Lit "turned" (Tilt.ascii "turned"):=fc (by decide +kernel) (by decide +kernel)
theorem L5:Lit "most" (Tilt.ascii "most"):=fc (by decide +kernel) (by decide +kernel)
theorem L6:Lit "rest" (Tilt.ascii "rest"):=fc (by decide +kernel) (by decide +kernel)
theorem L7:Lit "hold" (Tilt.ascii "hold"):=fc (by decide +kernel) (by decide +kernel)
theorem Px:Lit "by" (Tilt.ascii "by"):=fc (by decide +kernel) (by decide +kernel)
theorem Kx:Lit "holds" (Tilt.ascii "holds"):=fc (by decide +kernel) (by decide +kernel)
theorem xC:Lit "drain" Tilt.DRAIN:=fc (by decide +kernel) (by decide +kernel)
theorem L8:Lit "loop" Tilt.LOOP:=fc (by decide +kernel) (by decide +kernel)
theorem lit_none:Lit "" []:=fc (by decide +kernel) (by decide +kernel)
theorem Nc:Lit "for" (Tilt.ascii "for"):=fc (by decide +kernel) (by decide +kernel)
theorem L9:Lit "till" (Tilt.ascii "till"):=fc (by decide +kernel) (by decide +kernel)
theorem Lit.dec {s:Str} {b w:Tilt.Bytes} (h:Lit s b):decide (V.str (gD w) = V.str s) = decide (w = b):=by
 rw [sU]
 by_cases z:w = b
 ·rw [decide_eq_true z,(h w).mpr z];simp
 ·rw [decide_eq_false z];simpa using fun y=>z ((h w).mp y)
theorem wg {w v:Tilt.Bytes} (h:Tilt.isName w = true) (e:gD w = gD v):w = v:=by
 have e':w.map ee = v.map ee:=congrArg (fun s=>s.cps.toList) e
 have hw:∀ c ∈ w,(97<=c.toNat/\c.toNat<=122)\/(48<=c.toNat/\c.toNat<=57)\/c.toNat = 95:=by
  intro c hc
  unfold Tilt.isName at h
  simp only [Bool.and_eq_true] at h
  have:=List.all_eq_true.mp h.2.2.1 c hc
  unfold Tilt.isSmall Tilt.isDigit at this
  simp only [Bool.or_eq_true,Bool.and_eq_true,decide_eq_true_eq,beq_iff_eq] at this
  rcases this with z | z | z
  ·exact .inl ⟨UInt8.le_iff_toNat_le.mp z.1,UInt8.le_iff_toNat_le.mp z.2⟩
  ·exact .inr (.inl ⟨UInt8.le_iff_toNat_le.mp z.1,UInt8.le_iff_toNat_le.mp z.2⟩)
  ·exact .inr (.inr (by rw [z];rfl))
 clear h e
 induction w generalizing v with
 | nil=>cases v with
  | nil=>rfl
  | cons _ _=>cases e'
 | cons c w ih=>cases v with
  | nil=>cases e'
  | cons d v =>
   rw [List.map_cons,List.map_cons] at e'
   have h1:=(List.cons.inj e').1
   have h2:=(List.cons.inj e').2
   have hc:=hw c (List.mem_cons_self ..)
   have:c.toNat = d.toNat:=by
    unfold ee at h1
    repeat' split at h1
    all_goals omega
   rw [UInt8.toNat_inj.mp this,ih h2 (fun x hx=>hw x (List.mem_cons_of_mem _ hx))]
noncomputable def qT:Str:="abcdefghijklmnopqrstuvwxyz"
theorem Gq {n:Nat}:n ∈ qT.cps.toList ↔ (97<=n/\n<=122):=by
 have e:qT.cps.toList = List.range' 97 26:=by decide +kernel
 rw [e,List.mem_range'_1]
 omega
theorem Ky {c:UInt8} {w:Tilt.Bytes}:Tilt.isName (c :: w) = (decide ((c :: w).length<=12) && (decide (ee c ∈ qT.cps.toList) && !decide (63 ∈ (c :: w).map ee))):=by
 unfold Tilt.isName Tilt.NAME
 have e1:decide (1<=(c :: w).length) = true:=decide_eq_true (by simp)
 rw [e1,Bool.true_and]
 congr 1
 rw [Bool.and_comm]
 have e2:(((c :: w).head?.map Tilt.isSmall).getD false) = decide (ee c ∈ qT.cps.toList):=by
  show Tilt.isSmall c = _
  unfold Tilt.isSmall
  rw [Bool.eq_iff_iff]
  simp only [Bool.and_eq_true,decide_eq_true_eq]
  rw [Gq,Ik,UInt8.le_iff_toNat_le,UInt8.le_iff_toNat_le]
  rfl
 have e3:((c :: w).all fun c=>Tilt.isSmall c || (Tilt.isDigit c || c == 95)) = !decide (63 ∈ (c :: w).map ee):=by
  rw [Bool.eq_iff_iff,Bool.not_eq_true',decide_eq_false_iff_not,List.all_eq_true,List.mem_map]
  constructor
  ·rintro h ⟨d,hd,e⟩
   have:=h d hd
   unfold Tilt.isSmall Tilt.isDigit at this
   simp only [Bool.or_eq_true,Bool.and_eq_true,decide_eq_true_eq,beq_iff_eq] at this
   refine absurd e (AS.mpr ?_)
   rcases this with z | z | z
   ·exact .inl ⟨UInt8.le_iff_toNat_le.mp z.1,UInt8.le_iff_toNat_le.mp z.2⟩
   ·exact .inr (.inl ⟨UInt8.le_iff_toNat_le.mp z.1,UInt8.le_iff_toNat_le.mp z.2⟩)
   ·exact .inr (.inr (by rw [z];rfl))
  ·intro h d hd
   have:ee d ≠ 63:=fun e=>h ⟨d,hd,e⟩
   rw [AS] at this
   unfold Tilt.isSmall Tilt.isDigit
   simp only [Bool.or_eq_true,Bool.and_eq_true,decide_eq_true_eq,beq_iff_eq]
   rcases this with z | z | z
   ·exact .inl ⟨UInt8.le_iff_toNat_le.mpr z.1,UInt8.le_iff_toNat_le.mpr z.2⟩
   ·exact .inr (.inl ⟨UInt8.le_iff_toNat_le.mpr z.1,UInt8.le_iff_toNat_le.mpr z.2⟩)
   ·exact .inr (.inr (UInt8.toNat_inj.mp (by rw [z];rfl)))
 rw [e2,e3]
theorem Ma:∀ n:Fin 128,Unicode.isDigit n.val = (decide (48<=n.val) && decide (n.val<=57)):=by decide +kernel
theorem Im {w:Tilt.Bytes} (h:w ≠ []):Txt.isdigit (gD w) = w.all Tilt.isDigit:=by
 unfold Txt.isdigit
 rw [lM,show decide (w.length > 0) = true from decide_eq_true (List.length_pos_iff.mpr h),Bool.true_and]
 rw [←Array.all_toList]
 show (w.map ee).all Unicode.isDigit = _
 rw [List.all_map]
 congr 1
 funext c
 have:=Ma ⟨ee c,Na c⟩
 show Unicode.isDigit (ee c) = _
 rw [this]
 unfold Tilt.isDigit
 rw [Bool.eq_iff_iff]
 simp only [Bool.and_eq_true,decide_eq_true_eq]
 rw [AR,UInt8.le_iff_toNat_le,UInt8.le_iff_toNat_le]
 rfl
noncomputable def Mb (w:Tilt.Bytes):Option Nat:=if (w.all Tilt.isDigit) = false\/4 < w.length then none else if w.head? = some 48/\1 < w.length then none else some (NumText.digitsVal (w.map ee))
theorem JA:∀ (w:Tilt.Bytes) (a:Nat),a * 10 ^ w.length<=w.foldl (fun (n:Nat) (c:UInt8)=>10 * n + (c.toNat - 48)) a
 | [],a=>by simp
 | c :: w,a=>by
  rw [List.foldl_cons,List.length_cons]
  refine Nat.le_trans ?_ (JA w _)
  rw [Nat.pow_succ,Nat.mul_comm (10 ^ w.length) 10,←Nat.mul_assoc]
  refine Nat.mul_le_mul_right _ ?_
  omega
theorem Sg {w:Tilt.Bytes} (h:w.all Tilt.isDigit = true):∀ a:Nat,(w.map ee).foldl (fun acc c=>acc * 10 + (c - 48)) a = w.foldl (fun (n:Nat) (c:UInt8)=>10 * n + (c.toNat - 48)) a:=by
 induction w with
 | nil=>intro a;rfl
 | cons c w ih =>
  intro a
  rw [List.all_cons,Bool.and_eq_true] at h
  rw [List.map_cons,List.foldl_cons,List.foldl_cons,ih h.2]
  have h1:=h.1
  unfold Tilt.isDigit at h1
  simp only [Bool.and_eq_true,decide_eq_true_eq] at h1
  rw [Jz ⟨UInt8.le_iff_toNat_le.mp h1.1,UInt8.le_iff_toNat_le.mp h1.2⟩,Nat.mul_comm a 10]
theorem Gr {w:Tilt.Bytes} (h:w ≠ []) {lo hi:Nat} (hh:hi < 10000):(match Tilt.numberOf w with | none=>none | some n=>if n < lo\/hi < n then none else some n) = (match Mb w with | none=>none | some n=>if n < lo\/hi < n then none else some n):=by
 unfold Tilt.numberOf Mb
 have he:¬ w.isEmpty = true:=fun z=>h (List.isEmpty_iff.mp z)
 by_cases h1:w.all Tilt.isDigit = false
 ·rw [if_pos (.inr (.inl h1)),if_pos (.inl h1)]
 ·have h1':w.all Tilt.isDigit = true:=by simpa using h1
  have hv:NumText.digitsVal (w.map ee) = w.foldl (fun (n:Nat) (c:UInt8)=>10 * n + (c.toNat - 48)) 0:=Sg h1' 0
  by_cases h2:w.head? = some 48/\w ≠ [48]
  ·rw [if_pos (.inr (.inr h2))]
   by_cases h3:4 < w.length
   ·rw [if_pos (.inr h3)]
   ·rw [if_neg (by rintro (z | z);exact h1 z;exact h3 z)]
    have:1 < w.length:=by
     cases w with
     | nil=>exact absurd rfl h
     | cons c r=>cases r with
      | nil =>
       have:c = 48:=by simpa using h2.1
       exact absurd (by rw [this]) h2.2
      | cons _ _=>simp
    rw [if_pos ⟨h2.1,this⟩]
  ·rw [if_neg (by rintro (z | z | z);exact he z;exact h1 z;exact h2 z)]
   by_cases h3:4 < w.length
   ·rw [if_pos (show w.all Tilt.isDigit = false\/4 < w.length from .inr h3)]
    have:10000<=w.foldl (fun (n:Nat) (c:UInt8)=>10 * n + (c.toNat - 48)) 0:=by
     cases w with
     | nil=>exact absurd rfl h
     | cons c r =>
      rw [List.foldl_cons]
      have hc:1<=10 * 0 + (c.toNat - 48):=by
       rw [List.all_cons,Bool.and_eq_true] at h1'
       have z:=h1'.1
       unfold Tilt.isDigit at z
       simp only [Bool.and_eq_true,decide_eq_true_eq] at z
       have z1:48<=c.toNat:=UInt8.le_iff_toNat_le.mp z.1
       have z2:c.toNat ≠ 48:=fun y=>h2 ⟨by rw [List.head?_cons,UInt8.toNat_inj.mp (show c.toNat = (48:UInt8).toNat from y)],fun q=>by rw [q] at h3;simp at h3⟩
       omega
      have g:=JA r (10 * 0 + (c.toNat - 48))
      have p:10000<=10 ^ r.length:=by
       have:4<=r.length:=by rw [List.length_cons] at h3;omega
       calc 10000 = 10 ^ 4:=by decide
        _<=10 ^ r.length:=Nat.pow_le_pow_right (by decide) this
      calc 10000<=1 * 10 ^ r.length:=by omega
       _<=(10 * 0 + (c.toNat - 48)) * 10 ^ r.length:=Nat.mul_le_mul_right _ hc
       _<=_:=g
    dsimp only
    rw [if_pos (.inr (by omega))]
   ·rw [if_neg (show ¬ (w.all Tilt.isDigit = false\/4 < w.length) by rintro (z | z);exact h1 z;exact h3 z),if_neg (show ¬ (w.head? = some 48/\1 < w.length) by
     rintro ⟨z1,z2⟩
     exact h2 ⟨z1,fun y=>by rw [y] at z2;simp at z2⟩),hv]
end Pb
namespace Pb
open PySem PySem.Spec PyProof.Rows L2
section
variable {K:PySem.W.Frag} {mg:Str->Option Value}
noncomputable def Io (T:Txt K mg):Sp:=fun vs H Q _=>∃ w:Tilt.Bytes,vs = [.str (gD w)]/\w ≠ []/\w.length<=20000/\Q (.bl (Tilt.isName w)) H
noncomputable def eh (T:Txt K mg) (H:Hp) (L:LA) (fin:Nat) (pre rest:List Tilt.Word) (E:XK) {A:Type} (r:EF (A × List Tilt.Word)) (k:A->Hp->Prop):Prop:=match r with
 | .error f=>fi T [L.l] H E f
 | .ok (a,r)=>∀ H' w,rest = w :: r->b4 T H' L fin (pre ++ [w]) r->Kp [L.l] H H'->k a H'
noncomputable def BW (T:Txt K mg):Sp:=fun vs H Q E=>∃ (L:LA) (fin:Nat) (pre rest:List Tilt.Word) (s:Str) (b:Tilt.Bytes),vs = [.ref L.l,.str s]/\b4 T H L fin pre rest/\Lit s b/\eh T H L fin pre rest E ((bE fin b rest).map fun r=>((),r)) fun _ H'=>Q .fR H'
noncomputable def D6 (T:Txt K mg):Sp:=fun vs H Q E=>∃ (L:LA) (fin:Nat) (pre rest:List Tilt.Word),vs = [.ref L.l]/\b4 T H L fin pre rest/\eh T H L fin pre rest E (rM fin rest) fun w H'=>∀ a,sL T H' a w->Q (.ref a) H'
noncomputable def D7 (T:Txt K mg):Sp:=fun vs H Q E=>∃ (a:Addr) (w:Tilt.Word),vs = [.ref a]/\sL T H a w/\w.w ≠ []/\w.w.length<=20000/\(match Mb w.w with
 | none=>fi T [] H E ⟨4,w.at_⟩
 | some n=>Q (.int n) H)
noncomputable def AU (T:Txt K mg):Sp:=fun vs H Q E=>∃ (L:LA) (fin:Nat) (pre rest:List Tilt.Word) (lo hi:Nat),vs = [.ref L.l,.int lo,.int hi]/\hi < 10000/\b4 T H L fin pre rest/\eh T H L fin pre rest E (takeNum fin lo hi rest) fun n H'=>Q (.int n.1) H'
noncomputable def Gs (T:Txt K mg):Sp:=fun vs H Q E=>∃ (L:LA) (fin:Nat) (pre rest:List Tilt.Word),vs = [.ref L.l]/\b4 T H L fin pre rest/\(match rest with
 | []=>Q .fR H
 | w :: _=>fi T [] H E ⟨3,w.at_⟩)
noncomputable def lN (H:Hp) (d:Addr) (kvs:List (Key × V)) (names:List Tilt.Bytes):Prop:=H d = some (.dK kvs)/\kvs.map (·.1) = names.map (fun n=>(Sum.inr (gD n):Key))/\(∀ n ∈ names,Tilt.isName n = true)/\kvs.length<=20000
theorem xD {kvs:List (Key × V)} {k:Key} (h:k ∉ kvs.map (·.1)):pL kvs k = none:=by
 unfold pL
 rw [List.find?_eq_none.mpr (fun x hx=>by simpa using fun e=>h (List.mem_map.mpr ⟨x,hx,e⟩))]
 rfl
theorem C0 {kvs:List (Key × V)} {k:Key} (h:k ∈ kvs.map (·.1)):∃ v,pL kvs k = some v:=by
 obtain ⟨x,hx,e⟩:=List.mem_map.mp h
 unfold pL
 cases q:kvs.find? fun kv=>decide (kv.1 = k) with
 | none=>exact absurd (List.find?_eq_none.mp q x hx) (by simpa using e)
 | some y=>exact ⟨y.2,rfl⟩
theorem AV {names:List Tilt.Bytes} {kvs:List (Key × V)} (e:kvs.map (·.1) = names.map (fun n=>(Sum.inr (gD n):Key))) (hn:∀ n ∈ names,Tilt.isName n = true) {w:Tilt.Bytes}:(pL kvs (Sum.inr (gD w))).isSome = names.contains w:=by
 by_cases h:w ∈ names
 ·rw [show names.contains w = true by simpa using h]
  obtain ⟨v,hv⟩:=C0 (k:=(Sum.inr (gD w):Key)) (by rw [e];exact List.mem_map.mpr ⟨w,h,rfl⟩)
  rw [hv];rfl
 ·rw [show names.contains w = false by simpa using h,xD (by
   rw [e]
   intro z
   obtain ⟨n,hm,q⟩:=List.mem_map.mp z
   exact h (by rw [←wg (hn n hm) (Sum.inr.inj q)];exact hm))]
  rfl
noncomputable def xE (T:Txt K mg):Sp:=fun vs H Q E=>∃ (L:LA) (fin:Nat) (pre rest:List Tilt.Word) (d:Addr) (kvs:List (Key × V)) (names:List Tilt.Bytes) (s:Str) (b:Tilt.Bytes),vs = [.ref L.l,.ref d,.str s]/\b4 T H L fin pre rest/\lN H d kvs names/\Lit s b ∧
 eh T H L fin pre rest E (lz fin names b rest) fun n H'=>Q (.str (gD n)) H'
noncomputable def BX (T:Txt K mg):Sp:=fun vs H Q E=>∃ (L:LA) (fin:Nat) (pre rest:List Tilt.Word) (r dx d:Addr) (hi mo:Int) (s:Str) (kvs:List (Key × V)) (names:List Tilt.Bytes),vs = [.ref L.l,.ref r]/\b4 T H L fin pre rest/\H r = some (.ins T.gQ dx (mv d hi mo s))/\lN H d kvs names ∧
 eh T H L fin pre rest E (ei fin names rest) fun w H'=>Q (.str (gD w.w)) H'
end
theorem Mc {w:Tilt.Bytes} {c:UInt8} {z:Str} (e:z.cps.toList = (c :: w).map ee):Mv z.cps.toList (0:Int) = some (ee c):=by
 rw [e]
 exact mC (j:=0) rfl
theorem Ip {P:Program} {w:World} {K:PySem.W.Frag} {mg:Str->Option Value} {base:Heap} (T:Txt K mg):a8 P w K mg base kD 1 T.tI T.kZ ["letters"] (Io T):=by
 refine T.jP.ok Ia (fun vs H Q E h=>?_) (fun cdv A outer s H vs Q E hr h=>?_)
 ·obtain ⟨w,rfl,_⟩:=h
  rfl
 ·obtain ⟨w,rfl,hne,hz,q⟩:=h
  refine ⟨_,(ah (aE (zY (cR Aa (aZ bX (by rfl) T.gK PySem.boot_len (aa (pv 0) ag)) (iV rfl T.kj) (aG _)) (zY (cR HI (kz Dk (pv 0) ao (fun _ _=>rfl)) (iV rfl T.p8) (by with_unfolding_all rfl)) (Dd (cR Bz (iV rfl T.v8) (pv 0) (by with_unfolding_all rfl))))))),?_⟩
  cases w with
  | nil=>exact absurd rfl hne
  | cons c w =>
   have hl:(gD (c :: w)).length<=sizeLine:=by rw [lM];exact Nat.le_trans hz (by decide)
   rw [Ky] at q
   refine ⟨_,rfl,_,_,rfl,⟨hl,rfl⟩,_,_,rfl,rfl,_,rfl,?_⟩
   rw [lM]
   have e1:decide ((((c :: w).length:Nat):Int)<=12) = decide ((c :: w).length<=12):=by
    by_cases z:(c :: w).length<=12
    ·rw [decide_eq_true z,decide_eq_true (by omega)]
    ·rw [decide_eq_false z,decide_eq_false (by omega)]
   rw [e1]
   cases h1:decide ((c :: w).length<=12) with
   | false=>rw [h1] at q;exact aM q
   | true =>
    rw [h1] at q
    refine aQ ⟨_,rfl,_,_,_,rfl,rfl,hl,Mc (sM (c :: w)),ee c,qT,rfl,rfl,_,rfl,?_⟩
    cases h2:decide (ee c ∈ qT.cps.toList) with
    | false=>rw [h2] at q;exact aM q
    | true =>
     rw [h2] at q
     exact aQ ⟨_,rfl,63,gD (c :: w),rfl,rfl,q⟩
end Pb
namespace Pb
open PySem PySem.Spec PyProof.Rows L2
theorem lN.kp {H H':Hp} {d:Addr} {kvs:List (Key × V)} {names:List Tilt.Bytes} (x:lN H d kvs names) {S:List Addr} (k:Kp S H H') (n:d ∉ S):lN H' d kvs names:=⟨k _ _ x.1 n,x.2⟩
theorem lN.ne {K:PySem.W.Frag} {mg:Str->Option Value} {T:Txt K mg} {H:Hp} {L:LA} {fin:Nat} {pre rest:List Tilt.Word} {d:Addr} {kvs:List (Key × V)} {names:List Tilt.Bytes} (x:lN H d kvs names) (y:b4 T H L fin pre rest):d ∉ [L.l]:=by
 intro z
 exact absurd (List.mem_singleton.mp z) (nV x.1 y.obj (by intro q;cases q))
theorem fi.at {K:PySem.W.Frag} {mg:Str->Option Value} {T:Txt K mg} {S:List Addr} {H H1:Hp} {E:XK} {f:Tilt.Fault} (b:fi T S H E f) (k:Kp S H H1):fi T [] H1 E f:=b.kp k (by simp)
theorem fi.to {K:PySem.W.Frag} {mg:Str->Option Value} {T:Txt K mg} {S:List Addr} {H H1:Hp} {E:XK} {f:Tilt.Fault} (b:fi T S H E f) (k:Kp S H H1):fi T S H1 E f:=b.kp k (fun _ z=>z)
theorem bA {P:Program} {w:World} {K:PySem.W.Frag} {mg:Str->Option Value} {base:Heap} (T:Txt K mg):a8 P w K mg base (uh P w) 4 T.mL T.gp ["line","letters"] (BW T):=by
 refine T.aT.tU ui (fun vs H Q E h=>?_) (fun cdv A outer s H vs Q E hr h=>?_)
 ·obtain ⟨L,fin,pre,rest,s,b,rfl,_⟩:=h
  rfl
 ·obtain ⟨L,fin,pre,rest,s,b,rfl,hL,hb,q⟩:=h
  refine ⟨_,(ae (aR (i:=2) ui.nd rfl (Or.inl rfl) (bg (pv 0) T.a7 T.j7 (mY T) (hr.mono (by decide)) (oQ T) .nil (bC bq)))
   (ah (aY (aI Fi (aj (pv 2) rfl) (pv 1) (aG _)) (ah (bF bq rfl T.xc (az T) (hr.mono (by decide)) rfl T.bZ (aB T) (aa ao (aa (aj (pv 2) rfl) ag)))) aC))),?_⟩
  refine ⟨_,rfl,_,_,_,rfl,hL.obj,mI,L,fin,pre,rest,rfl,hL,?_⟩
  cases rest with
  | nil=>exact q
  | cons w r =>
   intro a H1 hw h1 k1
   obtain ⟨dx,ew⟩:=hw
   refine ⟨_,rfl,_,_,_,_,_,rfl,ew,T.bU,T.bw,bK,_,rfl,rfl,_,rfl,?_⟩
   rw [hb.dec]
   unfold eh bE at q
   dsimp only at q
   by_cases z:w.w = b
   ·rw [if_pos z] at q
    rw [decide_eq_true z]
    exact aM (q H1 w rfl h1 k1)
   ·rw [if_neg z] at q
    rw [decide_eq_false z]
    refine aQ ⟨_,rfl,_,_,_,_,_,rfl,ew,T.bU,T.bp,bx,?_⟩
    exact bj (k:=3) (fi.at q k1)
theorem qU {P:Program} {w:World} {K:PySem.W.Frag} {mg:Str->Option Value} {base:Heap} (T:Txt K mg):a8 P w K mg base (uh P w) 4 T.oy T.iC ["line"] (D6 T):=by
 refine T.dB.tU vP (fun vs H Q E h=>?_) (fun cdv A outer s H vs Q E hr h=>?_)
 ·obtain ⟨L,fin,pre,rest,rfl,_⟩:=h
  rfl
 ·obtain ⟨L,fin,pre,rest,rfl,hL,q⟩:=h
  refine ⟨_,(ae (aR (i:=1) vP.nd rfl (Or.inl rfl) (bg (pv 0) T.a7 T.j7 (mY T) (hr.mono (by decide)) (oQ T) .nil (bC bq)))
   (ae (aY (rB (bQ (aq (Ip T) (hr.mono (by decide)) rfl T.CV T.jP.kp (Ku T) .nil aN (aa (aj (pv 1) rfl) ag)) (fun _=>rfl))) (ah (bF bq rfl T.xc (az T) (hr.mono (by decide)) rfl T.bZ (aB T) (aa ao (aa (aj (pv 1) rfl) ag)))) aC)
   (ah (aE (pv 1))))),?_⟩
  refine ⟨_,rfl,_,_,_,rfl,hL.obj,mI,L,fin,pre,rest,rfl,hL,?_⟩
  cases rest with
  | nil=>exact q
  | cons w r =>
   intro a H1 hw h1 k1
   obtain ⟨dx,ew⟩:=id hw
   obtain ⟨n1,n2⟩:=hL.ne w (by simp)
   refine ⟨_,rfl,_,_,_,_,_,rfl,ew,T.bU,T.bw,bK,w.w,rfl,n1,n2,_,rfl,?_⟩
   unfold eh rM at q
   cases z:Tilt.isName w.w with
   | false =>
    dsimp only at q
    rw [if_pos z] at q
    refine aQ ⟨_,rfl,_,_,_,_,_,rfl,ew,T.bU,T.bp,bx,?_⟩
    exact bj (k:=4) (fi.at q k1)
   | true =>
    dsimp only at q
    rw [if_neg (by rw [z];simp)] at q
    exact aM ⟨_,rfl,q H1 w rfl h1 k1 a hw⟩
theorem Q9 {w:Tilt.Bytes} (h:w.all Tilt.isDigit = true):NumText.AllDigits (gD w).cps.toList:=by
 intro n hn
 rw [sM] at hn
 obtain ⟨c,hc,rfl⟩:=List.mem_map.mp hn
 have:=List.all_eq_true.mp h c hc
 unfold Tilt.isDigit at this
 simp only [Bool.and_eq_true,decide_eq_true_eq] at this
 exact AR.mpr ⟨UInt8.le_iff_toNat_le.mp this.1,UInt8.le_iff_toNat_le.mp this.2⟩
theorem D8 {P:Program} {w:World} {K:PySem.W.Frag} {mg:Str->Option Value} {base:Heap} (T:Txt K mg):a8 P w K mg base (uh P w) 3 T.oA T.iD ["word"] (D7 T):=by
 refine T.fH.tU vQ (fun vs H Q E h=>?_) (fun cdv A outer s H vs Q E hr h=>?_)
 ·obtain ⟨a,w,rfl,_⟩:=h
  rfl
 ·obtain ⟨a,w,rfl,⟨dx,ew⟩,hne,hz,q⟩:=h
  refine ⟨_,(ae (aR (i:=1) vQ.nd rfl (Or.inl rfl) (aj (pv 0) rfl))
   (ae (aY (PW.pt (zX (rB (bQ (QS PySem.F.slot_str_isdigit PySem.F.type_str_isdigit HH (pv 1)) (fun _=>rfl))) (uD (aI pG (aZ bX (by rfl) T.gK PySem.boot_len (aa (pv 1) ag)) (iV rfl T.iT) (aG _))))) (ah (bF bq rfl T.xc (az T) (hr.mono (by decide)) rfl T.bZ (aB T) (aa ao (aa (aj (pv 0) rfl) ag)))) aC)
   (ae (aY (PW.pt (uE (aI dX (kz Dk (pv 1) ao (fun _ _=>rfl)) eY (aG _)) (sS (aI pG (aZ bX (by rfl) T.gK PySem.boot_len (aa (pv 1) ag)) ao (aG _))))) (ah (bF bq rfl T.xc (az T) (hr.mono (by decide)) rfl T.bZ (aB T) (aa ao (aa (aj (pv 0) rfl) ag)))) aC)
   (ah (aE (JT Dr (by rfl) T.Jx Pu (aa (pv 1) ag))))))),?_⟩
  have hl:(gD w.w).length<=sizeLine:=by rw [lM];exact Nat.le_trans hz (by decide)
  refine ⟨_,rfl,_,_,_,_,_,rfl,ew,T.bU,T.bw,bK,_,rfl,⟨_,rfl⟩,_,rfl,rfl,trivial,_,rfl,?_⟩
  rw [Im hne]
  unfold Mb at q
  cases h1:w.w.all Tilt.isDigit with
  | false =>
   rw [if_pos (.inl h1)] at q
   refine aQ ?_
   refine aQ ?_
   exact ⟨_,rfl,_,_,_,_,_,rfl,ew,T.bU,T.bp,bx,bj (k:=4) q⟩
  | true =>
   refine aM ⟨_,rfl,_,_,rfl,⟨hl,rfl⟩,_,_,rfl,rfl,_,rfl,?_⟩
   rw [lM]
   by_cases h2:4 < w.w.length
   ·rw [if_pos (.inr h2)] at q
    rw [decide_eq_true (show (4:Int) < ((w.w.length:Nat):Int) by omega)]
    refine aQ ⟨_,rfl,_,_,_,_,_,rfl,ew,T.bU,T.bp,bx,bj (k:=4) q⟩
   ·rw [if_neg (by rintro (z | z);rw [h1] at z;cases z;exact h2 z)] at q
    rw [decide_eq_false (show ¬ (4:Int) < ((w.w.length:Nat):Int) by omega)]
    refine aM ?_
    obtain ⟨c,r,hw⟩:∃ c r,w.w = c :: r:=by cases hq:w.w with | nil=>exact absurd hq hne | cons c r=>exact ⟨c,r,rfl⟩
    refine ⟨_,rfl,_,_,_,rfl,rfl,hl,Mc (c:=c) (w:=r) (by rw [sM,hw]),rfl,_,rfl,?_⟩
    have e0:decide (V.str ⟨#[ee c]⟩ = V.str "0") = decide (w.w.head? = some 48):=by
     have e48:("0" : Str) = ⟨#[48]⟩:=by decide +kernel
     rw [hw,e48]
     show _ = decide (some c = some 48)
     by_cases z:c = 48
     ·subst z
      rw [decide_eq_true rfl,decide_eq_true]
      rfl
     ·rw [decide_eq_false (fun y=>z (Option.some.inj y)),decide_eq_false]
      intro y
      apply z
      have y1:ee c = 48:=by
       have:=congrArg (fun v=>match v with | V.str s=>s.cps.getD 0 0 | _=>0) y
       exact this
      have y2:c.toNat = 48:=by
       have:=(AR (c:=c)).mp (by omega)
       rw [Jz this] at y1
       exact y1
      exact UInt8.toNat_inj.mp (by rw [y2];rfl)
    rw [e0]
    by_cases h3:w.w.head? = some 48
    ·rw [decide_eq_true h3]
     refine aQ ⟨_,rfl,_,_,rfl,⟨hl,rfl⟩,_,_,rfl,rfl,_,rfl,?_⟩
     rw [lM]
     by_cases h4:1 < w.w.length
     ·rw [if_pos ⟨h3,h4⟩] at q
      rw [decide_eq_true (show (1:Int) < ((w.w.length:Nat):Int) by omega)]
      refine aQ ⟨_,rfl,_,_,_,_,_,rfl,ew,T.bU,T.bp,bx,bj (k:=4) q⟩
     ·rw [if_neg (fun z=>h4 z.2)] at q
      rw [decide_eq_false (show ¬ (1:Int) < ((w.w.length:Nat):Int) by omega)]
      refine aM ⟨_,rfl,_,_,rfl,PySem.intText_digits (Q9 h1) (by rw [sM,hw];simp) (by rw [lM];omega),by rw [lM];omega,q⟩
    ·rw [decide_eq_false h3]
     rw [if_neg (fun z=>h3 z.1)] at q
     refine aM (aM ⟨_,rfl,_,_,rfl,PySem.intText_digits (Q9 h1) (by rw [sM,hw];simp) (by rw [lM];omega),by rw [lM];omega,q⟩)
theorem cP {P:Program} {w:World} {K:PySem.W.Frag} {mg:Str->Option Value} {base:Heap} (T:Txt K mg):a8 P w K mg base (uh P w) 4 T.lG T.fw ["line","least","most"] (AU T):=by
 refine T.bb.tU nE (fun vs H Q E h=>?_) (fun cdv A outer s H vs Q E hr h=>?_)
 ·obtain ⟨L,fin,pre,rest,lo,hi,rfl,_⟩:=h
  rfl
 ·obtain ⟨L,fin,pre,rest,lo,hi,rfl,hh,hL,q⟩:=h
  refine ⟨_,(ae (aR (i:=3) nE.nd rfl (Or.inl rfl) (bg (pv 0) T.a7 T.j7 (mY T) (hr.mono (by decide)) (oQ T) .nil (bC bq)))
   (ae (aR (i:=4) nE.nd rfl (Or.inl rfl) (aq (D8 T) (hr.mono (by decide)) rfl T.yu T.fH.kp (Gf T) .nil (bC bq) (aa (pv 3) ag)))
   (ae (aY (PW.pt (zX (aI pF (pv 4) (pv 1) (aG _)) (uD (aI pG (pv 4) (pv 2) (aG _))))) (ah (bF bq rfl T.xc (az T) (hr.mono (by decide)) rfl T.bZ (aB T) (aa ao (aa (aj (pv 3) rfl) ag)))) aC)
   (ah (aE (pv 4)))))),?_⟩
  refine ⟨_,rfl,_,_,_,rfl,hL.obj,mI,L,fin,pre,rest,rfl,hL,?_⟩
  cases rest with
  | nil=>exact q
  | cons w r =>
   intro a H1 hw h1 k1
   obtain ⟨dx,ew⟩:=id hw
   obtain ⟨n1,n2⟩:=hL.ne w (by simp)
   have ne:=Gr (lo:=lo) (hi:=hi) n1 hh
   refine ⟨_,rfl,a,w,rfl,hw,n1,n2,?_⟩
   unfold eh takeNum at q
   dsimp only at q
   cases z:Mb w.w with
   | none =>
    rw [z] at ne
    dsimp only at ne ⊢
    cases y:Tilt.numberOf w.w with
    | none=>rw [y] at q;exact fi.at q k1
    | some n =>
     rw [y] at q ne
     dsimp only at q ne
     by_cases u:n < lo\/hi < n
     ·rw [if_pos u] at q;exact fi.at q k1
     ·rw [if_neg u] at ne;cases ne
   | some n =>
    rw [z] at ne
    dsimp only at ne ⊢
    refine ⟨_,rfl,_,rfl,_,_,rfl,rfl,_,rfl,?_⟩
    have q':if n < lo\/hi < n then fi T [L.l] H E ⟨4,w.at_⟩ else (∀ (H':Hp) (w_1:Tilt.Word),w :: r = w_1 :: r->b4 T H' L fin (pre ++ [w_1]) r->Kp [L.l] H H'->Q (V.int (n:Nat)) H'):=by
     by_cases u:n < lo\/hi < n
     ·rw [if_pos u] at ne ⊢
      cases y:Tilt.numberOf w.w with
      | none=>rw [y] at q;exact q
      | some m =>
       rw [y] at q ne
       dsimp only at q ne
       by_cases u2:m < lo\/hi < m
       ·rw [if_pos u2] at q;exact q
       ·rw [if_neg u2] at ne;cases ne
     ·rw [if_neg u] at ne ⊢
      cases y:Tilt.numberOf w.w with
      | none=>rw [y] at ne;cases ne
      | some m =>
       rw [y] at q ne
       dsimp only at q ne
       by_cases u2:m < lo\/hi < m
       ·rw [if_pos u2] at ne;cases ne
       ·rw [if_neg u2] at ne q
        cases ne
        exact q
    clear q
    by_cases u1:n < lo
    ·rw [if_pos (.inl u1)] at q'
     rw [decide_eq_true (show ((n:Nat):Int) < ((lo:Nat):Int) by omega)]
     refine aQ ?_
     refine aQ ⟨_,rfl,_,_,_,_,_,rfl,ew,T.bU,T.bp,bx,?_⟩
     exact bj (k:=4) (fi.at q' k1)
    ·rw [decide_eq_false (show ¬ ((n:Nat):Int) < ((lo:Nat):Int) by omega)]
     refine aM ⟨_,rfl,_,rfl,_,_,rfl,rfl,_,rfl,?_⟩
     by_cases u2:hi < n
     ·rw [if_pos (.inr u2)] at q'
      rw [decide_eq_true (show ((hi:Nat):Int) < ((n:Nat):Int) by omega)]
      refine aQ ⟨_,rfl,_,_,_,_,_,rfl,ew,T.bU,T.bp,bx,?_⟩
      exact bj (k:=4) (fi.at q' k1)
     ·rw [if_neg (by rintro (y | y);exact u1 y;exact u2 y)] at q'
      rw [decide_eq_false (show ¬ ((hi:Nat):Int) < ((n:Nat):Int) by omega)]
      exact aM ⟨_,rfl,q' H1 w rfl h1 k1⟩
theorem Gu {P:Program} {w:World} {K:PySem.W.Frag} {mg:Str->Option Value} {base:Heap} (T:Txt K mg):a8 P w K mg base (uh P w) 3 T.qH T.jQ ["line"] (Gs T):=by
 refine T.gX.tU F0 (fun vs H Q E h=>?_) (fun cdv A outer s H vs Q E hr h=>?_)
 ·obtain ⟨L,fin,pre,rest,rfl,_⟩:=h
  rfl
 ·obtain ⟨L,fin,pre,rest,rfl,hL,q⟩:=h
  refine ⟨_,(ah (aY (bQ (bg (pv 0) T.a7 T.eJ (fY T) (hr.mono (by decide)) (hW T) .nil aN) (fun _=>rfl)) (ah (bF bq rfl T.xc (az T) (hr.mono (by decide)) rfl T.bZ (aB T) (aa ao (aa (aj (kz h9 (aj (pv 0) rfl) (aj (pv 0) rfl) (fun _ _=>rfl)) rfl) ag)))) aC)),?_⟩
  refine ⟨_,rfl,_,_,_,rfl,hL.obj,fS,L,fin,pre,rest,rfl,hL,_,rfl,?_⟩
  cases rest with
  | nil=>exact aM q
  | cons w r =>
   have hw:(pre ++ w :: r)[pre.length]? = some w:=by simp
   have hlt:pre.length < L.as.length:=by rw [hL.len];simp
   obtain ⟨a,ha⟩:∃ a,L.as[pre.length]? = some a:=⟨_,List.getElem?_eq_getElem hlt⟩
   obtain ⟨dx,ew⟩:=hL.wd _ a w ha hw
   refine aQ ⟨_,rfl,_,_,_,_,_,rfl,hL.obj,T.a7,T.fW,i8,_,rfl,_,_,_,_,_,rfl,hL.obj,T.a7,T.eQ,gi,_,_,_,_,rfl,rfl,dj.of hL.lst,mC (v:=V.ref a) (by rw [List.getElem?_map,ha];rfl),_,_,_,_,_,rfl,ew,T.bU,T.bp,bx,?_⟩
   exact bj (k:=3) q
theorem qd {P:Program} {w:World} {K:PySem.W.Frag} {mg:Str->Option Value} {base:Heap} (T:Txt K mg):a8 P w K mg base (uh P w) 5 T.jq T.dQ ["line","known","barred"] (xE T):=by
 refine T.bY.tU pW (fun vs H Q E h=>?_) (fun cdv A outer s H vs Q E hr h=>?_)
 ·obtain ⟨L,fin,pre,rest,d,kvs,names,s,b,rfl,_⟩:=h
  rfl
 ·obtain ⟨L,fin,pre,rest,d,kvs,names,s,b,rfl,hL,hd,hb,q⟩:=h
  refine ⟨_,(ae (aR (i:=3) pW.nd rfl (Or.inl rfl) (aq (qU T) (hr.mono (by decide)) rfl T.oz T.dB.kp (sJ T) .nil (bC bq) (aa (pv 0) ag)))
   (ae (aY (aI dX (aj (pv 3) rfl) (pv 2) (aG _)) (ah (bF bq rfl T.xc (az T) (hr.mono (by decide)) rfl T.bZ (aB T) (aa ao (aa (aj (pv 3) rfl) ag)))) aC)
   (ae (aY (qj (Dq (nk hr) (aj (pv 3) rfl) (pv 1))) (ah (bF bq rfl T.xc (az T) (hr.mono (by decide)) rfl T.bZ (aB T) (aa ao (aa (aj (pv 3) rfl) ag)))) aC)
   (ah (aE (aj (pv 3) rfl)))))),?_⟩
  refine ⟨_,rfl,L,fin,pre,rest,rfl,hL,?_⟩
  unfold eh rM
  cases rest with
  | nil=>exact q
  | cons w r =>
   unfold eh lz at q
   dsimp only at q ⊢
   by_cases z:Tilt.isName w.w = false
   ·rw [if_pos z] at q ⊢;exact q
   ·rw [if_neg z] at q ⊢
    intro H1 w' e1 h1 k1 a hw
    cases e1
    obtain ⟨dx,ew⟩:=id hw
    have hd1:=hd.kp k1 (hd.ne hL)
    refine ⟨_,rfl,_,_,_,_,_,rfl,ew,T.bU,T.bw,bK,_,rfl,rfl,_,rfl,?_⟩
    rw [hb.dec]
    by_cases y:w.w = b
    ·rw [if_pos y] at q
     rw [decide_eq_true y]
     refine aQ ⟨_,rfl,_,_,_,_,_,rfl,ew,T.bU,T.bp,bx,?_⟩
     exact bj (k:=4) (fi.at q k1)
    ·rw [if_neg y] at q
     rw [decide_eq_false y]
     refine aM ⟨_,rfl,_,_,_,_,_,rfl,ew,T.bU,T.bw,bK,_,rfl,_,_,rfl,pN.k (k:=Sum.inr (gD w.w)) hd1.1,_,rfl,?_⟩
     rw [AV hd1.2.1 hd1.2.2.1]
     cases u:names.contains w.w with
     | true =>
      rw [if_pos u] at q
      refine aQ ⟨_,rfl,_,_,_,_,_,rfl,ew,T.bU,T.bp,bx,?_⟩
      exact bj (k:=5) (fi.at q k1)
     | false =>
      rw [if_neg (by rw [u];simp)] at q
      exact aM ⟨_,rfl,_,_,_,_,_,rfl,ew,T.bU,T.bw,bK,q H1 w rfl h1 k1⟩
theorem lO {P:Program} {w:World} {K:PySem.W.Frag} {mg:Str->Option Value} {base:Heap} (T:Txt K mg):a8 P w K mg base (uh P w) 5 T.mM T.gq ["line","roll"] (BX T):=by
 refine T.cj.tU uj (fun vs H Q E h=>?_) (fun cdv A outer s H vs Q E hr h=>?_)
 ·obtain ⟨L,fin,pre,rest,r,dx,d,hi,mo,s,kvs,names,rfl,_⟩:=h
  rfl
 ·obtain ⟨L,fin,pre,rest,r,dx,d,hi,mo,s,kvs,names,rfl,hL,hR,hd,q⟩:=h
  refine ⟨_,(ae (aR (i:=2) uj.nd rfl (Or.inl rfl) (aq (qU T) (hr.mono (by decide)) rfl T.oz T.dB.kp (sJ T) .nil (bC bq) (aa (pv 0) ag)))
   (ae (aY (qj (JX (nk hr) (aj (pv 2) rfl) (aj (pv 1) rfl))) (ah (bF bq rfl T.xc (az T) (hr.mono (by decide)) rfl T.bZ (aB T) (aa ao (aa (aj (pv 2) rfl) ag)))) aC)
   (ah (aE (aj (pv 2) rfl))))),?_⟩
  refine ⟨_,rfl,L,fin,pre,rest,rfl,hL,?_⟩
  unfold eh rM
  cases rest with
  | nil=>exact q
  | cons w rr =>
   unfold eh ei at q
   dsimp only at q ⊢
   by_cases z:Tilt.isName w.w = false
   ·rw [if_pos z] at q ⊢;exact q
   ·rw [if_neg z] at q ⊢
    intro H1 w' e1 h1 k1 a hw
    cases e1
    obtain ⟨dxw,ew⟩:=id hw
    have hd1:=hd.kp k1 (hd.ne hL)
    have hR1:H1 r = _:=k1 _ _ hR (by
     intro y
     refine absurd (List.mem_singleton.mp y) (nV hR hL.obj ?_)
     intro u
     have:=congrArg (fun o=>match o with | HO.ins _ _ fs=>fs.length | _=>0) u
     exact absurd this (by show ¬ (4 = 3);decide))
    refine ⟨_,rfl,_,_,_,_,_,rfl,ew,T.bU,T.bw,bK,_,rfl,_,_,_,_,_,rfl,hR1,T.eT,T.cb,cN,_,_,rfl,pN.k (k:=Sum.inr (gD w.w)) hd1.1,_,rfl,?_⟩
    rw [AV hd1.2.1 hd1.2.2.1]
    cases u:names.contains w.w with
    | true =>
     rw [if_pos u] at q
     exact aM ⟨_,rfl,_,_,_,_,_,rfl,ew,T.bU,T.bw,bK,q H1 w rfl h1 k1⟩
    | false =>
     rw [if_neg (by rw [u];simp)] at q
     refine aQ ⟨_,rfl,_,_,_,_,_,rfl,ew,T.bU,T.bp,bx,?_⟩
     exact bj (k:=6) (fi.at q k1)
end Pb
namespace Pb
open PySem PySem.Spec PyProof.Rows L2
noncomputable def Om:V->Nat
 | .int _=>1
 | .ref _=>2
 | .str _=>3
 | _=>4
noncomputable def fe:HO->Nat
 | .lst _=>1
 | .dK _=>2
 | .ins _ _ (a :: b :: r)=>100 * (r.length + 2) + 10 * Om a.2 + Om b.2
 | _=>3
theorem bf {xs:List V}:fe (.lst xs) = 1:=rfl
theorem wj {xs:List (Key × V)}:fe (.dK xs) = 2:=rfl
theorem qV {c d:Addr} {x0:Int} {x1:Addr} {x2:Addr}:fe (.ins c d (vV x0 x1 x2)) = 312:=rfl
theorem cx {c d:Addr} {x0:Int} {x1:Addr} {x2:Int} {x3:Int} {x4:Int} {x5:Int} {x6:Int} {x7:Int}:fe (.ins c d (a0 x0 x1 x2 x3 x4 x5 x6 x7)) = 812:=rfl
theorem gL {c d:Addr} {x0:Int} {x1:Addr} {x2:Int} {x3:Int} {x4:Int} {x5:Int} {x6:Int} {x7:Int}:fe (.ins c d (eF x0 x1 x2 x3 x4 x5 x6 x7)) = 812:=rfl
theorem JB {c d:Addr} {x0:Str} {x1:Int}:fe (.ins c d (AA x0 x1)) = 231:=rfl
theorem jx {c d:Addr} {x0:Addr} {x1:Int} {x2:Int}:fe (.ins c d (nJ x0 x1 x2)) = 321:=rfl
theorem jy {c d:Addr} {x0:Addr} {x1:Int} {x2:Int} {x3:Str}:fe (.ins c d (mv x0 x1 x2 x3)) = 421:=rfl
theorem oU {c d:Addr} {x0:Int} {x1:Int} {x2:Addr}:fe (.ins c d (nL x0 x1 x2)) = 311:=rfl
theorem Gv {c d:Addr} {x0:Int} {x1:Int} {x2:Addr} {x3:Addr} {x4:Addr} {x5:Addr} {x6:Addr} {x7:Addr} {x8:Addr} {x9:Addr} {x10:Int} {x11:Int} {x12:Int}:fe (.ins c d (bR x0 x1 x2 x3 x4 x5 x6 x7 x8 x9 x10 x11 x12)) = 1311:=rfl
theorem lP {c d:Addr} {x0:Addr} {x1:Int}:fe (.ins c d (lV x0 x1)) = 221:=rfl
theorem aU {H:Hp} {a b:Addr} {o u:HO} {n m:Nat} (h:H a = some o) (h':H b = some u) (t1:fe o = n) (t2:fe u = m) (d:n ≠ m:=by decide):a ≠ b:=nV h h' fun z=>d (by rw [←t1,←t2,z])
section
variable {K:PySem.W.Frag} {mg:Str->Option Value}
noncomputable def va (ps:List (Tilt.Bytes × Nat)):List (Key × V):=ps.map fun p=>(Sum.inr (gD p.1),V.int p.2)
noncomputable def Bv (ns:List Tilt.Bytes):List (Key × V):=ns.map fun n=>(Sum.inr (gD n),V.bl true)
theorem wk (ps:List (Tilt.Bytes × Nat)):(va ps).map (·.1) = (ps.map (·.1)).map (fun n=>(Sum.inr (gD n):Key)):=by unfold va;rw [List.map_map,List.map_map];rfl
theorem AW (ns:List Tilt.Bytes):(Bv ns).map (·.1) = ns.map (fun n=>(Sum.inr (gD n):Key)):=by unfold Bv;rw [List.map_map];rfl
theorem zT {ps:List (Tilt.Bytes × Nat)} (hn:∀ p ∈ ps,Tilt.isName p.1 = true) (w:Tilt.Bytes):pL (va ps) (Sum.inr (gD w)) = (ps.lookup w).map fun n=>V.int n:=by
 induction ps with
 | nil=>rfl
 | cons p r ih =>
  obtain ⟨a,b⟩:=p
  have ha:=hn (a,b) (List.mem_cons_self ..)
  show pL ((Sum.inr (gD a),V.int b) :: va r) _ = _
  rw [List.lookup_cons]
  by_cases z:w = a
  ·subst z
   rw [vy rfl];simp
  ·rw [vz (fun y=>z (wg ha (Sum.inr.inj y)).symm),show (w == a) = false by simpa using z]
   exact ih fun p hp=>hn p (List.mem_cons_of_mem _ hp)
theorem Gw {kvs:List (Key × V)} {k:Key} {v:V} (h:pL kvs k = none):putK kvs k v = kvs ++ [(k,v)]:=by
 unfold putK
 rw [if_neg]
 intro z
 obtain ⟨x,hx,e⟩:=List.any_eq_true.mp z
 obtain ⟨y,hy⟩:=C0 (List.mem_map.mpr ⟨x,hx,of_decide_eq_true e⟩)
 rw [h] at hy;cases hy
theorem JC {ps:List (Tilt.Bytes × Nat)} (hn:∀ p ∈ ps,Tilt.isName p.1 = true) {w:Tilt.Bytes} {n:Nat} (h:w ∉ ps.map (·.1)):putK (va ps) (Sum.inr (gD w)) (.int n) = va (ps ++ [(w,n)]):=by
 rw [Gw (xD (by
  rw [wk]
  intro z
  obtain ⟨m,hm,e⟩:=List.mem_map.mp z
  obtain ⟨p,hp,rfl⟩:=List.mem_map.mp hm
  exact h (by rw [←wg (hn p hp) (Sum.inr.inj e)];exact hm)))]
 unfold va
 rw [List.map_append];rfl
theorem D9 {ns:List Tilt.Bytes} (hn:∀ p ∈ ns,Tilt.isName p = true) {w:Tilt.Bytes} (h:w ∉ ns):putK (Bv ns) (Sum.inr (gD w)) (.bl true) = Bv (ns ++ [w]):=by
 rw [Gw (xD (by
  rw [AW]
  intro z
  obtain ⟨m,hm,e⟩:=List.mem_map.mp z
  exact h (by rw [←wg (hn m hm) (Sum.inr.inj e)];exact hm)))]
 unfold Bv
 rw [List.map_append];rfl
structure TA where
 t:Addr
 Oo:Addr
 sw:Addr
 Ql:Addr
 Lg:Addr
 la:Addr
 Sh:Addr
 Qm:Addr
 co:Addr
 RB:Addr
 Nd:Addr
 mo:Addr
 dn:Addr
 pl:Addr
 he:Addr
 bu:Addr
noncomputable def TA.all (A:TA):List Addr:=[A.t,A.sw,A.Lg,A.la,A.Qm,A.co,A.Nd,A.mo,A.dn,A.pl,A.he,A.bu]
structure nS (T:Txt K mg) (H:Hp) (r dx d:Addr) (ro:uJ) (most:Nat) (bar:Str):Prop where
 obj:H r = some (.ins T.gQ dx (mv d ro.hi most bar))
 kF:H d = some (.dK (va ro.ps))
noncomputable def di (T:Txt K mg) (H:Hp) (a:Addr) (p:Plan):Prop:=∃ dx sl,H a = some (.ins T.eZ dx (nL p.coil p.pulse sl))/\H sl = some (.lst (p.gE.map fun (n:Nat)=>V.int n))/\p.gE ≠ []
structure mZ (T:Txt K mg) (H:Hp) (as:List Addr) (ps:List Plan):Prop where
 len:as.length = ps.length
 at_:∀ (i:Nat) (a:Addr) (p:Plan),as[i]? = some a->ps[i]? = some p->di T H a p
structure TableAt (T:Txt K mg) (H:Hp) (A:TA) (pt:PT):Prop where
 obj:H A.t = some (.ins T.aS A.Oo (bR pt.rank (pt.balls:Nat) A.sw A.la A.co A.mo A.dn A.pl A.he A.bu (pt.drained:Nat) (pt.kicks:Nat) pt.tS))
 sw:nS T H A.sw A.Ql A.Lg pt.sw 63 "drain"
 la:nS T H A.la A.Sh A.Qm pt.la 63 "loop"
 co:nS T H A.co A.RB A.Nd pt.co 31 ""
 mo:H A.mo = some (.dK (va pt.mo))
 dn:H A.dn = some (.dK (Bv pt.dn))
 he:H A.he = some (.dK (Bv pt.held))
 bu:H A.bu = some (.dK (Bv pt.busy))
 pl:∃ as,H A.pl = some (.lst (as.map V.ref))/\mZ T H as pt.bt
 nd:A.all.Nodup
structure kq (pt:PT):Prop where
 sw:∀ p ∈ pt.sw.ps,Tilt.isName p.1 = true
 la:∀ p ∈ pt.la.ps,Tilt.isName p.1 = true
 co:∀ p ∈ pt.co.ps,Tilt.isName p.1 = true
 mo:∀ p ∈ pt.mo,Tilt.isName p.1 = true
 dn:∀ p ∈ pt.dn,Tilt.isName p = true
 he:∀ p ∈ pt.held,Tilt.isName p = true
 bu:∀ p ∈ pt.busy,Tilt.isName p = true
 sz:pt.sw.ps.length < 1000/\pt.la.ps.length < 1000/\pt.co.ps.length < 1000/\pt.mo.length < 1000/\pt.dn.length < 1000/\pt.held.length < 1000/\pt.busy.length < 1000/\pt.bt.length < 1000
 cm:pt.mo.map (·.1) = pt.co.ps.map (·.1)
theorem mZ.kp {T:Txt K mg} {H H':Hp} {as:List Addr} {ps:List Plan} (x:mZ T H as ps) {S:List Addr} (k:Kp S H H') (hs:∀ b ∈ S,∀ o,H b = some o->fe o ≠ 311/\∀ n r,o ≠ .lst (V.int n :: r)):mZ T H' as ps:=by
 refine ⟨x.len,fun i a p ha hp=>?_⟩
 obtain ⟨dx,sl,e1,e2,ne⟩:=x.at_ i a p ha hp
 refine ⟨dx,sl,k _ _ e1 fun z=>(hs a z _ e1).1 oU,k _ _ e2 fun z=>?_,ne⟩
 cases q:p.gE with
 | nil=>exact ne q
 | cons m r=>rw [q] at e2;exact (hs sl z _ e2).2 _ _ rfl
theorem TableAt.tags {T:Txt K mg} {H:Hp} {A:TA} {pt:PT} (x:TableAt T H A pt):∀ b ∈ A.all,∃ o,H b = some o/\(fe o = 1311\/fe o = 421\/fe o = 2\/(b = A.pl/\∃ as:List Addr,o = .lst (as.map V.ref))):=by
 intro b hb
 unfold TA.all at hb
 simp only [List.mem_cons,List.not_mem_nil,or_false] at hb
 obtain ⟨as,e,_⟩:=x.pl
 rcases hb with rfl | rfl | rfl | rfl | rfl | rfl | rfl | rfl | rfl | rfl | rfl | rfl
 ·exact ⟨_,x.obj,.inl Gv⟩
 ·exact ⟨_,x.sw.obj,.inr (.inl jy)⟩
 ·exact ⟨_,x.sw.kF,.inr (.inr (.inl rfl))⟩
 ·exact ⟨_,x.la.obj,.inr (.inl jy)⟩
 ·exact ⟨_,x.la.kF,.inr (.inr (.inl rfl))⟩
 ·exact ⟨_,x.co.obj,.inr (.inl jy)⟩
 ·exact ⟨_,x.co.kF,.inr (.inr (.inl rfl))⟩
 ·exact ⟨_,x.mo,.inr (.inr (.inl rfl))⟩
 ·exact ⟨_,x.dn,.inr (.inr (.inl rfl))⟩
 ·exact ⟨_,e,.inr (.inr (.inr ⟨rfl,as,rfl⟩))⟩
 ·exact ⟨_,x.he,.inr (.inr (.inl rfl))⟩
 ·exact ⟨_,x.bu,.inr (.inr (.inl rfl))⟩
theorem TableAt.kp {T:Txt K mg} {H H':Hp} {A:TA} {pt:PT} (x:TableAt T H A pt) {S:List Addr} (k:Kp S H H') (h1:∀ b ∈ A.all,b ∉ S) (hs:∀ b ∈ S,∀ o,H b = some o->fe o ≠ 311/\∀ n r,o ≠ .lst (V.int n :: r)):TableAt T H' A pt:=by
 have m:∀ b,b ∈ A.all->b ∉ S:=h1
 unfold TA.all at m
 obtain ⟨as,e,p⟩:=x.pl
 exact ⟨k _ _ x.obj (m _ (by simp)),⟨k _ _ x.sw.obj (m _ (by simp)),k _ _ x.sw.kF (m _ (by simp))⟩,⟨k _ _ x.la.obj (m _ (by simp)),k _ _ x.la.kF (m _ (by simp))⟩,⟨k _ _ x.co.obj (m _ (by simp)),k _ _ x.co.kF (m _ (by simp))⟩,
  k _ _ x.mo (m _ (by simp)),k _ _ x.dn (m _ (by simp)),k _ _ x.he (m _ (by simp)),k _ _ x.bu (m _ (by simp)),⟨as,k _ _ e (m _ (by simp)),p.kp k hs⟩,x.nd⟩
theorem b4.tag {T:Txt K mg} {H:Hp} {L:LA} {fin:Nat} {pre rest:List Tilt.Word} (x:b4 T H L fin pre rest):∀ a ∈ L.as,∃ o,H a = some o/\fe o = 231:=by
 intro a ha
 obtain ⟨i,hi⟩:=List.getElem?_of_mem ha
 have hl:i < (pre ++ rest).length:=by rw [←x.len];exact (List.getElem?_eq_some_iff.mp hi).1
 obtain ⟨dx,e⟩:=x.wd i a _ hi (List.getElem?_eq_getElem hl)
 exact ⟨_,e,JB⟩
structure jd (T:Txt K mg) (H:Hp) (A:TA) (pt:PT) (L:LA) (fin:Nat) (pre rest:List Tilt.Word):Prop where
 tab:TableAt T H A pt
 pD:b4 T H L fin pre rest
 apart:L.wl ≠ A.pl
theorem jd.out {T:Txt K mg} {H:Hp} {A:TA} {pt:PT} {L:LA} {fin:Nat} {pre rest:List Tilt.Word} (x:jd T H A pt L fin pre rest):L.l ∉ A.all/\L.wl ∉ A.all/\∀ a ∈ L.as,a ∉ A.all:=by
 refine ⟨fun z=>?_,fun z=>?_,fun a ha z=>?_⟩
 ·obtain ⟨o,e,t⟩:=x.tab.tags _ z
  rw [x.pD.obj] at e
  cases e
  rcases t with t | t | t | ⟨_,as,t⟩
  ·rw [jx] at t;exact absurd t (by decide)
  ·rw [jx] at t;exact absurd t (by decide)
  ·rw [jx] at t;exact absurd t (by decide)
  ·cases t
 ·obtain ⟨o,e,t⟩:=x.tab.tags _ z
  rw [x.pD.lst] at e
  cases e
  rcases t with t | t | t | ⟨t,_⟩
  ·rw [bf] at t;exact absurd t (by decide)
  ·rw [bf] at t;exact absurd t (by decide)
  ·rw [bf] at t;exact absurd t (by decide)
  ·exact x.apart t
 ·obtain ⟨o,e,t⟩:=x.tab.tags _ z
  obtain ⟨o',e',t'⟩:=x.pD.tag a ha
  rw [e'] at e
  cases e
  rcases t with t | t | t | ⟨_,as,t⟩
  ·rw [t'] at t;exact absurd t (by decide)
  ·rw [t'] at t;exact absurd t (by decide)
  ·rw [t'] at t;exact absurd t (by decide)
  ·rw [t] at t';exact absurd t' (by show ¬ (1 = 231);decide)
theorem jd.line {T:Txt K mg} {H H':Hp} {A:TA} {pt:PT} {L:LA} {fin:Nat} {pre rest pre' rest':List Tilt.Word} (x:jd T H A pt L fin pre rest) (k:Kp [L.l] H H') (y:b4 T H' L fin pre' rest'):jd T H' A pt L fin pre' rest':=by
 refine ⟨x.tab.kp k (fun b hb z=>?_) (fun b hb o e=>?_),y,x.apart⟩
 ·exact x.out.1 (by rw [←List.mem_singleton.mp z];exact hb)
 ·rw [List.mem_singleton.mp hb,x.pD.obj] at e
  cases e
  exact ⟨by rw [jx];decide,fun n r z=>by cases z⟩
theorem jd.table {T:Txt K mg} {H H':Hp} {A:TA} {pt pt':PT} {L:LA} {fin:Nat} {pre rest:List Tilt.Word} (x:jd T H A pt L fin pre rest) (k:Kp A.all H H') (y:TableAt T H' A pt'):jd T H' A pt' L fin pre rest :=
 ⟨y,x.pD.kp k x.out.1 x.out.2.1 x.out.2.2,x.apart⟩
theorem TableAt.Ra {T:Txt K mg} {H:Hp} {A:TA} {pt:PT} (x:TableAt T H A pt) {b:Addr} {u:HO} (hb:b ∈ A.all) (hp:b ≠ A.pl):∃ as,upd H b u A.pl = some (.lst (as.map V.ref))/\mZ T (upd H b u) as pt.bt:=by
 obtain ⟨as,e,p⟩:=x.pl
 refine ⟨as,by rw [ai (Ne.symm hp)];exact e,p.kp (S:=[b]) (Kp.wr (by simp)) fun c hc o ec=>?_⟩
 rw [List.mem_singleton.mp hc] at ec
 obtain ⟨o',e',t⟩:=x.tags b hb
 rw [ec] at e'
 cases e'
 rcases t with t | t | t | ⟨t,_⟩
 ·exact ⟨by rw [t];decide,fun n r z=>by rw [z] at t;exact absurd t (by show ¬ (1 = 1311);decide)⟩
 ·exact ⟨by rw [t];decide,fun n r z=>by rw [z] at t;exact absurd t (by show ¬ (1 = 421);decide)⟩
 ·exact ⟨by rw [t];decide,fun n r z=>by rw [z] at t;exact absurd t (by show ¬ (1 = 2);decide)⟩
 ·exact absurd t hp
theorem ay {A:TA} (h:A.all.Nodup) (i j:Nat) {a b:Addr} (ha:A.all[i]? = some a) (hb:A.all[j]? = some b) (hij:i ≠ j):a ≠ b:=fun z=>hij (Oh h ha (by rw [z];exact hb))
theorem jU {a b c d:Addr} (h1:a ≠ b) (h2:a ≠ c) (h3:a ≠ d):a ∉ [b,c,d]:=by simp [h1,h2,h3]
theorem TableAt.Kz {T:Txt K mg} {H:Hp} {A:TA} {pt:PT} (x:TableAt T H A pt) (rk:Int) (ba dr ki:Nat) (kh:Int):TableAt T (upd H A.t (.ins T.aS A.Oo (bR rk (ba:Nat) A.sw A.la A.co A.mo A.dn A.pl A.he A.bu (dr:Nat) (ki:Nat) kh))) A { pt with rank:=rk,balls:=ba,drained:=dr,kicks:=ki,tS:=kh } :=
 ⟨af,⟨(by rw [ai (ay x.nd 1 0 rfl rfl (by decide))];exact x.sw.obj),(by rw [ai (ay x.nd 2 0 rfl rfl (by decide))];exact x.sw.kF)⟩,⟨(by rw [ai (ay x.nd 3 0 rfl rfl (by decide))];exact x.la.obj),(by rw [ai (ay x.nd 4 0 rfl rfl (by decide))];exact x.la.kF)⟩,⟨(by rw [ai (ay x.nd 5 0 rfl rfl (by decide))];exact x.co.obj),(by rw [ai (ay x.nd 6 0 rfl rfl (by decide))];exact x.co.kF)⟩,(by rw [ai (ay x.nd 7 0 rfl rfl (by decide))];exact x.mo),(by rw [ai (ay x.nd 8 0 rfl rfl (by decide))];exact x.dn),(by rw [ai (ay x.nd 10 0 rfl rfl (by decide))];exact x.he),(by rw [ai (ay x.nd 11 0 rfl rfl (by decide))];exact x.bu),x.Ra (by unfold TA.all;simp) (ay x.nd 0 9 rfl rfl (by decide)),x.nd⟩
theorem TableAt.Rb {T:Txt K mg} {H:Hp} {A:TA} {pt:PT} (x:TableAt T H A pt) (y:List (Tilt.Bytes × Nat)):TableAt T (upd H A.mo (.dK (va y))) A { pt with mo:=y } :=
 ⟨(by rw [ai (ay x.nd 0 7 rfl rfl (by decide))];exact x.obj),⟨(by rw [ai (ay x.nd 1 7 rfl rfl (by decide))];exact x.sw.obj),(by rw [ai (ay x.nd 2 7 rfl rfl (by decide))];exact x.sw.kF)⟩,⟨(by rw [ai (ay x.nd 3 7 rfl rfl (by decide))];exact x.la.obj),(by rw [ai (ay x.nd 4 7 rfl rfl (by decide))];exact x.la.kF)⟩,⟨(by rw [ai (ay x.nd 5 7 rfl rfl (by decide))];exact x.co.obj),(by rw [ai (ay x.nd 6 7 rfl rfl (by decide))];exact x.co.kF)⟩,af,(by rw [ai (ay x.nd 8 7 rfl rfl (by decide))];exact x.dn),(by rw [ai (ay x.nd 10 7 rfl rfl (by decide))];exact x.he),(by rw [ai (ay x.nd 11 7 rfl rfl (by decide))];exact x.bu),x.Ra (by unfold TA.all;simp) (ay x.nd 7 9 rfl rfl (by decide)),x.nd⟩
theorem TableAt.Rc {T:Txt K mg} {H:Hp} {A:TA} {pt:PT} (x:TableAt T H A pt) (y:List Tilt.Bytes):TableAt T (upd H A.dn (.dK (Bv y))) A { pt with dn:=y } :=
 ⟨(by rw [ai (ay x.nd 0 8 rfl rfl (by decide))];exact x.obj),⟨(by rw [ai (ay x.nd 1 8 rfl rfl (by decide))];exact x.sw.obj),(by rw [ai (ay x.nd 2 8 rfl rfl (by decide))];exact x.sw.kF)⟩,⟨(by rw [ai (ay x.nd 3 8 rfl rfl (by decide))];exact x.la.obj),(by rw [ai (ay x.nd 4 8 rfl rfl (by decide))];exact x.la.kF)⟩,⟨(by rw [ai (ay x.nd 5 8 rfl rfl (by decide))];exact x.co.obj),(by rw [ai (ay x.nd 6 8 rfl rfl (by decide))];exact x.co.kF)⟩,(by rw [ai (ay x.nd 7 8 rfl rfl (by decide))];exact x.mo),af,(by rw [ai (ay x.nd 10 8 rfl rfl (by decide))];exact x.he),(by rw [ai (ay x.nd 11 8 rfl rfl (by decide))];exact x.bu),x.Ra (by unfold TA.all;simp) (ay x.nd 8 9 rfl rfl (by decide)),x.nd⟩
theorem TableAt.Rf {T:Txt K mg} {H:Hp} {A:TA} {pt:PT} (x:TableAt T H A pt) (y:List Tilt.Bytes):TableAt T (upd H A.he (.dK (Bv y))) A { pt with held:=y } :=
 ⟨(by rw [ai (ay x.nd 0 10 rfl rfl (by decide))];exact x.obj),⟨(by rw [ai (ay x.nd 1 10 rfl rfl (by decide))];exact x.sw.obj),(by rw [ai (ay x.nd 2 10 rfl rfl (by decide))];exact x.sw.kF)⟩,⟨(by rw [ai (ay x.nd 3 10 rfl rfl (by decide))];exact x.la.obj),(by rw [ai (ay x.nd 4 10 rfl rfl (by decide))];exact x.la.kF)⟩,⟨(by rw [ai (ay x.nd 5 10 rfl rfl (by decide))];exact x.co.obj),(by rw [ai (ay x.nd 6 10 rfl rfl (by decide))];exact x.co.kF)⟩,(by rw [ai (ay x.nd 7 10 rfl rfl (by decide))];exact x.mo),(by rw [ai (ay x.nd 8 10 rfl rfl (by decide))];exact x.dn),af,(by rw [ai (ay x.nd 11 10 rfl rfl (by decide))];exact x.bu),x.Ra (by unfold TA.all;simp) (ay x.nd 10 9 rfl rfl (by decide)),x.nd⟩
theorem TableAt.Rg {T:Txt K mg} {H:Hp} {A:TA} {pt:PT} (x:TableAt T H A pt) (y:List Tilt.Bytes):TableAt T (upd H A.bu (.dK (Bv y))) A { pt with busy:=y } :=
 ⟨(by rw [ai (ay x.nd 0 11 rfl rfl (by decide))];exact x.obj),⟨(by rw [ai (ay x.nd 1 11 rfl rfl (by decide))];exact x.sw.obj),(by rw [ai (ay x.nd 2 11 rfl rfl (by decide))];exact x.sw.kF)⟩,⟨(by rw [ai (ay x.nd 3 11 rfl rfl (by decide))];exact x.la.obj),(by rw [ai (ay x.nd 4 11 rfl rfl (by decide))];exact x.la.kF)⟩,⟨(by rw [ai (ay x.nd 5 11 rfl rfl (by decide))];exact x.co.obj),(by rw [ai (ay x.nd 6 11 rfl rfl (by decide))];exact x.co.kF)⟩,(by rw [ai (ay x.nd 7 11 rfl rfl (by decide))];exact x.mo),(by rw [ai (ay x.nd 8 11 rfl rfl (by decide))];exact x.dn),(by rw [ai (ay x.nd 10 11 rfl rfl (by decide))];exact x.he),af,x.Ra (by unfold TA.all;simp) (ay x.nd 11 9 rfl rfl (by decide)),x.nd⟩
theorem TableAt.Rh {T:Txt K mg} {H H':Hp} {A:TA} {pt:PT} {l:Addr} {ro:uJ} {ol:HO} (x:TableAt T H A pt) (el:H l = some ol) (tl:fe ol = 321) (hl:∀ (i:Nat) (a:Addr),A.all[i]? = some a->a ≠ l) (k:Kp [l,A.sw,A.Lg] H H') (new:nS T H' A.sw A.Ql A.Lg ro 63 "drain"):TableAt T H' A { pt with sw:=ro }:=by
 obtain ⟨as,e,p⟩:=x.pl
 refine ⟨(k _ _ x.obj (jU (hl 0 _ rfl) (ay x.nd 0 1 rfl rfl (by decide)) (ay x.nd 0 2 rfl rfl (by decide)))),new,⟨(k _ _ x.la.obj (jU (hl 3 _ rfl) (ay x.nd 3 1 rfl rfl (by decide)) (ay x.nd 3 2 rfl rfl (by decide)))),(k _ _ x.la.kF (jU (hl 4 _ rfl) (ay x.nd 4 1 rfl rfl (by decide)) (ay x.nd 4 2 rfl rfl (by decide))))⟩,⟨(k _ _ x.co.obj (jU (hl 5 _ rfl) (ay x.nd 5 1 rfl rfl (by decide)) (ay x.nd 5 2 rfl rfl (by decide)))),(k _ _ x.co.kF (jU (hl 6 _ rfl) (ay x.nd 6 1 rfl rfl (by decide)) (ay x.nd 6 2 rfl rfl (by decide))))⟩,(k _ _ x.mo (jU (hl 7 _ rfl) (ay x.nd 7 1 rfl rfl (by decide)) (ay x.nd 7 2 rfl rfl (by decide)))),(k _ _ x.dn (jU (hl 8 _ rfl) (ay x.nd 8 1 rfl rfl (by decide)) (ay x.nd 8 2 rfl rfl (by decide)))),(k _ _ x.he (jU (hl 10 _ rfl) (ay x.nd 10 1 rfl rfl (by decide)) (ay x.nd 10 2 rfl rfl (by decide)))),(k _ _ x.bu (jU (hl 11 _ rfl) (ay x.nd 11 1 rfl rfl (by decide)) (ay x.nd 11 2 rfl rfl (by decide)))),⟨as,(k _ _ e (jU (hl 9 _ rfl) (ay x.nd 9 1 rfl rfl (by decide)) (ay x.nd 9 2 rfl rfl (by decide)))),p.kp k fun b hb o eo=>?_⟩,x.nd⟩
 simp only [List.mem_cons,List.not_mem_nil,or_false] at hb
 rcases hb with rfl | rfl | rfl
 ·rw [el] at eo;cases eo;exact ⟨by rw [tl];decide,fun n r z=>by rw [z] at tl;exact absurd tl (by show ¬ (1 = 321);decide)⟩
 ·rw [x.sw.obj] at eo;cases eo;exact ⟨by rw [jy];decide,fun n r z=>by cases z⟩
 ·rw [x.sw.kF] at eo;cases eo;exact ⟨by rw [wj];decide,fun n r z=>by cases z⟩
theorem TableAt.Ri {T:Txt K mg} {H H':Hp} {A:TA} {pt:PT} {l:Addr} {ro:uJ} {ol:HO} (x:TableAt T H A pt) (el:H l = some ol) (tl:fe ol = 321) (hl:∀ (i:Nat) (a:Addr),A.all[i]? = some a->a ≠ l) (k:Kp [l,A.la,A.Qm] H H') (new:nS T H' A.la A.Sh A.Qm ro 63 "loop"):TableAt T H' A { pt with la:=ro }:=by
 obtain ⟨as,e,p⟩:=x.pl
 refine ⟨(k _ _ x.obj (jU (hl 0 _ rfl) (ay x.nd 0 3 rfl rfl (by decide)) (ay x.nd 0 4 rfl rfl (by decide)))),⟨(k _ _ x.sw.obj (jU (hl 1 _ rfl) (ay x.nd 1 3 rfl rfl (by decide)) (ay x.nd 1 4 rfl rfl (by decide)))),(k _ _ x.sw.kF (jU (hl 2 _ rfl) (ay x.nd 2 3 rfl rfl (by decide)) (ay x.nd 2 4 rfl rfl (by decide))))⟩,new,⟨(k _ _ x.co.obj (jU (hl 5 _ rfl) (ay x.nd 5 3 rfl rfl (by decide)) (ay x.nd 5 4 rfl rfl (by decide)))),(k _ _ x.co.kF (jU (hl 6 _ rfl) (ay x.nd 6 3 rfl rfl (by decide)) (ay x.nd 6 4 rfl rfl (by decide))))⟩,(k _ _ x.mo (jU (hl 7 _ rfl) (ay x.nd 7 3 rfl rfl (by decide)) (ay x.nd 7 4 rfl rfl (by decide)))),(k _ _ x.dn (jU (hl 8 _ rfl) (ay x.nd 8 3 rfl rfl (by decide)) (ay x.nd 8 4 rfl rfl (by decide)))),(k _ _ x.he (jU (hl 10 _ rfl) (ay x.nd 10 3 rfl rfl (by decide)) (ay x.nd 10 4 rfl rfl (by decide)))),(k _ _ x.bu (jU (hl 11 _ rfl) (ay x.nd 11 3 rfl rfl (by decide)) (ay x.nd 11 4 rfl rfl (by decide)))),⟨as,(k _ _ e (jU (hl 9 _ rfl) (ay x.nd 9 3 rfl rfl (by decide)) (ay x.nd 9 4 rfl rfl (by decide)))),p.kp k fun b hb o eo=>?_⟩,x.nd⟩
 simp only [List.mem_cons,List.not_mem_nil,or_false] at hb
 rcases hb with rfl | rfl | rfl
 ·rw [el] at eo;cases eo;exact ⟨by rw [tl];decide,fun n r z=>by rw [z] at tl;exact absurd tl (by show ¬ (1 = 321);decide)⟩
 ·rw [x.la.obj] at eo;cases eo;exact ⟨by rw [jy];decide,fun n r z=>by cases z⟩
 ·rw [x.la.kF] at eo;cases eo;exact ⟨by rw [wj];decide,fun n r z=>by cases z⟩
theorem TableAt.Rj {T:Txt K mg} {H H':Hp} {A:TA} {pt:PT} {l:Addr} {ro:uJ} {ol:HO} (x:TableAt T H A pt) (el:H l = some ol) (tl:fe ol = 321) (hl:∀ (i:Nat) (a:Addr),A.all[i]? = some a->a ≠ l) (k:Kp [l,A.co,A.Nd] H H') (new:nS T H' A.co A.RB A.Nd ro 31 ""):TableAt T H' A { pt with co:=ro }:=by
 obtain ⟨as,e,p⟩:=x.pl
 refine ⟨(k _ _ x.obj (jU (hl 0 _ rfl) (ay x.nd 0 5 rfl rfl (by decide)) (ay x.nd 0 6 rfl rfl (by decide)))),⟨(k _ _ x.sw.obj (jU (hl 1 _ rfl) (ay x.nd 1 5 rfl rfl (by decide)) (ay x.nd 1 6 rfl rfl (by decide)))),(k _ _ x.sw.kF (jU (hl 2 _ rfl) (ay x.nd 2 5 rfl rfl (by decide)) (ay x.nd 2 6 rfl rfl (by decide))))⟩,⟨(k _ _ x.la.obj (jU (hl 3 _ rfl) (ay x.nd 3 5 rfl rfl (by decide)) (ay x.nd 3 6 rfl rfl (by decide)))),(k _ _ x.la.kF (jU (hl 4 _ rfl) (ay x.nd 4 5 rfl rfl (by decide)) (ay x.nd 4 6 rfl rfl (by decide))))⟩,new,(k _ _ x.mo (jU (hl 7 _ rfl) (ay x.nd 7 5 rfl rfl (by decide)) (ay x.nd 7 6 rfl rfl (by decide)))),(k _ _ x.dn (jU (hl 8 _ rfl) (ay x.nd 8 5 rfl rfl (by decide)) (ay x.nd 8 6 rfl rfl (by decide)))),(k _ _ x.he (jU (hl 10 _ rfl) (ay x.nd 10 5 rfl rfl (by decide)) (ay x.nd 10 6 rfl rfl (by decide)))),(k _ _ x.bu (jU (hl 11 _ rfl) (ay x.nd 11 5 rfl rfl (by decide)) (ay x.nd 11 6 rfl rfl (by decide)))),⟨as,(k _ _ e (jU (hl 9 _ rfl) (ay x.nd 9 5 rfl rfl (by decide)) (ay x.nd 9 6 rfl rfl (by decide)))),p.kp k fun b hb o eo=>?_⟩,x.nd⟩
 simp only [List.mem_cons,List.not_mem_nil,or_false] at hb
 rcases hb with rfl | rfl | rfl
 ·rw [el] at eo;cases eo;exact ⟨by rw [tl];decide,fun n r z=>by rw [z] at tl;exact absurd tl (by show ¬ (1 = 321);decide)⟩
 ·rw [x.co.obj] at eo;cases eo;exact ⟨by rw [jy];decide,fun n r z=>by cases z⟩
 ·rw [x.co.kF] at eo;cases eo;exact ⟨by rw [wj];decide,fun n r z=>by cases z⟩
end
end Pb
namespace Pb
open PySem PySem.Spec PyProof.Rows L2
section
variable {K:PySem.W.Frag} {mg:Str->Option Value}
theorem aL {A B:Type} {a:A} {f:A->EF B}:((.ok a:EF A) >>= f) = f a:=rfl
theorem aF {A B:Type} {e:Tilt.Fault} {f:A->EF B}:((.error e:EF A) >>= f) = .error e:=rfl
theorem eh.intro {T:Txt K mg} {H:Hp} {L:LA} {fin:Nat} {pre rest:List Tilt.Word} {E:XK} {A:Type} {r:EF (A × List Tilt.Word)} {k:A->Hp->Prop} (he:∀ f,r = .error f->fi T [L.l] H E f)
  (hk:∀ a r',r = .ok (a,r')->∀ H' w,rest = w :: r'->b4 T H' L fin (pre ++ [w]) r'->Kp [L.l] H H'->k a H'):eh T H L fin pre rest E r k:=by
 unfold eh
 cases r with
 | error f=>exact he f rfl
 | ok z=>obtain ⟨a,r'⟩:=z;exact hk a r' rfl
theorem iU {A B:Type} {r:EF A} {g:A->B} {f:Tilt.Fault} (h:r.map g = .error f):r = .error f:=by cases r <;> cases h;rfl
theorem lu {A B:Type} {r:EF A} {g:A->B} {b:B} (h:r.map g = .ok b):∃ a,r = .ok a/\g a = b:=by cases r <;> cases h;exact ⟨_,rfl,rfl⟩
theorem nS.line {T:Txt K mg} {H H':Hp} {L:LA} {fin:Nat} {pre rest:List Tilt.Word} {r dx d:Addr} {ro:uJ} {m:Nat} {s:Str} (x:nS T H r dx d ro m s) (y:b4 T H L fin pre rest) (k:Kp [L.l] H H'):nS T H' r dx d ro m s :=
 ⟨k _ _ x.obj fun z=>aU x.obj y.obj jy jx (by decide) (List.mem_singleton.mp z),k _ _ x.kF fun z=>aU x.kF y.obj wj jx (by decide) (List.mem_singleton.mp z)⟩
theorem fi.sub {T:Txt K mg} {S S':List Addr} {H H1:Hp} {E:XK} {f:Tilt.Fault} (b:fi T S H E f) (k:Kp S H H1) (hs:∀ a ∈ S',a ∈ S):fi T S' H1 E f:=b.kp k hs
noncomputable def BY (T:Txt K mg):Sp:=fun vs H Q E=>∃ (L:LA) (fin:Nat) (pre rest:List Tilt.Word) (r dx d:Addr) (ro:uJ) (most:Nat) (s:Str) (b:Tilt.Bytes),vs = [.ref L.l,.ref r]/\b4 T H L fin pre rest/\nS T H r dx d ro most s/\Lit s b/\most < 10000 ∧
 (∀ p ∈ ro.ps,Tilt.isName p.1 = true)/\ro.ps.length < 1000/\(match ej fin most b ro rest with
  | .error f=>fi T [L.l,r,d] H E f
  | .ok ((n,ro'),rr)=>∀ H' pre',b4 T H' L fin pre' rr->nS T H' r dx d ro' most s->Kp [L.l,r,d] H H'->Q (.str (gD n)) H')
noncomputable def AX (T:Txt K mg) (H:Hp) (A:TA) (L:LA) (fin:Nat) (E:XK) {B:Type} (r:EF ((B × PT) × List Tilt.Word)) (k:B->Hp->Prop):Prop:=match r with
 | .error f=>fi T (L.l :: A.all) H E f
 | .ok ((b,pt'),r)=>∀ H' pre',jd T H' A pt' L fin pre' r->Kp (L.l :: A.all) H H'->H' A.pl = H A.pl->k b H'
noncomputable def wm (T:Txt K mg):Sp:=fun vs H Q E=>∃ (A:TA) (pt:PT) (L:LA) (fin:Nat) (pre rest:List Tilt.Word),vs = [.ref A.t,.ref L.l]/\jd T H A pt L fin pre rest/\kq pt/\AX T H A L fin E (lS fin pt rest) fun n H'=>Q (.str (gD n)) H'
noncomputable def wo (T:Txt K mg):Sp:=fun vs H Q E=>∃ (A:TA) (pt:PT) (L:LA) (fin:Nat) (pre rest:List Tilt.Word),vs = [.ref A.t,.ref L.l]/\jd T H A pt L fin pre rest/\kq pt/\AX T H A L fin E (gM fin pt rest) fun n H'=>Q (.int n) H'
noncomputable def tY (T:Txt K mg):Sp:=fun vs H Q E=>∃ (A:TA) (pt:PT) (L:LA) (fin:Nat) (pre rest:List Tilt.Word),vs = [.ref A.t,.ref L.l]/\jd T H A pt L fin pre rest/\kq pt/\AX T H A L fin E (kG fin pt rest) fun n H'=>Q (.str (gD n)) H'
end
theorem pB {P:Program} {w:World} {K:PySem.W.Frag} {mg:Str->Option Value} {base:Heap} (T:Txt K mg):a8 P w K mg base (uh P w) 6 T.mO T.gr ["line","roll"] (BY T):=by
 refine T.cK.tU pd (fun vs H Q E h=>?_) (fun cdv A outer s H vs Q E hr h=>?_)
 ·obtain ⟨L,fin,pre,rest,r,dx,d,ro,most,s,b,rfl,_⟩:=h
  rfl
 ·obtain ⟨L,fin,pre,rest,r,dx,d,ro,most,s,b,rfl,hL,hR,hb,hm,hn,hz,q⟩:=h
  refine ⟨_,(ae (aR (i:=2) pd.nd rfl (Or.inl rfl) (aq (qd T) (hr.mono (by decide)) rfl T.mj T.bY.kp (rl T) .nil (bC bq) (aa (pv 0) (aa (aj (pv 1) rfl) (aa (aj (pv 1) rfl) ag)))))
   (ae (aJ (aq (bA T) (hr.mono (by decide)) rfl T.bD T.aT.kp (bP T) .nil (bC bq) (aa (pv 0) (aa eY ag))))
   (ae (aR (i:=3) pd.nd rfl (Or.inl rfl) (aq (cP T) (hr.mono (by decide)) rfl T.cJ T.bb.kp (dG T) .nil (bC bq) (aa (pv 0) (aa ao (aa (aj (pv 1) rfl) ag)))))
   (ae (aY (aI Aa (pv 3) (aj (pv 1) rfl) (aG _)) (ah (bF bq rfl T.xc (az T) (hr.mono (by decide)) rfl T.bZ (aB T) (aa ao (aa (bg (pv 0) T.a7 T.bG (b5 T) (hr.mono (by decide)) (cn T) .nil aN) ag)))) aC)
   (ae (vB (nk hr) (aj (pv 1) rfl) (pv 2) (pv 3) rfl)
   (ae (aH (pv 1) (pv 3) rfl)
   (ah (aE (pv 2))))))))),?_⟩
  have sub1:∀ a ∈ [L.l],a ∈ [L.l,r,d]:=by simp
  unfold ej at q
  refine ⟨_,rfl,_,rfl,_,_,_,_,_,rfl,hR.obj,T.eT,T.cb,cN,_,rfl,_,_,_,_,_,rfl,hR.obj,T.eT,T.pz,AB,L,fin,pre,rest,d,va ro.ps,ro.ps.map (·.1),s,b,rfl,hL,⟨hR.kF,wk _,?_,?_⟩,hb,?_⟩
  ·intro n hn'
   obtain ⟨p,hp,rfl⟩:=List.mem_map.mp hn'
   exact hn p hp
  ·unfold va;rw [List.length_map];omega
  refine eh.intro (fun f e=>?_) fun n r1 e1 H1 w1 er1 h1 k1=>?_
  ·rw [e,aF] at q;exact q.sub Kp.refl sub1
  rw [e1,aL] at q
  have hR1:=hR.line hL k1
  have k1':=k1.mono sub1
  refine ⟨_,rfl,L,fin,_,r1,"at",_,rfl,h1,Pw,?_⟩
  refine eh.intro (fun f e=>?_) fun u r2 e2 H2 w2 er2 h2 k2=>?_
  ·dsimp only at q;rw [iU e,aF] at q;exact q.sub k1' sub1
  obtain ⟨m,em,eu⟩:=lu e2
  cases eu
  dsimp only at q
  rw [em,aL] at q
  have hR2:=hR1.line h1 k2
  have k2':=k1'.trans (k2.mono sub1)
  refine ⟨_,rfl,_,rfl,_,_,_,_,_,rfl,hR2.obj,T.eT,T.sE,DP,L,fin,_,r2,0,most,rfl,hm,h2,?_⟩
  refine eh.intro (fun f e=>?_) fun x r3 e3 H3 w3 er3 h3 k3=>?_
  ·rw [e,aF] at q;exact q.sub k2' sub1
  obtain ⟨p,at3⟩:=x
  have hat:at3 = w3.at_:=by
   subst er3
   unfold takeNum at e3
   dsimp only at e3
   cases y:Tilt.numberOf w3.w with
   | none=>rw [y] at e3;cases e3
   | some n =>
    rw [y] at e3
    dsimp only at e3
    split at e3
    ·cases e3
    ·cases e3;rfl
  subst hat
  rw [e3,aL] at q
  dsimp only at q
  have hR3:=hR2.line h2 k3
  have k3':=k2'.trans (k3.mono sub1)
  refine ⟨_,rfl,_,rfl,_,_,_,_,_,rfl,hR3.obj,T.eT,T.kf,yK,_,_,rfl,rfl,_,rfl,?_⟩
  by_cases z:(p:Int)<=ro.hi
  ·rw [if_pos z] at q
   rw [decide_eq_true z]
   refine aQ ⟨_,rfl,_,_,_,rfl,h3.obj,b3,L,fin,_,r3,w3,rfl,h3,?_⟩
   exact bj (k:=5) (fi.at q k3')
  ·rw [if_neg z] at q
   rw [decide_eq_false z]
   obtain ⟨_,nn,_⟩:=nu e1
   have hput:putK (va ro.ps) (Sum.inr (gD n)) (.int p) = va (ro.ps ++ [(n,p)]):=JC hn nn
   have nrd:r ≠ d:=aU hR3.obj hR3.kF jy wj
   have nlr:L.l ≠ r:=aU h3.obj hR3.obj jx jy
   have nld:L.l ≠ d:=aU h3.obj hR3.kF jx wj
   refine aM ⟨_,rfl,_,rfl,_,_,_,_,_,rfl,hR3.obj,T.eT,T.cb,cN,_,rfl,_,_,rfl,Dn.k (k:=Sum.inr (gD n)) hR3.kF (by unfold va;rw [List.length_map];exact Nat.lt_trans hz (by decide)),?_⟩
   have eR:upd H3 d (.dK (putK (va ro.ps) (Sum.inr (gD n)) (.int p))) r = some (.ins T.gQ dx (mv d ro.hi most s)):=by rw [ai nrd];exact hR3.obj
   refine ⟨_,rfl,_,rfl,_,_,_,_,rfl,eR,T.eT,T.kf,M8,?_⟩
   rw [yL,hput]
   refine ⟨_,rfl,?_⟩
   have kk:Kp [L.l,r,d] H3 (upd (upd H3 d (.dK (va (ro.ps ++ [(n,p)])))) r (.ins T.gQ dx (mv d p most s))):=(Kp.wr (by simp)).trans (Kp.wr (by simp))
   refine q _ _ (h3.kp (S:=[r,d]) ((Kp.wr (by simp)).trans (Kp.wr (by simp))) (by simp [nlr,nld]) ?_ ?_) ⟨af,by rw [ai (Ne.symm nrd),af]⟩ (k3'.trans kk)
   ·intro y
    simp only [List.mem_cons,List.not_mem_nil,or_false] at y
    rcases y with y | y
    ·exact aU h3.lst hR3.obj bf jy (by decide) y
    ·exact aU h3.lst hR3.kF bf wj (by decide) y
   ·intro a ha y
    obtain ⟨o,e,t⟩:=h3.tag a ha
    simp only [List.mem_cons,List.not_mem_nil,or_false] at y
    rcases y with y | y
    ·exact aU e hR3.obj t jy (by decide) y
    ·exact aU e hR3.kF t wj (by decide) y
section
variable {K:PySem.W.Frag} {mg:Str->Option Value}
theorem AX.intro {T:Txt K mg} {H:Hp} {A:TA} {L:LA} {fin:Nat} {E:XK} {B:Type} {r:EF ((B × PT) × List Tilt.Word)} {k:B->Hp->Prop} (he:∀ f,r = .error f->fi T (L.l :: A.all) H E f)
  (hk:∀ b pt' r',r = .ok ((b,pt'),r')->∀ H' pre',jd T H' A pt' L fin pre' r'->Kp (L.l :: A.all) H H'->H' A.pl = H A.pl->k b H'):AX T H A L fin E r k:=by
 unfold AX
 cases r with
 | error f=>exact he f rfl
 | ok z=>obtain ⟨⟨a,p⟩,r'⟩:=z;exact hk a p r' rfl
theorem jd.Oq {T:Txt K mg} {H:Hp} {A:TA} {pt:PT} {L:LA} {fin:Nat} {pre rest:List Tilt.Word} (x:jd T H A pt L fin pre rest):∀ (i:Nat) (a:Addr),A.all[i]? = some a->a ≠ L.l:=fun i a ha z=>x.out.1 (by rw [←z];exact List.mem_of_getElem? ha)
theorem jd.Qn {T:Txt K mg} {H H1:Hp} {A:TA} {pt:PT} {L:LA} {fin:Nat} {pre rest:List Tilt.Word} (x:jd T H A pt L fin pre rest) (k:Kp [L.l] H H1):H1 A.pl = H A.pl:=by
 obtain ⟨as,e,_⟩:=x.tab.pl
 rw [e]
 exact k _ _ e fun z=>x.Oq 9 _ rfl (List.mem_singleton.mp z)
theorem one_sub {l:Addr} {S:List Addr}:∀ a ∈ [l],a ∈ l :: S:=by simp
theorem jz {l:Addr} {S:List Addr}:∀ a ∈ S,a ∈ l :: S:=fun a h=>List.mem_cons_of_mem _ h
theorem TableAt.Ea {T:Txt K mg} {H:Hp} {A:TA} {pt:PT} (x:TableAt T H A pt) (o:kq pt):lN H A.Lg (va pt.sw.ps) (pt.sw.ps.map (·.1)) :=
 ⟨x.sw.kF,wk _,fun n hn=>by obtain ⟨p,hp,rfl⟩:=List.mem_map.mp hn;exact o.sw p hp,by unfold va;rw [List.length_map];have:=o.sz;omega⟩
theorem TableAt.Nf {T:Txt K mg} {H:Hp} {A:TA} {pt:PT} (x:TableAt T H A pt) (o:kq pt):lN H A.Nd (va pt.co.ps) (pt.co.ps.map (·.1)) :=
 ⟨x.co.kF,wk _,fun n hn=>by obtain ⟨p,hp,rfl⟩:=List.mem_map.mp hn;exact o.co p hp,by unfold va;rw [List.length_map];have:=o.sz;omega⟩
theorem nU {e:Nat} {names:List Tilt.Bytes} {l:List Tilt.Word} {x:Tilt.Word × List Tilt.Word} (h:ei e names l = .ok x):l = x.1 :: x.2/\x.1.w ∈ names/\Tilt.isName x.1.w = true:=by
 cases l with
 | nil=>cases h
 | cons w r =>
  unfold ei at h
  dsimp only at h
  by_cases h1:Tilt.isName w.w = false
  ·rw [if_pos h1] at h;cases h
  rw [if_neg h1] at h
  by_cases h2:names.contains w.w = true
  ·rw [if_pos h2] at h;cases h;exact ⟨rfl,by simpa using h2,by simpa using h1⟩
  ·rw [if_neg h2] at h;cases h
theorem qW {ns:List Tilt.Bytes} (hn:∀ p ∈ ns,Tilt.isName p = true) (w:Tilt.Bytes):(pL (Bv ns) (Sum.inr (gD w))).isSome = ns.contains w:=AV (AW ns) hn
theorem lQ {ps:List (Tilt.Bytes × Nat)} {w:Tilt.Bytes} (h:w ∈ ps.map (·.1)):∃ p,ps.lookup w = some p:=by
 cases q:ps.lookup w with
 | some p=>exact ⟨p,rfl⟩
 | none =>
  rw [List.lookup_eq_none_iff] at q
  obtain ⟨p,hp,rfl⟩:=List.mem_map.mp h
  have:=q p hp
  simp at this
end
theorem oV {P:Program} {w:World} {K:PySem.W.Frag} {mg:Str->Option Value} {base:Heap} (T:Txt K mg):a8 P w K mg base (uh P w) 6 T.iF T.cY ["table","line"] (wm T):=by
 refine T.bM.tU n9 (fun vs H Q E h=>?_) (fun cdv A outer s H vs Q E hr h=>?_)
 ·obtain ⟨A,pt,L,fin,pre,rest,rfl,_⟩:=h
  rfl
 ·obtain ⟨A',pt,L,fin,pre,rest,rfl,hB,ho,q⟩:=h
  refine ⟨_,(ae (aR (i:=2) n9.nd rfl (Or.inl rfl) (aq (lO T) (hr.mono (by decide)) rfl T.j8 T.cj.kp (mX T) .nil (bC bq) (aa (pv 1) (aa (aj (pv 0) rfl) ag))))
   (ae (aY (qj (Dq (nk hr) (pv 2) (aj (pv 0) rfl))) (ah (bF bq rfl T.xc (az T) (hr.mono (by decide)) rfl T.bZ (aB T) (aa ao (aa (bg (pv 1) T.a7 T.bG (b5 T) (hr.mono (by decide)) (cn T) .nil aN) ag)))) aC)
   (ae (vB (nk hr) (aj (pv 0) rfl) (pv 2) rA rfl)
   (ah (aE (pv 2)))))),?_⟩
  unfold lS at q
  refine ⟨_,rfl,_,rfl,_,_,_,_,_,rfl,hB.tab.obj,T.aA,T.gy,j2,L,fin,pre,rest,A'.co,A'.RB,A'.Nd,pt.co.hi,31,"",va pt.co.ps,pt.co.ps.map (·.1),rfl,hB.pD,hB.tab.co.obj,hB.tab.Nf ho,?_⟩
  refine eh.intro (fun f e=>?_) fun w r1 e1 H1 w1 er1 h1 k1=>?_
  ·rw [e,aF] at q;exact fi.sub q Kp.refl one_sub
  rw [e1,aL] at q
  obtain ⟨ew,hk,hw⟩:=nU e1
  rw [er1] at ew
  cases ew
  have hB1:=hB.line k1 h1
  have k1':Kp (L.l :: A'.all) H H1:=k1.mono one_sub
  refine ⟨_,rfl,_,rfl,_,_,_,_,_,rfl,hB1.tab.obj,T.aA,T.fX,mw,_,_,rfl,pN.k (k:=Sum.inr (gD w.w)) hB1.tab.bu,_,rfl,?_⟩
  rw [qW ho.bu]
  dsimp only at q
  cases z:pt.busy.contains w.w with
  | true =>
   rw [if_pos z] at q
   refine aQ ⟨_,rfl,_,_,_,rfl,h1.obj,b3,L,fin,_,r1,w,rfl,h1,?_⟩
   exact bj (k:=7) (fi.at q k1')
  | false =>
   rw [if_neg (by rw [z];simp)] at q
   have nin:w.w ∉ pt.busy:=by simpa using z
   refine aM ⟨_,rfl,_,_,_,_,_,rfl,hB1.tab.obj,T.aA,T.fX,mw,_,rfl,_,_,rfl,Dn.k (k:=Sum.inr (gD w.w)) hB1.tab.bu (by unfold Bv;rw [List.length_map];have:=ho.sz;exact Nat.lt_trans (by omega:_ < 1000) (by decide)),?_⟩
   rw [D9 ho.bu nin]
   refine ⟨_,rfl,?_⟩
   have kk:Kp A'.all H1 (upd H1 A'.bu (.dK (Bv (pt.busy ++ [w.w])))):=Kp.wr (by unfold TA.all;simp)
   exact q _ _ (hB1.table kk (hB1.tab.Rg _)) (k1'.trans (kk.mono jz)) (by rw [ai (ay hB.tab.nd 9 11 rfl rfl (by decide))];exact hB.Qn k1)
theorem oW {P:Program} {w:World} {K:PySem.W.Frag} {mg:Str->Option Value} {base:Heap} (T:Txt K mg):a8 P w K mg base (uh P w) 6 T.iG T.cZ ["table","line"] (wo T):=by
 refine T.bN.tU og (fun vs H Q E h=>?_) (fun cdv A outer s H vs Q E hr h=>?_)
 ·obtain ⟨A,pt,L,fin,pre,rest,rfl,_⟩:=h
  rfl
 ·obtain ⟨A',pt,L,fin,pre,rest,rfl,hB,ho,q⟩:=h
  refine ⟨_,(ae (aR (i:=2) og.nd rfl (Or.inl rfl) (aq (lO T) (hr.mono (by decide)) rfl T.j8 T.cj.kp (mX T) .nil (bC bq) (aa (pv 1) (aa (aj (pv 0) rfl) ag))))
   (ae (aY (qj (Dq (nk hr) (pv 2) (aj (pv 0) rfl))) (ah (bF bq rfl T.xc (az T) (hr.mono (by decide)) rfl T.bZ (aB T) (aa ao (aa (bg (pv 1) T.a7 T.bG (b5 T) (hr.mono (by decide)) (cn T) .nil aN) ag)))) aC)
   (ae (vB (nk hr) (aj (pv 0) rfl) (pv 2) rA rfl)
   (ah (aE (vA (nk hr) (aj (aj (pv 0) rfl) rfl) (pv 2) (fun _ _=>rfl))))))),?_⟩
  unfold gM at q
  refine ⟨_,rfl,_,rfl,_,_,_,_,_,rfl,hB.tab.obj,T.aA,T.bO,cf,L,fin,pre,rest,A'.sw,A'.Ql,A'.Lg,pt.sw.hi,63,"drain",va pt.sw.ps,pt.sw.ps.map (·.1),rfl,hB.pD,hB.tab.sw.obj,hB.tab.Ea ho,?_⟩
  refine eh.intro (fun f e=>?_) fun w r1 e1 H1 w1 er1 h1 k1=>?_
  ·rw [e,aF] at q;exact fi.sub q Kp.refl one_sub
  rw [e1,aL] at q
  obtain ⟨ew,hk,hw⟩:=nU e1
  rw [er1] at ew
  cases ew
  have hB1:=hB.line k1 h1
  have k1':Kp (L.l :: A'.all) H H1:=k1.mono one_sub
  refine ⟨_,rfl,_,rfl,_,_,_,_,_,rfl,hB1.tab.obj,T.aA,T.kg,pq,_,_,rfl,pN.k (k:=Sum.inr (gD w.w)) hB1.tab.he,_,rfl,?_⟩
  rw [qW ho.he]
  dsimp only at q
  cases z:pt.held.contains w.w with
  | true =>
   rw [if_pos z] at q
   refine aQ ⟨_,rfl,_,_,_,rfl,h1.obj,b3,L,fin,_,r1,w,rfl,h1,?_⟩
   exact bj (k:=7) (fi.at q k1')
  | false =>
   rw [if_neg (by rw [z];simp)] at q
   have nin:w.w ∉ pt.held:=by simpa using z
   refine aM ⟨_,rfl,_,_,_,_,_,rfl,hB1.tab.obj,T.aA,T.kg,pq,_,rfl,_,_,rfl,Dn.k (k:=Sum.inr (gD w.w)) hB1.tab.he (by unfold Bv;rw [List.length_map];have:=ho.sz;exact Nat.lt_trans (by omega:_ < 1000) (by decide)),?_⟩
   rw [D9 ho.he nin]
   have kk:Kp A'.all H1 (upd H1 A'.he (.dK (Bv (pt.held ++ [w.w])))):=Kp.wr (by unfold TA.all;simp)
   have hB2:=hB1.table kk (hB1.tab.Rf _)
   obtain ⟨p,hp⟩:=lQ hk
   refine ⟨_,rfl,_,_,_,_,_,rfl,hB2.tab.obj,T.aA,T.bO,cf,_,_,_,_,_,rfl,hB2.tab.sw.obj,T.eT,T.cb,cN,_,rfl,_,V.int p,rfl,?_,?_⟩
   ·have:=pN.k (k:=Sum.inr (gD w.w)) hB2.tab.sw.kF
    rw [zT ho.sw,hp] at this
    exact this
   ·rw [hp] at q
    exact q _ _ hB2 (k1'.trans (kk.mono jz)) (by rw [ai (ay hB.tab.nd 9 10 rfl rfl (by decide))];exact hB.Qn k1)
theorem tZ {P:Program} {w:World} {K:PySem.W.Frag} {mg:Str->Option Value} {base:Heap} (T:Txt K mg):a8 P w K mg base (uh P w) 6 T.fT T.cq ["table","line"] (tY T):=by
 refine T.bH.tU iW (fun vs H Q E h=>?_) (fun cdv A outer s H vs Q E hr h=>?_)
 ·obtain ⟨A,pt,L,fin,pre,rest,rfl,_⟩:=h
  rfl
 ·obtain ⟨A',pt,L,fin,pre,rest,rfl,hB,ho,q⟩:=h
  refine ⟨_,(ae (aR (i:=2) iW.nd rfl (Or.inl rfl) (aq (lO T) (hr.mono (by decide)) rfl T.j8 T.cj.kp (mX T) .nil (bC bq) (aa (pv 1) (aa (aj (pv 0) rfl) ag))))
   (ae (aR (i:=3) iW.nd rfl (Or.inl rfl) (vA (nk hr) (aj (aj (pv 0) rfl) rfl) (pv 2) (fun _ _=>rfl)))
   (ae (aY (aI Aa (pv 3) (aj (pv 0) rfl) (aG _)) (ah (bF bq rfl T.xc (az T) (hr.mono (by decide)) rfl T.bZ (aB T) (aa ao (aa (bg (pv 1) T.a7 T.bG (b5 T) (hr.mono (by decide)) (cn T) .nil aN) ag)))) aC)
   (ae (aY (qj (Dq (nk hr) (pv 2) (aj (pv 0) rfl))) (ah (bF bq rfl T.xc (az T) (hr.mono (by decide)) rfl T.bZ (aB T) (aa ao (aa (bg (pv 1) T.a7 T.bG (b5 T) (hr.mono (by decide)) (cn T) .nil aN) ag)))) aC)
   (ae (aH (pv 0) (pv 3) rfl)
   (ah (aE (pv 2)))))))),?_⟩
  unfold kG at q
  refine ⟨_,rfl,_,rfl,_,_,_,_,_,rfl,hB.tab.obj,T.aA,T.bO,cf,L,fin,pre,rest,A'.sw,A'.Ql,A'.Lg,pt.sw.hi,63,"drain",va pt.sw.ps,pt.sw.ps.map (·.1),rfl,hB.pD,hB.tab.sw.obj,hB.tab.Ea ho,?_⟩
  refine eh.intro (fun f e=>?_) fun w r1 e1 H1 w1 er1 h1 k1=>?_
  ·rw [e,aF] at q;exact fi.sub q Kp.refl one_sub
  rw [e1,aL] at q
  obtain ⟨ew,hk,hw⟩:=nU e1
  rw [er1] at ew
  cases ew
  have hB1:=hB.line k1 h1
  have k1':Kp (L.l :: A'.all) H H1:=k1.mono one_sub
  obtain ⟨p,hp⟩:=lQ hk
  dsimp only at q
  rw [hp] at q
  dsimp only [Option.getD] at q
  refine ⟨_,rfl,_,_,_,_,_,rfl,hB1.tab.obj,T.aA,T.bO,cf,_,_,_,_,_,rfl,hB1.tab.sw.obj,T.eT,T.cb,cN,_,rfl,_,V.int p,rfl,?_,?_⟩
  ·have:=pN.k (k:=Sum.inr (gD w.w)) hB1.tab.sw.kF
   rw [zT ho.sw,hp] at this
   exact this
  refine ⟨_,rfl,_,rfl,_,_,_,_,_,rfl,hB1.tab.obj,T.aA,T.eV,rn,_,_,rfl,rfl,_,rfl,?_⟩
  by_cases z5:(p:Int)<=pt.tS
  ·rw [if_pos z5] at q
   rw [decide_eq_true z5]
   refine aQ ⟨_,rfl,_,_,_,rfl,h1.obj,b3,L,fin,_,r1,w,rfl,h1,?_⟩
   exact bj (k:=5) (fi.at q k1')
  ·rw [if_neg z5] at q
   rw [decide_eq_false z5]
   refine aM ⟨_,rfl,_,rfl,_,_,_,_,_,rfl,hB1.tab.obj,T.aA,T.kg,pq,_,_,rfl,pN.k (k:=Sum.inr (gD w.w)) hB1.tab.he,_,rfl,?_⟩
   rw [qW ho.he]
   cases z:pt.held.contains w.w with
   | true =>
    rw [if_pos z] at q
    refine aQ ⟨_,rfl,_,_,_,rfl,h1.obj,b3,L,fin,_,r1,w,rfl,h1,?_⟩
    exact bj (k:=7) (fi.at q k1')
   | false =>
    rw [if_neg (by rw [z];simp)] at q
    refine aM ⟨_,rfl,_,rfl,_,_,_,_,rfl,hB1.tab.obj,T.aA,T.eV,pX,?_⟩
    rw [rp]
    refine ⟨_,rfl,?_⟩
    have kk:Kp A'.all H1 (upd H1 A'.t (.ins T.aS A'.Oo (bR pt.rank (pt.balls:Nat) A'.sw A'.la A'.co A'.mo A'.dn A'.pl A'.he A'.bu (pt.drained:Nat) (pt.kicks:Nat) (p:Nat)))):=Kp.wr (by unfold TA.all;simp)
    exact q _ _ (hB1.table kk (hB1.tab.Kz _ _ _ _ _)) (k1'.trans (kk.mono jz)) (by rw [ai (ay hB.tab.nd 9 0 rfl rfl (by decide))];exact hB.Qn k1)
end Pb
namespace Pb
open PySem PySem.Spec PyProof.Rows L2
section
variable {K:PySem.W.Frag} {mg:Str->Option Value}
noncomputable def Rk (T:Txt K mg) (H:Hp) (A:TA) (L:LA) (fin:Nat) (E:XK) (r:EF (PT × List Tilt.Word)) (k:Hp->Prop):Prop:=match r with
 | .error f=>fi T (L.l :: A.all) H E f
 | .ok (pt',r)=>∀ H' pre',jd T H' A pt' L fin pre' r->Kp (L.l :: A.all) H H'->k H'
noncomputable def Sm (pt:PT):Prop:=pt.sw.ps.length < 900/\pt.la.ps.length < 900/\pt.co.ps.length < 900/\pt.mo.length < 900/\pt.dn.length < 900/\pt.held.length < 900/\pt.busy.length < 900/\pt.bt.length < 900
noncomputable def vb (T:Txt K mg) (f:Step):Sp:=fun vs H Q E=>∃ (A:TA) (pt:PT) (L:LA) (fin:Nat) (pre rest:List Tilt.Word),vs = [.ref A.t,.ref L.l]/\jd T H A pt L fin pre rest/\kq pt/\Sm pt/\Rk T H A L fin E (f fin pt rest) fun H'=>Q .fR H'
abbrev Eb (T:Txt K mg):Sp:=vb T ym
abbrev AY (T:Txt K mg):Sp:=vb T vG
abbrev Ec (T:Txt K mg):Sp:=vb T FO
abbrev Ed (T:Txt K mg):Sp:=vb T FP
abbrev AZ (T:Txt K mg):Sp:=vb T vH
abbrev Ee (T:Txt K mg):Sp:=vb T FQ
theorem KA {e most:Nat} {b:Tilt.Bytes} {ro ro':uJ} {l r:List Tilt.Word} {n:Tilt.Bytes} (h:ej e most b ro l = .ok ((n,ro'),r)):n ∉ ro.ps.map (·.1):=by
 unfold ej at h
 cases q:lz e (ro.ps.map (·.1)) b l with
 | error f=>rw [q,aF] at h;cases h
 | ok x =>
  obtain ⟨m,r1⟩:=x
  have h1:=(nu q).2.1
  rw [q,aL] at h
  dsimp only at h
  cases q2:bE e (Tilt.ascii "at") r1 with
  | error f=>rw [q2,aF] at h;cases h
  | ok r2 =>
   rw [q2,aL] at h
   cases q3:takeNum e 0 most r2 with
   | error f=>rw [q3,aF] at h;cases h
   | ok x3 =>
    rw [q3,aL] at h
    split at h
    ·cases h
    ·cases h;exact h1
end
theorem Ef {P:Program} {w:World} {K:PySem.W.Frag} {mg:Str->Option Value} {base:Heap} (T:Txt K mg):a8 P w K mg base (uh P w) 5 T.gY T.iH ["table","line"] (Eb T):=by
 refine T.fJ.tU DK (fun vs H Q E h=>?_) (fun cdv A outer s H vs Q E hr h=>?_)
 ·obtain ⟨A,pt,L,fin,pre,rest,rfl,_⟩:=h
  rfl
 ·obtain ⟨A',pt,L,fin,pre,rest,rfl,hB,ho,hsm,q⟩:=h
  refine ⟨_,(ae (aJ (aq (qU T) (hr.mono (by decide)) rfl T.oz T.dB.kp (sJ T) .nil (bC bq) (aa (pv 1) ag)))
   (ae (aJ (aq (bA T) (hr.mono (by decide)) rfl T.bD T.aT.kp (bP T) .nil (bC bq) (aa (pv 1) (aa eY ag))))
   (ah (aH (pv 0) (aq (cP T) (hr.mono (by decide)) rfl T.cJ T.bb.kp (dG T) .nil (bC bq) (aa (pv 1) (aa ao (aa (iV rfl T.mU) ag)))) rfl)))),?_⟩
  unfold ym at q
  refine ⟨_,rfl,L,fin,pre,rest,rfl,hB.pD,?_⟩
  refine eh.intro (fun f e=>?_) fun w r1 e1 H1 w1 er1 h1 k1=>?_
  ·rw [e,aF] at q;exact fi.sub q Kp.refl one_sub
  rw [e1,aL] at q
  dsimp only at q
  intro a ha
  have hB1:=hB.line k1 h1
  have k1':Kp (L.l :: A'.all) H H1:=k1.mono one_sub
  refine ⟨_,rfl,L,fin,_,r1,"balls",_,rfl,h1,Kv,?_⟩
  refine eh.intro (fun f e=>?_) fun u r2 e2 H2 w2 er2 h2 k2=>?_
  ·rw [iU e,aF] at q;exact fi.sub q k1' one_sub
  obtain ⟨m,em,eu⟩:=lu e2
  cases eu
  rw [em,aL] at q
  have hB2:=hB1.line k2 h2
  have k2':=k1'.trans (k2.mono one_sub)
  refine ⟨_,rfl,L,fin,_,r2,1,8,rfl,(by decide),h2,?_⟩
  refine eh.intro (fun f e=>?_) fun x r3 e3 H3 w3 er3 h3 k3=>?_
  ·rw [e,aF] at q;exact fi.sub q k2' one_sub
  rw [e3,aL] at q
  have hB3:=hB2.line k3 h3
  have k3':=k2'.trans (k3.mono one_sub)
  refine ⟨_,rfl,_,_,_,_,rfl,hB3.tab.obj,T.aA,T.ja,pX,?_⟩
  rw [AD]
  have kk:Kp A'.all H3 (upd H3 A'.t (.ins T.aS A'.Oo (bR pt.rank (x.1:Nat) A'.sw A'.la A'.co A'.mo A'.dn A'.pl A'.he A'.bu (pt.drained:Nat) (pt.kicks:Nat) pt.tS))):=Kp.wr (by unfold TA.all;simp)
  exact q _ _ (hB3.table kk (hB3.tab.Kz _ _ _ _ _)) (k3'.trans (kk.mono jz))
theorem A0 {P:Program} {w:World} {K:PySem.W.Frag} {mg:Str->Option Value} {base:Heap} (T:Txt K mg):a8 P w K mg base (uh P w) 7 T.e8 T.fy ["table","line"] (AY T):=by
 refine T.dC.tU Ax (fun vs H Q E h=>?_) (fun cdv A outer s H vs Q E hr h=>?_)
 ·obtain ⟨A,pt,L,fin,pre,rest,rfl,_⟩:=h
  rfl
 ·obtain ⟨A',pt,L,fin,pre,rest,rfl,hB,ho,hsm,q⟩:=h
  refine ⟨_,(ae (aJ (aq (pB T) (hr.mono (by decide)) rfl T.mP T.cK.kp (qR T) .nil (bC bq) (aa (pv 1) (aa (aj (pv 0) rfl) ag))))
   (ae (aJ (aq (bA T) (hr.mono (by decide)) rfl T.bD T.aT.kp (bP T) .nil (bC bq) (aa (pv 1) (aa eY ag))))
   (ae (aJ (aq (cP T) (hr.mono (by decide)) rfl T.cJ T.bb.kp (dG T) .nil (bC bq) (aa (pv 1) (aa ao (aa ao ag)))))
   (ae (aJ (aq (bA T) (hr.mono (by decide)) rfl T.bD T.aT.kp (bP T) .nil (bC bq) (aa (pv 1) (aa eY ag))))
   (ae (aJ (aq (cP T) (hr.mono (by decide)) rfl T.cJ T.bb.kp (dG T) .nil (bC bq) (aa (pv 1) (aa ao (aa ao ag)))))
   (ah (aY (bQ (bg (pv 1) T.a7 T.eJ (fY T) (hr.mono (by decide)) (hW T) .nil aN) (fun _=>rfl)) (ah (aJ (aq (bA T) (hr.mono (by decide)) rfl T.bD T.aT.kp (bP T) .nil (bC bq) (aa (pv 1) (aa eY ag))))) aC))))))),?_⟩
  unfold vG at q
  have s3:∀ a ∈ [L.l,A'.sw,A'.Lg],a ∈ L.l :: A'.all:=by unfold TA.all;intro a ha;simp at ha;rcases ha with rfl | rfl | rfl <;> simp
  refine ⟨_,rfl,_,rfl,_,_,_,_,_,rfl,hB.tab.obj,T.aA,T.bO,cf,L,fin,pre,rest,A'.sw,A'.Ql,A'.Lg,pt.sw,63,"drain",_,rfl,hB.pD,hB.tab.sw,xC,(by decide),ho.sw,ho.sz.1,?_⟩
  cases e0:ej fin 63 Tilt.DRAIN pt.sw rest with
  | error f=>rw [e0,aF] at q;exact fi.sub q Kp.refl s3
  | ok x =>
   obtain ⟨⟨n,ro⟩,r0⟩:=x
   rw [e0,aL] at q
   dsimp only at q ⊢
   intro H0 pre0 h0 hR0 k0
   have hT0:TableAt T H0 A' { pt with sw:=ro }:=hB.tab.Rh hB.pD.obj jx hB.Oq k0 hR0
   have k0':Kp (L.l :: A'.all) H H0:=k0.mono s3
   have hB0:jd T H0 A' { pt with sw:=ro } L fin pre0 r0:=⟨hT0,h0,hB.apart⟩
   refine ⟨_,rfl,L,fin,_,r0,"close",_,rfl,h0,Kw,?_⟩
   refine eh.intro (fun f e=>?_) fun u r1 e1 H1 w1 er1 h1 k1=>?_
   ·rw [iU e,aF] at q;exact fi.sub q k0' one_sub
   obtain ⟨m,em,eu⟩:=lu e1
   cases eu
   rw [em,aL] at q
   have hB1:=hB0.line k1 h1
   have k1':=k0'.trans (k1.mono one_sub)
   refine ⟨_,rfl,L,fin,_,r1,1,31,rfl,(by decide),h1,?_⟩
   refine eh.intro (fun f e=>?_) fun x2 r2 e2 H2 w2 er2 h2 k2=>?_
   ·rw [e,aF] at q;exact fi.sub q k1' one_sub
   rw [e2,aL] at q
   dsimp only at q
   have hB2:=hB1.line k2 h2
   have k2':=k1'.trans (k2.mono one_sub)
   refine ⟨_,rfl,L,fin,_,r2,"open",_,rfl,h2,L4,?_⟩
   refine eh.intro (fun f e=>?_) fun u r3 e3 H3 w3 er3 h3 k3=>?_
   ·rw [iU e,aF] at q;exact fi.sub q k2' one_sub
   obtain ⟨m3,em3,eu3⟩:=lu e3
   cases eu3
   rw [em3,aL] at q
   have hB3:=hB2.line k3 h3
   have k3':=k2'.trans (k3.mono one_sub)
   refine ⟨_,rfl,L,fin,_,r3,1,31,rfl,(by decide),h3,?_⟩
   refine eh.intro (fun f e=>?_) fun x4 r4 e4 H4 w4 er4 h4 k4=>?_
   ·rw [e,aF] at q;exact fi.sub q k3' one_sub
   rw [e4,aL] at q
   dsimp only at q
   have hB4:=hB3.line k4 h4
   have k4':=k3'.trans (k4.mono one_sub)
   refine ⟨_,rfl,_,_,_,rfl,h4.obj,fS,L,fin,_,r4,rfl,h4,_,rfl,?_⟩
   cases r4 with
   | nil=>exact aM (q _ _ hB4 k4')
   | cons w5 r5 =>
    refine aQ ⟨_,rfl,L,fin,_,w5 :: r5,"turned",_,rfl,h4,Il,?_⟩
    rw [if_neg (by simp)] at q
    refine eh.intro (fun f e=>?_) fun u r6 e6 H6 w6 er6 h6 k6=>?_
    ·rw [iU e,aF] at q;exact fi.sub q k4' one_sub
    obtain ⟨m6,em6,eu6⟩:=lu e6
    cases eu6
    rw [em6,aL] at q
    exact q _ _ (hB4.line k6 h6) (k4'.trans (k6.mono one_sub))
theorem Eg {P:Program} {w:World} {K:PySem.W.Frag} {mg:Str->Option Value} {base:Heap} (T:Txt K mg):a8 P w K mg base (uh P w) 7 T.gZ T.iI ["table","line"] (Ec T):=by
 refine T.fK.tU DL (fun vs H Q E h=>?_) (fun cdv A outer s H vs Q E hr h=>?_)
 ·obtain ⟨A,pt,L,fin,pre,rest,rfl,_⟩:=h
  rfl
 ·obtain ⟨A',pt,L,fin,pre,rest,rfl,hB,ho,hsm,q⟩:=h
  refine ⟨_,(ah (aJ (aq (pB T) (hr.mono (by decide)) rfl T.mP T.cK.kp (qR T) .nil (bC bq) (aa (pv 1) (aa (aj (pv 0) rfl) ag))))),?_⟩
  unfold FO at q
  have s3:∀ a ∈ [L.l,A'.la,A'.Qm],a ∈ L.l :: A'.all:=by unfold TA.all;intro a ha;simp at ha;rcases ha with rfl | rfl | rfl <;> simp
  refine ⟨_,rfl,_,rfl,_,_,_,_,_,rfl,hB.tab.obj,T.aA,T.pA,AE,L,fin,pre,rest,A'.la,A'.Sh,A'.Qm,pt.la,63,"loop",_,rfl,hB.pD,hB.tab.la,L8,(by decide),ho.la,ho.sz.2.1,?_⟩
  cases e0:ej fin 63 Tilt.LOOP pt.la rest with
  | error f=>rw [e0,aF] at q;exact fi.sub q Kp.refl s3
  | ok x =>
   obtain ⟨⟨n,ro⟩,r0⟩:=x
   rw [e0,aL] at q
   dsimp only at q ⊢
   intro H0 pre0 h0 hR0 k0
   exact q _ _ ⟨hB.tab.Ri hB.pD.obj jx hB.Oq k0 hR0,h0,hB.apart⟩ (k0.mono s3)
theorem Eh {P:Program} {w:World} {K:PySem.W.Frag} {mg:Str->Option Value} {base:Heap} (T:Txt K mg):a8 P w K mg base (uh P w) 7 T.g5 T.iJ ["table","line"] (Ed T):=by
 refine T.fL.tU vS (fun vs H Q E h=>?_) (fun cdv A outer s H vs Q E hr h=>?_)
 ·obtain ⟨A,pt,L,fin,pre,rest,rfl,_⟩:=h
  rfl
 ·obtain ⟨A',pt,L,fin,pre,rest,rfl,hB,ho,hsm,q⟩:=h
  refine ⟨_,(ae (aR (i:=2) vS.nd rfl (Or.inl rfl) (aq (pB T) (hr.mono (by decide)) rfl T.mP T.cK.kp (qR T) .nil (bC bq) (aa (pv 1) (aa (aj (pv 0) rfl) ag))))
   (ae (aJ (aq (bA T) (hr.mono (by decide)) rfl T.bD T.aT.kp (bP T) .nil (bC bq) (aa (pv 1) (aa eY ag))))
   (ae (vB (nk hr) (aj (pv 0) rfl) (pv 2) (aq (cP T) (hr.mono (by decide)) rfl T.cJ T.bb.kp (dG T) .nil (bC bq) (aa (pv 1) (aa ao (aa ao ag)))) rfl)
   (ae (aJ (aq (bA T) (hr.mono (by decide)) rfl T.bD T.aT.kp (bP T) .nil (bC bq) (aa (pv 1) (aa eY ag))))
   (ae (aJ (aq (cP T) (hr.mono (by decide)) rfl T.cJ T.bb.kp (dG T) .nil (bC bq) (aa (pv 1) (aa ao (aa ao ag)))))
   (ah (aY (bQ (bg (pv 1) T.a7 T.eJ (fY T) (hr.mono (by decide)) (hW T) .nil aN) (fun _=>rfl)) (ae (aJ (aq (bA T) (hr.mono (by decide)) rfl T.bD T.aT.kp (bP T) .nil (bC bq) (aa (pv 1) (aa eY ag))))
   (ah (aJ (aq (cP T) (hr.mono (by decide)) rfl T.cJ T.bb.kp (dG T) .nil (bC bq) (aa (pv 1) (aa ao (aa ao ag))))))) aC))))))),?_⟩
  unfold FP at q
  have s3:∀ a ∈ [L.l,A'.co,A'.Nd],a ∈ L.l :: A'.all:=by unfold TA.all;intro a ha;simp at ha;rcases ha with rfl | rfl | rfl <;> simp
  refine ⟨_,rfl,_,rfl,_,_,_,_,_,rfl,hB.tab.obj,T.aA,T.gy,j2,L,fin,pre,rest,A'.co,A'.RB,A'.Nd,pt.co,31,"",_,rfl,hB.pD,hB.tab.co,lit_none,(by decide),ho.co,ho.sz.2.2.1,?_⟩
  cases e0:ej fin 31 [] pt.co rest with
  | error f=>rw [e0,aF] at q;exact fi.sub q Kp.refl s3
  | ok x =>
   obtain ⟨⟨n,ro⟩,r0⟩:=x
   rw [e0,aL] at q
   dsimp only at q ⊢
   intro H0 pre0 h0 hR0 k0
   have hT0:TableAt T H0 A' { pt with co:=ro }:=hB.tab.Rj hB.pD.obj jx hB.Oq k0 hR0
   have k0':Kp (L.l :: A'.all) H H0:=k0.mono s3
   have hB0:jd T H0 A' { pt with co:=ro } L fin pre0 r0:=⟨hT0,h0,hB.apart⟩
   refine ⟨_,rfl,L,fin,_,r0,"most",_,rfl,h0,L5,?_⟩
   refine eh.intro (fun f e=>?_) fun u r1 e1 H1 w1 er1 h1 k1=>?_
   ·rw [iU e,aF] at q;exact fi.sub q k0' one_sub
   obtain ⟨m,em,eu⟩:=lu e1
   cases eu
   rw [em,aL] at q
   have hB1:=hB0.line k1 h1
   have k1':=k0'.trans (k1.mono one_sub)
   refine ⟨_,rfl,L,fin,_,r1,1,1023,rfl,(by decide),h1,?_⟩
   refine eh.intro (fun f e=>?_) fun x2 r2 e2 H2 w2 er2 h2 k2=>?_
   ·rw [e,aF] at q;exact fi.sub q k1' one_sub
   rw [e2,aL] at q
   dsimp only at q
   have hB2:=hB1.line k2 h2
   have k2':=k1'.trans (k2.mono one_sub)
   have hnew:n ∉ pt.mo.map (·.1):=by rw [ho.cm];exact KA e0
   refine ⟨_,rfl,_,_,_,_,_,rfl,hB2.tab.obj,T.aA,T.gz,j3,_,rfl,_,_,rfl,Dn.k (k:=Sum.inr (gD n)) hB2.tab.mo (by unfold va;rw [List.length_map];exact Nat.lt_trans ho.sz.2.2.2.1 (by decide)),?_⟩
   have hput:putK (va pt.mo) (Sum.inr (gD n)) (.int (x2.1:Nat)) = va (pt.mo ++ [(n,x2.1)]):=JC ho.mo hnew
   rw [hput]
   have kk:Kp A'.all H2 (upd H2 A'.mo (.dK (va (pt.mo ++ [(n,x2.1)])))):=Kp.wr (by unfold TA.all;simp)
   have hB2b:=hB2.table kk (hB2.tab.Rb _)
   have k2b:=k2'.trans (kk.mono jz)
   refine ⟨_,rfl,L,fin,_,r2,"rest",_,rfl,hB2b.pD,L6,?_⟩
   refine eh.intro (fun f e=>?_) fun u r3 e3 H3 w3 er3 h3 k3=>?_
   ·rw [iU e,aF] at q;exact fi.sub q k2b one_sub
   obtain ⟨m3,em3,eu3⟩:=lu e3
   cases eu3
   rw [em3,aL] at q
   have hB3:=hB2b.line k3 h3
   have k3':=k2b.trans (k3.mono one_sub)
   refine ⟨_,rfl,L,fin,_,r3,1,4095,rfl,(by decide),h3,?_⟩
   refine eh.intro (fun f e=>?_) fun x4 r4 e4 H4 w4 er4 h4 k4=>?_
   ·rw [e,aF] at q;exact fi.sub q k3' one_sub
   rw [e4,aL] at q
   dsimp only at q
   have hB4:=hB3.line k4 h4
   have k4':=k3'.trans (k4.mono one_sub)
   refine ⟨_,rfl,_,_,_,rfl,h4.obj,fS,L,fin,_,r4,rfl,h4,_,rfl,?_⟩
   cases r4 with
   | nil=>exact aM (q _ _ hB4 k4')
   | cons w5 r5 =>
    refine aQ ⟨_,rfl,L,fin,_,w5 :: r5,"hold",_,rfl,h4,L7,?_⟩
    rw [if_neg (by simp)] at q
    refine eh.intro (fun f e=>?_) fun u r6 e6 H6 w6 er6 h6 k6=>?_
    ·rw [iU e,aF] at q;exact fi.sub q k4' one_sub
    obtain ⟨m6,em6,eu6⟩:=lu e6
    cases eu6
    rw [em6,aL] at q
    have hB6:=hB4.line k6 h6
    have k6':=k4'.trans (k6.mono one_sub)
    refine ⟨_,rfl,L,fin,_,r6,1,15,rfl,(by decide),h6,?_⟩
    refine eh.intro (fun f e=>?_) fun x7 r7 e7 H7 w7 er7 h7 k7=>?_
    ·rw [e,aF] at q;exact fi.sub q k6' one_sub
    rw [e7,aL] at q
    exact q _ _ (hB6.line k7 h7) (k6'.trans (k7.mono one_sub))
end Pb
namespace Pb
open PySem PySem.Spec PyProof.Rows L2
section
variable {K:PySem.W.Frag} {mg:Str->Option Value}
theorem yz {e:Nat} {pt pt':PT} {l r:List Tilt.Word} {n:Tilt.Bytes} (h:lS e pt l = .ok ((n,pt'),r)):n ∈ pt.co.ps.map (·.1)/\Tilt.isName n = true/\pt' = { pt with busy:=pt.busy ++ [n] }:=by
 unfold lS at h
 cases q:ei e (pt.co.ps.map (·.1)) l with
 | error f=>rw [q,aF] at h;cases h
 | ok x =>
  obtain ⟨a,b,c⟩:=nU q
  rw [q,aL] at h
  split at h
  ·cases h
  ·cases h;exact ⟨b,c,rfl⟩
theorem yA {e:Nat} {pt pt':PT} {l r:List Tilt.Word} {p:Nat} (h:gM e pt l = .ok ((p,pt'),r)):∃ n,Tilt.isName n = true/\pt' = { pt with held:=pt.held ++ [n] }:=by
 unfold gM at h
 cases q:ei e (pt.sw.ps.map (·.1)) l with
 | error f=>rw [q,aF] at h;cases h
 | ok x =>
  obtain ⟨a,b,c⟩:=nU q
  rw [q,aL] at h
  split at h
  ·cases h
  ·cases h;exact ⟨_,c,rfl⟩
theorem BZ {e:Nat} {pt pt':PT} {l r:List Tilt.Word} {n:Tilt.Bytes} (h:kG e pt l = .ok ((n,pt'),r)):Tilt.isName n = true/\∃ k,pt' = { pt with tS:=k }:=by
 unfold kG at h
 cases q:ei e (pt.sw.ps.map (·.1)) l with
 | error f=>rw [q,aF] at h;cases h
 | ok x =>
  obtain ⟨a,b,c⟩:=nU q
  rw [q,aL] at h
  split at h
  ·cases h
  ·split at h
   ·cases h
   ·cases h;exact ⟨c,_,rfl⟩
theorem kq.busy {pt:PT} (o:kq pt) {n:Tilt.Bytes} (hn:Tilt.isName n = true) (hz:pt.busy.length < 999):kq { pt with busy:=pt.busy ++ [n] }:=by
 refine ⟨o.sw,o.la,o.co,o.mo,o.dn,o.he,fun p hp=>?_,?_,o.cm⟩
 ·rcases List.mem_append.mp hp with h | h
  ·exact o.bu p h
  ·rw [List.mem_singleton.mp h];exact hn
 ·have:=o.sz
  dsimp only
  rw [List.length_append,List.length_singleton]
  omega
theorem kq.held {pt:PT} (o:kq pt) {n:Tilt.Bytes} (hn:Tilt.isName n = true) (hz:pt.held.length < 999):kq { pt with held:=pt.held ++ [n] }:=by
 refine ⟨o.sw,o.la,o.co,o.mo,o.dn,fun p hp=>?_,o.bu,?_,o.cm⟩
 ·rcases List.mem_append.mp hp with h | h
  ·exact o.he p h
  ·rw [List.mem_singleton.mp h];exact hn
 ·have:=o.sz
  dsimp only
  rw [List.length_append,List.length_singleton]
  omega
theorem kq.Rl {pt:PT} (o:kq pt) {n:Tilt.Bytes} (hn:Tilt.isName n = true) (hz:pt.dn.length < 999):kq { pt with dn:=pt.dn ++ [n] }:=by
 refine ⟨o.sw,o.la,o.co,o.mo,fun p hp=>?_,o.he,o.bu,?_,o.cm⟩
 ·rcases List.mem_append.mp hp with h | h
  ·exact o.dn p h
  ·rw [List.mem_singleton.mp h];exact hn
 ·have:=o.sz
  dsimp only
  rw [List.length_append,List.length_singleton]
  omega
theorem TableAt.Ei {T:Txt K mg} {H:Hp} {A:TA} {pt:PT} (x:TableAt T H A pt) (o:kq pt) {n:Tilt.Bytes} (hn:n ∈ pt.co.ps.map (·.1)):∃ m,pt.mo.lookup n = some m/\pN H A.mo (V.str (gD n)) (some (V.int (m:Nat))):=by
 obtain ⟨m,hm⟩:=lQ (ps:=pt.mo) (by rw [o.cm];exact hn)
 refine ⟨m,hm,?_⟩
 have:=pN.k (k:=Sum.inr (gD n)) x.mo
 rw [zT o.mo,hm] at this
 exact this
theorem TableAt.JD {T:Txt K mg} {H:Hp} {A:TA} {pt:PT} (x:TableAt T H A pt) (o:kq pt) {n:Tilt.Bytes} (hn:n ∈ pt.co.ps.map (·.1)):∃ m,pt.co.ps.lookup n = some m/\pN H A.Nd (V.str (gD n)) (some (V.int (m:Nat))):=by
 obtain ⟨m,hm⟩:=lQ hn
 refine ⟨m,hm,?_⟩
 have:=pN.k (k:=Sum.inr (gD n)) x.co.kF
 rw [zT o.co,hm] at this
 exact this
theorem Py {e lo hi:Nat} {l r:List Tilt.Word} {x:Nat × Nat} {w:Tilt.Word} (h:takeNum e lo hi l = .ok (x,r)) (hl:l = w :: r):x.2 = w.at_:=by
 subst hl
 unfold takeNum at h
 dsimp only at h
 cases y:Tilt.numberOf w.w with
 | none=>rw [y] at h;cases h
 | some n =>
  rw [y] at h
  dsimp only at h
  split at h
  ·cases h
  ·cases h;rfl
end
theorem Ej {P:Program} {w:World} {K:PySem.W.Frag} {mg:Str->Option Value} {base:Heap} (T:Txt K mg):a8 P w K mg base (uh P w) 7 T.g6 T.iK ["table","line"] (Ee T):=by
 refine T.fM.tU qC (fun vs H Q E h=>?_) (fun cdv A outer s H vs Q E hr h=>?_)
 ·obtain ⟨A,pt,L,fin,pre,rest,rfl,_⟩:=h
  rfl
 ·obtain ⟨A',pt,L,fin,pre,rest,rfl,hB,ho,hsm,q⟩:=h
  refine ⟨_,(ae (aR (i:=2) qC.nd rfl (Or.inl rfl) (aq (tZ T) (hr.mono (by decide)) rfl T.nO T.bH.kp (uX T) .nil (bC bq) (aa (pv 0) (aa (pv 1) ag))))
   (ae (aR (i:=3) qC.nd rfl (Or.inl rfl) (aq (oV T) (hr.mono (by decide)) rfl T.lb T.bM.kp (qa T) .nil (bC bq) (aa (pv 0) (aa (pv 1) ag))))
   (ae (aJ (aq (bA T) (hr.mono (by decide)) rfl T.bD T.aT.kp (bP T) .nil (bC bq) (aa (pv 1) (aa eY ag))))
   (ae (aY (aI pG (aq (cP T) (hr.mono (by decide)) rfl T.cJ T.bb.kp (dG T) .nil (bC bq) (aa (pv 1) (aa ao (aa ao ag)))) (vA (nk hr) (aj (pv 0) rfl) (pv 3) (fun _ _=>rfl)) (aG _)) (ah (bF bq rfl T.xc (az T) (hr.mono (by decide)) rfl T.bZ (aB T) (aa ao (aa (bg (pv 1) T.a7 T.bG (b5 T) (hr.mono (by decide)) (cn T) .nil aN) ag)))) aC)
   (ae (aY (bQ (bg (pv 1) T.a7 T.eJ (fY T) (hr.mono (by decide)) (hW T) .nil aN) (fun _=>rfl)) (ae (aJ (aq (bA T) (hr.mono (by decide)) rfl T.bD T.aT.kp (bP T) .nil (bC bq) (aa (pv 1) (aa eY ag))))
   (ah (aY (aI dX (aq (lO T) (hr.mono (by decide)) rfl T.j8 T.cj.kp (mX T) .nil (bC bq) (aa (pv 1) (aa (aj (pv 0) rfl) ag))) (pv 2) (aG _)) (ah (bF bq rfl T.xc (az T) (hr.mono (by decide)) rfl T.bZ (aB T) (aa ao (aa (bg (pv 1) T.a7 T.bG (b5 T) (hr.mono (by decide)) (cn T) .nil aN) ag)))) aC))) aC)
   (ah (gd (pv 0) ao rE))))))),?_⟩
  unfold FQ at q
  refine ⟨_,rfl,_,rfl,A',pt,L,fin,pre,rest,rfl,hB,ho,?_⟩
  refine AX.intro (fun f e=>?_) fun s pt0 r0 e0 H0 pre0 hB0 k0 pl0=>?_
  ·rw [e,aF] at q;exact q
  rw [e0,aL] at q
  obtain ⟨hsn,kh,ept0⟩:=BZ e0
  have ho0:kq pt0:=by subst ept0;exact ⟨ho.sw,ho.la,ho.co,ho.mo,ho.dn,ho.he,ho.bu,ho.sz,ho.cm⟩
  have hz0:pt0.busy.length < 900:=by subst ept0;exact hsm.2.2.2.2.2.2.1
  refine ⟨_,rfl,_,rfl,A',pt0,L,fin,pre0,r0,rfl,hB0,ho0,?_⟩
  dsimp only at q
  refine AX.intro (fun f e=>?_) fun c pt1 r1 e1 H1 pre1 hB1 k1 pl1=>?_
  ·rw [e,aF] at q;exact fi.to q k0
  rw [e1,aL] at q
  obtain ⟨hcm,hcn,ept1⟩:=yz e1
  have ho1:kq pt1:=by rw [ept1];exact ho0.busy hcn (by omega)
  have hcm1:c ∈ pt1.co.ps.map (·.1):=by rw [ept1];exact hcm
  have k1':=k0.trans k1
  dsimp only at q
  refine ⟨_,rfl,L,fin,_,r1,"for",_,rfl,hB1.pD,Nc,?_⟩
  refine eh.intro (fun f e=>?_) fun u r2 e2 H2 w2 er2 h2 k2=>?_
  ·rw [iU e,aF] at q;exact fi.sub q k1' one_sub
  obtain ⟨m,em,eu⟩:=lu e2
  cases eu
  rw [em,aL] at q
  have hB2:=hB1.line k2 h2
  have k2':=k1'.trans (k2.mono one_sub)
  refine ⟨_,rfl,L,fin,_,r2,1,255,rfl,(by decide),h2,?_⟩
  refine eh.intro (fun f e=>?_) fun x3 r3 e3 H3 w3 er3 h3 k3=>?_
  ·rw [e,aF] at q;exact fi.sub q k2' one_sub
  have hat:=Py e3 er3
  rw [e3,aL] at q
  have hB3:=hB2.line k3 h3
  have k3':=k2'.trans (k3.mono one_sub)
  obtain ⟨mo,hmo,gmo⟩:=hB3.tab.Ei ho1 hcm1
  rw [hmo] at q
  dsimp only [Option.getD] at q
  refine ⟨_,rfl,_,_,_,_,_,rfl,hB3.tab.obj,T.aA,T.gz,j3,_,rfl,_,_,rfl,gmo,_,_,rfl,rfl,_,rfl,?_⟩
  by_cases z:mo < x3.1
  ·rw [if_pos z] at q
   rw [decide_eq_true (show ((mo:Nat):Int) < ((x3.1:Nat):Int) by omega)]
   refine aQ ⟨_,rfl,_,_,_,rfl,h3.obj,b3,L,fin,_,r3,w3,rfl,h3,?_⟩
   rw [hat] at q
   exact bj (k:=7) (fi.at q k3')
  ·rw [if_neg z] at q
   rw [decide_eq_false (show ¬ ((mo:Nat):Int) < ((x3.1:Nat):Int) by omega)]
   refine aM ⟨_,rfl,_,_,_,rfl,h3.obj,fS,L,fin,_,r3,rfl,h3,_,rfl,?_⟩
   unfold LN at q
   have kk:∀ (H':Hp),Kp A'.all H' (upd H' A'.t (.ins T.aS A'.Oo (bR pt1.rank (pt1.balls:Nat) A'.sw A'.la A'.co A'.mo A'.dn A'.pl A'.he A'.bu (pt1.drained:Nat) ((pt1.kicks + 1:Nat)) pt1.tS))):=fun H'=>Kp.wr (by unfold TA.all;simp)
   cases r3 with
   | nil =>
    refine aM ⟨_,rfl,_,_,_,_,_,rfl,hB3.tab.obj,T.aA,T.jb,nM,_,_,rfl,rfl,_,_,hB3.tab.obj,pX,?_⟩
    rw [sy]
    exact q _ _ (hB3.table (kk _) (hB3.tab.Kz _ _ _ _ _)) (k3'.trans ((kk _).mono jz))
   | cons w4 r4 =>
    rw [if_neg (by simp)] at q
    refine aQ ⟨_,rfl,L,fin,_,w4 :: r4,"till",_,rfl,h3,L9,?_⟩
    refine eh.intro (fun f e=>?_) fun u r5 e5 H5 w5 er5 h5 k5=>?_
    ·rw [iU e,aF] at q;exact fi.sub q k3' one_sub
    obtain ⟨m5,em5,eu5⟩:=lu e5
    cases eu5
    rw [em5,aL] at q
    have hB5:=hB3.line k5 h5
    have k5':=k3'.trans (k5.mono one_sub)
    refine ⟨_,rfl,_,rfl,_,_,_,_,_,rfl,hB5.tab.obj,T.aA,T.bO,cf,L,fin,_,r5,A'.sw,A'.Ql,A'.Lg,pt1.sw.hi,63,"drain",va pt1.sw.ps,pt1.sw.ps.map (·.1),rfl,hB5.pD,hB5.tab.sw.obj,hB5.tab.Ea ho1,?_⟩
    refine eh.intro (fun f e=>?_) fun v r6 e6 H6 w6 er6 h6 k6=>?_
    ·rw [e,aF] at q;exact fi.sub q k5' one_sub
    obtain ⟨ev,hvm,hvn⟩:=nU e6
    rw [er6] at ev
    cases ev
    rw [e6,aL] at q
    dsimp only at q
    have hB6:=hB5.line k6 h6
    have k6':=k5'.trans (k6.mono one_sub)
    refine ⟨_,rfl,rfl,_,rfl,?_⟩
    have ed:decide (V.str (gD v.w) = V.str (gD s)) = decide (v.w = s):=by
     rw [sU]
     by_cases y:v.w = s
     ·rw [y];simp
     ·rw [decide_eq_false y];simpa using fun y'=>y (wg hvn y')
    rw [ed]
    by_cases y:v.w = s
    ·rw [if_pos y] at q
     rw [decide_eq_true y]
     refine aQ ⟨_,rfl,_,_,_,rfl,h6.obj,b3,L,fin,_,r6,v,rfl,h6,?_⟩
     exact bj (k:=7) (fi.at q k6')
    ·rw [if_neg y] at q
     rw [decide_eq_false y]
     refine aM ⟨_,rfl,_,_,_,_,_,rfl,hB6.tab.obj,T.aA,T.jb,nM,_,_,rfl,rfl,_,_,hB6.tab.obj,pX,?_⟩
     rw [sy]
     exact q _ _ (hB6.table (kk _) (hB6.tab.Kz _ _ _ _ _)) (k6'.trans ((kk _).mono jz))
end Pb
namespace Pb
open PySem PySem.Spec PyProof.Rows L2
section
variable {K:PySem.W.Frag} {mg:Str->Option Value}
noncomputable def xF (T:Txt K mg):Sp:=fun vs H Q _=>∃ (a dx sl:Addr) (c p:Int),vs = [.ref a,.int c,.int p,.ref sl]/\H a = some (.ins T.eZ dx [])/\Q .fR (upd H a (.ins T.eZ dx (nL c p sl)))
theorem di.wr {T:Txt K mg} {H:Hp} {a b:Addr} {p:Plan} {u:HO} (x:di T H a p) {as:List Addr} (e:H b = some (.lst (as.map V.ref))):di T (upd H b u) a p:=by
 obtain ⟨dx,sl,e1,e2,ne⟩:=x
 refine ⟨dx,sl,?_,?_,ne⟩
 ·rw [ai (aU e1 e oU bf)];exact e1
 ·rw [ai]
  ·exact e2
  ·refine nV e2 e ?_
   intro z
   cases q:p.gE with
   | nil=>exact ne q
   | cons m r =>
    rw [q] at z
    cases as with
    | nil=>cases z
    | cons _ _=>cases z
theorem TableAt.Ot {T:Txt K mg} {H:Hp} {A:TA} {pt:PT} (x:TableAt T H A pt) {as:List Addr} (e:H A.pl = some (.lst (as.map V.ref))) (ps:mZ T H as pt.bt) {a:Addr} {p:Plan} (hp:di T H a p) :
  TableAt T (upd H A.pl (.lst (as.map V.ref ++ [V.ref a]))) A { pt with bt:=pt.bt ++ [p] }:=by
 have k:∀ (i:Nat) {c:Addr} {o:HO},A.all[i]? = some c->i ≠ 9->H c = some o->upd H A.pl (.lst (as.map V.ref ++ [V.ref a])) c = some o:=fun i {c o} hc hi q=>by rw [ai (ay x.nd i 9 hc rfl hi)];exact q
 refine ⟨k 0 rfl (by decide) x.obj,⟨k 1 rfl (by decide) x.sw.obj,k 2 rfl (by decide) x.sw.kF⟩,⟨k 3 rfl (by decide) x.la.obj,k 4 rfl (by decide) x.la.kF⟩,⟨k 5 rfl (by decide) x.co.obj,k 6 rfl (by decide) x.co.kF⟩,k 7 rfl (by decide) x.mo,k 8 rfl (by decide) x.dn,k 10 rfl (by decide) x.he,k 11 rfl (by decide) x.bu,⟨as ++ [a],?_,?_,fun i c q hc hq=>?_⟩,x.nd⟩
 ·rw [af,List.map_append];rfl
 ·rw [List.length_append,List.length_append,ps.len];rfl
 ·by_cases hi:i < as.length
  ·rw [List.getElem?_append_left hi] at hc
   rw [List.getElem?_append_left (by rw [←ps.len];exact hi)] at hq
   exact (ps.at_ i c q hc hq).wr e
  ·have hi2:i = as.length:=by
    have:=(List.getElem?_eq_some_iff.mp hc).1
    rw [List.length_append,List.length_singleton] at this
    omega
   subst hi2
   rw [List.getElem?_append_right (Nat.le_refl _),Nat.sub_self] at hc
   rw [ps.len,List.getElem?_append_right (Nat.le_refl _),Nat.sub_self] at hq
   cases hc
   cases hq
   exact hp.wr e
theorem TableAt.dnames {T:Txt K mg} {H:Hp} {A:TA} {pt:PT} (x:TableAt T H A pt) (o:kq pt):lN H A.dn (Bv pt.dn) pt.dn:=⟨x.dn,AW _,o.dn,by unfold Bv;rw [List.length_map];have:=o.sz;omega⟩
structure JE (T:Txt K mg) (H0:Hp) (A:TA) (L:LA) (fin:Nat) (sp:Addr) (z:EF ((List Nat × PT) × List Tilt.Word)) (hb:Nat) (cof:List (Tilt.Bytes × Nat)) (mof:List (Tilt.Bytes × Nat)) (plf:List Plan) (m:Nat) (H:Hp) (pt:PT) (xs:List Nat) (pre rest:List Tilt.Word):Prop where
 both:jd T H A pt L fin pre rest
 lst:H sp = some (.lst (xs.map fun (n:Nat)=>V.int n))
 new:H0 sp = none
 ne:xs ≠ []
 cnt:xs.length + m = 8
 kp:Kp (L.l :: A.all) H0 H
 eq:z = cS fin m pt xs rest
 ok:kq pt
 hz:pt.held.length<=hb + xs.length
 co:pt.co.ps = cof
 mo:pt.mo = mof
 pl:H A.pl = H0 A.pl
 Tc:pt.bt = plf
theorem Kp.Ou {S:List Addr} {H H1:Hp} {a:Addr} {o:HO} (k:Kp S H H1) (n:H a = none):Kp S H (upd H1 a o):=fun b u e hb=>by rw [ai (aw e n)];exact k b u e hb
theorem jd.safe {T:Txt K mg} {H:Hp} {A:TA} {pt:PT} {L:LA} {fin:Nat} {pre rest:List Tilt.Word} (x:jd T H A pt L fin pre rest):∀ b ∈ L.l :: A.all,∀ o,H b = some o->fe o ≠ 311/\∀ n r,o ≠ .lst (V.int n :: r):=by
 intro b hb o e
 rcases List.mem_cons.mp hb with rfl | hb
 ·rw [x.pD.obj] at e
  cases e
  exact ⟨by rw [jx];decide,fun n r z=>by cases z⟩
 ·obtain ⟨o',e',t⟩:=x.tab.tags b hb
  rw [e'] at e
  cases e
  rcases t with t | t | t | ⟨_,as,t⟩
  ·exact ⟨by rw [t];decide,fun n r z=>by rw [z] at t;exact absurd t (by show ¬ (1 = 1311);decide)⟩
  ·exact ⟨by rw [t];decide,fun n r z=>by rw [z] at t;exact absurd t (by show ¬ (1 = 421);decide)⟩
  ·exact ⟨by rw [t];decide,fun n r z=>by rw [z] at t;exact absurd t (by show ¬ (1 = 2);decide)⟩
  ·subst t
   exact ⟨by rw [bf];decide,fun n r z=>by cases as <;> cases z⟩
theorem TableAt.rest {T:Txt K mg} {H H':Hp} {A:TA} {pt:PT} (x:TableAt T H A pt) {S:List Addr} (k:Kp S H H') (h1:∀ b ∈ A.all,b ∉ S) {as:List Addr} (e:H A.pl = some (.lst (as.map V.ref))) (ps:mZ T H' as pt.bt):TableAt T H' A pt:=by
 have m:∀ b,b ∈ A.all->b ∉ S:=h1
 unfold TA.all at m
 exact ⟨k _ _ x.obj (m _ (by simp)),⟨k _ _ x.sw.obj (m _ (by simp)),k _ _ x.sw.kF (m _ (by simp))⟩,⟨k _ _ x.la.obj (m _ (by simp)),k _ _ x.la.kF (m _ (by simp))⟩,⟨k _ _ x.co.obj (m _ (by simp)),k _ _ x.co.kF (m _ (by simp))⟩,
  k _ _ x.mo (m _ (by simp)),k _ _ x.dn (m _ (by simp)),k _ _ x.he (m _ (by simp)),k _ _ x.bu (m _ (by simp)),⟨as,k _ _ e (m _ (by simp)),ps⟩,x.nd⟩
end
theorem A1 {c:TT} {σ:L2.St} {H:Hp} {Q:Bool->Hp->Prop} (b:Bool) (h1:∀ Qc:Bool->Hp->Prop,Qc b H->c σ H Qc) (h2:Q b H):c σ H Q:=h1 _ h2
noncomputable def Gx (xs:List Nat):List Tilt.Word->Bool
 | []=>false
 | w :: _=>decide (xs.length < 8) && !decide (w.w = Tilt.DRAIN)
theorem Iq {xs:List Nat} {l:List Tilt.Word} {m:Nat} (h:Gx xs l = true) (hc:xs.length + m = 8):∃ w r m',l = w :: r/\m = m' + 1/\¬ w.w = Tilt.DRAIN:=by
 cases l with
 | nil=>cases h
 | cons w r =>
  unfold Gx at h
  simp only [Bool.and_eq_true,decide_eq_true_eq,Bool.not_eq_true',decide_eq_false_iff_not] at h
  exact ⟨w,r,m - 1,rfl,by omega,h.2⟩
theorem Gy {fin:Nat} {pt:PT} {xs:List Nat} {l:List Tilt.Word} {m:Nat} (h:Gx xs l = false) (hc:xs.length + m = 8):cS fin m pt xs l = .ok ((xs,pt),l):=by
 cases m with
 | zero=>rfl
 | succ m=>cases l with
  | nil=>rfl
  | cons w r =>
   have h:(decide (xs.length < 8) && !decide (w.w = Tilt.DRAIN)) = false:=h
   rw [decide_eq_true (show xs.length < 8 by omega),Bool.true_and] at h
   show (if w.w = Tilt.DRAIN then _ else _) = _
   rw [if_pos (by simpa using h)]
theorem xG {P:Program} {w:World} {K:PySem.W.Frag} {mg:Str->Option Value} {base:Heap} (T:Txt K mg):a8 P w K mg base kD 1 T.jo T.dP ["self","coil","pulse","spots"] (xF T):=by
 refine T.c9.ok xk (fun vs H Q E h=>?_) (fun cdv A outer s H vs Q E hr h=>?_)
 ·obtain ⟨a,dx,sl,c,p,rfl,_⟩:=h
  rfl
 ·obtain ⟨a,dx,sl,c,p,rfl,ha,q⟩:=h
  refine ⟨_,(ae (aH (pv 0) (pv 1) rfl)
   (ae (aH (pv 0) (pv 2) rfl)
   (ah (aH (pv 0) (pv 3) rfl)))),?_⟩
  refine ⟨_,rfl,_,rfl,_,_,_,_,rfl,ha,T.qL,T.sG,(by show 0 < 1000;decide),_,rfl,_,rfl,_,_,_,_,rfl,af,T.qL,T.qM,(by show 1 < 1000;decide),_,rfl,_,rfl,_,_,_,_,rfl,af,T.qL,T.qN,(by show 2 < 1000;decide),?_⟩
  rw [aW,aW]
  exact q
theorem A2 {P:Program} {w:World} {K:PySem.W.Frag} {mg:Str->Option Value} {base:Heap} (T:Txt K mg):a8 P w K mg base (uh P w) 7 T.e9 T.fz ["table","line"] (AZ T):=by
 refine T.dD.tU gO (fun vs H Q E h=>?_) (fun cdv A outer s H vs Q E hr h=>?_)
 ·obtain ⟨A,pt,L,fin,pre,rest,rfl,_⟩:=h
  rfl
 ·obtain ⟨A',pt,L,fin,pre,rest,rfl,hB,ho,hsm,q⟩:=h
  refine ⟨_,(ae (aR (i:=2) gO.nd rfl (Or.inl rfl) (aq (qd T) (hr.mono (by decide)) rfl T.mj T.bY.kp (rl T) .nil (bC bq) (aa (pv 1) (aa (aj (pv 0) rfl) (aa eY ag)))))
   (ae (vB (nk hr) (aj (pv 0) rfl) (pv 2) rA rfl)
   (ae (aJ (aq (bA T) (hr.mono (by decide)) rfl T.bD T.aT.kp (bP T) .nil (bC bq) (aa (pv 1) (aa eY ag))))
   (ae (aR (i:=3) gO.nd rfl (Or.inl rfl) (aq (oV T) (hr.mono (by decide)) rfl T.lb T.bM.kp (qa T) .nil (bC bq) (aa (pv 0) (aa (pv 1) ag))))
   (ae (aJ (aq (bA T) (hr.mono (by decide)) rfl T.bD T.aT.kp (bP T) .nil (bC bq) (aa (pv 1) (aa eY ag))))
   (ae (aR (i:=4) gO.nd rfl (Or.inl rfl) (dk (aa (aq (oW T) (hr.mono (by decide)) rfl T.lh T.bN.kp (qc T) .nil (bC bq) (aa (pv 0) (aa (pv 1) ag))) ag)))
   (ae (zZ bq.own (PW.pt (uE (bQ (bg (pv 1) T.a7 T.eJ (fY T) (hr.mono (by decide)) (hW T) .nil aN) (fun _=>rfl)) (uE (aI pF (aZ bX (by rfl) T.gK PySem.boot_len (aa (pv 4) ag)) (iV rfl T.oO) (aG _)) (sS (rB (bQ (mz (pv 1) T.a7 T.uv (BV T) (hr.mono (by decide)) (D0 T) .nil aN (aa eY ag)) (fun _=>rfl))))))) (ah (aJ (ug PySem.F.plainAttrs_list PySem.F.slot_list_append PySem.F.type_list_append pI (pv 4) (aa (aq (oW T) (hr.mono (by decide)) rfl T.lh T.bN.kp (qc T) .nil (bC bq) (aa (pv 0) (aa (pv 1) ag))) ag)))))
   (ae (aY (bQ (bg (pv 1) T.a7 T.eJ (fY T) (hr.mono (by decide)) (hW T) .nil aN) (fun _=>rfl)) (ae (aJ (aq (bA T) (hr.mono (by decide)) rfl T.bD T.aT.kp (bP T) .nil (bC bq) (aa (pv 1) (aa eY ag))))
   (ah (gd (pv 0) (aZ bX (by rfl) T.gK PySem.boot_len (aa (pv 4) ag)) rE))) aC)
   (ae (aR (i:=5) gO.nd rfl (Or.inl rfl) (aZ (sV rfl) (by rfl) T.AO D3 (aa (iV rfl T.jv) (aa (vA (nk hr) (aj (pv 0) rfl) (pv 3) (fun _ _=>rfl)) ag))))
   (ah (aJ (ug PySem.F.plainAttrs_list PySem.F.slot_list_append PySem.F.type_list_append pI (aj (pv 0) rfl) (aa (mB T.zL (xG T) (hr.mono (by decide)) rfl T.L0 (yR T) .nil aN (aa (vA (nk hr) (aj (aj (pv 0) rfl) rfl) (pv 3) (fun _ _=>rfl)) (aa (pv 5) (aa (pv 4) ag)))) ag))))))))))))),?_⟩
  unfold vH at q
  refine ⟨_,rfl,_,rfl,_,_,_,_,_,rfl,hB.tab.obj,T.aA,T.eU,kE,L,fin,pre,rest,A'.dn,_,pt.dn,"",[],rfl,hB.pD,hB.tab.dnames ho,lit_none,?_⟩
  refine eh.intro (fun f e=>?_) fun n r0 e0 H0 w0 er0 h0 k0=>?_
  ·rw [e,aF] at q;exact fi.sub q Kp.refl one_sub
  rw [e0,aL] at q
  obtain ⟨hnn,hnew,_⟩:=nu e0
  dsimp only at q hnn hnew
  have hB0:=hB.line k0 h0
  have k0':Kp (L.l :: A'.all) H H0:=k0.mono one_sub
  refine ⟨_,rfl,_,_,_,_,_,rfl,hB0.tab.obj,T.aA,T.eU,kE,_,rfl,_,_,rfl,Dn.k (k:=Sum.inr (gD n)) hB0.tab.dn (by unfold Bv;rw [List.length_map];exact Nat.lt_trans ho.sz.2.2.2.2.1 (by decide)),?_⟩
  rw [D9 ho.dn hnew]
  have kk1:Kp A'.all H0 (upd H0 A'.dn (.dK (Bv (pt.dn ++ [n])))):=Kp.wr (by unfold TA.all;simp)
  have hB1:=hB0.table kk1 (hB0.tab.Rc _)
  have k1':=k0'.trans (kk1.mono jz)
  have ho1:=ho.Rl hnn (by have:=hsm;unfold Sm at this;omega)
  have p1:upd H0 A'.dn (.dK (Bv (pt.dn ++ [n]))) A'.pl = H A'.pl:=by rw [ai (ay hB.tab.nd 9 8 rfl rfl (by decide))];exact hB.Qn k0
  generalize upd H0 A'.dn (.dK (Bv (pt.dn ++ [n]))) = H1 at hB1 k1' p1 ⊢
  clear kk1
  refine ⟨_,rfl,L,fin,_,r0,"by",_,rfl,hB1.pD,Px,?_⟩
  refine eh.intro (fun f e=>?_) fun u r2 e2 H2 w2 er2 h2 k2=>?_
  ·rw [iU e,aF] at q;exact fi.sub q k1' one_sub
  obtain ⟨m2,em2,eu2⟩:=lu e2
  cases eu2
  rw [em2,aL] at q
  have hB2:=hB1.line k2 h2
  have p2:=(hB1.Qn k2).trans p1
  have k2':=k1'.trans (k2.mono one_sub)
  refine ⟨_,rfl,_,rfl,A',_,L,fin,_,r2,rfl,hB2,ho1,?_⟩
  refine AX.intro (fun f e=>?_) fun c pt3 r3 e3 H3 pre3 hB3 k3 pl3=>?_
  ·rw [e,aF] at q;exact fi.to q k2'
  rw [e3,aL] at q
  obtain ⟨hcm,hcn,ept3⟩:=yz e3
  have ho3:kq pt3:=by rw [ept3];exact ho1.busy hcn (by have:=hsm;unfold Sm at this;dsimp only;omega)
  have hcm3:c ∈ pt3.co.ps.map (·.1):=by rw [ept3];exact hcm
  have hh3:pt3.held.length < 900:=by rw [ept3];exact hsm.2.2.2.2.2.1
  have k3':=k2'.trans k3
  have p3:=pl3.trans p2
  have pp3:pt3.bt = pt.bt:=by rw [ept3]
  dsimp only at q
  refine ⟨_,rfl,L,fin,_,r3,"holds",_,rfl,hB3.pD,Kx,?_⟩
  refine eh.intro (fun f e=>?_) fun u r4 e4 H4 w4 er4 h4 k4=>?_
  ·rw [iU e,aF] at q;exact fi.sub q k3' one_sub
  obtain ⟨m4,em4,eu4⟩:=lu e4
  cases eu4
  rw [em4,aL] at q
  have hB4:=hB3.line k4 h4
  have p4:=(hB3.Qn k4).trans p3
  have k4':=k3'.trans (k4.mono one_sub)
  refine ⟨_,rfl,_,rfl,A',pt3,L,fin,_,r4,rfl,hB4,ho3,?_⟩
  refine AX.intro (fun f e=>?_) fun p pt5 r5 e5 H5 pre5 hB5 k5 pl5=>?_
  ·rw [e,aF] at q;exact fi.to q k4'
  rw [e5,aL] at q
  obtain ⟨hn5,hnn5,ept5⟩:=yA e5
  have ho5:kq pt5:=by rw [ept5];exact ho3.held hnn5 (by omega)
  have k5':=k4'.trans k5
  have p5:=pl5.trans p4
  dsimp only at q
  refine ⟨(by show 1<=sizeLine;decide),fun sp hsp=>?_⟩
  have ap5:∀ b ∈ L.l :: A'.all,∃ o,H5 b = some o:=by
   intro b hb
   rcases List.mem_cons.mp hb with rfl | hb
   ·exact ⟨_,hB5.pD.obj⟩
   ·obtain ⟨o,e,_⟩:=hB5.tab.tags b hb;exact ⟨o,e⟩
  have nsp:H sp = none:=k5'.fresh hsp ap5
  have hns:sp ∉ L.l :: A'.all:=fun z=>by
   obtain ⟨o,e⟩:=ap5 sp z
   rw [hsp] at e;cases e
  have hnw:L.wl ≠ sp:=aw hB.pD.lst nsp
  have hna:∀ a ∈ L.as,a ≠ sp:=fun a ha=>by
   obtain ⟨o,e,_⟩:=hB.pD.tag a ha
   exact aw e nsp
  obtain ⟨as0,eas0,pls0⟩:=hB.tab.pl
  have kn:Kp [] H5 (upd H5 sp (.lst [V.int (p:Nat)])):=Kp.new hsp
  have hB6:jd T (upd H5 sp (.lst [V.int (p:Nat)])) A' pt5 L fin pre5 r5:=⟨hB5.tab.kp kn (by simp) (by simp),hB5.pD.kp kn (by simp) (by simp) (by simp),hB5.apart⟩
  refine ⟨fun m σ H'=>∃ ptx xs prex restx,σ = [some (.ref A'.t),some (.ref L.l),some (.str (gD n)),some (.str (gD c)),some (.ref sp),none]/\JE T H A' L fin sp (cS fin 7 pt5 [p] r5) pt3.held.length pt3.co.ps pt3.mo pt.bt m H' ptx xs prex restx,⟨7,pt5,[p],pre5,r5,rfl,?_⟩,?_⟩
  ·refine ⟨hB6,af,nsp,by simp,rfl,k5'.trans (kn.mono (by simp)),rfl,ho5,?_,?_,?_,?_,?_⟩
   ·rw [ept5];dsimp only;rw [List.length_append];simp
   ·rw [ept5]
   ·rw [ept5]
   ·rw [ai (fun z=>hns (by rw [←z];unfold TA.all;simp))];exact p5
   ·rw [ept5];exact pp3
  ·rintro m σ H' ⟨ptx,xs,prex,restx,rfl,tu⟩
   have hlen:QE K (V.ref sp) H' xs.length:=.inl ⟨_,dj.of tu.lst,by rw [List.length_map]⟩
   refine A1 (Gx xs restx) (fun Qc hq=>?_) ?_
   ·refine ⟨_,rfl,_,_,_,rfl,tu.both.pD.obj,fS,L,fin,_,restx,rfl,tu.both.pD,_,rfl,?_⟩
    cases restx with
    | nil=>exact aM hq
    | cons w5 r6 =>
     refine aQ ⟨_,rfl,_,_,rfl,hlen,_,_,rfl,rfl,_,rfl,?_⟩
     have hq:Qc (decide (xs.length < 8) && !decide (w5.w = Tilt.DRAIN)) H':=hq
     by_cases y:xs.length < 8
     ·rw [decide_eq_true (show ((xs.length:Nat):Int) < 8 by omega)]
      rw [decide_eq_true y,Bool.true_and] at hq
      refine aQ ⟨_,rfl,_,_,_,rfl,tu.both.pD.obj,BG,L,fin,_,r6,w5,"drain",_,rfl,tu.both.pD,xC,_,rfl,?_⟩
      exact hq
     ·rw [decide_eq_false (show ¬ ((xs.length:Nat):Int) < 8 by omega)]
      rw [decide_eq_false y,Bool.false_and] at hq
      exact aM hq
   ·cases y:Gx xs restx with
    | true =>
     obtain ⟨w6,r6,m',rfl,rfl,hdr⟩:=Iq y tu.cnt
     refine aQ ⟨fun σ' H'=>∃ ptx xs prex restx,σ' = [some (.ref A'.t),some (.ref L.l),some (.str (gD n)),some (.str (gD c)),some (.ref sp),none]/\JE T H A' L fin sp (cS fin 7 pt5 [p] r5) pt3.held.length pt3.co.ps pt3.mo pt.bt m' H' ptx xs prex restx,fun σ' H' z=>⟨m',Nat.lt_succ_self _,z⟩,?_⟩
     refine ⟨_,rfl,.inl ⟨rfl,_,dj.of tu.lst⟩,_,rfl,_,rfl,A',ptx,L,fin,prex,w6 :: r6,rfl,tu.both,tu.ok,?_⟩
     have em:cS fin (m' + 1) ptx xs (w6 :: r6) = (gM fin ptx (w6 :: r6) >>= fun x=>cS fin m' x.1.2 (xs ++ [x.1.1]) x.2):=by
      show (if w6.w = Tilt.DRAIN then _ else _) = _
      rw [if_neg hdr]
     refine AX.intro (fun f e=>?_) fun p7 pt7 r7 e7 H7 pre7 hB7 k7 pl7=>?_
     ·rw [tu.eq,em,e,aF,aF] at q;exact fi.to q tu.kp
     obtain ⟨n7,hn7,ept7⟩:=yA e7
     have hl7:H7 sp = some (.lst (xs.map fun (n:Nat)=>V.int n)):=k7 _ _ tu.lst hns
     refine ⟨sp,_,_,rfl,rfl,hl7,?_,?_⟩
     ·rw [List.length_map];have:=tu.cnt;exact Nat.lt_of_le_of_lt (by omega:xs.length<=8) (by decide)
     ·have k8:Kp [sp] H7 (upd H7 sp (.lst ((xs.map fun (n:Nat)=>V.int n) ++ [V.int (p7:Nat)]))):=Kp.wr (by simp)
      have k9:Kp (L.l :: A'.all) H (upd H7 sp (.lst ((xs.map fun (n:Nat)=>V.int n) ++ [V.int (p7:Nat)]))):=(tu.kp.trans k7).Ou tu.new
      have ep7:pt7.bt = pt.bt:=by rw [ept7];exact tu.Tc
      have hns':∀ b ∈ A'.all,b ∉ [sp]:=fun b hb z=>hns (by rw [←List.mem_singleton.mp z];exact List.mem_cons_of_mem _ hb)
      refine ⟨pt7,xs ++ [p7],pre7,r7,rfl,?_,?_,tu.new,by simp,?_,?_,?_,?_,?_,?_,?_,?_,?_⟩
      ·refine ⟨hB7.tab.rest k8 hns' (as:=as0) (by rw [pl7,tu.pl];exact eas0) (by rw [ep7];exact pls0.kp k9 hB.safe),hB7.pD.kp k8 (fun z=>hns (by rw [←List.mem_singleton.mp z];exact List.mem_cons_self ..)) (fun z=>hnw (List.mem_singleton.mp z)) (fun a ha z=>hna a ha (List.mem_singleton.mp z)),hB7.apart⟩
      ·rw [af,List.map_append];rfl
      ·have:=tu.cnt;rw [List.length_append,List.length_singleton];omega
      ·exact k9
      ·rw [tu.eq,em,e7,aL]
      ·rw [ept7];exact tu.ok.held hn7 (by have:=tu.hz;have:=tu.cnt;omega)
      ·rw [ept7];dsimp only;rw [List.length_append,List.length_append,List.length_singleton,List.length_singleton];have:=tu.hz;omega
      ·rw [ept7];exact tu.co
      ·rw [ept7];exact tu.mo
      ·rw [ai (fun z=>hns (by rw [←z];unfold TA.all;simp)),pl7];exact tu.pl
      ·exact ep7
    | false =>
     have hms:=Gy (fin:=fin) (pt:=ptx) y tu.cnt
     refine aM ?_
     rw [tu.eq,hms,aL] at q
     dsimp only at q
     have hcx:c ∈ ptx.co.ps.map (·.1):=by rw [tu.co];exact hcm3
     refine ⟨_,rfl,_,_,_,rfl,tu.both.pD.obj,fS,L,fin,_,restx,rfl,tu.both.pD,_,rfl,?_⟩
     have hox:=tu.ok
     have hsz:xs.length<=8:=by have:=tu.cnt;omega
     unfold wX at q
     cases restx with
     | nil =>
      refine aM ?_
      rw [if_pos (show ([]:List Tilt.Word).isEmpty = true from rfl),aL] at q
      dsimp only at q
      have hB9:=tu.both
      have ho9:=tu.ok
      have hc9:=hcx
      have k9:=tu.kp
      have sp9:=tu.lst
      generalize H' = H9 at hB9 k9 sp9 ⊢
      obtain ⟨mm,hmm,gm⟩:=hB9.tab.Ei ho9 hc9
      refine ⟨_,rfl,_,_,_,_,_,rfl,hB9.tab.obj,T.aA,T.gz,j3,_,rfl,_,V.int (mm:Nat),rfl,gm,_,_,rfl,?_⟩
      obtain ⟨cc,hcc,gc⟩:=hB9.tab.JD ho9 hc9
      have emin:(if ((mm:Nat):Int) < 40 then ((mm:Nat):Int) else 40) = ((min 40 mm:Nat):Int):=by split <;> omega
      rw [emin]
      obtain ⟨as9,eas9,ps9⟩:=hB9.tab.pl
      refine ⟨_,rfl,_,_,_,_,_,rfl,hB9.tab.obj,T.aA,T.fb,gP,.inl ⟨rfl,_,dj.of eas9⟩,_,rfl,_,_,_,_,_,rfl,hB9.tab.obj,T.aA,T.gy,j2,_,_,_,_,_,rfl,hB9.tab.co.obj,T.eT,T.cb,cN,_,rfl,_,V.int (cc:Nat),rfl,gc,_,rfl,_,rfl,fun pa pdx hpa hpdx pne=>?_⟩
      have kA:Kp [] H9 (upd (upd H9 pdx (.own pa)) pa (.ins T.eZ pdx [])):=(Kp.new hpdx).trans (Kp.new (by rw [ai (Ne.symm pne)];exact hpa))
      refine ⟨pa,pdx,sp,cc,(min 40 mm:Nat),rfl,af,rfl,?_⟩
      rw [aW]
      have kB:Kp [] H9 (upd (upd H9 pdx (.own pa)) pa (.ins T.eZ pdx (nL cc (min 40 mm:Nat) sp))):=(Kp.new hpdx).trans (Kp.new (by rw [ai (Ne.symm pne)];exact hpa))
      have hB10:jd T _ A' _ L fin _ _:=⟨hB9.tab.kp kB (by simp) (by simp),hB9.pD.kp kB (by simp) (by simp) (by simp),hB9.apart⟩
      have hpl:di T (upd (upd H9 pdx (.own pa)) pa (.ins T.eZ pdx (nL cc (min 40 mm:Nat) sp))) pa ⟨cc,min 40 mm,xs⟩:=⟨pdx,sp,af,kB _ _ sp9 (by simp),tu.ne⟩
      refine ⟨A'.pl,_,_,rfl,rfl,kB _ _ eas9 (by simp),?_,?_⟩
      ·rw [List.length_map,ps9.len];exact Nat.lt_trans ho9.sz.2.2.2.2.2.2.2 (by decide)
      have kC:Kp A'.all (upd (upd H9 pdx (.own pa)) pa (.ins T.eZ pdx (nL cc (min 40 mm:Nat) sp))) (upd (upd (upd H9 pdx (.own pa)) pa (.ins T.eZ pdx (nL cc (min 40 mm:Nat) sp))) A'.pl (.lst (as9.map V.ref ++ [V.ref pa]))):=Kp.wr (by unfold TA.all;simp)
      rw [hmm,hcc] at q
      exact q _ _ (hB10.table kC (hB10.tab.Ot (kB _ _ eas9 (by simp)) (ps9.kp kB (by simp)) hpl)) ((k9.trans (kB.mono (by simp))).trans (kC.mono jz))
     | cons w8 r8 =>
      rw [if_neg (by simp)] at q
      refine aQ ⟨_,rfl,L,fin,_,w8 :: r8,"drain",_,rfl,tu.both.pD,xC,?_⟩
      refine eh.intro (fun f e=>?_) fun u r10 e10 H10 w10 er10 h10 k10=>?_
      ·rw [iU e,aF,aF] at q;exact fi.sub q tu.kp one_sub
      obtain ⟨m10,em10,eu10⟩:=lu e10
      cases eu10
      rw [em10,aL,aL] at q
      dsimp only at q
      have hB11:=tu.both.line k10 h10
      have sp11:=k10 _ _ tu.lst (fun z=>hns (by rw [List.mem_singleton.mp z];exact List.mem_cons_self ..))
      refine ⟨_,rfl,_,_,_,_,_,rfl,hB11.tab.obj,T.aA,T.ju,pY,_,rfl,_,_,rfl,.inl ⟨_,dj.of sp11,rfl⟩,_,_,rfl,rfl,_,_,hB11.tab.obj,pX,?_⟩
      rw [xp,List.length_map,show ((ptx.drained:Nat):Int) + ((xs.length:Nat):Int) = ((ptx.drained + xs.length:Nat):Int) from rfl]
      have kk:Kp A'.all H10 (upd H10 A'.t (.ins T.aS A'.Oo (bR ptx.rank (ptx.balls:Nat) A'.sw A'.la A'.co A'.mo A'.dn A'.pl A'.he A'.bu ((ptx.drained + xs.length:Nat):Int) (ptx.kicks:Nat) ptx.tS))):=Kp.wr (by unfold TA.all;simp)
      have hB9:=hB11.table kk (hB11.tab.Kz ptx.rank ptx.balls (ptx.drained + xs.length) ptx.kicks ptx.tS)
      have ho9:kq { ptx with drained:=ptx.drained + xs.length }:=⟨hox.sw,hox.la,hox.co,hox.mo,hox.dn,hox.he,hox.bu,hox.sz,hox.cm⟩
      have hc9:=hcx
      have k9:=(tu.kp.trans (k10.mono one_sub)).trans (kk.mono jz)
      have sp9:=kk _ _ sp11 (fun z=>hns (List.mem_cons_of_mem _ z))
      generalize upd H10 A'.t (.ins T.aS A'.Oo (bR ptx.rank (ptx.balls:Nat) A'.sw A'.la A'.co A'.mo A'.dn A'.pl A'.he A'.bu ((ptx.drained + xs.length:Nat):Int) (ptx.kicks:Nat) ptx.tS)) = H9 at hB9 k9 sp9 ⊢
      obtain ⟨mm,hmm,gm⟩:=hB9.tab.Ei ho9 hc9
      refine ⟨_,rfl,_,_,_,_,_,rfl,hB9.tab.obj,T.aA,T.gz,j3,_,rfl,_,V.int (mm:Nat),rfl,gm,_,_,rfl,?_⟩
      obtain ⟨cc,hcc,gc⟩:=hB9.tab.JD ho9 hc9
      have emin:(if ((mm:Nat):Int) < 40 then ((mm:Nat):Int) else 40) = ((min 40 mm:Nat):Int):=by split <;> omega
      rw [emin]
      obtain ⟨as9,eas9,ps9⟩:=hB9.tab.pl
      refine ⟨_,rfl,_,_,_,_,_,rfl,hB9.tab.obj,T.aA,T.fb,gP,.inl ⟨rfl,_,dj.of eas9⟩,_,rfl,_,_,_,_,_,rfl,hB9.tab.obj,T.aA,T.gy,j2,_,_,_,_,_,rfl,hB9.tab.co.obj,T.eT,T.cb,cN,_,rfl,_,V.int (cc:Nat),rfl,gc,_,rfl,_,rfl,fun pa pdx hpa hpdx pne=>?_⟩
      have kA:Kp [] H9 (upd (upd H9 pdx (.own pa)) pa (.ins T.eZ pdx [])):=(Kp.new hpdx).trans (Kp.new (by rw [ai (Ne.symm pne)];exact hpa))
      refine ⟨pa,pdx,sp,cc,(min 40 mm:Nat),rfl,af,rfl,?_⟩
      rw [aW]
      have kB:Kp [] H9 (upd (upd H9 pdx (.own pa)) pa (.ins T.eZ pdx (nL cc (min 40 mm:Nat) sp))):=(Kp.new hpdx).trans (Kp.new (by rw [ai (Ne.symm pne)];exact hpa))
      have hB10:jd T _ A' _ L fin _ _:=⟨hB9.tab.kp kB (by simp) (by simp),hB9.pD.kp kB (by simp) (by simp) (by simp),hB9.apart⟩
      have hpl:di T (upd (upd H9 pdx (.own pa)) pa (.ins T.eZ pdx (nL cc (min 40 mm:Nat) sp))) pa ⟨cc,min 40 mm,xs⟩:=⟨pdx,sp,af,kB _ _ sp9 (by simp),tu.ne⟩
      refine ⟨A'.pl,_,_,rfl,rfl,kB _ _ eas9 (by simp),?_,?_⟩
      ·rw [List.length_map,ps9.len];exact Nat.lt_trans ho9.sz.2.2.2.2.2.2.2 (by decide)
      have kC:Kp A'.all (upd (upd H9 pdx (.own pa)) pa (.ins T.eZ pdx (nL cc (min 40 mm:Nat) sp))) (upd (upd (upd H9 pdx (.own pa)) pa (.ins T.eZ pdx (nL cc (min 40 mm:Nat) sp))) A'.pl (.lst (as9.map V.ref ++ [V.ref pa]))):=Kp.wr (by unfold TA.all;simp)
      rw [hmm,hcc] at q
      exact q _ _ (hB10.table kC (hB10.tab.Ot (kB _ _ eas9 (by simp)) (ps9.kp kB (by simp)) hpl)) ((k9.trans (kB.mono (by simp))).trans (kC.mono jz))
end Pb
namespace Pb
open PySem PySem.Spec PyProof.Rows L2
theorem wL {i j:Int} (h:i = j):decide (V.int i = V.int j) = true:=by rw [h];simp
theorem rq {i j:Int} (h:¬ i = j):decide (V.int i = V.int j) = false:=by rw [Df];simpa using h
theorem Si {s:Str} {b w:Tilt.Bytes} (h:Lit s b):decide (V.str (gD w) = V.str s) = decide (w = b):=by
 rw [sU]
 by_cases z:w = b
 ·rw [decide_eq_true z,(h w).mpr z];simp
 ·rw [decide_eq_false z];simpa using fun y=>z ((h w).mp y)
section
variable {K:PySem.W.Frag} {mg:Str->Option Value}
noncomputable def Gz (T:Txt K mg):Sp:=fun vs H Q _=>∃ (A:TA) (pt:PT) (j:Nat),vs = [.ref A.t,.int (j:Nat)]/\TableAt T H A pt/\Q (.bl (je pt j)) H
noncomputable def Ek (T:Txt K mg):Sp:=fun vs H Q E=>∃ (A:TA) (pt:PT) (L:LA) (fin:Nat) (pre rest:List Tilt.Word),vs = [.ref A.t,.ref L.l]/\jd T H A pt L fin pre rest/\eh T H L fin pre rest E (pQ fin pt rest) fun j H'=>Q (.int (j:Nat)) H'
noncomputable def El (T:Txt K mg):Sp:=fun vs H Q E=>∃ (A:TA) (pt:PT) (L:LA) (fin:Nat) (words:List Tilt.Word),vs = [.ref A.t,.ref L.l]/\jd T H A pt L fin [] words/\kq pt/\Sm pt/\(match Aq pt ⟨words,fin⟩ with
 | .error f=>fi T (L.l :: A.all) H E f
 | .ok pt'=>∀ H' pre',jd T H' A pt' L fin pre' []->Kp (L.l :: A.all) H H'->Q .fR H')
noncomputable def vc:List V:=[V.str "table",V.str "switch",V.str "lamp",V.str "coil",V.str "device",V.str "kick"]
theorem tR {w:Tilt.Bytes} {j:Nat} {n:String} (hn:Tilt.SORTS[j]? = some n) (h:bo (Tilt.ascii n) = some j):bo w = some j ↔ w = Tilt.ascii n:=by
 constructor
 ·intro h
  obtain ⟨h0,h1,_⟩:=List.findIdx?_eq_some_iff_getElem.mp h
  rw [List.getElem?_eq_getElem h0] at hn
  rw [←Option.some.inj hn]
  exact (eq_of_beq h1).symm
 ·intro e
  rw [e];exact h
theorem Ng:∀ (i:Nat) (x:V),vc[i]? = some x->∃ s b,x = .str s/\Lit s b/\∀ w,bo w = some i ↔ w = b
 | 0,x,h=>⟨"table",Tilt.ascii "table",(Option.some.inj h).symm,fc (by decide +kernel) (by decide +kernel),fun w=>tR (n:="table") rfl (by decide +kernel)⟩
 | 1,x,h=>⟨"switch",Tilt.ascii "switch",(Option.some.inj h).symm,fc (by decide +kernel) (by decide +kernel),fun w=>tR (n:="switch") rfl (by decide +kernel)⟩
 | 2,x,h=>⟨"lamp",Tilt.ascii "lamp",(Option.some.inj h).symm,fc (by decide +kernel) (by decide +kernel),fun w=>tR (n:="lamp") rfl (by decide +kernel)⟩
 | 3,x,h=>⟨"coil",Tilt.ascii "coil",(Option.some.inj h).symm,fc (by decide +kernel) (by decide +kernel),fun w=>tR (n:="coil") rfl (by decide +kernel)⟩
 | 4,x,h=>⟨"device",Tilt.ascii "device",(Option.some.inj h).symm,fc (by decide +kernel) (by decide +kernel),fun w=>tR (n:="device") rfl (by decide +kernel)⟩
 | 5,x,h=>⟨"kick",Tilt.ascii "kick",(Option.some.inj h).symm,fc (by decide +kernel) (by decide +kernel),fun w=>tR (n:="kick") rfl (by decide +kernel)⟩
 | _ + 6,x,h=>by cases h
end
theorem GB {P:Program} {w:World} {K:PySem.W.Frag} {mg:Str->Option Value} {base:Heap} (T:Txt K mg):a8 P w K mg base kD 1 T.qI T.jR ["table","rank"] (Gz T):=by
 refine T.g7.ok F1 (fun vs H Q E h=>?_) (fun cdv A outer s H vs Q E hr h=>?_)
 ·obtain ⟨A,pt,j,rfl,_⟩:=h
  rfl
 ·obtain ⟨A',pt,j,rfl,hT,q⟩:=h
  refine ⟨_,(ae (aY (aI dX (aj (pv 0) rfl) (iV rfl T.hJ) (aG _)) (ah (aE (cR dX (pv 1) (iV rfl T.AM) (aG _)))) aC)
   (ae (aY (PW.pt (zX (aI dX (pv 1) (iV rfl T.AM) (aG _)) (uD (aI pF (pv 1) (aj (pv 0) rfl) (aG _))))) (ah (aE rA)) aC)
   (ae (aY (aI dX (pv 1) (iV rfl T.jw) (aG _)) (ah (aE (cR pF (aZ bX (by rfl) T.gK PySem.boot_len (aa (aj (pv 0) rfl) ag)) (iV rfl T.kl) (aG _)))) aC)
   (ae (aY (aI dX (pv 1) (iV rfl T.DZ) (aG _)) (ah (aE (cR pF (aj (pv 0) rfl) (iV rfl T.mV) (aG _)))) aC)
   (ah (aE rA)))))),?_⟩
  unfold je at q
  refine ⟨_,rfl,_,_,_,_,_,rfl,hT.obj,T.aA,T.iR,pk,rfl,_,rfl,?_⟩
  by_cases h0:pt.rank = -1
  ·rw [wL h0]
   rw [if_pos h0] at q
   refine aQ ⟨_,rfl,rfl,?_⟩
   by_cases hj:j = 0
   ·subst hj;exact q
   ·rw [rq (by omega)]
    rw [show (j == 0) = false by simpa using hj] at q
    exact q
  ·rw [rq h0]
   rw [if_neg h0] at q
   refine aM ⟨_,rfl,rfl,_,rfl,?_⟩
   by_cases hj:j = 0
   ·rw [wL (by omega)]
    rw [if_pos (.inl hj)] at q
    exact aQ (aQ q)
   ·rw [rq (by omega)]
    refine aM ⟨_,rfl,_,rfl,_,_,_,_,_,rfl,hT.obj,T.aA,T.iR,pk,_,_,rfl,rfl,_,rfl,?_⟩
    by_cases hr2:(j:Int) < pt.rank
    ·rw [decide_eq_true hr2]
     rw [if_pos (.inr hr2)] at q
     exact aQ q
    ·rw [decide_eq_false hr2]
     rw [if_neg (by rintro (z | z);exact hj z;exact hr2 z)] at q
     refine aM ⟨_,rfl,rfl,_,rfl,?_⟩
     by_cases h4:j = 4
     ·rw [wL (by omega)]
      rw [if_pos h4] at q
      obtain ⟨as,e,ps⟩:=hT.pl
      refine aQ ⟨_,rfl,_,_,_,_,_,rfl,hT.obj,T.aA,T.fb,gP,_,_,rfl,.inl ⟨_,dj.of e,rfl⟩,_,_,rfl,rfl,?_⟩
      rw [List.length_map,ps.len]
      dsimp only
      by_cases z:pt.bt.length < 8
      ·rw [decide_eq_true z] at q;rw [decide_eq_true (show ((pt.bt.length:Nat):Int) < 8 by omega)];exact q
      ·rw [decide_eq_false z] at q;rw [decide_eq_false (show ¬ ((pt.bt.length:Nat):Int) < 8 by omega)];exact q
     ·rw [rq (by omega)]
      rw [if_neg h4] at q
      refine aM ⟨_,rfl,rfl,_,rfl,?_⟩
      by_cases h5:j = 5
      ·rw [wL (by omega)]
       rw [if_pos h5] at q
       refine aQ ⟨_,rfl,_,_,_,_,_,rfl,hT.obj,T.aA,T.jb,nM,_,_,rfl,rfl,?_⟩
       dsimp only
       by_cases z:pt.kicks < 8
       ·rw [decide_eq_true z] at q;rw [decide_eq_true (show ((pt.kicks:Nat):Int) < 8 by omega)];exact q
       ·rw [decide_eq_false z] at q;rw [decide_eq_false (show ¬ ((pt.kicks:Nat):Int) < 8 by omega)];exact q
      ·rw [rq (by omega)]
       rw [if_neg h5] at q
       exact aM q
theorem Em {P:Program} {w:World} {K:PySem.W.Frag} {mg:Str->Option Value} {base:Heap} (T:Txt K mg):a8 P w K mg base (uh P w) 4 T.oB T.iL ["table","line"] (Ek T):=by
 refine T.fN.tU mF (fun vs H Q E h=>?_) (fun cdv A outer s H vs Q E hr h=>?_)
 ·obtain ⟨A,pt,L,fin,pre,rest,rfl,_⟩:=h
  rfl
 ·obtain ⟨A',pt,L,fin,pre,rest,rfl,hB,q⟩:=h
  refine ⟨_,(ae (aR (i:=2) mF.nd rfl (Or.inl rfl) (bg (pv 1) T.a7 T.j7 (mY T) (hr.mono (by decide)) (oQ T) .nil (bC bq)))
   (ae (qk bq.own rfl (LK rfl T.jS (aa (iV rfl T.zS) ag)) (Ht rfl (pE (d7 (i:=3) mF.nd rfl (Or.inl rfl)) (pE (d7 (i:=4) mF.nd rfl (Or.inl rfl)) De))) (ah (aY (PW.pt (uE (aI dX (aj (pv 2) rfl) (pv 4) (aG _)) (sS (bQ (aq (GB T) (hr.mono (by decide)) rfl T.AK T.g7.kp (Ih T) .nil aN (aa (pv 0) (aa (pv 3) ag))) (fun _=>rfl))))) (ah (aE (pv 3))) aC)))
   (ah (bF bq rfl T.xc (az T) (hr.mono (by decide)) rfl T.bZ (aB T) (aa ao (aa (aj (pv 2) rfl) ag)))))),?_⟩
  refine ⟨_,rfl,_,_,_,rfl,hB.pD.obj,mI,L,fin,pre,rest,rfl,hB.pD,?_⟩
  cases rest with
  | nil=>exact q
  | cons w r =>
   intro a H1 hw h1 k1
   have hB1:=hB.line k1 h1
   refine ⟨T.zH,vc,rfl,T.qQ _,?_⟩
   refine Jp (n:=6) (fun i σ H2=>(∃ u v,σ = [some (.ref A'.t),some (.ref L.l),some (.ref a),u,v])/\bc H1 H2/\∀ j,j < i->¬ (bo w.w = some j/\je pt j = true)) ⟨⟨_,_,rfl⟩,bc.refl _,fun j hj=>by omega⟩ ?_ ?_ ?_ ?_
   ·intro i σ H2 hi _
    have hlt:i < vc.length:=hi
    exact ⟨vc,vc[i],T.qQ _,List.getElem?_eq_getElem hlt⟩
   ·intro σ H2 _
    exact ⟨vc,T.qQ _,Nat.le_refl _⟩
   ·rintro i σ H2 x H3 hi ⟨⟨u,v,rfl⟩,s2,inv⟩ ⟨tu,y,rfl,htu,rfl,hy⟩
    obtain ⟨s,b,rfl,hlit,hrk⟩:=Ng i y (hy vc (T.qQ _))
    have s3:bc H1 (upd H2 tu (.tup [V.int (i:Nat),V.str s])):=s2.trans (Kp.same (Kp.new htu))
    refine ⟨tu,_,rfl,yD.of af,rfl,_,_,rfl,_,_,rfl,rfl,?_⟩
    have hw3:sL T (upd H2 tu (.tup [V.int (i:Nat),V.str s])) a w:=let ⟨dx,e⟩:=hw;⟨dx,s3 _ _ e⟩
    obtain ⟨dx,ew⟩:=hw3
    have k3:Kp [] H1 (upd H2 tu (.tup [V.int (i:Nat),V.str s])):=Kp.of_same s3
    have hB3:jd T (upd H2 tu (.tup [V.int (i:Nat),V.str s])) A' pt L fin (pre ++ [w]) r:=⟨hB1.tab.kp k3 (by simp) (by simp),hB1.pD.kp k3 (by simp) (by simp) (by simp),hB1.apart⟩
    refine ⟨_,rfl,_,_,_,_,_,rfl,ew,T.bU,T.bw,bK,_,rfl,rfl,_,rfl,?_⟩
    rw [Si hlit]
    by_cases z:w.w = b
    ·rw [decide_eq_true z]
     have hz:=(hrk w.w).mpr z
     refine aQ ⟨_,rfl,_,rfl,A',pt,i,rfl,hB3.tab,_,rfl,?_⟩
     cases hc:je pt i with
     | true =>
      refine aQ ⟨_,rfl,?_⟩
      unfold pQ at q
      dsimp only at q
      rw [hz] at q
      dsimp only at q
      rw [if_pos hc] at q
      exact q _ w rfl hB3.pD (k1.trans (k3.mono (by simp)))
     | false =>
      refine aM ⟨⟨_,_,rfl⟩,s3,fun j hj=>?_⟩
      rintro ⟨e1,e2⟩
      by_cases hji:j = i
      ·rw [hji,hc] at e2;cases e2
      ·exact inv j (by omega) ⟨e1,e2⟩
    ·rw [decide_eq_false z]
     refine aM (aM ⟨⟨_,_,rfl⟩,s3,fun j hj=>?_⟩)
     rintro ⟨e1,e2⟩
     by_cases hji:j = i
     ·rw [hji] at e1;exact z ((hrk w.w).mp e1)
     ·exact inv j (by omega) ⟨e1,e2⟩
   ·rintro σ H2 ⟨⟨u,v,rfl⟩,s2,inv⟩
    obtain ⟨dx,ew⟩:sL T H2 a w:=let ⟨dx,e⟩:=hw;⟨dx,s2 _ _ e⟩
    refine ⟨_,rfl,_,_,_,_,_,rfl,ew,T.bU,T.bp,bx,?_⟩
    have qb:fi T [L.l] H E ⟨3,w.at_⟩:=by
     unfold pQ at q
     dsimp only at q
     cases hz:bo w.w with
     | none=>rw [hz] at q;exact q
     | some j =>
      rw [hz] at q
      dsimp only at q
      rw [if_neg (fun y=>inv j (DF hz) ⟨hz,y⟩)] at q
      exact q
    exact bj (k:=3) (qb.kp (k1.trans (Kp.of_same s2)) (fun _ h=>h))
section
variable {K:PySem.W.Frag} {mg:Str->Option Value}
noncomputable def En (T:Txt K mg):Nat->Addr
 | 0=>T.gY
 | 1=>T.e8
 | 2=>T.gZ
 | 3=>T.g5
 | 4=>T.e9
 | _=>T.g6
noncomputable def Td (T:Txt K mg) (f:Addr) (sp:Sp):Prop:=∃ j,f = En T j/\sp = vb T (reader j)
theorem KC {P:Program} {w:World} {base:Heap} (T:Txt K mg) {A:Around} (hr:iZ 7 A):∀ f sp,Td T f sp->∃ (k:Nat) (fd:FuncData) (ps:List Str),a8 P w K mg base (uh P w) k f fd ps sp/\iZ k A/\PySem.W.keepIn K (.ref f) = true/\Binds K fd ps []:=by
 rintro f sp ⟨j,rfl,rfl⟩
 match j with
 | 0=>exact ⟨5,_,_,Ef T,hr.mono (by decide),T.fJ.kp,Gg T⟩
 | 1=>exact ⟨7,_,_,A0 T,hr,T.dC.kp,BQ T⟩
 | 2=>exact ⟨7,_,_,Eg T,hr,T.fK.kp,Gh T⟩
 | 3=>exact ⟨7,_,_,Eh T,hr,T.fL.kp,Gi T⟩
 | 4=>exact ⟨7,_,_,A2 T,hr,T.dD.kp,BR T⟩
 | _ + 5=>exact ⟨7,_,_,Ej T,hr,T.fM.kp,Gj T⟩
theorem Ir (T:Txt K mg):∀ j,j < 6->[V.ref T.gY,V.ref T.e8,V.ref T.gZ,V.ref T.g5,V.ref T.e9,V.ref T.g6][j]? = some (.ref (En T j))
 | 0,_=>rfl
 | 1,_=>rfl
 | 2,_=>rfl
 | 3,_=>rfl
 | 4,_=>rfl
 | 5,_=>rfl
 | _ + 6,h=>by omega
theorem GC {e:Nat} {pt:PT} {l:List Tilt.Word} {j:Nat} {r:List Tilt.Word} (h:pQ e pt l = .ok (j,r)):j < 6:=by
 cases l with
 | nil=>cases h
 | cons w l =>
  unfold pQ at h
  dsimp only at h
  cases hz:bo w.w with
  | none=>rw [hz] at h;cases h
  | some i =>
   rw [hz] at h
   dsimp only at h
   split at h
   ·cases h;exact DF hz
   ·cases h
end
theorem Eo {P:Program} {w:World} {K:PySem.W.Frag} {mg:Str->Option Value} {base:Heap} (T:Txt K mg):a8 P w K mg base (uh P w) 8 T.oC T.iM ["table","line"] (El T):=by
 refine T.fO.tU vT (fun vs H Q E h=>?_) (fun cdv A outer s H vs Q E hr h=>?_)
 ·obtain ⟨A,pt,L,fin,words,rfl,_⟩:=h
  rfl
 ·obtain ⟨A',pt,L,fin,words,rfl,hB,ho,hsm,q⟩:=h
  refine ⟨_,(ae (aH (pv 0) (aq (Em T) (hr.mono (by decide)) rfl T.yw T.fN.kp (Gk T) .nil (bC bq) (aa (pv 0) (aa (pv 1) ag))) rfl)
   (ae (aR (i:=2) vT.nd rfl (Or.inl rfl) (kz OY (iV rfl T.tP) (aj (pv 0) rfl) (fun _ _=>rfl)))
   (ae (aJ (LJ (KC T hr) (pv 2) (bC bq) (aa (pv 0) (aa (pv 1) ag))))
   (ah (aJ (aq (Gu T) (hr.mono (by decide)) rfl T.AJ T.gX.kp (Ig T) .nil (bC bq) (aa (pv 1) ag))))))),?_⟩
  unfold Aq at q
  refine ⟨_,rfl,_,rfl,A',pt,L,fin,[],words,rfl,hB,?_⟩
  refine eh.intro (fun f e=>?_) fun j r1 e1 H1 w1 er1 h1 k1=>?_
  ·dsimp only at q;rw [e,aF] at q;exact fi.sub q Kp.refl one_sub
  dsimp only at q
  rw [e1,aL] at q
  dsimp only at q
  have hj:=GC e1
  have hB1:=hB.line k1 h1
  have k1':Kp (L.l :: A'.all) H H1:=k1.mono one_sub
  refine ⟨_,rfl,_,_,_,_,rfl,hB1.tab.obj,T.aA,T.iR,pX,?_⟩
  rw [BJ]
  have kk:Kp A'.all H1 (upd H1 A'.t (.ins T.aS A'.Oo (bR (j:Nat) (pt.balls:Nat) A'.sw A'.la A'.co A'.mo A'.dn A'.pl A'.he A'.bu (pt.drained:Nat) (pt.kicks:Nat) pt.tS))):=Kp.wr (by unfold TA.all;simp)
  have hB2:=hB1.table kk (hB1.tab.Kz (j:Nat) pt.balls pt.drained pt.kicks pt.tS)
  have k2':=k1'.trans (kk.mono jz)
  have ho2:kq { pt with rank:=(j:Nat),balls:=pt.balls,drained:=pt.drained,kicks:=pt.kicks,tS:=pt.tS }:=⟨ho.sw,ho.la,ho.co,ho.mo,ho.dn,ho.he,ho.bu,ho.sz,ho.cm⟩
  have hs2:Sm { pt with rank:=(j:Nat),balls:=pt.balls,drained:=pt.drained,kicks:=pt.kicks,tS:=pt.tS }:=hsm
  refine ⟨_,rfl,_,_,_,_,_,rfl,hB2.tab.obj,T.aA,T.iR,pk,_,_,_,_,rfl,rfl,T.tQ _,mC (Ir T j hj),?_⟩
  refine ⟨_,rfl,En T j,_,rfl,⟨j,rfl,rfl⟩,_,rfl,_,rfl,A',_,L,fin,_,r1,rfl,hB2,ho2,hs2,?_⟩
  cases e3:reader j fin { pt with rank:=(j:Nat),balls:=pt.balls,drained:=pt.drained,kicks:=pt.kicks,tS:=pt.tS } r1 with
  | error f=>rw [show reader j fin { pt with rank:=(j:Nat) } r1 = _ from e3,aF] at q;exact fi.to q k2'
  | ok x =>
   obtain ⟨pt3,r3⟩:=x
   rw [show reader j fin { pt with rank:=(j:Nat) } r1 = _ from e3,aL] at q
   intro H3 pre3 hB3 k3
   refine ⟨_,rfl,L,fin,pre3,r3,rfl,hB3.pD,?_⟩
   cases r3 with
   | nil=>exact q _ _ hB3 (k2'.trans k3)
   | cons w4 r4=>exact fi.sub q (k2'.trans k3) (by simp)
end Pb
namespace Pb
open PySem PySem.Spec PyProof.Rows L2
noncomputable def bv (b:Tilt.Bytes):List V:=b.map fun c=>V.int ((c.toNat:Nat):Int)
theorem qX (b:Tilt.Bytes):(bv b).length = b.length:=by unfold bv;rw [List.length_map]
theorem A3 {b:Tilt.Bytes} {i:Nat} {c:UInt8} (h:b[i]? = some c):(bv b)[i]? = some (.int ((c.toNat:Nat):Int)):=by unfold bv;rw [List.getElem?_map,h];rfl
theorem Rm {c:UInt8} {n:Nat} (hn:n < 256):((c.toNat:Nat):Int) = (n:Nat) ↔ c = UInt8.ofNat n:=by
 constructor
 ·intro h
  have h:c.toNat = n:=by omega
  rw [←h]
  exact (UInt8.ofNat_toNat (x:=c)).symm
 ·intro h
  rw [h,UInt8.toNat_ofNat_of_lt' hn]
theorem Ov {c:UInt8} {k:Int} (n:Nat) (e:k = (n:Nat)) (hn:n < 256):((c.toNat:Nat):Int) = k ↔ c = UInt8.ofNat n:=by rw [e];exact Rm hn
structure Lies (b:Tilt.Bytes) (p:Nat) (l:Tilt.Bytes):Prop where
 at_:∀ i,i < l.length->b[p + i]? = l[i]?
 le:p + l.length<=b.length
 sz:b.length<=16384
section
variable {K:PySem.W.Frag} {mg:Str->Option Value}
noncomputable def GD (T:Txt K mg):Sp:=fun vs H Q E=>∃ (tx:Addr) (b:Tilt.Bytes) (p:Nat),vs = [.ref tx,.int (p:Nat)]/\H tx = some (.lst (bv b))/\b.length<=16384/\p<=b.length/\(match Tilt.upTo (b.drop p) with
 | none=>fi T [] H E ⟨1,b.length⟩
 | some (l,_)=>Q (.int ((p + l.length:Nat):Int)) H)
noncomputable def GF (T:Txt K mg):Sp:=fun vs H Q _=>∃ (tx:Addr) (b:Tilt.Bytes) (p:Nat) (l:Tilt.Bytes) (i:Nat),vs = [.ref tx,.int (p:Nat),.int ((p + i:Nat):Int),.int ((p + l.length:Nat):Int)]/\H tx = some (.lst (bv b))/\Lies b p l/\i < l.length/\Q (.bl (jF l i || decide (i + 1 = l.length))) H
noncomputable def A4 (T:Txt K mg):Sp:=fun vs H Q E=>∃ (tx:Addr) (b:Tilt.Bytes) (p:Nat) (l:Tilt.Bytes),vs = [.ref tx,.int (p:Nat),.int ((p + l.length:Nat):Int)]/\H tx = some (.lst (bv b))/\Lies b p l/\(match Tilt.badByte true 0 l with
 | some i=>fi T [] H E ⟨2,p + i⟩
 | none=>Q .fR H)
noncomputable def Iu (T:Txt K mg):Sp:=fun vs H Q _=>∃ c:UInt8,vs = [.int ((c.toNat:Nat):Int)]/\Q (.str (gD [c])) H
end
theorem GG {P:Program} {w:World} {K:PySem.W.Frag} {mg:Str->Option Value} {base:Heap} (T:Txt K mg):a8 P w K mg base (uh P w) 3 T.qF T.jL ["text","start"] (GD T):=by
 refine T.gU.tU yn (fun vs H Q E h=>?_) (fun cdv A outer s H vs Q E hr h=>?_)
 ·obtain ⟨tx,b,p,rfl,_⟩:=h
  rfl
 ·obtain ⟨tx,b,p,rfl,htx,hz,hp,q⟩:=h
  refine ⟨_,(ae (qk bq.own rfl (wQ rfl T.lL (aa (pv 1) (aa (aZ bX (by rfl) T.gK PySem.boot_len (aa (pv 0) ag)) ag))) (d7 (i:=2) yn.nd rfl (Or.inl rfl)) (ah (aY (aI dX (kz h9 (pv 0) (pv 2) (fun _ _=>rfl)) (iV rfl T.tN) (aG _)) (ah (aE (pv 2))) aC)))
   (ah (bF bq rfl T.xc (az T) (hr.mono (by decide)) rfl T.bZ (aB T) (aa ao (aa (aZ bX (by rfl) T.gK PySem.boot_len (aa (pv 0) ag)) ag))))),?_⟩
  refine ⟨_,rfl,_,rfl,_,_,rfl,.inl ⟨_,dj.of htx,rfl⟩,_,_,rfl,⟨by omega,by omega,by omega,by rw [qX];omega⟩,?_⟩
  rw [qX]
  have en:(((b.length:Nat):Int) - ((p:Nat):Int)).toNat = b.length - p:=by omega
  rw [en]
  refine m9 (fun i σ H2=>(∃ u,σ = [some (.ref tx),some (.int (p:Nat)),u])/\H2 = H/\∀ (j:Nat) (c:UInt8),j < i->(b.drop p)[j]? = some c->c ≠ 10) ⟨⟨_,rfl⟩,rfl,fun j c hj=>by omega⟩ ?_ ?_
  ·rintro i σ H2 hi ⟨⟨u,rfl⟩,rfl,inv⟩
   have hlt:p + i < b.length:=by omega
   have hc:b[p + i]? = some b[p + i]:=List.getElem?_eq_getElem hlt
   refine ⟨_,rfl,_,rfl,_,_,_,_,rfl,rfl,dj.of htx,at_of (j:=p + i) (by omega) (A3 hc),rfl,_,rfl,?_⟩
   by_cases z:b[p + i] = 10
   ·rw [wL ((Ov (k:=10) 10 rfl (by decide)).mpr z)]
    have hu:Tilt.upTo (b.drop p) = some ((b.drop p).take i,(b.drop p).drop (i + 1)):=CM inv (by rw [List.getElem?_drop,hc,z])
    rw [hu] at q
    refine aQ ⟨_,rfl,?_⟩
    dsimp only at q
    have el:((b.drop p).take i).length = i:=by rw [List.length_take,List.length_drop];omega
    rw [el] at q
    exact q
   ·rw [rq (fun y=>z ((Ov (k:=10) 10 rfl (by decide)).mp y))]
    refine aM ⟨⟨_,rfl⟩,rfl,fun j c hj hjc=>?_⟩
    by_cases hji:j = i
    ·subst hji
     rw [List.getElem?_drop,hc] at hjc
     rw [←Option.some.inj hjc];exact z
    ·exact inv j c (by omega) hjc
  ·rintro σ H2 ⟨⟨u,rfl⟩,rfl,inv⟩
   have hu:Tilt.upTo (b.drop p) = none:=CL fun j c hj=>inv j c (by have:=(List.getElem?_eq_some_iff.mp hj).1;rw [List.length_drop] at this;exact this) hj
   rw [hu] at q
   refine ⟨_,rfl,_,_,rfl,.inl ⟨_,dj.of htx,rfl⟩,?_⟩
   rw [qX]
   exact bj (k:=1) q
theorem GH {P:Program} {w:World} {K:PySem.W.Frag} {mg:Str->Option Value} {base:Heap} (T:Txt K mg):a8 P w K mg base kD 1 T.qG T.jM ["text","start","place","finish"] (GF T):=by
 refine T.gW.ok FZ (fun vs H Q E h=>?_) (fun cdv A outer s H vs Q E hr h=>?_)
 ·obtain ⟨tx,b,p,l,i,rfl,_⟩:=h
  rfl
 ·obtain ⟨tx,b,p,l,i,rfl,htx,hl,hi,q⟩:=h
  refine ⟨_,(ah (aE (Ll (cR dX (pv 2) (pv 1) (aG _)) (Ll (cR dX (kz h9 (pv 0) (cQ uG (pv 2) ao) (fun _ _=>rfl)) (iV rfl T.qP) (aG _)) (Dd (cR dX (cQ lX (pv 2) ao) (pv 3) (aG _))))))),?_⟩
  refine ⟨_,rfl,_,rfl,rfl,_,rfl,?_⟩
  cases i with
  | zero =>
   rw [wL (by omega)]
   exact aQ q
  | succ i =>
   rw [rq (by omega)]
   have hc:l[i]? = some l[i]:=List.getElem?_eq_getElem (by omega)
   have hb:b[p + i]? = some l[i]:=by rw [hl.at_ i (by omega)];exact hc
   have hle:=hl.le
   have hsz:=hl.sz
   refine aM ⟨_,rfl,_,rfl,_,_,rfl,rfl,_,_,_,_,rfl,rfl,dj.of htx,at_of (j:=p + i) (by omega) (A3 hb),rfl,_,rfl,?_⟩
   have hg:jF l (i + 1) = (l[i]? == some 32):=rfl
   by_cases z:l[i] = 32
   ·rw [wL ((Ov (k:=32) 32 rfl (by decide)).mpr z)]
    rw [hg,hc,z] at q
    exact aQ q
   ·rw [rq (fun y=>z ((Ov (k:=32) 32 rfl (by decide)).mp y))]
    rw [hg,hc,show (some l[i] == some 32) = false from beq_eq_false_iff_ne.mpr fun y=>z (Option.some.inj y),Bool.false_or] at q
    refine aM ⟨_,rfl,_,_,rfl,rfl,_,rfl,rfl,?_⟩
    by_cases y:i + 1 + 1 = l.length
    ·rw [decide_eq_true y] at q;rw [wL (by omega)];exact q
    ·rw [decide_eq_false y] at q;rw [rq (by omega)];exact q
theorem A5 {P:Program} {w:World} {K:PySem.W.Frag} {mg:Str->Option Value} {base:Heap} (T:Txt K mg):a8 P w K mg base (uh P w) 3 T.lF T.fv ["text","start","finish"] (A4 T):=by
 refine T.dA.tU nB (fun vs H Q E h=>?_) (fun cdv A outer s H vs Q E hr h=>?_)
 ·obtain ⟨tx,b,p,l,rfl,_⟩:=h
  rfl
 ·obtain ⟨tx,b,p,l,rfl,htx,hl,q⟩:=h
  refine ⟨_,(ah (qk bq.own rfl (wQ rfl T.lL (aa (pv 1) (aa (pv 2) ag))) (d7 (i:=3) nB.nd rfl (Or.inl rfl)) (ae (aR (i:=4) nB.nd rfl (Or.inl rfl) (kz h9 (pv 0) (pv 3) (fun _ _=>rfl)))
   (ae (aY (PW.pt (zX (aI pF (pv 4) (iV rfl T.qP) (aG _)) (uD (aI pG (pv 4) (iV rfl T.oM) (aG _))))) (ah (bF bq rfl T.xc (az T) (hr.mono (by decide)) rfl T.bZ (aB T) (aa ao (aa (pv 3) ag)))) aC)
   (ah (aY (PW.pt (uE (aI dX (pv 4) (iV rfl T.qP) (aG _)) (sS (bQ (aq (GH T) (hr.mono (by decide)) rfl T.AI T.gW.kp (Ie T) .nil aN (aa (pv 0) (aa (pv 1) (aa (pv 3) (aa (pv 2) ag))))) (fun _=>rfl))))) (ah (bF bq rfl T.xc (az T) (hr.mono (by decide)) rfl T.bZ (aB T) (aa ao (aa (pv 3) ag)))) aC)))))),?_⟩
  have hle:=hl.le
  have hsz:=hl.sz
  refine ⟨_,rfl,_,rfl,_,_,rfl,⟨by omega,by omega,by omega,by omega⟩,?_⟩
  have en:(((p + l.length:Nat):Int) - ((p:Nat):Int)).toNat = l.length:=by omega
  rw [en]
  refine m9 (fun i σ H2=>(∃ u v,σ = [some (.ref tx),some (.int (p:Nat)),some (.int ((p + l.length:Nat):Int)),u,v])/\H2 = H/\Tilt.badByte true 0 l = Tilt.badByte (jF l i) i (l.drop i)/\(i = l.length->l = []\/jF l i = false)) ⟨⟨_,_,rfl⟩,rfl,BA l,fun e=>.inl (List.length_eq_zero_iff.mp e.symm)⟩ ?_ ?_
  ·rintro i σ H2 hi ⟨⟨u,v,rfl⟩,rfl,inv,_⟩
   have hc:l[i]? = some l[i]:=List.getElem?_eq_getElem hi
   have hb:b[p + i]? = some l[i]:=by rw [hl.at_ i hi];exact hc
   have ht:=Dy hc
   rw [←inv] at ht
   refine ⟨_,rfl,_,rfl,_,_,_,_,rfl,rfl,dj.of htx,at_of (j:=p + i) (by omega) (A3 hb),?_⟩
   have hfault:Tilt.badByte true 0 l = some i->fi T [] H2 E ⟨2,p + i⟩:=fun e=>by rw [e] at q;exact q
   have c1:l[i] < 32 ↔ l[i].toNat < 32:=by rw [UInt8.lt_iff_toNat_lt];rfl
   have c2:126 < l[i] ↔ 126 < l[i].toNat:=by rw [UInt8.lt_iff_toNat_lt];rfl
   refine ⟨_,rfl,_,_,rfl,rfl,_,rfl,?_⟩
   by_cases z1:l[i].toNat < 32
   ·rw [decide_eq_true (show ((l[i].toNat:Nat):Int) < 32 by omega)]
    rw [if_pos (.inl (c1.mpr z1))] at ht
    refine aQ (aQ ⟨_,rfl,?_⟩)
    exact bj (k:=2) (p:=p + i) (hfault ht)
   ·rw [decide_eq_false (show ¬ ((l[i].toNat:Nat):Int) < 32 by omega)]
    refine aM ⟨_,rfl,_,_,rfl,rfl,_,rfl,?_⟩
    by_cases z2:126 < l[i].toNat
    ·rw [decide_eq_true (show ((l[i].toNat:Nat):Int) > 126 by omega)]
     rw [if_pos (.inr (c2.mpr z2))] at ht
     refine aQ ⟨_,rfl,?_⟩
     exact bj (k:=2) (p:=p + i) (hfault ht)
    ·rw [decide_eq_false (show ¬ ((l[i].toNat:Nat):Int) > 126 by omega)]
     rw [if_neg (by rintro (y | y);exact z1 (c1.mp y);exact z2 (c2.mp y))] at ht
     refine aM ⟨_,rfl,rfl,_,rfl,?_⟩
     have hg:jF l (i + 1) = (l[i]? == some 32):=rfl
     by_cases z3:l[i] = 32
     ·rw [wL ((Ov (k:=32) 32 rfl (by decide)).mpr z3)]
      refine aQ ⟨_,rfl,_,rfl,_,rfl,_,rfl,tx,b,p,l,i,rfl,htx,hl,hi,_,rfl,?_⟩
      by_cases z4:jF l i = true\/i + 1 = l.length
      ·rw [if_pos ⟨z3,z4⟩] at ht
       rw [show (jF l i || decide (i + 1 = l.length)) = true by simpa using z4]
       refine aQ ⟨_,rfl,?_⟩
       exact bj (k:=2) (p:=p + i) (hfault ht)
      ·rw [if_neg (fun y=>z4 y.2)] at ht
       rw [show (jF l i || decide (i + 1 = l.length)) = false by simpa [not_or] using z4]
       exact aM ⟨⟨_,_,rfl⟩,rfl,ht,fun e=>absurd (.inr e) z4⟩
     ·rw [rq (fun y=>z3 ((Ov (k:=32) 32 rfl (by decide)).mp y))]
      rw [if_neg (fun y=>z3 y.1)] at ht
      refine aM (aM ⟨⟨_,_,rfl⟩,rfl,ht,fun _=>.inr ?_⟩)
      rw [hg,hc]
      exact beq_eq_false_iff_ne.mpr fun y=>z3 (Option.some.inj y)
  ·rintro σ H2 ⟨⟨u,v,rfl⟩,rfl,inv,he⟩
   rw [inv,FL (he rfl)] at q
   exact q
theorem JF {z:Str} {n:Nat} {k:Int} {x:Nat} (e:k = (n:Nat)) (h:z.cps.toList[n]? = some x):Mv z.cps.toList k = some x:=by
 rw [e];exact mC h
theorem Nh (c:UInt8):gD [c] = ⟨#[ee c]⟩:=rfl
theorem Iv:∀ n,n < 26->qT.cps.toList[n]? = some (97 + n):=by decide +kernel
theorem KD:∀ n,n < 10->("0123456789" : Str).cps.toList[n]? = some (48 + n):=by decide +kernel
theorem Iw {P:Program} {w:World} {K:PySem.W.Frag} {mg:Str->Option Value} {base:Heap} (T:Txt K mg):a8 P w K mg base kD 1 T.tH T.kY ["byte"] (Iu T):=by
 refine T.jO.ok HZ (fun vs H Q E h=>?_) (fun cdv A outer s H vs Q E hr h=>?_)
 ·obtain ⟨c,rfl,_⟩:=h
  rfl
 ·obtain ⟨c,rfl,q⟩:=h
  refine ⟨_,(ae (aY (Fj Aa Aa (iV rfl T.p6) (pv 0) (iV rfl T.tO)) (ah (aE (kz Dk (iV rfl T.p8) (cQ uG (pv 0) (iV rfl T.p6)) (fun _ _=>rfl)))) aC)
   (ae (aY (Fj Aa Aa (iV rfl T.AL) (pv 0) (iV rfl T.DY)) (ah (aE (kz Dk (iV rfl T.v7) (cQ uG (pv 0) (iV rfl T.AL)) (fun _ _=>rfl)))) aC)
   (ae (aY (aI dX (pv 0) (iV rfl T.oN) (aG _)) (ah (aE eY)) aC)
   (ah (aE (iV rfl T.v8)))))),?_⟩
  rw [Nh] at q
  unfold ee at q
  refine ⟨_,rfl,_,_,rfl,rfl,_,rfl,?_⟩
  by_cases h1:97<=c.toNat
  ·rw [decide_eq_true (show (97:Int)<=((c.toNat:Nat):Int) by omega)]
   refine aQ ⟨_,_,rfl,rfl,_,rfl,?_⟩
   by_cases h2:c.toNat<=122
   ·rw [decide_eq_true (show ((c.toNat:Nat):Int)<=122 by omega)]
    rw [if_pos ⟨h1,h2⟩] at q
    refine aQ ⟨_,rfl,_,_,rfl,rfl,_,_,_,rfl,rfl,(by decide),JF (n:=c.toNat - 97) (by omega) (Iv _ (by omega)),?_⟩
    rw [show 97 + (c.toNat - 97) = c.toNat by omega]
    exact q
   ·rw [decide_eq_false (show ¬ ((c.toNat:Nat):Int)<=122 by omega)]
    rw [if_neg (by omega),if_neg (by omega),if_neg (by omega)] at q
    refine aM ⟨_,rfl,_,_,rfl,rfl,_,rfl,?_⟩
    rw [decide_eq_true (show (48:Int)<=((c.toNat:Nat):Int) by omega)]
    refine aQ ⟨_,_,rfl,rfl,_,rfl,?_⟩
    rw [decide_eq_false (show ¬ ((c.toNat:Nat):Int)<=57 by omega)]
    refine aM ⟨_,rfl,rfl,_,rfl,?_⟩
    rw [rq (by omega)]
    exact aM q
  ·rw [decide_eq_false (show ¬ (97:Int)<=((c.toNat:Nat):Int) by omega)]
   rw [if_neg (by omega)] at q
   refine aM ⟨_,rfl,aM ⟨_,rfl,_,_,rfl,rfl,_,rfl,?_⟩⟩
   by_cases h3:48<=c.toNat
   ·rw [decide_eq_true (show (48:Int)<=((c.toNat:Nat):Int) by omega)]
    refine aQ ⟨_,_,rfl,rfl,_,rfl,?_⟩
    by_cases h4:c.toNat<=57
    ·rw [decide_eq_true (show ((c.toNat:Nat):Int)<=57 by omega)]
     rw [if_pos ⟨h3,h4⟩] at q
     refine aQ ⟨_,rfl,_,_,rfl,rfl,_,_,_,rfl,rfl,(by decide),JF (n:=c.toNat - 48) (by omega) (KD _ (by omega)),?_⟩
     rw [show 48 + (c.toNat - 48) = c.toNat by omega]
     exact q
    ·rw [decide_eq_false (show ¬ ((c.toNat:Nat):Int)<=57 by omega)]
     rw [if_neg (by omega)] at q
     refine aM ⟨_,rfl,rfl,_,rfl,?_⟩
     by_cases h5:c.toNat = 95
     ·rw [wL (by omega)]
      rw [if_pos h5] at q
      exact aQ q
     ·rw [rq (by omega)]
      rw [if_neg h5] at q
      exact aM q
   ·rw [decide_eq_false (show ¬ (48:Int)<=((c.toNat:Nat):Int) by omega)]
    rw [if_neg (by omega),if_neg (by omega)] at q
    refine aM ⟨_,rfl,aM ⟨_,rfl,rfl,_,rfl,?_⟩⟩
    rw [rq (by omega)]
    exact aM q
end Pb
namespace Pb
open PySem PySem.Spec PyProof.Rows L2
noncomputable def Md:Stmt->Expr
 | .Return (some e) _=>e
 | _=>.Name "" ⟨0,0,0,0⟩
noncomputable def Sj:Stmt->Expr
 | .Assign _ e _=>e
 | _=>.Name "" ⟨0,0,0,0⟩
noncomputable def Me:Expr->Expr
 | .Call _ (e :: _) _ _=>e
 | _=>.Name "" ⟨0,0,0,0⟩
noncomputable def KG:Expr->Scope
 | .ListComp _ _ sc _=>sc
 | _=>default
noncomputable def atS (st:Stmt) (i:Nat):Stmt:=(qm st).getD i (.Pass ⟨0,0,0,0⟩)
theorem GJ:vw ["row","byte"] (ak pV) (KG (Me (Md (atS pV 0)))) [("byte",1)]:=⟨by decide +kernel,by decide +kernel,by decide +kernel,by decide +kernel,by decide +kernel⟩
theorem A6:∀ (l:Tilt.Bytes) (g:Bool) (q p:Nat) (cur:Tilt.Bytes),Tilt.badByte g q l = none->(g = true ↔ cur = [])->(∀ w ∈ Tilt.wordsFrom p cur l,w.w ≠ []/\w.w.length<=cur.length + l.length)/\(Tilt.wordsFrom p cur l).length<=l.length + 1
 | [],g,q,p,cur,h,hg=>by
  show (∀ w ∈ (if cur.isEmpty = true then [] else [(⟨cur,p - cur.length⟩:Tilt.Word)]),_)/\(if cur.isEmpty = true then [] else [(⟨cur,p - cur.length⟩:Tilt.Word)]).length<=_
  by_cases z:cur.isEmpty = true
  ·rw [if_pos z];simp
  ·rw [if_neg z]
   refine ⟨fun w hw=>?_,by simp⟩
   rw [List.mem_singleton.mp hw]
   exact ⟨fun e=>z (by rw [show cur = [] from e];rfl),by simp⟩
 | c :: r,g,q,p,cur,h,hg=>by
  rw [qp] at h
  rw [nq]
  by_cases h1:c < 32\/126 < c
  ·rw [if_pos h1] at h;cases h
  rw [if_neg h1] at h
  by_cases h2:c = 32
  ·rw [if_pos h2] at h ⊢
   by_cases h3:g = true
   ·rw [if_pos h3] at h;cases h
   rw [if_neg h3] at h
   by_cases h4:r.isEmpty = true
   ·rw [if_pos h4] at h;cases h
   rw [if_neg h4] at h
   obtain ⟨i1,i2⟩:=A6 r true (q + 1) (p + 1) [] h (by simp)
   refine ⟨fun w hw=>?_,by simp only [List.length_cons];omega⟩
   rcases List.mem_cons.mp hw with rfl | hw
   ·exact ⟨fun e=>h3 (hg.mpr e),by simp⟩
   ·have:=i1 w hw;simp only [List.length_nil,List.length_cons] at this ⊢;exact ⟨this.1,by omega⟩
  ·rw [if_neg h2] at h ⊢
   obtain ⟨i1,i2⟩:=A6 r false (q + 1) (p + 1) (cur ++ [c]) h (by simp)
   refine ⟨fun w hw=>?_,by simp only [List.length_cons];omega⟩
   have:=i1 w hw
   simp only [List.length_append,List.length_cons,List.length_nil] at this ⊢
   exact ⟨this.1,by omega⟩
theorem C1:∀ {b l r:Tilt.Bytes},Tilt.upTo b = some (l,r)->∀ i,i < l.length->b[i]? = l[i]?
 | [],_,_,h=>by cases h
 | c :: b,l,r,h=>by
  have h':(if c = 10 then some ([],b) else (Tilt.upTo b).map fun (x:Tilt.Bytes × Tilt.Bytes)=>(c :: x.1,x.2)) = some (l,r):=h
  by_cases q:c = 10
  ·rw [if_pos q] at h';cases h';intro i hi;cases hi
  ·rw [if_neg q] at h'
   cases z:Tilt.upTo b with
   | none=>rw [z] at h';cases h'
   | some x =>
    obtain ⟨l1,r1⟩:=x
    rw [z] at h'
    cases h'
    intro i hi
    cases i with
    | zero=>rfl
    | succ i=>simpa using C1 z i (by simpa using hi)
theorem lies_of {b l r:Tilt.Bytes} {p:Nat} (hz:b.length<=16384) (hp:p<=b.length) (h:Tilt.upTo (b.drop p) = some (l,r)):Lies b p l:=by
 obtain ⟨e1,_⟩:=As h
 rw [List.length_drop] at e1
 refine ⟨fun i hi=>?_,by omega,hz⟩
 rw [←C1 h i hi,List.getElem?_drop]
theorem Pz {b l:Tilt.Bytes} {p i f:Nat} (h:Lies b p l) (hi:i<=l.length) (hf:f<=i):Di (bv b) (some ((p + f:Nat):Int)) (some ((p + i:Nat):Int)) = bv ((l.take i).drop f):=by
 have hle:=h.le
 unfold Di
 rw [HT.zA,HT.zA,qX,Nat.min_eq_left (by omega),Nat.min_eq_left (by omega)]
 unfold bv
 rw [←List.map_drop,←List.map_take]
 congr 1
 apply List.ext_getElem?
 intro j
 by_cases hj:j < i - f
 ·rw [List.getElem?_take_of_lt (by omega),List.getElem?_drop,List.getElem?_drop,List.getElem?_take_of_lt (by omega),show p + f + j = p + (f + j) by omega,h.at_ (f + j) (by omega)]
 ·rw [List.getElem?_eq_none (by rw [List.length_take];omega),List.getElem?_eq_none (by rw [List.length_drop,List.length_take];omega)]
theorem Mf (w:Tilt.Bytes):PySem.Txt.join "" (w.map fun c=>gD [c]) = gD w:=by
 rw [TL.join_eq]
 have e:TL.tl (Str.join "" (w.map fun c=>gD [c])) = w.map ee:=by
  rw [TL.Jd,List.map_map]
  induction w with
  | nil=>rfl
  | cons c r ih =>
   cases r with
   | nil=>rfl
   | cons d r =>
    show [ee c] ++ ([] ++ TL.FA [] (List.map _ (d :: r))) = _
    have ih':TL.FA [] (List.map (TL.tl ∘ fun c=>gD [c]) (d :: r)) = (d :: r).map ee:=ih
    rw [ih'];rfl
 have e2:TL.tl (gD w) = w.map ee:=by show (w.map ee).toArray.toList = _;simp
 have z:=TL.Ai (l:=[Str.join "" (w.map fun c=>gD [c])]) (m:=[gD w]) (by rw [List.map_singleton,List.map_singleton,e,e2])
 exact List.singleton_inj.mp z
theorem eX {H H2:Hp} {a:Addr} {o:HO} (s:bc H H2) (n:H a = none):bc H (upd H2 a o):=fun b u e=>by rw [ai (aw e n)];exact s b u e
section
variable {K:PySem.W.Frag} {mg:Str->Option Value}
structure m7 (T:Txt K mg) (H:Hp) (as:List Addr) (ws:List Tilt.Word):Prop where
 len:as.length = ws.length
 at_:∀ (i:Nat) (a:Addr) (w:Tilt.Word),as[i]? = some a->ws[i]? = some w->sL T H a w
theorem m7.kp {T:Txt K mg} {H H':Hp} {as:List Addr} {ws:List Tilt.Word} (x:m7 T H as ws) {wl:Addr} {xs:List V} (e:H wl = some (.lst xs)) (k:Kp [wl] H H'):m7 T H' as ws :=
 ⟨x.len,fun i a w ha hw=>let ⟨dx,q⟩:=x.at_ i a w ha hw;⟨dx,k _ _ q fun z=>aU q e JB bf (by decide) (List.mem_singleton.mp z)⟩⟩
theorem m7.snoc {T:Txt K mg} {H:Hp} {as:List Addr} {ws:List Tilt.Word} (x:m7 T H as ws) {a:Addr} {w:Tilt.Word} (h:sL T H a w):m7 T H (as ++ [a]) (ws ++ [w]):=by
 refine ⟨by rw [List.length_append,List.length_append,x.len];rfl,fun i c q hc hq=>?_⟩
 by_cases hi:i < as.length
 ·rw [List.getElem?_append_left hi] at hc
  rw [List.getElem?_append_left (by rw [←x.len];exact hi)] at hq
  exact x.at_ i c q hc hq
 ·have hi2:i = as.length:=by
   have:=(List.getElem?_eq_some_iff.mp hc).1
   rw [List.length_append,List.length_singleton] at this
   omega
  subst hi2
  rw [List.getElem?_append_right (Nat.le_refl _),Nat.sub_self] at hc
  rw [x.len,List.getElem?_append_right (Nat.le_refl _),Nat.sub_self] at hq
  cases hc
  cases hq
  exact h
noncomputable def Iy (T:Txt K mg):Sp:=fun vs H Q _=>∃ (rw_:Addr) (w:Tilt.Bytes),vs = [.ref rw_]/\H rw_ = some (.lst (bv w))/\w.length<=20000/\∀ H',bc H H'->Q (.str (gD w)) H'
noncomputable def xH (T:Txt K mg):Sp:=fun vs H Q _=>∃ (tx:Addr) (b:Tilt.Bytes) (p:Nat) (l:Tilt.Bytes),vs = [.ref tx,.int (p:Nat),.int ((p + l.length:Nat):Int)]/\H tx = some (.lst (bv b))/\Lies b p l/\Tilt.badByte true 0 l = none ∧
 ∀ H' wl as,H wl = none->H' wl = some (.lst (as.map V.ref))->m7 T H' as (Tilt.wordsFrom p [] l)->bc H H'->Q (.ref wl) H'
noncomputable def Ep (T:Txt K mg):Sp:=fun vs H Q E=>∃ (tx:Addr) (b:Tilt.Bytes) (p:Nat),vs = [.ref tx,.int (p:Nat)]/\H tx = some (.lst (bv b))/\b.length<=16384/\p<=b.length/\(match Tilt.upTo (b.drop p) with
 | none=>fi T [] H E ⟨1,b.length⟩
 | some (l,_)=>match Tilt.badByte true 0 l with
  | some i=>fi T [] H E ⟨2,p + i⟩
  | none=>∀ H' L,H L.wl = none->H L.l = none->b4 T H' L (p + l.length) [] (Tilt.wordsFrom p [] l)->bc H H'->Q (.ref L.l) H')
end
theorem Iz {P:Program} {w:World} {K:PySem.W.Frag} {mg:Str->Option Value} {base:Heap} (T:Txt K mg):a8 P w K mg base kD 2 T.tG T.kX ["row"] (Iy T):=by
 refine T.jN.ok uT (fun vs H Q E h=>?_) (fun cdv A outer s H vs Q E hr h=>?_)
 ·obtain ⟨r,w,rfl,_⟩:=h
  rfl
 ·obtain ⟨r,w,rfl,hr0,hz,q⟩:=h
  refine ⟨_,(ah (aE (MS eY (CB rfl uT.nd (sT (pv 0)) (own:=[("byte",1)]) GJ (fun _ _ _ _ _=>(d7 (i:=1) uT.nd rfl (Or.inl rfl))) (fun _ _ _ _ _=>sX) (fun _ _ _ _ _=>(aq (Iw T) (hr.mono (by decide)) rfl T.CU T.jO.kp (Kt T) .nil aN (aa (pv 1) ag))))))),?_⟩
  refine ⟨⟨_,rfl⟩,_,rfl,r,rfl,⟨_,dj.of hr0⟩,fun D hD=>?_⟩
  refine vx (xs:=bv w) (fun i H2=>bc H H2/\H2 D = some (.lst ((w.take i).map fun c=>V.str (gD [c])))) ⟨Kp.same (Kp.new hD),af⟩ (fun i H2 _ p=>dj.of (p.1 _ _ hr0)) ?_ ?_
  ·rintro i x H2 hx ⟨s2,e2⟩
   have hi:i < w.length:=by have:=(List.getElem?_eq_some_iff.mp hx).1;rw [qX] at this;exact this
   have hc:w[i]? = some w[i]:=List.getElem?_eq_getElem hi
   rw [A3 hc] at hx
   cases hx
   refine ⟨rfl,?_⟩
   unfold HG
   refine aQ ⟨_,rfl,w[i],rfl,_,e2,?_,?_,?_⟩
   ·rw [List.length_map,List.length_take];exact Nat.lt_of_le_of_lt (Nat.min_le_right _ _) (Nat.lt_of_le_of_lt hz (by decide))
   ·exact eX s2 hD
   ·rw [af,take_one hc,List.map_append];rfl
  ·rintro H2 ⟨s2,e2⟩
   rw [qX,List.take_length] at e2
   refine ⟨"",D,w.map fun c=>gD [c],rfl,rfl,.inl (dj.of (by rw [e2,List.map_map];rfl)),?_,?_⟩
   ·rw [List.map_map,List.length_map]
    have e1:(List.map (Str.length ∘ fun c=>gD [c]) w).sum = w.length:=by
     clear e2 s2 hr0 hz q
     induction w with
     | nil=>rfl
     | cons c r ih=>rw [List.map_cons,List.sum_cons,ih];show 1 + r.length = r.length + 1;omega
    rw [show (List.map ((fun x=>x.length) ∘ fun c=>gD [c]) w).sum = w.length from e1]
    show w.length + w.length * 0<=16777216
    omega
   ·rw [Mf]
    exact q H2 s2
theorem xI {P:Program} {w:World} {K:PySem.W.Frag} {mg:Str->Option Value} {base:Heap} (T:Txt K mg):a8 P w K mg base kD 3 T.jm T.dN ["text","start","finish"] (xH T):=by
 refine T.cz.ok fj (fun vs H Q E h=>?_) (fun cdv A outer s H vs Q E hr h=>?_)
 ·obtain ⟨tx,b,p,l,rfl,_⟩:=h
  rfl
 ·obtain ⟨tx,b,p,l,rfl,htx,hl,hbad,q⟩:=h
  refine ⟨_,(ae (aR (i:=3) fj.nd rfl (Or.inl rfl) (dk ag))
   (ae (aY (aI dX (pv 1) (pv 2) (aG _)) (ah (aE (pv 3))) aC)
   (ae (aR (i:=4) fj.nd rfl (Or.inl rfl) (pv 1))
   (ae (qk PassesOwn.never rfl (wQ rfl T.lL (aa (pv 1) (aa (cQ lX (pv 2) ao) ag))) (d7 (i:=5) fj.nd rfl (Or.inl rfl)) (ah (aY (PW.pt (zX (aI dX (pv 5) (pv 2) (aG _)) (uD (aI dX (kz h9 (pv 0) (pv 5) (fun _ _=>rfl)) (iV rfl T.qP) (aG _))))) (ae (aJ (ug PySem.F.plainAttrs_list PySem.F.slot_list_append PySem.F.type_list_append pI (pv 3) (aa (mB T.zJ (xA T) (hr.mono (by decide)) rfl T.LY (yO T) .nil aN (aa (aq (Iz T) (hr.mono (by decide)) rfl T.CT T.jN.kp (Ks T) .nil aN (aa (Fo Ja (pv 0) (zB (pv 4)) (zB (pv 5))) ag)) (aa (pv 4) ag))) ag)))
   (ah (aR (i:=4) fj.nd rfl (Or.inl rfl) (cQ lX (pv 5) ao)))) aC)))
   (ah (aE (pv 3))))))),?_⟩
  have hle:=hl.le
  have hsz:=hl.sz
  refine ⟨(by show 0<=sizeLine;decide),fun wl hwl=>?_⟩
  refine ⟨_,rfl,_,rfl,rfl,_,rfl,?_⟩
  cases hlen:l with
  | nil =>
   subst hlen
   rw [wL (by simp)]
   exact aQ ⟨_,rfl,q _ wl [] hwl af ⟨rfl,fun i a w e=>by simp at e⟩ (Kp.same (Kp.new hwl))⟩
  | cons c0 l0 =>
   rw [←hlen]
   have hl0:0 < l.length:=by rw [hlen];simp
   have hne:l ≠ []:=by rw [hlen];simp
   rw [rq (by omega)]
   refine aM ⟨_,rfl,?_⟩
   refine ⟨_,rfl,_,rfl,_,_,rfl,rfl,_,_,rfl,⟨by omega,by omega,by omega,by omega⟩,?_⟩
   have en:((((p + l.length:Nat):Int) + 1) - ((p:Nat):Int)).toNat = l.length + 1:=by omega
   rw [en]
   refine m9 (fun i σ H2=>∃ f ws as u,σ = [some (.ref tx),some (.int (p:Nat)),some (.int ((p + l.length:Nat):Int)),some (.ref wl),some (.int ((p + f:Nat):Int)),u]/\bc H H2/\H2 wl = some (.lst (as.map V.ref))/\m7 T H2 as ws/\ws.length<=i/\(i<=l.length->Cut p l i f ws)/\(i = l.length + 1->ws = Tilt.wordsFrom p [] l))
    ⟨0,[],[],_,rfl,Kp.same (Kp.new hwl),af,⟨rfl,fun i a w e=>by simp at e⟩,Nat.le_refl _,fun _=>Cut.start p l,fun e=>by omega⟩ ?_ ?_
   ·rintro i σ H2 hi ⟨f,ws,as,u,rfl,s2,ewl,hws,hwn,hcut,_⟩
    have cut:=hcut (by omega)
    have hfi:=cut.le
    have hfi2:i<=l.length:=by omega
    show SD _ _ _ _ _
    refine A1 (decide (i = l.length) || (l[i]? == some 32)) (fun Qc hq=>?_) ?_
    ·refine ⟨_,rfl,_,rfl,rfl,_,rfl,?_⟩
     by_cases z:i = l.length
     ·rw [wL (by omega)]
      rw [decide_eq_true z,Bool.true_or] at hq
      exact aQ hq
     ·rw [rq (by omega)]
      rw [decide_eq_false z,Bool.false_or] at hq
      have hc:l[i]? = some l[i]:=List.getElem?_eq_getElem (by omega)
      have hb:b[p + i]? = some l[i]:=by rw [hl.at_ i (by omega)];exact hc
      refine aM ⟨_,rfl,_,rfl,_,_,_,_,rfl,rfl,dj.of (s2 _ _ htx),at_of (j:=p + i) (by omega) (A3 hb),rfl,_,rfl,?_⟩
      rw [hc] at hq
      by_cases y:l[i] = 32
      ·rw [wL ((Ov (k:=32) 32 rfl (by decide)).mpr y)]
       rw [y] at hq
       exact hq
      ·rw [rq (fun y'=>y ((Ov (k:=32) 32 rfl (by decide)).mp y'))]
       rw [show (some l[i] == some 32) = false from beq_eq_false_iff_ne.mpr fun y'=>y (Option.some.inj y')] at hq
       exact hq
    ·cases hb:(decide (i = l.length) || (l[i]? == some 32)) with
     | true =>
      refine aQ ⟨_,rfl,.inl ⟨rfl,_,dj.of ewl⟩,_,rfl,_,rfl,_,rfl,_,rfl,_,rfl,_,_,rfl,dj.of (s2 _ _ htx),fun sl hsl=>?_⟩
      have ec:Di (bv b) (some ((p + f:Nat):Int)) (some (((p:Nat):Int) + ((i:Nat):Int))) = bv ((l.take i).drop f):=Pz hl hfi2 hfi
      rw [ec]
      refine ⟨sl,(l.take i).drop f,rfl,af,?_,fun H3 s3=>?_⟩
      ·rw [List.length_drop,List.length_take];omega
      have s23:bc H2 H3:=(Kp.same (Kp.new hsl)).trans s3
      refine ⟨_,rfl,fun wa wdx hwa hwdx RA=>?_⟩
      refine ⟨wa,wdx,_,_,rfl,af,rfl,?_⟩
      rw [aW]
      have hwa':upd H3 wdx (.own wa) wa = none:=by rw [ai (Ne.symm RA)];exact hwa
      have s34:bc H3 (upd (upd H3 wdx (.own wa)) wa (.ins T.nN wdx (AA (gD ((l.take i).drop f)) ((p + f:Nat):Int)))):=Kp.same ((Kp.new hwdx).trans (Kp.new hwa'))
      have s24:=s23.trans s34
      refine ⟨wl,_,_,rfl,rfl,s24 _ _ ewl,?_,?_⟩
      ·rw [List.length_map,hws.len];exact Nat.lt_of_le_of_lt (by omega:ws.length<=16384) (by decide)
      have hw4:m7 T (upd (upd H3 wdx (.own wa)) wa (.ins T.nN wdx (AA (gD ((l.take i).drop f)) ((p + f:Nat):Int)))) (as ++ [wa]) (ws ++ [⟨(l.take i).drop f,p + f⟩]):=(hws.kp ewl (Kp.of_same s24)).snoc ⟨wdx,af⟩
      refine ⟨_,rfl,_,_,rfl,rfl,?_⟩
      refine ⟨i + 1,ws ++ [⟨(l.take i).drop f,p + f⟩],as ++ [wa],some (.int (((p:Nat):Int) + ((i:Nat):Int))),?_,eX (s2.trans s24) hwl,?_,hw4.kp (s24 _ _ ewl) (Kp.wr (by simp)),?_,fun hi'=>?_,fun hi'=>?_⟩
      ·rfl
      ·rw [af,List.map_append];rfl
      ·rw [List.length_append,List.length_singleton];omega
      ·have h32:l[i]? = some 32:=by
        rw [show decide (i = l.length) = false by rw [decide_eq_false];omega,Bool.false_or] at hb
        exact eq_of_beq hb
       exact cut.blank h32
      ·have hi2:i = l.length:=by omega
       subst hi2
       exact (cut.fin hne hbad).symm
     | false =>
      have hb':¬ (i = l.length)/\¬ (l[i]? = some 32):=by
       simp only [Bool.or_eq_false_iff,decide_eq_false_iff_not,beq_eq_false_iff_ne] at hb
       exact hb
      have hc:l[i]? = some l[i]:=List.getElem?_eq_getElem (by omega)
      refine aM ⟨f,ws,as,_,rfl,s2,ewl,hws,by omega,fun _=>cut.other hc (fun y=>hb'.2 (by rw [hc,y])),fun hi'=>by omega⟩
   ·rintro σ H2 ⟨f,ws,as,u,rfl,s2,ewl,hws,hwn,_,hfin⟩
    refine ⟨_,rfl,q _ wl as hwl ewl (by rw [←hfin rfl];exact hws) s2⟩
theorem Er {P:Program} {w:World} {K:PySem.W.Frag} {mg:Str->Option Value} {base:Heap} (T:Txt K mg):a8 P w K mg base (uh P w) 4 T.ow T.iB ["text","start"] (Ep T):=by
 refine T.fG.tU vO (fun vs H Q E h=>?_) (fun cdv A outer s H vs Q E hr h=>?_)
 ·obtain ⟨tx,b,p,rfl,_⟩:=h
  rfl
 ·obtain ⟨tx,b,p,rfl,htx,hz,hp,q⟩:=h
  refine ⟨_,(ae (aR (i:=2) vO.nd rfl (Or.inl rfl) (aq (GG T) (hr.mono (by decide)) rfl T.AH T.gU.kp (Ic T) .nil (bC bq) (aa (pv 0) (aa (pv 1) ag))))
   (ae (aJ (aq (A5 T) (hr.mono (by decide)) rfl T.uw T.dA.kp (BP T) .nil (bC bq) (aa (pv 0) (aa (pv 1) (aa (pv 2) ag)))))
   (ah (aE (mB T.zK (xB T) (hr.mono (by decide)) rfl T.LZ (yP T) .nil aN (aa (aq (xI T) (hr.mono (by decide)) rfl T.rj T.cz.kp (yQ T) .nil aN (aa (pv 0) (aa (pv 1) (aa (pv 2) ag)))) (aa (pv 2) ag))))))),?_⟩
  refine ⟨_,rfl,_,rfl,tx,b,p,rfl,htx,hz,hp,?_⟩
  cases hu:Tilt.upTo (b.drop p) with
  | none=>rw [hu] at q;exact q
  | some x =>
   obtain ⟨l,r⟩:=x
   rw [hu] at q
   dsimp only at q ⊢
   have hl:=lies_of hz hp hu
   have hle:=hl.le
   refine ⟨_,rfl,_,rfl,_,rfl,tx,b,p,l,rfl,htx,hl,?_⟩
   cases hb:Tilt.badByte true 0 l with
   | some i=>rw [hb] at q;exact q
   | none =>
    rw [hb] at q
    dsimp only at q ⊢
    refine ⟨_,rfl,_,rfl,_,rfl,tx,b,p,l,rfl,htx,hl,hb,fun H1 wl as hwl ewl hws s1=>?_⟩
    refine ⟨_,rfl,fun la ldx hla hldx Oq=>?_⟩
    refine ⟨la,ldx,wl,_,rfl,af,rfl,?_⟩
    rw [aW]
    have hla':upd H1 ldx (.own la) la = none:=by rw [ai (Ne.symm Oq)];exact hla
    have s2:bc H1 (upd (upd H1 ldx (.own la)) la (.ins T.iX ldx (nJ wl ((p + l.length:Nat):Int) 0))):=Kp.same ((Kp.new hldx).trans (Kp.new hla'))
    obtain ⟨w1,w2⟩:=A6 l true 0 p [] hb (by simp)
    refine q _ ⟨la,ldx,wl,as⟩ hwl (s1.free hla) ⟨af,s2 _ _ ewl,hws.len,fun i a w ha hw=>?_,fun w hw=>?_,by rw [List.nil_append];omega⟩ (s1.trans s2)
    ·obtain ⟨dx,e⟩:=hws.at_ i a w ha hw
     exact ⟨dx,s2 _ _ e⟩
    ·have:=w1 w hw
     have hsz:=hl.sz
     simp only [List.length_nil] at this
     exact ⟨this.1,by omega⟩
end Pb
namespace Pb
open PySem PySem.Spec PyProof.Rows L2
theorem lW:∀ (n:Nat) {l:List Nat},l.Nodup->(∀ x ∈ l,x < n)->l.length<=n
 | 0,l,_,h=>by
  cases l with
  | nil=>exact Nat.le_refl _
  | cons a r=>exact absurd (h a (List.mem_cons_self ..)) (Nat.not_lt_zero _)
 | n + 1,l,nd,h=>by
  by_cases hm:n ∈ l
  ·have h1:(l.erase n).length<=n:=lW n (nd.erase n) fun x hx=>by
    have:=(List.Nodup.mem_erase_iff nd).mp hx
    have:=h x this.2
    omega
   rw [List.length_erase_of_mem hm] at h1
   omega
  ·have h1:l.length<=n:=lW n nd fun x hx=>by
    have:=h x hx
    have:x ≠ n:=fun e=>hm (by rw [←e];exact hx)
    omega
   omega
theorem A7 {ps:List (Tilt.Bytes × Nat)} {ns:List Tilt.Bytes} {pl:List Nat} (h:Holds ps ns pl) (hv:∀ p ∈ ps,Tilt.isName p.1 = true):(∀ n ∈ ns,Tilt.isName n = true)/\ns.length = pl.length:=by
 refine ⟨fun n hn=>?_,?_⟩
 ·have hm:ps.lookup n ∈ ns.map fun n=>ps.lookup n:=List.mem_map.mpr ⟨n,hn,rfl⟩
  rw [show (ns.map fun n=>ps.lookup n) = pl.map some from h] at hm
  obtain ⟨p,_,e⟩:=List.mem_map.mp hm
  exact hv _ (lookup_mem e.symm)
 ·have:=congrArg List.length (show (ns.map fun n=>ps.lookup n) = pl.map some from h)
  rwa [List.length_map,List.length_map] at this
theorem KH (T:Tilt.Table) (h:∀ d ∈ T.devices,d.at_.length<=8) (h8:T.devices.length<=8):T.held.length<=64:=by
 have:=vI (l:=T.devices) (f:=fun d=>d.at_) (m:=8) h
 show (T.devices.flatMap fun d=>d.at_).length<=64
 omega
theorem jT.PB {pt:PT} {s:Nat} {T:Tilt.Table} (r:jT pt s T):kq pt/\Sm pt:=by
 have hsw:∀ p ∈ pt.sw.ps,Tilt.isName p.1 = true:=fun p hp=>by
  rw [r.sw] at hp
  obtain ⟨x,hx,rfl⟩:=List.mem_map.mp hp
  exact (r.LO x hx).1
 have hco:∀ p ∈ pt.co.ps,Tilt.isName p.1 = true:=fun p hp=>by
  rw [r.co] at hp
  obtain ⟨x,hx,rfl⟩:=List.mem_map.mp hp
  exact r.Pl x hx
 have n1:T.switches.length<=64:=by
  have:=lW 64 r.Kj fun x hx=>by
   obtain ⟨y,hy,rfl⟩:=List.mem_map.mp hx
   have:=(r.LO y hy).2
   omega
  rwa [List.length_map] at this
 have n2:pt.la.ps.length<=64:=by have:=r.Qj;have:=r.Q6;omega
 have n3:T.coils.length<=32:=by
  have:=lW 32 r.Mw fun x hx=>by
   have h1:=r.Q7
   by_cases hlt:pt.co.hi < (x:Int)
   ·exact absurd hx (r.FR.DA hlt)
   ·omega
  rwa [List.length_map] at this
 obtain ⟨he1,he2⟩:=A7 r.held hsw
 obtain ⟨bu1,bu2⟩:=A7 r.busy hco
 have n4:=KH T (fun d hd=>(r.Oj d hd).1) r.M4
 have n5:pt.busy.length<=16:=by rw [bu2,List.length_append,List.length_map,List.length_map];have:=r.M4;have:=r.kL;omega
 have hmo:pt.mo.map (·.1) = pt.co.ps.map (·.1):=by rw [r.mo,r.co,List.map_map,List.map_map];rfl
 have l1:pt.sw.ps.length = T.switches.length:=by rw [r.sw,List.length_map]
 have l2:pt.co.ps.length = T.coils.length:=by rw [r.co,List.length_map]
 have l3:pt.mo.length = T.coils.length:=by rw [r.mo,List.length_map]
 have l4:pt.dn.length = T.devices.length:=by rw [r.dn,List.length_map]
 have l5:pt.bt.length = T.devices.length:=by rw [r.bt,List.length_map]
 have l6:=r.M4
 refine ⟨⟨hsw,fun p hp=>?_,hco,fun p hp=>?_,fun p hp=>?_,he1,bu1,?_,hmo⟩,?_⟩
 ·have hm:p.1 ∈ pt.la.ps.map (·.1):=List.mem_map.mpr ⟨p,hp,rfl⟩
  rw [r.la] at hm
  obtain ⟨x,hx,e⟩:=List.mem_map.mp hm
  rw [←e]
  exact r.Qh x hx
 ·rw [r.mo] at hp
  obtain ⟨x,hx,rfl⟩:=List.mem_map.mp hp
  exact r.Pl x hx
 ·rw [r.dn] at hp
  obtain ⟨x,hx,rfl⟩:=List.mem_map.mp hp
  exact r.Qi x hx
 ·omega
 ·unfold Sm;omega
theorem lU.PB {b:Tilt.Bytes} {p:Nat} {pt:PT} (g:lU b p pt):kq pt/\Sm pt:=by
 obtain ⟨h,k,r,_⟩:=g.run
 cases r with
 | none=>exact ⟨⟨nofun,nofun,nofun,nofun,nofun,nofun,nofun,by decide,rfl⟩,by unfold Sm;decide⟩
 | some r=>exact r.PB
structure Tr (H:Hp) (a:Addr) (oa:HO) (L:List (Addr × HO)) (Hk:Hp):Prop where
 at_:Hk a = some oa
 all:∀ x o,(x,o) ∈ L->Hk x = some o
 nd:(a :: L.map (·.1)).Nodup
 kp:Kp [a] H Hk
 new:∀ x o,(x,o) ∈ L->H x = none
theorem Tr.ix {H Hk:Hp} {a:Addr} {oa:HO} {L:List (Addr × HO)} (t:Tr H a oa L Hk) (i:Nat) {x:Addr} {o:HO} (h:L[i]? = some (x,o)):Hk x = some o:=t.all x o (List.mem_of_getElem? h)
theorem Tr.KI {H Hk:Hp} {a:Addr} {oa:HO} {L:List (Addr × HO)} (t:Tr H a oa L Hk) (i:Nat) {x:Addr} {o:HO} (h:L[i]? = some (x,o)):H x = none:=t.new x o (List.mem_of_getElem? h)
theorem Tr.fresh {H Hk:Hp} {a:Addr} {oa:HO} {L:List (Addr × HO)} (t:Tr H a oa L Hk) {n:Addr} (hn:Hk n = none):n ≠ a/\n ∉ L.map (·.1)/\H n = none:=by
 have h1:n ≠ a:=fun e=>by rw [e,t.at_] at hn;cases hn
 refine ⟨h1,fun h=>?_,?_⟩
 ·obtain ⟨⟨x,o⟩,hx,e⟩:=List.mem_map.mp h
  rw [←e,t.all x o hx] at hn;cases hn
 ·cases q:H n with
  | none=>rfl
  | some o=>rw [t.kp n o q (by simpa using h1)] at hn;cases hn
theorem Tr.skip {H Hk:Hp} {a:Addr} {oa:HO} {L:List (Addr × HO)} (t:Tr H a oa L Hk) {n:Addr} {o:HO} (hn:Hk n = none):Tr H a oa L (upd Hk n o) :=
 ⟨by rw [ai (aw t.at_ hn)];exact t.at_,fun x u hx=>by rw [ai (aw (t.all x u hx) hn)];exact t.all x u hx,t.nd,t.kp.trans (Kp.new hn),t.new⟩
theorem Tr.add {H Hk:Hp} {a:Addr} {oa:HO} {L:List (Addr × HO)} (t:Tr H a oa L Hk) {n:Addr} {o:HO} (hn:Hk n = none):Tr H a oa ((n,o) :: L) (upd Hk n o):=by
 obtain ⟨f1,f2,f3⟩:=t.fresh hn
 refine ⟨(t.skip hn).at_,fun x u hx=>?_,?_,(t.skip hn).kp,fun x u hx=>?_⟩
 ·rcases List.mem_cons.mp hx with e | hx
  ·cases e;exact af
  ·exact (t.skip hn).all x u hx
 ·have:=t.nd
  rw [List.nodup_cons] at this
  rw [List.map_cons,List.nodup_cons,List.nodup_cons]
  refine ⟨?_,f2,this.2⟩
  intro h
  rcases List.mem_cons.mp h with e | h
  ·exact f1 e.symm
  ·exact this.1 h
 ·rcases List.mem_cons.mp hx with e | hx
  ·cases e;exact f3
  ·exact t.new x u hx
theorem Tr.set {H Hk:Hp} {a:Addr} {oa:HO} {L:List (Addr × HO)} (t:Tr H a oa L Hk) (ob:HO):Tr H a ob L (upd Hk a ob) :=
 ⟨af,fun x u hx=>by
  rw [ai]
  ·exact t.all x u hx
  ·intro e
   have:=(List.nodup_cons.mp t.nd).1
   exact this (by rw [←e];exact List.mem_map.mpr ⟨(x,u),hx,rfl⟩),t.nd,t.kp.trans (Kp.wr (by simp)),t.new⟩
theorem Tr.Sk {H Hk:Hp} {a x d:Addr} {oa o od:HO} {L:List (Addr × HO)} (t:Tr H a oa ((d,od) :: (x,o) :: L) Hk) (hx:H x = none) (o':HO):Tr H a oa ((d,od) :: (x,o') :: L) (upd Hk x o'):=by
 have nd:=t.nd
 simp only [List.map_cons,List.nodup_cons,List.mem_cons,not_or] at nd
 obtain ⟨⟨n1,n2,n3⟩,⟨n4,n5⟩,n6,n7⟩:=nd
 refine ⟨by rw [ai n2];exact t.at_,fun y u hy=>?_,by simpa only [List.map_cons,List.nodup_cons,List.mem_cons,not_or] using (show _ from ⟨⟨n1,n2,n3⟩,⟨n4,n5⟩,n6,n7⟩),fun b ob e hb=>by rw [ai (aw e hx)];exact t.kp b ob e hb,fun y u hy=>?_⟩
 ·rcases List.mem_cons.mp hy with e | hy
  ·cases e;rw [ai n4];exact t.all d od (List.mem_cons_self ..)
  ·rcases List.mem_cons.mp hy with e | hy
   ·cases e;exact af
   ·rw [ai]
    ·exact t.all y u (List.mem_cons_of_mem _ (List.mem_cons_of_mem _ hy))
    ·intro e;exact n6 (by rw [←e];exact List.mem_map.mpr ⟨(y,u),hy,rfl⟩)
 ·rcases List.mem_cons.mp hy with e | hy
  ·cases e;exact t.new d od (List.mem_cons_self ..)
  ·rcases List.mem_cons.mp hy with e | hy
   ·cases e;exact hx
   ·exact t.new y u (List.mem_cons_of_mem _ (List.mem_cons_of_mem _ hy))
theorem Tr.roll {H Hk:Hp} {a r x d:Addr} {oa o1 o2:HO} {L:List (Addr × HO)} (t:Tr H a oa L Hk) (hr:Hk r = none) (hx:Hk x = none) (ne:x ≠ r) (hd:upd (upd Hk x (.own r)) r o1 d = none):Tr H a oa ((d,.dK []) :: (r,o2) :: L) (upd (upd (upd (upd Hk x (.own r)) r o1) d (.dK [])) r o2) :=
 (((t.skip hx).add (by rw [ai (Ne.symm ne)];exact hr)).add hd).Sk (t.fresh hr).2.2 _
section
variable {K:PySem.W.Frag} {mg:Str->Option Value}
noncomputable def xJ (T:Txt K mg):Sp:=fun vs H Q _=>∃ (a dx:Addr) (m:Int) (s:Str),vs = [.ref a,.int m,.str s]/\H a = some (.ins T.gQ dx [])/\∀ d,H d = none->Q .fR (upd (upd H d (.dK [])) a (.ins T.gQ dx (mv d (-1) m s)))
noncomputable def wq (T:Txt K mg):Sp:=fun vs H Q _=>∃ (a dx:Addr),vs = [.ref a]/\H a = some (.ins T.aS dx [])/\∀ H' A,A.t = a->TableAt T H' A PT.new->Kp [a] H H'->(∀ x ∈ A.all,x = a\/H x = none)->Q .fR H'
end
theorem ly {P:Program} {w:World} {K:PySem.W.Frag} {mg:Str->Option Value} {base:Heap} (T:Txt K mg):a8 P w K mg base kD 1 T.jn T.dO ["self","most","barred"] (xJ T):=by
 refine T.c8.ok xj (fun vs H Q E h=>?_) (fun cdv A outer s H vs Q E hr h=>?_)
 ·obtain ⟨a,dx,m,s,rfl,_⟩:=h
  rfl
 ·obtain ⟨a,dx,m,s',rfl,ha,q⟩:=h
  refine ⟨_,(ae (aH (pv 0) rK rfl)
   (ae (aH (pv 0) (IX Hy ao) rfl)
   (ae (aH (pv 0) (pv 1) rfl)
   (ah (aH (pv 0) (pv 2) rfl))))),?_⟩
  refine fun d hd=>?_
  have ne:a ≠ d:=aw ha hd
  refine ⟨_,rfl,_,_,_,_,rfl,(by rw [ai ne];exact ha),T.eT,T.cb,(by show 0 < 1000;decide),_,rfl,_,rfl,_,_,_,_,rfl,af,T.eT,T.kf,(by show 1 < 1000;decide),_,rfl,_,rfl,_,_,_,_,rfl,af,T.eT,T.sE,(by show 2 < 1000;decide),_,rfl,_,rfl,_,_,_,_,rfl,af,T.eT,T.pz,(by show 3 < 1000;decide),?_⟩
  rw [aW,aW,aW]
  exact q d hd
theorem wt {P:Program} {w:World} {K:PySem.W.Frag} {mg:Str->Option Value} {base:Heap} (T:Txt K mg):a8 P w K mg base kD 3 T.iE T.cX ["self"] (wq T):=by
 refine T.cE.ok vR (fun vs H Q E h=>?_) (fun cdv A outer s H vs Q E hr h=>?_)
 ·obtain ⟨a,dx,rfl,_⟩:=h
  rfl
 ·obtain ⟨a,dx,rfl,ha,q⟩:=h
  refine ⟨_,(ae (aH (pv 0) (iV rfl T.hJ) rfl)
   (ae (aH (pv 0) ao rfl)
   (ae (aH (pv 0) (mB T.tM (ly T) (hr.mono (by decide)) rfl T.DV (ml T) .nil aN (aa ao (aa eY ag))) rfl)
   (ae (aH (pv 0) (mB T.tM (ly T) (hr.mono (by decide)) rfl T.DV (ml T) .nil aN (aa ao (aa eY ag))) rfl)
   (ae (aH (pv 0) (mB T.tM (ly T) (hr.mono (by decide)) rfl T.DV (ml T) .nil aN (aa ao (aa eY ag))) rfl)
   (ae (aH (pv 0) rK rfl)
   (ae (aH (pv 0) rK rfl)
   (ae (aH (pv 0) (dk ag) rfl)
   (ae (aH (pv 0) rK rfl)
   (ae (aH (pv 0) rK rfl)
   (ae (aH (pv 0) ao rfl)
   (ae (aH (pv 0) ao rfl)
   (ah (aH (pv 0) (IX Hy ao) rfl)))))))))))))),?_⟩
  have t0:Tr H a (.ins T.aS dx []) [] H:=⟨ha,nofun,by simp,Kp.refl,nofun⟩
  refine ⟨_,rfl,_,_,_,_,rfl,t0.at_,T.aA,T.iR,(by show 0 < 1000;decide),?_⟩
  have t1:=t0.set (.ins T.aS dx [("rank",V.int (-1))])
  refine ⟨_,rfl,_,_,_,_,rfl,t1.at_,T.aA,T.ja,(by show 1 < 1000;decide),?_⟩
  have t2:=t1.set (.ins T.aS dx [("rank",V.int (-1)),("balls",V.int 0)])
  refine fun r1 x1 hr1 hx1 ne1=>⟨r1,x1,63,"drain",rfl,af,fun d1 hd1=>⟨rfl,?_⟩⟩
  have u2:=t2.roll (o2:=.ins T.gQ x1 (mv d1 (-1) 63 "drain")) hr1 hx1 ne1 hd1
  refine ⟨_,rfl,_,_,_,_,rfl,u2.at_,T.aA,T.bO,(by show 2 < 1000;decide),?_⟩
  have t3:=u2.set (.ins T.aS dx [("rank",V.int (-1)),("balls",V.int 0),("switches",V.ref r1)])
  refine fun r2 x2 hr2 hx2 ne2=>⟨r2,x2,63,"loop",rfl,af,fun d2 hd2=>⟨rfl,?_⟩⟩
  have u3:=t3.roll (o2:=.ins T.gQ x2 (mv d2 (-1) 63 "loop")) hr2 hx2 ne2 hd2
  refine ⟨_,rfl,_,_,_,_,rfl,u3.at_,T.aA,T.pA,(by show 3 < 1000;decide),?_⟩
  have t4:=u3.set (.ins T.aS dx [("rank",V.int (-1)),("balls",V.int 0),("switches",V.ref r1),("lamps",V.ref r2)])
  refine fun r3 x3 hr3 hx3 ne3=>⟨r3,x3,31,"",rfl,af,fun d3 hd3=>⟨rfl,?_⟩⟩
  have u4:=t4.roll (o2:=.ins T.gQ x3 (mv d3 (-1) 31 "")) hr3 hx3 ne3 hd3
  refine ⟨_,rfl,_,_,_,_,rfl,u4.at_,T.aA,T.gy,(by show 4 < 1000;decide),?_⟩
  have t5:=u4.set (.ins T.aS dx [("rank",V.int (-1)),("balls",V.int 0),("switches",V.ref r1),("lamps",V.ref r2),("coils",V.ref r3)])
  refine fun dm hdm=>?_
  have u5:=t5.add (o:=.dK []) hdm
  refine ⟨_,rfl,_,_,_,_,rfl,u5.at_,T.aA,T.gz,(by show 5 < 1000;decide),?_⟩
  have t6:=u5.set (.ins T.aS dx [("rank",V.int (-1)),("balls",V.int 0),("switches",V.ref r1),("lamps",V.ref r2),("coils",V.ref r3),("mosts",V.ref dm)])
  refine fun dd hdd=>?_
  have u6:=t6.add (o:=.dK []) hdd
  refine ⟨_,rfl,_,_,_,_,rfl,u6.at_,T.aA,T.eU,(by show 6 < 1000;decide),?_⟩
  have t7:=u6.set (.ins T.aS dx [("rank",V.int (-1)),("balls",V.int 0),("switches",V.ref r1),("lamps",V.ref r2),("coils",V.ref r3),("mosts",V.ref dm),("device_names",V.ref dd)])
  refine ⟨(by show 0<=sizeLine;decide),fun dp hdp=>?_⟩
  have u7:=t7.add (o:=.lst []) hdp
  refine ⟨_,rfl,_,_,_,_,rfl,u7.at_,T.aA,T.fb,(by show 7 < 1000;decide),?_⟩
  have t8:=u7.set (.ins T.aS dx [("rank",V.int (-1)),("balls",V.int 0),("switches",V.ref r1),("lamps",V.ref r2),("coils",V.ref r3),("mosts",V.ref dm),("device_names",V.ref dd),("plans",V.ref dp)])
  refine fun dh hdh=>?_
  have u8:=t8.add (o:=.dK []) hdh
  refine ⟨_,rfl,_,_,_,_,rfl,u8.at_,T.aA,T.kg,(by show 8 < 1000;decide),?_⟩
  have t9:=u8.set (.ins T.aS dx [("rank",V.int (-1)),("balls",V.int 0),("switches",V.ref r1),("lamps",V.ref r2),("coils",V.ref r3),("mosts",V.ref dm),("device_names",V.ref dd),("plans",V.ref dp),("held",V.ref dh)])
  refine fun db hdb=>?_
  have u9:=t9.add (o:=.dK []) hdb
  refine ⟨_,rfl,_,_,_,_,rfl,u9.at_,T.aA,T.fX,(by show 9 < 1000;decide),?_⟩
  have t10:=u9.set (.ins T.aS dx [("rank",V.int (-1)),("balls",V.int 0),("switches",V.ref r1),("lamps",V.ref r2),("coils",V.ref r3),("mosts",V.ref dm),("device_names",V.ref dd),("plans",V.ref dp),("held",V.ref dh),("busy_coils",V.ref db)])
  refine ⟨_,rfl,_,_,_,_,rfl,t10.at_,T.aA,T.ju,(by show 10 < 1000;decide),?_⟩
  have t11:=t10.set (.ins T.aS dx [("rank",V.int (-1)),("balls",V.int 0),("switches",V.ref r1),("lamps",V.ref r2),("coils",V.ref r3),("mosts",V.ref dm),("device_names",V.ref dd),("plans",V.ref dp),("held",V.ref dh),("busy_coils",V.ref db),("drained",V.int 0)])
  refine ⟨_,rfl,_,_,_,_,rfl,t11.at_,T.aA,T.jb,(by show 11 < 1000;decide),?_⟩
  have t12:=t11.set (.ins T.aS dx [("rank",V.int (-1)),("balls",V.int 0),("switches",V.ref r1),("lamps",V.ref r2),("coils",V.ref r3),("mosts",V.ref dm),("device_names",V.ref dd),("plans",V.ref dp),("held",V.ref dh),("busy_coils",V.ref db),("drained",V.int 0),("kicks",V.int 0)])
  refine ⟨_,rfl,_,rfl,_,_,_,_,rfl,t12.at_,T.aA,T.eV,(by show 12 < 1000;decide),?_⟩
  have t13:=t12.set (.ins T.aS dx [("rank",V.int (-1)),("balls",V.int 0),("switches",V.ref r1),("lamps",V.ref r2),("coils",V.ref r3),("mosts",V.ref dm),("device_names",V.ref dd),("plans",V.ref dp),("held",V.ref dh),("busy_coils",V.ref db),("drained",V.int 0),("kicks",V.int 0),("highest_kick",V.int (-1))])
  refine q _ ⟨a,dx,r1,x1,d1,r2,x2,d2,r3,x3,d3,dm,dd,dp,dh,db⟩ rfl ⟨t13.at_,⟨t13.ix 10 rfl,t13.ix 9 rfl⟩,⟨t13.ix 8 rfl,t13.ix 7 rfl⟩,⟨t13.ix 6 rfl,t13.ix 5 rfl⟩,t13.ix 4 rfl,t13.ix 3 rfl,t13.ix 1 rfl,t13.ix 0 rfl,⟨[],t13.ix 2 rfl,rfl,fun i c p e=>by simp at e⟩,?_⟩ t13.kp ?_
  ·show [a,r1,d1,r2,d2,r3,d3,dm,dd,dp,dh,db].Nodup
   have nd:(a :: [db,dh,dp,dd,dm,d3,r3,d2,r2,d1,r1]).Nodup:=t13.nd
   rw [List.nodup_cons] at nd
   show (a :: [db,dh,dp,dd,dm,d3,r3,d2,r2,d1,r1].reverse).Nodup
   rw [List.nodup_cons,List.mem_reverse]
   exact ⟨nd.1,(List.reverse_perm _).nodup_iff.mpr nd.2⟩
  ·intro x hx
   unfold TA.all at hx
   simp only [List.mem_cons,List.not_mem_nil,or_false] at hx
   rcases hx with rfl | rfl | rfl | rfl | rfl | rfl | rfl | rfl | rfl | rfl | rfl | rfl
   ·exact .inl rfl
   ·exact .inr (t13.KI 10 rfl)
   ·exact .inr (t13.KI 9 rfl)
   ·exact .inr (t13.KI 8 rfl)
   ·exact .inr (t13.KI 7 rfl)
   ·exact .inr (t13.KI 6 rfl)
   ·exact .inr (t13.KI 5 rfl)
   ·exact .inr (t13.KI 4 rfl)
   ·exact .inr (t13.KI 3 rfl)
   ·exact .inr (t13.KI 2 rfl)
   ·exact .inr (t13.KI 1 rfl)
   ·exact .inr (t13.KI 0 rfl)
section
variable {K:PySem.W.Frag} {mg:Str->Option Value}
noncomputable def B0 (T:Txt K mg):Sp:=fun vs H Q E=>∃ (tx:Addr) (b:Tilt.Bytes),vs = [.ref tx]/\H tx = some (.lst (bv b))/\b.length<=16384/\(match Tilt.readTable b with
 | .error f=>fi T [] H E f
 | .ok Tb=>∀ H' A pt s,TableAt T H' A pt->jT pt s Tb->kq pt->bc H H'->Q (.ref A.t) H')
structure Ow (T:Txt K mg) (H0 H:Hp) (A:TA) (b:Tilt.Bytes) (p:Nat) (pt:PT):Prop where
 A8:lU b p pt
 tab:TableAt T H A pt
 same:bc H0 H
 new:∀ x ∈ A.all,H0 x = none
end
theorem B1 {P:Program} {w:World} {K:PySem.W.Frag} {mg:Str->Option Value} {base:Heap} (T:Txt K mg):a8 P w K mg base (uh P w) 9 T.mQ T.gu ["text"] (B0 T):=by
 refine T.eL.tU i7 (fun vs H Q E h=>?_) (fun cdv A outer s H vs Q E hr h=>?_)
 ·obtain ⟨tx,b,rfl,_⟩:=h
  rfl
 ·obtain ⟨tx,b,rfl,htx,hz,q⟩:=h
  refine ⟨_,(ae (aY (rB (bQ (pv 0) (fun _=>rfl))) (ah (bF bq rfl T.xc (az T) (hr.mono (by decide)) rfl T.bZ (aB T) (aa ao (aa ao ag)))) aC)
   (ae (aR (i:=1) i7.nd rfl (Or.inl rfl) (Ag T.v5 (wt T) (hr.mono (by decide)) rfl T.Jv (xu T) .nil aN))
   (ae (aR (i:=2) i7.nd rfl (Or.inl rfl) ao)
   (ae (zZ bq.own (aI pF (pv 2) (aZ bX (by rfl) T.gK PySem.boot_len (aa (pv 0) ag)) (aG _)) (ae (aR (i:=3) i7.nd rfl (Or.inl rfl) (aq (Er T) (hr.mono (by decide)) rfl T.yt T.fG.kp (Ge T) .nil (bC bq) (aa (pv 0) (aa (pv 2) ag))))
   (ae (aJ (aq (Eo T) (hr.mono (by decide)) rfl T.yx T.fO.kp (Gm T) .nil (bC bq) (aa (pv 1) (aa (pv 3) ag))))
   (ah (aR (i:=2) i7.nd rfl (Or.inl rfl) (cQ lX (aj (pv 3) rfl) ao))))))
   (ae (aY (aI pF (aj (pv 1) rfl) (aj (pv 1) rfl) (aG _)) (ah (bF bq rfl T.xc (az T) (hr.mono (by decide)) rfl T.bZ (aB T) (aa ao (aa (aZ bX (by rfl) T.gK PySem.boot_len (aa (pv 0) ag)) ag)))) aC)
   (ah (aE (pv 1)))))))),?_⟩
  refine ⟨_,rfl,_,.inl ⟨_,dj.of htx,rfl⟩,?_⟩
  cases hb0:b with
  | nil =>
   subst hb0
   refine aQ ?_
   exact bj (k:=1) (p:=0) q
  | cons c0 b0 =>
   rw [←hb0]
   have hbne:b ≠ []:=by rw [hb0];simp
   rw [show (!(!(bv b).isEmpty)) = false by rw [hb0];rfl]
   refine aM fun ta tdx hta htdx tne=>?_
   have hta':upd H tdx (.own ta) ta = none:=by rw [ai (Ne.symm tne)];exact hta
   have k0:bc H (upd (upd H tdx (.own ta)) ta (.ins T.aS tdx [])):=Kp.same ((Kp.new htdx).trans (Kp.new hta'))
   refine ⟨ta,tdx,rfl,af,fun H1 A' eA hT1 k1 hnew=>⟨rfl,?_⟩⟩
   subst eA
   have new0:∀ x ∈ A'.all,H x = none:=fun x hx=>by
    rcases hnew x hx with rfl | h
    ·exact hta
    ·cases e:H x with
     | none=>rfl
     | some o=>rw [k0 x o e] at h;cases h
   have same1:bc H H1:=fun x o e=>k1 x o (k0 x o e) (by simpa using aw e hta)
   refine ⟨fun m σ H2=>∃ p pt u,σ = [some (.ref tx),some (.ref A'.t),some (.int (p:Nat)),u]/\m = b.length - p/\Ow T H H2 A' b p pt,⟨b.length,0,PT.new,_,rfl,by omega,⟨lU.start b,hT1,same1,new0⟩⟩,?_⟩
   rintro m σ H2 ⟨p,pt,u,rfl,rfl,li⟩
   have htx2:=li.same _ _ htx
   have hple:=li.A8.le
   obtain ⟨bL,hsm⟩:=li.A8.PB
   refine ⟨_,rfl,_,rfl,_,_,rfl,.inl ⟨_,dj.of htx2,rfl⟩,_,_,rfl,rfl,_,rfl,?_⟩
   rw [qX]
   by_cases hp:p < b.length
   ·rw [decide_eq_true (show ((p:Nat):Int) < ((b.length:Nat):Int) by omega)]
    refine aQ ⟨fun σ' H'=>∃ p' pt' u,σ' = [some (.ref tx),some (.ref A'.t),some (.int (p':Nat)),u]/\p < p'/\Ow T H H' A' b p' pt',?_,?_⟩
    ·rintro σ' H' ⟨p',pt',u',rfl,hpp,li'⟩
     exact ⟨b.length - p',by have:=li'.A8.le;omega,p',pt',u',rfl,rfl,li'⟩
    refine ⟨_,rfl,_,rfl,tx,b,p,rfl,htx2,hz,hple,?_⟩
    cases hu:Tilt.upTo (b.drop p) with
    | none =>
     rw [li.A8.M5 hp hu] at q
     exact fi.kp q (Kp.of_same li.same) (by simp)
    | some x =>
     obtain ⟨l,r⟩:=x
     dsimp only
     cases hb:Tilt.badByte true 0 l with
     | some i =>
      rw [li.A8.bad hp hu hb] at q
      exact fi.kp q (Kp.of_same li.same) (by simp)
     | none =>
      dsimp only
      intro H3 L hwl hln hL s3
      have hg:=li.A8.line hp hu hb
      have k3:Kp [] H2 H3:=Kp.of_same s3
      have hT3:=li.tab.kp k3 (by simp) (by simp)
      have hB3:jd T H3 A' pt L (p + l.length) [] (Tilt.wordsFrom p [] l):=⟨hT3,hL,fun e=>by
       obtain ⟨as,ea,_⟩:=li.tab.pl
       rw [e,ea] at hwl;cases hwl⟩
      have same3:=li.same.trans s3
      have hLn:H L.l = none:=li.same.free hln
      have apart:∀ x o,H x = some o->x ∉ L.l :: A'.all:=fun x o e hx=>by
       rcases List.mem_cons.mp hx with hx | hx
       ·rw [hx,hLn] at e;cases e
       ·rw [li.new x hx] at e;cases e
      refine ⟨_,rfl,_,rfl,A',pt,L,p + l.length,_,rfl,hB3,bL,hsm,?_⟩
      cases hlp:Aq pt ⟨Tilt.wordsFrom p [] l,p + l.length⟩ with
      | error f =>
       rw [hlp] at hg
       rw [show Tilt.readTable b = .error f from hg] at q
       exact fun d H' hd kk=>q d H' hd fun x o e _=>kk x o (same3 x o e) (apart x o e)
      | ok pt' =>
       rw [hlp] at hg
       intro H4 pre4 hB4 k4
       have same4:bc H H4:=fun x o e=>k4 x o (same3 x o e) (apart x o e)
       refine ⟨_,rfl,_,_,_,_,_,rfl,hB4.pD.obj,T.a7,T.lJ,sv,_,_,rfl,rfl,?_⟩
       exact ⟨p + l.length + 1,pt',_,rfl,by omega,⟨hg,hB4.tab,same4,li.new⟩⟩
   ·rw [decide_eq_false (show ¬ ((p:Nat):Int) < ((b.length:Nat):Int) by omega)]
    obtain ⟨s',Tb,hr2,hrt⟩:=li.A8.fin (by omega) hbne
    rw [hrt] at q
    refine aM ⟨_,rfl,_,_,_,_,_,rfl,li.tab.obj,T.aA,T.ju,pY,_,rfl,_,_,_,_,_,rfl,li.tab.obj,T.aA,T.ja,sx,_,_,rfl,rfl,_,rfl,?_⟩
    by_cases hd:pt.drained < pt.balls
    ·rw [decide_eq_true (show ((pt.drained:Nat):Int) < ((pt.balls:Nat):Int) by omega)]
     rw [if_neg (by rw [←hr2.balls,←hr2.drained];omega)] at q
     refine aQ ⟨_,rfl,_,_,rfl,.inl ⟨_,dj.of htx2,rfl⟩,?_⟩
     rw [qX]
     exact bj (k:=8) (fi.kp q (Kp.of_same li.same) (fun _ h=>h))
    ·rw [decide_eq_false (show ¬ ((pt.drained:Nat):Int) < ((pt.balls:Nat):Int) by omega)]
     rw [if_pos (by rw [←hr2.balls,←hr2.drained];omega)] at q
     exact aM ⟨_,rfl,q _ _ _ _ li.tab hr2 bL li.same⟩
end Pb
namespace Pb
open PySem PySem.Spec PyProof.Rows L2
theorem yU:vw ["plan","mask","spot"] (ak i5) (KG (Me (Md (atS i5 0)))) [("spot",2)]:=⟨by decide +kernel,by decide +kernel,by decide +kernel,by decide +kernel,by decide +kernel⟩
theorem Es (m s:Nat):((m:Nat):Int) / 2 ^ ((s:Nat):Int).toNat = ((m / 2 ^ s:Nat):Int):=by
 rw [Int.toNat_natCast,Int.natCast_ediv,Int.natCast_pow]
 rfl
theorem Rn (m s:Nat):Builtin.bitAnd (((m:Nat):Int) / 2 ^ ((s:Nat):Int).toNat) 1 = if m.testBit s = true then 1 else 0:=by
 rw [Es,bitAnd_m1,Nat.testBit_eq_decide_div_mod_eq]
 by_cases h:m / 2 ^ s % 2 = 1
 ·rw [if_pos (by simpa using h)];omega
 ·rw [if_neg (by simpa using h)];omega
noncomputable def shown (sp:List Nat) (m:Nat):Nat:=(sp.filter fun p=>m.testBit p).length
theorem C2 (m:Nat):∀ sp:List Nat,(sp.map fun s=>if m.testBit s = true then (1:Int) else 0).sum = ((shown sp m:Nat):Int)
 | []=>rfl
 | s :: sp=>by
  rw [List.map_cons,List.sum_cons,C2 m sp]
  unfold shown
  rw [List.filter_cons]
  by_cases h:m.testBit s = true
  ·rw [if_pos h,if_pos h,List.length_cons];omega
  ·rw [if_neg h,if_neg h];omega
theorem shown_le (sp:List Nat) (m:Nat):shown sp m<=sp.length:=List.length_filter_le _ _
structure GA where
 lg:Addr
 dx:Addr
 ea:Addr
 pa:Addr
noncomputable def kx (l:List Nat):List V:=l.map fun n=>V.int ((n:Nat):Int)
noncomputable def Et (ev:List (Nat × Nat)):List Nat:=ev.flatMap fun z=>[z.1,z.2]
noncomputable def PD (os:List Tilt.Order):List Nat:=os.flatMap fun x=>[x.at_,x.coil,x.ticks]
theorem GK (a b:List Nat):kx (a ++ b) = kx a ++ kx b:=by unfold kx;rw [List.map_append]
theorem d5 (a:List Nat):(kx a).length = a.length:=by unfold kx;rw [List.length_map]
theorem lR (ev:List (Nat × Nat)):(Et ev).length = 2 * ev.length:=by
 unfold Et
 induction ev with
 | nil=>rfl
 | cons a r ih=>rw [List.flatMap_cons,List.length_append,ih];show 2 + 2 * r.length = 2 * (r.length + 1);omega
theorem zU (os:List Tilt.Order):(PD os).length = 3 * os.length:=by
 unfold PD
 induction os with
 | nil=>rfl
 | cons a r ih=>rw [List.flatMap_cons,List.length_append,ih];show 3 + 3 * r.length = 3 * (r.length + 1);omega
section
variable {K:PySem.W.Frag} {mg:Str->Option Value}
structure fh (T:Txt K mg) (H:Hp) (G:GA) (tick:Nat) (ev:List (Nat × Nat)) (os:List Tilt.Order):Prop where
 obj:H G.lg = some (.ins T.jH G.dx (vV (tick:Nat) G.ea G.pa))
 ev:H G.ea = some (.lst (kx (Et ev)))
 os:H G.pa = some (.lst (kx (PD os)))
 ne:G.ea ≠ G.pa
structure d6 (T:Txt K mg) (H:Hp) (a dx:Addr) (i:Nat) (pl:Addr) (n:Tilt.Now):Prop where
 obj:H a = some (.ins T.aO dx (a0 (i:Nat) pl (n.shows:Nat) (n.still:Nat) (n.count:Nat) (n.want:Nat) (n.tries:Nat) (n.left:Nat)))
theorem fh.kp {T:Txt K mg} {H H':Hp} {G:GA} {tick:Nat} {ev:List (Nat × Nat)} {os:List Tilt.Order} (x:fh T H G tick ev os) {S:List Addr} (k:Kp S H H') (h1:G.lg ∉ S) (h2:G.ea ∉ S) (h3:G.pa ∉ S):fh T H' G tick ev os :=
 ⟨k _ _ x.obj h1,k _ _ x.ev h2,k _ _ x.os h3,x.ne⟩
theorem di.same {T:Txt K mg} {H H':Hp} {a:Addr} {p:Plan} (x:di T H a p) (k:bc H H'):di T H' a p:=let ⟨dx,sl,e1,e2,ne⟩:=x;⟨dx,sl,k _ _ e1,k _ _ e2,ne⟩
noncomputable def yB (T:Txt K mg) (H:Hp) (a:Addr) (p:Plan):Prop:=∃ dx sl,H a = some (.ins T.eZ dx (nL p.coil p.pulse sl))
theorem di.o {T:Txt K mg} {H:Hp} {a:Addr} {p:Plan} (x:di T H a p):yB T H a p:=let ⟨dx,sl,e1,_⟩:=x;⟨dx,sl,e1⟩
theorem di.My {T:Txt K mg} {H H':Hp} {a b dx pl:Addr} {i:Nat} {n:Tilt.Now} {p:Plan} (x:di T H a p) (d:d6 T H b dx i pl n) (k:Kp [b] H H'):di T H' a p :=
 let ⟨dx,sl,e1,e2,ne⟩:=x
 ⟨dx,sl,k _ _ e1 fun z=>aU e1 d.obj oU cx (by decide) (List.mem_singleton.mp z),k _ _ e2 fun z=>aU e2 d.obj bf cx (by decide) (List.mem_singleton.mp z),ne⟩
theorem fh.My {T:Txt K mg} {H H':Hp} {G:GA} {tick:Nat} {ev:List (Nat × Nat)} {os:List Tilt.Order} {b dx pl:Addr} {i:Nat} {n:Tilt.Now} (x:fh T H G tick ev os) (d:d6 T H b dx i pl n) (k:Kp [b] H H'):fh T H' G tick ev os :=
 x.kp k (fun z=>aU x.obj d.obj qV cx (by decide) (List.mem_singleton.mp z)) (fun z=>aU x.ev d.obj bf cx (by decide) (List.mem_singleton.mp z)) (fun z=>aU x.os d.obj bf cx (by decide) (List.mem_singleton.mp z))
theorem d6.RC {T:Txt K mg} {H H':Hp} {G:GA} {tick:Nat} {ev:List (Nat × Nat)} {os:List Tilt.Order} {b dx pl:Addr} {i:Nat} {n:Tilt.Now} (d:d6 T H b dx i pl n) (x:fh T H G tick ev os) (k:Kp [G.ea,G.pa] H H'):d6 T H' b dx i pl n :=
 ⟨k _ _ d.obj (by
  intro z
  simp only [List.mem_cons,List.not_mem_nil,or_false] at z
  rcases z with z | z
  ·exact aU d.obj x.ev cx bf (by decide) z
  ·exact aU d.obj x.os cx bf (by decide) z)⟩
noncomputable def yV (T:Txt K mg):Sp:=fun vs H Q _=>∃ (a dx:Addr),vs = [.ref a]/\H a = some (.ins T.jH dx [])/\∀ H' G,G.lg = a->fh T H' G 0 [] []->Kp [a] H H'->H G.ea = none->H G.pa = none->Q .fR H'
noncomputable def wu (T:Txt K mg):Sp:=fun vs H Q _=>∃ (G:GA) (tick:Nat) (ev:List (Nat × Nat)) (os:List Tilt.Order) (e:Nat),vs = [.ref G.lg,.int (e:Nat)]/\fh T H G tick ev os/\ev.length < 1000000/\∀ H',fh T H' G tick (ev ++ [(tick,e)]) os->Kp [G.ea] H H'->Q .fR H'
noncomputable def wx (T:Txt K mg):Sp:=fun vs H Q _=>∃ (G:GA) (tick:Nat) (ev:List (Nat × Nat)) (os:List Tilt.Order) (a:Addr) (p:Plan),vs = [.ref G.lg,.ref a]/\fh T H G tick ev os/\os.length < 1000000/\yB T H a p ∧
 ∀ H',fh T H' G tick ev (os ++ [⟨tick,0,p.coil,p.pulse⟩])->Kp [G.pa] H H'->Q .fR H'
noncomputable def A9 (T:Txt K mg):Sp:=fun vs H Q _=>∃ (a:Addr) (p:Plan) (m:Nat),vs = [.ref a,.int (m:Nat)]/\di T H a p/\p.gE.length<=8/\∀ H',bc H H'->Q (.int ((shown p.gE m:Nat):Int)) H'
noncomputable def IA (T:Txt K mg):Sp:=fun vs H Q _=>∃ (a dx:Addr) (i:Nat) (pl:Addr) (n:Tilt.Now),vs = [.ref a]/\d6 T H a dx i pl n/\Q (.bl (decide (n.still = Tilt.REST))) H
noncomputable def Ni (T:Txt K mg):Sp:=fun vs H Q _=>∃ (a dx:Addr) (i:Nat) (pl:Addr) (n:Tilt.Now) (p:Plan) (m:Nat),vs = [.ref a,.int (m:Nat)]/\d6 T H a dx i pl n/\di T H pl p/\p.gE.length<=8/\∀ H',d6 T H' a dx i pl (pR n (shown p.gE m))->Kp [a] H H'->Q .fR H'
noncomputable def KJ (T:Txt K mg):Sp:=fun vs H Q _=>∃ (a dx:Addr) (i:Nat) (pl:Addr) (n:Tilt.Now),vs = [.ref a]/\d6 T H a dx i pl n/\0 < n.want/\∀ H',d6 T H' a dx i pl (tf n)->Kp [a] H H'->Q .fR H'
end
theorem yW {P:Program} {w:World} {K:PySem.W.Frag} {mg:Str->Option Value} {base:Heap} (T:Txt K mg):a8 P w K mg base kD 1 T.j4 T.eB ["self"] (yV T):=by
 refine T.dY.ok yI (fun vs H Q E h=>?_) (fun cdv A outer s H vs Q E hr h=>?_)
 ·obtain ⟨a,dx,rfl,_⟩:=h
  rfl
 ·obtain ⟨a,dx,rfl,ha,q⟩:=h
  refine ⟨_,(ae (aH (pv 0) ao rfl)
   (ae (aH (pv 0) (dk ag) rfl)
   (ah (aH (pv 0) (dk ag) rfl)))),?_⟩
  have t0:Tr H a (.ins T.jH dx []) [] H:=⟨ha,nofun,by simp,Kp.refl,nofun⟩
  refine ⟨_,rfl,_,_,_,_,rfl,t0.at_,T.gC,T.nQ,(by show 0 < 1000;decide),?_⟩
  have t1:=t0.set (.ins T.jH dx [("tick",V.int 0)])
  refine ⟨(by show 0<=sizeLine;decide),fun ea hea=>?_⟩
  have u1:=t1.add (o:=.lst []) hea
  refine ⟨_,rfl,_,_,_,_,rfl,u1.at_,T.gC,T.kc,(by show 1 < 1000;decide),?_⟩
  have t2:=u1.set (.ins T.jH dx [("tick",V.int 0),("events",V.ref ea)])
  refine ⟨(by show 0<=sizeLine;decide),fun pa hpa=>?_⟩
  have u2:=t2.add (o:=.lst []) hpa
  refine ⟨_,rfl,_,_,_,_,rfl,u2.at_,T.gC,T.kd,(by show 2 < 1000;decide),?_⟩
  have t3:=u2.set (.ins T.jH dx [("tick",V.int 0),("events",V.ref ea),("pulses",V.ref pa)])
  refine q _ ⟨a,dx,ea,pa⟩ rfl ⟨t3.at_,t3.ix 1 rfl,t3.ix 0 rfl,?_⟩ t3.kp (t3.KI 1 rfl) (t3.KI 0 rfl)
  have nd:=t3.nd
  simp at nd
  exact fun e=>nd.2 e.symm
theorem kr {P:Program} {w:World} {K:PySem.W.Frag} {mg:Str->Option Value} {base:Heap} (T:Txt K mg):a8 P w K mg base kD 1 T.ig T.cT ["self","event"] (wu T):=by
 refine T.b6.ok vJ (fun vs H Q E h=>?_) (fun cdv A outer s H vs Q E hr h=>?_)
 ·obtain ⟨G,tick,ev,os,e,rfl,_⟩:=h
  rfl
 ·obtain ⟨G,tick,ev,os,e,rfl,hL,hz,q⟩:=h
  refine ⟨_,(ah (aJ (ug PySem.F.plainAttrs_list PySem.F.slot_list_extend PySem.F.type_list_extend pJ (aj (pv 0) rfl) (aa (dk (aa (aj (pv 0) rfl) (aa (pv 1) ag))) ag)))),?_⟩
  refine ⟨_,rfl,_,_,_,_,_,rfl,hL.obj,T.gC,T.kc,pf,.inl ⟨rfl,_,dj.of hL.ev⟩,_,rfl,_,_,_,_,_,rfl,hL.obj,T.gC,T.nQ,yo,_,rfl,(by show 2<=sizeLine;decide),fun l hl=>?_⟩
  have ne:G.ea ≠ l:=aw hL.ev hl
  refine ⟨G.ea,l,_,_,rfl,rfl,(by rw [ai ne];exact hL.ev),af,?_,?_⟩
  ·rw [d5,lR]
   show 2 * ev.length + 2<=sizeLine
   exact Nat.le_trans (by omega:2 * ev.length + 2<=2000002) (by decide)
  ·have k1:Kp [G.ea] H (upd (upd H l (.lst [V.int (tick:Nat),V.int (e:Nat)])) G.ea (.lst (kx (Et ev) ++ [V.int (tick:Nat),V.int (e:Nat)]))):=(Kp.new hl).trans (Kp.wr (by simp))
   refine q _ ⟨k1 _ _ hL.obj ?_,?_,k1 _ _ hL.os (by simpa using Ne.symm hL.ne),hL.ne⟩ k1
   ·intro z;exact aU hL.obj hL.ev qV bf (by decide) (List.mem_singleton.mp z)
   ·rw [af]
    unfold Et
    rw [List.flatMap_append,GK]
    rfl
theorem oX {P:Program} {w:World} {K:PySem.W.Frag} {mg:Str->Option Value} {base:Heap} (T:Txt K mg):a8 P w K mg base kD 1 T.ij T.cU ["self","plan"] (wx T):=by
 refine T.b7.ok vK (fun vs H Q E h=>?_) (fun cdv A outer s H vs Q E hr h=>?_)
 ·obtain ⟨G,tick,ev,os,a,p,rfl,_⟩:=h
  rfl
 ·obtain ⟨G,tick,ev,os,a,p,rfl,hL,hz,hp,q⟩:=h
  refine ⟨_,(ah (aJ (ug PySem.F.plainAttrs_list PySem.F.slot_list_extend PySem.F.type_list_extend pJ (aj (pv 0) rfl) (aa (dk (aa (aj (pv 0) rfl) (aa (aj (pv 1) rfl) (aa (aj (pv 1) rfl) ag)))) ag)))),?_⟩
  obtain ⟨pdx,sl,e1⟩:=hp
  refine ⟨_,rfl,_,_,_,_,_,rfl,hL.obj,T.gC,T.kd,ph,.inl ⟨rfl,_,dj.of hL.os⟩,_,rfl,_,_,_,_,_,rfl,hL.obj,T.gC,T.nQ,yo,_,rfl,_,_,_,_,_,rfl,e1,T.qL,T.sG,DQ,_,rfl,_,_,_,_,_,rfl,e1,T.qL,T.qM,BH,(by show 3<=sizeLine;decide),fun l hl=>?_⟩
  have ne:G.pa ≠ l:=aw hL.os hl
  refine ⟨G.pa,l,_,_,rfl,rfl,(by rw [ai ne];exact hL.os),af,?_,?_⟩
  ·rw [d5,zU]
   show 3 * os.length + 3<=sizeLine
   exact Nat.le_trans (by omega:3 * os.length + 3<=3000003) (by decide)
  ·have k1:Kp [G.pa] H (upd (upd H l (.lst [V.int (tick:Nat),V.int (p.coil:Nat),V.int (p.pulse:Nat)])) G.pa (.lst (kx (PD os) ++ [V.int (tick:Nat),V.int (p.coil:Nat),V.int (p.pulse:Nat)]))):=(Kp.new hl).trans (Kp.wr (by simp))
   refine q _ ⟨k1 _ _ hL.obj ?_,k1 _ _ hL.ev (by simpa using hL.ne),?_,hL.ne⟩ k1
   ·intro z;exact aU hL.obj hL.os qV bf (by decide) (List.mem_singleton.mp z)
   ·rw [af]
    unfold PD
    rw [List.flatMap_append,GK]
    rfl
theorem sN {P:Program} {w:World} {K:PySem.W.Frag} {mg:Str->Option Value} {base:Heap} (T:Txt K mg):a8 P w K mg base kD 1 T.lB T.fq ["plan","mask"] (A9 T):=by
 refine T.cH.ok nz (fun vs H Q E h=>?_) (fun cdv A outer s H vs Q E hr h=>?_)
 ·obtain ⟨a,p,m,rfl,_⟩:=h
  rfl
 ·obtain ⟨a,p,m,rfl,hp,hz,q⟩:=h
  refine ⟨_,(ah (aE (aZ (HE rfl) (by rfl) T.CW Ii (aa (CB rfl nz.nd (sT (aj (pv 0) rfl)) (own:=[("spot",2)]) yU (fun _ _ _ _ _=>(d7 (i:=2) nz.nd rfl (Or.inl rfl))) (fun _ _ _ _ _=>sX) (fun _ _ _ _ _=>(cQ Hx (cQ Lr (pv 1) (pv 2)) ao))) ag)))),?_⟩
  obtain ⟨pdx,sl,e1,e2,pne⟩:=hp
  refine ⟨_,rfl,_,_,_,_,_,rfl,e1,T.qL,T.qN,BI,sl,rfl,⟨_,dj.of e2⟩,fun D hD=>?_⟩
  refine vx (xs:=p.gE.map fun (n:Nat)=>V.int n) (fun i H2=>bc H H2/\H2 D = some (.lst (((p.gE.take i).map fun s=>if m.testBit s = true then (1:Int) else 0).map V.int))) ⟨Kp.same (Kp.new hD),af⟩ (fun i H2 _ h=>dj.of (h.1 _ _ e2)) ?_ ?_
  ·rintro i x H2 hx ⟨s2,ed⟩
   have hi:i < p.gE.length:=by have:=(List.getElem?_eq_some_iff.mp hx).1;rw [List.length_map] at this;exact this
   have hc:p.gE[i]? = some p.gE[i]:=List.getElem?_eq_getElem hi
   rw [List.getElem?_map,hc] at hx
   cases hx
   refine ⟨rfl,?_⟩
   unfold HG
   refine aQ ⟨_,rfl,_,rfl,_,_,rfl,rfl,(by show (0:Int)<=((p.gE[i]:Nat):Int);omega),_,_,rfl,rfl,_,ed,?_,eX s2 hD,?_⟩
   ·rw [List.length_map,List.length_map,List.length_take];exact Nat.lt_of_le_of_lt (Nat.min_le_right _ _) (Nat.lt_of_le_of_lt hz (by decide))
   ·rw [af,take_one hc,List.map_append,List.map_append]
    dsimp only
    rw [Rn]
    rfl
  ·rintro H2 ⟨s2,ed⟩
   rw [List.length_map,List.take_length] at ed
   refine ⟨D,_,rfl,dj.of ed,?_⟩
   rw [C2]
   exact q H2 s2
theorem Ba {P:Program} {w:World} {K:PySem.W.Frag} {mg:Str->Option Value} {base:Heap} (T:Txt K mg):a8 P w K mg base kD 1 T.tq T.kS ["device"] (IA T):=by
 refine T.ik.ok HX (fun vs H Q E h=>?_) (fun cdv A outer s H vs Q E hr h=>?_)
 ·obtain ⟨a,dx,i,pl,n,rfl,_⟩:=h
  rfl
 ·obtain ⟨a,dx,i,pl,n,rfl,hD,q⟩:=h
  refine ⟨_,(ah (aE (cR dX (aj (pv 0) rfl) (iV rfl T.iS) (aG _)))),?_⟩
  refine ⟨_,rfl,_,_,_,_,_,rfl,hD.obj,T.ax,T.dg,kR,rfl,?_⟩
  by_cases z:n.still = Tilt.REST
  ·rw [decide_eq_true z] at q
   rw [wL (by rw [z];rfl)]
   exact q
  ·rw [decide_eq_false z] at q
   rw [rq (fun y=>z (by show n.still = 128;omega))]
   exact q
theorem C3 {P:Program} {w:World} {K:PySem.W.Frag} {mg:Str->Option Value} {base:Heap} (T:Txt K mg):a8 P w K mg base kD 1 T.vX T.ni ["device"] (KJ T):=by
 refine T.j6.ok Kn (fun vs H Q E h=>?_) (fun cdv A outer s H vs Q E hr h=>?_)
 ·obtain ⟨a,dx,i,pl,n,rfl,_⟩:=h
  rfl
 ·obtain ⟨a,dx,i,pl,n,rfl,hD,hw,q⟩:=h
  refine ⟨_,(ae (aH (pv 0) ao rfl)
   (ae (aH (pv 0) ao rfl)
   (ah (gd (pv 0) ao Lw)))),?_⟩
  refine ⟨_,rfl,_,_,_,_,rfl,hD.obj,T.ax,T.b9,et,_,rfl,_,_,_,_,rfl,af,T.ax,T.d4,et,_,rfl,_,_,_,_,_,rfl,af,T.ax,T.cM,gf,_,_,rfl,rfl,_,_,af,et,?_⟩
  rw [aW,aW]
  refine q _ ⟨?_⟩ (Kp.wr (by simp))
  rw [af]
  show some (HO.ins T.aO dx (a0 (i:Nat) pl (n.shows:Nat) (n.still:Nat) (n.count:Nat) (((n.want:Nat):Int) - 1) 0 0)) = some (HO.ins T.aO dx (a0 (i:Nat) pl (n.shows:Nat) (n.still:Nat) (n.count:Nat) ((n.want - 1:Nat):Int) 0 0))
  rw [show ((n.want:Nat):Int) - 1 = ((n.want - 1:Nat):Int) by omega]
theorem Nj {P:Program} {w:World} {K:PySem.W.Frag} {mg:Str->Option Value} {base:Heap} (T:Txt K mg):a8 P w K mg base kD 2 T.DS T.tw ["device","mask"] (Ni T):=by
 refine T.sA.ok Js (fun vs H Q E h=>?_) (fun cdv A outer s H vs Q E hr h=>?_)
 ·obtain ⟨a,dx,i,pl,n,p,m,rfl,_⟩:=h
  rfl
 ·obtain ⟨a,dx,i,pl,n,p,m,rfl,hD,hp,hz,q⟩:=h
  refine ⟨_,(ae (aR (i:=2) Js.nd rfl (Or.inl rfl) (aq (sN T) (hr.mono (by decide)) rfl T.pw T.cH.kp (uz T) .nil aN (aa (aj (pv 0) rfl) (aa (pv 1) ag))))
   (ah (aY (aI Fi (pv 2) (aj (pv 0) rfl) (aG _)) (ae (aH (pv 0) (pv 2) rfl)
   (ah (aH (pv 0) ao rfl))) (ah (aH (pv 0) (aZ (sV rfl) (by rfl) T.AO D3 (aa (iV rfl T.iS) (aa (cQ lX (aj (pv 0) rfl) ao) ag))) rfl))))),?_⟩
  refine ⟨_,rfl,_,_,_,_,_,rfl,hD.obj,T.ax,T.i9,nH,_,rfl,pl,p,m,rfl,hp,hz,fun H1 s1=>?_⟩
  have hD1:=s1 _ _ hD.obj
  refine ⟨_,rfl,_,rfl,_,_,_,_,_,rfl,hD1,T.ax,T.cO,jf,rfl,_,rfl,?_⟩
  have k1:Kp [a] H H1:=Kp.of_same s1
  unfold pR at q
  by_cases z:shown p.gE m = n.shows
  ·rw [if_pos z] at q
   rw [wL (by omega)]
   refine aM ⟨_,rfl,_,_,_,_,_,rfl,hD1,T.ax,T.dg,kR,_,_,rfl,rfl,_,_,rfl,?_⟩
   refine ⟨_,rfl,_,_,_,_,rfl,hD1,T.ax,T.dg,et,?_⟩
   rw [xo]
   refine q _ ⟨?_⟩ (k1.trans (Kp.wr (by simp)))
   rw [af]
   show some (HO.ins T.aO dx (a0 _ pl _ (if ((n.still:Nat):Int) + 1 < 128 then ((n.still:Nat):Int) + 1 else 128) _ _ _ _)) = some (HO.ins T.aO dx (a0 _ pl _ ((min 128 (n.still + 1):Nat):Int) _ _ _ _))
   rw [show (if ((n.still:Nat):Int) + 1 < 128 then ((n.still:Nat):Int) + 1 else 128) = ((min 128 (n.still + 1):Nat):Int) by split <;> omega]
  ·rw [if_neg z] at q
   rw [rq (by omega)]
   refine aQ ⟨_,rfl,_,rfl,_,_,_,_,rfl,hD1,T.ax,T.cO,et,_,rfl,_,_,_,_,rfl,af,T.ax,T.dg,et,?_⟩
   rw [aW]
   exact q _ ⟨af⟩ (k1.trans (Kp.wr (by simp)))
end Pb
namespace Pb
open PySem PySem.Spec PyProof.Rows L2
noncomputable def atT (tick:Nat) (l:List Nat):List (Nat × Nat):=l.map fun e=>(tick,e)
theorem qY (t:Nat) (a b:List Nat):atT t (a ++ b) = atT t a ++ atT t b:=by unfold atT;rw [List.map_append]
theorem qZ (t:Nat) (a:List Nat):(atT t a).length = a.length:=by unfold atT;rw [List.length_map]
theorem GL {α:Type} (n:Nat) (x:α):List.replicate (n + 1) x = List.replicate n x ++ [x]:=List.replicate_succ'
section
variable {K:PySem.W.Frag} {mg:Str->Option Value}
theorem yB.PF {T:Txt K mg} {H H':Hp} {a b dx pl:Addr} {i:Nat} {n:Tilt.Now} {p:Plan} {G:GA} {tick:Nat} {ev:List (Nat × Nat)} {os:List Tilt.Order} (x:yB T H a p) (d:d6 T H b dx i pl n) (g:fh T H G tick ev os) (k:Kp [b,G.ea,G.pa] H H'):yB T H' a p:=by
 obtain ⟨dx,sl,e⟩:=x
 refine ⟨dx,sl,k _ _ e fun z=>?_⟩
 simp only [List.mem_cons,List.not_mem_nil,or_false] at z
 rcases z with z | z | z
 ·exact aU e d.obj oU cx (by decide) z
 ·exact aU e g.ev oU bf (by decide) z
 ·exact aU e g.os oU bf (by decide) z
noncomputable def Told (T:Txt K mg) (H:Hp) (a dx:Addr) (i:Nat) (pl:Addr) (G:GA) (tick:Nat) (n:Tilt.Now) (ev:List (Nat × Nat)) (os:List Tilt.Order) (k:Hp->Prop):Prop:=∀ H',d6 T H' a dx i pl n->fh T H' G tick ev os->Kp [a,G.ea,G.pa] H H'->k H'
noncomputable def IB (T:Txt K mg):Sp:=fun vs H Q _=>∃ (a dx:Addr) (i:Nat) (pl:Addr) (n:Tilt.Now) (G:GA) (tick:Nat) (ev:List (Nat × Nat)) (os:List Tilt.Order),vs = [.ref a,.ref G.lg]/\d6 T H a dx i pl n/\fh T H G tick ev os/\Good 8 n/\ev.length + 20<=1000000 ∧
 Told T H a dx i pl G tick (BB n i).1 (ev ++ atT tick (BB n i).2) os fun H'=>Q .fR H'
noncomputable def GN (T:Txt K mg):Sp:=fun vs H Q _=>∃ (a dx:Addr) (i:Nat) (pl:Addr) (n:Tilt.Now) (G:GA) (tick:Nat) (ev:List (Nat × Nat)) (os:List Tilt.Order),vs = [.ref a,.ref G.lg]/\d6 T H a dx i pl n/\fh T H G tick ev os/\Good 8 n/\ev.length + 2<=1000000 ∧
 Told T H a dx i pl G tick (nZ n i).1 (ev ++ atT tick (nZ n i).2.1) os fun H'=>Q (.bl (nZ n i).2.2) H'
noncomputable def IC (T:Txt K mg):Sp:=fun vs H Q _=>∃ (a dx:Addr) (i:Nat) (pl:Addr) (n:Tilt.Now),vs = [.ref a]/\d6 T H a dx i pl n/\Q (.bl (DG n)) H
noncomputable def Eu (T:Txt K mg):Sp:=fun vs H Q _=>∃ (a dx:Addr) (i:Nat) (pl:Addr) (n:Tilt.Now) (G:GA) (tick:Nat) (ev:List (Nat × Nat)) (os:List Tilt.Order) (p:Plan),vs = [.ref a,.ref G.lg]/\d6 T H a dx i pl n/\fh T H G tick ev os/\yB T H pl p/\os.length < 1000000 ∧
 Told T H a dx i pl G tick (Pn n) ev (os ++ [⟨tick,0,p.coil,p.pulse⟩]) fun H'=>Q .fR H'
noncomputable def fZ (tick:Nat) (p:Plan) (b:Bool):List Tilt.Order:=if b = true then [⟨tick,0,p.coil,p.pulse⟩] else []
noncomputable def Bb (T:Txt K mg):Sp:=fun vs H Q _=>∃ (a dx:Addr) (i:Nat) (pl:Addr) (n:Tilt.Now) (G:GA) (tick:Nat) (ev:List (Nat × Nat)) (os:List Tilt.Order) (p:Plan) (m:Nat) (asked:Bool),vs = [.ref a,.int (m:Nat),.bl asked,.ref G.lg]/\d6 T H a dx i pl n/\fh T H G tick ev os ∧
 di T H pl p/\Good 8 n/\p.gE.length<=8/\ev.length + 40<=1000000/\os.length < 1000000 ∧
 Told T H a dx i pl G tick (Tilt.Now.tick n i (shown p.gE m) asked).now (ev ++ atT tick (Tilt.Now.tick n i (shown p.gE m) asked).events) (os ++ fZ tick p (Tilt.Now.tick n i (shown p.gE m) asked).pulse) fun H'=>Q .fR H'
theorem yX {a b c:Addr}:∀ x ∈ [a],x ∈ [a,b,c]:=by simp
theorem PH {a b c:Addr}:∀ x ∈ [b],x ∈ [a,b,c]:=by simp
theorem Sl {a b c:Addr}:∀ x ∈ [c],x ∈ [a,b,c]:=by simp
end
theorem ID {P:Program} {w:World} {K:PySem.W.Frag} {mg:Str->Option Value} {base:Heap} (T:Txt K mg):a8 P w K mg base kD 2 T.tD T.kT ["device","log"] (IB T):=by
 refine T.jI.ok qz (fun vs H Q E h=>?_) (fun cdv A outer s H vs Q E hr h=>?_)
 ·obtain ⟨a,dx,i,pl,n,G,tick,ev,os,rfl,_⟩:=h
  rfl
 ·obtain ⟨a,dx,i,pl,n,G,tick,ev,os,rfl,hD,hL,hg,hz,q⟩:=h
  refine ⟨_,(ae (aR (i:=2) qz.nd rfl (Or.inl rfl) (cQ uG (aj (pv 0) rfl) (aj (pv 0) rfl)))
   (ae (aH (pv 0) (aj (pv 0) rfl) rfl)
   (ae (qk PassesOwn.never rfl (wO rfl T.lL (aa (pv 2) ag)) (d7 (i:=3) qz.nd rfl (Or.inl rfl)) (ah (aJ (mz (pv 1) T.gC T.gF (kr T) (hr.mono (by decide)) (lq T) .nil aN (aa (cQ lX (iV rfl T.DW) (aj (pv 0) rfl)) ag)))))
   (ae (qk PassesOwn.never rfl (wO rfl T.lL (aa (IX Hy (pv 2)) ag)) (d7 (i:=3) qz.nd rfl (Or.inl rfl)) (ah (aJ (mz (pv 1) T.gC T.gF (kr T) (hr.mono (by decide)) (lq T) .nil aN (aa (cQ lX (iV rfl T.DX) (aj (pv 0) rfl)) ag)))))
   (ah (aY (PW.pt (uE (aI pF (pv 2) ao (aG _)) (sS (aI pG (aj (pv 0) rfl) ao (aG _))))) (ah (aJ (aq (C3 T) (hr.mono (by decide)) rfl T.AF T.j6.kp (F9 T) .nil aN (aa (pv 0) ag)))) aC)))))),?_⟩
  have gs:=hg.shows
  have gc:=hg.count
  refine ⟨_,rfl,_,_,_,_,_,rfl,hD.obj,T.ax,T.cO,jf,_,rfl,_,_,_,_,_,rfl,hD.obj,T.ax,T.dZ,jg,_,_,rfl,rfl,_,rfl,_,_,_,_,_,rfl,hD.obj,T.ax,T.cO,jf,_,rfl,_,_,_,_,rfl,hD.obj,T.ax,T.dZ,et,?_⟩
  rw [yJ]
  have hD1:d6 T (upd H a (.ins T.aO dx (a0 (i:Nat) pl (n.shows:Nat) (n.still:Nat) (n.shows:Nat) (n.want:Nat) (n.tries:Nat) (n.left:Nat)))) a dx i pl { n with count:=n.shows }:=⟨af⟩
  have k1:Kp [a] H (upd H a (.ins T.aO dx (a0 (i:Nat) pl (n.shows:Nat) (n.still:Nat) (n.shows:Nat) (n.want:Nat) (n.tries:Nat) (n.left:Nat)))):=Kp.wr (by simp)
  have hL1:=hL.My hD k1
  generalize upd H a (.ins T.aO dx (a0 (i:Nat) pl (n.shows:Nat) (n.still:Nat) (n.shows:Nat) (n.want:Nat) (n.tries:Nat) (n.left:Nat))) = H1 at hD1 k1 hL1 ⊢
  have k1':Kp [a,G.ea,G.pa] H H1:=k1.mono yX
  refine ⟨_,rfl,_,rfl,by omega,by omega,?_⟩
  have e1:(((n.shows:Nat):Int) - ((n.count:Nat):Int)).toNat = n.shows - n.count:=by omega
  rw [e1]
  refine m9 (fun j σ H2=>(∃ u,σ = [some (.ref a),some (.ref G.lg),some (.int (((n.shows:Nat):Int) - ((n.count:Nat):Int))),u])/\d6 T H2 a dx i pl { n with count:=n.shows }/\fh T H2 G tick (ev ++ atT tick (List.replicate j (144 + i))) os/\Kp [a,G.ea,G.pa] H H2) ⟨⟨_,rfl⟩,hD1,by simpa [atT] using hL1,k1'⟩ ?_ ?_
  ·rintro j σ H2 hj ⟨⟨u,rfl⟩,hD2,hL2,k2⟩
   refine ⟨_,rfl,_,_,_,rfl,hL2.obj,j1,_,rfl,_,_,_,_,_,rfl,hD2.obj,T.ax,T.eC,ic,_,_,rfl,rfl,G,tick,_,os,144 + i,rfl,hL2,?_,fun H3 hL3 k3=>?_⟩
   ·rw [List.length_append,qZ,List.length_replicate];omega
   ·refine ⟨⟨_,rfl⟩,hD2.RC hL2 (k3.mono (by simp)),?_,k2.trans (k3.mono PH)⟩
    rw [GL,qY,←List.append_assoc]
    exact hL3
  ·rintro σ H2 ⟨⟨u,rfl⟩,hD2,hL2,k2⟩
   refine ⟨_,rfl,_,rfl,_,rfl,by omega,by omega,?_⟩
   have e2:(-(((n.shows:Nat):Int) - ((n.count:Nat):Int))).toNat = n.count - n.shows:=by omega
   rw [e2]
   refine m9 (fun j σ H3=>(∃ u,σ = [some (.ref a),some (.ref G.lg),some (.int (((n.shows:Nat):Int) - ((n.count:Nat):Int))),u])/\d6 T H3 a dx i pl { n with count:=n.shows }/\fh T H3 G tick (ev ++ atT tick (List.replicate (n.shows - n.count) (144 + i) ++ List.replicate j (152 + i))) os/\Kp [a,G.ea,G.pa] H H3) ⟨⟨_,rfl⟩,hD2,by simpa using hL2,k2⟩ ?_ ?_
   ·rintro j σ H3 hj ⟨⟨u,rfl⟩,hD3,hL3,k3⟩
    refine ⟨_,rfl,_,_,_,rfl,hL3.obj,j1,_,rfl,_,_,_,_,_,rfl,hD3.obj,T.ax,T.eC,ic,_,_,rfl,rfl,G,tick,_,os,152 + i,rfl,hL3,?_,fun H4 hL4 k4=>?_⟩
    ·rw [List.length_append,qZ,List.length_append,List.length_replicate,List.length_replicate];omega
    ·refine ⟨⟨_,rfl⟩,hD3.RC hL3 (k4.mono (by simp)),?_,k3.trans (k4.mono PH)⟩
     rw [GL,←List.append_assoc,qY,←List.append_assoc]
     exact hL4
   ·rintro σ H3 ⟨⟨u,rfl⟩,hD3,hL3,k3⟩
    refine ⟨_,rfl,_,_,rfl,rfl,_,rfl,?_⟩
    unfold BB at q
    dsimp only at q
    by_cases z1:n.shows < n.count
    ·rw [decide_eq_true (show ((n.shows:Nat):Int) - ((n.count:Nat):Int) < 0 by omega)]
     refine aQ ⟨_,rfl,_,_,_,_,_,rfl,hD3.obj,T.ax,T.d4,jh,_,_,rfl,rfl,_,rfl,?_⟩
     by_cases z2:0 < n.tries
     ·rw [decide_eq_true (show ((n.tries:Nat):Int) > 0 by omega)]
      rw [if_pos ⟨z1,z2⟩] at q
      refine aQ ⟨_,rfl,a,dx,i,pl,_,rfl,hD3,hg.Mx z2,fun H4 hD4 k4=>?_⟩
      exact q _ hD4 (hL3.My hD3 k4) (k3.trans (k4.mono yX))
     ·rw [decide_eq_false (show ¬ ((n.tries:Nat):Int) > 0 by omega)]
      rw [if_neg (fun y=>z2 y.2)] at q
      exact aM (q _ hD3 hL3 k3)
    ·rw [decide_eq_false (show ¬ ((n.shows:Nat):Int) - ((n.count:Nat):Int) < 0 by omega)]
     rw [if_neg (fun y=>z1 y.1)] at q
     exact aM (aM (q _ hD3 hL3 k3))
theorem GO {P:Program} {w:World} {K:PySem.W.Frag} {mg:Str->Option Value} {base:Heap} (T:Txt K mg):a8 P w K mg base kD 2 T.qD T.jJ ["device","log"] (GN T):=by
 refine T.gR.ok FY (fun vs H Q E h=>?_) (fun cdv A outer s H vs Q E hr h=>?_)
 ·obtain ⟨a,dx,i,pl,n,G,tick,ev,os,rfl,_⟩:=h
  rfl
 ·obtain ⟨a,dx,i,pl,n,G,tick,ev,os,rfl,hD,hL,hg,hz,q⟩:=h
  refine ⟨_,(ae (aY (aI dX (aj (pv 0) rfl) ao (aG _)) (ah (aE rA)) aC)
   (ae (gd (pv 0) ao Lw)
   (ae (aY (aI pG (aj (pv 0) rfl) ao (aG _)) (ah (aE rA)) aC)
   (ae (aY (aI dX (aj (pv 0) rfl) (iV rfl T.mT) (aG _)) (ae (aJ (mz (pv 1) T.gC T.gF (kr T) (hr.mono (by decide)) (lq T) .nil aN (aa (cQ lX (iV rfl T.zO) (aj (pv 0) rfl)) ag)))
   (ah (aJ (aq (C3 T) (hr.mono (by decide)) rfl T.AF T.j6.kp (F9 T) .nil aN (aa (pv 0) ag))))) aC)
   (ah (aE rA)))))),?_⟩
  unfold nZ at q
  refine ⟨_,rfl,_,_,_,_,_,rfl,hD.obj,T.ax,T.b9,fk,rfl,_,rfl,?_⟩
  by_cases z0:n.left = 0
  ·rw [wL (by omega)]
   rw [if_pos z0] at q
   exact aQ (q _ hD (by simpa [atT] using hL) Kp.refl)
  ·rw [rq (by omega)]
   rw [if_neg z0] at q
   refine aM ⟨_,rfl,_,_,_,_,_,rfl,hD.obj,T.ax,T.b9,fk,_,_,rfl,rfl,_,_,hD.obj,et,?_⟩
   rw [Ay]
   have e1:((n.left:Nat):Int) - 1 = ((n.left - 1:Nat):Int):=by omega
   dsimp only
   rw [e1]
   have hD1:d6 T (upd H a (.ins T.aO dx (a0 (i:Nat) pl (n.shows:Nat) (n.still:Nat) (n.count:Nat) (n.want:Nat) (n.tries:Nat) ((n.left - 1:Nat):Int)))) a dx i pl { n with left:=n.left - 1 }:=⟨af⟩
   have k1:Kp [a] H (upd H a (.ins T.aO dx (a0 (i:Nat) pl (n.shows:Nat) (n.still:Nat) (n.count:Nat) (n.want:Nat) (n.tries:Nat) ((n.left - 1:Nat):Int)))):=Kp.wr (by simp)
   have hL1:=hL.My hD k1
   generalize upd H a (.ins T.aO dx (a0 (i:Nat) pl (n.shows:Nat) (n.still:Nat) (n.count:Nat) (n.want:Nat) (n.tries:Nat) ((n.left - 1:Nat):Int))) = H1 at hD1 k1 hL1 ⊢
   refine ⟨_,rfl,_,_,_,_,_,rfl,hD1.obj,T.ax,T.b9,fk,_,_,rfl,rfl,_,rfl,?_⟩
   by_cases z1:0 < n.left - 1
   ·rw [decide_eq_true (show ((n.left - 1:Nat):Int) > 0 by omega)]
    rw [if_pos z1] at q
    exact aQ (q _ hD1 (by simpa [atT] using hL1) (k1.mono yX))
   ·rw [decide_eq_false (show ¬ ((n.left - 1:Nat):Int) > 0 by omega)]
    rw [if_neg z1] at q
    refine aM ⟨_,rfl,_,_,_,_,_,rfl,hD1.obj,T.ax,T.d4,jh,rfl,_,rfl,?_⟩
    by_cases z2:n.tries = Tilt.TRIES
    ·rw [wL (by show ((n.tries:Nat):Int) = 3;rw [z2];rfl)]
     rw [if_pos z2] at q
     refine aQ ⟨_,rfl,_,_,_,rfl,hL1.obj,j1,_,rfl,_,_,_,_,_,rfl,hD1.obj,T.ax,T.eC,ic,_,_,rfl,rfl,G,tick,_,os,160 + i,rfl,hL1,by omega,fun H2 hL2 k2=>?_⟩
     have hD2:=hD1.RC hL1 (k2.mono (by simp))
     refine ⟨_,rfl,a,dx,i,pl,_,rfl,hD2,hg.Mx (by rw [z2];decide),fun H3 hD3 k3=>?_⟩
     exact q _ hD3 (hL2.My hD2 k3) (((k1.mono yX).trans (k2.mono PH)).trans (k3.mono yX))
    ·rw [rq (fun y=>z2 (by show n.tries = 3;have:((n.tries:Nat):Int) = 3:=y;omega))]
     rw [if_neg z2] at q
     exact aM (q _ hD1 (by simpa [atT] using hL1) (k1.mono yX))
theorem IE {P:Program} {w:World} {K:PySem.W.Frag} {mg:Str->Option Value} {base:Heap} (T:Txt K mg):a8 P w K mg base kD 2 T.tE T.kU ["device"] (IC T):=by
 refine T.jK.ok HY (fun vs H Q E h=>?_) (fun cdv A outer s H vs Q E hr h=>?_)
 ·obtain ⟨a,dx,i,pl,n,rfl,_⟩:=h
  rfl
 ·obtain ⟨a,dx,i,pl,n,rfl,hD,q⟩:=h
  refine ⟨_,(ah (aE (zY (cR dX (aj (pv 0) rfl) ao (aG _)) (zY (aq (Ba T) (hr.mono (by decide)) rfl T.xr T.ik.kp (CY T) .nil aN (aa (pv 0) ag)) (zY (cR pG (aj (pv 0) rfl) ao (aG _)) (Dd (cR pG (aj (pv 0) rfl) ao (aG _)))))))),?_⟩
  unfold DG at q
  refine ⟨_,rfl,_,_,_,_,_,rfl,hD.obj,T.ax,T.b9,fk,rfl,_,rfl,?_⟩
  by_cases z0:n.left = 0
  ·rw [wL (by omega)]
   rw [decide_eq_true z0,Bool.true_and] at q
   refine aQ ⟨_,rfl,a,dx,i,pl,n,rfl,hD,_,rfl,?_⟩
   cases z1:decide (n.still = Tilt.REST) with
   | false=>rw [z1,Bool.false_and] at q;exact aM q
   | true =>
    rw [z1,Bool.true_and] at q
    refine aQ ⟨_,rfl,_,_,_,_,_,rfl,hD.obj,T.ax,T.dZ,jg,_,_,rfl,rfl,_,rfl,?_⟩
    by_cases z2:0 < n.count
    ·rw [decide_eq_true (show ((n.count:Nat):Int) > 0 by omega)]
     rw [decide_eq_true z2,Bool.true_and] at q
     refine aQ ⟨_,rfl,_,_,_,_,_,rfl,hD.obj,T.ax,T.cM,gf,_,_,rfl,rfl,?_⟩
     dsimp only
     by_cases z3:0 < n.want
     ·rw [decide_eq_true (show ((n.want:Nat):Int) > 0 by omega)];rw [decide_eq_true z3] at q;exact q
     ·rw [decide_eq_false (show ¬ ((n.want:Nat):Int) > 0 by omega)];rw [decide_eq_false z3] at q;exact q
    ·rw [decide_eq_false (show ¬ ((n.count:Nat):Int) > 0 by omega)]
     rw [decide_eq_false z2,Bool.false_and] at q
     exact aM q
  ·rw [rq (by omega)]
   rw [decide_eq_false z0,Bool.false_and] at q
   exact aM q
theorem Ew {P:Program} {w:World} {K:PySem.W.Frag} {mg:Str->Option Value} {base:Heap} (T:Txt K mg):a8 P w K mg base kD 2 T.oj T.il ["device","log"] (Eu T):=by
 refine T.fB.ok DI (fun vs H Q E h=>?_) (fun cdv A outer s H vs Q E hr h=>?_)
 ·obtain ⟨a,dx,i,pl,n,G,tick,ev,os,p,rfl,_⟩:=h
  rfl
 ·obtain ⟨a,dx,i,pl,n,G,tick,ev,os,p,rfl,hD,hL,hP,hz,q⟩:=h
  refine ⟨_,(ae (aJ (mz (pv 1) T.gC T.j5 (oX T) (hr.mono (by decide)) (p9 T) .nil aN (aa (aj (pv 0) rfl) ag)))
   (ae (gd (pv 0) ao rE)
   (ah (aH (pv 0) (iV rfl T.oK) rfl)))),?_⟩
  refine ⟨_,rfl,_,_,_,rfl,hL.obj,oh,_,rfl,_,_,_,_,_,rfl,hD.obj,T.ax,T.i9,nH,G,tick,ev,os,pl,p,rfl,hL,hz,hP,fun H1 hL1 k1=>?_⟩
  have hD1:=hD.RC hL (k1.mono (by simp))
  refine ⟨_,rfl,_,_,_,_,_,rfl,hD1.obj,T.ax,T.d4,jh,_,_,rfl,rfl,_,_,hD1.obj,et,_,rfl,_,_,_,_,rfl,af,T.ax,T.b9,et,?_⟩
  rw [aW]
  have k2:Kp [a] H1 (upd H1 a (.ins T.aO dx (a0 (i:Nat) pl (n.shows:Nat) (n.still:Nat) (n.count:Nat) (n.want:Nat) (((n.tries:Nat):Int) + 1) 2000))):=Kp.wr (by simp)
  exact q _ ⟨af⟩ (hL1.My hD1 k2) ((k1.mono Sl).trans (k2.mono yX))
section
variable {K:PySem.W.Frag} {mg:Str->Option Value}
noncomputable def ve (T:Txt K mg):Sp:=fun vs H Q _=>∃ (a dx:Addr) (i:Nat) (pl:Addr) (p:Plan) (m:Nat),vs = [.ref a,.int (i:Nat),.ref pl,.int (m:Nat)]/\H a = some (.ins T.aO dx [])/\di T H pl p/\p.gE.length<=8 ∧
 ∀ H',d6 T H' a dx i pl ⟨shown p.gE m,Tilt.REST,shown p.gE m,0,0,0⟩->Kp [a] H H'->Q .fR H'
theorem fh.Tf {T:Txt K mg} {H H':Hp} {G:GA} {tick:Nat} {ev:List (Nat × Nat)} {os:List Tilt.Order} (x:fh T H G tick ev os) (k:bc H H'):fh T H' G tick ev os:=⟨k _ _ x.obj,k _ _ x.ev,k _ _ x.os,x.ne⟩
end
theorem vf {P:Program} {w:World} {K:PySem.W.Frag} {mg:Str->Option Value} {base:Heap} (T:Txt K mg):a8 P w K mg base kD 2 T.gG T.cB ["self","number","plan","mask"] (ve T):=by
 refine T.cg.ok uQ (fun vs H Q E h=>?_) (fun cdv A outer s H vs Q E hr h=>?_)
 ·obtain ⟨a,dx,i,pl,p,m,rfl,_⟩:=h
  rfl
 ·obtain ⟨a,dx,i,pl,p,m,rfl,ha,hp,hz,q⟩:=h
  refine ⟨_,(ae (aH (pv 0) (pv 1) rfl)
   (ae (aH (pv 0) (pv 2) rfl)
   (ae (aH (pv 0) (aq (sN T) (hr.mono (by decide)) rfl T.pw T.cH.kp (uz T) .nil aN (aa (pv 2) (aa (pv 3) ag))) rfl)
   (ae (aH (pv 0) (iV rfl T.iS) rfl)
   (ae (aH (pv 0) (aj (pv 0) rfl) rfl)
   (ae (aH (pv 0) ao rfl)
   (ae (aH (pv 0) ao rfl)
   (ah (aH (pv 0) ao rfl))))))))),?_⟩
  refine ⟨_,rfl,_,rfl,_,_,_,_,rfl,ha,T.ax,T.eC,(by show 0 < 1000;decide),_,rfl,_,rfl,_,_,_,_,rfl,af,T.ax,T.i9,(by show 1 < 1000;decide),?_⟩
  rw [aW]
  have hp1:di T (upd H a (.ins T.aO dx [("number",V.int (i:Nat)),("plan",V.ref pl)])) pl p:=by
   obtain ⟨pdx,sl,e1,e2,pne⟩:=hp
   refine ⟨pdx,sl,?_,?_,pne⟩
   ·rw [ai (nV e1 ha (by intro z;have:=congrArg fe z;rw [oU] at this;exact absurd this (by show ¬ (311 = 3);decide)))];exact e1
   ·rw [ai (nV e2 ha (by intro z;cases z))];exact e2
  have k1:Kp [a] H (upd H a (.ins T.aO dx [("number",V.int (i:Nat)),("plan",V.ref pl)])):=Kp.wr (by simp)
  have a1:upd H a (.ins T.aO dx [("number",V.int (i:Nat)),("plan",V.ref pl)]) a = some (.ins T.aO dx [("number",V.int (i:Nat)),("plan",V.ref pl)]):=af
  show (_:TS) _ _ (upd H a (.ins T.aO dx [("number",V.int (i:Nat)),("plan",V.ref pl)]))
  generalize upd H a (.ins T.aO dx [("number",V.int (i:Nat)),("plan",V.ref pl)]) = H1 at hp1 k1 a1 ⊢
  refine ⟨_,rfl,_,rfl,pl,p,m,rfl,hp1,hz,fun H2 s2=>?_⟩
  have a2:=s2 _ _ a1
  refine ⟨_,rfl,_,_,_,_,rfl,a2,T.ax,T.cO,(by show 2 < 1000;decide),_,rfl,_,_,_,_,rfl,af,T.ax,T.dg,(by show 3 < 1000;decide),_,rfl,_,_,_,_,_,rfl,af,T.ax,T.cO,rfl,_,rfl,_,_,_,_,rfl,af,T.ax,T.dZ,(by show 4 < 1000;decide),_,rfl,_,_,_,_,rfl,af,T.ax,T.cM,(by show 5 < 1000;decide),_,rfl,_,_,_,_,rfl,af,T.ax,T.d4,(by show 6 < 1000;decide),_,rfl,_,_,_,_,rfl,af,T.ax,T.b9,(by show 7 < 1000;decide),?_⟩
  rw [aW,aW,aW,aW,aW]
  exact q _ ⟨af⟩ ((k1.trans (Kp.of_same s2)).trans (Kp.wr (by simp)))
theorem Bc {P:Program} {w:World} {K:PySem.W.Frag} {mg:Str->Option Value} {base:Heap} (T:Txt K mg):a8 P w K mg base kD 3 T.lD T.ft ["device","mask","asked","log"] (Bb T):=by
 refine T.dy.ok sr (fun vs H Q E h=>?_) (fun cdv A outer s H vs Q E hr h=>?_)
 ·obtain ⟨a,dx,i,pl,n,G,tick,ev,os,p,m,asked,rfl,_⟩:=h
  rfl
 ·obtain ⟨a,dx,i,pl,n,G,tick,ev,os,p,m,asked,rfl,hD,hL,hP,hg,hz,hev,hos,q⟩:=h
  refine ⟨_,(ae (aJ (aq (Nj T) (hr.mono (by decide)) rfl T.LV T.sA.kp (Pp T) .nil aN (aa (pv 0) (aa (pv 1) ag))))
   (ae (aY (bQ (aq (Ba T) (hr.mono (by decide)) rfl T.xr T.ik.kp (CY T) .nil aN (aa (pv 0) ag)) (fun _=>rfl)) (ah (aJ (aq (ID T) (hr.mono (by decide)) rfl T.CQ T.jI.kp (Kq T) .nil aN (aa (pv 0) (aa (pv 3) ag))))) aC)
   (ae (aY (bQ (pv 2) (fun _=>rfl)) (ah (aH (pv 0) (aZ (sV rfl) (by rfl) T.AO D3 (aa (iV rfl T.qO) (aa (cQ lX (aj (pv 0) rfl) ao) ag))) rfl)) aC)
   (ae (aR (i:=4) sr.nd rfl (Or.inl rfl) (aq (GO T) (hr.mono (by decide)) rfl T.AG T.gR.kp (Ib T) .nil aN (aa (pv 0) (aa (pv 3) ag))))
   (ah (aY (PW.pt (uE (rB (bQ (pv 4) (fun _=>rfl))) (sS (bQ (aq (IE T) (hr.mono (by decide)) rfl T.CS T.jK.kp (Kr T) .nil aN (aa (pv 0) ag)) (fun _=>rfl))))) (ah (aJ (aq (Ew T) (hr.mono (by decide)) rfl T.yp T.fB.kp (Ga T) .nil aN (aa (pv 0) (aa (pv 3) ag))))) aC)))))),?_⟩
  rw [DH] at q
  unfold FX at q
  dsimp only at q
  refine ⟨_,rfl,_,rfl,a,dx,i,pl,n,p,m,rfl,hD,hP,hz,fun H1 hD1 k1=>?_⟩
  have hg1:Good 8 (pR n (shown p.gE m)):=hg.look (Nat.le_trans (shown_le _ _) hz)
  have hL1:=hL.My hD k1
  have hO1:yB T H1 pl p:=(hP.My hD k1).o
  have k1':Kp [a,G.ea,G.pa] H H1:=k1.mono yX
  generalize pR n (shown p.gE m) = n1 at q hD1 hg1
  refine ⟨_,rfl,a,dx,i,pl,n1,rfl,hD1,_,rfl,?_⟩
  have hl2:(aP n1 i).2.length<=16:=by
   unfold aP
   split
   ·unfold BB
    dsimp only
    rw [List.length_append,List.length_replicate,List.length_replicate]
    have:=hg1.shows
    have:=hg1.count
    omega
   ·simp
  have hg2:Good 8 (aP n1 i).1:=hg1.rest
  by_cases zr:n1.still = Tilt.REST
  ·rw [decide_eq_true zr]
   have er:aP n1 i = BB n1 i:=by unfold aP;rw [if_pos zr]
   refine aQ ⟨_,rfl,_,rfl,a,dx,i,pl,n1,G,tick,ev,os,rfl,hD1,hL1,hg1,by omega,fun H2 hD2 hL2 k2=>?_⟩
   rw [←er] at hD2 hL2
   have hO2:=hO1.PF hD1 hL1 k2
   have k2':=k1'.trans k2
   refine ⟨_,rfl,_,rfl,?_⟩
   cases asked with
   | false =>
    refine aM ?_
    have hD3:d6 T H2 a dx i pl (jV false (aP n1 i).1):=hD2
    have hg3:Good 8 (jV false (aP n1 i).1):=hg2
    have hL3:=hL2
    have hO3:=hO2
    have k3':=k2'
    generalize jV false (aP n1 i).1 = n3 at q hD3 hg3
    refine ⟨_,rfl,_,rfl,a,dx,i,pl,n3,G,tick,_,os,rfl,hD3,hL3,hg3,(by rw [List.length_append,qZ];omega),fun H4 hD4 hL4 k4=>?_⟩
    have hO4:=hO3.PF hD3 hL3 k4
    have k4':=k3'.trans k4
    rw [List.append_assoc,←qY] at hL4
    generalize nZ n3 i = d at q hD4 hL4 ⊢
    obtain ⟨d1,d2,d3⟩:=d
    dsimp only at q hD4 hL4 ⊢
    refine ⟨_,rfl,_,rfl,?_⟩
    cases d3 with
    | true =>
     rw [if_neg (fun y=>absurd y.1 (by decide))] at q
     refine aM (aM (q _ hD4 ?_ k4'))
     unfold fZ
     rw [if_neg (by simp),List.append_nil]
     exact hL4
    | false =>
     refine aQ ⟨_,rfl,a,dx,i,pl,d1,rfl,hD4,_,rfl,?_⟩
     cases hc:DG d1 with
     | false =>
      rw [if_neg (fun y=>absurd y.2 (by rw [hc];decide))] at q
      refine aM (q _ hD4 ?_ k4')
      unfold fZ
      rw [if_neg (by simp),List.append_nil]
      exact hL4
     | true =>
      rw [if_pos ⟨rfl,hc⟩] at q
      refine aQ ⟨_,rfl,_,rfl,a,dx,i,pl,d1,G,tick,_,os,p,rfl,hD4,hL4,hO4,hos,fun H5 hD5 hL5 k5=>?_⟩
      refine q _ hD5 ?_ (k4'.trans k5)
      unfold fZ
      rw [if_pos rfl]
      exact hL5
   | true =>
    refine aQ ⟨_,rfl,_,_,_,_,_,rfl,hD2.obj,T.ax,T.cM,gf,_,_,rfl,rfl,_,_,rfl,_,rfl,_,_,_,_,rfl,hD2.obj,T.ax,T.cM,et,?_⟩
    rw [uk]
    dsimp only
    rw [show (if (((aP n1 i).1.want:Nat):Int) + 1 < 255 then (((aP n1 i).1.want:Nat):Int) + 1 else 255) = ((min 255 ((aP n1 i).1.want + 1):Nat):Int) by split <;> omega]
    have hD3:d6 T (upd H2 a (.ins T.aO dx (a0 (i:Nat) pl ((aP n1 i).1.shows:Nat) ((aP n1 i).1.still:Nat) ((aP n1 i).1.count:Nat) ((min 255 ((aP n1 i).1.want + 1):Nat):Int) ((aP n1 i).1.tries:Nat) ((aP n1 i).1.left:Nat)))) a dx i pl (jV true (aP n1 i).1):=⟨af⟩
    have kk:Kp [a] H2 (upd H2 a (.ins T.aO dx (a0 (i:Nat) pl ((aP n1 i).1.shows:Nat) ((aP n1 i).1.still:Nat) ((aP n1 i).1.count:Nat) ((min 255 ((aP n1 i).1.want + 1):Nat):Int) ((aP n1 i).1.tries:Nat) ((aP n1 i).1.left:Nat)))):=Kp.wr (by simp)
    have hg3:Good 8 (jV true (aP n1 i).1):=hg2.ask
    have hL3:=hL2.My hD2 kk
    have hO3:=hO2.PF hD2 hL2 (kk.mono yX)
    have k3':=k2'.trans (kk.mono yX)
    generalize upd H2 a (.ins T.aO dx (a0 (i:Nat) pl ((aP n1 i).1.shows:Nat) ((aP n1 i).1.still:Nat) ((aP n1 i).1.count:Nat) ((min 255 ((aP n1 i).1.want + 1):Nat):Int) ((aP n1 i).1.tries:Nat) ((aP n1 i).1.left:Nat))) = H3 at hD3 hL3 hO3 k3' ⊢
    generalize jV true (aP n1 i).1 = n3 at q hD3 hg3
    refine ⟨_,rfl,_,rfl,a,dx,i,pl,n3,G,tick,_,os,rfl,hD3,hL3,hg3,(by rw [List.length_append,qZ];omega),fun H4 hD4 hL4 k4=>?_⟩
    have hO4:=hO3.PF hD3 hL3 k4
    have k4':=k3'.trans k4
    rw [List.append_assoc,←qY] at hL4
    generalize nZ n3 i = d at q hD4 hL4 ⊢
    obtain ⟨d1,d2,d3⟩:=d
    dsimp only at q hD4 hL4 ⊢
    refine ⟨_,rfl,_,rfl,?_⟩
    cases d3 with
    | true =>
     rw [if_neg (fun y=>absurd y.1 (by decide))] at q
     refine aM (aM (q _ hD4 ?_ k4'))
     unfold fZ
     rw [if_neg (by simp),List.append_nil]
     exact hL4
    | false =>
     refine aQ ⟨_,rfl,a,dx,i,pl,d1,rfl,hD4,_,rfl,?_⟩
     cases hc:DG d1 with
     | false =>
      rw [if_neg (fun y=>absurd y.2 (by rw [hc];decide))] at q
      refine aM (q _ hD4 ?_ k4')
      unfold fZ
      rw [if_neg (by simp),List.append_nil]
      exact hL4
     | true =>
      rw [if_pos ⟨rfl,hc⟩] at q
      refine aQ ⟨_,rfl,_,rfl,a,dx,i,pl,d1,G,tick,_,os,p,rfl,hD4,hL4,hO4,hos,fun H5 hD5 hL5 k5=>?_⟩
      refine q _ hD5 ?_ (k4'.trans k5)
      unfold fZ
      rw [if_pos rfl]
      exact hL5
  ·rw [decide_eq_false zr]
   have er:aP n1 i = (n1,[]):=by unfold aP;rw [if_neg zr]
   refine aM ?_
   have hD2:d6 T H1 a dx i pl (aP n1 i).1:=by rw [er];exact hD1
   have hL2:fh T H1 G tick (ev ++ atT tick (aP n1 i).2) os:=by rw [er];simpa [atT] using hL1
   have hO2:=hO1
   have k2':=k1'
   generalize H1 = H2 at hD2 hL2 hO2 k2' ⊢
   refine ⟨_,rfl,_,rfl,?_⟩
   cases asked with
   | false =>
    refine aM ?_
    have hD3:d6 T H2 a dx i pl (jV false (aP n1 i).1):=hD2
    have hg3:Good 8 (jV false (aP n1 i).1):=hg2
    have hL3:=hL2
    have hO3:=hO2
    have k3':=k2'
    generalize jV false (aP n1 i).1 = n3 at q hD3 hg3
    refine ⟨_,rfl,_,rfl,a,dx,i,pl,n3,G,tick,_,os,rfl,hD3,hL3,hg3,(by rw [List.length_append,qZ];omega),fun H4 hD4 hL4 k4=>?_⟩
    have hO4:=hO3.PF hD3 hL3 k4
    have k4':=k3'.trans k4
    rw [List.append_assoc,←qY] at hL4
    generalize nZ n3 i = d at q hD4 hL4 ⊢
    obtain ⟨d1,d2,d3⟩:=d
    dsimp only at q hD4 hL4 ⊢
    refine ⟨_,rfl,_,rfl,?_⟩
    cases d3 with
    | true =>
     rw [if_neg (fun y=>absurd y.1 (by decide))] at q
     refine aM (aM (q _ hD4 ?_ k4'))
     unfold fZ
     rw [if_neg (by simp),List.append_nil]
     exact hL4
    | false =>
     refine aQ ⟨_,rfl,a,dx,i,pl,d1,rfl,hD4,_,rfl,?_⟩
     cases hc:DG d1 with
     | false =>
      rw [if_neg (fun y=>absurd y.2 (by rw [hc];decide))] at q
      refine aM (q _ hD4 ?_ k4')
      unfold fZ
      rw [if_neg (by simp),List.append_nil]
      exact hL4
     | true =>
      rw [if_pos ⟨rfl,hc⟩] at q
      refine aQ ⟨_,rfl,_,rfl,a,dx,i,pl,d1,G,tick,_,os,p,rfl,hD4,hL4,hO4,hos,fun H5 hD5 hL5 k5=>?_⟩
      refine q _ hD5 ?_ (k4'.trans k5)
      unfold fZ
      rw [if_pos rfl]
      exact hL5
   | true =>
    refine aQ ⟨_,rfl,_,_,_,_,_,rfl,hD2.obj,T.ax,T.cM,gf,_,_,rfl,rfl,_,_,rfl,_,rfl,_,_,_,_,rfl,hD2.obj,T.ax,T.cM,et,?_⟩
    rw [uk]
    dsimp only
    rw [show (if (((aP n1 i).1.want:Nat):Int) + 1 < 255 then (((aP n1 i).1.want:Nat):Int) + 1 else 255) = ((min 255 ((aP n1 i).1.want + 1):Nat):Int) by split <;> omega]
    have hD3:d6 T (upd H2 a (.ins T.aO dx (a0 (i:Nat) pl ((aP n1 i).1.shows:Nat) ((aP n1 i).1.still:Nat) ((aP n1 i).1.count:Nat) ((min 255 ((aP n1 i).1.want + 1):Nat):Int) ((aP n1 i).1.tries:Nat) ((aP n1 i).1.left:Nat)))) a dx i pl (jV true (aP n1 i).1):=⟨af⟩
    have kk:Kp [a] H2 (upd H2 a (.ins T.aO dx (a0 (i:Nat) pl ((aP n1 i).1.shows:Nat) ((aP n1 i).1.still:Nat) ((aP n1 i).1.count:Nat) ((min 255 ((aP n1 i).1.want + 1):Nat):Int) ((aP n1 i).1.tries:Nat) ((aP n1 i).1.left:Nat)))):=Kp.wr (by simp)
    have hg3:Good 8 (jV true (aP n1 i).1):=hg2.ask
    have hL3:=hL2.My hD2 kk
    have hO3:=hO2.PF hD2 hL2 (kk.mono yX)
    have k3':=k2'.trans (kk.mono yX)
    generalize upd H2 a (.ins T.aO dx (a0 (i:Nat) pl ((aP n1 i).1.shows:Nat) ((aP n1 i).1.still:Nat) ((aP n1 i).1.count:Nat) ((min 255 ((aP n1 i).1.want + 1):Nat):Int) ((aP n1 i).1.tries:Nat) ((aP n1 i).1.left:Nat))) = H3 at hD3 hL3 hO3 k3' ⊢
    generalize jV true (aP n1 i).1 = n3 at q hD3 hg3
    refine ⟨_,rfl,_,rfl,a,dx,i,pl,n3,G,tick,_,os,rfl,hD3,hL3,hg3,(by rw [List.length_append,qZ];omega),fun H4 hD4 hL4 k4=>?_⟩
    have hO4:=hO3.PF hD3 hL3 k4
    have k4':=k3'.trans k4
    rw [List.append_assoc,←qY] at hL4
    generalize nZ n3 i = d at q hD4 hL4 ⊢
    obtain ⟨d1,d2,d3⟩:=d
    dsimp only at q hD4 hL4 ⊢
    refine ⟨_,rfl,_,rfl,?_⟩
    cases d3 with
    | true =>
     rw [if_neg (fun y=>absurd y.1 (by decide))] at q
     refine aM (aM (q _ hD4 ?_ k4'))
     unfold fZ
     rw [if_neg (by simp),List.append_nil]
     exact hL4
    | false =>
     refine aQ ⟨_,rfl,a,dx,i,pl,d1,rfl,hD4,_,rfl,?_⟩
     cases hc:DG d1 with
     | false =>
      rw [if_neg (fun y=>absurd y.2 (by rw [hc];decide))] at q
      refine aM (q _ hD4 ?_ k4')
      unfold fZ
      rw [if_neg (by simp),List.append_nil]
      exact hL4
     | true =>
      rw [if_pos ⟨rfl,hc⟩] at q
      refine aQ ⟨_,rfl,_,rfl,a,dx,i,pl,d1,G,tick,_,os,p,rfl,hD4,hL4,hO4,hos,fun H5 hD5 hL5 k5=>?_⟩
      refine q _ hD5 ?_ (k4'.trans k5)
      unfold fZ
      rw [if_pos rfl]
      exact hL5
end Pb
namespace Pb
open PySem PySem.Spec PyProof.Rows L2
theorem GP:vw ["places","place"] (ak pU) (KG (Me (Md (atS pU 0)))) [("place",1)]:=⟨by decide +kernel,by decide +kernel,by decide +kernel,by decide +kernel,by decide +kernel⟩
theorem Bd:vw ["play","device"] (ak jX) (KG (Me (Md (atS jX 0)))) [("device",1)]:=⟨by decide +kernel,by decide +kernel,by decide +kernel,by decide +kernel,by decide +kernel⟩
theorem yY:vw ["play","device"] (ak i6) (KG (Me (Md (atS i6 1)))) [("device",1)]:=⟨by decide +kernel,by decide +kernel,by decide +kernel,by decide +kernel,by decide +kernel⟩
theorem wy:vw ["self","table","mask","number","plan"] (ak f9) (KG (Sj (atS f9 1))) [("number",3),("plan",4)]:=⟨by decide +kernel,by decide +kernel,by decide +kernel,by decide +kernel,by decide +kernel⟩
noncomputable def mn (Tb:Tilt.Table) (d:Tilt.Device):Plan:=⟨d.coil,min 40 (((Tb.coilAt d.coil).map fun (c:Tilt.Coil)=>c.most).getD 0),d.at_⟩
noncomputable def bitsOf (ps:List Nat):Nat:=(ps.map fun p=>2 ^ p).sum
theorem GQ:∀ ps:List Nat,(ps.map fun p=>(1:Int) * 2 ^ ((p:Nat):Int).toNat).sum = ((bitsOf ps:Nat):Int)
 | []=>rfl
 | p :: ps=>by
  rw [List.map_cons,List.sum_cons,GQ ps]
  unfold bitsOf
  rw [List.map_cons,List.sum_cons,Int.natCast_add,Int.natCast_pow,Int.toNat_natCast,Int.one_mul]
  rfl
theorem KL (l:List Nat):l.foldl (fun (a b:Nat)=>a + b) 0 = l.sum:=by
 induction l with
 | nil=>rfl
 | cons a l ih=>rw [List.foldl_cons,foldl_add,ih,List.sum_cons];omega
theorem GR:∀ l:List Nat,(l.map fun n=>((n:Nat):Int)).sum = ((l.sum:Nat):Int)
 | []=>rfl
 | a :: l=>by rw [List.map_cons,List.sum_cons,GR l,List.sum_cons];omega
structure yC where
 p:Addr
 dx:Addr
 dl:Addr
 ky:List Addr
 kp:Nat
 ka:Nat
section
variable {K:PySem.W.Frag} {mg:Str->Option Value}
structure fg (T:Txt K mg) (H0 H:Hp) (P:yC) (Tb:Tilt.Table) (x:Tilt.Balls):Prop where
 obj:H P.p = some (.ins T.bh P.dx (eF (Tb.balls:Nat) P.dl (P.kp:Nat) (P.ka:Nat) (x.mask:Nat) (x.quiet:Nat) (x.rounds:Nat) (x.tick:Nat)))
 dl:H P.dl = some (.lst (P.ky.map V.ref))
 len:P.ky.length = Tb.devices.length
 xl:x.at_.length = Tb.devices.length
 nd:P.ky.Nodup
 KN:∀ (j:Nat) (a:Addr) (d:Tilt.Device) (n:Tilt.Now),P.ky[j]? = some a->Tb.devices[j]? = some d->x.at_[j]? = some n->∃ dx pl,d6 T H a dx j pl n/\di T H0 pl (mn Tb d)
 same:bc H0 H
 np:H0 P.p = none
 Nk:∀ a ∈ P.ky,H0 a = none
theorem fg.kp' {T:Txt K mg} {H0 H H':Hp} {P:yC} {Tb:Tilt.Table} {x:Tilt.Balls} (y:fg T H0 H P Tb x) {S:List Addr} (k:Kp S H H') (h1:P.p ∉ S) (h2:P.dl ∉ S) (h3:∀ a ∈ P.ky,a ∉ S) (s:bc H0 H'):fg T H0 H' P Tb x :=
 ⟨k _ _ y.obj h1,k _ _ y.dl h2,y.len,y.xl,y.nd,fun j a d n e1 e2 e3=>let ⟨dx,pl,hd,hp⟩:=y.KN j a d n e1 e2 e3;⟨dx,pl,⟨k _ _ hd.obj (h3 a (List.mem_of_getElem? e1))⟩,hp⟩,s,y.np,y.Nk⟩
theorem fg.grow {T:Txt K mg} {H0 H H':Hp} {P:yC} {Tb:Tilt.Table} {x:Tilt.Balls} (y:fg T H0 H P Tb x) (s:bc H H'):fg T H0 H' P Tb x:=y.kp' (S:=[]) (Kp.of_same s) (by simp) (by simp) (by simp) (y.same.trans s)
theorem fg.get {T:Txt K mg} {H0 H:Hp} {P:yC} {Tb:Tilt.Table} {x:Tilt.Balls} (y:fg T H0 H P Tb x) {j:Nat} {a:Addr} (h:P.ky[j]? = some a):∃ d n dx pl,Tb.devices[j]? = some d/\x.at_[j]? = some n/\d6 T H a dx j pl n/\di T H0 pl (mn Tb d):=by
 have hj:j < P.ky.length:=(List.getElem?_eq_some_iff.mp h).1
 have e1:Tb.devices[j]? = some _:=List.getElem?_eq_getElem (by rw [←y.len];exact hj)
 have e2:x.at_[j]? = some _:=List.getElem?_eq_getElem (by rw [y.xl,←y.len];exact hj)
 obtain ⟨dx,pl,hd,hp⟩:=y.KN j a _ _ h e1 e2
 exact ⟨_,_,dx,pl,e1,e2,hd,hp⟩
theorem fg.wr {T:Txt K mg} {H0 H:Hp} {P:yC} {Tb:Tilt.Table} {x:Tilt.Balls} (y:fg T H0 H P Tb x) (h8:P.p ∉ P.ky) (tick mask quiet rounds:Nat):fg T H0 (upd H P.p (.ins T.bh P.dx (eF (Tb.balls:Nat) P.dl (P.kp:Nat) (P.ka:Nat) (mask:Nat) (quiet:Nat) (rounds:Nat) (tick:Nat)))) P Tb ⟨tick,mask,quiet,rounds,x.at_⟩ :=
 ⟨af,by rw [ai (aU y.dl y.obj bf gL)];exact y.dl,y.len,y.xl,y.nd,fun j a d n e1 e2 e3=>let ⟨dx,pl,hd,hp⟩:=y.KN j a d n e1 e2 e3;⟨dx,pl,⟨by rw [ai (fun z=>h8 (by rw [←z];exact List.mem_of_getElem? e1))];exact hd.obj⟩,hp⟩,eX y.same y.np,y.np,y.Nk⟩
noncomputable def IF (T:Txt K mg):Sp:=fun vs H Q _=>∃ (l:Addr) (ps:List Nat),vs = [.ref l]/\H l = some (.lst (kx ps))/\ps.length<=1000/\(∀ p ∈ ps,p<=1000)/\∀ H',bc H H'->Q (.int ((bitsOf ps:Nat):Int)) H'
noncomputable def B2 (T:Txt K mg):Sp:=fun vs H Q _=>∃ (H0:Hp) (P:yC) (Tb:Tilt.Table) (x:Tilt.Balls),vs = [.ref P.p]/\fg T H0 H P Tb x/\Tb.devices.length<=8/\∀ H',bc H H'->Q (.int (x.counted:Nat)) H'
noncomputable def wz (T:Txt K mg):Sp:=fun vs H Q _=>∃ (H0:Hp) (P:yC) (Tb:Tilt.Table) (x:Tilt.Balls),vs = [.ref P.p]/\fg T H0 H P Tb x/\Tb.devices.length<=8/\∀ H',bc H H'->Q (.int (Tb.large x:Nat)) H'
noncomputable def xK (T:Txt K mg):Sp:=fun vs H Q _=>∃ (H0:Hp) (P:yC) (Tb:Tilt.Table) (x:Tilt.Balls),vs = [.ref P.p]/\fg T H0 H P Tb x/\Tb.devices.length<=8/\∀ H',bc H H'->Q (.int (Tb.missing x:Nat)) H'
noncomputable def Be (T:Txt K mg):Sp:=fun vs H Q _=>∃ (H0:Hp) (P:yC) (Tb:Tilt.Table) (x:Tilt.Balls),vs = [.ref P.p]/\fg T H0 H P Tb x/\Tb.devices.length<=8/\∀ H',bc H H'->Q (.bl (decide (Tb.large x = 0) || x.busy)) H'
end
theorem Bf {P:Program} {w:World} {K:PySem.W.Frag} {mg:Str->Option Value} {base:Heap} (T:Txt K mg):a8 P w K mg base kD 1 T.tF T.kW ["places"] (IF T):=by
 refine T.ip.ok uR (fun vs H Q E h=>?_) (fun cdv A outer s H vs Q E hr h=>?_)
 ·obtain ⟨l,ps,rfl,_⟩:=h
  rfl
 ·obtain ⟨l,ps,rfl,hl,hz,hb,q⟩:=h
  refine ⟨_,(ah (aE (aZ (HE rfl) (by rfl) T.CW Ii (aa (CB rfl uR.nd (sT (pv 0)) (own:=[("place",1)]) GP (fun _ _ _ _ _=>(d7 (i:=1) uR.nd rfl (Or.inl rfl))) (fun _ _ _ _ _=>sX) (fun _ _ _ _ _=>(cQ OQ ao (pv 1)))) ag)))),?_⟩
  refine ⟨_,rfl,l,rfl,⟨_,dj.of hl⟩,fun D hD=>?_⟩
  refine vx (xs:=kx ps) (fun i H2=>bc H H2/\H2 D = some (.lst (((ps.take i).map fun p=>(1:Int) * 2 ^ ((p:Nat):Int).toNat).map V.int))) ⟨Kp.same (Kp.new hD),af⟩ (fun i H2 _ h=>dj.of (h.1 _ _ hl)) ?_ ?_
  ·rintro i x H2 hx ⟨s2,ed⟩
   have hi:i < ps.length:=by have:=(List.getElem?_eq_some_iff.mp hx).1;rw [d5] at this;exact this
   have hc:ps[i]? = some ps[i]:=List.getElem?_eq_getElem hi
   have hx':(kx ps)[i]? = some (V.int ((ps[i]:Nat):Int)):=by unfold kx;rw [List.getElem?_map,hc];rfl
   rw [hx'] at hx
   cases hx
   have hp:=hb ps[i] (List.getElem_mem hi)
   refine ⟨rfl,?_⟩
   unfold HG
   refine aQ ⟨_,rfl,_,_,rfl,rfl,⟨by omega,by omega,by decide⟩,_,ed,?_,eX s2 hD,?_⟩
   ·rw [List.length_map,List.length_map,List.length_take];exact Nat.lt_of_le_of_lt (Nat.min_le_right _ _) (Nat.lt_of_le_of_lt hz (by decide))
   ·rw [af,take_one hc,List.map_append,List.map_append]
    rfl
  ·rintro H2 ⟨s2,ed⟩
   rw [d5,List.take_length] at ed
   refine ⟨D,_,rfl,dj.of ed,?_⟩
   rw [GQ]
   exact q H2 s2
theorem uA {P:Program} {w:World} {K:PySem.W.Frag} {mg:Str->Option Value} {base:Heap} (T:Txt K mg):a8 P w K mg base kD 1 T.mJ T.gk ["play"] (B2 T):=by
 refine T.dq.ok pb (fun vs H Q E h=>?_) (fun cdv A outer s H vs Q E hr h=>?_)
 ·obtain ⟨H0,P,Tb,x,rfl,_⟩:=h
  rfl
 ·obtain ⟨H0,P',Tb,x,rfl,hP,h8,q⟩:=h
  refine ⟨_,(ah (aE (aZ (HE rfl) (by rfl) T.CW Ii (aa (CB (te:=MF K (Li 1) "count") rfl pb.nd (sT (aj (pv 0) rfl)) (own:=[("device",1)]) Bd (fun _ _ _ _ _=>(d7 (i:=1) pb.nd rfl (Or.inl rfl))) (fun _ _ _ _ _=>sX) (fun _ _ _ _ _=>(aj (pv 1) rfl))) ag)))),?_⟩
  refine ⟨_,rfl,_,_,_,_,_,rfl,hP.obj,T.a9,T.ck,c4,P'.dl,rfl,⟨_,dj.of hP.dl⟩,fun D hD=>?_⟩
  refine vx (xs:=P'.ky.map V.ref) (fun i H2=>bc H H2/\H2 D = some (.lst (((x.at_.take i).map fun n=>((n.count:Nat):Int)).map V.int))) ⟨Kp.same (Kp.new hD),af⟩ (fun i H2 _ h=>dj.of (h.1 _ _ hP.dl)) ?_ ?_
  ·rintro i y H2 hy ⟨s2,ed⟩
   have hi:i < P'.ky.length:=by have:=(List.getElem?_eq_some_iff.mp hy).1;rw [List.length_map] at this;exact this
   have ha:P'.ky[i]? = some P'.ky[i]:=List.getElem?_eq_getElem hi
   rw [List.getElem?_map,ha] at hy
   cases hy
   obtain ⟨d,n,dx,pl,e1,e2,hd,_⟩:=hP.get ha
   have hd2:=s2 _ _ hd.obj
   refine ⟨rfl,?_⟩
   unfold HG
   refine aQ ⟨_,rfl,_,_,_,_,_,rfl,hd2,T.ax,T.dZ,jg,_,ed,?_,eX s2 hD,?_⟩
   ·rw [List.length_map,List.length_map,List.length_take,hP.xl];exact Nat.lt_of_le_of_lt (Nat.min_le_right _ _) (Nat.lt_of_le_of_lt h8 (by decide))
   ·rw [af,take_one e2,List.map_append,List.map_append]
    rfl
  ·rintro H2 ⟨s2,ed⟩
   rw [List.length_map,hP.len,←hP.xl,List.take_length] at ed
   refine ⟨D,_,rfl,dj.of ed,?_⟩
   have e:(x.at_.map fun n=>((n.count:Nat):Int)).sum = ((x.counted:Nat):Int):=by
    unfold Tilt.Balls.counted
    rw [KL,←GR,List.map_map]
    rfl
   rw [e]
   exact q H2 s2
theorem ku {P:Program} {w:World} {K:PySem.W.Frag} {mg:Str->Option Value} {base:Heap} (T:Txt K mg):a8 P w K mg base kD 2 T.iq T.cV ["play"] (wz T):=by
 refine T.bz.ok vL (fun vs H Q E h=>?_) (fun cdv A outer s H vs Q E hr h=>?_)
 ·obtain ⟨H0,P,Tb,x,rfl,_⟩:=h
  rfl
 ·obtain ⟨H0,P',Tb,x,rfl,hP,h8,q⟩:=h
  refine ⟨_,(ah (aE (aZ (JR rfl) (by rfl) T.Jy Pt (aa ao (aa (cQ uG (aj (pv 0) rfl) (aq (uA T) (hr.mono (by decide)) rfl T.qE T.dq.kp (wc T) .nil aN (aa (pv 0) ag))) ag))))),?_⟩
  refine ⟨_,rfl,_,_,_,_,_,rfl,hP.obj,T.a9,T.qJ,BD,_,rfl,H0,P',Tb,x,rfl,hP,h8,fun H1 s1=>?_⟩
  refine ⟨_,_,rfl,rfl,_,_,rfl,?_⟩
  rw [show (if ((Tb.balls:Nat):Int) - ((x.counted:Nat):Int) > 0 then ((Tb.balls:Nat):Int) - ((x.counted:Nat):Int) else 0) = ((Tb.large x:Nat):Int) by unfold Tilt.Table.large;split <;> omega]
  exact q H1 s1
theorem xM {P:Program} {w:World} {K:PySem.W.Frag} {mg:Str->Option Value} {base:Heap} (T:Txt K mg):a8 P w K mg base kD 3 T.jj T.dI ["play"] (xK T):=by
 refine T.cy.ok xg (fun vs H Q E h=>?_) (fun cdv A outer s H vs Q E hr h=>?_)
 ·obtain ⟨H0,P,Tb,x,rfl,_⟩:=h
  rfl
 ·obtain ⟨H0,P',Tb,x,rfl,hP,h8,q⟩:=h
  refine ⟨_,(ah (aE (Ff (aI dX (aj (pv 0) rfl) (iV rfl T.jc) (aG _)) (aq (ku T) (hr.mono (by decide)) rfl T.ir T.bz.kp (lr T) .nil aN (aa (pv 0) ag)) ao))),?_⟩
  refine ⟨_,rfl,_,_,_,_,_,rfl,hP.obj,T.a9,T.dF,nI,rfl,_,rfl,?_⟩
  unfold Tilt.Table.missing at q
  by_cases z:x.rounds = Tilt.ROUNDS
  ·rw [wL (by rw [z];rfl)]
   rw [if_pos z] at q
   exact aQ ⟨_,rfl,H0,P',Tb,x,rfl,hP,h8,q⟩
  ·rw [rq (fun y=>z (by show x.rounds = 3;have:((x.rounds:Nat):Int) = 3:=y;omega))]
   rw [if_neg z] at q
   exact aM (q H (bc.refl _))
theorem Bg {P:Program} {w:World} {K:PySem.W.Frag} {mg:Str->Option Value} {base:Heap} (T:Txt K mg):a8 P w K mg base kD 3 T.lE T.fu ["play"] (Be T):=by
 refine T.dz.ok nA (fun vs H Q E h=>?_) (fun cdv A outer s H vs Q E hr h=>?_)
 ·obtain ⟨H0,P,Tb,x,rfl,_⟩:=h
  rfl
 ·obtain ⟨H0,P',Tb,x,rfl,hP,h8,q⟩:=h
  refine ⟨_,(ae (aY (aI dX (aq (ku T) (hr.mono (by decide)) rfl T.ir T.bz.kp (lr T) .nil aN (aa (pv 0) ag)) ao (aG _)) (ah (aE rA)) aC)
   (ah (aE (aZ (O1 rfl) (by rfl) T.Jw Pr (aa (CB (te:=Qr (Qb (Lp fun i j=>V.bl (decide (i > j))) (MF K (Li 1) "left") (tC (V.int 0))) (Qb (Lp fun i j=>V.bl (decide (i > j))) (MF K (Li 1) "due") (tC (V.int 0)))) rfl nA.nd (sT (aj (pv 0) rfl)) (own:=[("device",1)]) yY (fun _ _ _ _ _=>(d7 (i:=1) nA.nd rfl (Or.inl rfl))) (fun _ _ _ _ _=>sX) (fun _ _ _ _ _=>(Ll (cR pG (aj (pv 1) rfl) ao (aG _)) (Dd (cR pG (aj (pv 1) rfl) ao (aG _)))))) ag))))),?_⟩
  refine ⟨_,rfl,H0,P',Tb,x,rfl,hP,h8,fun H1 s1=>?_⟩
  refine ⟨rfl,_,rfl,?_⟩
  by_cases z:Tb.large x = 0
  ·rw [wL (by omega)]
   rw [decide_eq_true z,Bool.true_or] at q
   exact aQ (q H1 s1)
  ·rw [rq (by omega)]
   rw [decide_eq_false z,Bool.false_or] at q
   have hP1:=hP.grow s1
   refine aM ⟨_,rfl,_,_,_,_,_,rfl,hP1.obj,T.a9,T.ck,c4,P'.dl,rfl,⟨_,dj.of hP1.dl⟩,fun D hD=>?_⟩
   refine vx (xs:=P'.ky.map V.ref) (fun i H2=>bc H1 H2/\H2 D = some (.lst (((x.at_.take i).map fun n=>(n.left != 0 || n.want != 0)).map V.bl))) ⟨Kp.same (Kp.new hD),af⟩ (fun i H2 _ h=>dj.of (h.1 _ _ hP1.dl)) ?_ ?_
   ·rintro i y H2 hy ⟨s2,ed⟩
    have hi:i < P'.ky.length:=by have:=(List.getElem?_eq_some_iff.mp hy).1;rw [List.length_map] at this;exact this
    have ha:P'.ky[i]? = some P'.ky[i]:=List.getElem?_eq_getElem hi
    rw [List.getElem?_map,ha] at hy
    cases hy
    obtain ⟨d,n,dx,pl,e1,e2,hd,_⟩:=hP1.get ha
    have hd2:=s2 _ _ hd.obj
    refine ⟨rfl,?_⟩
    unfold HG
    have hsz:(((x.at_.take i).map fun n=>(n.left != 0 || n.want != 0)).map V.bl).length < sizeLine:=by
     rw [List.length_map,List.length_map,List.length_take,hP.xl];exact Nat.lt_of_le_of_lt (Nat.min_le_right _ _) (Nat.lt_of_le_of_lt h8 (by decide))
    have fin:∀ b:Bool,b = (n.left != 0 || n.want != 0)->upd H2 D (.lst ((((x.at_.take i).map fun n=>(n.left != 0 || n.want != 0)).map V.bl) ++ [V.bl b])) D = some (.lst (((x.at_.take (i + 1)).map fun n=>(n.left != 0 || n.want != 0)).map V.bl)):=fun b hb=>by
     rw [af,take_one e2,List.map_append,List.map_append,hb];rfl
    refine aQ ⟨_,rfl,_,_,_,_,_,rfl,hd2,T.ax,T.b9,fk,_,_,rfl,rfl,_,rfl,?_⟩
    by_cases y1:n.left = 0
    ·rw [decide_eq_false (show ¬ ((n.left:Nat):Int) > 0 by omega)]
     refine aM ⟨_,rfl,_,_,_,_,_,rfl,hd2,T.ax,T.cM,gf,_,_,rfl,rfl,_,ed,hsz,eX s2 hD,fin _ ?_⟩
     rw [y1]
     by_cases y2:n.want = 0
     ·rw [y2];rfl
     ·rw [decide_eq_true (show ((n.want:Nat):Int) > 0 by omega)]
      simp [y2]
    ·rw [decide_eq_true (show ((n.left:Nat):Int) > 0 by omega)]
     refine aQ ⟨_,ed,hsz,eX s2 hD,fin _ ?_⟩
     simp [y1]
   ·rintro H2 ⟨s2,ed⟩
    rw [List.length_map,hP.len,←hP.xl,List.take_length] at ed
    refine ⟨D,_,rfl,dj.of ed,?_⟩
    rw [List.any_map]
    exact q H2 (s1.trans s2)
end Pb
namespace Pb
open PySem PySem.Spec PyProof.Rows L2
structure Ex (Tb:Tilt.Table):Prop where
 dl:Tb.devices.length<=8
 at_:∀ d ∈ Tb.devices,d.at_.length<=8
theorem IG {Tb:Tilt.Table} {x:Tilt.Balls} (g:pT Tb x) (hs:Ex Tb) {mask asks:Nat}:∀ z ∈ gN Tb x mask asks,z.events.length<=9:=fun z hz=>by
 have hl:=tm (T:=Tb) (x:=x) (mask:=mask) (asks:=asks) g.len
 obtain ⟨j,hj⟩:=List.getElem?_of_mem hz
 have hjl:j < Tb.devices.length:=by rw [←hl];exact (List.getElem?_eq_some_iff.mp hj).1
 obtain ⟨d,hd⟩:∃ d,Tb.devices[j]? = some d:=⟨_,List.getElem?_eq_getElem hjl⟩
 obtain ⟨n,hn⟩:∃ n,x.at_[j]? = some n:=⟨_,List.getElem?_eq_getElem (by rw [g.len];exact hjl)⟩
 rw [tj hd hn] at hj
 cases hj
 have h1:=CP (i:=j) (asked:=asks.testBit j) (g.at_ j d n hd hn) (rO d mask)
 have h2:=hs.at_ d (List.mem_of_getElem? hd)
 omega
section
variable {K:PySem.W.Frag} {mg:Str->Option Value}
structure nj (T:Txt K mg) (H0 H:Hp) (P:yC) (Tb:Tilt.Table) (x:Tilt.Balls) (G:GA) (tick:Nat) (ev:List (Nat × Nat)) (os:List Tilt.Order):Prop where
 bB:fg T H0 H P Tb x
 log:fh T H G tick ev os
 pin:P.p ∉ P.ky
 e0:H0 G.ea = none
 p0:H0 G.pa = none
 e1:P.dl ≠ G.ea
 p1:P.dl ≠ G.pa
noncomputable def nj.S (P:yC) (G:GA):List Addr:=P.p :: (P.ky ++ [G.ea,G.pa])
theorem nj.pS {P:yC} {G:GA}:P.p ∈ nj.S P G:=List.mem_cons_self ..
theorem nj.dS {P:yC} {G:GA} {a:Addr} (h:a ∈ P.ky):a ∈ nj.S P G:=List.mem_cons_of_mem _ (List.mem_append_left _ h)
theorem nj.eS {P:yC} {G:GA}:G.ea ∈ nj.S P G:=List.mem_cons_of_mem _ (List.mem_append_right _ (by simp))
theorem nj.qS {P:yC} {G:GA}:G.pa ∈ nj.S P G:=List.mem_cons_of_mem _ (List.mem_append_right _ (by simp))
noncomputable def Ey (T:Txt K mg):Sp:=fun vs H Q _=>∃ (H0:Hp) (P:yC) (Tb:Tilt.Table) (x:Tilt.Balls) (G:GA) (tick:Nat) (ev:List (Nat × Nat)) (os:List Tilt.Order),vs = [.ref P.p,.ref G.lg]/\nj T H0 H P Tb x G tick ev os/\Tb.devices.length<=8/\os.length < 1000000 ∧
 ∀ H',nj T H0 H' P Tb ⟨x.tick,x.mask,(searchM Tb.devices.length x.quiet x.rounds).1,(searchM Tb.devices.length x.quiet x.rounds).2.1,x.at_⟩ G tick ev (os ++ (((searchM Tb.devices.length x.quiet x.rounds).2.2.bind fun j=>Tb.devices[j]?).map (Tb.pulseOf tick)).toList)->Kp (nj.S P G) H H'->Q .fR H'
noncomputable def Ez (T:Txt K mg):Sp:=fun vs H Q _=>∃ (H0:Hp) (P:yC) (Tb:Tilt.Table) (x:Tilt.Balls) (G:GA) (tick:Nat) (ev:List (Nat × Nat)) (os:List Tilt.Order) (m asks:Nat),vs = [.ref P.p,.int (m:Nat),.int (asks:Nat),.ref G.lg]/\nj T H0 H P Tb x G tick ev os/\Ex Tb/\pT Tb x/\ev.length + 200<=1000000/\os.length + 20<=1000000 ∧
 ∀ H',nj T H0 H' P Tb (Tb.balls_ tick x m asks).1 G tick (ev ++ atT tick (Tb.balls_ tick x m asks).2.1) (os ++ (Tb.balls_ tick x m asks).2.2)->Kp (nj.S P G) H H'->Q .fR H'
theorem nj.wr {T:Txt K mg} {H0 H:Hp} {P:yC} {Tb:Tilt.Table} {x:Tilt.Balls} {G:GA} {tick:Nat} {ev:List (Nat × Nat)} {os:List Tilt.Order} (y:nj T H0 H P Tb x G tick ev os) (tk mask quiet rounds:Nat):nj T H0 (upd H P.p (.ins T.bh P.dx (eF (Tb.balls:Nat) P.dl (P.kp:Nat) (P.ka:Nat) (mask:Nat) (quiet:Nat) (rounds:Nat) (tk:Nat)))) P Tb ⟨tk,mask,quiet,rounds,x.at_⟩ G tick ev os :=
 ⟨y.bB.wr y.pin tk mask quiet rounds,⟨by rw [ai (aU y.log.obj y.bB.obj qV gL)];exact y.log.obj,by rw [ai (aU y.log.ev y.bB.obj bf gL)];exact y.log.ev,by rw [ai (aU y.log.os y.bB.obj bf gL)];exact y.log.os,y.log.ne⟩,y.pin,y.e0,y.p0,y.e1,y.p1⟩
theorem nj.PJ {T:Txt K mg} {H0 H H':Hp} {P:yC} {Tb:Tilt.Table} {x:Tilt.Balls} {G:GA} {tick:Nat} {ev ev':List (Nat × Nat)} {os os':List Tilt.Order} (y:nj T H0 H P Tb x G tick ev os) (k:Kp [G.ea,G.pa] H H') (l:fh T H' G tick ev' os'):nj T H0 H' P Tb x G tick ev' os':=by
 refine ⟨y.bB.kp' k ?_ ?_ ?_ ?_,l,y.pin,y.e0,y.p0,y.e1,y.p1⟩
 ·intro z
  simp only [List.mem_cons,List.not_mem_nil,or_false] at z
  rcases z with z | z
  ·exact aU y.bB.obj y.log.ev gL bf (by decide) z
  ·exact aU y.bB.obj y.log.os gL bf (by decide) z
 ·simp [y.e1,y.p1]
 ·intro a ha z
  obtain ⟨j,hj⟩:=List.getElem?_of_mem ha
  obtain ⟨d,n,dx,pl,_,_,hd,_⟩:=y.bB.get hj
  simp only [List.mem_cons,List.not_mem_nil,or_false] at z
  rcases z with z | z
  ·exact aU hd.obj y.log.ev cx bf (by decide) z
  ·exact aU hd.obj y.log.os cx bf (by decide) z
 ·intro b o e
  refine k b o (y.bB.same b o e) ?_
  have h1:b ≠ G.ea:=aw e y.e0
  have h2:b ≠ G.pa:=aw e y.p0
  simp [h1,h2]
end
theorem EA {P:Program} {w:World} {K:PySem.W.Frag} {mg:Str->Option Value} {base:Heap} (T:Txt K mg):a8 P w K mg base kD 2 T.oo T.iw ["play","log"] (Ey T):=by
 refine T.fD.ok qB (fun vs H Q E h=>?_) (fun cdv A outer s H vs Q E hr h=>?_)
 ·obtain ⟨H0,P,Tb,x,G,tick,ev,os,rfl,_⟩:=h
  rfl
 ·obtain ⟨H0,P',Tb,x,G,tick,ev,os,rfl,hT,h8,hos,q⟩:=h
  refine ⟨_,(ae (gd (pv 0) ao rE)
   (ae (aR (i:=2) qB.nd rfl (Or.inl rfl) (cQ uG (aj (pv 0) rfl) (iV rfl T.lK)))
   (ae (aY (PW.pt (zX (aI pF (pv 2) ao (aG _)) (uD (aI Fi (cQ Lq (pv 2) (iV rfl T.g9)) ao (aG _))))) (ah MC) aC)
   (ae (aR (i:=3) qB.nd rfl (Or.inl rfl) (cQ zy (pv 2) (iV rfl T.g9)))
   (ah (aY (aI pF (pv 3) (aZ bX (by rfl) T.gK PySem.boot_len (aa (aj (pv 0) rfl) ag)) (aG _)) (ah (aJ (mz (pv 1) T.gC T.j5 (oX T) (hr.mono (by decide)) (p9 T) .nil aN (aa (aj (kz h9 (aj (pv 0) rfl) (pv 3) (fun _ _=>rfl)) rfl) ag)))) (ae (aH (pv 0) ao rfl)
   (ah (aH (pv 0) (aZ (sV rfl) (by rfl) T.AO D3 (aa (iV rfl T.jc) (aa (cQ lX (aj (pv 0) rfl) ao) ag))) rfl))))))))),?_⟩
  refine ⟨_,rfl,_,_,_,_,_,rfl,hT.bB.obj,T.a9,T.eO,pj,_,_,rfl,rfl,_,_,hT.bB.obj,mH,?_⟩
  rw [um]
  have hT1:=hT.wr x.tick x.mask (x.quiet + 1) x.rounds
  have k1:Kp (nj.S P' G) H (upd H P'.p (.ins T.bh P'.dx (eF (Tb.balls:Nat) P'.dl (P'.kp:Nat) (P'.ka:Nat) (x.mask:Nat) ((x.quiet + 1:Nat):Int) (x.rounds:Nat) (x.tick:Nat)))):=Kp.wr nj.pS
  rw [show ((x.quiet:Nat):Int) + 1 = ((x.quiet + 1:Nat):Int) from rfl]
  generalize upd H P'.p (.ins T.bh P'.dx (eF (Tb.balls:Nat) P'.dl (P'.kp:Nat) (P'.ka:Nat) (x.mask:Nat) ((x.quiet + 1:Nat):Int) (x.rounds:Nat) (x.tick:Nat))) = H1 at hT1 k1 ⊢
  have o1:H1 P'.p = some (.ins T.bh P'.dx (eF (Tb.balls:Nat) P'.dl (P'.kp:Nat) (P'.ka:Nat) (x.mask:Nat) ((x.quiet + 1:Nat):Int) (x.rounds:Nat) (x.tick:Nat))):=hT1.bB.obj
  refine ⟨_,rfl,_,_,_,_,_,rfl,o1,T.a9,T.eO,pj,_,_,rfl,rfl,?_⟩
  refine ⟨_,rfl,_,_,rfl,rfl,_,rfl,?_⟩
  unfold searchM at q
  by_cases z1:x.quiet + 1 < 15000
  ·rw [decide_eq_true (show ((x.quiet + 1:Nat):Int) - 15000 < 0 by omega)]
   rw [if_pos (.inl z1)] at q
   exact aQ (aQ (q _ (by simpa using hT1) k1))
  ·rw [decide_eq_false (show ¬ ((x.quiet + 1:Nat):Int) - 15000 < 0 by omega)]
   refine aM ⟨_,rfl,_,_,rfl,rfl,(by show (0:Int) < 300;decide),rfl,_,rfl,?_⟩
   by_cases z2:(x.quiet + 1 - 15000) % 300 = 0
   ·rw [wL (by omega)]
    rw [if_neg (by omega)] at q
    refine aM ⟨_,rfl,_,_,rfl,rfl,⟨(by show (0:Int) < 300;decide),(by show (300:Int) < 1073741824;decide)⟩,?_⟩
    refine ⟨_,rfl,_,rfl,_,_,_,_,_,rfl,o1,T.a9,T.ck,c4,_,_,rfl,.inl ⟨_,dj.of hT1.bB.dl,rfl⟩,_,_,rfl,rfl,_,rfl,?_⟩
    rw [List.length_map,hT1.bB.len]
    by_cases z3:(x.quiet + 1 - 15000) / 300 < Tb.devices.length
    ·rw [decide_eq_true (show (((x.quiet + 1:Nat):Int) - 15000) / 300 < ((Tb.devices.length:Nat):Int) by omega)]
     rw [if_pos z3] at q
     have ha:P'.ky[(x.quiet + 1 - 15000) / 300]? = some _:=List.getElem?_eq_getElem (by rw [hT1.bB.len];exact z3)
     obtain ⟨d,n,dx,pl,e1,e2,hd,hp⟩:=hT1.bB.get ha
     have hO:yB T H1 pl (mn Tb d):=(hp.same hT1.bB.same).o
     refine aQ ⟨_,rfl,_,_,_,rfl,hT1.log.obj,oh,_,rfl,_,_,_,_,_,rfl,o1,T.a9,T.ck,c4,_,rfl,_,_,_,_,rfl,rfl,dj.of hT1.bB.dl,at_of (j:=(x.quiet + 1 - 15000) / 300) (v:=V.ref _) (by omega) (by rw [List.getElem?_map,ha];rfl),_,_,_,_,_,rfl,hd.obj,T.ax,T.i9,nH,G,tick,ev,os,pl,mn Tb d,rfl,hT1.log,hos,hO,fun H2 hL2 k2=>?_⟩
     have k2':Kp [G.ea,G.pa] H1 H2:=k2.mono (by simp)
     refine q _ ?_ (k1.trans (k2.mono (fun b hb=>by rw [List.mem_singleton.mp hb];exact nj.qS)))
     have:=hT1.PJ k2' hL2
     dsimp only
     rw [Option.bind_some,e1]
     exact this
    ·rw [decide_eq_false (show ¬ (((x.quiet + 1:Nat):Int) - 15000) / 300 < ((Tb.devices.length:Nat):Int) by omega)]
     rw [if_neg z3] at q
     refine aM ⟨_,rfl,_,_,_,_,rfl,o1,T.a9,T.eO,mH,?_⟩
     rw [um]
     refine ⟨_,rfl,_,_,_,_,_,rfl,af,T.a9,T.dF,nI,_,_,rfl,rfl,_,_,rfl,_,rfl,_,_,_,_,rfl,af,T.a9,T.dF,mH,?_⟩
     rw [Az,aW]
     dsimp only
     rw [show (if ((x.rounds:Nat):Int) + 1 < 3 then ((x.rounds:Nat):Int) + 1 else 3) = ((min 3 (x.rounds + 1):Nat):Int) by split <;> omega]
     have hT2:=hT1.wr x.tick x.mask 0 (min 3 (x.rounds + 1))
     exact q _ (by simpa using hT2) (k1.trans (Kp.wr nj.pS))
   ·rw [rq (by omega)]
    rw [if_pos (.inr z2)] at q
    exact aQ (q _ (by simpa using hT1) k1)
section
variable {K:PySem.W.Frag} {mg:Str->Option Value}
noncomputable def GS (Tb:Tilt.Table) (tick:Nat) (l:List Tilt.NowTold) (j:Nat):List Tilt.Order:=(((Tb.devices.zip l).take j).filter fun (z:Tilt.Device × Tilt.NowTold)=>z.2.pulse).map fun (z:Tilt.Device × Tilt.NowTold)=>Tb.pulseOf tick z.1
structure Sn (T:Txt K mg) (Hs H0 H:Hp) (P:yC) (Tb:Tilt.Table) (x:Tilt.Balls) (l:List Tilt.NowTold) (G:GA) (tick:Nat) (ev:List (Nat × Nat)) (os:List Tilt.Order) (j:Nat):Prop where
 obj:H P.p = some (.ins T.bh P.dx (eF (Tb.balls:Nat) P.dl (P.kp:Nat) (P.ka:Nat) (x.mask:Nat) (x.quiet:Nat) (x.rounds:Nat) (x.tick:Nat)))
 dl:H P.dl = some (.lst (P.ky.map V.ref))
 KN:∀ (i:Nat) (a:Addr),P.ky[i]? = some a->∃ dx pl d n,Tb.devices[i]? = some d/\d6 T H a dx i pl n/\di T H0 pl (mn Tb d)/\(i < j->(l.map (·.now))[i]? = some n)/\(j<=i->x.at_[i]? = some n)
 log:fh T H G tick (ev ++ atT tick ((l.take j).flatMap (·.events))) (os ++ GS Tb tick l j)
 same:bc H0 H
 kp:Kp (nj.S P G) Hs H
theorem nj.grow {T:Txt K mg} {H0 H H':Hp} {P:yC} {Tb:Tilt.Table} {x:Tilt.Balls} {G:GA} {tick:Nat} {ev:List (Nat × Nat)} {os:List Tilt.Order} (y:nj T H0 H P Tb x G tick ev os) (s:bc H H'):nj T H0 H' P Tb x G tick ev os:=⟨y.bB.grow s,y.log.Tf s,y.pin,y.e0,y.p0,y.e1,y.p1⟩
end
theorem EB {P:Program} {w:World} {K:PySem.W.Frag} {mg:Str->Option Value} {base:Heap} (T:Txt K mg):a8 P w K mg base kD 4 T.om T.iu ["play","mask","asks","log"] (Ez T):=by
 refine T.fC.ok qA (fun vs H Q E h=>?_) (fun cdv A outer s H vs Q E hr h=>?_)
 ·obtain ⟨H0,P,Tb,x,G,tick,ev,os,m,asks,rfl,_⟩:=h
  rfl
 ·obtain ⟨H0,P',Tb,x,G,tick,ev,os,m,asks,rfl,hT,hs,hg,hev,hos,q⟩:=h
  refine ⟨_,(ae (qk PassesOwn.never rfl (sT (aj (pv 0) rfl)) (d7 (i:=4) qA.nd rfl (Or.inl rfl)) (ah (aJ (aq (Bc T) (hr.mono (by decide)) rfl T.ur T.dy.kp (BN T) .nil aN (aa (pv 4) (aa (pv 1) (aa (cR dX (cQ Hx (cQ Lr (pv 2) (aj (pv 4) rfl)) ao) ao (aG _)) (aa (pv 3) ag))))))))
   (ae (aR (i:=5) qA.nd rfl (Or.inl rfl) (cR Fi (pv 1) (aj (pv 0) rfl) (aG _)))
   (ae (aH (pv 0) (pv 1) rfl)
   (ae (gd (pv 0) ao rE)
   (ah (aY (PW.pt (zX (bQ (pv 5) (fun _=>rfl)) (uD (bQ (aq (Bg T) (hr.mono (by decide)) rfl T.uu T.dz.kp (BO T) .nil aN (aa (pv 0) ag)) (fun _=>rfl))))) (ae (aH (pv 0) ao rfl)
   (ah (aH (pv 0) ao rfl))) (ah (aJ (aq (EA T) (hr.mono (by decide)) rfl T.yr T.fD.kp (Gd T) .nil aN (aa (pv 0) (aa (pv 3) ag))))))))))),?_⟩
  have hl:=tm (T:=Tb) (x:=x) (mask:=m) (asks:=asks) hg.len
  have hsm:=IG hg hs (mask:=m) (asks:=asks)
  rw [Au hg.quiet] at q
  have htg:∀ (j:Nat) (d:Tilt.Device) (n:Tilt.Now),Tb.devices[j]? = some d->x.at_[j]? = some n->(gN Tb x m asks)[j]? = some (n.tick j (shown d.at_ m) (asks.testBit j)):=fun j d n h1 h2=>tj h1 h2
  have hgl:∀ (j:Nat) (d:Tilt.Device) (n:Tilt.Now),Tb.devices[j]? = some d->x.at_[j]? = some n->Good 8 n:=fun j d n h1 h2=>by
   have g:=hg.at_ j d n h1 h2
   have hz:=hs.at_ d (List.mem_of_getElem? h1)
   exact ⟨g.Mx,g.still,Nat.le_trans g.shows hz,Nat.le_trans g.count hz⟩
  generalize gN Tb x m asks = l at q hl hsm htg
  refine ⟨_,rfl,_,_,_,_,_,rfl,hT.bB.obj,T.a9,T.ck,c4,P'.dl,rfl,⟨_,dj.of hT.bB.dl⟩,?_⟩
  refine Lo (xs:=P'.ky.map V.ref) (fun j σ H2=>(∃ u v,σ = [some (.ref P'.p),some (.int (m:Nat)),some (.int (asks:Nat)),some (.ref G.lg),u,v])/\Sn T H H0 H2 P' Tb x l G tick ev os j) ⟨⟨_,_,rfl⟩,?_⟩ (fun j σ H2 _ hh=>dj.of hh.2.dl) ?_ ?_
  ·refine ⟨hT.bB.obj,hT.bB.dl,fun i a ha=>?_,?_,hT.bB.same,Kp.refl⟩
   ·obtain ⟨d,n,dx,pl,e1,e2,hd,hp⟩:=hT.bB.get ha
    exact ⟨dx,pl,d,n,e1,hd,hp,fun h=>absurd h (Nat.not_lt_zero _),fun _=>e2⟩
   ·have:=hT.log
    simpa [atT,GS] using this
  ·rintro j y σ H2 hy ⟨⟨u,v,rfl⟩,hh⟩
   have hj:j < P'.ky.length:=by have:=(List.getElem?_eq_some_iff.mp hy).1;rw [List.length_map] at this;exact this
   have ha:P'.ky[j]? = some P'.ky[j]:=List.getElem?_eq_getElem hj
   rw [List.getElem?_map,ha] at hy
   cases hy
   generalize P'.ky[j] = a at ha
   obtain ⟨dx,pl,d,n,e1,hd,hp,_,hn⟩:=hh.KN j a ha
   have e2:=hn (Nat.le_refl _)
   have er:=htg j d n e1 e2
   have hp2:=hp.same hh.same
   have hln:(l.take j).length<=8:=by rw [List.length_take];have:=hs.dl;omega
   have hfl:=vI (f:=fun (z:Tilt.NowTold)=>z.events) (m:=9) (l:=l.take j) fun z hz=>hsm z (List.mem_of_mem_take hz)
   have hol:(GS Tb tick l j).length<=8:=by
    unfold GS
    rw [List.length_map]
    refine Nat.le_trans (List.length_filter_le _ _) ?_
    rw [List.length_take,List.length_zip]
    have:=hs.dl
    omega
   refine ⟨_,rfl,_,rfl,_,rfl,_,rfl,_,_,_,_,_,rfl,hd.obj,T.ax,T.eC,ic,_,_,rfl,rfl,(by show (0:Int)<=((j:Nat):Int);omega),_,_,rfl,rfl,rfl,_,rfl,?_⟩
   have eask:decide (V.int (Builtin.bitAnd (((asks:Nat):Int) / 2 ^ ((j:Nat):Int).toNat) 1) = V.int 1) = asks.testBit j:=by
    rw [Rn]
    cases asks.testBit j <;> rfl
   dsimp only
   rw [eask]
   refine ⟨a,dx,j,pl,n,G,tick,_,_,mn Tb d,m,asks.testBit j,rfl,hd,hh.log,hp2,hgl j d n e1 e2,hs.at_ d (List.mem_of_getElem? e1),?_,?_,fun H3 hd3 hl3 k3=>?_⟩
   ·rw [List.length_append,qZ];omega
   ·rw [List.length_append];omega
   ·have haS:a ∈ P'.ky:=List.mem_of_getElem? ha
    have hn0:H0 a = none:=hT.bB.Nk a haS
    have ppn:P'.p ∉ [a,G.ea,G.pa]:=by
     intro z
     simp only [List.mem_cons,List.not_mem_nil,or_false] at z
     rcases z with z | z | z
     ·exact hT.pin (by rw [z];exact haS)
     ·exact aU hh.obj hh.log.ev gL bf (by decide) z
     ·exact aU hh.obj hh.log.os gL bf (by decide) z
    have dln:P'.dl ∉ [a,G.ea,G.pa]:=by
     intro z
     simp only [List.mem_cons,List.not_mem_nil,or_false] at z
     rcases z with z | z | z
     ·exact aU hh.dl hd.obj bf cx (by decide) z
     ·exact hT.e1 z
     ·exact hT.p1 z
    refine ⟨⟨_,_,rfl⟩,k3 _ _ hh.obj ppn,k3 _ _ hh.dl dln,fun i b hb=>?_,?_,fun b o e=>?_,hh.kp.trans (k3.mono ?_)⟩
    ·by_cases hij:i = j
     ·subst hij
      rw [ha] at hb
      cases hb
      exact ⟨dx,pl,d,_,e1,hd3,hp,fun _=>by rw [List.getElem?_map,er];rfl,fun h=>by omega⟩
     ·obtain ⟨dx',pl',d',n',e1',hd',hp',h1',h2'⟩:=hh.KN i b hb
      refine ⟨dx',pl',d',n',e1',⟨k3 _ _ hd'.obj ?_⟩,hp',fun h=>h1' (by omega),fun h=>h2' (by omega)⟩
      intro z
      simp only [List.mem_cons,List.not_mem_nil,or_false] at z
      rcases z with z | z | z
      ·exact hij (Oh hT.bB.nd hb (by rw [z];exact ha))
      ·exact aU hd'.obj hh.log.ev cx bf (by decide) z
      ·exact aU hd'.obj hh.log.os cx bf (by decide) z
    ·have ez:(Tb.devices.zip l)[j]? = some (d,n.tick j (shown d.at_ m) (asks.testBit j)):=by rw [List.getElem?_zip_eq_some];exact ⟨e1,er⟩
     have eo:GS Tb tick l (j + 1) = GS Tb tick l j ++ fZ tick (mn Tb d) (n.tick j (shown d.at_ m) (asks.testBit j)).pulse:=by
      unfold GS fZ
      rw [take_one ez,List.filter_append,List.map_append]
      congr 1
      rw [List.filter_cons]
      dsimp only
      cases (n.tick j (shown d.at_ m) (asks.testBit j)).pulse <;> rfl
     rw [take_one er,List.flatMap_append,qY,←List.append_assoc,eo,←List.append_assoc]
     rw [show List.flatMap (fun (z:Tilt.NowTold)=>z.events) [n.tick j (shown d.at_ m) (asks.testBit j)] = (n.tick j (shown d.at_ m) (asks.testBit j)).events by simp]
     exact hl3
    ·refine k3 b o (hh.same b o e) ?_
     have h1:b ≠ a:=aw e hn0
     have h2:b ≠ G.ea:=aw e hT.e0
     have h3:b ≠ G.pa:=aw e hT.p0
     simp [h1,h2,h3]
    ·intro b hb
     simp only [List.mem_cons,List.not_mem_nil,or_false] at hb
     rcases hb with rfl | rfl | rfl
     ·exact nj.dS haS
     ·exact nj.eS
     ·exact nj.qS
  ·rintro σ H2 ⟨⟨u,v,rfl⟩,hh⟩
   rw [List.length_map] at hh
   have hT2:nj T H0 H2 P' Tb { x with at_:=l.map (·.now) } G tick (ev ++ atT tick (l.flatMap (·.events))) (os ++ n8 Tb tick l):=by
    have hlen:P'.ky.length = l.length:=by rw [hT.bB.len,hl]
    refine ⟨⟨hh.obj,hh.dl,hT.bB.len,by dsimp only;rw [List.length_map,hl],hT.bB.nd,fun j a d n h1 h2 h3=>?_,hh.same,hT.bB.np,hT.bB.Nk⟩,?_,hT.pin,hT.e0,hT.p0,hT.e1,hT.p1⟩
    ·obtain ⟨dx,pl,d',n',e1,hd,hp,hlt,_⟩:=hh.KN j a h1
     rw [h2] at e1
     cases e1
     have:=hlt (List.getElem?_eq_some_iff.mp h1).1
     have h3':(l.map (·.now))[j]? = some n:=h3
     rw [this] at h3'
     cases h3'
     exact ⟨dx,pl,hd,hp⟩
    ·have:=hh.log
     rw [hlen,List.take_length] at this
     unfold GS at this
     rw [List.take_of_length_le (by rw [List.length_zip];omega)] at this
     exact this
   have kp2:=hh.kp
   have o2:=hh.obj
   refine ⟨_,rfl,_,rfl,_,_,_,_,_,rfl,o2,T.a9,T.oJ,DN,rfl,_,rfl,_,rfl,_,_,_,_,rfl,o2,T.a9,T.oJ,mH,?_⟩
   rw [DO]
   refine ⟨_,rfl,_,_,_,_,_,rfl,af,T.a9,T.mS,uo,_,_,rfl,rfl,_,_,af,mH,?_⟩
   rw [BE,aW]
   have hT3:=hT2.wr (x.tick + 1) m x.quiet x.rounds
   have k3:Kp (nj.S P' G) H (upd H2 P'.p (.ins T.bh P'.dx (eF (Tb.balls:Nat) P'.dl (P'.kp:Nat) (P'.ka:Nat) (m:Nat) (x.quiet:Nat) (x.rounds:Nat) ((x.tick + 1:Nat):Int)))):=kp2.trans (Kp.wr nj.pS)
   dsimp only at hT3 ⊢
   rw [show ((x.tick:Nat):Int) + 1 = ((x.tick + 1:Nat):Int) from rfl]
   generalize upd H2 P'.p (.ins T.bh P'.dx (eF (Tb.balls:Nat) P'.dl (P'.kp:Nat) (P'.ka:Nat) (m:Nat) (x.quiet:Nat) (x.rounds:Nat) ((x.tick + 1:Nat):Int))) = H3 at hT3 k3 ⊢
   have o3:H3 P'.p = some (.ins T.bh P'.dx (eF (Tb.balls:Nat) P'.dl (P'.kp:Nat) (P'.ka:Nat) (m:Nat) (x.quiet:Nat) (x.rounds:Nat) ((x.tick + 1:Nat):Int))):=hT3.bB.obj
   refine ⟨_,rfl,_,rfl,?_⟩
   by_cases zm:m = x.mask
   ·rw [wL (by omega)]
    refine aM ⟨_,rfl,H0,P',Tb,_,rfl,hT3.bB,hs.dl,fun H4 s4=>⟨_,rfl,?_⟩⟩
    have hT4:=hT3.grow s4
    have k4:=k3.trans (Kp.of_same s4)
    have o4:=s4 _ _ o3
    cases zc:(decide (Tb.large ⟨x.tick + 1,m,x.quiet,x.rounds,l.map (·.now)⟩ = 0) || (⟨x.tick + 1,m,x.quiet,x.rounds,l.map (·.now)⟩:Tilt.Balls).busy) with
    | true =>
     have zc':m ≠ x.mask\/Tb.large ⟨x.tick + 1,m,x.quiet,x.rounds,l.map (·.now)⟩ = 0\/(⟨x.tick + 1,m,x.quiet,x.rounds,l.map (·.now)⟩:Tilt.Balls).busy = true:=.inr (by simpa using zc)
     rw [if_pos zc'] at q
     refine aQ ⟨_,rfl,_,_,_,_,rfl,o4,T.a9,T.eO,mH,_,rfl,_,_,_,_,rfl,af,T.a9,T.dF,mH,?_⟩
     rw [aW]
     exact q _ (hT4.wr (x.tick + 1) m 0 0) (k4.trans (Kp.wr nj.pS))
    | false =>
     have zc':¬ (m ≠ x.mask\/Tb.large ⟨x.tick + 1,m,x.quiet,x.rounds,l.map (·.now)⟩ = 0\/(⟨x.tick + 1,m,x.quiet,x.rounds,l.map (·.now)⟩:Tilt.Balls).busy = true):=by
      simp only [Bool.or_eq_false_iff,decide_eq_false_iff_not] at zc
      rintro (h | h | h)
      ·exact h zm
      ·exact zc.1 h
      ·rw [zc.2] at h;cases h
     rw [if_neg zc'] at q
     refine aM ⟨_,rfl,_,rfl,H0,P',Tb,_,G,tick,_,_,rfl,hT4,hs.dl,?_,fun H5 hT5 k5=>?_⟩
     ·have:(n8 Tb tick l).length<=8:=by
       unfold n8
       rw [List.length_map]
       refine Nat.le_trans (List.length_filter_le _ _) ?_
       rw [List.length_zip]
       have:=hs.dl
       omega
      rw [List.length_append]
      omega
     ·refine q _ ?_ (k4.trans k5)
      rw [←List.append_assoc]
      exact hT5
   ·rw [rq (by omega)]
    rw [if_pos (.inl zm)] at q
    refine aQ (aQ ⟨_,rfl,_,_,_,_,rfl,o3,T.a9,T.eO,mH,_,rfl,_,_,_,_,rfl,af,T.a9,T.dF,mH,?_⟩)
    rw [aW]
    exact q _ (hT3.wr (x.tick + 1) m 0 0) (k3.trans (Kp.wr nj.pS))
end Pb
namespace Pb
open PySem PySem.Spec PyProof.Rows L2
noncomputable def PL (d:Tilt.Device) (m:Nat):Tilt.Now:=⟨shown d.at_ m,Tilt.REST,shown d.at_ m,0,0,0⟩
section
variable {K:PySem.W.Frag} {mg:Str->Option Value}
structure PM (T:Txt K mg) (H0 H Hk:Hp) (a D:Addr) (ky:List Addr) (Tb:Tilt.Table) (m:Nat):Prop where
 same:bc H0 Hk
 dl:Hk D = some (.lst (ky.map V.ref))
 nd:ky.Nodup
 KN:∀ (j:Nat) (b:Addr),ky[j]? = some b->∃ dx pl d,Tb.devices[j]? = some d/\d6 T Hk b dx j pl (PL d m)/\di T H0 pl (mn Tb d)
 Nk:∀ b ∈ ky,H0 b = none
 na:a ∉ ky
 nD:D ≠ a
 kp:Kp [a] H Hk
theorem PM.wr {T:Txt K mg} {H0 H Hk:Hp} {a D:Addr} {ky:List Addr} {Tb:Tilt.Table} {m:Nat} (z:PM T H0 H Hk a D ky Tb m) (h0:H0 a = none) (o:HO):PM T H0 H (upd Hk a o) a D ky Tb m :=
 ⟨eX z.same h0,by rw [ai z.nD];exact z.dl,z.nd,fun j b hb=>let ⟨dx,pl,d,e1,hd,hp⟩:=z.KN j b hb;⟨dx,pl,d,e1,⟨by rw [ai (fun y=>z.na (by rw [←y];exact List.mem_of_getElem? hb))];exact hd.obj⟩,hp⟩,z.Nk,z.na,z.nD,z.kp.trans (Kp.wr (by simp))⟩
theorem PM.grow {T:Txt K mg} {H0 H Hk Hk':Hp} {a D:Addr} {ky:List Addr} {Tb:Tilt.Table} {m:Nat} (z:PM T H0 H Hk a D ky Tb m) (s:bc Hk Hk'):PM T H0 H Hk' a D ky Tb m :=
 ⟨z.same.trans s,s _ _ z.dl,z.nd,fun j b hb=>let ⟨dx,pl,d,e1,hd,hp⟩:=z.KN j b hb;⟨dx,pl,d,e1,⟨s _ _ hd.obj⟩,hp⟩,z.Nk,z.na,z.nD,z.kp.trans (Kp.of_same s)⟩
noncomputable def xN (T:Txt K mg):Sp:=fun vs H Q _=>∃ (H0:Hp) (a dx:Addr) (A:TA) (pt:PT) (s:Nat) (Tb:Tilt.Table) (m:Nat),vs = [.ref a,.ref A.t,.int (m:Nat)]/\H a = some (.ins T.bh dx [])/\bc H0 H/\H0 a = none/\TableAt T H A pt/\(∃ as,H A.pl = some (.lst (as.map V.ref))/\mZ T H0 as pt.bt)/\jT pt s Tb ∧
 ∀ H' P,P.p = a->fg T H0 H' P Tb (Tb.ballsBegun m)->P.p ∉ P.ky->P.kp = bitsOf (Tb.switches.map (·.place))->P.ka = bitsOf (List.range Tb.devices.length)->Kp [a] H H'->Q .fR H'
end
theorem xO {P:Program} {w:World} {K:PySem.W.Frag} {mg:Str->Option Value} {base:Heap} (T:Txt K mg):a8 P w K mg base kD 4 T.ji T.dH ["self","table","mask"] (xN T):=by
 refine T.c5.ok ib (fun vs H Q E h=>?_) (fun cdv A outer s H vs Q E hr h=>?_)
 ·obtain ⟨H0,a,dx,A,pt,s,Tb,m,rfl,_⟩:=h
  rfl
 ·obtain ⟨H0,a,dx,A',pt,rk,Tb,m,rfl,ha,s0,h0,hT,hpl0,hr2,q⟩:=h
  refine ⟨_,(ae (aH (pv 0) (aj (pv 1) rfl) rfl)
   (ae (aH (pv 0) (CB (g:=Qw K 2 (Lm (IW 3) (Lm (IW 4) Qv))) rfl ib.nd (Jc rfl T.jS (aa (aj (pv 1) rfl) ag)) (own:=[("number",3),("plan",4)]) wy (fun _ _ _ _ _=>(Ht rfl (pE (d7 (i:=3) ib.nd rfl (Or.inl rfl)) (pE (d7 (i:=4) ib.nd rfl (Or.inl rfl)) De)))) (fun _ _ _ _ _=>sX) (fun _ _ _ _ _=>(mB T.tL (vf T) (hr.mono (by decide)) rfl T.F8 (wb T) .nil aN (aa (pv 3) (aa (pv 4) (aa (pv 2) ag)))))) rfl)
   (ae (aH (pv 0) (aq (Bf T) (hr.mono (by decide)) rfl T.xt T.ip.kp (CZ T) .nil aN (aa (FK rfl rfl T.AN (aj (aj (pv 1) rfl) rfl)) ag)) rfl)
   (ae (aH (pv 0) (aq (Bf T) (hr.mono (by decide)) rfl T.xt T.ip.kp (CZ T) .nil aN (aa (Dx rfl rfl T.AN rfl T.lL (aa (aZ bX (by rfl) T.gK PySem.boot_len (aa (aj (pv 1) rfl) ag)) ag)) ag)) rfl)
   (ae (aH (pv 0) (pv 2) rfl)
   (ae (aH (pv 0) ao rfl)
   (ae (aH (pv 0) ao rfl)
   (ah (aH (pv 0) ao rfl))))))))),?_⟩
  have ht:=hT.obj
  obtain ⟨as,eas,ps⟩:=hpl0
  have na:∀ {b:Addr} {o:HO},H b = some o->fe o ≠ 3->b ∉ [a]:=fun {b o} e t z=>t (by
   rw [List.mem_singleton.mp z,ha] at e
   cases e
   rfl)
  have nt:A'.t ∉ [a]:=na hT.obj (by rw [Gv];decide)
  have nsw:A'.sw ∉ [a]:=na hT.sw.obj (by rw [jy];decide)
  have nsd:A'.Lg ∉ [a]:=na hT.sw.kF (by rw [wj];decide)
  have npl:A'.pl ∉ [a]:=na eas (by rw [bf];decide)
  have hps:pt.bt = Tb.devices.map (mn Tb):=hr2.bt
  have hal:as.length = Tb.devices.length:=by rw [ps.len,hps,List.length_map]
  have hd8:=hr2.M4
  refine ⟨_,rfl,_,_,_,_,_,rfl,ht,T.aA,T.ja,sx,_,rfl,_,_,_,_,rfl,ha,T.a9,T.qJ,(by show 0 < 1000;decide),?_⟩
  have k1:Kp [a] H (upd H a (.ins T.bh dx [("balls",V.int (pt.balls:Nat))])):=Kp.wr (by simp)
  have s1:bc H0 (upd H a (.ins T.bh dx [("balls",V.int (pt.balls:Nat))])):=eX s0 h0
  have a1:upd H a (.ins T.bh dx [("balls",V.int (pt.balls:Nat))]) a = some (.ins T.bh dx [("balls",V.int (pt.balls:Nat))]):=af
  show (_:TS) _ _ (upd H a (.ins T.bh dx [("balls",V.int (pt.balls:Nat))]))
  generalize upd H a (.ins T.bh dx [("balls",V.int (pt.balls:Nat))]) = H1 at k1 s1 a1 ⊢
  refine ⟨_,rfl,_,_,_,_,_,rfl,k1 _ _ hT.obj nt,T.aA,T.fb,gP,A'.pl,_,rfl,dj.of (k1 _ _ eas npl),fun D hD=>?_⟩
  have hDa:D ≠ a:=fun e=>by rw [e,a1] at hD;cases hD
  refine Ph (n:=as.length) (fun i H2=>∃ ky:List Addr,ky.length = i/\PM T H0 H H2 a D ky Tb m/\bc H1 H2) ⟨[],rfl,⟨eX s1 (s1.free hD),af,List.nodup_nil,fun j b hb=>by simp at hb,nofun,nofun,hDa,k1.trans (Kp.new hD)⟩,Kp.same (Kp.new hD)⟩ ?_ ?_ ?_ ?_
  ·rintro i H2 hi ⟨ky,_,zd,_⟩
   exact ⟨_,_,dj.of (zd.kp _ _ eas npl),by rw [List.getElem?_map,List.getElem?_eq_getElem hi];rfl⟩
  ·rintro H2 ⟨ky,_,zd,_⟩
   exact ⟨_,dj.of (zd.kp _ _ eas npl),by rw [List.length_map];exact Nat.le_refl _⟩
  ·rintro i H2 x H3 hi ⟨ky,hdl,zd,s2⟩ ⟨tu,y,rfl,htu,rfl,hy⟩
   have hpa:as[i]? = some as[i]:=List.getElem?_eq_getElem hi
   have hy':=hy _ (dj.of (zd.kp _ _ eas npl))
   rw [List.getElem?_map,hpa] at hy'
   cases hy'
   generalize as[i] = pl at hpa htu
   have hdv:Tb.devices[i]? = some Tb.devices[i]:=List.getElem?_eq_getElem (by omega)
   generalize Tb.devices[i] = d at hdv
   have hpp:pt.bt[i]? = some (mn Tb d):=by rw [hps,List.getElem?_map,hdv];rfl
   have hpl:di T H0 pl (mn Tb d):=ps.at_ i pl _ hpa hpp
   have z3:=zd.grow (Kp.same (Kp.new (o:=.tup [V.int (i:Nat),V.ref pl]) htu))
   have s3:bc H1 (upd H2 tu (.tup [V.int (i:Nat),V.ref pl])):=s2.trans (Kp.same (Kp.new htu))
   refine ⟨tu,_,rfl,yD.of af,rfl,_,_,rfl,_,_,rfl,rfl,rfl,?_⟩
   unfold HG
   generalize upd H2 tu (.tup [V.int (i:Nat),V.ref pl]) = H3 at z3 s3 ⊢
   refine aQ ⟨_,rfl,_,rfl,_,rfl,fun da ddx hda hddx dne=>?_⟩
   have hda':upd H3 ddx (.own da) da = none:=by rw [ai (Ne.symm dne)];exact hda
   have s4:bc H3 (upd (upd H3 ddx (.own da)) da (.ins T.aO ddx [])):=Kp.same ((Kp.new hddx).trans (Kp.new hda'))
   refine ⟨da,ddx,i,pl,mn Tb d,m,rfl,af,hpl.same (z3.same.trans s4),(hr2.Oj d (List.mem_of_getElem? hdv)).1,fun H5 hD5 k5=>⟨rfl,?_⟩⟩
   have s5:bc H3 H5:=fun b o e=>k5 b o (s4 b o e) (by simpa using aw e hda)
   have z5:=z3.grow s5
   refine ⟨_,z5.dl,?_,ky ++ [da],by rw [List.length_append,hdl];rfl,⟨?_,?_,?_,?_,?_,?_,hDa,?_⟩,?_⟩
   ·rw [List.length_map,hdl];exact Nat.lt_of_lt_of_le (by omega:i < 8) (by decide)
   ·exact eX z5.same (s1.free hD)
   ·rw [af,List.map_append];rfl
   ·rw [List.nodup_append]
    refine ⟨zd.nd,by simp,fun b hb c hc=>?_⟩
    rw [List.mem_singleton.mp hc]
    intro e
    obtain ⟨j,hj⟩:=List.getElem?_of_mem hb
    obtain ⟨_,_,_,_,hd',_⟩:=z3.KN j b hj
    have ho:=hd'.obj
    rw [e,hda] at ho
    cases ho
   ·intro j b hb
    by_cases hj:j < ky.length
    ·rw [List.getElem?_append_left hj] at hb
     obtain ⟨dx',pl',d',e1',hd',hp'⟩:=z5.KN j b hb
     exact ⟨dx',pl',d',e1',⟨by rw [ai (aU hd'.obj z5.dl cx bf)];exact hd'.obj⟩,hp'⟩
    ·have hj2:j = i:=by
      have:=(List.getElem?_eq_some_iff.mp hb).1
      rw [List.length_append,List.length_singleton] at this
      omega
     subst hj2
     rw [List.getElem?_append_right (by omega),hdl,Nat.sub_self] at hb
     cases hb
     exact ⟨ddx,pl,d,hdv,⟨by rw [ai (aU hD5.obj z5.dl cx bf)];exact hD5.obj⟩,hpl⟩
   ·intro b hb
    rcases List.mem_append.mp hb with hb | hb
    ·exact zd.Nk b hb
    ·rw [List.mem_singleton.mp hb];exact z3.same.free hda
   ·intro hb
    rcases List.mem_append.mp hb with hb | hb
    ·exact zd.na hb
    ·have:=s3 _ _ a1
     rw [List.mem_singleton.mp hb,hda] at this
     cases this
   ·exact z5.kp.Ou (by
     cases e:H D with
     | none=>rfl
     | some o =>
      have:=k1 D o e (by simpa using hDa)
      rw [hD] at this;cases this)
   ·exact eX (s3.trans s5) hD
  ·rintro H2 ⟨ky,hdl,zd,s2⟩
   have a2:=s2 _ _ a1
   refine ⟨_,rfl,_,_,_,_,rfl,a2,T.a9,T.ck,(by show 1 < 1000;decide),?_⟩
   have z3:=zd.wr h0 (.ins T.bh dx [("balls",V.int (pt.balls:Nat)),("devices",V.ref D)])
   have a3:upd H2 a (.ins T.bh dx [("balls",V.int (pt.balls:Nat)),("devices",V.ref D)]) a = some (.ins T.bh dx [("balls",V.int (pt.balls:Nat)),("devices",V.ref D)]):=af
   show (_:TS) _ _ (upd H2 a (.ins T.bh dx [("balls",V.int (pt.balls:Nat)),("devices",V.ref D)]))
   generalize upd H2 a (.ins T.bh dx [("balls",V.int (pt.balls:Nat)),("devices",V.ref D)]) = H3 at z3 a3 ⊢
   refine ⟨_,rfl,_,_,_,_,_,rfl,z3.kp _ _ hT.obj nt,T.aA,T.bO,cf,_,_,_,_,_,rfl,z3.kp _ _ hT.sw.obj nsw,T.eT,T.cb,cN,A'.Lg,_,rfl,z3.kp _ _ hT.sw.kF nsd,fun l1 hl1=>?_⟩
   have ek:(va pt.sw.ps).map (·.2) = kx (Tb.switches.map (·.place)):=by
    unfold va kx
    rw [hr2.sw,List.map_map,List.map_map,List.map_map]
    rfl
   rw [ek]
   refine ⟨l1,Tb.switches.map (·.place),rfl,af,?_,fun p hp=>?_,fun H4 s4=>?_⟩
   ·have:=lW 64 hr2.Kj fun x hx=>by
     obtain ⟨y,hy,rfl⟩:=List.mem_map.mp hx
     have:=(hr2.LO y hy).2
     omega
    omega
   ·obtain ⟨y,hy,rfl⟩:=List.mem_map.mp hp
    have:=(hr2.LO y hy).2
    omega
   have s34:=(Kp.same (Kp.new hl1)).trans s4
   have z4:=z3.grow s34
   have a4:=s34 _ _ a3
   refine ⟨_,rfl,_,_,_,_,rfl,a4,T.a9,T.iY,(by show 2 < 1000;decide),?_⟩
   have z5:=z4.wr h0 (.ins T.bh dx [("balls",V.int (pt.balls:Nat)),("devices",V.ref D),("known_places",V.int ((bitsOf (Tb.switches.map (·.place)):Nat):Int))])
   have a5:upd H4 a (.ins T.bh dx [("balls",V.int (pt.balls:Nat)),("devices",V.ref D),("known_places",V.int ((bitsOf (Tb.switches.map (·.place)):Nat):Int))]) a = some (.ins T.bh dx [("balls",V.int (pt.balls:Nat)),("devices",V.ref D),("known_places",V.int ((bitsOf (Tb.switches.map (·.place)):Nat):Int))]):=af
   show (_:TS) _ _ (upd H4 a (.ins T.bh dx [("balls",V.int (pt.balls:Nat)),("devices",V.ref D),("known_places",V.int ((bitsOf (Tb.switches.map (·.place)):Nat):Int))]))
   generalize upd H4 a (.ins T.bh dx [("balls",V.int (pt.balls:Nat)),("devices",V.ref D),("known_places",V.int ((bitsOf (Tb.switches.map (·.place)):Nat):Int))]) = H5 at z5 a5 ⊢
   refine ⟨_,rfl,_,_,_,_,_,rfl,z5.kp _ _ hT.obj nt,T.aA,T.fb,gP,_,_,rfl,.inl ⟨_,dj.of (z5.kp _ _ eas npl),rfl⟩,Tb.devices.length,by rw [List.length_map,hal],by omega,fun l2 hl2=>?_⟩
   refine ⟨l2,List.range Tb.devices.length,rfl,af,by rw [List.length_range];omega,fun p hp=>by have:=List.mem_range.mp hp;omega,fun H6 s6=>?_⟩
   have s56:=(Kp.same (Kp.new hl2)).trans s6
   have z6:=z5.grow s56
   have a6:=s56 _ _ a5
   refine ⟨_,rfl,_,_,_,_,rfl,a6,T.a9,T.ke,(by show 3 < 1000;decide),_,rfl,_,rfl,_,_,_,_,rfl,af,T.a9,T.oJ,(by show 4 < 1000;decide),_,rfl,_,_,_,_,rfl,af,T.a9,T.eO,(by show 5 < 1000;decide),_,rfl,_,_,_,_,rfl,af,T.a9,T.dF,(by show 6 < 1000;decide),_,rfl,_,_,_,_,rfl,af,T.a9,T.mS,(by show 7 < 1000;decide),?_⟩
   rw [aW,aW,aW,aW]
   have z7:=z6.wr h0 (.ins T.bh dx (eF (pt.balls:Nat) D ((bitsOf (Tb.switches.map (·.place)):Nat):Int) ((bitsOf (List.range Tb.devices.length):Nat):Int) (m:Nat) 0 0 0))
   refine q _ ⟨a,dx,D,ky,bitsOf (Tb.switches.map (·.place)),bitsOf (List.range Tb.devices.length)⟩ rfl ⟨?_,z7.dl,by rw [hdl,hal],?_,z7.nd,fun j b d n h1 h2 h3=>?_,z7.same,h0,z7.Nk⟩ z7.na rfl rfl z7.kp
   ·rw [←hr2.balls];exact af
   ·unfold Tilt.Table.ballsBegun;dsimp only;rw [List.length_map]
   ·obtain ⟨dx',pl',d',e1',hd',hp'⟩:=z7.KN j b h1
    rw [h2] at e1'
    cases e1'
    unfold Tilt.Table.ballsBegun at h3
    dsimp only at h3
    rw [List.getElem?_map,h2] at h3
    cases h3
    exact ⟨dx',pl',hd',hp'⟩
end Pb
namespace Pb
open PySem PySem.Spec PyProof.Rows L2
theorem Nl {x i:Nat} (h:x.testBit i = false) (j:Nat):(2 ^ i + x).testBit j = (decide (j = i) || x.testBit j):=by
 have hx:x = 2 ^ (i + 1) * (x / 2 ^ (i + 1)) + x % 2 ^ (i + 1):=(Nat.div_add_mod x (2 ^ (i + 1))).symm
 have hb:x % 2 ^ (i + 1) < 2 ^ (i + 1):=Nat.mod_lt _ (Nat.two_pow_pos _)
 generalize x / 2 ^ (i + 1) = a at hx
 generalize x % 2 ^ (i + 1) = b at hx hb
 subst hx
 have p1:(2:Nat) ^ (i + 1) = 2 ^ i + 2 ^ i:=by rw [Nat.pow_succ];omega
 have hbi:b.testBit i = false:=by
  rw [Nat.testBit_two_pow_mul_add _ hb,if_pos (Nat.lt_succ_self i)] at h
  exact h
 have hb2:b < 2 ^ i:=by
  refine Nat.lt_of_not_le fun hle=>?_
  have e:b = 2 ^ i * 1 + (b - 2 ^ i):=by omega
  have hl:b - 2 ^ i < 2 ^ i:=by omega
  rw [e,Nat.testBit_two_pow_mul_add _ hl,if_neg (Nat.lt_irrefl i),Nat.sub_self] at hbi
  exact absurd hbi (by decide)
 have e2:2 ^ i + (2 ^ (i + 1) * a + b) = 2 ^ (i + 1) * a + (2 ^ i + b):=by omega
 have hl2:2 ^ i + b < 2 ^ (i + 1):=by omega
 rw [e2,Nat.testBit_two_pow_mul_add _ hl2,Nat.testBit_two_pow_mul_add _ hb]
 by_cases hj:j < i + 1
 ·rw [if_pos hj,if_pos hj]
  have e3:2 ^ i + b = 2 ^ i * 1 + b:=by omega
  rw [e3,Nat.testBit_two_pow_mul_add _ hb2]
  by_cases hji:j < i
  ·rw [if_pos hji,decide_eq_false (by omega),Bool.false_or]
  ·have:j = i:=by omega
   subst this
   rw [if_neg hji,Nat.sub_self,decide_eq_true rfl,Bool.true_or]
   rfl
 ·rw [if_neg hj,if_neg hj,decide_eq_false (by omega),Bool.false_or]
theorem qe:∀ {ps:List Nat},ps.Nodup->∀ p,(bitsOf ps).testBit p = decide (p ∈ ps)
 | [],_,p=>by
  show (0:Nat).testBit p = _
  rw [Nat.zero_testBit];simp
 | q :: ps,nd,p=>by
  rw [List.nodup_cons] at nd
  have ih:=qe nd.2
  have e:bitsOf (q :: ps) = 2 ^ q + bitsOf ps:=by unfold bitsOf;rw [List.map_cons,List.sum_cons]
  rw [e,Nl (by rw [ih q];simpa using nd.1),ih p]
  by_cases h1:p = q
  ·simp [h1]
  ·simp [h1]
theorem and_self {n k:Nat}:n &&& k = n ↔ ∀ p,n.testBit p = true->k.testBit p = true:=by
 constructor
 ·intro h p hp
  rw [←h,Nat.testBit_and,Bool.and_eq_true] at hp
  exact hp.2
 ·intro h
  apply Nat.eq_of_testBit_eq
  intro p
  rw [Nat.testBit_and]
  cases hp:n.testBit p with
  | false=>rfl
  | true=>rw [h p hp];rfl
theorem JG {Tb:Tilt.Table} (nd:(Tb.switches.map (·.place)).Nodup) {m:Nat} (hm:m < 2 ^ 64):Tb.maskOk m = true ↔ m &&& bitsOf (Tb.switches.map (·.place)) = m:=by
 rw [and_self]
 unfold Tilt.Table.maskOk
 rw [decide_eq_true hm,Bool.true_and,List.all_eq_true]
 have hs:∀ p,Tb.hasSwitch p = decide (p ∈ Tb.switches.map (·.place)):=fun p=>by
  unfold Tilt.Table.hasSwitch
  rw [mE]
  by_cases h:p ∈ Tb.switches.map (·.place)
  ·rw [decide_eq_true h];simpa using h
  ·rw [decide_eq_false h];simpa using h
 constructor
 ·intro h p hp
  have hlt:p < 64:=by
   refine Nat.lt_of_not_le fun hle=>?_
   rw [Nat.testBit_lt_two_pow (Nat.lt_of_lt_of_le hm (Nat.pow_le_pow_right (by decide) hle))] at hp
   cases hp
  have:=h p (List.mem_range.mpr hlt)
  rw [hp,Bool.not_true,Bool.false_or,hs p] at this
  rw [qe nd];exact this
 ·intro h p _
  cases hp:m.testBit p with
  | false=>rfl
  | true =>
   have:=h p hp
   rw [qe nd] at this
   rw [Bool.not_true,Bool.false_or,hs p];exact this
theorem PN {k a:Nat}:a < 2 ^ k ↔ a &&& bitsOf (List.range k) = a:=by
 rw [and_self]
 have nd:(List.range k).Nodup:=List.nodup_range
 constructor
 ·intro h p hp
  rw [qe nd,decide_eq_true_eq,List.mem_range]
  refine Nat.lt_of_not_le fun hle=>?_
  rw [Nat.testBit_lt_two_pow (Nat.lt_of_lt_of_le h (Nat.pow_le_pow_right (by decide) hle))] at hp
  cases hp
 ·intro h
  refine Nat.lt_pow_two_of_testBit a fun p hp=>?_
  cases q:a.testBit p with
  | false=>rfl
  | true =>
   have:=h p q
   rw [qe nd,decide_eq_true_eq,List.mem_range] at this
   omega
noncomputable def Bh (kp ka i n:Nat):Prop:=n &&& (if i % 2 = 0 then kp else ka) = n
theorem sO (z:Nat × Nat) (l:List (Nat × Nat)):Et (z :: l) = z.1 :: z.2 :: Et l:=rfl
theorem GU {Tb:Tilt.Table} (nd:(Tb.switches.map (·.place)).Nodup):∀ {l:List (Nat × Nat)},(∀ n ∈ Et l,n < 2 ^ 64) →
  (l.all (TiltBallCalls.tickOk Tb) = true ↔ ∀ (i n:Nat),(Et l)[i]? = some n->Bh (bitsOf (Tb.switches.map (·.place))) (bitsOf (List.range Tb.devices.length)) i n)
 | [],_=>by
  constructor
  ·intro _ i n h;cases h
  ·intro _;rfl
 | z :: l,hl=>by
  have ih:=GU nd (l:=l) fun n hn=>hl n (by rw [sO];exact List.mem_cons_of_mem _ (List.mem_cons_of_mem _ hn))
  have h1:=JG nd (hl z.1 (by rw [sO];simp))
  rw [List.all_cons,Bool.and_eq_true,ih]
  unfold TiltBallCalls.tickOk
  rw [Bool.and_eq_true,decide_eq_true_eq,h1,PN]
  constructor
  ·rintro ⟨⟨a,b⟩,c⟩ i n h
   match i with
   | 0=>cases h;exact a
   | 1=>cases h;exact b
   | i + 2 =>
    have:=c i n h
    unfold Bh at this ⊢
    rw [show (i + 2) % 2 = i % 2 by omega]
    exact this
  ·intro h
   refine ⟨⟨h 0 z.1 rfl,h 1 z.2 rfl⟩,fun i n hi=>?_⟩
   have:=h (i + 2) n hi
   unfold Bh at this ⊢
   rw [show (i + 2) % 2 = i % 2 by omega] at this
   exact this
theorem Mg (n k:Nat):Builtin.bitAnd ((n:Nat):Int) (Builtin.bitNot ((k:Nat):Int)) = ((n:Nat):Int) - ((n &&& k:Nat):Int):=by
 unfold Builtin.bitAnd
 rw [decide_eq_true (show (0:Int)<=((n:Nat):Int) by omega),decide_eq_false (show ¬ (0:Int)<=Builtin.bitNot ((k:Nat):Int) by unfold Builtin.bitNot;omega)]
 show ((n:Nat):Int) - ((((n:Nat):Int).toNat &&& (Builtin.bitNot (Builtin.bitNot ((k:Nat):Int))).toNat:Nat):Int) = _
 rw [show Builtin.bitNot (Builtin.bitNot ((k:Nat):Int)) = ((k:Nat):Int) by unfold Builtin.bitNot;omega,Int.toNat_natCast,Int.toNat_natCast]
section
variable {K:PySem.W.Frag} {mg:Str->Option Value}
noncomputable def EC (T:Txt K mg):Sp:=fun vs H Q _=>∃ (H0:Hp) (P:yC) (Tb:Tilt.Table) (x:Tilt.Balls) (l:Addr) (nums:List Nat),vs = [.ref P.p,.ref l]/\fg T H0 H P Tb x/\H l = some (.lst (kx nums))/\l ≠ P.p ∧
 ((∀ (i n:Nat),nums[i]? = some n->Bh P.kp P.ka i n)->∀ H',bc H H'->Q (.bl true) H')/\((∃ (i n:Nat),nums[i]? = some n/\¬ Bh P.kp P.ka i n)->∀ H',bc H H'->Q (.bl false) H')
noncomputable def Nm (T:Txt K mg):Sp:=fun vs H Q _=>∃ (G:GA) (tick:Nat) (ev:List (Nat × Nat)) (os:List Tilt.Order),vs = [.ref G.lg]/\fh T H G tick ev os/\ev.length<=1000000/\os.length<=1000000/\∀ H' l,H l = none->H' l = some (.lst (kx (0 :: TiltBallCalls.toldNums ev os)))->bc H H'->Q (.ref l) H'
end
theorem wA {P:Program} {w:World} {K:PySem.W.Frag} {mg:Str->Option Value} {base:Heap} (T:Txt K mg):a8 P w K mg base kD 1 T.oF T.iO ["play","pairs"] (EC T):=by
 refine T.eN.ok mG (fun vs H Q E h=>?_) (fun cdv A outer s H vs Q E hr h=>?_)
 ·obtain ⟨H0,P,Tb,x,l,nums,rfl,_⟩:=h
  rfl
 ·obtain ⟨H0,P',Tb,x,l,nums,rfl,hP,hl,hlp,q1,q2⟩:=h
  refine ⟨_,(ae (qk PassesOwn.never rfl (Jc rfl T.jS (aa (pv 1) ag)) (Ht rfl (pE (d7 (i:=2) mG.nd rfl (Or.inl rfl)) (pE (d7 (i:=3) mG.nd rfl (Or.inl rfl)) De))) (ae (aR (i:=4) mG.nd rfl (Or.inl rfl) (Ff (aI dX (cQ Lq (pv 2) ao) ao (aG _)) (aj (pv 0) rfl) (aj (pv 0) rfl)))
   (ah (aY (aI Fi (cQ Hx (pv 3) (IX OR (pv 4))) ao (aG _)) (ah (aE rA)) aC))))
   (ah (aE rA))),?_⟩
  refine ⟨_,rfl,l,_,rfl,dj.of hl,?_⟩
  refine Jp (n:=nums.length) (fun i σ H2=>(∃ u v w,σ = [some (.ref P'.p),some (.ref l),u,v,w])/\bc H H2/\∀ (j n:Nat),j < i->nums[j]? = some n->Bh P'.kp P'.ka j n) ⟨⟨_,_,_,rfl⟩,bc.refl _,fun j n hj=>by omega⟩ ?_ ?_ ?_ ?_
  ·rintro i σ H2 hi ⟨_,s2,_⟩
   exact ⟨_,_,dj.of (s2 _ _ hl),by unfold kx;rw [List.getElem?_map,List.getElem?_eq_getElem hi];rfl⟩
  ·rintro σ H2 ⟨_,s2,_⟩
   exact ⟨_,dj.of (s2 _ _ hl),by rw [d5];exact Nat.le_refl _⟩
  ·rintro i σ H2 y H3 hi ⟨⟨u,v,w',rfl⟩,s2,inv⟩ ⟨tu,z,rfl,htu,rfl,hz⟩
   have hn:nums[i]? = some nums[i]:=List.getElem?_eq_getElem hi
   have hz':=hz _ (dj.of (s2 _ _ hl))
   have hv:(kx nums)[i]? = some (V.int ((nums[i]:Nat):Int)):=by unfold kx;rw [List.getElem?_map,hn];rfl
   rw [hv] at hz'
   cases hz'
   generalize nums[i] = n at hn htu hv
   have s3:bc H (upd H2 tu (.tup [V.int (i:Nat),V.int (n:Nat)])):=s2.trans (Kp.same (Kp.new htu))
   refine ⟨tu,_,rfl,yD.of af,rfl,_,_,rfl,_,_,rfl,rfl,?_⟩
   have o3:=s3 _ _ hP.obj
   refine ⟨_,rfl,_,_,rfl,rfl,(by show (0:Int) < 2;decide),rfl,_,rfl,?_⟩
   have fin:∀ k:Nat,k = (if i % 2 = 0 then P'.kp else P'.ka)->∀ (Z:Bool->Prop),((Bh P'.kp P'.ka i n->Z false)/\(¬ Bh P'.kp P'.ka i n->Z true))->Z (!decide (V.int (Builtin.bitAnd ((n:Nat):Int) (Builtin.bitNot ((k:Nat):Int))) = V.int 0)):=fun k hk Z hZ=>by
    rw [Mg]
    have hle:n &&& k<=n:=Nat.and_le_left
    by_cases z:n &&& k = n
    ·rw [wL (by rw [z];omega)]
     exact hZ.1 (by unfold Bh;rw [←hk];exact z)
    ·rw [rq (by omega)]
     exact hZ.2 (by unfold Bh;rw [←hk];exact z)
   by_cases ze:i % 2 = 0
   ·rw [wL (by omega)]
    refine aQ ⟨_,rfl,_,_,_,_,_,rfl,o3,T.a9,T.iY,su,?_⟩
    refine ⟨_,rfl,_,rfl,_,rfl,_,_,rfl,rfl,rfl,_,rfl,?_⟩
    refine fin P'.kp (by rw [if_pos ze]) (fun b=>if b = true then _ else _) ⟨fun ok=>aM ⟨⟨_,_,_,rfl⟩,s3,fun j n' hj hn'=>?_⟩,fun bad=>aQ (q2 ⟨i,n,hn,bad⟩ _ s3)⟩
    by_cases hji:j = i
    ·subst hji;rw [hn] at hn';cases hn';exact ok
    ·exact inv j n' (by omega) hn'
   ·rw [rq (by omega)]
    refine aM ⟨_,rfl,_,_,_,_,_,rfl,o3,T.a9,T.ke,uV,?_⟩
    refine ⟨_,rfl,_,rfl,_,rfl,_,_,rfl,rfl,rfl,_,rfl,?_⟩
    refine fin P'.ka (by rw [if_neg ze]) (fun b=>if b = true then _ else _) ⟨fun ok=>aM ⟨⟨_,_,_,rfl⟩,s3,fun j n' hj hn'=>?_⟩,fun bad=>aQ (q2 ⟨i,n,hn,bad⟩ _ s3)⟩
    by_cases hji:j = i
    ·subst hji;rw [hn] at hn';cases hn';exact ok
    ·exact inv j n' (by omega) hn'
  ·rintro σ H2 ⟨⟨u,v,w',rfl⟩,s2,inv⟩
   exact q1 (fun i n h=>inv i n (List.getElem?_eq_some_iff.mp h).1 h) _ s2
end Pb
namespace Pb
open PySem PySem.Spec PyProof.Rows L2
theorem q0 {c d:Addr} {v:V}:fe (.ins c d (jG v)) = 3:=rfl
noncomputable def Mh (o:HO):Prop:=(∃ o' u,o = .ra o' u)\/fe o = 221
noncomputable def Fx (H H':Hp):Prop:=∀ b o,H b = some o->Mh o->H' b = some o
theorem Fx.of_same {H H':Hp} (s:bc H H'):Fx H H':=fun b o e _=>s b o e
theorem Nn {o:HO} {n:Nat} (t:fe o = n) (h3:n ≠ 3) (h2:n ≠ 221):¬ Mh o:=by
 rintro (⟨o',u,rfl⟩ | h)
 ·exact h3 (by rw [←t];rfl)
 ·exact h2 (by rw [←t];exact h)
theorem ED {c d:Addr} {v:V}:¬ Mh (.ins c d (jG v)):=by
 rintro (⟨o',u,h⟩ | h)
 ·cases h
 ·exact absurd h (by rw [q0];decide)
noncomputable def xP (H:Hp):Hp:=fun b=>match H b with
 | some o=>if fe o = 1\/fe o = 311 then some o else none
 | none=>none
theorem xQ {H:Hp} {b:Addr} {o:HO} (h:xP H b = some o):H b = some o/\(fe o = 1\/fe o = 311):=by
 unfold xP at h
 cases e:H b with
 | none=>rw [e] at h;cases h
 | some u =>
  rw [e] at h
  dsimp only at h
  split at h
  ·rename_i z;cases h;exact ⟨rfl,z⟩
  ·cases h
theorem JH {H:Hp} {b:Addr} {o:HO} (h:H b = some o) (t:fe o = 1\/fe o = 311):xP H b = some o:=by
 unfold xP
 rw [h]
 dsimp only
 rw [if_pos t]
theorem C4 {H:Hp} {b:Addr} (h:∀ o,H b = some o->¬ (fe o = 1\/fe o = 311)):xP H b = none:=by
 cases e:xP H b with
 | none=>rfl
 | some o=>obtain ⟨a,t⟩:=xQ e;exact absurd t (h o a)
section
variable {K:PySem.W.Frag} {mg:Str->Option Value}
structure JI (T:Txt K mg) (H:Hp) (g dx gv:Addr) (a:TiltBallCalls.At) (H0:Hp) (P:yC):Prop where
 obj:H g = some (.ins T.fm dx (jG (.ref P.p)))
 bB:fg T H0 H P a.T a.x
 pin:P.p ∉ P.ky
 g0:H0 g = none
 v0:H0 gv = none
 vd:P.dl ≠ gv
 h0:∀ b o,H0 b = some o->fe o = 1\/fe o = 311
 sm:Ex a.T
 good:pT a.T a.x
 kp:P.kp = bitsOf (a.T.switches.map (·.place))
 ka:P.ka = bitsOf (List.range a.T.devices.length)
 nd:(a.T.switches.map (·.place)).Nodup
noncomputable def dw (T:Txt K mg) (H:Hp) (g dx gv:Addr):TiltBallCalls.State->Prop
 | none=>H g = some (.ins T.fm dx (jG .fR))/\g ≠ gv
 | some a=>(∃ H0 P,JI T H g dx gv a H0 P)/\g ≠ gv
theorem dw.ne {T:Txt K mg} {H:Hp} {g dx gv:Addr} {st:TiltBallCalls.State} (y:dw T H g dx gv st):g ≠ gv:=by cases st <;> exact y.2
theorem dw.tag {T:Txt K mg} {H:Hp} {g dx gv:Addr} {st:TiltBallCalls.State} (y:dw T H g dx gv st):∃ v,H g = some (.ins T.fm dx (jG v)):=by
 cases st with
 | none=>exact ⟨_,y.1⟩
 | some a=>obtain ⟨⟨H0,P,b⟩,_⟩:=y;exact ⟨_,b.obj⟩
theorem fg.KO {T:Txt K mg} {H0 H:Hp} {P:yC} {Tb:Tilt.Table} {x:Tilt.Balls} (y:fg T H0 H P Tb x) {a:Addr} (h:a ∈ P.ky):∃ o,H a = some o/\fe o = 812:=by
 obtain ⟨j,hj⟩:=List.getElem?_of_mem h
 obtain ⟨d,n,dx,pl,_,_,hd,_⟩:=y.get hj
 exact ⟨_,hd.obj,cx⟩
theorem JI.SV {T:Txt K mg} {H H':Hp} {g dx gv:Addr} {a:TiltBallCalls.At} {H0:Hp} {P:yC} (y:JI T H g dx gv a H0 P) {b:Addr} (k:Kp [b] H H') (h1:g ≠ b) (h2:P.p ≠ b) (h3:P.dl ≠ b) (h4:b ∉ P.ky) (h5:H0 b = none):JI T H' g dx gv a H0 P :=
 ⟨k _ _ y.obj (by simpa using h1),y.bB.kp' k (by simpa using h2) (by simpa using h3) (fun c hc z=>h4 (by rw [←List.mem_singleton.mp z];exact hc)) (fun c o e=>k c o (y.bB.same c o e) (by simpa using aw e h5)),y.pin,y.g0,y.v0,y.vd,y.h0,y.sm,y.good,y.kp,y.ka,y.nd⟩
theorem dw.So {T:Txt K mg} {H:Hp} {g dx gv:Addr} {st:TiltBallCalls.State} (y:dw T H g dx gv st) {o o':HO} (hv:H gv = some o) (ht:fe o ≠ 812):dw T (upd H gv o') g dx gv st:=by
 cases st with
 | none=>exact ⟨by rw [ai y.2];exact y.1,y.2⟩
 | some a =>
  obtain ⟨⟨H0,P,b⟩,ng⟩:=y
  refine ⟨⟨H0,P,b.SV (Kp.wr (by simp)) ng (fun z=>ht ?_) b.vd (fun z=>?_) b.v0⟩,ng⟩
  ·rw [←z,b.bB.obj] at hv;cases hv;exact gL
  ·obtain ⟨o'',e,t⟩:=b.bB.KO z
   rw [hv] at e;cases e;exact ht t
theorem dw.grow {T:Txt K mg} {H H':Hp} {g dx gv:Addr} {st:TiltBallCalls.State} (y:dw T H g dx gv st) (s:bc H H'):dw T H' g dx gv st:=by
 cases st with
 | none=>exact ⟨s _ _ y.1,y.2⟩
 | some a =>
  obtain ⟨⟨H0,P,b⟩,nv⟩:=y
  exact ⟨⟨H0,P,s _ _ b.obj,b.bB.grow s,b.pin,b.g0,b.v0,b.vd,b.h0,b.sm,b.good,b.kp,b.ka,b.nd⟩,nv⟩
noncomputable def End (T:Txt K mg) (H:Hp) (g dx gv:Addr) (Q:VK) (r:TiltBallCalls.State × Tilt.Ans):Prop:=∀ H' l,H l = none->H' l = some (.lst ((r.2.code :: r.2.nums).map V.int))->dw T H' g dx gv r.1->Fx H H'->Q (.ref l) H'
theorem End.still {T:Txt K mg} {H H1:Hp} {g dx gv:Addr} {Q:VK} {st:TiltBallCalls.State} {a:Tilt.Ans} (q:End T H g dx gv Q (st,a)) (y:dw T H g dx gv st) (s:bc H H1) {xs:List V} (e:xs = (a.code :: a.nums).map V.int):∀ p,H1 p = none->Q (.ref p) (upd H1 p (.lst xs)):=fun p hp=>by
 have s2:bc H (upd H1 p (.lst xs)):=s.trans (Kp.same (Kp.new hp))
 exact q _ p (s.free hp) (by rw [af,e]) (y.grow s2) (Fx.of_same s2)
noncomputable def Sq (T:Txt K mg) (H:Hp) (b:Tilt.Bytes):XK:=fun c od H'=>c = .ref T.ie/\∃ d f,od = some d/\Tilt.readTable b = .error f/\H' d = some (vD d (Ij f.kind f.place))/\bc H H'
noncomputable def xR (T:Txt K mg):Sp:=fun vs H Q _=>∃ (a dx:Addr),vs = [.ref a]/\H a = some (.ins T.fm dx [])/\Q .fR (upd H a (.ins T.fm dx (jG .fR)))
noncomputable def B3 (T:Txt K mg):Sp:=fun vs H Q _=>∃ (g dx gv:Addr) (od:Obj) (gs:HO) (st:TiltBallCalls.State) (m:Nat) (tx:Addr) (b:Tilt.Bytes),vs = [.ref g,.int (m:Nat),.ref tx]/\dw T H g dx gv st/\H gv = some (.ra od gs)/\H tx = some (.lst (bv b))/\b.length<=20000/\m < 2 ^ 64/\End T H g dx gv Q (TiltBallCalls.step st (.begin_ b m))
noncomputable def wB (T:Txt K mg):Sp:=fun vs H Q _=>∃ (g dx gv:Addr) (od:Obj) (gs:HO) (st:TiltBallCalls.State) (l:List (Nat × Nat)) (tx:Addr),vs = [.ref g,.ref tx]/\dw T H g dx gv st/\H gv = some (.ra od gs)/\H tx = some (.lst (kx (Et l)))/\l.length<=20000/\(∀ n ∈ Et l,n < 2 ^ 64)/\End T H g dx gv Q (TiltBallCalls.step st (.ticks l))
noncomputable def vg (T:Txt K mg):Sp:=fun vs H Q _=>∃ (g dx gv:Addr) (st:TiltBallCalls.State),vs = [.ref g]/\dw T H g dx gv st/\End T H g dx gv Q (TiltBallCalls.step st .large)
noncomputable def ua (T:Txt K mg):Sp:=fun vs H Q _=>∃ (g dx gv:Addr) (st:TiltBallCalls.State) (d:Nat),vs = [.ref g,.int (d:Nat)]/\dw T H g dx gv st/\End T H g dx gv Q (TiltBallCalls.step st (.device d))
noncomputable def ub (T:Txt K mg):Sp:=fun vs H Q _=>∃ (g dx gv:Addr) (st:TiltBallCalls.State),vs = [.ref g]/\dw T H g dx gv st/\End T H g dx gv Q (TiltBallCalls.step st .search)
end
theorem pC:(1:Nat)<=sizeLine:=by decide
theorem xS {P:Program} {w:World} {K:PySem.W.Frag} {mg:Str->Option Value} {base:Heap} (T:Txt K mg):a8 P w K mg base kD 1 T.jr T.dR ["self"] (xR T):=by
 refine T.dc.ok xm (fun vs H Q E h=>?_) (fun cdv A outer s H vs Q E hr h=>?_)
 ·obtain ⟨a,dx,rfl,_⟩:=h
  rfl
 ·obtain ⟨a,dx,rfl,ha,q⟩:=h
  refine ⟨_,(ah (aH (pv 0) OJ rfl)),?_⟩
  exact ⟨_,rfl,_,_,_,_,rfl,ha,T.bV,T.aV,(by show 0 < 1000;decide),q⟩
theorem Np {P:Program} {w:World} {K:PySem.W.Frag} {mg:Str->Option Value} {base:Heap} (T:Txt K mg):a8 P w K mg base kD 1 T.DT T.tJ ["log"] (Nm T):=by
 refine T.sD.ok Jt (fun vs H Q E h=>?_) (fun cdv A outer s H vs Q E hr h=>?_)
 ·obtain ⟨G,tick,ev,os,rfl,_⟩:=h
  rfl
 ·obtain ⟨G,tick,ev,os,rfl,hL,hev,hos,q⟩:=h
  refine ⟨_,(ae (aR (i:=1) Jt.nd rfl (Or.inl rfl) (dk (aa (iV rfl T.sI) (aa (cQ zy (aZ bX (by rfl) T.gK PySem.boot_len (aa (aj (pv 0) rfl) ag)) ao) ag))))
   (ae (aJ (ug PySem.F.plainAttrs_list PySem.F.slot_list_extend PySem.F.type_list_extend pJ (pv 1) (aa (aj (pv 0) rfl) ag)))
   (ae (aJ (ug PySem.F.plainAttrs_list PySem.F.slot_list_append PySem.F.type_list_append pI (pv 1) (aa (cQ zy (aZ bX (by rfl) T.gK PySem.boot_len (aa (aj (pv 0) rfl) ag)) ao) ag)))
   (ae (aJ (ug PySem.F.plainAttrs_list PySem.F.slot_list_extend PySem.F.type_list_extend pJ (pv 1) (aa (aj (pv 0) rfl) ag)))
   (ah (aE (pv 1))))))),?_⟩
  refine ⟨_,rfl,_,_,_,_,_,rfl,hL.obj,T.gC,T.kc,pf,_,_,rfl,.inl ⟨_,dj.of hL.ev,rfl⟩,_,_,rfl,rfl,⟨(by show (0:Int) < 2;decide),(by show (2:Int) < 1073741824;decide)⟩,(by show 2<=sizeLine;decide),fun l hl=>?_⟩
  rw [d5,lR]
  have s1:∀ o,bc H (upd H l o):=fun o=>Kp.same (Kp.new hl)
  have ne:G.ea ≠ l:=aw hL.ev hl
  have np:G.pa ≠ l:=aw hL.os hl
  refine ⟨_,rfl,.inl ⟨rfl,_,dj.of af⟩,_,rfl,_,_,_,_,_,rfl,s1 _ _ _ hL.obj,T.gC,T.kc,pf,l,G.ea,_,_,rfl,rfl,af,s1 _ _ _ hL.ev,?_,?_⟩
  ·rw [d5,lR];show 2 + 2 * ev.length<=sizeLine;exact Nat.le_trans (by omega:2 + 2 * ev.length<=2000002) (by decide)
  rw [aW]
  refine ⟨_,rfl,.inl ⟨rfl,_,dj.of af⟩,_,rfl,_,_,_,_,_,rfl,s1 _ _ _ hL.obj,T.gC,T.kd,ph,_,_,rfl,.inl ⟨_,dj.of (s1 _ _ _ hL.os),rfl⟩,_,_,rfl,rfl,⟨(by show (0:Int) < 3;decide),(by show (3:Int) < 1073741824;decide)⟩,l,_,_,rfl,rfl,af,?_,?_⟩
  ·rw [List.length_append,d5,lR];show 2 + 2 * ev.length < sizeLine;exact Nat.lt_of_le_of_lt (by omega:2 + 2 * ev.length<=2000002) (by decide)
  rw [aW,d5,zU]
  refine ⟨_,rfl,.inl ⟨rfl,_,dj.of af⟩,_,rfl,_,_,_,_,_,rfl,s1 _ _ _ hL.obj,T.gC,T.kd,ph,l,G.pa,_,_,rfl,rfl,af,s1 _ _ _ hL.os,?_,?_⟩
  ·rw [List.length_append,List.length_append,d5,d5,lR,zU];show 2 + 2 * ev.length + 1 + 3 * os.length<=sizeLine;exact Nat.le_trans (by omega:2 + 2 * ev.length + 1 + 3 * os.length<=5000003) (by decide)
  rw [aW]
  refine ⟨_,rfl,q _ l hl ?_ (s1 _)⟩
  rw [af]
  have e1:((2 * ev.length:Nat):Int) / 2 = ((ev.length:Nat):Int):=by omega
  have e2:((3 * os.length:Nat):Int) / 3 = ((os.length:Nat):Int):=by omega
  dsimp only
  rw [e1,e2]
  unfold TiltBallCalls.toldNums kx Et PD
  simp [List.map_append,List.append_assoc]
end Pb
namespace Pb
open PySem PySem.Spec PyProof.Rows L2
theorem B4 {P:Program} {w:World} {K:PySem.W.Frag} {mg:Str->Option Value} {base:Heap} (T:Txt K mg):a8 P w K mg base kD 10 T.mR T.gw ["self","mask","text"] (B3 T):=by
 refine T.eM.ok lA (fun vs H Q E h=>?_) (fun cdv A outer s H vs Q E hr h=>?_)
 ·obtain ⟨g,dx,gv,od,gs,st,m,tx,b,rfl,_⟩:=h
  rfl
 ·obtain ⟨g,dx,gv,od,gs,st,m,tx,b,rfl,hG,hgv,htx,hz,hm,q⟩:=h
  refine ⟨_,(ae (aY (aI pG (aZ bX (by rfl) T.gK PySem.boot_len (aa (pv 2) ag)) (iV rfl T.km) (aG _)) (ah (aE (dk (aa (iV rfl T.nR) ag)))) aC)
   (ae (Pe (E':=Sq T H b) rfl rfl rfl T.xc rfl T.bZ lA.nd (i:=4) rfl rfl (fun _=>(ah (aR (i:=3) lA.nd rfl (Or.inl rfl) (aq (B1 T) (hr.mono (by decide)) rfl T.vY T.eL.kp (D1 T) .nil Q0 (aa (pv 2) ag))))) (fun _=>(ah (aE (dk (aa (iV rfl T.v9) (aa (Jm T.xc T.qK (pv 4) rfl) (aa (Jm T.xc T.px (pv 4) rfl) ag))))))))
   (ae (aR (i:=5) lA.nd rfl (Or.inl rfl) (mB T.zI (xO T) (hr.mono (by decide)) rfl T.LX (yM T) .nil aN (aa (pv 3) (aa (pv 1) ag))))
   (ae (aY (rB (bQ (aq (wA T) (hr.mono (by decide)) rfl T.sC T.eN.kp (yy T) .nil aN (aa (pv 5) (aa (dk (aa (pv 1) (aa ao ag))) ag))) (fun _=>rfl))) (ah (aE (dk (aa (iV rfl T.gb) ag)))) aC)
   (ae (aH (pv 0) (pv 5) rfl)
   (ah (aE (dk (aa (iV rfl T.sI) ag))))))))),?_⟩
  have hst:TiltBallCalls.step st (.begin_ b m) = if Tilt.TEXT < b.length then (st,Tilt.says (-2)) else (match Tilt.readTable b with
   | .error e=>(st,Tilt.faulty e)
   | .ok T=>if T.maskOk m = false then (st,Tilt.says (-1)) else (some ⟨T,T.ballsBegun m⟩,Tilt.says 0)):=by cases st <;> rfl
  rw [hst] at q
  refine ⟨_,rfl,_,_,rfl,.inl ⟨_,dj.of htx,rfl⟩,_,_,rfl,rfl,_,rfl,?_⟩
  rw [qX]
  by_cases z0:16384 < b.length
  ·rw [decide_eq_true (show ((b.length:Nat):Int) > 16384 by omega)]
   rw [if_pos (show Tilt.TEXT < b.length from z0)] at q
   exact aQ ⟨pC,q.still hG (bc.refl _) rfl⟩
  ·rw [decide_eq_false (show ¬ ((b.length:Nat):Int) > 16384 by omega)]
   rw [if_neg (show ¬ Tilt.TEXT < b.length from z0)] at q
   refine aM ⟨⟨_,rfl,tx,b,rfl,htx,by omega,?_⟩,?_⟩
   ·cases hrt:Tilt.readTable b with
    | error f=>exact fun d H' hd k=>⟨rfl,d,f,rfl,hrt,hd,k.same⟩
    | ok Tb =>
     rw [hrt] at q
     dsimp only at q
     intro H1 A' pt rk hT hR bL s1
     refine ⟨_,rfl,_,rfl,fun pa pdx hpa hpdx pne=>?_⟩
     have hpa':upd H1 pdx (.own pa) pa = none:=by rw [ai (Ne.symm pne)];exact hpa
     have s2:bc H1 (upd (upd H1 pdx (.own pa)) pa (.ins T.bh pdx [])):=Kp.same ((Kp.new hpdx).trans (Kp.new hpa'))
     have sF:bc (xP H1) H1:=fun c o e=>(xQ e).1
     have h0a:xP H1 pa = none:=sF.free hpa
     obtain ⟨as,eas,ps⟩:=hT.pl
     have hps:mZ T (xP H1) as pt.bt:=⟨ps.len,fun i c p hc hp=>by
      obtain ⟨dx',sl,e1,e2,ne⟩:=ps.at_ i c p hc hp
      exact ⟨dx',sl,JH e1 (.inr oU),JH e2 (.inl bf),ne⟩⟩
     refine ⟨xP H1,pa,pdx,A',pt,rk,Tb,m,rfl,af,sF.trans s2,h0a,hT.kp (Kp.of_same (S:=[]) s2) (by simp) (by simp),⟨as,s2 _ _ eas,hps⟩,hR,fun H3 P' eP hP hpin hkp hka k3=>⟨rfl,?_⟩⟩
     subst eP
     have s3:bc H1 H3:=fun c o e=>k3 c o (s2 c o e) (by simpa using aw e hpa)
     have s03:=s1.trans s3
     refine ⟨_,rfl,_,rfl,(by show 2<=sizeLine;decide),fun l hl=>?_⟩
     have sl:bc H3 (upd H3 l (.lst [V.int (m:Nat),V.int 0])):=Kp.same (Kp.new hl)
     have hPl:=hP.grow sl
     have nlp:l ≠ P'.p:=fun e=>by rw [e,hP.obj] at hl;cases hl
     have hok1:Tb.maskOk m = true ↔ m &&& P'.kp = m:=by rw [hkp];exact JG hR.Kj hm
     refine ⟨xP H1,P',Tb,_,l,[m,0],rfl,hPl,af,nlp,fun hall H4 s4=>⟨_,rfl,?_⟩,fun hex H4 s4=>⟨_,rfl,?_⟩⟩
     ·have hmk:Tb.maskOk m = true:=hok1.mpr (hall 0 m rfl)
      rw [if_neg (by rw [hmk];decide)] at q
      have s34:=sl.trans s4
      have s04:=s03.trans s34
      refine aM ?_
      obtain ⟨v,eg⟩:=hG.tag
      have eg4:=s04 _ _ eg
      refine ⟨_,rfl,_,rfl,_,_,_,_,rfl,eg4,T.bV,T.aV,M9,pC,fun p hp=>?_⟩
      rw [show gA ("play" : Str) (V.ref P'.p) (jG v) = jG (.ref P'.p) from rfl] at hp ⊢
      have hP4:=hP.grow s34
      have ngp:g ≠ p:=fun e=>by rw [e,af] at hp;cases hp
      have hp4:H4 p = none:=by rw [ai (Ne.symm ngp)] at hp;exact hp
      have kk:Kp [g] H4 (upd (upd H4 g (.ins T.fm dx (jG (.ref P'.p)))) p (.lst [V.int 0])):=(Kp.wr (by simp)).trans (Kp.new hp)
      have g0:xP H1 g = none:=C4 fun o e=>by rw [s1 _ _ eg] at e;cases e;rw [q0];decide
      have ev4:=s04 _ _ hgv
      refine q _ p (s04.free hp4) af ⟨⟨xP H1,P',?_,hP4.kp' kk ?_ ?_ ?_ ?_,hpin,g0,?_,?_,fun c o e=>(xQ e).2,⟨hR.M4,fun d hd=>(hR.Oj d hd).1⟩,pT.begun _ _,hkp,hka,hR.Kj⟩,hG.ne⟩ (fun c o e hs=>?_)
      ·rw [ai ngp,af]
      ·intro z;exact aU hP4.obj eg4 gL q0 (by decide) (List.mem_singleton.mp z)
      ·intro z;exact aU hP4.dl eg4 bf q0 (by decide) (List.mem_singleton.mp z)
      ·intro c hc z
       obtain ⟨o,e,t⟩:=hP4.KO hc
       exact aU e eg4 t q0 (by decide) (List.mem_singleton.mp z)
      ·exact fun c o e=>kk c o (hP4.same c o e) (by simpa using aw e g0)
      ·exact C4 fun o e=>by rw [s1 _ _ hgv] at e;cases e;show ¬ (3 = 1\/3 = 311);decide
      ·exact nV hP4.dl ev4 (by intro z;cases z)
      ·refine kk c o (s04 c o e) fun z=>?_
       rw [List.mem_singleton.mp z,eg] at e
       cases e
       exact ED hs
     ·have hmk:Tb.maskOk m = false:=by
       cases h:Tb.maskOk m with
       | false=>rfl
       | true =>
        obtain ⟨i,n,hn,hbad⟩:=hex
        match i with
        | 0=>cases hn;exact absurd (hok1.mp h) hbad
        | 1=>cases hn;exact absurd (by unfold Bh;exact Nat.zero_and _) hbad
        | i + 2=>cases hn
      rw [if_pos hmk] at q
      exact aQ ⟨pC,q.still hG (s03.trans (sl.trans s4)) rfl⟩
   ·rintro σ' H' c od' hlen ⟨rfl,d,f,rfl,hrt,hd,sH⟩
    refine ⟨rfl,fun a ha=>?_⟩
    rw [hrt] at q
    have hl6:σ'.length = 6:=hlen
    have sa:bc H' (upd H' a (Ke T.ie a (some d))):=Kp.same (Kp.new ha)
    have e4:(σ'.set 4 (some (V.ref a)))[4]? = some (some (V.ref a)):=List.getElem?_set_self (by omega)
    refine ⟨_,e4,a,d,_,_,rfl,af,sa _ _ hd,rfl,_,e4,a,d,_,_,rfl,af,sa _ _ hd,rfl,(by show 3<=sizeLine;decide),?_⟩
    exact q.still hG (sH.trans sa) rfl
theorem vh {P:Program} {w:World} {K:PySem.W.Frag} {mg:Str->Option Value} {base:Heap} (T:Txt K mg):a8 P w K mg base kD 4 T.gJ T.cF ["self"] (vg T):=by
 refine T.bT.ok uU (fun vs H Q E h=>?_) (fun cdv A outer s H vs Q E hr h=>?_)
 ·obtain ⟨g,dx,gv,st,rfl,_⟩:=h
  rfl
 ·obtain ⟨g,dx,gv,st,rfl,hG,q⟩:=h
  refine ⟨_,(ae (aY (qj (Dc (aj (pv 0) rfl))) (ah (aE (dk (aa (iV rfl T.hU) ag)))) aC)
   (ah (aE (dk (aa (iV rfl T.sI) (aa (aq (ku T) (hr.mono (by decide)) rfl T.ir T.bz.kp (lr T) .nil aN (aa (aj (pv 0) rfl) ag)) (aa (aq (uA T) (hr.mono (by decide)) rfl T.qE T.dq.kp (wc T) .nil aN (aa (aj (pv 0) rfl) ag)) (aa (aq (xM T) (hr.mono (by decide)) rfl T.rh T.cy.kp (yN T) .nil aN (aa (aj (pv 0) rfl) ag)) ag)))))))),?_⟩
  cases st with
  | none =>
   obtain ⟨eg,ng⟩:=id hG
   refine ⟨_,rfl,_,_,_,_,_,rfl,eg,T.bV,T.aV,aX,_,rfl,?_⟩
   exact aQ ⟨pC,q.still hG (bc.refl _) rfl⟩
  | some a =>
   obtain ⟨⟨H0,P',b⟩,ng⟩:=id hG
   refine ⟨_,rfl,_,_,_,_,_,rfl,b.obj,T.bV,T.aV,aX,_,rfl,?_⟩
   refine aM ⟨_,rfl,_,_,_,_,_,rfl,b.obj,T.bV,T.aV,aX,H0,P',a.T,a.x,rfl,b.bB,b.sm.dl,fun H1 s1=>?_⟩
   refine ⟨_,rfl,_,_,_,_,_,rfl,s1 _ _ b.obj,T.bV,T.aV,aX,H0,P',a.T,a.x,rfl,b.bB.grow s1,b.sm.dl,fun H2 s2=>?_⟩
   have s02:=s1.trans s2
   refine ⟨_,rfl,_,_,_,_,_,rfl,s02 _ _ b.obj,T.bV,T.aV,aX,H0,P',a.T,a.x,rfl,b.bB.grow s02,b.sm.dl,fun H3 s3=>?_⟩
   exact ⟨(by show 4<=sizeLine;decide),q.still hG (s02.trans s3) rfl⟩
theorem uc {P:Program} {w:World} {K:PySem.W.Frag} {mg:Str->Option Value} {base:Heap} (T:Txt K mg):a8 P w K mg base kD 1 T.fV T.cw ["self"] (ub T):=by
 refine T.bJ.ok tV (fun vs H Q E h=>?_) (fun cdv A outer s H vs Q E hr h=>?_)
 ·obtain ⟨g,dx,gv,st,rfl,_⟩:=h
  rfl
 ·obtain ⟨g,dx,gv,st,rfl,hG,q⟩:=h
  refine ⟨_,(ae (aY (qj (Dc (aj (pv 0) rfl))) (ah (aE (dk (aa (iV rfl T.hU) ag)))) aC)
   (ah (aE (dk (aa (iV rfl T.sI) (aa (aj (aj (pv 0) rfl) rfl) (aa (aj (aj (pv 0) rfl) rfl) (aa (aj (aj (pv 0) rfl) rfl) ag)))))))),?_⟩
  cases st with
  | none =>
   obtain ⟨eg,ng⟩:=id hG
   refine ⟨_,rfl,_,_,_,_,_,rfl,eg,T.bV,T.aV,aX,_,rfl,?_⟩
   exact aQ ⟨pC,q.still hG (bc.refl _) rfl⟩
  | some a =>
   obtain ⟨⟨H0,P',b⟩,ng⟩:=id hG
   refine ⟨_,rfl,_,_,_,_,_,rfl,b.obj,T.bV,T.aV,aX,_,rfl,?_⟩
   refine aM ⟨_,rfl,_,_,_,_,_,rfl,b.obj,T.bV,T.aV,aX,_,_,_,_,_,rfl,b.bB.obj,T.a9,T.eO,pj,_,rfl,_,_,_,_,_,rfl,b.obj,T.bV,T.aV,aX,_,_,_,_,_,rfl,b.bB.obj,T.a9,T.dF,nI,_,rfl,_,_,_,_,_,rfl,b.obj,T.bV,T.aV,aX,_,_,_,_,_,rfl,b.bB.obj,T.a9,T.mS,uo,?_⟩
   exact ⟨(by show 4<=sizeLine;decide),q.still hG (bc.refl _) rfl⟩
theorem ue {P:Program} {w:World} {K:PySem.W.Frag} {mg:Str->Option Value} {base:Heap} (T:Txt K mg):a8 P w K mg base kD 1 T.fU T.cu ["self","number"] (ua T):=by
 refine T.bI.ok mr (fun vs H Q E h=>?_) (fun cdv A outer s H vs Q E hr h=>?_)
 ·obtain ⟨g,dx,gv,st,d,rfl,_⟩:=h
  rfl
 ·obtain ⟨g,dx,gv,st,d,rfl,hG,q⟩:=h
  refine ⟨_,(ae (aY (qj (Dc (aj (pv 0) rfl))) (ah (aE (dk (aa (iV rfl T.hU) ag)))) aC)
   (ae (aY (aI QC (pv 1) (aZ bX (by rfl) T.gK PySem.boot_len (aa (aj (aj (pv 0) rfl) rfl) ag)) (aG _)) (ah (aE (dk (aa (iV rfl T.oP) ag)))) aC)
   (ae (aR (i:=2) mr.nd rfl (Or.inl rfl) (kz h9 (aj (aj (pv 0) rfl) rfl) (pv 1) (fun _ _=>rfl)))
   (ah (aE (dk (aa (iV rfl T.sI) (aa (aj (pv 2) rfl) (aa (aj (pv 2) rfl) (aa (aj (pv 2) rfl) (aa (aj (pv 2) rfl) (aa (aj (pv 2) rfl) (aa (aj (pv 2) rfl) ag))))))))))))),?_⟩
  cases st with
  | none =>
   obtain ⟨eg,ng⟩:=id hG
   refine ⟨_,rfl,_,_,_,_,_,rfl,eg,T.bV,T.aV,aX,_,rfl,?_⟩
   exact aQ ⟨pC,q.still hG (bc.refl _) rfl⟩
  | some a =>
   obtain ⟨⟨H0,P',b⟩,ng⟩:=id hG
   refine ⟨_,rfl,_,_,_,_,_,rfl,b.obj,T.bV,T.aV,aX,_,rfl,?_⟩
   refine aM ⟨_,rfl,_,rfl,_,_,_,_,_,rfl,b.obj,T.bV,T.aV,aX,_,_,_,_,_,rfl,b.bB.obj,T.a9,T.ck,c4,_,_,rfl,.inl ⟨_,dj.of b.bB.dl,rfl⟩,_,_,rfl,rfl,_,rfl,?_⟩
   rw [List.length_map,b.bB.len]
   by_cases z:d < a.T.devices.length
   ·rw [decide_eq_false (show ¬ ((d:Nat):Int)>=((a.T.devices.length:Nat):Int) by omega)]
    have ha:P'.ky[d]? = some _:=List.getElem?_eq_getElem (by rw [b.bB.len];exact z)
    obtain ⟨dd,n,ddx,pl,e1,e2,hd,_⟩:=b.bB.get ha
    have hq:TiltBallCalls.step (some a) (.device d) = (some a,Tilt.tells [n.shows,n.still,n.count,n.want,n.tries,n.left]):=by
     show (some a,match a.x.at_[d]? with | some n=>Tilt.tells [n.shows,n.still,n.count,n.want,n.tries,n.left] | none=>Tilt.says (-4)) = _
     rw [e2]
    rw [hq] at q
    refine aM ⟨_,rfl,_,_,_,_,_,rfl,b.obj,T.bV,T.aV,aX,_,_,_,_,_,rfl,b.bB.obj,T.a9,T.ck,c4,_,rfl,_,_,_,_,rfl,rfl,dj.of b.bB.dl,mC (v:=V.ref _) (by rw [List.getElem?_map,ha];rfl),?_⟩
    refine ⟨_,rfl,_,_,_,_,_,rfl,hd.obj,T.ax,T.cO,jf,_,rfl,_,_,_,_,_,rfl,hd.obj,T.ax,T.dg,kR,_,rfl,_,_,_,_,_,rfl,hd.obj,T.ax,T.dZ,jg,_,rfl,_,_,_,_,_,rfl,hd.obj,T.ax,T.cM,gf,_,rfl,_,_,_,_,_,rfl,hd.obj,T.ax,T.d4,jh,_,rfl,_,_,_,_,_,rfl,hd.obj,T.ax,T.b9,fk,?_⟩
    exact ⟨(by show 7<=sizeLine;decide),q.still hG (bc.refl _) rfl⟩
   ·rw [decide_eq_true (show ((d:Nat):Int)>=((a.T.devices.length:Nat):Int) by omega)]
    have e2:a.x.at_[d]? = none:=List.getElem?_eq_none (by rw [b.bB.xl];omega)
    have hq:TiltBallCalls.step (some a) (.device d) = (some a,Tilt.says (-4)):=by
     show (some a,match a.x.at_[d]? with | some n=>Tilt.tells [n.shows,n.still,n.count,n.want,n.tries,n.left] | none=>Tilt.says (-4)) = _
     rw [e2]
    rw [hq] at q
    exact aQ ⟨pC,q.still hG (bc.refl _) rfl⟩
theorem JJ:∀ {l:List (Nat × Nat)} {i:Nat} {z:Nat × Nat},l[i]? = some z->(Et l)[2 * i]? = some z.1/\(Et l)[2 * i + 1]? = some z.2
 | [],i,z,h=>by simp at h
 | y :: l,0,z,h=>by cases h;exact ⟨rfl,rfl⟩
 | y :: l,i + 1,z,h=>by
  have:=JJ (l:=l) (i:=i) (z:=z) (by simpa using h)
  rw [sO,show 2 * (i + 1) = 2 * i + 1 + 1 by omega,show 2 * i + 1 + 1 + 1 = (2 * i + 1) + 1 + 1 by omega]
  exact this
theorem GV {l:List Nat} {i n:Nat} (h:l[i]? = some n):(kx l)[i]? = some (V.int ((n:Nat):Int)):=by unfold kx;rw [List.getElem?_map,h];rfl
section
variable {K:PySem.W.Frag} {mg:Str->Option Value}
theorem nj.PQ {T:Txt K mg} {H0 H:Hp} {P:yC} {Tb:Tilt.Table} {x:Tilt.Balls} {G:GA} {tick:Nat} {ev:List (Nat × Nat)} {os:List Tilt.Order} (y:nj T H0 H P Tb x G tick ev os) (h0:H0 G.lg = none) (i:Nat):nj T H0 (upd H G.lg (.ins T.jH G.dx (vV (i:Nat) G.ea G.pa))) P Tb x G i ev os:=by
 have k:Kp [G.lg] H (upd H G.lg (.ins T.jH G.dx (vV (i:Nat) G.ea G.pa))):=Kp.wr (by simp)
 refine ⟨y.bB.kp' k (fun z=>aU y.bB.obj y.log.obj gL qV (by decide) (List.mem_singleton.mp z)) (fun z=>aU y.bB.dl y.log.obj bf qV (by decide) (List.mem_singleton.mp z)) (fun a ha z=>?_) (eX y.bB.same h0),⟨af,k _ _ y.log.ev (fun z=>aU y.log.ev y.log.obj bf qV (by decide) (List.mem_singleton.mp z)),k _ _ y.log.os (fun z=>aU y.log.os y.log.obj bf qV (by decide) (List.mem_singleton.mp z)),y.log.ne⟩,y.pin,y.e0,y.p0,y.e1,y.p1⟩
 obtain ⟨o,e,t⟩:=y.bB.KO ha
 exact aU e y.log.obj t qV (by decide) (List.mem_singleton.mp z)
end
theorem wC {P:Program} {w:World} {K:PySem.W.Frag} {mg:Str->Option Value} {base:Heap} (T:Txt K mg):a8 P w K mg base kD 5 T.iN T.c3 ["self","pairs"] (wB T):=by
 refine T.b8.ok j0 (fun vs H Q E h=>?_) (fun cdv A outer s H vs Q E hr h=>?_)
 ·obtain ⟨g,dx,gv,od,gs,st,l,tx,rfl,_⟩:=h
  rfl
 ·obtain ⟨g,dx,gv,od,gs,st,l,tx,rfl,hG,hgv,htx,hz,hn,q⟩:=h
  refine ⟨_,(ae (aY (qj (Dc (aj (pv 0) rfl))) (ah (aE (dk (aa (iV rfl T.hU) ag)))) aC)
   (ae (aY (aI pG (aZ bX (by rfl) T.gK PySem.boot_len (aa (pv 1) ag)) (cQ Hw ao (iV rfl T.mW)) (aG _)) (ah (aE (dk (aa (iV rfl T.nR) ag)))) aC)
   (ae (aY (rB (bQ (aq (wA T) (hr.mono (by decide)) rfl T.sC T.eN.kp (yy T) .nil aN (aa (aj (pv 0) rfl) (aa (pv 1) ag))) (fun _=>rfl))) (ah (aE (dk (aa (iV rfl T.gb) ag)))) aC)
   (ae (aR (i:=2) j0.nd rfl (Or.inl rfl) (Ag T.DU (yW T) (hr.mono (by decide)) rfl T.Ol (AQ T) .nil aN))
   (ae (qk PassesOwn.never rfl (wO rfl T.lL (aa (cQ zy (aZ bX (by rfl) T.gK PySem.boot_len (aa (pv 1) ag)) ao) ag)) (d7 (i:=3) j0.nd rfl (Or.inl rfl)) (ae (aH (pv 2) (pv 3) rfl)
   (ah (aJ (aq (EB T) (hr.mono (by decide)) rfl T.yq T.fC.kp (Gb T) .nil aN (aa (aj (pv 0) rfl) (aa (kz h9 (pv 1) (cQ Hw ao (pv 3)) (fun _ _=>rfl)) (aa (kz h9 (pv 1) (cQ lX (cQ Hw ao (pv 3)) ao) (fun _ _=>rfl)) (aa (pv 2) ag)))))))))
   (ah (aE (aq (Np T) (hr.mono (by decide)) rfl T.LW T.sD.kp (Pq T) .nil aN (aa (pv 2) ag))))))))),?_⟩
  cases st with
  | none =>
   obtain ⟨eg,ng⟩:=id hG
   refine ⟨_,rfl,_,_,_,_,_,rfl,eg,T.bV,T.aV,aX,_,rfl,?_⟩
   exact aQ ⟨pC,q.still hG (bc.refl _) rfl⟩
  | some a =>
   obtain ⟨⟨H0,P',b⟩,ng⟩:=id hG
   refine ⟨_,rfl,_,_,_,_,_,rfl,b.obj,T.bV,T.aV,aX,_,rfl,?_⟩
   have hst:TiltBallCalls.step (some a) (.ticks l) = if TiltBallCalls.LOOKED < l.length then (some a,Tilt.says (-2)) else if l.all (TiltBallCalls.tickOk a.T) = false then (some a,Tilt.says (-1)) else
    (some { a with x:=(a.T.ballsFrom 0 a.x l).1 },Tilt.tells (TiltBallCalls.toldNums (a.T.ballsFrom 0 a.x l).2.1 (a.T.ballsFrom 0 a.x l).2.2)):=rfl
   rw [hst] at q
   refine aM ⟨_,rfl,_,_,rfl,.inl ⟨_,dj.of htx,rfl⟩,_,_,rfl,rfl,?_,_,_,rfl,rfl,_,rfl,?_⟩
   ·exact .inl ⟨by decide,by decide⟩
   rw [d5,lR]
   by_cases z0:4096 < l.length
   ·rw [decide_eq_true (show ((2 * l.length:Nat):Int) > 2 * 4096 by omega)]
    rw [if_pos (show TiltBallCalls.LOOKED < l.length from z0)] at q
    exact aQ ⟨pC,q.still hG (bc.refl _) rfl⟩
   ·rw [decide_eq_false (show ¬ ((2 * l.length:Nat):Int) > 2 * 4096 by omega)]
    rw [if_neg (show ¬ TiltBallCalls.LOOKED < l.length from z0)] at q
    have ntp:tx ≠ P'.p:=aU htx b.bB.obj bf gL
    have tok:=GU b.nd hn
    rw [←b.kp,←b.ka] at tok
    refine aM ⟨_,rfl,_,_,_,_,_,rfl,b.obj,T.bV,T.aV,aX,_,rfl,H0,P',a.T,a.x,tx,Et l,rfl,b.bB,htx,ntp,fun hall H1 s1=>⟨_,rfl,?_⟩,fun hex H1 s1=>⟨_,rfl,?_⟩⟩
    ·have hall':l.all (TiltBallCalls.tickOk a.T) = true:=tok.mpr hall
     rw [if_neg (by rw [hall'];decide)] at q
     refine aM fun la ldx hla hldx Oq=>?_
     have hla':upd H1 ldx (.own la) la = none:=by rw [ai (Ne.symm Oq)];exact hla
     have s2:bc H1 (upd (upd H1 ldx (.own la)) la (.ins T.jH ldx [])):=Kp.same ((Kp.new hldx).trans (Kp.new hla'))
     refine ⟨la,ldx,rfl,af,fun H2 G eG hL2 k2 he2 hp2=>⟨rfl,?_⟩⟩
     subst eG
     have s12:bc H1 H2:=fun c o e=>k2 c o (s2 c o e) (by simpa using aw e hla)
     have s02:=s1.trans s12
     have s0e:=s1.trans s2
     have hlg:H G.lg = none:=s1.free hla
     have hea:H G.ea = none:=s0e.free he2
     have hpa:H G.pa = none:=s0e.free hp2
     have hT2:nj T H0 H2 P' a.T a.x G 0 [] []:=⟨b.bB.grow s02,hL2,b.pin,b.bB.same.free hea,b.bB.same.free hpa,aw b.bB.dl hea,aw b.bB.dl hpa⟩
     have h0l:H0 G.lg = none:=b.bB.same.free hlg
     have out:∀ c o,H c = some o->fe o ≠ 812->c ∉ G.lg :: nj.S P' G:=fun c o e t z=>by
      unfold nj.S at z
      simp only [List.mem_cons,List.mem_append,List.not_mem_nil,or_false] at z
      rcases z with z | z | z | z | z
      ·rw [z,hlg] at e;cases e
      ·rw [z,b.bB.obj] at e;cases e;exact t gL
      ·obtain ⟨o',e',t'⟩:=b.bB.KO z
       rw [e] at e';cases e';exact t t'
      ·rw [z,hea] at e;cases e
      ·rw [z,hpa] at e;cases e
     have gS:=out _ _ b.obj (by rw [q0];decide)
     have txS:=out _ _ htx (by rw [bf];decide)
     have htx2:=s02 _ _ htx
     refine ⟨_,rfl,_,_,rfl,.inl ⟨_,dj.of htx2,rfl⟩,_,_,rfl,rfl,⟨(by show (0:Int) < 2;decide),(by show (2:Int) < 1073741824;decide)⟩,_,rfl,?_,?_,?_⟩
     ·rw [d5,lR];omega
     ·rw [d5,lR];omega
     rw [d5,lR]
     have en:(((2 * l.length:Nat):Int) / 2).toNat = l.length:=by omega
     rw [en]
     refine m9 (fun i σ H3=>(∃ u,σ = [some (.ref g),some (.ref tx),some (.ref G.lg),u])/\∃ y ev os tk,M6 a.T a.x l i y ev os/\nj T H0 H3 P' a.T y G tk ev os/\ev.length<=72 * i/\os.length<=9 * i/\Kp (G.lg :: nj.S P' G) H2 H3) ⟨⟨_,rfl⟩,a.x,[],[],0,M6.start b.good l,hT2,by simp,by simp,Kp.refl⟩ ?_ ?_
     ·rintro i σ H3 hi ⟨⟨u,rfl⟩,y,ev,os,tk,ran,hT3,hev,hos,k3⟩
      have hz':l[i]? = some l[i]:=List.getElem?_eq_getElem hi
      generalize l[i] = zz at hz'
      obtain ⟨m,as⟩:=zz
      obtain ⟨e1,e2⟩:=JJ hz'
      refine ⟨_,rfl,_,rfl,_,_,_,_,rfl,hT3.log.obj,T.gC,T.nQ,Po,?_⟩
      rw [F2,show (0:Int) + ((i:Nat):Int) = ((i:Nat):Int) by omega]
      have hT4:=hT3.PQ h0l i
      have k4:Kp (G.lg :: nj.S P' G) H2 (upd H3 G.lg (.ins T.jH G.dx (vV (i:Nat) G.ea G.pa))):=k3.trans (Kp.wr (List.mem_cons_self ..))
      generalize upd H3 G.lg (.ins T.jH G.dx (vV (i:Nat) G.ea G.pa)) = H4 at hT4 k4 ⊢
      have eg4:=k4 _ _ (s02 _ _ b.obj) gS
      have et4:=k4 _ _ htx2 txS
      refine ⟨_,rfl,_,_,_,_,_,rfl,eg4,T.bV,T.aV,aX,_,rfl,_,rfl,_,_,rfl,rfl,.inl ⟨by decide,by decide⟩,_,_,_,_,rfl,rfl,dj.of et4,at_of (j:=2 * i) (by omega) (GV e1),_,rfl,_,rfl,_,_,rfl,rfl,.inl ⟨by decide,by decide⟩,_,_,rfl,rfl,_,_,_,_,rfl,rfl,dj.of et4,at_of (j:=2 * i + 1) (by omega) (GV e2),_,rfl,H0,P',a.T,y,G,i,ev,os,m,as,rfl,hT4,b.sm,ran.good,by omega,by omega,fun H5 hT5 k5=>?_⟩
      obtain ⟨b1,b2⟩:=Av ran.good b.sm.dl b.sm.at_ i m as
      refine ⟨⟨_,rfl⟩,_,_,_,i,ran.step hz',hT5,?_,?_,k4.trans (k5.mono fun c hc=>List.mem_cons_of_mem _ hc)⟩
      ·rw [List.length_append,List.length_map];omega
      ·rw [List.length_append];omega
     ·rintro σ H3 ⟨⟨u,rfl⟩,y,ev,os,tk,ran,hT3,hev,hos,k3⟩
      have hfin:=ran.fin
      rw [hfin] at q
      refine ⟨_,rfl,G,tk,ev,os,rfl,hT3.log,by omega,by omega,fun H4 l4 hl4 e4 s4=>?_⟩
      have gx:H l4 = none:=by
       cases e:H l4 with
       | none=>rfl
       | some o =>
        by_cases t:fe o = 812
        ·by_cases hin:l4 ∈ G.lg :: nj.S P' G
         ·unfold nj.S at hin
          simp only [List.mem_cons,List.mem_append,List.not_mem_nil,or_false] at hin
          rcases hin with z | z | z | z | z
          ·rw [z,hlg] at e;cases e
          ·rw [z,hT3.bB.obj] at hl4;cases hl4
          ·obtain ⟨o',e',_⟩:=hT3.bB.KO z
           rw [e'] at hl4;cases hl4
          ·rw [z,hea] at e;cases e
          ·rw [z,hpa] at e;cases e
         ·rw [k3 _ _ (s02 _ _ e) hin] at hl4;cases hl4
        ·rw [k3 _ _ (s02 _ _ e) (out _ _ e t)] at hl4;cases hl4
      have fx:Fx H H4:=fun c o e hs=>s4 _ _ (k3 _ _ (s02 _ _ e) (out _ _ e fun t=>Nn t (by decide) (by decide) hs))
      refine q H4 l4 gx ?_ ⟨⟨H0,P',s4 _ _ (k3 _ _ (s02 _ _ b.obj) gS),hT3.bB.grow s4,b.pin,b.g0,b.v0,b.vd,b.h0,b.sm,ran.good,b.kp,b.ka,b.nd⟩,ng⟩ fx
      rw [e4]
      unfold kx Tilt.tells
      rw [List.map_cons,List.map_cons,List.map_map]
      rfl
    ·have hall':l.all (TiltBallCalls.tickOk a.T) = false:=by
      cases h:l.all (TiltBallCalls.tickOk a.T) with
      | false=>rfl
      | true=>obtain ⟨i,n,h1,h2⟩:=hex;exact absurd (tok.mp h i n h1) h2
     rw [if_pos hall'] at q
     exact aQ ⟨pC,q.still hG s1 rfl⟩
end Pb
namespace Pb
open PySem PySem.Spec PyProof.Rows L2
noncomputable def mq (l:List Int):List V:=l.map V.int
theorem qf (l:List Int):(mq l).length = l.length:=by unfold mq;rw [List.length_map]
theorem GW {r:List Int} {xs:List (List Int)} {t:List Int} (h:PyFlat.rows 1 r = some (xs,t)):∃ row,r = (row.length:Int) :: (row ++ t)/\xs = [row]:=by
 unfold PyFlat.rows at h
 cases r with
 | nil=>cases h
 | cons n r =>
  unfold PyFlat.row at h
  dsimp only at h
  by_cases z:0<=n/\n.toNat<=r.length
  ·rw [if_pos z] at h
   dsimp only [PyFlat.rows] at h
   cases h
   refine ⟨r.take n.toNat,?_,rfl⟩
   rw [List.take_append_drop,List.length_take,Nat.min_eq_left z.2]
   congr 1
   omega
  ·rw [if_neg z] at h;cases h
inductive jA:List Int->List (List Int)->List Int->Prop where
 | begin_ {m:Int} {row t:List Int}:jA (1 :: m :: (row.length:Int) :: (row ++ t)) [[1,m],row] t
 | ticks {row t:List Int}:jA (2 :: (row.length:Int) :: (row ++ t)) [[2],row] t
 | large {t:List Int}:jA (3 :: t) [[3]] t
 | device {d:Int} {t:List Int}:jA (4 :: d :: t) [[4,d]] t
 | search {t:List Int}:jA (5 :: t) [[5]] t
theorem Nq {l:List Int} {c:List (List Int)} {t:List Int} (h:PyFlat.call PyWqaqcf.shape l = some (c,t)):jA l c t:=by
 cases l with
 | nil=>cases h
 | cons p r =>
  unfold PyFlat.call PyWqaqcf.shape at h
  dsimp only at h
  by_cases p1:p = 1
  ·subst p1
   rw [if_pos rfl] at h
   dsimp only at h
   cases r with
   | nil=>cases h
   | cons m r =>
    rw [if_neg (by simp)] at h
    cases e:PyFlat.rows 1 ((m :: r).drop 1) with
    | none=>rw [e] at h;cases h
    | some x =>
     obtain ⟨xs,t'⟩:=x
     rw [e] at h
     cases h
     obtain ⟨row,e1,rfl⟩:=GW e
     have e1:r = (row.length:Int) :: (row ++ t):=e1
     rw [e1]
     exact .begin_
  rw [if_neg p1] at h
  by_cases p2:p = 2
  ·subst p2
   rw [if_pos rfl] at h
   dsimp only at h
   rw [if_neg (by simp)] at h
   cases e:PyFlat.rows 1 (r.drop 0) with
   | none=>rw [e] at h;cases h
   | some x =>
    obtain ⟨xs,t'⟩:=x
    rw [e] at h
    cases h
    obtain ⟨row,e1,rfl⟩:=GW e
    have e1:r = (row.length:Int) :: (row ++ t):=e1
    rw [e1]
    exact .ticks
  rw [if_neg p2] at h
  by_cases p3:p = 3
  ·subst p3
   rw [if_pos rfl] at h
   dsimp only at h
   rw [if_neg (by simp)] at h
   cases h
   exact .large
  rw [if_neg p3] at h
  by_cases p4:p = 4
  ·subst p4
   rw [if_pos rfl] at h
   dsimp only at h
   cases r with
   | nil=>cases h
   | cons d r =>
    rw [if_neg (by simp)] at h
    cases h
    exact .device
  rw [if_neg p4] at h
  by_cases p5:p = 5
  ·subst p5
   rw [if_pos rfl] at h
   dsimp only at h
   rw [if_neg (by simp)] at h
   cases h
   exact .search
  rw [if_neg p5] at h
  cases h
theorem jA.whole {l:List Int} {c:List (List Int)} {t:List Int} (h:jA l c t):PyWqaqcf.whole c = c:=by cases h <;> rfl
theorem Bi {Tb:Tilt.Table} (hs:Ex Tb):∀ (l:List (Nat × Nat)) (i:Nat) {x:Tilt.Balls},pT Tb x->(Tb.ballsFrom i x l).2.1.length<=72 * l.length/\(Tb.ballsFrom i x l).2.2.length<=9 * l.length
 | [],i,x,_=>by constructor <;> exact Nat.zero_le _
 | z :: l,i,x,g=>by
  obtain ⟨b1,b2⟩:=Av g hs.dl hs.at_ i z.1 z.2
  obtain ⟨c1,c2⟩:=Bi hs l (i + 1) (g.tick i z.1 z.2)
  rw [rP]
  dsimp only
  rw [List.length_append,List.length_append,List.length_map,List.length_cons]
  omega
section
variable {K:PySem.W.Frag} {mg:Str->Option Value}
noncomputable def PR (K:PySem.W.Frag) (H:Hp) (nl:Addr) (oi:Obj) (xs:List V):Prop:=H nl = some (.ra oi (.lst xs))\/∀ H':Hp,dj K H' nl xs
theorem PR.sq {H:Hp} {nl:Addr} {oi:Obj} {xs:List V} (h:PR K H nl oi xs):dj K H nl xs:=by
 rcases h with h | h
 ·exact .inl (.inr ⟨oi,h⟩)
 ·exact h H
theorem PR.to {H H':Hp} {nl:Addr} {oi:Obj} {xs:List V} (h:PR K H nl oi xs) (k:H nl = some (.ra oi (.lst xs))->H' nl = some (.ra oi (.lst xs))):PR K H' nl oi xs:=by
 rcases h with h | h
 ·exact .inl (k h)
 ·exact .inr h
structure hX (T:Txt K mg) (H:Hp) (t dx nl:Addr) (oi:Obj) (ns:List Int) (k:Nat):Prop where
 obj:H t = some (.ins T.gB dx (lV nl (k:Nat)))
 Mz:PR K H nl oi (mq ns)
noncomputable def xT (T:Txt K mg):Sp:=fun vs H Q _=>∃ (a dx nl:Addr),vs = [.ref a,.ref nl]/\H a = some (.ins T.gB dx [])/\Q .fR (upd H a (.ins T.gB dx (lV nl 0)))
noncomputable def EE (T:Txt K mg):Sp:=fun vs H Q _=>∃ (t dx nl:Addr) (oi:Obj) (ns:List Int) (k:Nat),vs = [.ref t]/\hX T H t dx nl oi ns k/\Q (.bl (decide (k < ns.length))) H
noncomputable def EG (T:Txt K mg):Sp:=fun vs H Q _=>∃ (t dx nl:Addr) (oi:Obj) (ns:List Int) (k:Nat) (n:Int),vs = [.ref t]/\hX T H t dx nl oi ns k/\ns[k]? = some n/\∀ H',hX T H' t dx nl oi ns (k + 1)->Kp [t] H H'->Q (.int n) H'
noncomputable def xU (T:Txt K mg):Sp:=fun vs H Q _=>∃ (t dx nl:Addr) (oi:Obj) (ns:List Int) (k:Nat) (row rest:List Int),vs = [.ref t]/\hX T H t dx nl oi ns k/\ns.drop k = (row.length:Int) :: (row ++ rest)/\∀ H' l,H l = none->H' l = some (.lst (mq row))->hX T H' t dx nl oi ns (k + 1 + row.length)->Kp [t] H H'->Q (.ref l) H'
theorem hX.wr {T:Txt K mg} {H:Hp} {t dx nl:Addr} {oi:Obj} {ns:List Int} {k:Nat} (x:hX T H t dx nl oi ns k) (j:Nat):hX T (upd H t (.ins T.gB dx (lV nl (j:Nat)))) t dx nl oi ns j :=
 ⟨af,x.Mz.to fun e=>by rw [ai (nV e x.obj (by intro z;cases z))];exact e⟩
theorem hX.fx {T:Txt K mg} {H H':Hp} {t dx nl:Addr} {oi:Obj} {ns:List Int} {k:Nat} (x:hX T H t dx nl oi ns k) (f:Fx H H'):hX T H' t dx nl oi ns k:=⟨f _ _ x.obj (.inr lP),x.Mz.to fun e=>f _ _ e (.inl ⟨_,_,rfl⟩)⟩
theorem dw.Ox {T:Txt K mg} {H H':Hp} {g dx gv t:Addr} {st:TiltBallCalls.State} (y:dw T H g dx gv st) {o:HO} (hv:H t = some o) (ht:fe o = 221) (k:Kp [t] H H'):dw T H' g dx gv st:=by
 obtain ⟨v,eg⟩:=y.tag
 have ng:g ≠ t:=aU eg hv q0 ht
 cases st with
 | none=>exact ⟨k _ _ y.1 (by simpa using ng),y.2⟩
 | some a =>
  obtain ⟨⟨H0,P,b⟩,nv⟩:=y
  refine ⟨⟨H0,P,b.SV k ng (aU b.bB.obj hv gL ht) (aU b.bB.dl hv bf ht) (fun z=>?_) ?_⟩,nv⟩
  ·obtain ⟨o'',e,t'⟩:=b.bB.KO z
   rw [hv] at e;cases e;rw [ht] at t';exact absurd t' (by decide)
  ·cases e:H0 t with
   | none=>rfl
   | some u =>
    have:=b.bB.same _ _ e
    rw [hv] at this
    cases this
    rcases b.h0 _ _ e with h | h <;> rw [ht] at h <;> exact absurd h (by decide)
end
theorem xV {P:Program} {w:World} {K:PySem.W.Frag} {mg:Str->Option Value} {base:Heap} (T:Txt K mg):a8 P w K mg base kD 1 T.js T.dU ["self","numbers"] (xT T):=by
 refine T.df.ok xn (fun vs H Q E h=>?_) (fun cdv A outer s H vs Q E hr h=>?_)
 ·obtain ⟨a,dx,nl,rfl,_⟩:=h
  rfl
 ·obtain ⟨a,dx,nl,rfl,ha,q⟩:=h
  refine ⟨_,(ae (aH (pv 0) (pv 1) rfl)
   (ah (aH (pv 0) ao rfl))),?_⟩
  refine ⟨_,rfl,_,rfl,_,_,_,_,rfl,ha,T.du,T.g8,(by show 0 < 1000;decide),_,rfl,_,_,_,_,rfl,af,T.du,T.eW,(by show 1 < 1000;decide),?_⟩
  rw [aW]
  exact q
theorem EH {P:Program} {w:World} {K:PySem.W.Frag} {mg:Str->Option Value} {base:Heap} (T:Txt K mg):a8 P w K mg base kD 1 T.oG T.iP ["self"] (EE T):=by
 refine T.fP.ok DM (fun vs H Q E h=>?_) (fun cdv A outer s H vs Q E hr h=>?_)
 ·obtain ⟨t,dx,nl,oi,ns,k,rfl,_⟩:=h
  rfl
 ·obtain ⟨t,dx,nl,oi,ns,k,rfl,hT,q⟩:=h
  refine ⟨_,(ah (aE (cR pF (aj (pv 0) rfl) (aZ bX (by rfl) T.gK PySem.boot_len (aa (aj (pv 0) rfl) ag)) (aG _)))),?_⟩
  refine ⟨_,rfl,_,_,_,_,_,rfl,hT.obj,T.du,T.eW,gj,_,rfl,_,_,_,_,_,rfl,hT.obj,T.du,T.g8,mi,_,_,rfl,.inl ⟨_,hT.Mz.sq,rfl⟩,_,_,rfl,rfl,?_⟩
  rw [qf]
  dsimp only
  by_cases z:k < ns.length
  ·rw [decide_eq_true z] at q;rw [decide_eq_true (show ((k:Nat):Int) < ((ns.length:Nat):Int) by omega)];exact q
  ·rw [decide_eq_false z] at q;rw [decide_eq_false (show ¬ ((k:Nat):Int) < ((ns.length:Nat):Int) by omega)];exact q
theorem m8 {P:Program} {w:World} {K:PySem.W.Frag} {mg:Str->Option Value} {base:Heap} (T:Txt K mg):a8 P w K mg base kD 1 T.oH T.iQ ["self"] (EG T):=by
 refine T.fQ.ok vU (fun vs H Q E h=>?_) (fun cdv A outer s H vs Q E hr h=>?_)
 ·obtain ⟨t,dx,nl,oi,ns,k,n,rfl,_⟩:=h
  rfl
 ·obtain ⟨t,dx,nl,oi,ns,k,n,rfl,hT,hn,q⟩:=h
  refine ⟨_,(ae (aR (i:=1) vU.nd rfl (Or.inl rfl) (kz h9 (aj (pv 0) rfl) (aj (pv 0) rfl) (fun _ _=>rfl)))
   (ae (gd (pv 0) ao rE)
   (ah (aE (pv 1))))),?_⟩
  refine ⟨_,rfl,_,_,_,_,_,rfl,hT.obj,T.du,T.g8,mi,_,rfl,_,_,_,_,_,rfl,hT.obj,T.du,T.eW,gj,_,_,_,_,rfl,rfl,hT.Mz.sq,mC (v:=V.int n) (by unfold mq;rw [List.getElem?_map,hn];rfl),?_⟩
  refine ⟨_,rfl,_,_,_,_,_,rfl,hT.obj,T.du,T.eW,gj,_,_,rfl,rfl,_,_,hT.obj,Ju,?_⟩
  rw [uq]
  exact ⟨_,rfl,q _ (hT.wr (k + 1)) (Kp.wr (by simp))⟩
theorem qg {P:Program} {w:World} {K:PySem.W.Frag} {mg:Str->Option Value} {base:Heap} (T:Txt K mg):a8 P w K mg base kD 2 T.jt T.dW ["self"] (xU T):=by
 refine T.cA.ok kQ (fun vs H Q E h=>?_) (fun cdv A outer s H vs Q E hr h=>?_)
 ·obtain ⟨t,dx,nl,oi,ns,k,row,rest,rfl,_⟩:=h
  rfl
 ·obtain ⟨t,dx,nl,oi,ns,k,row,rest,rfl,hT,hd,q⟩:=h
  refine ⟨_,(ae (aR (i:=1) kQ.nd rfl (Or.inl rfl) (bg (pv 0) T.du T.j9 (m8 T) (hr.mono (by decide)) (oR T) .nil aN))
   (ae (aR (i:=2) kQ.nd rfl (Or.inl rfl) (Fo Ja (aj (pv 0) rfl) (zB (aj (pv 0) rfl)) (zB (cQ lX (aj (pv 0) rfl) (pv 1)))))
   (ae (gd (pv 0) (pv 1) rE)
   (ah (aE (pv 2)))))),?_⟩
  have hk:ns[k]? = some (row.length:Int):=by
   have:=congrArg (fun l=>l[0]?) hd
   rw [List.getElem?_drop] at this
   simpa using this
  have hd1:ns.drop (k + 1) = row ++ rest:=by
   have:=congrArg (List.drop 1) hd
   rw [List.drop_drop] at this
   simpa using this
  have hlen:k + 1 + row.length<=ns.length:=by
   have:=congrArg List.length hd1
   have h2:=(List.getElem?_eq_some_iff.mp hk).1
   rw [List.length_drop,List.length_append] at this
   omega
  refine ⟨_,rfl,_,_,_,rfl,hT.obj,eI,t,dx,nl,oi,ns,k,_,rfl,hT,hk,fun H1 hT1 k1=>?_⟩
  refine ⟨_,rfl,_,_,_,_,_,rfl,hT1.obj,T.du,T.g8,mi,_,rfl,_,_,_,_,_,rfl,hT1.obj,T.du,T.eW,gj,_,rfl,_,rfl,_,_,_,_,_,rfl,hT1.obj,T.du,T.eW,gj,_,rfl,_,_,rfl,rfl,_,rfl,_,_,rfl,hT1.Mz.sq,fun l hl=>?_⟩
  have ec:Di (mq ns) (some ((k + 1:Nat):Int)) (some (((k + 1:Nat):Int) + ((row.length:Nat):Int))) = mq row:=by
   rw [show ((k + 1:Nat):Int) + ((row.length:Nat):Int) = ((k + 1 + row.length:Nat):Int) by omega]
   unfold Di
   rw [HT.zA,HT.zA,qf,Nat.min_eq_left hlen,Nat.min_eq_left (show k + 1<=ns.length by omega)]
   unfold mq
   rw [←List.map_drop,←List.map_take,hd1,show k + 1 + row.length - (k + 1) = row.length by omega,List.take_left]
  rw [ec]
  have nt:t ≠ l:=fun e=>by rw [←e,hT1.obj] at hl;cases hl
  have o2:upd H1 l (.lst (mq row)) t = some (.ins T.gB dx (lV nl ((k + 1:Nat):Int))):=by rw [ai nt];exact hT1.obj
  have hT2:hX T (upd H1 l (.lst (mq row))) t dx nl oi ns (k + 1):=⟨o2,hT1.Mz.to fun e=>by rw [ai (aw e hl)];exact e⟩
  refine ⟨_,rfl,_,_,_,_,_,rfl,o2,T.du,T.eW,gj,_,rfl,_,_,rfl,rfl,_,_,o2,Ju,?_⟩
  rw [uq]
  have hT3:=hT2.wr (k + 1 + row.length)
  have hl0:H l = none:=by
   cases e:H l with
   | none=>rfl
   | some o=>rw [k1 _ _ e (by simpa using Ne.symm nt)] at hl;cases hl
  refine ⟨_,rfl,q _ l hl0 ?_ hT3 ((k1.trans (Kp.new hl)).trans (Kp.wr (by simp)))⟩
  rw [ai (Ne.symm nt),af]
end Pb
namespace Pb
open PySem PySem.Spec PyProof.Rows L2
theorem Nr {row:List Int} (h:row.all (fun (z:Int)=>BallNeutral.natural z 8) = true):mq row = bv (BallNeutral.text row):=by
 unfold mq bv BallNeutral.text BallNeutral.nats
 rw [List.map_map,List.map_map]
 apply List.map_congr_left
 intro z hz
 have:=List.all_eq_true.mp h z hz
 unfold BallNeutral.natural at this
 simp only [Bool.and_eq_true,decide_eq_true_eq] at this
 have h2:z.toNat < 256:=by have:=this.2;omega
 show V.int z = V.int (((UInt8.ofNat z.toNat).toNat:Nat):Int)
 rw [UInt8.toNat_ofNat_of_lt' h2]
 congr 1
 omega
theorem text_len (row:List Int):(BallNeutral.text row).length = row.length:=by unfold BallNeutral.text BallNeutral.nats;rw [List.length_map,List.length_map]
theorem C5:∀ {row:List Int},row.all (fun (z:Int)=>BallNeutral.natural z 64) = true->row.length % 2 = 0->mq row = kx (Et (BallNeutral.ticksOf row))/\row.length = 2 * (BallNeutral.ticksOf row).length/\∀ n ∈ Et (BallNeutral.ticksOf row),n < 2 ^ 64
 | [],_,_=>⟨rfl,rfl,by intro n hn;cases hn⟩
 | [a],_,h=>by cases h
 | a :: b :: r,h,hl=>by
  rw [List.all_cons,List.all_cons,Bool.and_eq_true,Bool.and_eq_true] at h
  obtain ⟨ha,hb,hr⟩:=h
  obtain ⟨i1,i2,i3⟩:=C5 (row:=r) hr (by simp only [List.length_cons] at hl;omega)
  unfold BallNeutral.natural at ha hb
  simp only [Bool.and_eq_true,decide_eq_true_eq] at ha hb
  have e:BallNeutral.ticksOf (a :: b :: r) = (a.toNat,b.toNat) :: BallNeutral.ticksOf r:=rfl
  refine ⟨?_,?_,fun n hn=>?_⟩
  ·rw [e,sO]
   show V.int a :: V.int b :: mq r = V.int _ :: V.int _ :: kx (Et (BallNeutral.ticksOf r))
   rw [i1]
   congr 2
   ·show a = ((a.toNat:Nat):Int);omega
   ·congr 1
    show b = ((b.toNat:Nat):Int);omega
  ·rw [e];simp only [List.length_cons];omega
  ·rw [e,sO] at hn
   rcases List.mem_cons.mp hn with rfl | hn
   ·have:=ha.2;dsimp only;omega
   ·rcases List.mem_cons.mp hn with rfl | hn
    ·have:=hb.2;dsimp only;omega
    ·exact i3 n hn
section
variable {K:PySem.W.Frag} {mg:Str->Option Value}
noncomputable def Bj (T:Txt K mg):Sp:=fun vs H Q _=>∃ (g dx gv:Addr) (od:Obj) (gs:HO) (st:TiltBallCalls.State) (t tdx nl:Addr) (oi:Obj) (ns:List Int) (k:Nat) (c:List (List Int)) (rest:List Int),vs = [.ref g,.ref t]/\dw T H g dx gv st/\H gv = some (.ra od gs)/\hX T H t tdx nl oi ns k ∧
 jA (ns.drop k) c rest/\BallNeutral.asked1 c = true/\ns.length<=16000 ∧
 ∀ H' l,H l = none->H' l = some (.lst (mq (BallNeutral.step st c).2))->dw T H' g dx gv (BallNeutral.step st c).1->hX T H' t tdx nl oi ns (ns.length - rest.length)->H' gv = some (.ra od gs)->(BallNeutral.step st c).2.length + 1<=100 * ((ns.drop k).length - rest.length)->Q (.ref l) H'
theorem f6 {ns:List Int} {k:Nat} {x:Int} {r:List Int} (h:ns.drop k = x :: r):ns[k]? = some x/\ns.drop (k + 1) = r/\k + 1 + r.length = ns.length:=by
 have h1:ns[k]? = some x:=by
  have:=congrArg (fun l=>l[0]?) h
  rw [List.getElem?_drop] at this
  simpa using this
 have h2:ns.drop (k + 1) = r:=by
  have:=congrArg (List.drop 1) h
  rw [List.drop_drop] at this
  simpa using this
 refine ⟨h1,h2,?_⟩
 have:=congrArg List.length h
 have h3:=(List.getElem?_eq_some_iff.mp h1).1
 rw [List.length_drop,List.length_cons] at this
 omega
theorem Mi {T:Txt K mg} {H:Hp} {g dx gv:Addr} {st:TiltBallCalls.State} (y:dw T H g dx gv st) (l:List (Nat × Nat)):(TiltBallCalls.step st (.ticks l)).2.nums.length<=2 + 171 * l.length:=by
 cases st with
 | none=>exact Nat.zero_le _
 | some a =>
  obtain ⟨⟨H0,P,b⟩,_⟩:=y
  obtain ⟨c1,c2⟩:=Bi b.sm l 0 b.good
  show (if TiltBallCalls.LOOKED < l.length then (some a,Tilt.says (-2)) else if l.all (TiltBallCalls.tickOk a.T) = false then (some a,Tilt.says (-1)) else
    (some { a with x:=(a.T.ballsFrom 0 a.x l).1 },Tilt.tells (TiltBallCalls.toldNums (a.T.ballsFrom 0 a.x l).2.1 (a.T.ballsFrom 0 a.x l).2.2))).2.nums.length<=_
  split
  ·exact Nat.zero_le _
  ·split
   ·exact Nat.zero_le _
   ·show ((TiltBallCalls.toldNums _ _).map _).length<=_
    rw [List.length_map]
    show (_ :: (Et (a.T.ballsFrom 0 a.x l).2.1 ++ (_ :: PD (a.T.ballsFrom 0 a.x l).2.2))).length<=_
    rw [List.length_cons,List.length_append,List.length_cons,lR,zU]
    omega
theorem KP (st:TiltBallCalls.State) (b:Tilt.Bytes) (m:Nat):(TiltBallCalls.step st (.begin_ b m)).2.nums.length<=2:=by
 have hst:TiltBallCalls.step st (.begin_ b m) = if Tilt.TEXT < b.length then (st,Tilt.says (-2)) else (match Tilt.readTable b with
  | .error e=>(st,Tilt.faulty e)
  | .ok T=>if T.maskOk m = false then (st,Tilt.says (-1)) else (some ⟨T,T.ballsBegun m⟩,Tilt.says 0)):=by cases st <;> rfl
 rw [hst]
 split
 ·exact Nat.zero_le _
 ·split
  ·exact Nat.le_refl _
  ·split <;> exact Nat.zero_le _
theorem KQ (st:TiltBallCalls.State):(TiltBallCalls.step st .large).2.nums.length<=3:=by
 cases st with
 | none=>exact Nat.zero_le _
 | some a=>exact Nat.le_refl _
theorem IH (st:TiltBallCalls.State):(TiltBallCalls.step st .search).2.nums.length<=3:=by
 cases st with
 | none=>exact Nat.zero_le _
 | some a=>exact Nat.le_refl _
theorem II (st:TiltBallCalls.State) (d:Nat):(TiltBallCalls.step st (.device d)).2.nums.length<=6:=by
 cases st with
 | none=>exact Nat.zero_le _
 | some a =>
  show (match a.x.at_[d]? with | some n=>Tilt.tells [n.shows,n.still,n.count,n.want,n.tries,n.left] | none=>Tilt.says (-4)).nums.length<=6
  cases a.x.at_[d]? with
  | none=>exact Nat.zero_le _
  | some n=>exact Nat.le_refl _
end
theorem Bk {P:Program} {w:World} {K:PySem.W.Frag} {mg:Str->Option Value} {base:Heap} (T:Txt K mg):a8 P w K mg base kD 11 T.lH T.fA ["game","tape"] (Bj T):=by
 refine T.dE.ok nG (fun vs H Q E h=>?_) (fun cdv A outer s H vs Q E hr h=>?_)
 ·obtain ⟨g,dx,gv,od,gs,st,t,tdx,nl,oi,ns,k,c,rest,rfl,_⟩:=h
  rfl
 ·obtain ⟨g,dx,gv,od,gs,st,t,tdx,nl,oi,ns,k,c,rest,rfl,hG,hgv,hT,hc,hask,hz,q⟩:=h
  refine ⟨_,(ae (aR (i:=2) nG.nd rfl (Or.inl rfl) (bg (pv 1) T.du T.j9 (m8 T) (hr.mono (by decide)) (oR T) .nil aN))
   (ae (aY (aI dX (pv 2) (iV rfl T.zP) (aG _)) (ae (aR (i:=3) nG.nd rfl (Or.inl rfl) (bg (pv 1) T.du T.j9 (m8 T) (hr.mono (by decide)) (oR T) .nil aN))
   (ah (aE (mz (pv 0) T.bV T.ux (B4 T) (hr.mono (by decide)) (D2 T) .nil aN (aa (pv 3) (aa (bg (pv 1) T.du T.lj (qg T) (hr.mono (by decide)) (rm T) .nil aN) ag)))))) aC)
   (ae (aY (aI dX (pv 2) (iV rfl T.zQ) (aG _)) (ah (aE (mz (pv 0) T.bV T.oE (wC T) (hr.mono (by decide)) (xw T) .nil aN (aa (bg (pv 1) T.du T.lj (qg T) (hr.mono (by decide)) (rm T) .nil aN) ag)))) aC)
   (ae (aY (aI dX (pv 2) (iV rfl T.zR) (aG _)) (ah (aE (bg (pv 0) T.bV T.nP (vh T) (hr.mono (by decide)) (we T) .nil aN))) aC)
   (ae (aY (aI dX (pv 2) (iV rfl T.ko) (aG _)) (ah (aE (mz (pv 0) T.bV T.mx (ue T) (hr.mono (by decide)) (uY T) .nil aN (aa (bg (pv 1) T.du T.j9 (m8 T) (hr.mono (by decide)) (oR T) .nil aN) ag)))) aC)
   (ah (aE (bg (pv 0) T.bV T.my (uc T) (hr.mono (by decide)) (uZ T) .nil aN)))))))),?_⟩
  have gt:∀ {H1:Hp},Kp [t] H H1->H1 gv = some (.ra od gs):=fun {H1} k1=>k1 _ _ hgv (by simpa using nV hgv hT.obj (by intro z;cases z))
  have fr:∀ {H1:Hp} {l:Addr},Kp [t] H H1->H1 t ≠ none->H1 l = none->H l = none:=fun {H1 l} k1 ht hl=>by
   cases e:H l with
   | none=>rfl
   | some o =>
    by_cases z:l = t
    ·subst z;exact absurd hl ht
    ·rw [k1 _ _ e (by simpa using z)] at hl;cases hl
  generalize hdr:ns.drop k = dr at hc q
  cases hc with
  | @begin_ m row _ =>
   obtain ⟨e0,d1,l1⟩:=f6 hdr
   obtain ⟨e1,d2,l2⟩:=f6 d1
   obtain ⟨e2,d3,l3⟩:=f6 d2
   rw [List.length_append] at l3
   have hask':BallNeutral.natural m 64 = true/\row.all (fun (z:Int)=>BallNeutral.natural z 8) = true:=by
    have:(BallNeutral.natural m 64 && row.all (fun (z:Int)=>BallNeutral.natural z 8)) = true:=hask
    rwa [Bool.and_eq_true] at this
   have hm:0<=m/\m < 2 ^ 64:=by
    have:=hask'.1
    unfold BallNeutral.natural at this
    simpa only [Bool.and_eq_true,decide_eq_true_eq] using this
   refine ⟨_,rfl,_,_,_,rfl,hT.obj,eI,t,tdx,nl,oi,ns,k,_,rfl,hT,e0,fun H1 hT1 k1=>?_⟩
   refine ⟨_,rfl,rfl,_,rfl,?_⟩
   rw [wL rfl]
   refine aQ ⟨_,rfl,_,_,_,rfl,hT1.obj,eI,t,tdx,nl,oi,ns,k + 1,_,rfl,hT1,e1,fun H2 hT2 k2=>?_⟩
   have k02:=k1.trans k2
   have hG2:=hG.Ox hT.obj lP k02
   obtain ⟨v,eg2⟩:=hG2.tag
   refine ⟨_,rfl,_,_,_,rfl,eg2,BK,_,rfl,_,rfl,_,_,_,rfl,hT2.obj,pZ,t,tdx,nl,oi,ns,k + 1 + 1,row,rest,rfl,hT2,d2,fun H3 l hl el hT3 k3=>?_⟩
   have k03:=k02.trans k3
   have hG3:=hG.Ox hT.obj lP k03
   have em:m = ((m.toNat:Nat):Int):=by omega
   refine ⟨g,dx,gv,od,gs,st,m.toNat,l,BallNeutral.text row,by rw [←em];rfl,hG3,gt k03,by rw [el,Nr hask'.2],by rw [text_len];omega,by omega,fun H4 l4 hl4 e4 hG4 f4=>?_⟩
   have hst:BallNeutral.step st [[1,m],row] = ((TiltBallCalls.step st (.begin_ (BallNeutral.text row) m.toNat)).1,(TiltBallCalls.step st (.begin_ (BallNeutral.text row) m.toNat)).2.code :: (TiltBallCalls.step st (.begin_ (BallNeutral.text row) m.toNat)).2.nums):=rfl
   rw [hst] at q
   refine q H4 l4 (fr k03 (by rw [hT3.obj];simp) hl4) e4 hG4 ?_ (f4 _ _ (gt k03) (.inl ⟨_,_,rfl⟩)) ?_
   ·have:=hT3.fx f4
    rwa [show k + 1 + 1 + 1 + row.length = ns.length - rest.length by omega] at this
   ·have:=KP st (BallNeutral.text row) m.toNat
    simp only [List.length_cons,List.length_append]
    omega
  | @ticks row _ =>
   obtain ⟨e0,d1,l1⟩:=f6 hdr
   obtain ⟨e1,d2,l2⟩:=f6 d1
   rw [List.length_append] at l2
   have hask':row.all (fun (z:Int)=>BallNeutral.natural z 64) = true/\row.length % 2 = 0:=by
    have:(row.all (fun (z:Int)=>BallNeutral.natural z 64) && row.length % 2 == 0) = true:=hask
    rw [Bool.and_eq_true] at this
    exact ⟨this.1,eq_of_beq this.2⟩
   obtain ⟨t1,t2,t3⟩:=C5 hask'.1 hask'.2
   refine ⟨_,rfl,_,_,_,rfl,hT.obj,eI,t,tdx,nl,oi,ns,k,_,rfl,hT,e0,fun H1 hT1 k1=>?_⟩
   refine ⟨_,rfl,rfl,_,rfl,?_⟩
   rw [rq (by decide)]
   refine aM ⟨_,rfl,rfl,_,rfl,?_⟩
   rw [wL rfl]
   have hG1:=hG.Ox hT.obj lP k1
   obtain ⟨v,eg1⟩:=hG1.tag
   refine aQ ⟨_,rfl,_,_,_,rfl,eg1,vW,_,rfl,_,_,_,rfl,hT1.obj,pZ,t,tdx,nl,oi,ns,k + 1,row,rest,rfl,hT1,d1,fun H3 l hl el hT3 k3=>?_⟩
   have k03:=k1.trans k3
   have hG3:=hG.Ox hT.obj lP k03
   refine ⟨g,dx,gv,od,gs,st,BallNeutral.ticksOf row,l,rfl,hG3,gt k03,by rw [el,t1],by omega,t3,fun H4 l4 hl4 e4 hG4 f4=>?_⟩
   have hst:BallNeutral.step st [[2],row] = ((TiltBallCalls.step st (.ticks (BallNeutral.ticksOf row))).1,(TiltBallCalls.step st (.ticks (BallNeutral.ticksOf row))).2.code :: (TiltBallCalls.step st (.ticks (BallNeutral.ticksOf row))).2.nums):=rfl
   rw [hst] at q
   refine q H4 l4 (fr k03 (by rw [hT3.obj];simp) hl4) e4 hG4 ?_ (f4 _ _ (gt k03) (.inl ⟨_,_,rfl⟩)) ?_
   ·have:=hT3.fx f4
    rwa [show k + 1 + 1 + row.length = ns.length - rest.length by omega] at this
   ·have:=Mi hG (BallNeutral.ticksOf row)
    simp only [List.length_cons,List.length_append]
    omega
  | large =>
   obtain ⟨e0,d1,l1⟩:=f6 hdr
   refine ⟨_,rfl,_,_,_,rfl,hT.obj,eI,t,tdx,nl,oi,ns,k,_,rfl,hT,e0,fun H1 hT1 k1=>?_⟩
   refine ⟨_,rfl,rfl,_,rfl,?_⟩
   rw [rq (by decide)]
   refine aM ⟨_,rfl,rfl,_,rfl,?_⟩
   rw [rq (by decide)]
   refine aM ⟨_,rfl,rfl,_,rfl,?_⟩
   rw [wL rfl]
   have hG1:=hG.Ox hT.obj lP k1
   obtain ⟨v,eg1⟩:=hG1.tag
   refine aQ ⟨_,rfl,_,_,_,rfl,eg1,uW,g,dx,gv,st,rfl,hG1,fun H4 l4 hl4 e4 hG4 f4=>?_⟩
   have hst:BallNeutral.step st [[3]] = ((TiltBallCalls.step st .large).1,(TiltBallCalls.step st .large).2.code :: (TiltBallCalls.step st .large).2.nums):=rfl
   rw [hst] at q
   refine q H4 l4 (fr k1 (by rw [hT1.obj];simp) hl4) e4 hG4 ?_ (f4 _ _ (gt k1) (.inl ⟨_,_,rfl⟩)) ?_
   ·have:=hT1.fx f4
    rwa [show k + 1 = ns.length - rest.length by omega] at this
   ·have:=KQ st
    simp only [List.length_cons]
    omega
  | @device d _ =>
   obtain ⟨e0,d1,l1⟩:=f6 hdr
   obtain ⟨e1,d2,l2⟩:=f6 d1
   have hd:0<=d:=by
    have:BallNeutral.whole32 d = true:=hask
    unfold BallNeutral.whole32 at this
    simp only [Bool.and_eq_true,decide_eq_true_eq] at this
    exact this.1
   refine ⟨_,rfl,_,_,_,rfl,hT.obj,eI,t,tdx,nl,oi,ns,k,_,rfl,hT,e0,fun H1 hT1 k1=>?_⟩
   refine ⟨_,rfl,rfl,_,rfl,?_⟩
   rw [rq (by decide)]
   refine aM ⟨_,rfl,rfl,_,rfl,?_⟩
   rw [rq (by decide)]
   refine aM ⟨_,rfl,rfl,_,rfl,?_⟩
   rw [rq (by decide)]
   refine aM ⟨_,rfl,rfl,_,rfl,?_⟩
   rw [wL rfl]
   have hG1:=hG.Ox hT.obj lP k1
   obtain ⟨v,eg1⟩:=hG1.tag
   refine aQ ⟨_,rfl,_,_,_,rfl,eg1,tW,_,rfl,_,_,_,rfl,hT1.obj,eI,t,tdx,nl,oi,ns,k + 1,_,rfl,hT1,e1,fun H3 hT3 k3=>?_⟩
   have k03:=k1.trans k3
   have hG3:=hG.Ox hT.obj lP k03
   have ed:d = ((d.toNat:Nat):Int):=by omega
   refine ⟨g,dx,gv,st,d.toNat,by rw [←ed];rfl,hG3,fun H4 l4 hl4 e4 hG4 f4=>?_⟩
   have hst:BallNeutral.step st [[4,d]] = ((TiltBallCalls.step st (.device d.toNat)).1,(TiltBallCalls.step st (.device d.toNat)).2.code :: (TiltBallCalls.step st (.device d.toNat)).2.nums):=rfl
   rw [hst] at q
   refine q H4 l4 (fr k03 (by rw [hT3.obj];simp) hl4) e4 hG4 ?_ (f4 _ _ (gt k03) (.inl ⟨_,_,rfl⟩)) ?_
   ·have:=hT3.fx f4
    rwa [show k + 1 + 1 = ns.length - rest.length by omega] at this
   ·have:=II st d.toNat
    simp only [List.length_cons]
    omega
  | search =>
   obtain ⟨e0,d1,l1⟩:=f6 hdr
   refine ⟨_,rfl,_,_,_,rfl,hT.obj,eI,t,tdx,nl,oi,ns,k,_,rfl,hT,e0,fun H1 hT1 k1=>?_⟩
   refine ⟨_,rfl,rfl,_,rfl,?_⟩
   rw [rq (by decide)]
   refine aM ⟨_,rfl,rfl,_,rfl,?_⟩
   rw [rq (by decide)]
   refine aM ⟨_,rfl,rfl,_,rfl,?_⟩
   rw [rq (by decide)]
   refine aM ⟨_,rfl,rfl,_,rfl,?_⟩
   rw [rq (by decide)]
   have hG1:=hG.Ox hT.obj lP k1
   obtain ⟨v,eg1⟩:=hG1.tag
   refine aM ⟨_,rfl,_,_,_,rfl,eg1,tX,g,dx,gv,st,rfl,hG1,fun H4 l4 hl4 e4 hG4 f4=>?_⟩
   have hst:BallNeutral.step st [[5]] = ((TiltBallCalls.step st .search).1,(TiltBallCalls.step st .search).2.code :: (TiltBallCalls.step st .search).2.nums):=rfl
   rw [hst] at q
   refine q H4 l4 (fr k1 (by rw [hT1.obj];simp) hl4) e4 hG4 ?_ (f4 _ _ (gt k1) (.inl ⟨_,_,rfl⟩)) ?_
   ·have:=hT1.fx f4
    rwa [show k + 1 = ns.length - rest.length by omega] at this
   ·have:=IH st
    simp only [List.length_cons]
    omega
end Pb
namespace Pb
open PySem PySem.Spec PyProof.Rows L2
theorem jA.split {l:List Int} {c:List (List Int)} {t:List Int} (h:jA l c t):∃ pre,l = pre ++ t/\pre ≠ []:=by
 cases h with
 | @begin_ m row _=>exact ⟨1 :: m :: (row.length:Int) :: row,by simp,by simp⟩
 | @ticks row _=>exact ⟨2 :: (row.length:Int) :: row,by simp,by simp⟩
 | large=>exact ⟨[3],by simp,by simp⟩
 | @device d _=>exact ⟨[4,d],by simp,by simp⟩
 | search=>exact ⟨[5],by simp,by simp⟩
theorem IJ {f:Nat} {p:Int} {r:List Int} {cs:List (List (List Int))} (h:PyFlat.calls PyWqaqcf.shape f (p :: r) = some cs):∃ f' c t cs',jA (p :: r) c t/\PyFlat.calls PyWqaqcf.shape f' t = some cs'/\cs = c :: cs':=by
 cases f with
 | zero=>cases h
 | succ f =>
  unfold PyFlat.calls at h
  cases e:PyFlat.call PyWqaqcf.shape (p :: r) with
  | none=>rw [e] at h;cases h
  | some x =>
   obtain ⟨c,t⟩:=x
   rw [e] at h
   dsimp only at h
   cases e2:PyFlat.calls PyWqaqcf.shape f t with
   | none=>rw [e2] at h;cases h
   | some cs' =>
    rw [e2] at h
    cases h
    exact ⟨f,c,t,cs',Nq e,e2,rfl⟩
theorem KR (a:List Int) (l:List (List Int)):PyFlat.told (a :: l) = ((a.length:Int) :: a) ++ PyFlat.told l:=by
 unfold PyFlat.told
 rw [List.flatMap_cons]
section
variable {K:PySem.W.Frag} {mg:Str->Option Value}
noncomputable def Mj (K:PySem.W.Frag):Sp:=fun vs H Q _=>∃ (a:Addr) (ns:List Int),vs = [.ref a]/\Ak H/\dj K H a (mq ns)/\ns.length<=16000/\PyWqaqcf.answers_asked ns = true/\∀ H' l,H' l = some (.lst (mq (PyWqaqcf.answers ns)))->Q (.ref l) H'
abbrev IK (T:Txt K mg):Sp:=Mj K
structure Oy (T:Txt K mg) (H:Hp) (g gdx gv t tdx a:Addr) (oi:Obj) (ns:List Int) (k:Nat) (st:TiltBallCalls.State) (gs:List Int) (cs:List (List (List Int))):Prop where
 le:k<=ns.length
 Sr:dw T H g gdx gv st
 KS:hX T H t tdx a oi ns k
 given:H gv = some (.lst (mq gs))
 SW:∃ f,PyFlat.calls PyWqaqcf.shape f (ns.drop k) = some cs
 ask:∀ c ∈ cs,BallNeutral.asked1 (PyWqaqcf.whole c) = true
 eq:PyWqaqcf.answers ns = gs ++ PyFlat.told (PyFlat.played BallNeutral.step st (cs.map PyWqaqcf.whole))
 Rz:gs.length<=100 * k
theorem PU {H:Hp} {a:Addr} {xs:List V} (hO:Ak H) (h:dj K H a xs):∃ oi,PR K H a oi xs:=by
 rcases h with (h | ⟨o,h⟩) | ⟨o,its,n,h⟩
 ·rcases hO a with z | ⟨o,u,z⟩
  ·rw [h] at z;cases z
  ·rw [h] at z;cases z
 ·exact ⟨o,.inl h⟩
 ·exact ⟨o,.inr fun H'=>.inr ⟨o,its,n,h⟩⟩
end
theorem IL {P:Program} {w:World} {K:PySem.W.Frag} {mg:Str->Option Value} {base:Heap} (T:Txt K mg):a8 P w K mg base kD 12 T.tK T.ll ["calls"] (IK T):=by
 refine T.lp.ok nF (fun vs H Q E h=>?_) (fun cdv A outer s H vs Q E hr h=>?_)
 ·obtain ⟨a,ns,rfl,_⟩:=h
  rfl
 ·obtain ⟨a,ns,rfl,hO,hS,hz,hask,q⟩:=h
  refine ⟨_,(ae (aR (i:=1) nF.nd rfl (Or.inl rfl) (Ag T.zM (xS T) (hr.mono (by decide)) rfl T.L1 (yS T) .nil aN))
   (ae (aR (i:=2) nF.nd rfl (Or.inl rfl) (mB T.zN (xV T) (hr.mono (by decide)) rfl T.L3 (yT T) .nil aN (aa (pv 0) ag)))
   (ae (aR (i:=3) nF.nd rfl (Or.inl rfl) (dk ag))
   (ae (zZ PassesOwn.never (bQ (bg (pv 2) T.du T.vZ (EH T) (hr.mono (by decide)) (Gn T) .nil aN) (fun _=>rfl)) (ae (aR (i:=4) nF.nd rfl (Or.inl rfl) (MQ (aq (Bk T) (hr.mono (by decide)) rfl T.uy T.dE.kp (BS T) .nil aN (aa (pv 1) (aa (pv 2) ag)))))
   (ae (aJ (ug PySem.F.plainAttrs_list PySem.F.slot_list_append PySem.F.type_list_append pI (pv 3) (aa (aZ bX (by rfl) T.gK PySem.boot_len (aa (pv 4) ag)) ag)))
   (ah (aJ (ug PySem.F.plainAttrs_list PySem.F.slot_list_extend PySem.F.type_list_extend pJ (pv 3) (aa (pv 4) ag)))))))
   (ah (aE (pv 3))))))),?_⟩
  obtain ⟨oi,hin⟩:=PU hO hS
  refine fun g gdx hg hgdx gne=>⟨g,gdx,rfl,af,rfl,?_⟩
  rw [aW]
  have hg':upd H gdx (.own g) g = none:=by rw [ai (Ne.symm gne)];exact hg
  have s1:bc H (upd (upd H gdx (.own g)) g (.ins T.fm gdx (jG .fR))):=Kp.same ((Kp.new hgdx).trans (Kp.new hg'))
  have g1:upd (upd H gdx (.own g)) g (.ins T.fm gdx (jG .fR)) g = some (.ins T.fm gdx (jG .fR)):=af
  generalize upd (upd H gdx (.own g)) g (.ins T.fm gdx (jG .fR)) = H1 at s1 g1 ⊢
  refine ⟨_,rfl,fun t tdx ht htdx tne=>⟨t,tdx,a,rfl,af,rfl,?_⟩⟩
  rw [aW]
  have ht':upd H1 tdx (.own t) t = none:=by rw [ai (Ne.symm tne)];exact ht
  have s2:bc H1 (upd (upd H1 tdx (.own t)) t (.ins T.gB tdx (lV a 0))):=Kp.same ((Kp.new htdx).trans (Kp.new ht'))
  have t2:upd (upd H1 tdx (.own t)) t (.ins T.gB tdx (lV a 0)) t = some (.ins T.gB tdx (lV a ((0:Nat):Int))):=af
  generalize upd (upd H1 tdx (.own t)) t (.ins T.gB tdx (lV a 0)) = H2 at s2 t2 ⊢
  refine ⟨(by show 0<=sizeLine;decide),fun gv hgv=>?_⟩
  have s3:bc H2 (upd H2 gv (.lst [])):=Kp.same (Kp.new hgv)
  have g3:=s3 _ _ (s2 _ _ g1)
  have ngv:g ≠ gv:=aw (s2 _ _ g1) hgv
  obtain ⟨cs,hcs,hall,hans⟩:∃ cs,PyFlat.calls PyWqaqcf.shape ns.length ns = some cs/\(∀ c ∈ cs,BallNeutral.asked1 (PyWqaqcf.whole c) = true)/\PyWqaqcf.answers ns = PyFlat.told (PyFlat.played BallNeutral.step BallNeutral.start (cs.map PyWqaqcf.whole)):=by
   unfold PyWqaqcf.answers_asked PyWqaqcf.calls at hask
   unfold PyWqaqcf.answers PyWqaqcf.calls
   cases e:PyFlat.calls PyWqaqcf.shape ns.length ns with
   | none=>rw [e] at hask;cases hask
   | some cs =>
    rw [e] at hask
    dsimp only at hask
    rw [Bool.and_eq_true] at hask
    have h2:=hask.2
    unfold BallNeutral.asked at h2
    rw [Bool.and_eq_true,List.all_eq_true] at h2
    exact ⟨cs,rfl,fun c hc=>h2.2 _ (List.mem_map.mpr ⟨c,hc,rfl⟩),rfl⟩
  refine ⟨fun m σ H'=>∃ k st gs cs u,σ = [some (.ref a),some (.ref g),some (.ref t),some (.ref gv),u]/\m = ns.length - k/\Oy T H' g gdx gv t tdx a oi ns k st gs cs,⟨ns.length,0,none,[],cs,_,rfl,rfl,⟨Nat.zero_le _,⟨g3,ngv⟩,⟨s3 _ _ t2,hin.to fun e=>s3 _ _ (s2 _ _ (s1 _ _ e))⟩,af,⟨_,hcs⟩,hall,hans,Nat.zero_le _⟩⟩,?_⟩
  rintro m σ H3 ⟨k,st,gs,cs,u,rfl,rfl,pl⟩
  refine ⟨_,rfl,_,_,_,rfl,pl.KS.obj,DR,t,tdx,a,oi,ns,k,rfl,pl.KS,_,rfl,?_⟩
  have hle:=pl.le
  by_cases zk:k < ns.length
  ·rw [decide_eq_true zk]
   obtain ⟨f,hf⟩:=pl.SW
   obtain ⟨p,r,hpr⟩:∃ p r,ns.drop k = p :: r:=by
    cases e:ns.drop k with
    | nil=>rw [List.drop_eq_nil_iff] at e;omega
    | cons p r=>exact ⟨p,r,rfl⟩
   rw [hpr] at hf
   obtain ⟨f',c,rest,cs',hc,hf',rfl⟩:=IJ hf
   rw [←hpr] at hc
   obtain ⟨pre,epre,npre⟩:=hc.split
   have lpre:0 < pre.length:=List.length_pos_iff.mpr npre
   have elen:ns.length - k = pre.length + rest.length:=by
    have:=congrArg List.length epre
    rwa [List.length_drop,List.length_append] at this
   have edrop:ns.drop (ns.length - rest.length) = rest:=by
    have:ns.drop (k + pre.length) = rest:=by rw [←List.drop_drop,epre,List.drop_left]
    rwa [show k + pre.length = ns.length - rest.length by omega] at this
   refine aQ ⟨fun σ' H'=>∃ k' st' gs' cs'' u',σ' = [some (.ref a),some (.ref g),some (.ref t),some (.ref gv),u']/\k < k'/\Oy T H' g gdx gv t tdx a oi ns k' st' gs' cs'',?_,?_⟩
   ·rintro σ' H' ⟨k',st',gs',cs'',u',rfl,hk',pl'⟩
    exact ⟨ns.length - k',by have:=pl'.le;omega,k',st',gs',cs'',u',rfl,rfl,pl'⟩
   have ask1:=pl.ask c (List.mem_cons_self ..)
   rw [hc.whole] at ask1
   refine ⟨gv,.lst (mq gs),pl.given,trivial,fun od=>⟨_,rfl,_,rfl,?_⟩⟩
   have tn:t ≠ gv:=aU pl.KS.obj pl.given lP bf
   have hTf:hX T (upd H3 gv (.ra od (.lst (mq gs)))) t tdx a oi ns k:=⟨by rw [ai tn];exact pl.KS.obj,pl.KS.Mz.to fun e=>by rw [ai (nV e pl.given (by intro z;cases z))];exact e⟩
   refine ⟨g,gdx,gv,od,_,st,t,tdx,a,oi,ns,k,c,rest,rfl,pl.Sr.So pl.given (by rw [bf];decide),af,hTf,hc,ask1,hz,fun H4 l hl el hG4 hT4 hv4 hfew=>⟨hv4,?_⟩⟩
   have nl:l ≠ gv:=fun e=>by rw [e,af] at hl;cases hl
   have hG5:=hG4.So (o':=.lst (mq gs)) hv4 (by show ¬ (3 = 812);decide)
   have tn4:t ≠ gv:=tn
   have hT5:hX T (upd H4 gv (.lst (mq gs))) t tdx a oi ns (ns.length - rest.length):=⟨by rw [ai tn];exact hT4.obj,by
    rcases pl.KS.Mz with e3 | e3
    ·exact hT4.Mz.to fun e=>by rw [ai (nV e3 pl.given (by intro z;cases z))];exact e
    ·exact .inr e3⟩
   generalize hans2:BallNeutral.step st c = sc at hG4 hG5 hfew el
   obtain ⟨st',ans⟩:=sc
   dsimp only at hG4 hG5 hfew el
   have el5:upd H4 gv (.lst (mq gs)) l = some (.lst (mq ans)):=by rw [ai nl];exact el
   have hgl:=pl.Rz
   have hdl:(ns.drop k).length = ns.length - k:=List.length_drop
   rw [hdl] at hfew
   refine ⟨_,rfl,.inl ⟨rfl,_,dj.of af⟩,_,rfl,_,_,rfl,.inl ⟨_,dj.of el5,rfl⟩,gv,_,_,rfl,rfl,af,?_,?_⟩
   ·rw [qf];exact Nat.lt_of_le_of_lt (by omega:gs.length<=1600000) (by decide)
   rw [aW,qf]
   refine ⟨_,rfl,.inl ⟨rfl,_,dj.of af⟩,_,rfl,gv,l,_,_,rfl,rfl,af,(by rw [ai nl];exact el),?_,?_⟩
   ·rw [List.length_append,qf,qf];show gs.length + 1 + ans.length<=sizeLine;exact Nat.le_trans (by omega:gs.length + 1 + ans.length<=3200000) (by decide)
   rw [aW]
   refine ⟨ns.length - rest.length,st',gs ++ ((ans.length:Int) :: ans),cs',_,rfl,by omega,⟨by omega,hG4.So hv4 (by show ¬ (3 = 812);decide),⟨by rw [ai tn];exact hT4.obj,?_⟩,?_,⟨f',by rw [edrop];exact hf'⟩,fun c' hc'=>pl.ask c' (List.mem_cons_of_mem _ hc'),?_,?_⟩⟩
   ·refine hT5.Mz.to fun e=>?_
    by_cases z:a = gv
    ·rw [z,af] at e;cases e
    ·rw [ai z] at e ⊢;exact e
   ·rw [af]
    unfold mq
    rw [List.map_append,List.append_assoc]
    rfl
   ·rw [pl.eq,List.map_cons,hc.whole]
    show gs ++ PyFlat.told ((BallNeutral.step st c).2 :: PyFlat.played BallNeutral.step (BallNeutral.step st c).1 (cs'.map PyWqaqcf.whole)) = _
    rw [hans2,KR,List.append_assoc]
   ·rw [List.length_append,List.length_cons]
    omega
  ·rw [decide_eq_false zk]
   have hk:k = ns.length:=by omega
   subst hk
   obtain ⟨f,hf⟩:=pl.SW
   rw [List.drop_length] at hf
   have ecs:cs = []:=by
    cases f with
    | zero=>exact (Option.some.inj hf).symm
    | succ f=>exact (Option.some.inj hf).symm
   have eq:=pl.eq
   rw [ecs] at eq
   have eq:PyWqaqcf.answers ns = gs ++ []:=eq
   rw [List.append_nil] at eq
   exact aM ⟨_,rfl,q _ gv (by rw [eq];exact pl.given)⟩
end Pb
namespace Pb
open PySem PySem.Spec PyProof.Rows L2
theorem Nt {K:PySem.W.Frag} {N:Addr} {c:Value} {d:Option Addr} {es:Array DictEntry} {n:Nat} {sl:Array (Option Value)} (l:K.lookup N = some ⟨c,d,.dict es n,sl⟩) (e:(es.toList.all fun e=>match e.key with | .str _ _=>true | _=>false) = true):PySem.W.nsOkIn K N = true:=by
 unfold PySem.W.nsOkIn
 rw [l]
 exact Array.all_toList.symm.trans e
theorem Ro {K:PySem.W.Frag} {h:Heap} {N:Addr} {x:Str} {v:Value} (X:K.In h) (e:PySem.W.nsOkIn K N = true) (q:PySem.W.nsIn K N x = some (some v)):∃ m,h.Ns N m/\m x = some v:=by
 have G:=Heap.Ns.of_isNs (PySem.W.isNs_of_in X e)
 refine ⟨_,G,?_⟩
 generalize h.nsMap N = m at G
 obtain ⟨o,es,ep,ho,hd,_,hf⟩:=G
 unfold PySem.W.nsIn at q
 split at q
 ·rename_i l
  have z:=X _ _ l
  rw [ho] at z
  cases z
  cases hd
  split at q
  ·rename_i y
   cases q
   rw [←hf]
   unfold nsFind findBy
   rw [←Array.find?_toList,y]
   rfl
  ·split at q <;> cases q
 ·cases q
set_option genInjectivity false in
set_option genSizeOf false in
structure Facts (K:PySem.W.Frag):Prop where
 Bl:PySem.W.findIn K (.ref 45) "__init__" = some (some (.ref 28))
 Bm:PySem.W.isFn K (.ref 28) = true
 dY:∃ fd,br K "__init__" "Log.__init__" ny 28 fd
 xW:PySem.W.findIn K (.ref 45) "tell_event" = some (some (.ref 35))
 xX:PySem.W.isFn K (.ref 35) = true
 b6:∃ fd,br K "tell_event" "Log.tell_event" kH 35 fd
 xY:PySem.W.findIn K (.ref 45) "tell_pulse" = some (some (.ref 42))
 xZ:PySem.W.isFn K (.ref 42) = true
 b7:∃ fd,br K "tell_pulse" "Log.tell_pulse" kI 42 fd
 wD:PySem.W.findIn K (.ref 66) "__init__" = some (some (.ref 63))
 wF:PySem.W.isFn K (.ref 63) = true
 cg:∃ fd,br K "__init__" "Device.__init__" jW 63 fd
 B5:PySem.W.nsIn K mainGlobals "balls_shown" = some (some (.ref 75))
 cH:∃ fd,br K "balls_shown" "balls_shown" i5 75 fd
 KU:PySem.W.nsIn K mainGlobals "at_rest" = some (some (.ref 82))
 ik:∃ fd,br K "at_rest" "at_rest" wY 82 fd
 B6:PySem.W.nsIn K mainGlobals "tick_device" = some (some (.ref 89))
 dy:∃ fd,br K "tick_device" "tick_device" oZ 89 fd
 PV:PySem.W.nsIn K mainGlobals "look" = some (some (.ref 96))
 sA:∃ fd,br K "look" "look" HV 96 fd
 KW:PySem.W.nsIn K mainGlobals "recount" = some (some (.ref 103))
 jI:∃ fd,br K "recount" "recount" wZ 103 fd
 Ml:PySem.W.nsIn K mainGlobals "settle" = some (some (.ref 110))
 j6:∃ fd,br K "settle" "settle" Aw 110 fd
 IM:PySem.W.nsIn K mainGlobals "pass_try" = some (some (.ref 117))
 gR:∃ fd,br K "pass_try" "pass_try" uL 117 fd
 KY:PySem.W.nsIn K mainGlobals "can_try" = some (some (.ref 124))
 jK:∃ fd,br K "can_try" "can_try" w9 124 fd
 GX:PySem.W.nsIn K mainGlobals "begin_try" = some (some (.ref 131))
 fB:∃ fd,br K "begin_try" "begin_try" rQ 131 fd
 yZ:PySem.W.findIn K (.ref 146) "__init__" = some (some (.ref 143))
 y0:PySem.W.isFn K (.ref 143) = true
 c5:∃ fd,br K "__init__" "Play.__init__" f9 143 fd
 KZ:PySem.W.nsIn K mainGlobals "bits_at" = some (some (.ref 155))
 ip:∃ fd,br K "bits_at" "bits_at" pU 155 fd
 EI:PySem.W.nsIn K mainGlobals "balls_held" = some (some (.ref 160))
 dq:∃ fd,br K "balls_held" "balls_held" jX 160 fd
 ya:PySem.W.nsIn K mainGlobals "balls_at_large" = some (some (.ref 167))
 bz:∃ fd,br K "balls_at_large" "balls_at_large" kJ 167 fd
 y3:PySem.W.nsIn K mainGlobals "balls_missing" = some (some (.ref 174))
 cy:∃ fd,br K "balls_missing" "balls_missing" lY 174 fd
 GY:PySem.W.nsIn K mainGlobals "tick_play" = some (some (.ref 181))
 fC:∃ fd,br K "tick_play" "tick_play" rR 181 fd
 B7:PySem.W.nsIn K mainGlobals "is_stirring" = some (some (.ref 186))
 dz:∃ fd,br K "is_stirring" "is_stirring" i6 186 fd
 GZ:PySem.W.nsIn K mainGlobals "search_on" = some (some (.ref 193))
 fD:∃ fd,br K "search_on" "search_on" rS 193 fd
 K0:PySem.W.findIn K (.ref 210) "__init__" = some (some (.ref 207))
 K1:PySem.W.isFn K (.ref 207) = true
 cC:∃ fd,br K "__init__" "Fault.__init__" kK 207 fd
 y4:PySem.W.findIn K (.ref 230) "__init__" = some (some (.ref 227))
 y6:PySem.W.isFn K (.ref 227) = true
 c6:∃ fd,br K "__init__" "Word.__init__" lZ 227 fd
 y8:PySem.W.findIn K (.ref 279) "__init__" = some (some (.ref 248))
 y9:PySem.W.isFn K (.ref 248) = true
 c7:∃ fd,br K "__init__" "Line.__init__" l7 248 fd
 G0:PySem.W.findIn K (.ref 279) "more" = some (some (.ref 255))
 G1:PySem.W.isFn K (.ref 255) = true
 fE:∃ fd,br K "more" "Line.more" rT 255 fd
 G2:PySem.W.findIn K (.ref 279) "take" = some (some (.ref 262))
 G3:PySem.W.isFn K (.ref 262) = true
 fF:∃ fd,br K "take" "Line.take" rV 262 fd
 wG:PySem.W.findIn K (.ref 279) "last_place" = some (some (.ref 269))
 wH:PySem.W.isFn K (.ref 269) = true
 bS:∃ fd,br K "last_place" "Line.last_place" jY 269 fd
 EJ:PySem.W.findIn K (.ref 279) "comes" = some (some (.ref 276))
 EK:PySem.W.isFn K (.ref 276) = true
 eK:∃ fd,br K "comes" "Line.comes" qt 276 fd
 G4:PySem.W.nsIn K mainGlobals "next_line" = some (some (.ref 290))
 fG:∃ fd,br K "next_line" "next_line" rW 290 fd
 IP:PySem.W.nsIn K mainGlobals "line_end" = some (some (.ref 297))
 gU:∃ fd,br K "line_end" "line_end" uM 297 fd
 B8:PySem.W.nsIn K mainGlobals "check_bytes" = some (some (.ref 304))
 dA:∃ fd,br K "check_bytes" "check_bytes" o5 304 fd
 IQ:PySem.W.nsIn K mainGlobals "is_stray" = some (some (.ref 311))
 gW:∃ fd,br K "is_stray" "is_stray" uN 311 fd
 za:PySem.W.nsIn K mainGlobals "words_between" = some (some (.ref 318))
 cz:∃ fd,br K "words_between" "words_between" l8 318 fd
 K2:PySem.W.nsIn K mainGlobals "spelled" = some (some (.ref 323))
 jN:∃ fd,br K "spelled" "spelled" pV 323 fd
 K3:PySem.W.nsIn K mainGlobals "sign_of" = some (some (.ref 330))
 jO:∃ fd,br K "sign_of" "sign_of" xa 330 fd
 K4:PySem.W.nsIn K mainGlobals "is_name" = some (some (.ref 337))
 jP:∃ fd,br K "is_name" "is_name" xb 337 fd
 EL:PySem.W.nsIn K mainGlobals "take_fixed" = some (some (.ref 344))
 aT:∃ fd,br K "take_fixed" "take_fixed" qu 344 fd
 G5:PySem.W.nsIn K mainGlobals "take_name" = some (some (.ref 351))
 dB:∃ fd,br K "take_name" "take_name" rX 351 fd
 B9:PySem.W.nsIn K mainGlobals "take_number" = some (some (.ref 358))
 bb:∃ fd,br K "take_number" "take_number" o6 358 fd
 G6:PySem.W.nsIn K mainGlobals "number_of" = some (some (.ref 365))
 fH:∃ fd,br K "number_of" "number_of" rY 365 fd
 IS:PySem.W.nsIn K mainGlobals "end_line" = some (some (.ref 372))
 gX:∃ fd,br K "end_line" "end_line" uO 372 fd
 zb:PySem.W.findIn K (.ref 390) "__init__" = some (some (.ref 387))
 zf:PySem.W.isFn K (.ref 387) = true
 c8:∃ fd,br K "__init__" "Roll.__init__" l9 387 fd
 zg:PySem.W.findIn K (.ref 411) "__init__" = some (some (.ref 408))
 zh:PySem.W.isFn K (.ref 408) = true
 c9:∃ fd,br K "__init__" "Plan.__init__" ma 408 fd
 yb:PySem.W.findIn K (.ref 432) "__init__" = some (some (.ref 429))
 yc:PySem.W.isFn K (.ref 429) = true
 cE:∃ fd,br K "__init__" "Table.__init__" kM 429 fd
 zi:PySem.W.nsIn K mainGlobals "take_new_name" = some (some (.ref 443))
 bY:∃ fd,br K "take_new_name" "take_new_name" md 443 fd
 EM:PySem.W.nsIn K mainGlobals "take_known" = some (some (.ref 450))
 cj:∃ fd,br K "take_known" "take_known" qv 450 fd
 EN:PySem.W.nsIn K mainGlobals "take_entry" = some (some (.ref 457))
 cK:∃ fd,br K "take_entry" "take_entry" qw 457 fd
 yd:PySem.W.nsIn K mainGlobals "take_free_coil" = some (some (.ref 464))
 bM:∃ fd,br K "take_free_coil" "take_free_coil" kN 464 fd
 ye:PySem.W.nsIn K mainGlobals "take_free_spot" = some (some (.ref 471))
 bN:∃ fd,br K "take_free_spot" "take_free_spot" kO 471 fd
 vi:PySem.W.nsIn K mainGlobals "take_kick_switch" = some (some (.ref 478))
 bH:∃ fd,br K "take_kick_switch" "take_kick_switch" jB 478 fd
 G7:PySem.W.nsIn K mainGlobals "read_head" = some (some (.ref 485))
 fJ:∃ fd,br K "read_head" "read_head" rZ 485 fd
 Ca:PySem.W.nsIn K mainGlobals "read_switch" = some (some (.ref 492))
 dC:∃ fd,br K "read_switch" "read_switch" o7 492 fd
 G8:PySem.W.nsIn K mainGlobals "read_lamp" = some (some (.ref 499))
 fK:∃ fd,br K "read_lamp" "read_lamp" r9 499 fd
 G9:PySem.W.nsIn K mainGlobals "read_coil" = some (some (.ref 506))
 fL:∃ fd,br K "read_coil" "read_coil" sd 506 fd
 Cb:PySem.W.nsIn K mainGlobals "read_device" = some (some (.ref 513))
 dD:∃ fd,br K "read_device" "read_device" o8 513 fd
 Ha:PySem.W.nsIn K mainGlobals "read_kick" = some (some (.ref 520))
 fM:∃ fd,br K "read_kick" "read_kick" se 520 fd
 IT:PySem.W.nsIn K mainGlobals "can_come" = some (some (.ref 528))
 g7:∃ fd,br K "can_come" "can_come" uP 528 fd
 Hb:PySem.W.nsIn K mainGlobals "take_rank" = some (some (.ref 535))
 fN:∃ fd,br K "take_rank" "take_rank" sg 535 fd
 Hc:PySem.W.nsIn K mainGlobals "read_line" = some (some (.ref 542))
 fO:∃ fd,br K "read_line" "read_line" si 542 fd
 EO:PySem.W.nsIn K mainGlobals "read_table" = some (some (.ref 549))
 eL:∃ fd,br K "read_table" "read_table" qx 549 fd
 zj:PySem.W.findIn K (.ref 601) "__init__" = some (some (.ref 563))
 zl:PySem.W.isFn K (.ref 563) = true
 dc:∃ fd,br K "__init__" "Game.__init__" me 563 fd
 ER:PySem.W.findIn K (.ref 601) "begin" = some (some (.ref 570))
 ES:PySem.W.isFn K (.ref 570) = true
 eM:∃ fd,br K "begin" "Game.begin" qy 570 fd
 yf:PySem.W.findIn K (.ref 601) "run_ticks" = some (some (.ref 577))
 yg:PySem.W.isFn K (.ref 577) = true
 b8:∃ fd,br K "run_ticks" "Game.run_ticks" kP 577 fd
 wI:PySem.W.findIn K (.ref 601) "tell_large" = some (some (.ref 584))
 wJ:PySem.W.isFn K (.ref 584) = true
 bT:∃ fd,br K "tell_large" "Game.tell_large" jZ 584 fd
 vj:PySem.W.findIn K (.ref 601) "tell_device" = some (some (.ref 591))
 vk:PySem.W.isFn K (.ref 591) = true
 bI:∃ fd,br K "tell_device" "Game.tell_device" jC 591 fd
 vm:PySem.W.findIn K (.ref 601) "tell_search" = some (some (.ref 598))
 vn:PySem.W.isFn K (.ref 598) = true
 bJ:∃ fd,br K "tell_search" "Game.tell_search" jD 598 fd
 Hd:PySem.W.nsIn K mainGlobals "are_known" = some (some (.ref 612))
 eN:∃ fd,br K "are_known" "are_known" sj 612 fd
 PX:PySem.W.nsIn K mainGlobals "told" = some (some (.ref 619))
 sD:∃ fd,br K "told" "told" HW 619 fd
 zo:PySem.W.findIn K (.ref 657) "__init__" = some (some (.ref 633))
 zp:PySem.W.isFn K (.ref 633) = true
 df:∃ fd,br K "__init__" "Tape.__init__" mf 633 fd
 He:PySem.W.findIn K (.ref 657) "more" = some (some (.ref 640))
 Hf:PySem.W.isFn K (.ref 640) = true
 fP:∃ fd,br K "more" "Tape.more" sk 640 fd
 Hg:PySem.W.findIn K (.ref 657) "take" = some (some (.ref 647))
 Hh:PySem.W.isFn K (.ref 647) = true
 fQ:∃ fd,br K "take" "Tape.take" so 647 fd
 zq:PySem.W.findIn K (.ref 657) "take_row" = some (some (.ref 654))
 zt:PySem.W.isFn K (.ref 654) = true
 cA:∃ fd,br K "take_row" "Tape.take_row" mh 654 fd
 C6:PySem.W.nsIn K mainGlobals "answers" = some (some (.ref 668))
 lp:∃ fd,br K "answers" "answers" xf 668 fd
 Cc:PySem.W.nsIn K mainGlobals "answer_call" = some (some (.ref 675))
 dE:∃ fd,br K "answer_call" "answer_call" o9 675 fd
 Rp:PySem.W.nsIn K mainGlobals "Log" = some (some (.ref 45))
 PY:PySem.W.plainGet K 45 Str.empty = true
 PZ:PySem.W.hasDictIn K 45 = true
 P0:PySem.W.plainOver K 45 = true
 P1:PySem.W.findIn K (.ref 45) "__setattr__" = some (some (.builtin "object.__setattr__"))
 DU:PySem.W.makesIn K 45 = true
 P2:PySem.W.keepIn K (.ref 45) = true
 IU:PySem.W.findIn K (.ref 45) "tick" = some none
 ET:PySem.W.findIn K (.ref 45) "events" = some none
 EU:PySem.W.findIn K (.ref 45) "pulses" = some none
 Mm:PySem.W.nsIn K mainGlobals "Device" = some (some (.ref 66))
 K5:PySem.W.plainGet K 66 Str.empty = true
 K6:PySem.W.hasDictIn K 66 = true
 K7:PySem.W.plainOver K 66 = true
 K8:PySem.W.findIn K (.ref 66) "__setattr__" = some (some (.builtin "object.__setattr__"))
 tL:PySem.W.makesIn K 66 = true
 K9:PySem.W.keepIn K (.ref 66) = true
 zu:PySem.W.findIn K (.ref 66) "number" = some none
 Cd:PySem.W.findIn K (.ref 66) "plan" = some none
 Bn:PySem.W.findIn K (.ref 66) "shown" = some none
 zv:PySem.W.findIn K (.ref 66) "steady" = some none
 Bo:PySem.W.findIn K (.ref 66) "count" = some none
 EV:PySem.W.findIn K (.ref 66) "due" = some none
 Bp:PySem.W.findIn K (.ref 66) "tried" = some none
 Ce:PySem.W.findIn K (.ref 66) "left" = some none
 P4:PySem.W.nsIn K mainGlobals "Play" = some (some (.ref 146))
 Nu:PySem.W.plainGet K 146 Str.empty = true
 Nv:PySem.W.hasDictIn K 146 = true
 Nw:PySem.W.plainOver K 146 = true
 Ny:PySem.W.findIn K (.ref 146) "__setattr__" = some (some (.builtin "object.__setattr__"))
 zI:PySem.W.makesIn K 146 = true
 Nz:PySem.W.keepIn K (.ref 146) = true
 EW:PySem.W.findIn K (.ref 146) "balls" = some none
 Bq:PySem.W.findIn K (.ref 146) "devices" = some none
 uf:PySem.W.findIn K (.ref 146) "known_places" = some none
 wK:PySem.W.findIn K (.ref 146) "known_asks" = some none
 Hi:PySem.W.findIn K (.ref 146) "mask" = some none
 EX:PySem.W.findIn K (.ref 146) "quiet" = some none
 Cf:PySem.W.findIn K (.ref 146) "rounds" = some none
 EY:PySem.W.findIn K (.ref 146) "ticks" = some none
 NA:PySem.W.nsIn K mainGlobals "Fault" = some (some (.ref 210))
 Rq:∃ nm q bs sn sub ab col dd k0 k1 k2 k3 k5,K.lookup 210 = some (excClassObj nm q 210 209 bs Xc.Ji true sn sub ab col dd k0 k1 k2 k3 k5 "Exception.__new__")
 Ss:PySem.W.findIn K (.ref 210) "__setattr__" = some (some (.builtin "object.__setattr__"))
 Su:PySem.W.findIn K (.ref 210) "__getattribute__" = some (some (.builtin "BaseException.__getattribute__"))
 Sv:PySem.W.findIn K (.ref 210) "__getattr__" = some none
 Sw:PySem.W.mroIn K 210 (.type "BaseException") = some true
 Sx:PySem.W.nsOkIn K 209 = true
 Sy:PySem.W.nsIn K 209 "__init__" = some (some (.ref 207))
 Sz:∃ od fd sl,K.lookup 207 = some ⟨.type "function",od,.func fd,sl⟩
 SA:PySem.W.keepIn K (.ref 210) = true
 EZ:PySem.W.findIn K (.ref 210) "kind" = some none
 Cg:PySem.W.findIn K (.ref 210) "place" = some none
 P5:PySem.W.nsIn K mainGlobals "Word" = some (some (.ref 230))
 NB:PySem.W.plainGet K 230 Str.empty = true
 NC:PySem.W.hasDictIn K 230 = true
 ND:PySem.W.plainOver K 230 = true
 NF:PySem.W.findIn K (.ref 230) "__setattr__" = some (some (.builtin "object.__setattr__"))
 zJ:PySem.W.makesIn K 230 = true
 NG:PySem.W.keepIn K (.ref 230) = true
 Br:PySem.W.findIn K (.ref 230) "letters" = some none
 E1:PySem.W.findIn K (.ref 230) "place" = some none
 P6:PySem.W.nsIn K mainGlobals "Line" = some (some (.ref 279))
 NH:PySem.W.plainGet K 279 Str.empty = true
 NI:PySem.W.hasDictIn K 279 = true
 NJ:PySem.W.plainOver K 279 = true
 NK:PySem.W.findIn K (.ref 279) "__setattr__" = some (some (.builtin "object.__setattr__"))
 zK:PySem.W.makesIn K 279 = true
 NL:PySem.W.keepIn K (.ref 279) = true
 E2:PySem.W.findIn K (.ref 279) "words" = some none
 Ci:PySem.W.findIn K (.ref 279) "finish" = some none
 E3:PySem.W.findIn K (.ref 279) "taken" = some none
 P7:PySem.W.nsIn K mainGlobals "Roll" = some (some (.ref 390))
 NM:PySem.W.plainGet K 390 Str.empty = true
 NN:PySem.W.hasDictIn K 390 = true
 NO:PySem.W.plainOver K 390 = true
 NP:PySem.W.findIn K (.ref 390) "__setattr__" = some (some (.builtin "object.__setattr__"))
 tM:PySem.W.makesIn K 390 = true
 NQ:PySem.W.keepIn K (.ref 390) = true
 Cj:PySem.W.findIn K (.ref 390) "places" = some none
 Bs:PySem.W.findIn K (.ref 390) "highest" = some none
 Hj:PySem.W.findIn K (.ref 390) "most" = some none
 Ck:PySem.W.findIn K (.ref 390) "barred" = some none
 P8:PySem.W.nsIn K mainGlobals "Plan" = some (some (.ref 411))
 NR:PySem.W.plainGet K 411 Str.empty = true
 NS:PySem.W.hasDictIn K 411 = true
 NT:PySem.W.plainOver K 411 = true
 NU:PySem.W.findIn K (.ref 411) "__setattr__" = some (some (.builtin "object.__setattr__"))
 zL:PySem.W.makesIn K 411 = true
 NV:PySem.W.keepIn K (.ref 411) = true
 Hl:PySem.W.findIn K (.ref 411) "coil" = some none
 E4:PySem.W.findIn K (.ref 411) "pulse" = some none
 E5:PySem.W.findIn K (.ref 411) "spots" = some none
 NW:PySem.W.nsIn K mainGlobals "Table" = some (some (.ref 432))
 Mn:PySem.W.plainGet K 432 Str.empty = true
 Mo:PySem.W.hasDictIn K 432 = true
 Mp:PySem.W.plainOver K 432 = true
 Mq:PySem.W.findIn K (.ref 432) "__setattr__" = some (some (.builtin "object.__setattr__"))
 v5:PySem.W.makesIn K 432 = true
 Mr:PySem.W.keepIn K (.ref 432) = true
 E6:PySem.W.findIn K (.ref 432) "rank" = some none
 Cm:PySem.W.findIn K (.ref 432) "balls" = some none
 yh:PySem.W.findIn K (.ref 432) "switches" = some none
 Cn:PySem.W.findIn K (.ref 432) "lamps" = some none
 Co:PySem.W.findIn K (.ref 432) "coils" = some none
 Cp:PySem.W.findIn K (.ref 432) "mosts" = some none
 sP:PySem.W.findIn K (.ref 432) "device_names" = some none
 Cq:PySem.W.findIn K (.ref 432) "plans" = some none
 E7:PySem.W.findIn K (.ref 432) "held" = some none
 vo:PySem.W.findIn K (.ref 432) "busy_coils" = some none
 zw:PySem.W.findIn K (.ref 432) "drained" = some none
 Cr:PySem.W.findIn K (.ref 432) "kicks" = some none
 sQ:PySem.W.findIn K (.ref 432) "highest_kick" = some none
 P9:PySem.W.nsIn K mainGlobals "Game" = some (some (.ref 601))
 NX:PySem.W.plainGet K 601 Str.empty = true
 NY:PySem.W.hasDictIn K 601 = true
 NZ:PySem.W.plainOver K 601 = true
 N0:PySem.W.findIn K (.ref 601) "__setattr__" = some (some (.builtin "object.__setattr__"))
 zM:PySem.W.makesIn K 601 = true
 N1:PySem.W.keepIn K (.ref 601) = true
 Hm:PySem.W.findIn K (.ref 601) "play" = some none
 Qa:PySem.W.nsIn K mainGlobals "Tape" = some (some (.ref 657))
 N2:PySem.W.plainGet K 657 Str.empty = true
 N3:PySem.W.hasDictIn K 657 = true
 N4:PySem.W.plainOver K 657 = true
 N5:PySem.W.findIn K (.ref 657) "__setattr__" = some (some (.builtin "object.__setattr__"))
 zN:PySem.W.makesIn K 657 = true
 N6:PySem.W.keepIn K (.ref 657) = true
 Bt:PySem.W.findIn K (.ref 657) "numbers" = some none
 E8:PySem.W.findIn K (.ref 657) "taken" = some none
 iS:∃ t,PySem.W.nsIn K mainGlobals "REST_TICKS" = some (some (.int (128) t))
 qO:∃ t,PySem.W.nsIn K mainGlobals "MOST_DUE" = some (some (.int (255) t))
 mT:∃ t,PySem.W.nsIn K mainGlobals "MOST_TRIES" = some (some (.int (3) t))
 oK:∃ t,PySem.W.nsIn K mainGlobals "TRY_TICKS" = some (some (.int (2000) t))
 DW:∃ t,PySem.W.nsIn K mainGlobals "CAME" = some (some (.int (144) t))
 DX:∃ t,PySem.W.nsIn K mainGlobals "WENT" = some (some (.int (152) t))
 zO:∃ t,PySem.W.nsIn K mainGlobals "STUCK" = some (some (.int (160) t))
 lK:∃ t,PySem.W.nsIn K mainGlobals "QUIET_TICKS" = some (some (.int (15000) t))
 g9:∃ t,PySem.W.nsIn K mainGlobals "SEARCH_TICKS" = some (some (.int (300) t))
 jc:∃ t,PySem.W.nsIn K mainGlobals "MOST_ROUNDS" = some (some (.int (3) t))
 tN:∃ t,PySem.W.nsIn K mainGlobals "NEWLINE" = some (some (.int (10) t))
 qP:∃ t,PySem.W.nsIn K mainGlobals "BLANK" = some (some (.int (32) t))
 oM:∃ t,PySem.W.nsIn K mainGlobals "LAST_SIGN" = some (some (.int (126) t))
 p6:∃ t,PySem.W.nsIn K mainGlobals "SMALL_A" = some (some (.int (97) t))
 tO:∃ t,PySem.W.nsIn K mainGlobals "SMALL_Z" = some (some (.int (122) t))
 AL:∃ t,PySem.W.nsIn K mainGlobals "ZERO" = some (some (.int (48) t))
 DY:∃ t,PySem.W.nsIn K mainGlobals "NINE" = some (some (.int (57) t))
 oN:∃ t,PySem.W.nsIn K mainGlobals "UNDERLINE" = some (some (.int (95) t))
 p8:∃ t,PySem.W.nsIn K mainGlobals "LETTERS" = some (some (.str "abcdefghijklmnopqrstuvwxyz" t))
 v7:∃ t,PySem.W.nsIn K mainGlobals "DIGITS" = some (some (.str "0123456789" t))
 v8:∃ t,PySem.W.nsIn K mainGlobals "OTHER" = some (some (.str "?" t))
 kj:∃ t,PySem.W.nsIn K mainGlobals "LONGEST_NAME" = some (some (.int (12) t))
 iT:∃ t,PySem.W.nsIn K mainGlobals "LONGEST_NUMBER" = some (some (.int (4) t))
 mU:∃ t,PySem.W.nsIn K mainGlobals "MOST_BALLS" = some (some (.int (8) t))
 kl:∃ t,PySem.W.nsIn K mainGlobals "MOST_DEVICES" = some (some (.int (8) t))
 oO:∃ t,PySem.W.nsIn K mainGlobals "MOST_HELD" = some (some (.int (8) t))
 mV:∃ t,PySem.W.nsIn K mainGlobals "MOST_KICKS" = some (some (.int (8) t))
 jv:∃ t,PySem.W.nsIn K mainGlobals "LONGEST_PULSE" = some (some (.int (40) t))
 hJ:∃ t,PySem.W.nsIn K mainGlobals "NOTHING_READ" = some (some (.int (-1) t))
 AM:∃ t,PySem.W.nsIn K mainGlobals "HEAD" = some (some (.int (0) t))
 jw:∃ t,PySem.W.nsIn K mainGlobals "DEVICE_tables" = some (some (.int (4) t))
 DZ:∃ t,PySem.W.nsIn K mainGlobals "KICK" = some (some (.int (5) t))
 km:∃ t,PySem.W.nsIn K mainGlobals "LONGEST_TEXT" = some (some (.int (16384) t))
 mW:∃ t,PySem.W.nsIn K mainGlobals "MOST_TICKS" = some (some (.int (4096) t))
 sI:∃ t,PySem.W.nsIn K mainGlobals "DONE" = some (some (.int (0) t))
 gb:∃ t,PySem.W.nsIn K mainGlobals "UNKNOWN_PLACE" = some (some (.int (-1) t))
 nR:∃ t,PySem.W.nsIn K mainGlobals "TOO_LONG" = some (some (.int (-2) t))
 oP:∃ t,PySem.W.nsIn K mainGlobals "NO_DEVICE" = some (some (.int (-4) t))
 v9:∃ t,PySem.W.nsIn K mainGlobals "FAULTY" = some (some (.int (-6) t))
 hU:∃ t,PySem.W.nsIn K mainGlobals "NOT_BEGUN" = some (some (.int (-10) t))
 zP:∃ t,PySem.W.nsIn K mainGlobals "BEGIN" = some (some (.int (1) t))
 zQ:∃ t,PySem.W.nsIn K mainGlobals "TICKS" = some (some (.int (2) t))
 zR:∃ t,PySem.W.nsIn K mainGlobals "LARGE" = some (some (.int (3) t))
 ko:∃ t,PySem.W.nsIn K mainGlobals "DEVICE_balls" = some (some (.int (4) t))
 zS:PySem.W.nsIn K mainGlobals "SORTS" = some (some (.ref 373))
 qQ:∃ (o:Obj) (its:Array Value) (n:Nat),K.lookup 373 = some o/\o.cls = .type "tuple"/\o.data = .seq its n/\its.size<=sizeLine/\Vals [V.str "table",V.str "switch",V.str "lamp",V.str "coil",V.str "device",V.str "kick"] its.toList
 tP:PySem.W.nsIn K mainGlobals "READERS" = some (some (.ref 521))
 tQ:∃ (o:Obj) (its:Array Value) (n:Nat),K.lookup 521 = some o/\o.cls = .type "tuple"/\o.data = .seq its n/\its.size<=sizeLine/\Vals [V.ref 485,V.ref 492,V.ref 499,V.ref 506,V.ref 513,V.ref 520] its.toList
 Jw:PySem.W.nsIn K mainGlobals "any" = some none
 jS:PySem.W.nsIn K mainGlobals "enumerate" = some none
 Jx:PySem.W.nsIn K mainGlobals "int" = some none
 gK:PySem.W.nsIn K mainGlobals "len" = some none
 AN:PySem.W.nsIn K mainGlobals "list" = some none
 Jy:PySem.W.nsIn K mainGlobals "max" = some none
 AO:PySem.W.nsIn K mainGlobals "min" = some none
 lL:PySem.W.nsIn K mainGlobals "range" = some none
 CW:PySem.W.nsIn K mainGlobals "sum" = some none
theorem all_mk {P:Program} {w:World} {K:PySem.W.Frag} {h:Heap} {mg:Str->Option Value} {fa:Addr} (X:K.In h) (G:h.Ns mainGlobals mg) (hfa:mg "answers" = some (.ref fa)) (f:Facts K) :
  ∃ fd:FuncData,(∀ (s:Shared) (us:List Value),us.length = (["calls"]:List Str).length->BindsTo s fd ⟨us,[]⟩ ((["calls"]:List Str).zip us))/\∀ base:Heap,K.In base->base.Ns mainGlobals mg->a8 P w K mg base kD 12 fa fd ["calls"] (Mj K):=by
 have e:=hfa.symm.trans (PySem.W.mg_of X G f.C6)
 cases e
 obtain ⟨eB,dY⟩:=f.dY
 obtain ⟨cT,b6⟩:=f.b6
 obtain ⟨cU,b7⟩:=f.b7
 obtain ⟨cB,cg⟩:=f.cg
 obtain ⟨fq,cH⟩:=f.cH
 obtain ⟨kS,ik⟩:=f.ik
 obtain ⟨ft,dy⟩:=f.dy
 obtain ⟨tw,sA⟩:=f.sA
 obtain ⟨kT,jI⟩:=f.jI
 obtain ⟨ni,j6⟩:=f.j6
 obtain ⟨jJ,gR⟩:=f.gR
 obtain ⟨kU,jK⟩:=f.jK
 obtain ⟨il,fB⟩:=f.fB
 obtain ⟨dH,c5⟩:=f.c5
 obtain ⟨kW,ip⟩:=f.ip
 obtain ⟨gk,dq⟩:=f.dq
 obtain ⟨cV,bz⟩:=f.bz
 obtain ⟨dI,cy⟩:=f.cy
 obtain ⟨iu,fC⟩:=f.fC
 obtain ⟨fu,dz⟩:=f.dz
 obtain ⟨iw,fD⟩:=f.fD
 obtain ⟨cW,cC⟩:=f.cC
 obtain ⟨dJ,c6⟩:=f.c6
 obtain ⟨dM,c7⟩:=f.c7
 obtain ⟨iz,fE⟩:=f.fE
 obtain ⟨iA,fF⟩:=f.fF
 obtain ⟨cD,bS⟩:=f.bS
 obtain ⟨gn,eK⟩:=f.eK
 obtain ⟨iB,fG⟩:=f.fG
 obtain ⟨jL,gU⟩:=f.gU
 obtain ⟨fv,dA⟩:=f.dA
 obtain ⟨jM,gW⟩:=f.gW
 obtain ⟨dN,cz⟩:=f.cz
 obtain ⟨kX,jN⟩:=f.jN
 obtain ⟨kY,jO⟩:=f.jO
 obtain ⟨kZ,jP⟩:=f.jP
 obtain ⟨gp,aT⟩:=f.aT
 obtain ⟨iC,dB⟩:=f.dB
 obtain ⟨fw,bb⟩:=f.bb
 obtain ⟨iD,fH⟩:=f.fH
 obtain ⟨jQ,gX⟩:=f.gX
 obtain ⟨dO,c8⟩:=f.c8
 obtain ⟨dP,c9⟩:=f.c9
 obtain ⟨cX,cE⟩:=f.cE
 obtain ⟨dQ,bY⟩:=f.bY
 obtain ⟨gq,cj⟩:=f.cj
 obtain ⟨gr,cK⟩:=f.cK
 obtain ⟨cY,bM⟩:=f.bM
 obtain ⟨cZ,bN⟩:=f.bN
 obtain ⟨cq,bH⟩:=f.bH
 obtain ⟨iH,fJ⟩:=f.fJ
 obtain ⟨fy,dC⟩:=f.dC
 obtain ⟨iI,fK⟩:=f.fK
 obtain ⟨iJ,fL⟩:=f.fL
 obtain ⟨fz,dD⟩:=f.dD
 obtain ⟨iK,fM⟩:=f.fM
 obtain ⟨jR,g7⟩:=f.g7
 obtain ⟨iL,fN⟩:=f.fN
 obtain ⟨iM,fO⟩:=f.fO
 obtain ⟨gu,eL⟩:=f.eL
 obtain ⟨dR,dc⟩:=f.dc
 obtain ⟨gw,eM⟩:=f.eM
 obtain ⟨c3,b8⟩:=f.b8
 obtain ⟨cF,bT⟩:=f.bT
 obtain ⟨cu,bI⟩:=f.bI
 obtain ⟨cw,bJ⟩:=f.bJ
 obtain ⟨iO,eN⟩:=f.eN
 obtain ⟨tJ,sD⟩:=f.sD
 obtain ⟨dU,df⟩:=f.df
 obtain ⟨iP,fP⟩:=f.fP
 obtain ⟨iQ,fQ⟩:=f.fQ
 obtain ⟨dW,cA⟩:=f.cA
 obtain ⟨ll,lp⟩:=f.lp
 obtain ⟨fA,dE⟩:=f.dE
 let T:Txt K mg:={
  jH:=45,
  aO:=66,
  bh:=146,
  ie:=210,
  nN:=230,
  iX:=279,
  gQ:=390,
  eZ:=411,
  aS:=432,
  fm:=601,
  gB:=657,
  F3:=209,
  zH:=373,
  xq:=521,
  j4:=28,
  eB:=eB,
  dY:=dY,
  ig:=35,
  cT:=cT,
  b6:=b6,
  gF:=⟨f.xW,f.xX,b6.kp⟩,
  ij:=42,
  cU:=cU,
  b7:=b7,
  j5:=⟨f.xY,f.xZ,b7.kp⟩,
  gG:=63,
  cB:=cB,
  cg:=cg,
  lB:=75,
  fq:=fq,
  cH:=cH,
  pw:=PySem.W.mg_of X G f.B5,
  tq:=82,
  kS:=kS,
  ik:=ik,
  xr:=PySem.W.mg_of X G f.KU,
  lD:=89,
  ft:=ft,
  dy:=dy,
  ur:=PySem.W.mg_of X G f.B6,
  DS:=96,
  tw:=tw,
  sA:=sA,
  LV:=PySem.W.mg_of X G f.PV,
  tD:=103,
  kT:=kT,
  jI:=jI,
  CQ:=PySem.W.mg_of X G f.KW,
  vX:=110,
  ni:=ni,
  j6:=j6,
  AF:=PySem.W.mg_of X G f.Ml,
  qD:=117,
  jJ:=jJ,
  gR:=gR,
  AG:=PySem.W.mg_of X G f.IM,
  tE:=124,
  kU:=kU,
  jK:=jK,
  CS:=PySem.W.mg_of X G f.KY,
  oj:=131,
  il:=il,
  fB:=fB,
  yp:=PySem.W.mg_of X G f.GX,
  ji:=143,
  dH:=dH,
  c5:=c5,
  tF:=155,
  kW:=kW,
  ip:=ip,
  xt:=PySem.W.mg_of X G f.KZ,
  mJ:=160,
  gk:=gk,
  dq:=dq,
  qE:=PySem.W.mg_of X G f.EI,
  iq:=167,
  cV:=cV,
  bz:=bz,
  ir:=PySem.W.mg_of X G f.ya,
  jj:=174,
  dI:=dI,
  cy:=cy,
  rh:=PySem.W.mg_of X G f.y3,
  om:=181,
  iu:=iu,
  fC:=fC,
  yq:=PySem.W.mg_of X G f.GY,
  lE:=186,
  fu:=fu,
  dz:=dz,
  uu:=PySem.W.mg_of X G f.B7,
  oo:=193,
  iw:=iw,
  fD:=fD,
  yr:=PySem.W.mg_of X G f.GZ,
  iy:=207,
  cW:=cW,
  cC:=cC,
  jk:=227,
  dJ:=dJ,
  c6:=c6,
  jl:=248,
  dM:=dM,
  c7:=c7,
  oq:=255,
  iz:=iz,
  fE:=fE,
  eJ:=⟨f.G0,f.G1,fE.kp⟩,
  ou:=262,
  iA:=iA,
  fF:=fF,
  j7:=⟨f.G2,f.G3,fF.kp⟩,
  gH:=269,
  cD:=cD,
  bS:=bS,
  bG:=⟨f.wG,f.wH,bS.kp⟩,
  mK:=276,
  gn:=gn,
  eK:=eK,
  uv:=⟨f.EJ,f.EK,eK.kp⟩,
  ow:=290,
  iB:=iB,
  fG:=fG,
  yt:=PySem.W.mg_of X G f.G4,
  qF:=297,
  jL:=jL,
  gU:=gU,
  AH:=PySem.W.mg_of X G f.IP,
  lF:=304,
  fv:=fv,
  dA:=dA,
  uw:=PySem.W.mg_of X G f.B8,
  qG:=311,
  jM:=jM,
  gW:=gW,
  AI:=PySem.W.mg_of X G f.IQ,
  jm:=318,
  dN:=dN,
  cz:=cz,
  rj:=PySem.W.mg_of X G f.za,
  tG:=323,
  kX:=kX,
  jN:=jN,
  CT:=PySem.W.mg_of X G f.K2,
  tH:=330,
  kY:=kY,
  jO:=jO,
  CU:=PySem.W.mg_of X G f.K3,
  tI:=337,
  kZ:=kZ,
  jP:=jP,
  CV:=PySem.W.mg_of X G f.K4,
  mL:=344,
  gp:=gp,
  aT:=aT,
  bD:=PySem.W.mg_of X G f.EL,
  oy:=351,
  iC:=iC,
  dB:=dB,
  oz:=PySem.W.mg_of X G f.G5,
  lG:=358,
  fw:=fw,
  bb:=bb,
  cJ:=PySem.W.mg_of X G f.B9,
  oA:=365,
  iD:=iD,
  fH:=fH,
  yu:=PySem.W.mg_of X G f.G6,
  qH:=372,
  jQ:=jQ,
  gX:=gX,
  AJ:=PySem.W.mg_of X G f.IS,
  jn:=387,
  dO:=dO,
  c8:=c8,
  jo:=408,
  dP:=dP,
  c9:=c9,
  iE:=429,
  cX:=cX,
  cE:=cE,
  jq:=443,
  dQ:=dQ,
  bY:=bY,
  mj:=PySem.W.mg_of X G f.zi,
  mM:=450,
  gq:=gq,
  cj:=cj,
  j8:=PySem.W.mg_of X G f.EM,
  mO:=457,
  gr:=gr,
  cK:=cK,
  mP:=PySem.W.mg_of X G f.EN,
  iF:=464,
  cY:=cY,
  bM:=bM,
  lb:=PySem.W.mg_of X G f.yd,
  iG:=471,
  cZ:=cZ,
  bN:=bN,
  lh:=PySem.W.mg_of X G f.ye,
  fT:=478,
  cq:=cq,
  bH:=bH,
  nO:=PySem.W.mg_of X G f.vi,
  gY:=485,
  iH:=iH,
  fJ:=fJ,
  F4:=PySem.W.mg_of X G f.G7,
  e8:=492,
  fy:=fy,
  dC:=dC,
  BL:=PySem.W.mg_of X G f.Ca,
  gZ:=499,
  iI:=iI,
  fK:=fK,
  F5:=PySem.W.mg_of X G f.G8,
  g5:=506,
  iJ:=iJ,
  fL:=fL,
  F6:=PySem.W.mg_of X G f.G9,
  e9:=513,
  fz:=fz,
  dD:=dD,
  BM:=PySem.W.mg_of X G f.Cb,
  g6:=520,
  iK:=iK,
  fM:=fM,
  F7:=PySem.W.mg_of X G f.Ha,
  qI:=528,
  jR:=jR,
  g7:=g7,
  AK:=PySem.W.mg_of X G f.IT,
  oB:=535,
  iL:=iL,
  fN:=fN,
  yw:=PySem.W.mg_of X G f.Hb,
  oC:=542,
  iM:=iM,
  fO:=fO,
  yx:=PySem.W.mg_of X G f.Hc,
  mQ:=549,
  gu:=gu,
  eL:=eL,
  vY:=PySem.W.mg_of X G f.EO,
  jr:=563,
  dR:=dR,
  dc:=dc,
  mR:=570,
  gw:=gw,
  eM:=eM,
  ux:=⟨f.ER,f.ES,eM.kp⟩,
  iN:=577,
  c3:=c3,
  b8:=b8,
  oE:=⟨f.yf,f.yg,b8.kp⟩,
  gJ:=584,
  cF:=cF,
  bT:=bT,
  nP:=⟨f.wI,f.wJ,bT.kp⟩,
  fU:=591,
  cu:=cu,
  bI:=bI,
  mx:=⟨f.vj,f.vk,bI.kp⟩,
  fV:=598,
  cw:=cw,
  bJ:=bJ,
  my:=⟨f.vm,f.vn,bJ.kp⟩,
  oF:=612,
  iO:=iO,
  eN:=eN,
  sC:=PySem.W.mg_of X G f.Hd,
  DT:=619,
  tJ:=tJ,
  sD:=sD,
  LW:=PySem.W.mg_of X G f.PX,
  js:=633,
  dU:=dU,
  df:=df,
  oG:=640,
  iP:=iP,
  fP:=fP,
  vZ:=⟨f.He,f.Hf,fP.kp⟩,
  oH:=647,
  iQ:=iQ,
  fQ:=fQ,
  j9:=⟨f.Hg,f.Hh,fQ.kp⟩,
  jt:=654,
  dW:=dW,
  cA:=cA,
  lj:=⟨f.zq,f.zt,cA.kp⟩,
  tK:=668,
  ll:=ll,
  lp:=lp,
  Ko:=PySem.W.mg_of X G f.C6,
  lH:=675,
  fA:=fA,
  dE:=dE,
  uy:=PySem.W.mg_of X G f.Cc,
  Ol:=PySem.W.mg_of X G f.Rp,
  gC:=⟨f.PY,f.PZ,f.P0,f.P1⟩,
  DU:=⟨f.DU,f.Bl,f.Bm,f.P2⟩,
  nQ:=f.IU,
  kc:=f.ET,
  kd:=f.EU,
  F8:=PySem.W.mg_of X G f.Mm,
  ax:=⟨f.K5,f.K6,f.K7,f.K8⟩,
  tL:=⟨f.tL,f.wD,f.wF,f.K9⟩,
  eC:=f.zu,
  i9:=f.Cd,
  cO:=f.Bn,
  dg:=f.zv,
  dZ:=f.Bo,
  cM:=f.EV,
  d4:=f.Bp,
  b9:=f.Ce,
  LX:=PySem.W.mg_of X G f.P4,
  a9:=⟨f.Nu,f.Nv,f.Nw,f.Ny⟩,
  zI:=⟨f.zI,f.yZ,f.y0,f.Nz⟩,
  qJ:=f.EW,
  ck:=f.Bq,
  iY:=f.uf,
  ke:=f.wK,
  oJ:=f.Hi,
  eO:=f.EX,
  dF:=f.Cf,
  mS:=f.EY,
  bZ:=PySem.W.mg_of X G f.NA,
  xc:=⟨f.Rq,f.Ss,f.Su,f.Sv,f.Sw,fun h x=>Ro x f.Sx f.Sy,let ⟨od,fd,sl,e⟩:=f.Sz;⟨_,e,rfl⟩,f.SA⟩,
  qK:=f.EZ,
  px:=f.Cg,
  LY:=PySem.W.mg_of X G f.P5,
  bU:=⟨f.NB,f.NC,f.ND,f.NF⟩,
  zJ:=⟨f.zJ,f.y4,f.y6,f.NG⟩,
  bw:=f.Br,
  bp:=f.E1,
  LZ:=PySem.W.mg_of X G f.P6,
  a7:=⟨f.NH,f.NI,f.NJ,f.NK⟩,
  zK:=⟨f.zK,f.y8,f.y9,f.NL⟩,
  fW:=f.E2,
  lJ:=f.Ci,
  eQ:=f.E3,
  DV:=PySem.W.mg_of X G f.P7,
  eT:=⟨f.NM,f.NN,f.NO,f.NP⟩,
  tM:=⟨f.tM,f.zb,f.zf,f.NQ⟩,
  cb:=f.Cj,
  kf:=f.Bs,
  sE:=f.Hj,
  pz:=f.Ck,
  L0:=PySem.W.mg_of X G f.P8,
  qL:=⟨f.NR,f.NS,f.NT,f.NU⟩,
  zL:=⟨f.zL,f.zg,f.zh,f.NV⟩,
  sG:=f.Hl,
  qM:=f.E4,
  qN:=f.E5,
  Jv:=PySem.W.mg_of X G f.NW,
  aA:=⟨f.Mn,f.Mo,f.Mp,f.Mq⟩,
  v5:=⟨f.v5,f.yb,f.yc,f.Mr⟩,
  iR:=f.E6,
  ja:=f.Cm,
  bO:=f.yh,
  pA:=f.Cn,
  gy:=f.Co,
  gz:=f.Cp,
  eU:=f.sP,
  fb:=f.Cq,
  kg:=f.E7,
  fX:=f.vo,
  ju:=f.zw,
  jb:=f.Cr,
  eV:=f.sQ,
  L1:=PySem.W.mg_of X G f.P9,
  bV:=⟨f.NX,f.NY,f.NZ,f.N0⟩,
  zM:=⟨f.zM,f.zj,f.zl,f.N1⟩,
  aV:=f.Hm,
  L3:=PySem.W.mg_of X G f.Qa,
  du:=⟨f.N2,f.N3,f.N4,f.N5⟩,
  zN:=⟨f.zN,f.zo,f.zp,f.N6⟩,
  g8:=f.Bt,
  eW:=f.E8,
  iS:=let ⟨t,e⟩:=f.iS;⟨_,PySem.W.mg_of X G e,⟨t,rfl⟩⟩,
  qO:=let ⟨t,e⟩:=f.qO;⟨_,PySem.W.mg_of X G e,⟨t,rfl⟩⟩,
  mT:=let ⟨t,e⟩:=f.mT;⟨_,PySem.W.mg_of X G e,⟨t,rfl⟩⟩,
  oK:=let ⟨t,e⟩:=f.oK;⟨_,PySem.W.mg_of X G e,⟨t,rfl⟩⟩,
  DW:=let ⟨t,e⟩:=f.DW;⟨_,PySem.W.mg_of X G e,⟨t,rfl⟩⟩,
  DX:=let ⟨t,e⟩:=f.DX;⟨_,PySem.W.mg_of X G e,⟨t,rfl⟩⟩,
  zO:=let ⟨t,e⟩:=f.zO;⟨_,PySem.W.mg_of X G e,⟨t,rfl⟩⟩,
  lK:=let ⟨t,e⟩:=f.lK;⟨_,PySem.W.mg_of X G e,⟨t,rfl⟩⟩,
  g9:=let ⟨t,e⟩:=f.g9;⟨_,PySem.W.mg_of X G e,⟨t,rfl⟩⟩,
  jc:=let ⟨t,e⟩:=f.jc;⟨_,PySem.W.mg_of X G e,⟨t,rfl⟩⟩,
  tN:=let ⟨t,e⟩:=f.tN;⟨_,PySem.W.mg_of X G e,⟨t,rfl⟩⟩,
  qP:=let ⟨t,e⟩:=f.qP;⟨_,PySem.W.mg_of X G e,⟨t,rfl⟩⟩,
  oM:=let ⟨t,e⟩:=f.oM;⟨_,PySem.W.mg_of X G e,⟨t,rfl⟩⟩,
  p6:=let ⟨t,e⟩:=f.p6;⟨_,PySem.W.mg_of X G e,⟨t,rfl⟩⟩,
  tO:=let ⟨t,e⟩:=f.tO;⟨_,PySem.W.mg_of X G e,⟨t,rfl⟩⟩,
  AL:=let ⟨t,e⟩:=f.AL;⟨_,PySem.W.mg_of X G e,⟨t,rfl⟩⟩,
  DY:=let ⟨t,e⟩:=f.DY;⟨_,PySem.W.mg_of X G e,⟨t,rfl⟩⟩,
  oN:=let ⟨t,e⟩:=f.oN;⟨_,PySem.W.mg_of X G e,⟨t,rfl⟩⟩,
  p8:=let ⟨t,e⟩:=f.p8;⟨_,PySem.W.mg_of X G e,⟨t,rfl⟩⟩,
  v7:=let ⟨t,e⟩:=f.v7;⟨_,PySem.W.mg_of X G e,⟨t,rfl⟩⟩,
  v8:=let ⟨t,e⟩:=f.v8;⟨_,PySem.W.mg_of X G e,⟨t,rfl⟩⟩,
  kj:=let ⟨t,e⟩:=f.kj;⟨_,PySem.W.mg_of X G e,⟨t,rfl⟩⟩,
  iT:=let ⟨t,e⟩:=f.iT;⟨_,PySem.W.mg_of X G e,⟨t,rfl⟩⟩,
  mU:=let ⟨t,e⟩:=f.mU;⟨_,PySem.W.mg_of X G e,⟨t,rfl⟩⟩,
  kl:=let ⟨t,e⟩:=f.kl;⟨_,PySem.W.mg_of X G e,⟨t,rfl⟩⟩,
  oO:=let ⟨t,e⟩:=f.oO;⟨_,PySem.W.mg_of X G e,⟨t,rfl⟩⟩,
  mV:=let ⟨t,e⟩:=f.mV;⟨_,PySem.W.mg_of X G e,⟨t,rfl⟩⟩,
  jv:=let ⟨t,e⟩:=f.jv;⟨_,PySem.W.mg_of X G e,⟨t,rfl⟩⟩,
  hJ:=let ⟨t,e⟩:=f.hJ;⟨_,PySem.W.mg_of X G e,⟨t,rfl⟩⟩,
  AM:=let ⟨t,e⟩:=f.AM;⟨_,PySem.W.mg_of X G e,⟨t,rfl⟩⟩,
  jw:=let ⟨t,e⟩:=f.jw;⟨_,PySem.W.mg_of X G e,⟨t,rfl⟩⟩,
  DZ:=let ⟨t,e⟩:=f.DZ;⟨_,PySem.W.mg_of X G e,⟨t,rfl⟩⟩,
  km:=let ⟨t,e⟩:=f.km;⟨_,PySem.W.mg_of X G e,⟨t,rfl⟩⟩,
  mW:=let ⟨t,e⟩:=f.mW;⟨_,PySem.W.mg_of X G e,⟨t,rfl⟩⟩,
  sI:=let ⟨t,e⟩:=f.sI;⟨_,PySem.W.mg_of X G e,⟨t,rfl⟩⟩,
  gb:=let ⟨t,e⟩:=f.gb;⟨_,PySem.W.mg_of X G e,⟨t,rfl⟩⟩,
  nR:=let ⟨t,e⟩:=f.nR;⟨_,PySem.W.mg_of X G e,⟨t,rfl⟩⟩,
  oP:=let ⟨t,e⟩:=f.oP;⟨_,PySem.W.mg_of X G e,⟨t,rfl⟩⟩,
  v9:=let ⟨t,e⟩:=f.v9;⟨_,PySem.W.mg_of X G e,⟨t,rfl⟩⟩,
  hU:=let ⟨t,e⟩:=f.hU;⟨_,PySem.W.mg_of X G e,⟨t,rfl⟩⟩,
  zP:=let ⟨t,e⟩:=f.zP;⟨_,PySem.W.mg_of X G e,⟨t,rfl⟩⟩,
  zQ:=let ⟨t,e⟩:=f.zQ;⟨_,PySem.W.mg_of X G e,⟨t,rfl⟩⟩,
  zR:=let ⟨t,e⟩:=f.zR;⟨_,PySem.W.mg_of X G e,⟨t,rfl⟩⟩,
  ko:=let ⟨t,e⟩:=f.ko;⟨_,PySem.W.mg_of X G e,⟨t,rfl⟩⟩,
  zS:=⟨_,PySem.W.mg_of X G f.zS,rfl⟩,
  qQ:=fun _=>.inr f.qQ,
  tP:=⟨_,PySem.W.mg_of X G f.tP,rfl⟩,
  tQ:=fun _=>.inr f.tQ,
  Jw:=PySem.W.mg_none_of X G f.Jw,
  jS:=PySem.W.mg_none_of X G f.jS,
  Jx:=PySem.W.mg_none_of X G f.Jx,
  gK:=PySem.W.mg_none_of X G f.gK,
  AN:=PySem.W.mg_none_of X G f.AN,
  Jy:=PySem.W.mg_none_of X G f.Jy,
  AO:=PySem.W.mg_none_of X G f.AO,
  lL:=PySem.W.mg_none_of X G f.lL,
  CW:=PySem.W.mg_none_of X G f.CW }
 refine ⟨ll,fun s us hu=>?_,fun base _ _=>IL T⟩
 obtain ⟨oc,od,kV,doc,pm,an,cdv,ct,osl,rfl,_,_⟩:=lp.ex
 exact match us,hu with | [_],_=>.of_eq rfl
end Pb
namespace PySem.W.Fast
theorem tw12860332407967781994:True:=⟨⟩
theorem tw3111466449626423939:True:=⟨⟩
theorem tw961282817693182465:True:=⟨⟩
theorem tw11565210953251862570:True:=⟨⟩
theorem tw1155742475534427783:True:=⟨⟩
theorem tw4903119171365105555:True:=⟨⟩
theorem tw6510379219056083208:True:=⟨⟩
theorem tw13252557891663953237:True:=⟨⟩
theorem tw3511180546948536441:True:=⟨⟩
theorem tw17115212129043382947:True:=⟨⟩
theorem tw13271544409425283767:True:=⟨⟩
theorem tw4555887030447371849:True:=⟨⟩
theorem tw2156038318042267114:True:=⟨⟩
theorem tw6476831141920932090:True:=⟨⟩
theorem tw15338583686847887656:True:=⟨⟩
theorem tw10341487823450578987:True:=⟨⟩
theorem tw4632217045369302394:True:=⟨⟩
theorem tw5241886842201366439:True:=⟨⟩
theorem tw8407540945513500494:True:=⟨⟩
theorem tw1824637211777362825:True:=⟨⟩
theorem tw12466881620347897960:True:=⟨⟩
theorem tw9661018112850712854:True:=⟨⟩
theorem tw991835973350005801:True:=⟨⟩
theorem tw14049265915758021394:True:=⟨⟩
theorem tw15938958763038440914:True:=⟨⟩
theorem tw4740220743435646641:True:=⟨⟩
theorem tw4904226953751681914:True:=⟨⟩
theorem tw10028773847809125847:True:=⟨⟩
theorem tw1365653599687517760:True:=⟨⟩
theorem tw1516192902015134826:True:=⟨⟩
theorem tw5606434374387731333:True:=⟨⟩
theorem tw8717309581938561474:True:=⟨⟩
theorem tw12621445735247532851:True:=⟨⟩
theorem tw6634064956661137277:True:=⟨⟩
theorem tw8291244473686986267:True:=⟨⟩
theorem tw17505818808399409476:True:=⟨⟩
theorem tw74618349234855525:True:=⟨⟩
theorem tw15284901800022085238:True:=⟨⟩
theorem tw1030656752729102314:True:=⟨⟩
theorem tw637931963552804263:True:=⟨⟩
theorem tw17272392530847662819:True:=⟨⟩
theorem tw13461640680482956657:True:=⟨⟩
theorem tw7706905782158388933:True:=⟨⟩
theorem tw14232957322325292411:True:=⟨⟩
theorem tw13115548518376757790:True:=⟨⟩
theorem tw9652431269106674974:True:=⟨⟩
theorem tw6536443377650148408:True:=⟨⟩
theorem tw11542392735146782132:True:=⟨⟩
theorem tw7209923219057950378:True:=⟨⟩
theorem tw15584142381048627281:True:=⟨⟩
theorem tw7478326220231592617:True:=⟨⟩
theorem tw2473956906435721082:True:=⟨⟩
theorem tw15549136752338983214:True:=⟨⟩
theorem tw8891765701369101413:True:=⟨⟩
theorem tw15546988991451844299:True:=⟨⟩
theorem tw3796942447607064586:True:=⟨⟩
theorem tw3030984489387464822:True:=⟨⟩
theorem tw3512957356335741207:True:=⟨⟩
theorem tw17510625894391349198:True:=⟨⟩
theorem tw12058908242901283353:True:=⟨⟩
theorem tw12589156556898205385:True:=⟨⟩
theorem tw14112838900141825325:True:=⟨⟩
theorem tw1794576352079774704:True:=⟨⟩
theorem tw753698421476938705:True:=⟨⟩
theorem tw12289408294391630716:True:=⟨⟩
theorem tw1728713967165666886:True:=⟨⟩
theorem tw12206940686515188690:True:=⟨⟩
theorem tw8593181499961039536:True:=⟨⟩
theorem tw7279556229598563465:True:=⟨⟩
theorem tw680753953472968677:True:=⟨⟩
theorem tw9682524503829893125:True:=⟨⟩
theorem tw5951858877685120217:True:=⟨⟩
theorem tw8296747767201681649:True:=⟨⟩
theorem tw13151705628086213142:True:=⟨⟩
theorem tw12381779162227641940:True:=⟨⟩
theorem tw9112287547864151360:True:=⟨⟩
theorem tw5356010014250455757:True:=⟨⟩
theorem tw7075017064240931699:True:=⟨⟩
theorem tw635318145147737996:True:=⟨⟩
theorem tw16358644024153611752:True:=⟨⟩
theorem tw11785241955402821575:True:=⟨⟩
theorem tw11629098384273036628:True:=⟨⟩
theorem tw7121213127934468275:True:=⟨⟩
theorem tw7566686799062586716:True:=⟨⟩
theorem tw17398874605278804762:True:=⟨⟩
theorem tw5911548355590878231:True:=⟨⟩
theorem tw11189514414316838959:True:=⟨⟩
theorem tw1248301376226420992:True:=⟨⟩
theorem tw1647750288435702527:True:=⟨⟩
theorem tw17954984853103821282:True:=⟨⟩
theorem tw10136788738935397453:True:=⟨⟩
theorem tw891753773043261522:True:=⟨⟩
theorem tw1223712598436486465:True:=⟨⟩
theorem tw13194441739180927018:True:=⟨⟩
theorem tw16964250507714518827:True:=⟨⟩
theorem tw6644457019261947123:True:=⟨⟩
theorem tw1828291530064316142:True:=⟨⟩
theorem tw158178497623207992:True:=⟨⟩
theorem tw4820729575074754081:True:=⟨⟩
theorem tw9600364854492815650:True:=⟨⟩
theorem tw8237323766926972886:True:=⟨⟩
theorem tw6709601974729210928:True:=⟨⟩
theorem tw9916119578178702327:True:=⟨⟩
theorem tw8974125448098368880:True:=⟨⟩
theorem tw4526470859876756024:True:=⟨⟩
theorem tw14449297872615872998:True:=⟨⟩
theorem tw14093971485007831326:True:=⟨⟩
theorem tw6952505650187625787:True:=⟨⟩
theorem tw11050239254362834890:True:=⟨⟩
theorem tw9208961710927524243:True:=⟨⟩
theorem tw16573193150525148949:True:=⟨⟩
theorem tw11448438800926101360:True:=⟨⟩
theorem tw13594292735158336731:True:=⟨⟩
theorem tw8291910418607066813:True:=⟨⟩
theorem tw16730104472728896683:True:=⟨⟩
theorem tw18228532291854799255:True:=⟨⟩
theorem tw16396779820190589748:True:=⟨⟩
theorem tw15981461465431212994:True:=⟨⟩
theorem tw17109049281557868863:True:=⟨⟩
theorem tw12287223397036515861:True:=⟨⟩
theorem tw8076075039884191833:True:=⟨⟩
theorem tw9743107069394599530:True:=⟨⟩
theorem tw11005765764954676228:True:=⟨⟩
theorem tw5113422330811076720:True:=⟨⟩
theorem tw16300819917829942834:True:=⟨⟩
theorem tw5199605724695393062:True:=⟨⟩
theorem tw11480682805062872200:True:=⟨⟩
theorem tw3147591230854909028:True:=⟨⟩
theorem tw12099049221434499980:True:=⟨⟩
theorem tw1953909196827746361:True:=⟨⟩
theorem tw374683760826759223:True:=⟨⟩
theorem tw11358283194785150734:True:=⟨⟩
theorem tw17865223860098627421:True:=⟨⟩
theorem tw6282054958752376862:True:=⟨⟩
theorem tw12161373355963715567:True:=⟨⟩
theorem tw2512650694299040409:True:=⟨⟩
theorem tw18349076941565402615:True:=⟨⟩
theorem tw13293671692934476407:True:=⟨⟩
theorem tw5534493946773205773:True:=⟨⟩
theorem tw5877139272224248205:True:=⟨⟩
theorem tw4933675094324768586:True:=⟨⟩
theorem tw11064861483974027489:True:=⟨⟩
theorem tw13987432899681142893:True:=⟨⟩
theorem tw10818948829904775290:True:=⟨⟩
theorem tw325650979393612009:True:=⟨⟩
theorem tw14328531968067122946:True:=⟨⟩
theorem tw11540728800696042942:True:=⟨⟩
theorem tw2722696495328245207:True:=⟨⟩
theorem tw18128999648763149555:True:=⟨⟩
theorem tw11429765941133027128:True:=⟨⟩
theorem tw1308103979318115237:True:=⟨⟩
theorem tw4931308090548932828:True:=⟨⟩
theorem tw366643215892579146:True:=⟨⟩
theorem tw11911867805854624457:True:=⟨⟩
theorem tw17636834959262966648:True:=⟨⟩
theorem tw7923014822933416295:True:=⟨⟩
theorem tw3841070197622507039:True:=⟨⟩
theorem tw10100635390854493787:True:=⟨⟩
theorem tw16244681831382144104:True:=⟨⟩
theorem tw17742975770414155492:True:=⟨⟩
theorem tw5977866009555834650:True:=⟨⟩
theorem tw17656742554691693794:True:=⟨⟩
theorem tw9881834221607009467:True:=⟨⟩
theorem tw18184301549317765404:True:=⟨⟩
theorem tw8574215812311464054:True:=⟨⟩
theorem tw1484394580136025836:True:=⟨⟩
theorem tw11466896333215939336:True:=⟨⟩
theorem tw12094669087697060439:True:=⟨⟩
theorem tw10052196925121576775:True:=⟨⟩
theorem tw975321773550635858:True:=⟨⟩
theorem tw7560932556115062319:True:=⟨⟩
theorem tw11642140169259617511:True:=⟨⟩
theorem tw15352870457434878256:True:=⟨⟩
theorem tw10370391071784641775:True:=⟨⟩
theorem tw4351510287239661486:True:=⟨⟩
theorem tw13220796940287386518:True:=⟨⟩
theorem tw16635867891135433820:True:=⟨⟩
theorem tw14883763824145029582:True:=⟨⟩
theorem tw5456278280210887254:True:=⟨⟩
theorem tw14187142563994222462:True:=⟨⟩
theorem tw5976078132123861785:True:=⟨⟩
theorem tw16245965524991811961:True:=⟨⟩
theorem tw3989966880035222888:True:=⟨⟩
theorem tw12122312583071947436:True:=⟨⟩
theorem tw16453202035847137186:True:=⟨⟩
theorem tw17734190916905746033:True:=⟨⟩
theorem tw12672739030423359783:True:=⟨⟩
theorem tw1702707927103322805:True:=⟨⟩
theorem tw9147129441788692972:True:=⟨⟩
theorem tw11600041087856872338:True:=⟨⟩
theorem tw11682044006272151367:True:=⟨⟩
theorem tw17386714868598871672:True:=⟨⟩
theorem tw6834878489099082906:True:=⟨⟩
theorem tw16925517923274395049:True:=⟨⟩
theorem tw8653060671430700711:True:=⟨⟩
theorem tw2048677850742184894:True:=⟨⟩
theorem tw12444379685086882113:True:=⟨⟩
theorem tw2493208776506442957:True:=⟨⟩
theorem tw6576178281803647172:True:=⟨⟩
theorem tw540842532242473588:True:=⟨⟩
theorem tw114650433883772336:True:=⟨⟩
theorem tw11154115795773165575:True:=⟨⟩
theorem tw16778857801439799484:True:=⟨⟩
theorem tw13671058031806607500:True:=⟨⟩
theorem tw7378335286877522935:True:=⟨⟩
theorem tw5055968121486165266:True:=⟨⟩
theorem tw14267876698512997934:True:=⟨⟩
theorem tw16164238426730427399:True:=⟨⟩
theorem tw3695269478198309451:True:=⟨⟩
theorem tw6294830737472782094:True:=⟨⟩
theorem tw14171194520780806015:True:=⟨⟩
theorem tw18159773745222314186:True:=⟨⟩
theorem tw8829025005668342833:True:=⟨⟩
theorem tw11947378616594250686:True:=⟨⟩
theorem tw11116316481175486623:True:=⟨⟩
theorem tw4394096117244235778:True:=⟨⟩
theorem tw5137983214891030244:True:=⟨⟩
theorem tw3237604426210901452:True:=⟨⟩
theorem tw13027969925520100687:True:=⟨⟩
theorem tw14849916193177640895:True:=⟨⟩
theorem tw2115790040941353773:True:=⟨⟩
theorem tw10911728737232944734:True:=⟨⟩
theorem tw2101076662332248897:True:=⟨⟩
theorem tw3596404502077987245:True:=⟨⟩
theorem tw372641956732962571:True:=⟨⟩
theorem tw10802471054646119999:True:=⟨⟩
theorem tw8572915315457870736:True:=⟨⟩
theorem tw7675722459288669428:True:=⟨⟩
theorem tw10090022376474857506:True:=⟨⟩
theorem tw12242935371359597381:True:=⟨⟩
theorem tw6856183998059244934:True:=⟨⟩
theorem tw17504528625622465532:True:=⟨⟩
theorem tw334647490347708838:True:=⟨⟩
theorem tw5795959281672448035:True:=⟨⟩
theorem tw13174616252378381892:True:=⟨⟩
theorem tw16022448906295275526:True:=⟨⟩
theorem tw15047480099531615157:True:=⟨⟩
theorem tw4019052449339433615:True:=⟨⟩
theorem tw6911273737008673757:True:=⟨⟩
theorem tw15889322008370047698:True:=⟨⟩
theorem tw5814110214967926797:True:=⟨⟩
theorem tw2553857258733422838:True:=⟨⟩
theorem tw14410603327468536267:True:=⟨⟩
theorem tw17474819288416868546:True:=⟨⟩
theorem tw13569358483606695407:True:=⟨⟩
theorem tw14707253810736137819:True:=⟨⟩
theorem tw13112494723850990507:True:=⟨⟩
theorem tw3588767904341036843:True:=⟨⟩
theorem tw540176013882287743:True:=⟨⟩
theorem tw3986557462072574758:True:=⟨⟩
theorem tw4058027421785224891:True:=⟨⟩
theorem tw5147537438380903068:True:=⟨⟩
theorem tw9643675538663553907:True:=⟨⟩
theorem tw5610217537163566441:True:=⟨⟩
theorem tw1091744576040952507:True:=⟨⟩
theorem tw17098205139178817950:True:=⟨⟩
theorem tw18016912460414096749:True:=⟨⟩
theorem tw3789289483232603751:True:=⟨⟩
theorem tw8485560596939156351:True:=⟨⟩
theorem tw17199986011174247832:True:=⟨⟩
theorem tw13183000438700766897:True:=⟨⟩
theorem tw1510578180221660041:True:=⟨⟩
theorem tw2557574519817913838:True:=⟨⟩
theorem tw6477700323792502655:True:=⟨⟩
theorem tw4104750358575050406:True:=⟨⟩
theorem tw3909908862081827908:True:=⟨⟩
theorem tw2371839864479894737:True:=⟨⟩
theorem tw15912974740111954866:True:=⟨⟩
theorem tw13661199323090353631:True:=⟨⟩
theorem tw9587867565781414025:True:=⟨⟩
theorem tw14760456535918925651:True:=⟨⟩
theorem tw16099473864687659316:True:=⟨⟩
theorem tw7888224827555381636:True:=⟨⟩
theorem tw17519068396655271060:True:=⟨⟩
theorem tw17594087233948030971:True:=⟨⟩
theorem tw7559567739736024936:True:=⟨⟩
theorem tw3818068711300859797:True:=⟨⟩
theorem tw12344285467206067552:True:=⟨⟩
theorem tw900342084531524563:True:=⟨⟩
theorem tw1080353589450001409:True:=⟨⟩
theorem tw2267830156243521262:True:=⟨⟩
theorem tw16892385479961656797:True:=⟨⟩
theorem tw5641934686983982807:True:=⟨⟩
theorem tw2375553040463088641:True:=⟨⟩
theorem tw4232251497982516158:True:=⟨⟩
theorem tw14820944548589485783:True:=⟨⟩
theorem tw4859217320840437548:True:=⟨⟩
theorem tw11262844225796572862:True:=⟨⟩
theorem tw3395803019943989179:True:=⟨⟩
theorem tw14053521026050065551:True:=⟨⟩
theorem tw15055780931167406604:True:=⟨⟩
theorem tw4991309479398631401:True:=⟨⟩
theorem tw10833323090276707018:True:=⟨⟩
theorem tw831004350940898331:True:=⟨⟩
theorem tw17244076549256234490:True:=⟨⟩
theorem tw5131028571286050786:True:=⟨⟩
theorem tw17247169792165084300:True:=⟨⟩
theorem tw12230395203002057488:True:=⟨⟩
theorem tw17723710303353894973:True:=⟨⟩
theorem tw9140167806291605645:True:=⟨⟩
theorem tw1902857921595859866:True:=⟨⟩
theorem tw6359530242172844392:True:=⟨⟩
theorem tw3667835967237816548:True:=⟨⟩
theorem tw12073394822650464559:True:=⟨⟩
theorem tw1130315510550710909:True:=⟨⟩
theorem tw15601624471767040038:True:=⟨⟩
theorem tw4829951918328048778:True:=⟨⟩
theorem tw3197285237774222271:True:=⟨⟩
theorem tw6822895111451343515:True:=⟨⟩
theorem tw5581286325843775136:True:=⟨⟩
theorem tw17329634149378031301:True:=⟨⟩
theorem tw15963526512616292176:True:=⟨⟩
theorem tw16064742305183185247:True:=⟨⟩
theorem tw5594104731569194704:True:=⟨⟩
theorem tw15420740722078932887:True:=⟨⟩
theorem tw9731038290258499486:True:=⟨⟩
theorem tw8195611595171907828:True:=⟨⟩
theorem tw4303982900433247051:True:=⟨⟩
theorem tw436103770442969309:True:=⟨⟩
theorem tw10336718630459620756:True:=⟨⟩
theorem tw7196112158971668000:True:=⟨⟩
theorem tw6066955027566128595:True:=⟨⟩
theorem tw2594157467838994558:True:=⟨⟩
theorem tw3954072564237007401:True:=⟨⟩
theorem tw8533932541965135989:True:=⟨⟩
theorem tw11259637254111922113:True:=⟨⟩
theorem tw18060134441697139977:True:=⟨⟩
theorem tw4111147276734561875:True:=⟨⟩
theorem tw9925427735005499382:True:=⟨⟩
theorem tw5379300087282850335:True:=⟨⟩
theorem tw3958823252077139447:True:=⟨⟩
theorem tw5979726298565059069:True:=⟨⟩
theorem tw8241604884013409451:True:=⟨⟩
theorem tw4560625234798398154:True:=⟨⟩
theorem tw8952833878916629031:True:=⟨⟩
theorem tw15827126247807920731:True:=⟨⟩
theorem tw7014308731148271736:True:=⟨⟩
theorem tw6831386113361619006:True:=⟨⟩
theorem tw18046413028931136260:True:=⟨⟩
theorem tw39356837707153408:True:=⟨⟩
theorem tw10448664360376625347:True:=⟨⟩
theorem tw6683329838994005485:True:=⟨⟩
theorem tw16882646861549769912:True:=⟨⟩
theorem tw17300975989506623030:True:=⟨⟩
theorem tw17735131347232988854:True:=⟨⟩
theorem tw14392935448344590633:True:=⟨⟩
theorem tw10815168794367276409:True:=⟨⟩
theorem tw12904971060104927103:True:=⟨⟩
theorem tw4134643527351515359:True:=⟨⟩
theorem tw14223620316661661435:True:=⟨⟩
theorem tw11175654980178494296:True:=⟨⟩
theorem tw1982775451464748887:True:=⟨⟩
theorem tw1397024163023871644:True:=⟨⟩
theorem tw6010530164655025311:True:=⟨⟩
theorem tw1755999704244846855:True:=⟨⟩
theorem tw8884339155219448095:True:=⟨⟩
theorem tw15767704312058859806:True:=⟨⟩
theorem tw13784473287084764068:True:=⟨⟩
theorem tw11039896625304313823:True:=⟨⟩
theorem tw2867843632116549622:True:=⟨⟩
theorem tw11176572777907424876:True:=⟨⟩
theorem tw1862056720866933240:True:=⟨⟩
theorem tw8474692804173145066:True:=⟨⟩
theorem tw17647652271002219735:True:=⟨⟩
theorem tw7302899576501813722:True:=⟨⟩
theorem tw1210781715895050208:True:=⟨⟩
theorem tw2658711038692657194:True:=⟨⟩
theorem tw17592405751494659076:True:=⟨⟩
theorem tw432392735066286771:True:=⟨⟩
theorem tw7287843715987026644:True:=⟨⟩
theorem tw18219687419608105609:True:=⟨⟩
theorem tw8381677658501248936:True:=⟨⟩
theorem tw15775942300748640075:True:=⟨⟩
theorem tw16432675537396403974:True:=⟨⟩
theorem tw10545807187060161806:True:=⟨⟩
theorem tw12368279367654712025:True:=⟨⟩
theorem tw8885707325459234332:True:=⟨⟩
theorem tw1065051213241746342:True:=⟨⟩
theorem tw3484350310689262868:True:=⟨⟩
theorem tw2427951409498745443:True:=⟨⟩
theorem tw6915081471733055008:True:=⟨⟩
theorem tw9290976509722206038:True:=⟨⟩
theorem tw12014627387881526390:True:=⟨⟩
theorem tw13692547408393150113:True:=⟨⟩
theorem tw15067220340488108993:True:=⟨⟩
theorem tw9934379835248731139:True:=⟨⟩
theorem tw3943583894519023235:True:=⟨⟩
theorem tw11128606757267982431:True:=⟨⟩
theorem tw6694293752192657896:True:=⟨⟩
theorem tw16978143027178611918:True:=⟨⟩
theorem tw3011493611951505577:True:=⟨⟩
theorem tw7286513146759246685:True:=⟨⟩
theorem tw7804032526641316914:True:=⟨⟩
theorem tw5544888245887305176:True:=⟨⟩
theorem tw7683551867206500349:True:=⟨⟩
theorem tw14781454578915374225:True:=⟨⟩
theorem tw2628735460489782508:True:=⟨⟩
theorem tw7551866110834162739:True:=⟨⟩
theorem tw11764193638366623820:True:=⟨⟩
theorem tw4687318228405625592:True:=⟨⟩
theorem tw9816673988588175584:True:=⟨⟩
theorem tw1196130856547992043:True:=⟨⟩
theorem tw13403667796454551935:True:=⟨⟩
theorem tw5407317899163606823:True:=⟨⟩
theorem tw13867297287356008451:True:=⟨⟩
theorem tw17164059497277881822:True:=⟨⟩
theorem tw12662927130844442046:True:=⟨⟩
theorem tw8206595457002518243:True:=⟨⟩
theorem tw14044844207444359824:True:=⟨⟩
theorem tw640579816936504612:True:=⟨⟩
theorem tw8674642308551784136:True:=⟨⟩
theorem tw8443674291951099322:True:=⟨⟩
theorem tw14602057552471980478:True:=⟨⟩
theorem tw12273432675938306225:True:=⟨⟩
theorem tw12607685753641236075:True:=⟨⟩
theorem tw5138701019508067812:True:=⟨⟩
theorem tw8020550314118940062:True:=⟨⟩
theorem tw14856963377165441515:True:=⟨⟩
theorem tw4902311989997646953:True:=⟨⟩
theorem tw12521371453234226607:True:=⟨⟩
theorem tw5545317990223371642:True:=⟨⟩
theorem tw9775325088911799872:True:=⟨⟩
theorem tw16039999329717283902:True:=⟨⟩
theorem tw4541365866978575000:True:=⟨⟩
theorem tw8727713470976876885:True:=⟨⟩
theorem tw295300283572104027:True:=⟨⟩
theorem tw15061832853475479578:True:=⟨⟩
theorem tw10452952326576363226:True:=⟨⟩
theorem tw9101390268560863342:True:=⟨⟩
theorem tw10130808882774261909:True:=⟨⟩
theorem tw9451924729669599731:True:=⟨⟩
theorem tw15649204821437267146:True:=⟨⟩
theorem tw7601508375587119087:True:=⟨⟩
theorem tw2633189803941764119:True:=⟨⟩
theorem tw7622800617372577415:True:=⟨⟩
theorem tw5857958449458883767:True:=⟨⟩
theorem tw16914152704192436271:True:=⟨⟩
theorem tw11749130545600036010:True:=⟨⟩
theorem tw7594010213727979622:True:=⟨⟩
theorem tw15004559069286841628:True:=⟨⟩
theorem tw2074069900474197020:True:=⟨⟩
theorem tw1413414561444699793:True:=⟨⟩
theorem tw8115763172084165498:True:=⟨⟩
theorem tw5519579408895301847:True:=⟨⟩
theorem tw13688364008937546931:True:=⟨⟩
theorem tw9989271622980012554:True:=⟨⟩
theorem tw16024532398787447598:True:=⟨⟩
theorem tw17720798674291565916:True:=⟨⟩
theorem tw5663167873905140148:True:=⟨⟩
theorem tw11235284985900682681:True:=⟨⟩
theorem tw17289298212556179617:True:=⟨⟩
theorem tw8836642631184685605:True:=⟨⟩
theorem tw7203325177253021127:True:=⟨⟩
theorem tw5448014007678164916:True:=⟨⟩
theorem tw11940002326130593544:True:=⟨⟩
theorem tw15609298683664266637:True:=⟨⟩
theorem tw11540126312920808506:True:=⟨⟩
theorem tw2263500246571670512:True:=⟨⟩
theorem tw4201380459200041848:True:=⟨⟩
theorem tw16254139920653779312:True:=⟨⟩
theorem tw12568793519989683962:True:=⟨⟩
theorem tw13633185497573424344:True:=⟨⟩
theorem tw1487741630698856:True:=⟨⟩
theorem tw6069861536956691551:True:=⟨⟩
theorem tw8508018637533512964:True:=⟨⟩
theorem tw4939270601179799238:True:=⟨⟩
theorem tw3915076294628628144:True:=⟨⟩
theorem tw11279328714663342508:True:=⟨⟩
theorem tw6283156333278888267:True:=⟨⟩
theorem tw18134323465619001082:True:=⟨⟩
theorem tw9960608902163992569:True:=⟨⟩
theorem tw2230253693715771597:True:=⟨⟩
theorem tw18246789808158339923:True:=⟨⟩
theorem tw14991498324198410298:True:=⟨⟩
theorem tw205437190405271930:True:=⟨⟩
theorem tw1513584407108723800:True:=⟨⟩
theorem tw5520738636634501038:True:=⟨⟩
theorem tw11764171662417809496:True:=⟨⟩
theorem tw4954242974193322397:True:=⟨⟩
theorem tw10516051937120508486:True:=⟨⟩
theorem tw3079280491422131849:True:=⟨⟩
theorem tw13271819069303484255:True:=⟨⟩
theorem tw9608535050527001372:True:=⟨⟩
theorem tw16817824493651263311:True:=⟨⟩
theorem tw15176214167086199794:True:=⟨⟩
theorem tw14370017806886853657:True:=⟨⟩
theorem tw5671520156377924459:True:=⟨⟩
theorem tw7551154558592091873:True:=⟨⟩
theorem tw6422186210862800292:True:=⟨⟩
theorem tw16498602010425776418:True:=⟨⟩
theorem tw5221050383074098067:True:=⟨⟩
theorem tw1453882166622713311:True:=⟨⟩
theorem tw11652443333267639013:True:=⟨⟩
theorem tw48237892118402809:True:=⟨⟩
theorem tw4350856463843754668:True:=⟨⟩
theorem tw10278419219015792394:True:=⟨⟩
theorem tw12498756704013294188:True:=⟨⟩
theorem tw927586029160575887:True:=⟨⟩
theorem tw5049319673003874391:True:=⟨⟩
theorem tw17942703938718465082:True:=⟨⟩
theorem tw16873257260170447106:True:=⟨⟩
theorem tw6420661742642272329:True:=⟨⟩
theorem tw15285824373547076907:True:=⟨⟩
theorem tw15185955584508184229:True:=⟨⟩
theorem tw14377217693311338193:True:=⟨⟩
theorem tw8576932331593058011:True:=⟨⟩
theorem tw16107112645033915508:True:=⟨⟩
theorem tw3226609165181567340:True:=⟨⟩
theorem tw13445224452403755884:True:=⟨⟩
theorem tw10976839697396674155:True:=⟨⟩
theorem tw16560962251678019408:True:=⟨⟩
theorem tw11662627793105021664:True:=⟨⟩
theorem tw10858787127371910197:True:=⟨⟩
theorem tw12060104045651546096:True:=⟨⟩
theorem tw14687732120546520702:True:=⟨⟩
theorem tw17282225147535288698:True:=⟨⟩
theorem tw3243238163649819481:True:=⟨⟩
theorem tw13376579214222976601:True:=⟨⟩
theorem tw759378930600759142:True:=⟨⟩
theorem tw7217758700930165894:True:=⟨⟩
theorem tw10766509853938598074:True:=⟨⟩
theorem tw4081002568992248045:True:=⟨⟩
theorem tw16398092601614063306:True:=⟨⟩
theorem tw401760455564641690:True:=⟨⟩
theorem tw2382140166514754517:True:=⟨⟩
theorem tw16049650507830674891:True:=⟨⟩
theorem tw9739838921351193927:True:=⟨⟩
theorem tw15473225792452773863:True:=⟨⟩
theorem tw7969378999343915346:True:=⟨⟩
theorem tw1384509812714111247:True:=⟨⟩
theorem tw10417669536066014339:True:=⟨⟩
theorem tw5711765299323964723:True:=⟨⟩
theorem tw16983306399908783198:True:=⟨⟩
theorem tw13950346646031137046:True:=⟨⟩
theorem tw1127792130018258892:True:=⟨⟩
theorem tw2198573920804578435:True:=⟨⟩
theorem tw17056446785903678849:True:=⟨⟩
theorem tw13212969850559279417:True:=⟨⟩
theorem tw1433739020825684291:True:=⟨⟩
theorem tw15729282292547725895:True:=⟨⟩
theorem tw9046777155718114457:True:=⟨⟩
theorem tw11437480108943027971:True:=⟨⟩
theorem tw2579774207411719757:True:=⟨⟩
theorem tw7020843606509416136:True:=⟨⟩
theorem tw7136080856146187765:True:=⟨⟩
theorem tw11596056545310244447:True:=⟨⟩
theorem tw9636969654716325761:True:=⟨⟩
theorem tw10566973149461160109:True:=⟨⟩
theorem tw1695419759141522710:True:=⟨⟩
theorem tw1580290734808697739:True:=⟨⟩
theorem tw1209476245376100189:True:=⟨⟩
theorem tw9648023998366642538:True:=⟨⟩
theorem tw1592813600843943271:True:=⟨⟩
theorem tw10240261854169862360:True:=⟨⟩
theorem tw6218645118284810113:True:=⟨⟩
theorem tw11751237922490674399:True:=⟨⟩
theorem tw12520576593109870689:True:=⟨⟩
theorem tw5376720935607351656:True:=⟨⟩
theorem tw4634693752629106748:True:=⟨⟩
theorem tw3522811089041030315:True:=⟨⟩
theorem tw5802875640150952058:True:=⟨⟩
theorem tw9912640116007714128:True:=⟨⟩
theorem tw16730021884778268078:True:=⟨⟩
theorem tw14285667165369541519:True:=⟨⟩
theorem tw4598230728423716542:True:=⟨⟩
theorem tw6417209936337125103:True:=⟨⟩
theorem tw12251054403792525956:True:=⟨⟩
theorem tw1029236729570255503:True:=⟨⟩
theorem tw13353133289191996305:True:=⟨⟩
theorem tw15069887003540079053:True:=⟨⟩
theorem tw15509576357668463735:True:=⟨⟩
theorem tw10614091271565181527:True:=⟨⟩
theorem tw14654416844407703125:True:=⟨⟩
theorem tw8854494680828294661:True:=⟨⟩
theorem tw11113299300245511461:True:=⟨⟩
theorem tw819398014627666025:True:=⟨⟩
theorem tw8403373230999314994:True:=⟨⟩
theorem tw16632977952214639549:True:=⟨⟩
theorem tw16727801604532514194:True:=⟨⟩
theorem tw14286758896531248834:True:=⟨⟩
theorem tw11094076940541974361:True:=⟨⟩
theorem tw8059057007699796482:True:=⟨⟩
theorem tw9628479083010148174:True:=⟨⟩
theorem tw11871895630314052081:True:=⟨⟩
theorem tw2952960441357835684:True:=⟨⟩
theorem tw10703919895457440484:True:=⟨⟩
theorem tw10720181540528450168:True:=⟨⟩
theorem tw5971037004052100341:True:=⟨⟩
theorem tw5831214362574026845:True:=⟨⟩
theorem tw9312161260795440699:True:=⟨⟩
theorem tw13355527417208008054:True:=⟨⟩
theorem tw5756341738471501530:True:=⟨⟩
theorem tw1735341043975830891:True:=⟨⟩
theorem tw566500295302946048:True:=⟨⟩
theorem tw9498460042105724378:True:=⟨⟩
theorem tw6005643686676141090:True:=⟨⟩
theorem tw17386376533453518596:True:=⟨⟩
theorem tw9164800733234318477:True:=⟨⟩
theorem tw4767403883916559513:True:=⟨⟩
theorem tw1111592815582531336:True:=⟨⟩
theorem tw2939185045457314960:True:=⟨⟩
theorem tw3841630162532381081:True:=⟨⟩
theorem tw5209031219951971220:True:=⟨⟩
theorem tw8716109758461760096:True:=⟨⟩
theorem tw4622634942180881234:True:=⟨⟩
theorem tw16528228461370281838:True:=⟨⟩
theorem tw11392909445444926835:True:=⟨⟩
theorem tw2235250945388847620:True:=⟨⟩
theorem tw15260940409107331555:True:=⟨⟩
theorem tw14264237473528585587:True:=⟨⟩
theorem tw18418680416850206490:True:=⟨⟩
theorem tw5580521199732577222:True:=⟨⟩
theorem tw2393163420430116837:True:=⟨⟩
theorem tw8014326073105990375:True:=⟨⟩
theorem tw11993554207815196033:True:=⟨⟩
theorem tw10361051338136431385:True:=⟨⟩
theorem tw5567471445734700255:True:=⟨⟩
theorem tw8500878847645445871:True:=⟨⟩
theorem tw7193192224626870937:True:=⟨⟩
theorem tw6186257183760026804:True:=⟨⟩
theorem tw15557214923307418751:True:=⟨⟩
theorem tw4042774129965422489:True:=⟨⟩
theorem tw8724251419710322436:True:=⟨⟩
theorem tw11115952197132933741:True:=⟨⟩
theorem tw8842593811765268355:True:=⟨⟩
theorem tw12697551582996097104:True:=⟨⟩
theorem tw10611041621920820554:True:=⟨⟩
theorem tw4347265478183735577:True:=⟨⟩
theorem tw161304867053579184:True:=⟨⟩
theorem tw9670664842913678921:True:=⟨⟩
theorem tw13507935608796071850:True:=⟨⟩
theorem tw16336724275643325403:True:=⟨⟩
theorem tw15207558831614195613:True:=⟨⟩
theorem tw14695966496378318610:True:=⟨⟩
theorem tw17995272136197811693:True:=⟨⟩
theorem tw1179384030645375661:True:=⟨⟩
theorem tw6608846014611315512:True:=⟨⟩
end PySem.W.Fast
open PySem PySem.W PyProof.Rows
set_option maxRecDepth 100000 in
set_option maxHeartbeats 0 in
theorem PySem.Challenge.cw_pinballs_s01_answers_holds : PySem.Challenge.rw_pinballs_s01_answers.Holds := by
 w_on;k_headS;(case hw=>exact ⟨[.list [.int 3]],by decide +kernel,by decide +kernel⟩)
 k_fillS
 refine L2.HJ (r:=PySem.Challenge.rw_pinballs_s01_answers) (k:=12) (CX:=L2.kD) (ps:=["calls"]) (sp:=Pb.Mj) (by decide +kernel) rfl rfl ⟨rfl,by decide,by decide⟩ (fun w h Y=>PySem.W.kIn_of Y) ?F ?S (fun _ _ _ _ z=>z)
 case F =>
  intro w mg fa h Y KX G hmg
  refine' Pb.all_mk KX G hmg ?f
  refine' ⟨?_,?_,?_,?_,?_,?_,?_,?_,?_,?_,?_,?_,?_,?_,?_,?_,?_,?_,?_,?_,?_,?_,?_,?_,?_,?_,?_,?_,?_,?_,?_,?_,?_,?_,?_,?_,?_,?_,?_,?_,?_,?_,?_,?_,?_,?_,?_,?_,?_,?_,?_,?_,?_,?_,?_,?_,?_,?_,?_,?_,?_,?_,?_,?_,?_,?_,?_,?_,?_,?_,?_,?_,?_,?_,?_,?_,?_,?_,?_,?_,?_,?_,?_,?_,?_,?_,?_,?_,?_,?_,?_,?_,?_,?_,?_,?_,?_,?_,?_,?_,?_,?_,?_,?_,?_,?_,?_,?_,?_,?_,?_,?_,?_,?_,?_,?_,?_,?_,?_,?_,?_,?_,?_,?_,?_,?_,?_,?_,?_,?_,?_,?_,?_,?_,?_,?_,?_,?_,?_,?_,?_,?_,?_,?_,?_,?_,?_,?_,?_,?_,?_,?_,?_,?_,?_,?_,?_,?_,?_,?_,?_,?_,?_,?_,?_,?_,?_,?_,?_,?_,?_,?_,?_,?_,?_,?_,?_,?_,?_,?_,?_,?_,?_,?_,?_,?_,?_,?_,?_,?_,?_,?_,?_,?_,?_,?_,?_,?_,?_,?_,?_,?_,?_,?_,?_,?_,?_,?_,?_,?_,?_,?_,?_,?_,?_,?_,?_,?_,?_,?_,?_,?_,?_,?_,?_,?_,?_,?_,?_,?_,?_,?_,?_,?_,?_,?_,?_,?_,?_,?_,?_,?_,?_,?_,?_,?_,?_,?_,?_,?_,?_,?_,?_,?_,?_,?_,?_,?_,?_,?_,?_,?_,?_,?_,?_,?_,?_,?_,?_,?_,?_,?_,?_,?_,?_,?_,?_,?_,?_,?_,?_,?_,?_,?_,?_,?_,?_,?_,?_,?_,?_,?_,?_,?_,?_,?_,?_,?_,?_,?_,?_,?_,?_,?_,?_,?_,?_,?_,?_,?_,?_,?_,?_,?_,?_,?_,?_,?_,?_,?_,?_,?_,?_,?_,?_,?_,?_,?_,?_,?_,?_,?_,?_,?_,?_,?_,?_,?_,?_,?_,?_,?_,?_,?_,?_,?_,?_,?_,?_,?_,?_,?_,?_,?_,?_,?_,?_,?_,?_⟩
  k_is
  k_is
  (refine' ⟨_,L2.aD ?l ?c ?k⟩;(case l=>k_is);(case c=>k_is);(case k=>k_is))
  k_is
  k_is
  (refine' ⟨_,L2.aD ?l ?c ?k⟩;(case l=>k_is);(case c=>k_is);(case k=>k_is))
  k_is
  k_is
  (refine' ⟨_,L2.aD ?l ?c ?k⟩;(case l=>k_is);(case c=>k_is);(case k=>k_is))
  k_is
  k_is
  (refine' ⟨_,L2.aD ?l ?c ?k⟩;(case l=>k_is);(case c=>k_is);(case k=>k_is))
  k_is
  (refine' ⟨_,L2.aD ?l ?c ?k⟩;(case l=>k_is);(case c=>k_is);(case k=>k_is))
  k_is
  (refine' ⟨_,L2.aD ?l ?c ?k⟩;(case l=>k_is);(case c=>k_is);(case k=>k_is))
  k_is
  (refine' ⟨_,L2.aD ?l ?c ?k⟩;(case l=>k_is);(case c=>k_is);(case k=>k_is))
  k_is
  (refine' ⟨_,L2.aD ?l ?c ?k⟩;(case l=>k_is);(case c=>k_is);(case k=>k_is))
  k_is
  (refine' ⟨_,L2.aD ?l ?c ?k⟩;(case l=>k_is);(case c=>k_is);(case k=>k_is))
  k_is
  (refine' ⟨_,L2.aD ?l ?c ?k⟩;(case l=>k_is);(case c=>k_is);(case k=>k_is))
  k_is
  (refine' ⟨_,L2.aD ?l ?c ?k⟩;(case l=>k_is);(case c=>k_is);(case k=>k_is))
  k_is
  (refine' ⟨_,L2.aD ?l ?c ?k⟩;(case l=>k_is);(case c=>k_is);(case k=>k_is))
  k_is
  (refine' ⟨_,L2.aD ?l ?c ?k⟩;(case l=>k_is);(case c=>k_is);(case k=>k_is))
  k_is
  k_is
  (refine' ⟨_,L2.aD ?l ?c ?k⟩;(case l=>k_is);(case c=>k_is);(case k=>k_is))
  k_is
  (refine' ⟨_,L2.aD ?l ?c ?k⟩;(case l=>k_is);(case c=>k_is);(case k=>k_is))
  k_is
  (refine' ⟨_,L2.aD ?l ?c ?k⟩;(case l=>k_is);(case c=>k_is);(case k=>k_is))
  k_is
  (refine' ⟨_,L2.aD ?l ?c ?k⟩;(case l=>k_is);(case c=>k_is);(case k=>k_is))
  k_is
  (refine' ⟨_,L2.aD ?l ?c ?k⟩;(case l=>k_is);(case c=>k_is);(case k=>k_is))
  k_is
  (refine' ⟨_,L2.aD ?l ?c ?k⟩;(case l=>k_is);(case c=>k_is);(case k=>k_is))
  k_is
  (refine' ⟨_,L2.aD ?l ?c ?k⟩;(case l=>k_is);(case c=>k_is);(case k=>k_is))
  k_is
  (refine' ⟨_,L2.aD ?l ?c ?k⟩;(case l=>k_is);(case c=>k_is);(case k=>k_is))
  k_is
  k_is
  (refine' ⟨_,L2.aD ?l ?c ?k⟩;(case l=>k_is);(case c=>k_is);(case k=>k_is))
  k_is
  k_is
  (refine' ⟨_,L2.aD ?l ?c ?k⟩;(case l=>k_is);(case c=>k_is);(case k=>k_is))
  k_is
  k_is
  (refine' ⟨_,L2.aD ?l ?c ?k⟩;(case l=>k_is);(case c=>k_is);(case k=>k_is))
  k_is
  k_is
  (refine' ⟨_,L2.aD ?l ?c ?k⟩;(case l=>k_is);(case c=>k_is);(case k=>k_is))
  k_is
  k_is
  (refine' ⟨_,L2.aD ?l ?c ?k⟩;(case l=>k_is);(case c=>k_is);(case k=>k_is))
  k_is
  k_is
  (refine' ⟨_,L2.aD ?l ?c ?k⟩;(case l=>k_is);(case c=>k_is);(case k=>k_is))
  k_is
  k_is
  (refine' ⟨_,L2.aD ?l ?c ?k⟩;(case l=>k_is);(case c=>k_is);(case k=>k_is))
  k_is
  (refine' ⟨_,L2.aD ?l ?c ?k⟩;(case l=>k_is);(case c=>k_is);(case k=>k_is))
  k_is
  (refine' ⟨_,L2.aD ?l ?c ?k⟩;(case l=>k_is);(case c=>k_is);(case k=>k_is))
  k_is
  (refine' ⟨_,L2.aD ?l ?c ?k⟩;(case l=>k_is);(case c=>k_is);(case k=>k_is))
  k_is
  (refine' ⟨_,L2.aD ?l ?c ?k⟩;(case l=>k_is);(case c=>k_is);(case k=>k_is))
  k_is
  (refine' ⟨_,L2.aD ?l ?c ?k⟩;(case l=>k_is);(case c=>k_is);(case k=>k_is))
  k_is
  (refine' ⟨_,L2.aD ?l ?c ?k⟩;(case l=>k_is);(case c=>k_is);(case k=>k_is))
  k_is
  (refine' ⟨_,L2.aD ?l ?c ?k⟩;(case l=>k_is);(case c=>k_is);(case k=>k_is))
  k_is
  (refine' ⟨_,L2.aD ?l ?c ?k⟩;(case l=>k_is);(case c=>k_is);(case k=>k_is))
  k_is
  (refine' ⟨_,L2.aD ?l ?c ?k⟩;(case l=>k_is);(case c=>k_is);(case k=>k_is))
  k_is
  (refine' ⟨_,L2.aD ?l ?c ?k⟩;(case l=>k_is);(case c=>k_is);(case k=>k_is))
  k_is
  (refine' ⟨_,L2.aD ?l ?c ?k⟩;(case l=>k_is);(case c=>k_is);(case k=>k_is))
  k_is
  (refine' ⟨_,L2.aD ?l ?c ?k⟩;(case l=>k_is);(case c=>k_is);(case k=>k_is))
  k_is
  (refine' ⟨_,L2.aD ?l ?c ?k⟩;(case l=>k_is);(case c=>k_is);(case k=>k_is))
  k_is
  k_is
  (refine' ⟨_,L2.aD ?l ?c ?k⟩;(case l=>k_is);(case c=>k_is);(case k=>k_is))
  k_is
  k_is
  (refine' ⟨_,L2.aD ?l ?c ?k⟩;(case l=>k_is);(case c=>k_is);(case k=>k_is))
  k_is
  k_is
  (refine' ⟨_,L2.aD ?l ?c ?k⟩;(case l=>k_is);(case c=>k_is);(case k=>k_is))
  k_is
  (refine' ⟨_,L2.aD ?l ?c ?k⟩;(case l=>k_is);(case c=>k_is);(case k=>k_is))
  k_is
  (refine' ⟨_,L2.aD ?l ?c ?k⟩;(case l=>k_is);(case c=>k_is);(case k=>k_is))
  k_is
  (refine' ⟨_,L2.aD ?l ?c ?k⟩;(case l=>k_is);(case c=>k_is);(case k=>k_is))
  k_is
  (refine' ⟨_,L2.aD ?l ?c ?k⟩;(case l=>k_is);(case c=>k_is);(case k=>k_is))
  k_is
  (refine' ⟨_,L2.aD ?l ?c ?k⟩;(case l=>k_is);(case c=>k_is);(case k=>k_is))
  k_is
  (refine' ⟨_,L2.aD ?l ?c ?k⟩;(case l=>k_is);(case c=>k_is);(case k=>k_is))
  k_is
  (refine' ⟨_,L2.aD ?l ?c ?k⟩;(case l=>k_is);(case c=>k_is);(case k=>k_is))
  k_is
  (refine' ⟨_,L2.aD ?l ?c ?k⟩;(case l=>k_is);(case c=>k_is);(case k=>k_is))
  k_is
  (refine' ⟨_,L2.aD ?l ?c ?k⟩;(case l=>k_is);(case c=>k_is);(case k=>k_is))
  k_is
  (refine' ⟨_,L2.aD ?l ?c ?k⟩;(case l=>k_is);(case c=>k_is);(case k=>k_is))
  k_is
  (refine' ⟨_,L2.aD ?l ?c ?k⟩;(case l=>k_is);(case c=>k_is);(case k=>k_is))
  k_is
  (refine' ⟨_,L2.aD ?l ?c ?k⟩;(case l=>k_is);(case c=>k_is);(case k=>k_is))
  k_is
  (refine' ⟨_,L2.aD ?l ?c ?k⟩;(case l=>k_is);(case c=>k_is);(case k=>k_is))
  k_is
  (refine' ⟨_,L2.aD ?l ?c ?k⟩;(case l=>k_is);(case c=>k_is);(case k=>k_is))
  k_is
  (refine' ⟨_,L2.aD ?l ?c ?k⟩;(case l=>k_is);(case c=>k_is);(case k=>k_is))
  k_is
  (refine' ⟨_,L2.aD ?l ?c ?k⟩;(case l=>k_is);(case c=>k_is);(case k=>k_is))
  k_is
  k_is
  (refine' ⟨_,L2.aD ?l ?c ?k⟩;(case l=>k_is);(case c=>k_is);(case k=>k_is))
  k_is
  k_is
  (refine' ⟨_,L2.aD ?l ?c ?k⟩;(case l=>k_is);(case c=>k_is);(case k=>k_is))
  k_is
  k_is
  (refine' ⟨_,L2.aD ?l ?c ?k⟩;(case l=>k_is);(case c=>k_is);(case k=>k_is))
  k_is
  k_is
  (refine' ⟨_,L2.aD ?l ?c ?k⟩;(case l=>k_is);(case c=>k_is);(case k=>k_is))
  k_is
  k_is
  (refine' ⟨_,L2.aD ?l ?c ?k⟩;(case l=>k_is);(case c=>k_is);(case k=>k_is))
  k_is
  k_is
  (refine' ⟨_,L2.aD ?l ?c ?k⟩;(case l=>k_is);(case c=>k_is);(case k=>k_is))
  k_is
  (refine' ⟨_,L2.aD ?l ?c ?k⟩;(case l=>k_is);(case c=>k_is);(case k=>k_is))
  k_is
  (refine' ⟨_,L2.aD ?l ?c ?k⟩;(case l=>k_is);(case c=>k_is);(case k=>k_is))
  k_is
  k_is
  (refine' ⟨_,L2.aD ?l ?c ?k⟩;(case l=>k_is);(case c=>k_is);(case k=>k_is))
  k_is
  k_is
  (refine' ⟨_,L2.aD ?l ?c ?k⟩;(case l=>k_is);(case c=>k_is);(case k=>k_is))
  k_is
  k_is
  (refine' ⟨_,L2.aD ?l ?c ?k⟩;(case l=>k_is);(case c=>k_is);(case k=>k_is))
  k_is
  k_is
  (refine' ⟨_,L2.aD ?l ?c ?k⟩;(case l=>k_is);(case c=>k_is);(case k=>k_is))
  k_is
  (refine' ⟨_,L2.aD ?l ?c ?k⟩;(case l=>k_is);(case c=>k_is);(case k=>k_is))
  k_is
  (refine' ⟨_,L2.aD ?l ?c ?k⟩;(case l=>k_is);(case c=>k_is);(case k=>k_is))
  k_is
  k_is
  k_is
  k_is
  k_is
  k_is
  k_is
  k_is
  k_is
  k_is
  k_is
  k_is
  k_is
  k_is
  k_is
  k_is
  k_is
  k_is
  k_is
  k_is
  k_is
  k_is
  k_is
  k_is
  k_is
  k_is
  k_is
  k_is
  k_is
  k_is
  k_is
  k_is
  k_is
  k_is
  k_is
  k_is
  k_is
  k_is
  k_is
  k_is
  k_is
  exact ⟨_,_,_,_,_,_,_,_,_,_,_,_,_,Eq.refl _⟩
  k_is
  k_is
  k_is
  k_is
  (refine' Pb.Nt ?l ?e;(case l=>k_is);(case e=>rfl))
  k_is
  exact ⟨_,_,_,Eq.refl _⟩
  exact Eq.refl true
  k_is
  k_is
  k_is
  k_is
  k_is
  k_is
  k_is
  k_is
  k_is
  k_is
  k_is
  k_is
  k_is
  k_is
  k_is
  k_is
  k_is
  k_is
  k_is
  k_is
  k_is
  k_is
  k_is
  k_is
  k_is
  k_is
  k_is
  k_is
  k_is
  k_is
  k_is
  k_is
  k_is
  k_is
  k_is
  k_is
  k_is
  k_is
  k_is
  k_is
  k_is
  k_is
  k_is
  k_is
  k_is
  k_is
  k_is
  k_is
  k_is
  k_is
  k_is
  k_is
  k_is
  k_is
  k_is
  k_is
  k_is
  k_is
  k_is
  k_is
  k_is
  k_is
  k_is
  k_is
  k_is
  k_is
  k_is
  k_is
  k_is
  k_is
  k_is
  k_is
  k_is
  k_is
  k_is
  k_is
  k_is
  k_is
  k_is
  exact ⟨_,Eq.refl _⟩
  exact ⟨_,Eq.refl _⟩
  exact ⟨_,Eq.refl _⟩
  exact ⟨_,Eq.refl _⟩
  exact ⟨_,Eq.refl _⟩
  exact ⟨_,Eq.refl _⟩
  exact ⟨_,Eq.refl _⟩
  exact ⟨_,Eq.refl _⟩
  exact ⟨_,Eq.refl _⟩
  exact ⟨_,Eq.refl _⟩
  exact ⟨_,Eq.refl _⟩
  exact ⟨_,Eq.refl _⟩
  exact ⟨_,Eq.refl _⟩
  exact ⟨_,Eq.refl _⟩
  exact ⟨_,Eq.refl _⟩
  exact ⟨_,Eq.refl _⟩
  exact ⟨_,Eq.refl _⟩
  exact ⟨_,Eq.refl _⟩
  exact ⟨_,Eq.refl _⟩
  exact ⟨_,Eq.refl _⟩
  exact ⟨_,Eq.refl _⟩
  exact ⟨_,Eq.refl _⟩
  exact ⟨_,Eq.refl _⟩
  exact ⟨_,Eq.refl _⟩
  exact ⟨_,Eq.refl _⟩
  exact ⟨_,Eq.refl _⟩
  exact ⟨_,Eq.refl _⟩
  exact ⟨_,Eq.refl _⟩
  exact ⟨_,Eq.refl _⟩
  exact ⟨_,Eq.refl _⟩
  exact ⟨_,Eq.refl _⟩
  exact ⟨_,Eq.refl _⟩
  exact ⟨_,Eq.refl _⟩
  exact ⟨_,Eq.refl _⟩
  exact ⟨_,Eq.refl _⟩
  exact ⟨_,Eq.refl _⟩
  exact ⟨_,Eq.refl _⟩
  exact ⟨_,Eq.refl _⟩
  exact ⟨_,Eq.refl _⟩
  exact ⟨_,Eq.refl _⟩
  exact ⟨_,Eq.refl _⟩
  exact ⟨_,Eq.refl _⟩
  exact ⟨_,Eq.refl _⟩
  exact ⟨_,Eq.refl _⟩
  k_is
  exact ⟨_,_,_,Eq.refl _,Eq.refl _,Eq.refl _,(by show 6<=sizeLine;decide),(.cons ⟨_,rfl⟩ (.cons ⟨_,rfl⟩ (.cons ⟨_,rfl⟩ (.cons ⟨_,rfl⟩ (.cons ⟨_,rfl⟩ (.cons ⟨_,rfl⟩ .nil))))))⟩
  k_is
  exact ⟨_,_,_,Eq.refl _,Eq.refl _,Eq.refl _,(by show 6<=sizeLine;decide),(.cons rfl (.cons rfl (.cons rfl (.cons rfl (.cons rfl (.cons rfl .nil))))))⟩
  k_is
  k_is
  k_is
  k_is
  k_is
  k_is
  k_is
  k_is
  k_is
 case S =>
  intro K H xs a hO hwi hask hx
  cases hx with
  | cons h1 h2 =>
   cases h2
   cases h1 with
   | lst hs ha =>
    have e:=L2.Jf a.1 _ ha
    subst e
    have q:((Codec.inLen 0 16000 a.1 && a.1.all (Codec.inInt 0 18446744073709551615)) && true) = true:=hwi
    rw [Bool.and_eq_true,Bool.and_eq_true] at q
    exact ⟨_,a.1,rfl,hO,hs,(Codec.inNat_iff.mp q.1.1).2,hask,fun H' p hp=>.lst (L2.dj.of hp) (L2.Je _)⟩
