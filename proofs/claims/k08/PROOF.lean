import PyProof.Rows.All
import Wide.All
import OpenK.AllK
import Wide.FinOn
import Lean
import PyProof.EqAt
import PyProof.EqKinds
import PyProof.TupleCall
import PyProof.ExcInit
import PyProof.ExcClass3
import PyProof.ExcBaseAll.ValueError
import PyProof.InstStoreFacts
import KE.KTryMore
import PyProof.RulesAs
import PyProof.NsDelKeeps
import PyProof.Rows.SortRuns
import KE.KDictSum
import KE.KSortTup
import PyProof.Rows.SetFrom
import PyProof.Rows.MinMaxN
import KE.KDictOf
import PySem.Challenge.RW_beamtender_k08_every_door
set_option genSizeOf false
set_option bootstrap.genMatcherCode false
set_option Elab.async false
set_option linter.all false
set_option maxRecDepth 100000
set_option maxHeartbeats 4000000
/-! THE HAND LAYER,for ints,bools,texts,own classes,LISTS and tuples (index,slices,in,append,pop ..),calls,loops. Paste it whole ahead of your own text;what your proof does not reach may be deleted. -/
namespace L2
open PySem PySem.Spec PyProof.Rows
noncomputable abbrev Key:=Sum Int Str
noncomputable def zH9:Key->Value->Bool
 | .inl k,v=>Value.isInt k v
 | .inr x,v=>Value.isStrOf x v
noncomputable def keyH (w:World):Key->Int
 | .inl k=>hashInt k
 | .inr x=>hashStr w x
theorem zd7:∀ {k:Key} {v:Value},zH9 k v=true->(∃ i t,k=Sum.inl i/\v=Value.int i t)\/(∃ x t,k=Sum.inr x/\v=Value.str x t)
 | .inl i,v,h=>by
   obtain ⟨t,e⟩:=Value.isInt_shape (k:=i) (v:=v) h
   exact .inl ⟨i,t,rfl,e⟩
 | .inr x,v,h=>by
   obtain ⟨t,e⟩:=Value.isStrOf_shape (x:=x) (v:=v) h
   exact .inr ⟨x,t,rfl,e⟩
theorem key_ll (a b:Int):decide ((Sum.inl a:Key)=Sum.inl b)=(a == b):=by
 by_cases e:a=b
 . subst e;simp
 . have h:¬ (Sum.inl a:Key)=Sum.inl b:=fun q=>e (Sum.inl.inj q)
   rw[decide_eq_false h]
   exact (beq_eq_false_iff_ne.mpr e).symm
theorem key_rr (a b:Str):decide ((Sum.inr a:Key)=Sum.inr b)=decide (a=b):=by
 by_cases e:a=b
 . subst e;simp
 . have h:¬ (Sum.inr a:Key)=Sum.inr b:=fun q=>e (Sum.inr.inj q)
   rw[decide_eq_false h,decide_eq_false e]
theorem key_lr (a:Int) (b:Str):decide ((Sum.inl a:Key)=Sum.inr b)=false:=decide_eq_false (fun q=>nomatch q)
theorem key_rl (a:Str) (b:Int):decide ((Sum.inr a:Key)=Sum.inl b)=false:=decide_eq_false (fun q=>nomatch q)
noncomputable def zD0 (prog:Program) (w:World):PySem.KeyKind prog w Key where
 is:=zH9
 hash:=keyH w
 inj:=fun v a b ha hb=>by
   rcases zd7 ha with ⟨i,t,rfl,rfl⟩ | ⟨x,t,rfl,rfl⟩
   . rcases zd7 hb with ⟨j,u,rfl,e⟩ | ⟨y,u,rfl,e⟩
     . injection e with e1 _;rw[e1]
     . exact nomatch e
   . rcases zd7 hb with ⟨j,u,rfl,e⟩ | ⟨y,u,rfl,e⟩
     . exact nomatch e
     . injection e with e1 _;rw[e1]
 byValue:=fun k v h=>by
   rcases zd7 h with ⟨i,t,rfl,rfl⟩ | ⟨x,t,rfl,rfl⟩<;>rfl
 pyHash:=fun hv h=>by
   rcases zd7 hv with ⟨i,t,rfl,rfl⟩ | ⟨x,t,rfl,rfl⟩
   . exact wpAny_pyHash_int h
   . exact wpAny_pyHash_str h
 eqBool:=fun hu hv h=>by
   rcases zd7 hu with ⟨i,t,rfl,rfl⟩ | ⟨x,t,rfl,rfl⟩
   . rcases zd7 hv with ⟨j,u,rfl,rfl⟩ | ⟨y,u,rfl,rfl⟩
     . rw[key_ll] at h;exact wpAny_eqBool_int h
     . rw[key_lr] at h;exact SeqAt.EqAt.int_str i t y u _ _ _ _ h
   . rcases zd7 hv with ⟨j,u,rfl,rfl⟩ | ⟨y,u,rfl,rfl⟩
     . rw[key_rl] at h;exact SeqAt.EqAt.str_int x t j u _ _ _ _ h
     . rw[key_rr] at h;exact wpAny_eqBool_str h
 «strs»:=fun k x t v h=>by
   rcases zd7 h with ⟨i,u,rfl,e⟩ | ⟨y,u,rfl,e⟩
   . exact nomatch e
   . injection e with e1 _
     subst e1
     cases v<;>rfl
end L2
namespace L2
open PySem PySem.Spec PyProof.Rows
inductive V where
 | non | bl (b:Bool) | int (i:Int) | str (x:Str) | byt (b:Array UInt8) | flt (b:UInt64) | ref (a:Addr) | ty (n:String)
 deriving DecidableEq
noncomputable def RelV:V->Value->Prop
 | .non,u=>u=Value.none
 | .bl b,u=>u=Value.bool b
 | .int i,u=>∃ t,u=Value.int i t
 | .str x,u=>∃ t,u=Value.str x t
 | .byt b,u=>∃ t,u=Value.bytes b t
 | .flt b,u=>∃ t,u=Value.float b t
 | .ref a,u=>u=Value.ref a
 | .ty n,u=>u=Value.type n
noncomputable abbrev Vals:List V->List Value->Prop:=Paired RelV
theorem Vals.length {xs:List V} {us:List Value} (r:Vals xs us):xs.length=us.length:=Paired.length r
theorem Vals.get:∀ {xs:List V} {us:List Value} {i:Nat} {x:V},Vals xs us->xs[i]?=some x->∃ u,us[i]?=some u/\RelV x u
 | _,_,_,_,.nil,e=>by simp at e
 | _,_,0,_,.cons r _,e=>by simp at e;subst e;exact⟨_,rfl,r⟩
 | _,_,i+1,x,.cons _ t,e=>by
   obtain ⟨u,h1,h2⟩:=Vals.get (i:=i) (x:=x) t (by simpa using e)
   exact⟨u,by simpa using h1,h2⟩
theorem Vals.set {x:V} {u:Value} (r:RelV x u):∀ {xs:List V} {us:List Value} (i:Nat),Vals xs us->Vals (xs.set i x) (us.set i u)
 | _,_,_,.nil=>.nil
 | _,_,0,.cons _ t=>.cons r t
 | _,_,i+1,.cons q t=>.cons q (Vals.set r i t)
theorem Vals.append:∀ {xs ys:List V} {us ws:List Value},Vals xs us->Vals ys ws->Vals (xs++ys) (us++ws)
 | _,_,_,_,.nil,s=>s
 | _,_,_,_,.cons r t,s=>.cons r (Vals.append t s)
theorem Vals.take:∀ {xs:List V} {us:List Value} (n:Nat),Vals xs us->Vals (xs.take n) (us.take n)
 | _,_,0,_=>.nil
 | _,_,_+1,.nil=>.nil
 | _,_,n+1,.cons r t=>.cons r (Vals.take n t)
theorem Vals.drop:∀ {xs:List V} {us:List Value} (n:Nat),Vals xs us->Vals (xs.drop n) (us.drop n)
 | _,_,0,r=>r
 | _,_,_+1,.nil=>.nil
 | _,_,n+1,.cons _ t=>Vals.drop n t
noncomputable def RelO:Option V->Option Value->Prop
 | some v,some u=>RelV v u
 | none,none=>True
 | _,_=>False
noncomputable def KV {κ:Type}:List (κ×V)->List (κ×Value)->Prop:=Paired fun (p:κ×V) (q:κ×Value)=>p.1=q.1/\RelV p.2 q.2
noncomputable def kV:Key->V
 | .inl i=>.int i
 | .inr x=>.str x
inductive HO where
 | lst (xs:List V)
 | tup (xs:List V)
 | dK (kvs:List (Key×V)) | dT (kvs:List (List Key×V))
 | set (S:Int->Bool) (n:Nat)
 | ins (C dx:Addr) (fs:List (Str×V))
 | own (x:Addr)
 | xd (fs:List (Str×V))
 | met (f x:Addr)
 | rng (lo hi:Int)
 | frz (o:Obj) (u:HO)
 | tbl (ps:Array Value)
 | ext (φ:Heap->Prop)
noncomputable abbrev Hp:=Addr->Option HO
noncomputable def upd (H:Hp) (a:Addr) (o:HO):Hp:=fun b=>if b=a then some o else H b
theorem za3 {H:Hp} {a:Addr} {o:HO}:upd H a o a=some o:=by unfold upd;rw[if_pos rfl]
theorem za7 {H:Hp} {a b:Addr} {o:HO} (h:b≠a):upd H a o b=H b:=by unfold upd;rw[if_neg h]
theorem zh0 {H:Hp} {a:Addr} {o u:HO}:upd (upd H a o) a u=upd H a u:=by
 funext b;unfold upd;split<;>rfl
theorem zr9 {H:Hp} {a b:Addr} {o u:HO} (h:H a=some o) (h':H b=some u) (d:o≠u):a≠b:=by
 intro e;subst e;rw[h] at h';exact d (Option.some.inj h')
theorem zb1 {H:Hp} {a b:Addr} {o:HO} (h:H a=some o) (h':H b=none):a≠b:=by
 intro e;subst e;rw[h] at h';cases h'
noncomputable def TupD (h:Heap) (a:Addr) (items:Array Value):Prop:=∃ o,h.get? a=some o/\o.cls = .type "tuple"/\o.dict=none/\∃ n,o.data = .seq items n
theorem TupD.isTup {h:Heap} {a:Addr} {items:Array Value} (x:TupD h a items):IsTup h a items:=let ⟨o,e,c,_,n,d⟩:=x;⟨o,e,c,n,d⟩
theorem TupD.new (h:Heap) (items:Array Value):TupD (h.push { cls:=.type "tuple",data:=.seq items }) h.objs.size items:=⟨_,Heap.get?_push_size _ rfl,rfl,rfl,_,rfl⟩
section
variable (P:Program) (w:World)
noncomputable def ze6 (H:Hp) (h:Heap) (a:Addr):HO->Prop
 | .lst xs=>xs.length<=sizeLine/\∃ (its:List Value) (n:Nat),Vals xs its/\h.get? a=some { cls:=.type "list",data:=.seq its.toArray n }
 | .tup xs=>xs.length<=sizeLine/\∃ its:List Value,Vals xs its/\TupD h a its.toArray
 | .dK kvs=>kvs.length<=sizeLine/\(a == sysModules)=false/\∃ vs,KV kvs vs/\h.DictOf (zD0 P w) a vs
 | .dT kvs=>kvs.length<=sizeLine/\(a == sysModules)=false/\∃ xs:List (List Key×Addr×Value),
     Paired (fun (p:List Key×V) (q:List Key×Addr×Value)=>p.1=q.1/\H q.2.1=some (.tup (p.1.map kV))/\RelV p.2 q.2.2) kvs xs ∧
     ∃ o es ep,h.get? a=some o/\o.ExactDict/\o.data = .dict es ep/\es.toList=xs.map (entryOfKey (tupleKind (zD0 P w)))/\(xs.map (·.1)).Nodup
 | .set S n=>h.SetOf (intKind P w) a S n
 | .ins C dx fs=>H dx=some (.own a)/\fs.length<=1000/\dx≠a/\h.get? a=some (PySem.W.instObj C dx) ∧
     ∃ mA,h.Ns1 dx mA/\(∀ f,RelO (fs.lookup f) (mA f))/\PySem.Within mA (fs.map (·.1))
 | .own _=>∃ o,h.get? a=some o
 | .xd fs=>fs.length<=1000/\∃ mA,h.Ns1 a mA/\(∀ f,RelO (fs.lookup f) (mA f))/\PySem.Within mA (fs.map (·.1))
 | .rng lo hi=>∃ t u v,h.get? a=some { cls:=.type "range",data:=.fields #[.int lo t,.int hi u,.int 1 v] }
 | .frz o u=>h.get? a=some o/\ze6 H h a u
 | .tbl ps=>h.get? a=some { cls:=.none,data:=.fields ps }
 | .met f x=>h.get? a=some (PySem.W.methodObj (.ref f) (.ref x))
 | .ext φ=>φ h/\(∃ o,h.get? a=some o)/\∀ h1 h2:Heap,φ h1->(∀ o,h1.get? a=some o->h2.get? a=some o)->φ h2
noncomputable def HOk (H:Hp) (h:Heap):Prop:=∀ a o,H a=some o->ze6 P w H h a o
end
section
variable {P:Program} {w:World} {H H':Hp} {h h':Heap} {a:Addr} {o:HO}
theorem ze6.lt (x:ze6 P w H h a o):a<h.objs.size:=by
 cases o with
 | lst xs=>obtain ⟨_,_,_,_,e⟩:=x;exact Heap.lt_size e
 | tup xs=>obtain ⟨_,_,_,_,e,_⟩:=x;exact Heap.lt_size e
 | dK kvs=>obtain ⟨_,_,_,_,o,_,_,e,_⟩:=x;exact Heap.lt_size e
 | dT kvs=>obtain ⟨_,_,_,_,o,_,_,e,_⟩:=x;exact Heap.lt_size e
 | set S n=>obtain ⟨o,_,_,_,e,_⟩:=x;exact Heap.lt_size e
 | ins C dx fs=>obtain ⟨_,_,_,e,_⟩:=x;exact Heap.lt_size e
 | own y=>obtain ⟨_,e⟩:=x;exact Heap.lt_size e
 | xd fs=>obtain ⟨_,_,⟨_,_,_,e,_⟩,_⟩:=x;exact Heap.lt_size e
 | rng lo hi=>obtain ⟨_,_,_,e⟩:=x;exact Heap.lt_size e
 | frz ob u=>obtain ⟨e,_⟩:=x;exact Heap.lt_size e
 | tbl ps=>exact Heap.lt_size (show h.get? a=some _ from x)
 | met f y=>exact Heap.lt_size (show h.get? a=some _ from x)
 | ext φ=>obtain ⟨_,⟨_,e⟩,_⟩:=x;exact Heap.lt_size e
theorem Paired.mapP {α β:Type} {F G:α->β->Prop}:∀ {l₁:List α} {l₂:List β},Paired F l₁ l₂->(∀ a b,F a b->G a b)->Paired G l₁ l₂
 | _,_,.nil,_=>.nil
 | _,_,.cons r t,f=>.cons (f _ _ r) (Paired.mapP t f)
theorem ze6.stay (x:ze6 P w H h a o) (k:∀ b u,(b=a\/H b=some (.own a))->h.get? b=some u->h'.get? b=some u)
   (ho:∀ b,H b=some (.own a)->H' b=some (.own a)) (ht:∀ b xs,H b=some (.tup xs)->H' b=some (.tup xs)):ze6 P w H' h' a o:=by
 induction o with
 | lst xs=>obtain ⟨z,its,n,r,e⟩:=x;exact⟨z,its,n,r,k _ _ (.inl rfl) e⟩
 | tup xs=>obtain ⟨z,its,r,ob,e,c⟩:=x;exact⟨z,its,r,ob,k _ _ (.inl rfl) e,c⟩
 | dK kvs=>obtain ⟨z,y,vs,r,ob,es,ep,e,c⟩:=x;exact⟨z,y,vs,r,ob,es,ep,k _ _ (.inl rfl) e,c⟩
 | dT kvs =>
   obtain ⟨z,y,xs,r,ob,es,ep,e,c⟩:=x
   exact⟨z,y,xs,Paired.mapP r fun p q z=>⟨z.1,ht _ _ z.2.1,z.2.2⟩,ob,es,ep,k _ _ (.inl rfl) e,c⟩
 | set S n=>obtain ⟨ob,es,ep,t,e,c⟩:=x;exact⟨ob,es,ep,t,k _ _ (.inl rfl) e,c⟩
 | ins C dx fs =>
   obtain ⟨d,z,ne,e,mA,⟨od,es,ep,e2,c⟩,r⟩:=x
   exact⟨ho _ d,z,ne,k _ _ (.inl rfl) e,mA,⟨od,es,ep,k _ _ (.inr d) e2,c⟩,r⟩
 | own y=>obtain ⟨ob,e⟩:=x;exact⟨ob,k _ _ (.inl rfl) e⟩
 | xd fs=>obtain ⟨z,mA,⟨od,es,ep,e,c⟩,r⟩:=x;exact⟨z,mA,⟨od,es,ep,k _ _ (.inl rfl) e,c⟩,r⟩
 | rng lo hi=>obtain ⟨t,u,v,e⟩:=x;exact⟨t,u,v,k _ _ (.inl rfl) e⟩
 | frz ob u ih=>obtain ⟨e,q⟩:=x;exact⟨k _ _ (.inl rfl) e,ih q⟩
 | tbl ps =>
   have e:h.get? a=some { cls:=.none,data:=.fields ps }:=x
   show h'.get? a=some { cls:=.none,data:=.fields ps }
   exact k a _ (.inl rfl) e
 | met f y =>
   have e:h.get? a=some (PySem.W.methodObj (.ref f) (.ref y)):=x
   show h'.get? a=some (PySem.W.methodObj (.ref f) (.ref y))
   exact k a _ (.inl rfl) e
 | ext φ=>obtain ⟨p,⟨o,e⟩,st⟩:=x;exact⟨st _ _ p fun o q=>k _ _ (.inl rfl) q,⟨o,k _ _ (.inl rfl) e⟩,st⟩
theorem HOk.lt (x:HOk P w H h) (e:H a=some o):a<h.objs.size:=(x a o e).lt
theorem HOk.fresh (x:HOk P w H h) (e:h.objs.size<=a):H a=none:=by
 cases q:H a with
 | none=>rfl
 | some u=>exact absurd (Nat.lt_of_lt_of_le (x.lt q) e) (Nat.lt_irrefl _)
theorem HOk.kept (x:HOk P w H h) (k:∀ b u,h.get? b=some u->h'.get? b=some u):HOk P w H h':=fun a o e =>
 (x a o e).stay (fun b u _ q=>k b u q) (fun _ q=>q) fun _ _ q=>q
theorem HOk.laid (x:HOk P w H h) (k:∀ b u,h.get? b=some u->h'.get? b=some u) (hp:h.objs.size<=a) (new:ze6 P w (upd H a o) h' a o):HOk P w (upd H a o) h':=fun b u e=>by
 have hn:=x.fresh hp
 by_cases hb:b=a
 . subst hb;rw[za3] at e;cases e;exact new
 . rw[za7 hb] at e
   exact (x b u e).stay (fun c v _ q=>k c v q) (fun c q=>by rw[za7 (zb1 q hn)];exact q) fun c xs q=>by rw[za7 (zb1 q hn)];exact q
end
noncomputable def Rd (H:Hp) (a:Addr) (u:HO):Prop:=H a=some u\/∃ o,H a=some (.frz o u)
theorem Rd.ok {P:Program} {w:World} {H:Hp} {h:Heap} {a:Addr} {u:HO} (r:Rd H a u) (x:HOk P w H h):ze6 P w H h a u:=by
 rcases r with r | ⟨o,r⟩
 . exact x a u r
 . obtain ⟨_,q⟩:=x a _ r
   exact q
noncomputable def Mut:Option HO->Prop
 | some (.lst _)=>True
 | some (.dK _)=>True
 | some (.dT _)=>True
 | some (.set _ _)=>True
 | some (.ins _ _ _)=>True
 | some (.ext _)=>True
 | some (.xd _)=>True
 | _=>False
section
variable {P:Program} {w:World} {H:Hp} {h h':Heap} {x e:Addr} {o':HO}
theorem HOk.write (ok:HOk P w H h) (mu:Mut (H x)) (he:e=x\/H e=some (.own x)) (k:∀ b u,b≠e->h.get? b=some u->h'.get? b=some u) (heo:∃ u,h'.get? e=some u)
   (new:ze6 P w (upd H x o') h' x o'):HOk P w (upd H x o') h':=fun b u q=>by
 have nown:∀ c y,H c=some (.own y)->c≠x:=fun c y r z=>by subst z;rw[r] at mu;exact mu
 have ntup:∀ c xs,H c=some (.tup xs)->c≠x:=fun c xs r z=>by subst z;rw[r] at mu;exact mu
 by_cases hb:b=x
 . subst hb;rw[za3] at q;cases q;exact new
 . rw[za7 hb] at q
   by_cases hbe:b=e
   . have q':H b=some (.own x):=by
       rcases he with z | z
       . exact absurd (hbe.trans z) hb
       . rw[hbe];exact z
     rw[q] at q';cases q'
     obtain ⟨v,hv⟩:=heo
     exact⟨v,by rw[hbe];exact hv⟩
   . refine (ok b u q).stay (fun c v hc r=>k c v ?_ r) (fun c r=>by rw[za7 (nown c b r)];exact r) fun c xs r=>by rw[za7 (ntup c xs r)];exact r
     rcases hc with rfl | hc
     . exact hbe
     . rintro rfl
       rcases he with z | z
       . exact nown c b hc z
       . rw[hc] at z;cases z;exact hb rfl
end
/-! ### kept unless tracked;of the frames at fs (the callers') the slots may change (an exception that passes writes there);of the records at ex (iterators) nothing is said -/
structure Un (fs ex:List Addr) (H H':Hp) (h h':Heap):Prop where
 keep:∀ b o,h.get? b=some o->H b=none->b∉fs->b∉ex->h'.get? b=some o
 slot:∀ b o,h.get? b=some o->H b=none->b∈fs->b∉ex->∃ sl,h'.get? b=some { o with slots:=sl }
 free:∀ b o,h.get? b=some o->H b=none->b∉ex->H' b=none
 there:∀ b o,h.get? b=some o->b∉ex->∃ o',h'.get? b=some o'
 tups:∀ b xs,H b=some (.tup xs)->H' b=some (.tup xs)
 frzs:∀ b o u,H b=some (.frz o u)->H' b=some (.frz o u)
 tbls:∀ b ps,H b=some (.tbl ps)->∃ more,H' b=some (.tbl (ps++more))
section
variable {fs fs' ex ex':List Addr} {H H1 H2:Hp} {h h1 h2 h':Heap} {a x e:Addr} {o:HO}
theorem Un.any (u:Un fs ex H H1 h h1) {b:Addr} {ob:Obj} (q:h.get? b=some ob) (n:H b=none) (hx:b∉ex):∃ sl,h1.get? b=some { ob with slots:=sl }:=by
 by_cases hb:b∈fs
 . exact u.slot b ob q n hb hx
 . exact⟨ob.slots,u.keep b ob q n hb hx⟩
theorem Un.kept (k:∀ b u,h.get? b=some u->h'.get? b=some u):Un fs ex H H h h' :=
 ⟨fun b ob q _ _ _=>k b ob q,fun b ob q _ _ _=>⟨ob.slots,k b ob q⟩,fun _ _ _ n _=>n,fun b ob q _=>⟨ob,k b ob q⟩,fun _ _ q=>q,fun _ _ _ q=>q,fun _ ps q=>⟨#[],by rw[q];simp⟩⟩
theorem Un.refl:Un fs ex H H h h:=Un.kept fun _ _ q=>q
theorem Un.laid (k:∀ b u,h.get? b=some u->h'.get? b=some u) (hp:h.objs.size<=a) (hn:H a=none):Un fs ex H (upd H a o) h h' where
 keep:=fun b u q _ _ _=>k b u q
 slot:=fun b u q _ _ _=>⟨u.slots,k b u q⟩
 free:=fun b u q n _=>by rw[za7 (Nat.ne_of_lt (Nat.lt_of_lt_of_le (Heap.lt_size q) hp))];exact n
 there:=fun b u q _=>⟨u,k b u q⟩
 tups:=fun b xs q=>by rw[za7 (zb1 q hn)];exact q
 frzs:=fun b u xs q=>by rw[za7 (zb1 q hn)];exact q
 tbls:=fun b ps q=>⟨#[],by rw[za7 (zb1 q hn),q];simp⟩
theorem Un.write (mu:Mut (H x)) (he:e=x\/H e=some (.own x)) (k:∀ b u,b≠e->h.get? b=some u->h'.get? b=some u) (heo:∃ u,h'.get? e=some u):Un fs ex H (upd H x o) h h':=by
 have hx:∀ b,H b=none->b≠x:=fun b n z=>by subst z;rw[n] at mu;exact mu
 have hb:∀ b,H b=none->b≠e:=fun b n z=>by
   subst z
   rcases he with r | r
   . exact hx b n r
   . rw[n] at r;cases r
 have hm:∀ b u,H b=some u->¬ Mut (some u)->b≠x:=fun b u q nm z=>by subst z;rw[q] at mu;exact nm mu
 refine⟨fun b u q n _ _=>k b u (hb b n) q,fun b u q n _ _=>⟨u.slots,k b u (hb b n) q⟩,fun b u q n _=>by rw[za7 (hx b n)];exact n,fun b u q _=>?_,
   fun b xs q=>by rw[za7 (hm b _ q fun z=>z)];exact q,fun b u xs q=>by rw[za7 (hm b _ q fun z=>z)];exact q,fun b ps q=>⟨#[],by rw[za7 (hm b _ q fun z=>z),q];simp⟩⟩
 by_cases hbe:b=e
 . subst hbe;exact heo
 . exact⟨u,k b u hbe q⟩
end
/-! ### the heap without what is tracked -/
noncomputable def trk (h:Heap) (H:Hp):List Addr:=(List.range h.objs.size).filter fun a=>(H a).isSome
noncomputable def hidT (h:Heap) (H:Hp):Heap:=PySem.W.hideAll h (trk h H)
theorem hidT_size (h:Heap) (H:Hp):(hidT h H).objs.size=h.objs.size:=PySem.W.hideAll_size _ _
theorem hidT_get {h:Heap} {H:Hp} {b:Addr} {o:Obj} (e:h.get? b=some o) (n:H b=none):(hidT h H).get? b=some o :=
 PySem.W.hideAll_get _ e fun hm=>by
   have q:(H b).isSome=true:=(List.mem_filter.mp hm).2
   rw[n] at q;simp at q
theorem of_hidT {h:Heap} {H:Hp} {b:Addr} {o:Obj} (e:(hidT h H).get? b=some o):h.get? b=some o/\H b=none:=by
 have e':h.get? b=some o:=PySem.W.of_hideAll (trk h H) e
 refine⟨e',?_⟩
 cases q:H b with
 | none=>rfl
 | some x =>
   have hm:b∈trk h H:=List.mem_filter.mpr ⟨List.mem_range.mpr (Heap.lt_size e'),by simp[q]⟩
   have z:(hidT h H).get? b=none:=PySem.W.hideAll_none (trk h H) hm
   rw[z] at e;cases e
/-! ### OpenK's ledger,filled with every new object but one -/
end L2
namespace L2
open PySem PySem.Spec PyProof.Rows
structure Mod (K:PySem.W.Frag) (mg:Str->Option Value) (base:Heap):Prop where
 kin:K.In base
 glob:base.Ns mainGlobals mg
 blt:∃ mb,base.Ns builtinsNs mb/\∀ x:Str,x≠"__name__"->mb x=bootBuiltins x
 nolimit:base.NoLimit
structure Cx where
 prog:Program
 w:World
 K:PySem.W.Frag
 mg:Str->Option Value
 base:Heap
 A:Around
 N:List Str
 s₀:Shared
 H₀:Hp
 env:Env
 outer:List Env
 stack:List Env
 ex:List Addr
 fn:Str->Bool
 calm:Bool
 pn:List (Addr×Obj)
 xe:Value->Shared->Prop
noncomputable def frs (l:List Env):List Addr:=l.filterMap (·.frame)
noncomputable abbrev Cx.fs (X:Cx):List Addr:=frs X.outer
noncomputable def Vis (sc:Scope) (x:Str):Prop:=sc.names.lookup x=some .local\/sc.names.lookup x=some .cell\/sc.names.lookup x=some .free
noncomputable def Loc (sc:Scope) (x:Str):Prop:=sc.names.lookup x=some .local\/sc.names.lookup x=some .cell
noncomputable def Look (env:Env) (h:Heap) (m:Str->Option Value) (x:Str) (u:Value):Prop :=
 (env.kindOf x=some .local/\m x=some u)\/((env.kindOf x=some .cell\/env.kindOf x=some .free)/\∃ c,env.cells.lookup x=some c/\h.IsCell c (some u))
structure Cx.Ok (X:Cx):Prop where
 mod:Mod X.K X.mg X.base
 kind:X.env.scope.kind = .function
 glob:X.env.globals=mainGlobals
 blt:X.env.builtins=builtinsNs
 above:X.s₀.heap.objs.size<=X.env.locals
 inj:∀ x y c,X.env.cells.lookup x=some c->X.env.cells.lookup y=some c->x=y
 has:∀ x,(X.env.kindOf x=some .cell\/X.env.kindOf x=some .free)->∃ c,X.env.cells.lookup x=some c
 cab:∀ x c,X.fn x=true->X.env.cells.lookup x=some c->X.s₀.heap.objs.size<=c
 hd:X.calm=true->X.A.handled=none
 frames:X.A.frames=some X.stack
 stk:X.stack=X.outer\/(X.stack=X.env::X.outer/\X.env.frame=some X.env.locals)
 exf:∀ b∈X.ex,b≠X.env.locals/\∀ x c,X.env.cells.lookup x=some c->c≠b
 bs:∀ b o,X.base.get? b=some o->X.s₀.heap.get? b=some o/\X.H₀ b=none
 bsz:X.base.objs.size<=X.s₀.heap.objs.size
 noex:∀ b o,X.base.get? b=some o->b∉X.ex
 exfs:∀ b∈X.ex,b∉X.fs
 funs:X.s₀.heap.FunFrames X.base X.outer
 frf:∀ b∈X.fs,X.H₀ b=none
structure Inv (X:Cx) (pins:List (Addr×Obj)) (σ:List (Option V)) (H:Hp) (s:Shared):Prop where
 ok:X.Ok
 os:s.os=X.s₀.os
 bare:AllBare s.gens
 base:Un X.fs X.ex X.H₀ H X.s₀.heap s.heap
 loc:∃ m,s.heap.Ns X.env.locals m/\∀ (i:Nat) (x:Str) (v:V),X.N[i]?=some x->σ[i]?=some (some v)->Vis X.env.scope x->∃ u,RelV v u/\Look X.env s.heap m x u
 cell:∀ x c,X.env.cells.lookup x=some c->∃ v,s.heap.IsCell c v
 free:H X.env.locals=none
 freeC:∀ x c,X.env.cells.lookup x=some c->H c=none
 pin:∀ p∈X.pn++pins,s.heap.get? p.1=some p.2/\H p.1=none/\p.1≠X.env.locals/\p.1∉X.fs/\∀ v,p.2.data≠.cell v
 hok:HOk X.prog X.w H s.heap
 len:σ.length=X.N.length
section
variable {X:Cx} {pins:List (Addr×Obj)} {σ:List (Option V)} {H H':Hp} {s:Shared} {h':Heap}
theorem Cx.Ok.nofr (ok:X.Ok) {b:Addr} {o:Obj} (e:X.base.get? b=some o):b∉X.fs:=fun hb=>by
 have:=(ok.funs.mem hb).1
 rw[e] at this;cases this
theorem Inv.bs (I:Inv X pins σ H s):∀ b o,X.base.get? b=some o->s.heap.get? b=some o/\H b=none:=fun b o e =>
 ⟨I.base.keep b o (I.ok.bs b o e).1 (I.ok.bs b o e).2 (I.ok.nofr e) (I.ok.noex b o e),I.base.free b o (I.ok.bs b o e).1 (I.ok.bs b o e).2 (I.ok.noex b o e)⟩
theorem Inv.bk (I:Inv X pins σ H s):∀ b o,X.base.get? b=some o->s.heap.get? b=some o:=fun b o e=>(I.bs b o e).1
theorem Inv.mod (I:Inv X pins σ H s):Mod X.K X.mg X.base:=I.ok.mod
theorem Inv.kIn (I:Inv X pins σ H s):X.K.In s.heap:=I.ok.mod.kin.keeps I.bk
theorem Inv.lt (I:Inv X pins σ H s):X.env.locals<s.heap.objs.size:=let ⟨_,hn,_⟩:=I.loc;hn.lt
theorem Inv.sz (I:Inv X pins σ H s):X.s₀.heap.objs.size<=s.heap.objs.size:=Nat.le_trans I.ok.above (Nat.le_of_lt I.lt)
theorem Inv.nofs (I:Inv X pins σ H s) {a:Addr} (h:s.heap.objs.size<=a):a∉X.fs:=fun hb=>by
 obtain ⟨_,o,ho,_⟩:=I.ok.funs.mem hb
 exact absurd (Nat.lt_of_lt_of_le (Heap.lt_size ho) (Nat.le_trans I.sz h)) (Nat.lt_irrefl _)
theorem Inv.cne (I:Inv X pins σ H s):∀ x c,X.env.cells.lookup x=some c->c≠X.env.locals:=fun x c e z=>by
 obtain ⟨v,o,ho,hd⟩:=I.cell x c e
 obtain ⟨m,⟨o',es,ep,ho',hd',_⟩,_⟩:=I.loc
 rw[z,ho'] at ho;cases ho;rw[hd'] at hd;cases hd
theorem Inv.funs (I:Inv X pins σ H s):s.heap.FunFrames X.base X.outer:=by
 have all:∀ (l:List Env),(∀ b∈frs l,b∈X.fs)->X.s₀.heap.FunFrames X.base l->s.heap.FunFrames X.base l:=by
   intro l
   induction l with
   | nil=>intro _ _;trivial
   | cons env r ih =>
     intro hs hl
     obtain ⟨hk,⟨L,o,hf,hn,ho,hd⟩,hr⟩:=hl
     have hL:L∈X.fs:=hs L (by unfold frs;rw[List.filterMap_cons,hf];exact List.mem_cons_self)
     obtain ⟨sl,e⟩:=I.base.slot L o ho (I.ok.frf L hL) hL fun z=>I.ok.exfs L z hL
     exact⟨hk,⟨L,_,hf,hn,e,hd⟩,ih (fun b hb=>hs b (by unfold frs;rw[List.filterMap_cons,hf];exact List.mem_cons_of_mem _ hb)) hr⟩
 exact all X.outer (fun _ hb=>hb) I.ok.funs
theorem Inv.stack (I:Inv X pins σ H s):s.heap.FunFrames X.base X.stack:=by
 rcases I.ok.stk with e | ⟨e,hf⟩
 . rw[e];exact I.funs
 . rw[e]
   obtain ⟨m,hn,_⟩:=I.loc
   refine .cons (by rw[I.ok.kind];decide) hf hn ?_ I.funs
   exact Heap.get?_none_of_le (Nat.le_trans I.ok.bsz I.ok.above)
theorem Inv.stkSub (I:Inv X pins σ H s):∀ b∈frs X.stack,b∈X.env.locals::X.fs:=fun b hb=>by
 rcases I.ok.stk with e | ⟨e,hf⟩
 . rw[e] at hb;exact List.mem_cons_of_mem _ hb
 . rw[e] at hb
   unfold frs at hb
   rw[List.filterMap_cons,hf] at hb
   exact hb
theorem Inv.stkFree (I:Inv X pins σ H s):∀ b∈frs X.stack,H b=none:=fun b hb=>by
 rcases List.mem_cons.mp (I.stkSub b hb) with e | hb
 . rw[e];exact I.free
 . obtain ⟨_,o,ho,_⟩:=I.ok.funs.mem hb
   exact I.base.free b o ho (I.ok.frf b hb) fun z=>I.ok.exfs b z hb
theorem Inv.step {g':Array GenState} {t':Nat} {d':Drawn} {ch:List Addr} (I:Inv X pins σ H s)
   (hch:∀ b∈ch,(b∈X.ex\/X.s₀.heap.objs.size<=b)/\b≠X.env.locals/\(∀ x c,X.env.cells.lookup x=some c->c≠b)/\∀ p∈X.pn++pins,p.1≠b)
   (keep:∀ b o,b≠X.env.locals->b∉X.fs->b∉ch->s.heap.get? b=some o->H b=none->h'.get? b=some o)
   (slot:∀ b o,b≠X.env.locals->b∈X.fs->b∉ch->s.heap.get? b=some o->H b=none->∃ sl,h'.get? b=some { o with slots:=sl }) (free:∀ b o,b∉ch->s.heap.get? b=some o->H b=none->H' b=none)
   (there:∀ b o,b∉ch->s.heap.get? b=some o->∃ o',h'.get? b=some o')
   (tups:∀ b xs,H b=some (.tup xs)->H' b=some (.tup xs)) (frzs:∀ b o u,H b=some (.frz o u)->H' b=some (.frz o u)) (tbls:∀ b ps,H b=some (.tbl ps)->∃ more,H' b=some (.tbl (ps++more)))
   (ns:∀ m,s.heap.Ns X.env.locals m->h'.Ns X.env.locals m) (hok:HOk X.prog X.w H' h') (hg:AllBare g') :
   Inv X pins σ H' { s with heap:=h',gens:=g',drawn:=d',toks:=t' }:=by
 have neL:∀ b o,X.s₀.heap.get? b=some o->b≠X.env.locals:=fun b o e=>Nat.ne_of_lt (Nat.lt_of_lt_of_le (Heap.lt_size e) I.ok.above)
 have neC:∀ b o,X.s₀.heap.get? b=some o->b∉X.ex->b∉ch:=fun b o e hx hb=>by
   rcases (hch b hb).1 with z | z
   . exact hx z
   . exact absurd (Nat.lt_of_lt_of_le (Heap.lt_size e) z) (Nat.lt_irrefl _)
 have cellK:∀ x c,X.env.cells.lookup x=some c->∀ v,s.heap.IsCell c v->h'.IsCell c v:=fun x c e v ⟨o,ho,hd⟩=>by
   have nch:c∉ch:=fun z=>(hch c z).2.2.1 x c e rfl
   by_cases hc:c∈X.fs
   . obtain ⟨sl,q⟩:=slot c o (I.cne x c e) hc nch ho (I.freeC x c e)
     exact⟨_,q,hd⟩
   . exact⟨o,keep c o (I.cne x c e) hc nch ho (I.freeC x c e),hd⟩
 refine⟨I.ok,I.os,hg,⟨fun b o e n hb hx=>?_,fun b o e n hb hx=>?_,fun b o e n hx=>?_,fun b o e hx=>?_,fun b xs e=>tups b xs (I.base.tups b xs e),fun b o xs e=>frzs b o xs (I.base.frzs b o xs e),fun b ps e=>?_⟩,?_,fun x c e=>?_,?_,fun x c e=>?_,fun p hp=>?_,hok,I.len⟩
 . exact keep b o (neL b o e) hb (neC b o e hx) (I.base.keep b o e n hb hx) (I.base.free b o e n hx)
 . obtain ⟨sl,e1⟩:=I.base.slot b o e n hb hx
   obtain ⟨sl',e2⟩:=slot b _ (neL b o e) hb (neC b o e hx) e1 (I.base.free b o e n hx)
   exact⟨sl',e2⟩
 . obtain ⟨o',e1⟩:=I.base.there b o e hx
   exact free b o' (neC b o e hx) e1 (I.base.free b o e n hx)
 . obtain ⟨o',e1⟩:=I.base.there b o e hx
   exact there b o' (neC b o e hx) e1
 . obtain ⟨m1,e1⟩:=I.base.tbls b ps e
   obtain ⟨m2,e2⟩:=tbls b _ e1
   exact⟨m1++m2,by rw[e2,Array.append_assoc]⟩
 . obtain ⟨m,hn,hl⟩:=I.loc
   refine⟨m,ns m hn,fun i x v e1 e2 e3=>?_⟩
   obtain ⟨u,r,l⟩:=hl i x v e1 e2 e3
   refine⟨u,r,?_⟩
   rcases l with l | ⟨k,c,e,z⟩
   . exact .inl l
   . exact .inr ⟨k,c,e,cellK x c e _ z⟩
 . obtain ⟨v,z⟩:=I.cell x c e
   exact⟨v,cellK x c e v z⟩
 . obtain ⟨m,⟨o,_,_,ho,_⟩,_⟩:=I.loc
   exact free _ o (fun z=>(hch _ z).2.1 rfl) ho I.free
 . obtain ⟨v,o,ho,hd⟩:=I.cell x c e
   exact free c o (fun z=>(hch c z).2.2.1 x c e rfl) ho (I.freeC x c e)
 . obtain ⟨e,n,ne,nf,d⟩:=I.pin p hp
   have nch:p.1∉ch:=fun z=>(hch p.1 z).2.2.2 p hp rfl
   exact⟨keep p.1 p.2 ne nf nch e n,free p.1 p.2 nch e n,ne,nf,d⟩
theorem Inv.un {t':Nat} (I:Inv X pins σ H s) (u:Un X.fs [] H H' s.heap h') (hok:HOk X.prog X.w H' h'):Inv X pins σ H' { s with heap:=h',toks:=t' }:=by
 obtain ⟨m,⟨o,es,ep,ho,r⟩,_⟩:=id I.loc
 obtain ⟨sl,hL⟩:=u.any ho I.free (by simp)
 exact I.step (g':=s.gens) (d':=s.drawn) (ch:=[]) (fun _ z=>nomatch z) (fun b o _ hb _ e n=>u.keep b o e n hb (by simp)) (fun b o _ hb _ e n=>u.slot b o e n hb (by simp)) (fun b o _ e n=>u.free b o e n (by simp)) (fun b o _ e=>u.there b o e (by simp)) u.tups u.frzs u.tbls (fun m' hm=>by
   obtain ⟨o',es',ep',ho',r'⟩:=hm
   rw[ho] at ho';cases ho'
   exact⟨_,es',ep',hL,r'⟩) hok I.bare
theorem Inv.call {g':Array GenState} {t':Nat} {d':Drawn} {ch:List Addr} (I:Inv X pins σ H s) (u:Un (frs X.stack) ch H H' s.heap h') (hok:HOk X.prog X.w H' h') (hg:AllBare g')
   (hch:∀ b∈ch,(b∈X.ex\/X.s₀.heap.objs.size<=b)/\b≠X.env.locals/\(∀ x c,X.env.cells.lookup x=some c->c≠b)/\∀ p∈X.pn++pins,p.1≠b) :
   Inv X pins σ H' { s with heap:=h',gens:=g',drawn:=d',toks:=t' }:=by
 obtain ⟨m,⟨o,es,ep,ho,r⟩,_⟩:=id I.loc
 obtain ⟨sl,hL⟩:=u.any ho I.free fun z=>(hch _ z).2.1 rfl
 exact I.step (ch:=ch) hch (fun b o hL hb hc e n=>u.keep b o e n (fun z=>(List.mem_cons.mp (I.stkSub b z)).elim hL hb) hc) (fun b o _ _ hc e n=>u.any e n hc) (fun b o hc e n=>u.free b o e n hc) (fun b o hc e=>u.there b o e hc) u.tups u.frzs u.tbls (fun m' hm=>by
   obtain ⟨o',es',ep',ho',r'⟩:=hm
   rw[ho] at ho';cases ho'
   exact⟨_,es',ep',hL,r'⟩) hok hg
theorem Inv.turned {t':Nat} {it:Addr} (I:Inv X pins σ H s) (k:∀ b o,b≠it->s.heap.get? b=some o->h'.get? b=some o) (hn:H it=none) (hL:it≠X.env.locals)
   (h1:it∈X.ex\/X.s₀.heap.objs.size<=it) (h2:∀ x c,X.env.cells.lookup x=some c->c≠it) (h3:∀ p∈X.pn++pins,p.1≠it):Inv X pins σ H { s with heap:=h',toks:=t' }:=by
 have nit:∀ b u,H b=some u->b≠it:=fun b u e z=>by rw[z,hn] at e;cases e
 refine I.step (g':=s.gens) (d':=s.drawn) (ch:=[it]) (fun b hb=>?_) (fun b o _ _ hc e _=>k b o (fun z=>hc (by simp[z])) e) (fun b o _ _ hc e _=>⟨o.slots,k b o (fun z=>hc (by simp[z])) e⟩) (fun _ _ _ _ n=>n)
   (fun b o hc e=>⟨o,k b o (fun z=>hc (by simp[z])) e⟩) (fun _ _ e=>e) (fun _ _ _ e=>e) (fun b ps e=>⟨#[],by rw[e];simp⟩) (fun m hm=>?_) (fun b u e=>?_) I.bare
 . have e:b=it:=by simpa using hb
   subst e
   exact⟨h1,hL,h2,h3⟩
 . obtain ⟨o,es,ep,ho,r⟩:=hm
   exact⟨o,es,ep,k _ o (Ne.symm hL) ho,r⟩
 . refine (I.hok b u e).stay (fun c v hc q=>k c v ?_ q) (fun _ q=>q) fun _ _ q=>q
   rcases hc with z | z
   . rw[z];exact nit b u e
   . exact nit c _ z
theorem Inv.tok (I:Inv X pins σ H s) (t:Nat):Inv X pins σ H { s with toks:=t }:=I.un (h':=s.heap) (t':=t) Un.refl I.hok
theorem Inv.kept {t':Nat} (I:Inv X pins σ H s) (k:∀ b u,s.heap.get? b=some u->h'.get? b=some u):Inv X pins σ H { s with heap:=h',toks:=t' }:=I.un (Un.kept k) (I.hok.kept k)
theorem Inv.laid {a:Addr} {o:HO} {t':Nat} (I:Inv X pins σ H s) (k:∀ b u,s.heap.get? b=some u->h'.get? b=some u) (hp:s.heap.objs.size<=a) (new:ze6 X.prog X.w (upd H a o) h' a o) :
 Inv X pins σ (upd H a o) { s with heap:=h',toks:=t' }:=I.un (Un.laid k hp (I.hok.fresh hp)) (I.hok.laid k hp new)
theorem Inv.write {x e:Addr} {o:HO} {t':Nat} (I:Inv X pins σ H s) (mu:Mut (H x)) (he:e=x\/H e=some (.own x)) (k:∀ b u,b≠e->s.heap.get? b=some u->h'.get? b=some u) (heo:∃ u,h'.get? e=some u)
 (new:ze6 X.prog X.w (upd H x o) h' x o):Inv X pins σ (upd H x o) { s with heap:=h',toks:=t' }:=I.un (Un.write mu he k heo) (I.hok.write mu he k heo new)
theorem Inv.pins_of {pins':List (Addr×Obj)} (I:Inv X pins σ H s) (h:∀ p∈pins',s.heap.get? p.1=some p.2/\H p.1=none/\p.1≠X.env.locals/\p.1∉X.fs/\∀ v,p.2.data≠.cell v):Inv X pins' σ H s :=
 ⟨I.ok,I.os,I.bare,I.base,I.loc,I.cell,I.free,I.freeC,fun p hp=>(List.mem_append.mp hp).elim (fun z=>I.pin p (List.mem_append_left _ z)) (h p),I.hok,I.len⟩
theorem zt0 {N:List Str} (hN:N.Nodup) {i j:Nat} {x:Str} (a:N[i]?=some x) (b:N[j]?=some x):i=j:=by
 obtain ⟨h1,e1⟩:=List.getElem?_eq_some_iff.mp a
 obtain ⟨h2,e2⟩:=List.getElem?_eq_some_iff.mp b
 exact (List.getElem_inj hN).mp (e1.trans e2.symm)
theorem zv8 {M:Model} {A:Around} {E:Value->Shared->Prop} {i:Nat} {x:Str} {v:V} {u:Value} {Q:Unit->Shared->Prop} (I:Inv X pins σ H s) (hN:X.N.Nodup) (hi:X.N[i]?=some x) (hx:Loc X.env.scope x) (r:RelV v u)
   (h:∀ s',Inv X pins (σ.set i (some v)) H s'->(∃ a,Heap.SameBut a s.heap s'.heap/\(a=X.env.locals\/X.env.cells.lookup x=some a))->Q () s') (hf:X.fn x=true\/X.env.scope.names.lookup x=some .local:=by first | exact .inl rfl | exact .inr rfl | assumption):wpAny M A (storeName X.env x u) Q E s:=by
 obtain ⟨m,hn,hl⟩:=id I.loc
 have hcls:(X.env.scope.kind == .class || (X.env.scope.kind == .module && X.env.locals != X.env.globals))=false:=by rw[I.ok.kind];rfl
 have hiσ:i<σ.length:=by rw[I.len];exact (List.getElem?_eq_some_iff.mp hi).1
 have cne:=I.cne
 have tracked:∀ {a:Addr} {h':Heap},(∃ o,s.heap.get? a=some o/\H a=none)->Heap.SameBut a s.heap h'->HOk X.prog X.w H h':=fun {a h'} ha hs b ob e=>by
   obtain ⟨_,_,hfree⟩:=ha
   refine (I.hok b ob e).stay (fun c w' hc q=>(hs.2 c ?_).trans q) (fun _ q=>q) fun _ _ q=>q
   rintro rfl
   rcases hc with rfl | hc
   . rw[hfree] at e;cases e
   . rw[hfree] at hc;cases hc
 rcases hx with hk | hk
 . refine wpAny_storeName_local hk hn (fun h' hn' hs=>?_) hcls
   obtain ⟨oL,_,_,hoL,_⟩:=id hn
   refine h _ ⟨I.ok,I.os,I.bare,⟨fun b o e n hb hx=>?_,fun b o e n hb hx=>?_,I.base.free,fun b o e hx=>?_,I.base.tups,I.base.frzs,I.base.tbls⟩,⟨_,hn',fun j y v' e1 e2 e3=>?_⟩,fun y c e=>?_,I.free,I.freeC,fun p hp=>?_,tracked ⟨oL,hoL,I.free⟩ hs,by simpa using I.len⟩ ⟨_,hs,.inl rfl⟩
   . exact (hs.2 b (Nat.ne_of_lt (Nat.lt_of_lt_of_le (Heap.lt_size e) I.ok.above))).trans (I.base.keep b o e n hb hx)
   . obtain ⟨sl,e1⟩:=I.base.slot b o e n hb hx
     exact⟨sl,(hs.2 b (Nat.ne_of_lt (Nat.lt_of_lt_of_le (Heap.lt_size e) I.ok.above))).trans e1⟩
   . obtain ⟨o',e1⟩:=I.base.there b o e hx
     exact⟨o',(hs.2 b (Nat.ne_of_lt (Nat.lt_of_lt_of_le (Heap.lt_size e) I.ok.above))).trans e1⟩
   . by_cases hj:j=i
     . subst hj
       rw[hi] at e1;cases e1
       rw[List.getElem?_set_self hiσ] at e2
       cases e2
       exact⟨u,r,.inl ⟨hk,by simp⟩⟩
     . rw[List.getElem?_set_ne (Ne.symm hj)] at e2
       obtain ⟨u',r',q⟩:=hl j y v' e1 e2 e3
       refine⟨u',r',?_⟩
       rcases q with ⟨k,e⟩ | ⟨k,c,e,z⟩
       . refine .inl ⟨k,?_⟩
         have:y≠x:=fun e=>hj (zt0 hN e1 (e▸hi))
         simp[this,e]
       . exact .inr ⟨k,c,e,z.sameBut hs (cne y c e)⟩
   . obtain ⟨w',z⟩:=I.cell y c e
     exact⟨w',z.sameBut hs (cne y c e)⟩
   . obtain ⟨e,n,ne,nf,d⟩:=I.pin p hp
     exact⟨(hs.2 p.1 ne).trans e,n,ne,nf,d⟩
 . have hfn:X.fn x=true:=by
     rcases hf with z | z
     . exact z
     . rw[z] at hk;cases hk
   obtain ⟨c,hc⟩:=I.ok.has x (.inl hk)
   obtain ⟨w',z⟩:=I.cell x c hc
   refine wpAny_storeName_cell I.ok.kind hk hc z (fun h' hc' hs=>?_)
   obtain ⟨oc,hoc,hocd⟩:=id z
   refine h { s with heap:=h' } ⟨I.ok,I.os,I.bare,⟨fun b o e n hb hx=>?_,fun b o e n hb hx=>?_,I.base.free,fun b o e hx=>?_,I.base.tups,I.base.frzs,I.base.tbls⟩,⟨m,hn.sameBut hs (Ne.symm (cne x c hc)),fun j y v' e1 e2 e3=>?_⟩,fun y c' e=>?_,I.free,I.freeC,fun p hp=>?_,tracked ⟨oc,hoc,I.freeC x c hc⟩ hs,by simpa using I.len⟩ ⟨c,hs,.inr hc⟩
   . exact (hs.2 b (Nat.ne_of_lt (Nat.lt_of_lt_of_le (Heap.lt_size e) (I.ok.cab x c hfn hc)))).trans (I.base.keep b o e n hb hx)
   . obtain ⟨sl,e1⟩:=I.base.slot b o e n hb hx
     exact⟨sl,(hs.2 b (Nat.ne_of_lt (Nat.lt_of_lt_of_le (Heap.lt_size e) (I.ok.cab x c hfn hc)))).trans e1⟩
   . obtain ⟨o',e1⟩:=I.base.there b o e hx
     exact⟨o',(hs.2 b (Nat.ne_of_lt (Nat.lt_of_lt_of_le (Heap.lt_size e) (I.ok.cab x c hfn hc)))).trans e1⟩
   . by_cases hj:j=i
     . subst hj
       rw[hi] at e1;cases e1
       rw[List.getElem?_set_self hiσ] at e2
       cases e2
       exact⟨u,r,.inr ⟨.inl hk,c,hc,hc'⟩⟩
     . rw[List.getElem?_set_ne (Ne.symm hj)] at e2
       obtain ⟨u',r',q⟩:=hl j y v' e1 e2 e3
       refine⟨u',r',?_⟩
       rcases q with q | ⟨k,c',e,z'⟩
       . exact .inl q
       . refine .inr ⟨k,c',e,z'.sameBut hs ?_⟩
         rintro rfl
         exact hj (zt0 hN e1 (I.ok.inj _ _ _ e hc▸hi))
   . by_cases hcc:c'=c
     . subst hcc;exact⟨_,hc'⟩
     . obtain ⟨w2,z2⟩:=I.cell y c' e
       exact⟨w2,z2.sameBut hs hcc⟩
   . obtain ⟨e,n,ne,nf,d⟩:=I.pin p hp
     refine⟨(hs.2 p.1 ?_).trans e,n,ne,nf,d⟩
     intro q
     rw[q,hoc] at e
     have q':oc=p.2:=Option.some.inj e
     exact d w' (by rw[<-q'];exact hocd)
theorem zt1 {M:Model} {A:Around} {E:Value->Shared->Prop} {i:Nat} {x:Str} {v:V} {u:Value} {Q:Unit->Shared->Prop} (I:Inv X pins σ H s) (hN:X.N.Nodup) (hi:X.N[i]?=some x) (hx:Loc X.env.scope x) (r:RelV v u)
   (h:∀ s',Inv X pins (σ.set i (some v)) H s'->Q () s') (hf:X.fn x=true\/X.env.scope.names.lookup x=some .local:=by first | exact .inl rfl | exact .inr rfl | assumption):wpAny M A (storeName X.env x u) Q E s :=
 zv8 I hN hi hx r (fun s' I' _=>h s' I') hf
theorem Inv.call' {s':Shared} {ch:List Addr} (I:Inv X pins σ H s) (ho:s'.os=s.os) (u:Un (frs X.stack) ch H H' s.heap s'.heap) (hok:HOk X.prog X.w H' s'.heap) (hg:AllBare s'.gens)
   (hch:∀ b∈ch,(b∈X.ex\/X.s₀.heap.objs.size<=b)/\b≠X.env.locals/\(∀ x c,X.env.cells.lookup x=some c->c≠b)/\∀ p∈X.pn++pins,p.1≠b):Inv X pins σ H' s':=by
 obtain ⟨h',g',d',t',o'⟩:=s'
 have e:o'=s.os:=ho
 subst e
 exact I.call (g':=g') (t':=t') (d':=d') u hok hg hch
end
/-! ### the judgements -/
noncomputable abbrev XK:=Value->Option Addr->Hp->Prop
noncomputable abbrev St:=List (Option V)
noncomputable abbrev VK:=V->Hp->Prop
noncomputable abbrev TE:=St->Hp->VK->Prop
noncomputable abbrev TT:=St->Hp->(Bool->Hp->Prop)->Prop
noncomputable abbrev TA:=St->Hp->(List V->Hp->Prop)->Prop
structure Ends where
 nx:St->Hp->Prop
 rt:VK
 bk:St->Hp->Prop:=fun _ _=>False
 ct:St->Hp->Prop:=fun _ _=>False
noncomputable abbrev TS:=Ends->St->Hp->Prop
noncomputable def EP (X:Cx) (pins:List (Addr×Obj)) (σ:St) (Q:VK) (u:Value) (s':Shared):Prop:=∃ v H',Inv X pins σ H' s'/\RelV v u/\Q v H'
noncomputable def TP (X:Cx) (pins:List (Addr×Obj)) (σ:St) (Q:Bool->Hp->Prop) (b:Bool) (s':Shared):Prop:=∃ H',Inv X pins σ H' s'/\Q b H'
noncomputable def AP (X:Cx) (pins:List (Addr×Obj)) (σ:St) (Q:List V->Hp->Prop) (us:List Value) (s':Shared):Prop:=∃ vs H',Inv X pins σ H' s'/\Vals vs us/\Q vs H'
noncomputable def SP (X:Cx) (pins:List (Addr×Obj)) (D:Ends) (f:Flow) (s':Shared):Prop :=
 match f with
 | .next=>∃ σ' H',Inv X pins σ' H' s'/\D.nx σ' H'
 | .brk=>∃ σ' H',Inv X pins σ' H' s'/\D.bk σ' H'
 | .cont=>∃ σ' H',Inv X pins σ' H' s'/\D.ct σ' H'
 | .ret u=>∃ v σ' H',Inv X pins σ' H' s'/\RelV v u/\D.rt v H'
noncomputable def PE (X:Cx) (e:Expr) (t:TE):Prop :=
 ∀ (pins:List (Addr×Obj)) (s:Shared) (σ:St) (H:Hp) (Q:VK),Inv X pins σ H s->t σ H Q->wpAny (model X.prog X.w) X.A (eval e X.env) (EP X pins σ Q) X.xe s
noncomputable def PT (X:Cx) (e:Expr) (t:TT):Prop :=
 ∀ (pins:List (Addr×Obj)) (s:Shared) (σ:St) (H:Hp) (Q:Bool->Hp->Prop),Inv X pins σ H s->t σ H Q->wpAny (model X.prog X.w) X.A (isTrue e X.env (eval e X.env)) (TP X pins σ Q) X.xe s
noncomputable def PW (X:Cx) (e:Expr) (t:TT):Prop :=
 ∀ (whole:Sem Value) (pins:List (Addr×Obj)) (s:Shared) (σ:St) (H:Hp) (Q:Bool->Hp->Prop),Inv X pins σ H s->t σ H Q->wpAny (model X.prog X.w) X.A (isTrue e X.env whole) (TP X pins σ Q) X.xe s
theorem PW.pt {X:Cx} {e:Expr} {t:TT} (h:PW X e t):PT X e t:=h _
noncomputable def PA (X:Cx) (es:List Expr) (t:TA):Prop :=
 ∀ (pos:Pos) (pins:List (Addr×Obj)) (s:Shared) (σ:St) (H:Hp) (Q:List V->Hp->Prop),Inv X pins σ H s->t σ H Q->wpAny (model X.prog X.w) X.A (spliced (backTo pos (starEach es X.env))) (AP X pins σ Q) X.xe s
noncomputable def PS (X:Cx) (st:Stmt) (t:TS):Prop :=
 ∀ (pins:List (Addr×Obj)) (s:Shared) (σ:St) (H:Hp) (D:Ends),Inv X pins σ H s->t D σ H->wpAny (model X.prog X.w) X.A (exec st X.env) (SP X pins D) X.xe s
noncomputable def PSs (X:Cx) (st:List Stmt) (t:TS):Prop :=
 ∀ (pins:List (Addr×Obj)) (s:Shared) (σ:St) (H:Hp) (D:Ends),Inv X pins σ H s->t D σ H->wpAny (model X.prog X.w) X.A (execs st X.env) (SP X pins D) X.xe s
theorem thn {α:Type} {t:Sem α} {Q Q':α->Shared->Prop} {M:Model} {A:Around} {E:Value->Shared->Prop} {s:Shared} (h:wpAny M A t Q E s) (hQ:∀ a s,Q a s->Q' a s):wpAny M A t Q' E s:=wpAny_mono h hQ fun _ _ x=>x
end L2
namespace L2
open PySem PySem.Spec PyProof.Rows
section
variable {X:Cx}
/-! ### names and constants -/
noncomputable def tVar (i:Nat):TE:=fun σ H Q=>∃ v,σ[i]?=some (some v)/\Q v H
noncomputable def tC (v:V):TE:=fun _ H Q=>Q v H
theorem pe_var {i:Nat} {x:Str} {pos:Pos} (hN:X.N[i]?=some x) (hv:Vis X.env.scope x) (hd:(x == ("__debug__" : Str))=false:=by decide) (hcd:(x == ("__classdict__" : Str))=false:=by decide):PE X (.Name x pos) (tVar i):=by
 intro pins s σ H Q I h
 obtain ⟨v,e,h⟩:=h
 obtain ⟨m,hn,hl⟩:=I.loc
 obtain ⟨u,r,l⟩:=hl i x v hN e hv
 have fin:EP X pins σ Q u s:=⟨v,H,I,r,h⟩
 rcases l with ⟨hk,hm⟩ | ⟨hk,c,hc,hcell⟩
 . exact wpAny_Name (wpAny_loadName_local I.ok.kind hk hn hm fin) hd
 . rcases hk with hk | hk
   . exact wpAny_Name (wpAny_loadName_cell I.ok.kind hk hc hcell fin) hd
   . exact wpAny_Name (wpAny_loadName_free I.ok.kind hk hc hcell fin hcd) hd
theorem za5 {i j pos}:PE X (.Constant (.int i) j pos) (tC (.int i)):=fun _ _ _ H _ I h=>wpAny_Constant_int ⟨.int i,H,I.tok _,⟨_,rfl⟩,h⟩
theorem zt2 {b j pos}:PE X (.Constant (.bool b) j pos) (tC (.bl b)):=fun _ _ _ H _ I h=>Constant_bool ⟨.bl b,H,I,rfl,h⟩
theorem zx8 {x j pos}:PE X (.Constant (.str x) j pos) (tC (.str x)):=fun _ _ _ H _ I h=>Calls.Constant_str ⟨.str x,H,I.tok _,⟨_,rfl⟩,h⟩
noncomputable def Gl (X:Cx) (x:Str):Prop:=X.env.kindOf x=some .globalImplicit
theorem zk5 {E:Value->Shared->Prop} {pins:List (Addr×Obj)} {s:Shared} {σ:St} {H:Hp} {x:Str} {u:Value} {pos:Pos} {Q:Value->Shared->Prop} (I:Inv X pins σ H s) (hg:Gl X x) (hm:X.mg x=some u) (h:Q u s)
   (hd:(x == ("__debug__" : Str))=false:=by decide):wpAny (model X.prog X.w) X.A (eval (.Name x pos) X.env) Q E s :=
 Calls.Name_function_global I.ok.kind hg (Calls.loadGlobal_global (by rw[I.ok.glob];exact I.mod.glob.keeps I.bk) hm h) hd
theorem zt3 {E:Value->Shared->Prop} {pins:List (Addr×Obj)} {s:Shared} {σ:St} {H:Hp} {x:Str} {u:Value} {pos:Pos} {Q:Value->Shared->Prop} (I:Inv X pins σ H s) (hg:Gl X x) (hm:X.mg x=none) (hv:bootBuiltins x=some u) (h:Q u s)
   (hn:x≠"__name__":=by decide) (hd:(x == ("__debug__" : Str))=false:=by decide):wpAny (model X.prog X.w) X.A (eval (.Name x pos) X.env) Q E s:=by
 obtain ⟨mb,h1,h2⟩:=I.mod.blt
 exact Calls.Name_function_global I.ok.kind hg (Calls.loadGlobal_builtin (by rw[I.ok.glob];exact I.mod.glob.keeps I.bk) hm (by rw[I.ok.blt];exact h1.keeps I.bk) ((h2 x hn).trans hv) h) hd
theorem zk6 {x:Str} {v:V} {u:Value} {pos:Pos} (hg:Gl X x) (hm:X.mg x=some u) (r:RelV v u) (hd:(x == ("__debug__" : Str))=false:=by decide):PE X (.Name x pos) (tC v) :=
 fun _ _ _ H _ I h=>zk5 I hg hm ⟨v,H,I,r,h⟩ hd
theorem zx9 {x:Str} {v:V} {u:Value} {pos:Pos} (hg:Gl X x) (hm:X.mg x=none) (hv:bootBuiltins x=some u) (r:RelV v u) (hn:x≠"__name__":=by decide) (hd:(x == ("__debug__" : Str))=false:=by decide):PE X (.Name x pos) (tC v) :=
 fun _ _ _ H _ I h=>zt3 I hg hm hv ⟨v,H,I,r,h⟩ hn hd
/-! ### arithmetic -/
variable {a b:Expr} {ta tb:TE} {pos:Pos}
/-! ### comparisons -/
noncomputable def tB (t:TE):TT:=fun σ H Q=>t σ H fun x H1=>∃ c,x = .bl c/\Q c H1
theorem zg6 {e:Expr} {t:TE} (h:PE X e t) (he:∀ whole,isTrue e X.env whole=(do let v <-whole;standAt e.pos;holding [v] (truthy v)):=by intro _;rfl):PT X e (tB t):=by
 intro pins s σ H Q I hw
 refine isTrue_plain (thn (h pins s σ H _ I hw) fun v s1 ⟨x,H1,I1,r1,q1⟩=>?_) (he _)
 obtain ⟨d,rfl,q⟩:=q1
 cases r1
 exact wpAny_truthy_bool ⟨H1,I1,q⟩
/-! ### and,or,not -/
variable {tA tB':TT} {rest:List Expr}
noncomputable def tAnd (t u:TT):TT:=fun σ H Q=>t σ H fun c H1=>if c=true then u σ H1 Q else Q false H1
noncomputable def tOr (t u:TT):TT:=fun σ H Q=>t σ H fun c H1=>if c=true then Q true H1 else u σ H1 Q
noncomputable def tNot (t:TT):TT:=fun σ H Q=>t σ H fun c H1=>Q (!c) H1
theorem zy0 (ha:PT X a tA):PW X (.BoolOp .And [a] pos) tA:=by
 intro wh pins s σ H Q I h
 refine isTrue_and (thn (ha pins s σ H Q I h) fun c s1 e=>?_)
 cases c with
 | true=>exact isTrue_and_nil e
 | false=>exact e
theorem zC4 (ha:PT X a tA):PW X (.BoolOp .Or [a] pos) tA:=by
 intro wh pins s σ H Q I h
 refine isTrue_or (thn (ha pins s σ H Q I h) fun c s1 e=>?_)
 cases c with
 | false=>exact isTrue_or_nil e
 | true=>exact e
theorem zC5 (ha:PT X a tA) (hb:PW X (.BoolOp .And (b::rest) pos) tB'):PW X (.BoolOp .And (a::b::rest) pos) (tAnd tA tB'):=by
 intro wh pins s σ H Q I h
 refine isTrue_and (thn (ha pins s σ H _ I h) fun c s1 ⟨H1,I1,q1⟩=>?_)
 cases c with
 | true=>exact hb wh pins s1 σ H1 Q I1 q1
 | false=>exact⟨H1,I1,q1⟩
theorem zF4 (ha:PT X a tA) (hb:PW X (.BoolOp .Or (b::rest) pos) tB'):PW X (.BoolOp .Or (a::b::rest) pos) (tOr tA tB'):=by
 intro wh pins s σ H Q I h
 refine isTrue_or (thn (ha pins s σ H _ I h) fun c s1 ⟨H1,I1,q1⟩=>?_)
 cases c with
 | true=>exact⟨H1,I1,q1⟩
 | false=>exact hb wh pins s1 σ H1 Q I1 q1
theorem zq6 (ha:PT X a tA):PT X (.UnaryOp .Not a pos) (tNot tA):=by
 intro pins s σ H Q I h
 exact isTrue_not (ha pins s σ H (fun c H1=>Q (!c) H1) I h)
noncomputable def tAndV (ta tb:TE):TE:=fun σ H Q=>ta σ H fun x H1=>∃ c,x = .bl c/\if c=true then tb σ H1 Q else Q (.bl false) H1
noncomputable def tOrV (ta tb:TE):TE:=fun σ H Q=>ta σ H fun x H1=>∃ c,x = .bl c/\if c=true then Q (.bl true) H1 else tb σ H1 Q
noncomputable def tNotV (ta:TE):TE:=fun σ H Q=>ta σ H fun x H1=>∃ c,x = .bl c/\Q (.bl (!c)) H1
theorem zF5 {op} {t:TE} (h:PE X a t):PE X (.BoolOp op [a] pos) t:=fun pins s σ H Q I hw=>BoolOp_one (h pins s σ H Q I hw)
theorem pe_and (ha:PE X a ta) (hb:PE X (.BoolOp .And (b::rest) pos) tb):PE X (.BoolOp .And (a::b::rest) pos) (tAndV ta tb):=by
 intro pins s σ H Q I h
 refine BoolOp_and (thn (ha pins s σ H _ I h) fun v s1 ⟨x,H1,I1,r1,q1⟩=>?_)
 obtain ⟨c,rfl,q1⟩:=q1
 cases r1
 refine wpAny_truthy_bool ?_
 cases c with
 | true=>exact hb pins s1 σ H1 Q I1 q1
 | false=>exact⟨.bl false,H1,I1,rfl,q1⟩
theorem pe_or (ha:PE X a ta) (hb:PE X (.BoolOp .Or (b::rest) pos) tb):PE X (.BoolOp .Or (a::b::rest) pos) (tOrV ta tb):=by
 intro pins s σ H Q I h
 refine BoolOp_or (thn (ha pins s σ H _ I h) fun v s1 ⟨x,H1,I1,r1,q1⟩=>?_)
 obtain ⟨c,rfl,q1⟩:=q1
 cases r1
 refine wpAny_truthy_bool ?_
 cases c with
 | false=>exact hb pins s1 σ H1 Q I1 q1
 | true=>exact⟨.bl true,H1,I1,rfl,q1⟩
theorem zF6 (ha:PE X a ta):PE X (.UnaryOp .Not a pos) (tNotV ta):=by
 intro pins s σ H Q I h
 refine UnaryOp_ (thn (ha pins s σ H _ I h) fun v s1 ⟨x,H1,I1,r1,q1⟩=>?_)
 obtain ⟨c,rfl,q1⟩:=q1
 cases r1
 exact not_of (wpAny_truthy_bool ⟨.bl (!c),H1,I1,rfl,q1⟩)
end
end L2
namespace L2
open PySem PySem.Spec PyProof.Rows
/-! ### a list,a tuple that is read: tracked,frozen,or an object of the module -/
noncomputable def SqL (K:PySem.W.Frag) (H:Hp) (a:Addr) (xs:List V):Prop :=
 Rd H a (.lst xs) ∨
   ∃ (o:Obj) (its:Array Value) (n:Nat),K.lookup a=some o/\o.cls = .type "list"/\o.dict=none/\o.data = .seq its n/\its.size<=sizeLine/\Vals xs its.toList
noncomputable def SqT (K:PySem.W.Frag) (H:Hp) (a:Addr) (xs:List V):Prop :=
 Rd H a (.tup xs) ∨
   ∃ (o:Obj) (its:Array Value) (n:Nat),K.lookup a=some o/\o.cls = .type "tuple"/\o.data = .seq its n/\its.size<=sizeLine/\Vals xs its.toList
noncomputable def absV:Value->Option V
 | .none=>some .non
 | .bool b=>some (.bl b)
 | .int i _=>some (.int i)
 | .str x _=>some (.str x)
 | .bytes b _=>some (.byt b)
 | .float b _=>some (.flt b)
 | .ref a=>some (.ref a)
 | .type n=>some (.ty n)
 | _=>none
theorem RelV.abs {x:V} {u:Value} (r:RelV x u):absV u=some x:=by
 cases x with
 | non=>cases r;rfl
 | bl _=>cases r;rfl
 | int _=>obtain ⟨t,rfl⟩:=r;rfl
 | str _=>obtain ⟨t,rfl⟩:=r;rfl
 | byt _=>obtain ⟨t,rfl⟩:=r;rfl
 | flt _=>obtain ⟨t,rfl⟩:=r;rfl
 | ref _=>cases r;rfl
 | ty _=>cases r;rfl
theorem RelV.inj {x y:V} {u:Value} (r:RelV x u) (q:RelV y u):x=y:=Option.some.inj (r.abs.symm.trans q.abs)
theorem Vals.inj:∀ {xs ys:List V} {us:List Value},Vals xs us->Vals ys us->xs=ys
 | _,_,_,.nil,.nil=>rfl
 | _,_,_,.cons r t,.cons r' t'=>by rw[r.inj r',Vals.inj t t']
section
variable {X:Cx} {pins:List (Addr×Obj)} {σ:St} {H:Hp} {s:Shared} {a:Addr} {xs ys:List V}
theorem SqL.of {K:PySem.W.Frag} (h:H a=some (.lst xs)):SqL K H a xs:=.inl (.inl h)
theorem SqT.of {K:PySem.W.Frag} (h:H a=some (.tup xs)):SqT K H a xs:=.inl (.inl h)
theorem Inv.list (I:Inv X pins σ H s) (h:SqL X.K H a xs):∃ its:List Value,Vals xs its/\PlainL s.heap a its.toArray/\xs.length<=sizeLine:=by
 rcases h with h | ⟨o,its,n,hk,hc,hd,hs,hz,r⟩
 . obtain ⟨z,its,n,r,e⟩:=h.ok I.hok
   exact⟨its,r,⟨_,n,e,rfl,rfl,rfl⟩,z⟩
 . refine⟨its.toList,r,⟨o,n,I.kIn a o hk,hc,hd,by simpa using hs⟩,?_⟩
   have e:=r.length
   simp only[Array.length_toList] at e
   omega
theorem Inv.tuple (I:Inv X pins σ H s) (h:SqT X.K H a xs):∃ its:List Value,Vals xs its/\IsTup s.heap a its.toArray/\xs.length<=sizeLine:=by
 rcases h with h | ⟨o,its,n,hk,hc,hs,hz,r⟩
 . obtain ⟨z,its,r,p⟩:=h.ok I.hok
   exact⟨its,r,p.isTup,z⟩
 . refine⟨its.toList,r,⟨o,I.kIn a o hk,hc,n,by simpa using hs⟩,?_⟩
   have e:=r.length
   simp only[Array.length_toList] at e
   omega
theorem Inv.list_inj (I:Inv X pins σ H s) (h:SqL X.K H a xs) (h':SqL X.K H a ys):xs=ys:=by
 obtain ⟨its,r,⟨o,n,e,_,_,d⟩,_⟩:=I.list h
 obtain ⟨its',r',⟨o',n',e',_,_,d'⟩,_⟩:=I.list h'
 rw[e] at e';cases e'
 rw[d] at d'
 injection d' with d1 _
 have:its=its':=by simpa using congrArg Array.toList d1
 subst this
 exact r.inj r'
theorem Inv.tuple_inj (I:Inv X pins σ H s) (h:SqT X.K H a xs) (h':SqT X.K H a ys):xs=ys:=by
 obtain ⟨its,r,⟨o,e,_,n,d⟩,_⟩:=I.tuple h
 obtain ⟨its',r',⟨o',e',_,n',d'⟩,_⟩:=I.tuple h'
 rw[e] at e';cases e'
 rw[d] at d'
 injection d' with d1 _
 have:its=its':=by simpa using congrArg Array.toList d1
 subst this
 exact r.inj r'
end
/-! ### another wish about exceptions -/
noncomputable abbrev Cx.wish (X:Cx) (E:Value->Shared->Prop):Cx:={ X with xe:=E }
noncomputable abbrev Cx.nox (X:Cx):Cx:=X.wish fun _ _=>False
theorem Cx.Ok.wish {X:Cx} (ok:X.Ok) (E:Value->Shared->Prop):(X.wish E).Ok :=
 ⟨ok.mod,ok.kind,ok.glob,ok.blt,ok.above,ok.inj,ok.has,ok.cab,ok.hd,ok.frames,ok.stk,ok.exf,ok.bs,ok.bsz,ok.noex,ok.exfs,ok.funs,ok.frf⟩
theorem Cx.Ok.unwish {X:Cx} {E:Value->Shared->Prop} (ok:(X.wish E).Ok):X.Ok :=
 ⟨ok.mod,ok.kind,ok.glob,ok.blt,ok.above,ok.inj,ok.has,ok.cab,ok.hd,ok.frames,ok.stk,ok.exf,ok.bs,ok.bsz,ok.noex,ok.exfs,ok.funs,ok.frf⟩
section
variable {X:Cx} {pins:List (Addr×Obj)} {σ:St} {H:Hp} {s:Shared} {E:Value->Shared->Prop}
theorem Inv.wish (I:Inv X pins σ H s) (E:Value->Shared->Prop):Inv (X.wish E) pins σ H s:=⟨I.ok.wish E,I.os,I.bare,I.base,I.loc,I.cell,I.free,I.freeC,I.pin,I.hok,I.len⟩
theorem Inv.unwish (I:Inv (X.wish E) pins σ H s):Inv X pins σ H s:=⟨I.ok.unwish,I.os,I.bare,I.base,I.loc,I.cell,I.free,I.freeC,I.pin,I.hok,I.len⟩
theorem SP.unwish {D:Ends} {f:Flow} {s':Shared} (h:SP (X.wish E) pins D f s'):SP X pins D f s':=by
 cases f with
 | next=>obtain ⟨σ',H',I,q⟩:=h;exact⟨σ',H',I.unwish,q⟩
 | brk=>obtain ⟨σ',H',I,q⟩:=h;exact⟨σ',H',I.unwish,q⟩
 | cont=>obtain ⟨σ',H',I,q⟩:=h;exact⟨σ',H',I.unwish,q⟩
 | ret u=>obtain ⟨v,σ',H',I,r,q⟩:=h;exact⟨v,σ',H',I.unwish,r,q⟩
theorem PSs.nox {st:List Stmt} {t:TS} (h:PSs X.nox st t):PSs X st t:=fun pins s σ H D I hw =>
 wpAny_mono (h pins s σ H D (I.wish _) hw) (fun _ _ q=>q.unwish) fun _ _ z=>False.elim z
end
/-! ### blocks and small statements -/
section
variable {X:Cx} {st:Stmt} {rest:List Stmt} {t u:TS} {e:Expr} {te:TE} {pos:Pos}
noncomputable def tNext:TS:=fun D σ H=>D.nx σ H
noncomputable def tSeq (t u:TS):TS:=fun D σ H=>t { D with nx:=u D } σ H
theorem zb4:PSs X [] tNext:=fun _ _ σ H _ I h=>wpAny_execs_nil ⟨σ,H,I,h⟩
theorem za1 (h1:PS X st t) (h2:PSs X rest u):PSs X (st::rest) (tSeq t u):=by
 intro pins s σ H D I h
 refine wpAny_execs_cons (thn (h1 pins s σ H { D with nx:=u D } I h) fun f s1 q=>?_)
 cases f with
 | next =>
   obtain ⟨σ',H',I',q⟩:=q
   exact h2 pins s1 σ' H' D I' q
 | ret v=>exact q
 | brk=>exact q
 | cont=>exact q
theorem za6 (h1:PS X st t):PSs X [st] t:=by
 intro pins s σ H D I h
 refine wpAny_execs_cons (thn (h1 pins s σ H D I h) fun f s1 q=>?_)
 cases f with
 | next=>exact wpAny_execs_nil q
 | ret v=>exact q
 | brk=>exact q
 | cont=>exact q
theorem Inv.quiet {pins:List (Addr×Obj)} {σ:St} {H:Hp} {s:Shared} (I:Inv X pins σ H s):interactive X.env=false:=by simp[interactive,I.ok.kind]
noncomputable def tDrop (te:TE):TS:=fun D σ H=>te σ H fun _ H1=>D.nx σ H1
theorem zh8 (he:PE X e te) (hs:swapsWith e none pos.line X.env=pure false:=by rfl):PS X (.Expr e pos) (tDrop te):=by
 intro pins s σ H D I h
 exact wpAny_Expr_any (thn (he pins s σ H _ I h) fun v s1 ⟨x,H1,I1,r1,q1⟩=>⟨σ,H1,I1,q1⟩) I.quiet hs
noncomputable def tRet (te:TE):TS:=fun D σ H=>te σ H D.rt
theorem zb6 (he:PE X e te):PS X (.Return (some e) pos) (tRet te):=by
 intro pins s σ H D I h
 exact wpAny_Return_some (thn (he pins s σ H _ I h) fun v s1 ⟨x,H1,I1,r1,q1⟩=>⟨x,σ,H1,I1,r1,q1⟩)
noncomputable def tIfS (c:TT) (t u:TS):TS:=fun D σ H=>c σ H fun b H1=>if b=true then t D σ H1 else u D σ H1
theorem zc6 {c:Expr} {a b:List Stmt} {tc:TT} (hc:PT X c tc) (ha:PSs X a t) (hb:PSs X b u):PS X (.If c a b pos) (tIfS tc t u):=by
 intro pins s σ H D I h
 refine wpAny_If (thn (hc pins s σ H _ I h) fun d s1 ⟨H1,I1,q1⟩=>?_)
 cases d with
 | true=>exact ha pins s1 σ H1 D I1 q1
 | false=>exact hb pins s1 σ H1 D I1 q1
noncomputable def zF7:TS:=fun _ _ _=>False
theorem zj8:PS X st zF7:=fun _ _ _ _ _ _ h=>h.elim
theorem zd6 {sts:List Stmt}:PSs X sts zF7:=fun _ _ _ _ _ _ h=>h.elim
end
/-! ### targets -/
noncomputable abbrev TG:=V->St->Hp->(St->Hp->Prop)->Prop
noncomputable abbrev TGs:=List V->St->Hp->(St->Hp->Prop)->Prop
noncomputable def PG (X:Cx) (target:Expr) (t:TG):Prop :=
 ∀ (pins:List (Addr×Obj)) (s:Shared) (σ:St) (H:Hp) (v:V) (u:Value) (Q:St->Hp->Prop),Inv X pins σ H s->RelV v u->t v σ H Q →
   wpAny (model X.prog X.w) X.A (assign target X.env u) (fun _ s'=>∃ σ' H',Inv X pins σ' H' s'/\Q σ' H') X.xe s
noncomputable def PGs (X:Cx) (ts:List Expr) (t:TGs):Prop :=
 ∀ (pins:List (Addr×Obj)) (s:Shared) (σ:St) (H:Hp) (vs:List V) (us:List Value) (Q:St->Hp->Prop),Inv X pins σ H s->Vals vs us->t vs σ H Q →
   wpAny (model X.prog X.w) X.A (assignInOrder ((assignEach ts X.env).map (·.2)) us) (fun _ s'=>∃ σ' H',Inv X pins σ' H' s'/\Q σ' H') X.xe s
noncomputable abbrev TSet:=V->V->V->Hp->(Hp->Prop)->Prop
noncomputable def PSet (X:Cx) (t:TSet):Prop :=
 ∀ (pins:List (Addr×Obj)) (s:Shared) (σ:St) (H:Hp) (o i v:V) (ov iv u:Value) (Q:Hp->Prop),Inv X pins σ H s->RelV o ov->RelV i iv->RelV v u->t o i v H Q →
   wpAny (model X.prog X.w) X.A (setItem ov iv u) (fun _ s'=>∃ H',Inv X pins σ H' s'/\Q H') X.xe s
section
variable {X:Cx} {pos:Pos}
noncomputable def zo4 (i:Nat):TG:=fun v σ H Q=>Q (σ.set i (some v)) H
theorem zd8 {i:Nat} {x:Str} (hN:X.N.Nodup) (hi:X.N[i]?=some x) (hx:Loc X.env.scope x) (hf:X.fn x=true\/X.env.scope.names.lookup x=some .local:=by first | exact .inl rfl | exact .inr rfl | assumption):PG X (.Name x pos) (zo4 i):=by
 intro pins s σ H v u Q I r h
 exact wpAny_assign_Name (zt1 I hN hi hx r (fun s' I'=>⟨_,H,I',h⟩) hf)
noncomputable def gNil:TGs:=fun vs σ H Q=>vs=[]/\Q σ H
noncomputable def zF8 (t:TG) (u:TGs):TGs:=fun vs σ H Q=>∃ v r,vs=v::r/\t v σ H fun σ' H'=>u r σ' H' Q
theorem zy1:PGs X [] gNil:=by
 intro pins s σ H vs us Q I r h
 obtain ⟨e,h⟩:=h
 subst e
 cases r
 exact assignInOrder_nil ⟨σ,H,I,h⟩
theorem zh2 {e:Expr} {es:List Expr} {t:TG} {u:TGs} (h1:PG X e t) (h2:PGs X es u)
   (hs:(assignEach (e::es) X.env).map (·.2)=assign e X.env::(assignEach es X.env).map (·.2):=by rfl):PGs X (e::es) (zF8 t u):=by
 intro pins s σ H vs us Q I r h
 obtain ⟨v,vr,e1,h⟩:=h
 subst e1
 cases r with
 | cons r rr =>
   rw[hs]
   refine assignInOrder_cons (thn (h1 pins s σ H _ _ _ I r h) fun _ s1 ⟨σ1,H1,I1,q1⟩=>?_)
   exact h2 pins s1 σ1 H1 _ _ Q I1 rr q1
noncomputable def gTup (K:PySem.W.Frag) (n:Nat) (t:TGs):TG:=fun v σ H Q=>∃ a xs,v = .ref a/\SqT K H a xs/\xs.length=n/\t xs σ H Q
theorem pg_tup {es:List Expr} {k:Nat} {t:TGs} {n:Nat} (hc:X.calm=true) (h:PGs X es t)
   (hn:(assignEach es X.env).length=n:=by rfl) (hst:(assignEach es X.env).findIdx? (·.1)=none:=by rfl):PG X (.Tuple es k pos) (gTup X.K n t):=by
 intro pins s σ H v u Q I r hw
 obtain ⟨a,xs,e1,hq,hl,hw⟩:=hw
 subst e1
 cases r
 obtain ⟨its,rv,ht,hz⟩:=I.tuple hq
 refine assign_Tuple_tuple (I.ok.hd hc) ht (by simp[hn,<-hl,rv.length]) hst fun h' hx=>?_
 have I1:Inv X pins σ H { s with heap:=h' }:=I.kept (t':=s.toks) fun b o e=>hx b o (Nat.ne_of_lt (Heap.lt_size e)) e
 exact h pins _ σ H xs _ Q I1 (by simpa using rv) hw
noncomputable def gSub (to ti:TE) (t:TSet):TG:=fun v σ H Q=>to σ H fun o H1=>ti σ H1 fun i H2=>t o i v H2 fun H3=>Q σ H3
theorem pg_sub {o i:Expr} {to ti:TE} {t:TSet} (ho:PE X o to) (hi:PE X i ti) (hs:PSet X t)
   (ha:∀ v,assign (.Subscript o i pos) X.env v=(do
     let ov <-holding [v] (eval o X.env)
     let iv <-holding [v,ov] (eval i X.env)
     standAt pos
     holding [v,ov,iv] (setItem ov iv v)
     release [v,ov,iv] []):=by intro _;rfl):PG X (.Subscript o i pos) (gSub to ti t):=by
 intro pins s σ H v u Q I r h
 rw[ha]
 refine wpAny_bind (wpAny_holding (thn (ho pins s σ H _ I h) fun ov s1 ⟨x,H1,I1,r1,q1⟩=>?_))
 refine wpAny_bind (wpAny_holding (thn (hi pins s1 σ H1 _ I1 q1) fun iv s2 ⟨y,H2,I2,r2,q2⟩=>?_))
 refine wpAny_bind (wpAny_standAt (wpAny_bind (wpAny_holding (thn (hs pins s2 σ H2 x y v ov iv u _ I2 r1 r2 r q2) fun _ s3 ⟨H3,I3,q3⟩=>?_))))
 exact wpAny_release ⟨σ,H3,I3,q3⟩
noncomputable def tAsg (te:TE) (g:TG):TS:=fun D σ H=>te σ H fun x H1=>g x σ H1 D.nx
theorem zC6 {tg e:Expr} {te:TE} {g:TG} (he:PE X e te) (hg:PG X tg g) (hs:swapsWithSole [tg] e pos.line X.env=pure false:=by rfl) (hw:swappedStores [tg] e X.env=pure none:=by rfl)
   (h1:(assignEach [tg] X.env).map (·.2)=[assign tg X.env]:=by rfl):PS X (.Assign [tg] e pos) (tAsg te g):=by
 intro pins s σ H D I h
 refine wpAny_Assign_stores (thn (he pins s σ H _ I h) fun v s1 ⟨x,H1,I1,r1,q1⟩=>?_) hs hw
 rw[h1]
 exact thn (hg pins s1 σ H1 x v _ I1 r1 q1) fun _ s2 q=>q
theorem zb8 {i:Nat} {x:Str} {e:Expr} {te:TE} {pos':Pos} (hN:X.N.Nodup) (hi:X.N[i]?=some x) (hx:Loc X.env.scope x) (he:PE X e te) (hs:swapsWith e (some (.Name x pos')) pos.line X.env=pure false:=by rfl) (hf:X.fn x=true\/X.env.scope.names.lookup x=some .local:=by first | exact .inl rfl | exact .inr rfl | assumption) :
   PS X (.Assign [.Name x pos'] e pos) (tAsg te (zo4 i)):=by
 intro pins s σ H D I h
 refine wpAny_Assign_Name (thn (he pins s σ H _ I h) fun v s1 ⟨y,H1,I1,r1,q1⟩=>?_) hs
 exact zt1 I1 hN hi hx r1 (fun s2 I2=>⟨_,H1,I2,q1⟩) hf
end
/-! ### while -/
section
variable {X:Cx} {pos:Pos}
end
/-! ### what a loop or a comprehension walks -/
structure It where
 go:Nat->Hp->Prop
 yld:Nat->Hp->V->Hp->Prop
 stop:Nat->Hp->Prop
noncomputable def FpOk (X:Cx) (pins:List (Addr×Obj)) (H:Hp) (b:Addr):Prop :=
 H b=none/\b≠X.env.locals/\b∉X.fs/\(b∈X.ex\/X.s₀.heap.objs.size<=b)/\(∀ x c,X.env.cells.lookup x=some c->c≠b)/\∀ p∈X.pn++pins,p.1≠b
theorem Inv.fpOk {X:Cx} {pins:List (Addr×Obj)} {σ:St} {H H':Hp} {s:Shared} {b:Addr} (I:Inv X pins σ H s) (hb:s.heap.objs.size<=b) (hn:H' b=none):FpOk X pins H' b:=by
 refine⟨hn,Nat.ne_of_gt (Nat.lt_of_lt_of_le I.lt hb),I.nofs hb,.inr (Nat.le_trans I.sz hb),fun x c e z=>?_,fun p hp z=>?_⟩
 . obtain ⟨v,q⟩:=I.cell x c e
   exact absurd (Nat.lt_of_lt_of_le q.lt (by rw[z];exact hb)) (Nat.lt_irrefl _)
 . exact absurd (Nat.lt_of_lt_of_le (Heap.lt_size (I.pin p hp).1) (by rw[z];exact hb)) (Nat.lt_irrefl _)
structure Turn (P:Program) (w:World) (K:PySem.W.Frag) (tg:Expr) (J:It) (fp:List Addr) (it:Addr) (tn:Nat->Heap->Prop):Prop where
 mem:it∈fp
 obj:∀ i h,tn i h->∀ b∈fp,∃ o,h.get? b=some o/\∀ v,o.data≠.cell v
 keep:∀ i h h',tn i h->(∀ b∈fp,∀ o,h.get? b=some o->h'.get? b=some o)->tn i h'
 item:∀ (X:Cx),X.prog=P->X.w=w->X.K=K->X.calm=true->∀ (i:Nat) (pins:List (Addr×Obj)) (s:Shared) (σ:St) (H:Hp) (E:Value->Shared->Prop),Inv X pins σ H s->(∀ b∈fp,FpOk X pins H b)->tn i s.heap->J.go i H →
   wpAny (model P w) X.A (pyNext (.ref it)) (fun r s1=>∃ u,r=some u ∧
     wpAny (model P w) X.A (letOwnedTupleGo tg (.ref it) u) (fun _ s2=>∃ x H',Inv X pins σ H' s2/\RelV x u/\J.yld i H x H'/\tn (i+1) s2.heap/\∀ b∈fp,H' b=none) E s1) E s
 done:∀ (X:Cx),X.prog=P->X.w=w->X.K=K->X.calm=true->∀ (i:Nat) (pins:List (Addr×Obj)) (s:Shared) (σ:St) (H:Hp) (E:Value->Shared->Prop),Inv X pins σ H s->(∀ b∈fp,FpOk X pins H b)->tn i s.heap->J.stop i H →
   wpAny (model P w) X.A (pyNext (.ref it)) (fun r s1=>r=none/\Inv X pins σ H s1) E s
 self:∀ (A:Around) (i:Nat) (s:Shared) (Q:Value->Shared->Prop) (E:Value->Shared->Prop),tn i s.heap->Q (.ref it) s->wpAny (model P w) A (pyIter (.ref it)) Q E s
noncomputable abbrev TI:=St->Hp->(It->Hp->Prop)->Prop
noncomputable def PIE (X:Cx) (pins:List (Addr×Obj)) (σ:St) (tg:Expr) (R:It->Hp->Prop) (itv:Value) (s2:Shared):Prop :=
 ∃ (it:Addr) (fp:List Addr) (tn:Nat->Heap->Prop) (J:It) (H':Hp),itv = .ref it/\Inv X pins σ H' s2/\Turn X.prog X.w X.K tg J fp it tn/\tn 0 s2.heap/\(∀ b∈fp,FpOk X pins H' b)/\R J H'
noncomputable def PI (X:Cx) (tg iter:Expr) (wi:TI):Prop :=
 ∀ (pins:List (Addr×Obj)) (s:Shared) (σ:St) (H:Hp) (R:It->Hp->Prop),Inv X pins σ H s->wi σ H R →
   wpAny (model X.prog X.w) X.A (eval iter X.env) (fun v s1=>wpAny (model X.prog X.w) X.A (pyIter v) (PIE X pins σ tg R) X.xe s1) X.xe s
theorem zF9 {M:Model} {A:Around} {E:Value->Shared->Prop} {s:Shared} {tg:Expr} {it:Addr} {u:Value} {o:Obj} {n:String} {vs:Array Value} {Q:Unit->Shared->Prop} (ho:s.heap.get? it=some o) (hc:o.cls = .type n) (hd:o.data = .fields vs)
   (hn:["enumerate","zip","dict_itemiterator","dict_reverseitemiterator","odict_iterator","itertools.zip_longest","itertools.pairwise"].contains n=false) (hQ:Q () s):wpAny M A (letOwnedTupleGo tg (.ref it) u) Q E s:=by
 unfold letOwnedTupleGo
 cases tg<;>first
   | exact wpAny_pure hQ
   | (cases u<;>first
       | exact wpAny_pure hQ
       | (refine wpAny_bind (wpAny_load ho ?_)
          rw[hc,hd]
          show wpAny M A (if (["enumerate","zip","dict_itemiterator","dict_reverseitemiterator","odict_iterator","itertools.zip_longest","itertools.pairwise"].contains n && vs[0]? == some (rawInt _))=true then _ else _) Q E s
          rw[if_neg (by intro h;rw[hn,Bool.false_and] at h;cases h)]
          exact wpAny_pure hQ))
noncomputable def Itl (K:PySem.W.Frag) (a:Addr):It :=
 ⟨fun i H=>∃ xs x,SqL K H a xs/\xs[i]?=some x,fun i H x H'=>H'=H/\∀ xs,SqL K H a xs->xs[i]?=some x,fun i H=>∃ xs,SqL K H a xs/\xs.length<=i⟩
noncomputable def Itt (K:PySem.W.Frag) (a:Addr):It :=
 ⟨fun i H=>∃ xs x,SqT K H a xs/\xs[i]?=some x,fun i H x H'=>H'=H/\∀ xs,SqT K H a xs->xs[i]?=some x,fun i H=>∃ xs,SqT K H a xs/\xs.length<=i⟩
noncomputable def Itr (lo:Int) (n:Nat):It:=⟨fun i _=>i<n,fun i H x H'=>H'=H/\x = .int (lo+i),fun i _=>n<=i⟩
theorem zv9 {P:Program} {w:World} {K:PySem.W.Frag} {tg:Expr} (a it:Addr):Turn P w K tg (Itl K a) [it] it (fun i h=>h.IsListIter it a i) where
 mem:=by simp
 obj:=fun i h st b hb=>by
   have e:b=it:=by simpa using hb
   subst e
   obtain ⟨o,e,c,d⟩:=st
   exact⟨o,e,fun v z=>by rw[d] at z;cases z⟩
 keep:=fun i h h' st k=>st.at fun o e=>k it (by simp) o e
 item:=by
   intro X hP hw hK hc i pins s σ H E I hf st hg
   subst hP hw hK
   obtain ⟨xs,x,hq,hx⟩:=hg
   obtain ⟨its,rv,p,hz⟩:=I.list hq
   obtain ⟨u,hu,ru⟩:=rv.get hx
   obtain ⟨f0,f1,f2,f3,f4,f5⟩:=hf it (by simp)
   refine wpAny_pyNext_list_item st p.isList (x:=u) (by simpa using hu) fun h' st' sb=>?_
   have I1:Inv X pins σ H { s with heap:=h' }:=I.turned (t':=s.toks) (fun b o hb e=>(sb.2 b hb).trans e) f0 f1 f3 f4 f5
   obtain ⟨o,e,c,d⟩:=id st'
   exact⟨u,rfl,zF9 (s:={ s with heap:=h' }) e c d (by decide) ⟨x,H,I1,ru,⟨rfl,fun ys hy=>by rw[I.list_inj hy hq];exact hx⟩,st',fun b hb=>(hf b hb).1⟩⟩
 done:=by
   intro X hP hw hK hc i pins s σ H E I hf st hg
   subst hP hw hK
   obtain ⟨xs,hq,hx⟩:=hg
   obtain ⟨its,rv,p,hz⟩:=I.list hq
   obtain ⟨f0,f1,f2,f3,f4,f5⟩:=hf it (by simp)
   have hl:=rv.length
   exact wpAny_pyNext_list_end (I.ok.hd hc) st p.isList (by simp;omega) fun h' eb=>⟨rfl,I.turned (t':=s.toks) (fun b o hb e=>eb b o hb e) f0 f1 f3 f4 f5⟩
 self:=fun _ _ _ _ _ st h=>wpAny_pyIter_listiter st h
theorem zt4 {P:Program} {w:World} {K:PySem.W.Frag} {tg:Expr} (a it:Addr):Turn P w K tg (Itt K a) [it] it (fun i h=>h.IsTupleIter it a i) where
 mem:=by simp
 obj:=fun i h st b hb=>by
   have e:b=it:=by simpa using hb
   subst e
   obtain ⟨o,e,c,d⟩:=st
   exact⟨o,e,fun v z=>by rw[d] at z;cases z⟩
 keep:=fun i h h' st k=>st.at fun o e=>k it (by simp) o e
 item:=by
   intro X hP hw hK hc i pins s σ H E I hf st hg
   subst hP hw hK
   obtain ⟨xs,x,hq,hx⟩:=hg
   obtain ⟨its,rv,p,hz⟩:=I.tuple hq
   obtain ⟨u,hu,ru⟩:=rv.get hx
   obtain ⟨f0,f1,f2,f3,f4,f5⟩:=hf it (by simp)
   refine wpAny_pyNext_tuple_item st (show s.heap.IsTuple a its.toArray from p) (x:=u) (by simpa using hu) fun h' st' sb=>?_
   have I1:Inv X pins σ H { s with heap:=h' }:=I.turned (t':=s.toks) (fun b o hb e=>(sb.2 b hb).trans e) f0 f1 f3 f4 f5
   obtain ⟨o,e,c,d⟩:=id st'
   exact⟨u,rfl,zF9 (s:={ s with heap:=h' }) e c d (by decide) ⟨x,H,I1,ru,⟨rfl,fun ys hy=>by rw[I.tuple_inj hy hq];exact hx⟩,st',fun b hb=>(hf b hb).1⟩⟩
 done:=by
   intro X hP hw hK hc i pins s σ H E I hf st hg
   subst hP hw hK
   obtain ⟨xs,hq,hx⟩:=hg
   obtain ⟨its,rv,p,hz⟩:=I.tuple hq
   obtain ⟨f0,f1,f2,f3,f4,f5⟩:=hf it (by simp)
   have hl:=rv.length
   exact wpAny_pyNext_tuple_end (I.ok.hd hc) st (show s.heap.IsTuple a its.toArray from p) (by simp;omega) fun h' eb=>⟨rfl,I.turned (t':=s.toks) (fun b o hb e=>eb b o hb e) f0 f1 f3 f4 f5⟩
 self:=fun _ _ _ _ _ st h=>wpAny_pyIter_tupleiter st h
theorem turn_range {P:Program} {w:World} {K:PySem.W.Frag} {tg:Expr} (it:Addr) (lo:Int) (n:Nat):Turn P w K tg (Itr lo n) [it] it (fun i h=>IsRangeIter h it (lo+(i:Nat)*1) ((n:Int)-(i:Nat)) 1) where
 mem:=by simp
 obj:=fun i h st b hb=>by
   have e:b=it:=by simpa using hb
   subst e
   exact⟨_,st,fun v z=>by
     have z':Data.fields _=Data.cell v:=z
     cases z'⟩
 keep:=fun i h h' st k=>k it (by simp) _ st
 item:=by
   intro X hP hw hK hc i pins s σ H E I hf st hg
   subst hP hw hK
   obtain ⟨f0,f1,f2,f3,f4,f5⟩:=hf it (by simp)
   have W:=Walks.range (prog:=X.prog) (w:=X.w) (I.ok.hd hc) it lo 1 n
   refine W.item i s _ _ hg st fun v h' tk hv st' kk=>?_
   obtain ⟨t,rfl⟩:=hv
   have I1:Inv X pins σ H { s with heap:=h',toks:=tk }:=I.turned (fun b o hb e=>kk b o (by simpa using hb) e) f0 f1 f3 f4 f5
   refine⟨_,rfl,zF9 (s:={ s with heap:=h',toks:=tk }) (n:="range_iterator") st' rfl rfl (by decide) ⟨.int (lo+i),H,I1,⟨t,?_⟩,⟨rfl,rfl⟩,st',fun b hb=>(hf b hb).1⟩⟩
   rw[Int.mul_one]
 done:=by
   intro X hP hw hK hc i pins s σ H E I hf st hg
   subst hP hw hK
   obtain ⟨f0,f1,f2,f3,f4,f5⟩:=hf it (by simp)
   exact wpAny_pyNext_range_end (I.ok.hd hc) st (by have:n<=i:=hg;omega) fun h' eb=>⟨rfl,I.turned (t':=s.toks) (fun b o hb e=>eb b o hb e) f0 f1 f3 f4 f5⟩
 self:=fun _ _ _ _ _ st h=>wpAny_pyIter_rangeiter st h
end L2
namespace L2
open PySem PySem.Spec PyProof.Rows
section
variable {X:Cx} {tg:Expr}
noncomputable def iList (K:PySem.W.Frag) (tl:TE):TI:=fun σ H R=>tl σ H fun x H1=>∃ a,x = .ref a/\(∃ xs,SqL K H1 a xs)/\R (Itl K a) H1
noncomputable def iTup (K:PySem.W.Frag) (tl:TE):TI:=fun σ H R=>tl σ H fun x H1=>∃ a,x = .ref a/\(∃ xs,SqT K H1 a xs)/\R (Itt K a) H1
theorem zD1 {l:Expr} {tl:TE} (hl:PE X l tl):PI X tg l (iList X.K tl):=by
 intro pins s σ H R I h
 refine thn (hl pins s σ H _ I h) fun v s1 ⟨x,H1,I1,r1,q1⟩=>?_
 obtain ⟨a,e,⟨xs,hq⟩,q⟩:=q1
 subst e
 cases r1
 obtain ⟨its,rv,p,hz⟩:=I1.list hq
 refine wpAny_pyIter_list p.isList ?_
 refine⟨s1.heap.objs.size,[s1.heap.objs.size],_,_,H1,rfl,I1.kept (t':=s1.toks) fun b o e=>Heap.get?_push_of_some _ e,zv9 a _,⟨_,Heap.get?_push_size _ rfl,rfl,rfl⟩,fun b hb=>?_,q⟩
 have e:b=s1.heap.objs.size:=by simpa using hb
 subst e
 exact I1.fpOk (Nat.le_refl _) (I1.hok.fresh (Nat.le_refl _))
theorem zG0 {l:Expr} {tl:TE} (hl:PE X l tl):PI X tg l (iTup X.K tl):=by
 intro pins s σ H R I h
 refine thn (hl pins s σ H _ I h) fun v s1 ⟨x,H1,I1,r1,q1⟩=>?_
 obtain ⟨a,e,⟨xs,hq⟩,q⟩:=q1
 subst e
 cases r1
 obtain ⟨its,rv,p,hz⟩:=I1.tuple hq
 refine wpAny_pyIter_tuple (show s1.heap.IsTuple a its.toArray from p) ?_
 refine⟨s1.heap.objs.size,[s1.heap.objs.size],_,_,H1,rfl,I1.kept (t':=s1.toks) fun b o e=>Heap.get?_push_of_some _ e,zt4 a _,⟨_,Heap.get?_push_size _ rfl,rfl,rfl⟩,fun b hb=>?_,q⟩
 have e:b=s1.heap.objs.size:=by simpa using hb
 subst e
 exact I1.fpOk (Nat.le_refl _) (I1.hok.fresh (Nat.le_refl _))
theorem range_it {pins:List (Addr×Obj)} {σ:St} {H:Hp} {s:Shared} {R:It->Hp->Prop} {E:Value->Shared->Prop} {lo hi:Int} {t u v:Tok} {tk:Nat} (I:Inv X pins σ H s) (h1:-(2 ^ 62)<=lo) (h2:lo<2 ^ 62) (h3:-(2 ^ 62)<=hi) (h4:hi<2 ^ 62)
   (q:R (Itr lo (hi-lo).toNat) H):wpAny (model X.prog X.w) X.A (pyIter (.ref s.heap.objs.size)) (PIE X pins σ tg R) E { s with heap:=s.heap.push { cls:=.type "range",data:=.fields #[.int lo t,.int hi u,.int 1 v] },toks:=tk }:=by
 refine wpAny_pyIter_range (IsRange.new ..) (small_one h1 h2 h3 h4) ?_
 have I1:Inv X pins σ H { s with heap:=s.heap.push { cls:=.type "range",data:=.fields #[.int lo t,.int hi u,.int 1 v] },toks:=tk }:=I.kept fun b o e=>Heap.get?_push_of_some _ e
 refine⟨(s.heap.push { cls:=.type "range",data:=.fields #[.int lo t,.int hi u,.int 1 v] }).objs.size,[(s.heap.push { cls:=.type "range",data:=.fields #[.int lo t,.int hi u,.int 1 v] }).objs.size],_,_,H,rfl,
   I1.kept (t':=tk) fun b o e=>Heap.get?_push_of_some _ e,turn_range _ lo (hi-lo).toNat,?_,fun b hb=>?_,q⟩
 . have e1:lo+((0:Nat):Int)*1=lo:=by simp
   have e2:(((hi-lo).toNat:Nat):Int)-((0:Nat):Int)=Builtin.Range.rangeSize lo hi 1:=by rw[rangeSize_one];split<;>omega
   show IsRangeIter _ _ (lo+((0:Nat):Int)*1) ((((hi-lo).toNat:Nat):Int)-((0:Nat):Int)) 1
   rw[e1,e2]
   exact Heap.get?_push_size _ rfl
 . have e:b=(s.heap.push { cls:=.type "range",data:=.fields #[.int lo t,.int hi u,.int 1 v] }).objs.size:=by simpa using hb
   subst e
   exact I1.fpOk (Nat.le_refl _) (I1.hok.fresh (Nat.le_refl _))
noncomputable def iRng1 (ta:TA):TI:=fun σ H R=>ta σ H fun vs H1=>∃ j:Int,vs=[.int j]/\-(2 ^ 62)<=j/\j<2 ^ 62/\R (Itr 0 j.toNat) H1
theorem zm3 {a:Expr} {ta:TA} {p pos:Pos} (hg:Gl X "range") (hm:X.mg "range" = none) (ha:PA X [a] ta) (hs:starEach [a] X.env=[(false,eval a X.env)]:=by rfl):PI X tg (.Call (.Name "range" p) [a] [] pos) (iRng1 ta):=by
 intro pins s σ H R I h
 refine Call_ (zt3 I hg hm boot_range (PyProof.Rows.callWith_type1 (thn (ha pos pins s σ H _ I h) fun us s1 ⟨vs,H1,I1,r1,q1⟩=>?_) hs rfl))
 obtain ⟨j,e,q1,q2,q⟩:=q1
 subst e
 cases r1 with
 | cons r rr =>
   cases rr
   obtain ⟨t,rfl⟩:=r
   exact call_range_1 (range_it I1 (by omega) (by omega) q1 q2 (by simpa using q))
/-! ### for -/
noncomputable def tFor (wi:TI) (g:TG) (tb:TS):TS:=fun D σ H=>wi σ H fun J H1=>∃ W:Nat->Nat->St->Hp->Prop,(∃ m,W 0 m σ H1)/\∀ i m σ H,W i m σ H →
 (J.stop i H/\D.nx σ H)\/(J.go i H/\∃ N:St->Hp->Prop,(∀ σ' H',N σ' H'->∃ m',m'<m/\W (i+1) m' σ' H')/\∀ x H',J.yld i H x H'->g x σ H' fun σ2 H2=>tb { D with nx:=N,ct:=N,bk:=D.nx } σ2 H2)
noncomputable def zq7 (fp:List Addr) (h:Heap):List (Addr×Obj):=fp.filterMap fun b=>(h.get? b).map fun o=>(b,o)
theorem zk7 {fp:List Addr} {h:Heap} {b:Addr} {o:Obj} (hb:b∈fp) (e:h.get? b=some o):(b,o)∈zq7 fp h:=List.mem_filterMap.mpr ⟨b,hb,by rw[e];rfl⟩
theorem of_pinsAt {fp:List Addr} {h:Heap} {p:Addr×Obj} (hp:p∈zq7 fp h):p.1∈fp/\h.get? p.1=some p.2:=by
 obtain ⟨b,hb,e⟩:=List.mem_filterMap.mp hp
 cases q:h.get? b with
 | none=>rw[q] at e;cases e
 | some o =>
   rw[q] at e
   have e':(b,o)=p:=Option.some.inj e
   subst e'
   exact⟨hb,q⟩
theorem Inv.pinned {pins:List (Addr×Obj)} {σ:St} {H:Hp} {s:Shared} {fp:List Addr} (I:Inv X pins σ H s) (hf:∀ b∈fp,FpOk X pins H b) (ho:∀ b∈fp,∃ o,s.heap.get? b=some o/\∀ v,o.data≠.cell v):Inv X (pins++zq7 fp s.heap) σ H s :=
 I.pins_of fun p hp=>(List.mem_append.mp hp).elim (fun z=>I.pin p (List.mem_append_right _ z)) fun z=>by
   obtain ⟨hb,e⟩:=of_pinsAt z
   obtain ⟨f0,f1,f2,_⟩:=hf p.1 hb
   obtain ⟨o,e',d⟩:=ho p.1 hb
   rw[e] at e';cases e'
   exact⟨e,f0,f1,f2,d⟩
theorem Inv.unpinned {pins pl:List (Addr×Obj)} {σ:St} {H:Hp} {s:Shared} (I:Inv X (pins++pl) σ H s):Inv X pins σ H s:=I.pins_of fun p hp=>I.pin p (List.mem_append_right _ (List.mem_append_left _ hp))
theorem zo0 {iter:Expr} {body:List Stmt} {wi:TI} {g:TG} {tb:TS} {pos:Pos} (hp:PassesOwn (model X.prog X.w) X.A X.env X.xe) (hc:X.calm=true) (hi:PI X tg iter wi) (hg:PG X tg g) (hb:PSs X body tb)
   (hs:∀ x,foldedSetIterable iter X.env x=pure x:=by intro _;rfl):PS X (.For tg iter body [] pos) (tFor wi g tb):=by
 intro pins s σ H D I h
 refine wpAny_For (thn (hi pins s σ H _ I h) fun v s1 h1=>thn h1 fun itv s2 h2=>?_) hs
 obtain ⟨it,fp,tn,J,H2,e,I2,T,st2,f2,W,⟨m0,w0⟩,turn⟩:=h2
 subst e
 have stat:∀ {H':Hp},(∀ b∈fp,H' b=none)->∀ b∈fp,FpOk X pins H' b:=fun hn b hb=>⟨hn b hb,(f2 b hb).2⟩
 refine codeAny_forLoop_any (fun n s'=>∃ i σ' H',Inv X pins σ' H' s'/\tn i s'.heap/\(∀ b∈fp,H' b=none)/\W i n σ' H') ?_ m0 ⟨0,σ,H2,I2,st2,fun b hb=>(f2 b hb).1,w0⟩
 rintro n s3 ⟨i,σ3,H3,I3,st3,fr3,w3⟩
 rcases turn i n σ3 H3 w3 with ⟨stop,qn⟩ | ⟨go,N,hN,step⟩
 . refine wpAny_passesOwn hp (thn (T.done X rfl rfl rfl hc i pins s3 σ3 H3 X.xe I3 (stat fr3) st3 stop) fun r s4 ⟨hr,I4⟩=>?_)
   subst hr
   exact wpAny_execs_nil ⟨σ3,H3,I4,qn⟩
 . refine wpAny_passesOwn hp (thn (T.item X rfl rfl rfl hc i pins s3 σ3 H3 X.xe I3 (stat fr3) st3 go) fun r s4 ⟨u,hr,h4⟩=>?_)
   subst hr
   refine wpAny_passesOwn hp (thn h4 fun _ s5 ⟨x,H5,I5,r5,y5,st5,fr5⟩=>?_)
   have I5':=I5.pinned (stat fr5) (T.obj _ _ st5)
   refine wpAny_passesOwn hp (thn (hg _ s5 σ3 H5 x u _ I5' r5 (step x H5 y5)) fun _ s6 ⟨σ6,H6,I6,q6⟩=>?_)
   refine wpAny_passesOwn hp (thn (hb _ s6 σ6 H6 _ I6 q6) fun f s7 q7=>?_)
   have again:∀ {σ7:St} {H7:Hp},Inv X (pins++zq7 fp s5.heap) σ7 H7 s7->N σ7 H7->∃ m,m<n/\∃ i σ' H',Inv X pins σ' H' s7/\tn i s7.heap/\(∀ b∈fp,H' b=none)/\W i m σ' H':=fun {σ7 H7} I7 n7=>by
     obtain ⟨m',hm,w7⟩:=hN σ7 H7 n7
     refine⟨m',hm,i+1,σ7,H7,I7.unpinned,T.keep _ _ _ st5 fun b hb o e=>(I7.pin (b,o) (List.mem_append_right _ (List.mem_append_right _ (zk7 hb e)))).1,fun b hb=>?_,w7⟩
     obtain ⟨o,e,d⟩:=T.obj _ _ st5 b hb
     exact (I7.pin (b,o) (List.mem_append_right _ (List.mem_append_right _ (zk7 hb e)))).2.1
   cases f with
   | next=>obtain ⟨σ7,H7,I7,n7⟩:=q7;exact again I7 n7
   | cont=>obtain ⟨σ7,H7,I7,n7⟩:=q7;exact again I7 n7
   | brk=>obtain ⟨σ7,H7,I7,q7⟩:=q7;exact⟨σ7,H7,I7.unpinned,q7⟩
   | ret v=>obtain ⟨x7,σ7,H7,I7,r7,q7⟩:=q7;exact⟨x7,σ7,H7,I7.unpinned,r7,q7⟩
end
/-! ### the forms one uses -/
theorem zz9 {K:PySem.W.Frag} {a:Addr} {xs:List V} {g:TG} {tb:TS} {D:Ends} {σ:St} {H:Hp} (Pv:Nat->St->Hp->Prop) (h0:Pv 0 σ H) (hl:∀ i σ H,i<=xs.length->Pv i σ H->SqL K H a xs)
   (hs:∀ i x σ H,xs[i]?=some x->Pv i σ H->g x σ H fun σ2 H2=>tb { D with nx:=Pv (i+1),ct:=Pv (i+1),bk:=D.nx } σ2 H2) (hd:∀ σ H,Pv xs.length σ H->D.nx σ H) :
   ∃ W:Nat->Nat->St->Hp->Prop,(∃ m,W 0 m σ H)/\∀ i m σ H,W i m σ H →
     ((Itl K a).stop i H/\D.nx σ H)\/((Itl K a).go i H/\∃ N:St->Hp->Prop,(∀ σ' H',N σ' H'->∃ m',m'<m/\W (i+1) m' σ' H')/\∀ x H',(Itl K a).yld i H x H'->g x σ H' fun σ2 H2=>tb { D with nx:=N,ct:=N,bk:=D.nx } σ2 H2):=by
 refine⟨fun i m σ H=>m=xs.length-i/\i<=xs.length/\Pv i σ H,⟨xs.length,by simp,Nat.zero_le _,h0⟩,?_⟩
 rintro i m σ H ⟨rfl,hi,p⟩
 have q:=hl i σ H hi p
 by_cases hlt:i<xs.length
 . refine .inr ⟨⟨xs,xs[i],q,by simp[hlt]⟩,Pv (i+1),fun σ' H' p'=>⟨xs.length-(i+1),by omega,rfl,hlt,p'⟩,fun x H' y=>?_⟩
   obtain ⟨e,y⟩:=y
   subst e
   exact hs i x σ _ (y xs q) p
 . have e:i=xs.length:=by omega
   subst e
   exact .inl ⟨⟨xs,q,Nat.le_refl _⟩,hd σ H p⟩
theorem zD2 {K:PySem.W.Frag} {a:Addr} {xs:List V} {g:TG} {tb:TS} {D:Ends} {σ:St} {H:Hp} (Pv:Nat->St->Hp->Prop) (h0:Pv 0 σ H) (hl:∀ i σ H,i<=xs.length->Pv i σ H->SqT K H a xs)
   (hs:∀ i x σ H,xs[i]?=some x->Pv i σ H->g x σ H fun σ2 H2=>tb { D with nx:=Pv (i+1),ct:=Pv (i+1),bk:=D.nx } σ2 H2) (hd:∀ σ H,Pv xs.length σ H->D.nx σ H) :
   ∃ W:Nat->Nat->St->Hp->Prop,(∃ m,W 0 m σ H)/\∀ i m σ H,W i m σ H →
     ((Itt K a).stop i H/\D.nx σ H)\/((Itt K a).go i H/\∃ N:St->Hp->Prop,(∀ σ' H',N σ' H'->∃ m',m'<m/\W (i+1) m' σ' H')/\∀ x H',(Itt K a).yld i H x H'->g x σ H' fun σ2 H2=>tb { D with nx:=N,ct:=N,bk:=D.nx } σ2 H2):=by
 refine⟨fun i m σ H=>m=xs.length-i/\i<=xs.length/\Pv i σ H,⟨xs.length,by simp,Nat.zero_le _,h0⟩,?_⟩
 rintro i m σ H ⟨rfl,hi,p⟩
 have q:=hl i σ H hi p
 by_cases hlt:i<xs.length
 . refine .inr ⟨⟨xs,xs[i],q,by simp[hlt]⟩,Pv (i+1),fun σ' H' p'=>⟨xs.length-(i+1),by omega,rfl,hlt,p'⟩,fun x H' y=>?_⟩
   obtain ⟨e,y⟩:=y
   subst e
   exact hs i x σ _ (y xs q) p
 . have e:i=xs.length:=by omega
   subst e
   exact .inl ⟨⟨xs,q,Nat.le_refl _⟩,hd σ H p⟩
theorem zj9 {lo:Int} {n:Nat} {g:TG} {tb:TS} {D:Ends} {σ:St} {H:Hp} (Pv:Nat->St->Hp->Prop) (h0:Pv 0 σ H)
   (hs:∀ i σ H,i<n->Pv i σ H->g (.int (lo+i)) σ H fun σ2 H2=>tb { D with nx:=Pv (i+1),ct:=Pv (i+1),bk:=D.nx } σ2 H2) (hd:∀ σ H,Pv n σ H->D.nx σ H) :
   ∃ W:Nat->Nat->St->Hp->Prop,(∃ m,W 0 m σ H)/\∀ i m σ H,W i m σ H →
     ((Itr lo n).stop i H/\D.nx σ H)\/((Itr lo n).go i H/\∃ N:St->Hp->Prop,(∀ σ' H',N σ' H'->∃ m',m'<m/\W (i+1) m' σ' H')/\∀ x H',(Itr lo n).yld i H x H'->g x σ H' fun σ2 H2=>tb { D with nx:=N,ct:=N,bk:=D.nx } σ2 H2):=by
 refine⟨fun i m σ H=>m=n-i/\i<=n/\Pv i σ H,⟨n,by simp,Nat.zero_le _,h0⟩,?_⟩
 rintro i m σ H ⟨rfl,hi,p⟩
 by_cases hlt:i<n
 . refine .inr ⟨hlt,Pv (i+1),fun σ' H' p'=>⟨n-(i+1),by omega,rfl,hlt,p'⟩,fun x H' y=>?_⟩
   obtain ⟨e,y⟩:=y
   subst e y
   exact hs i σ _ hlt p
 . have e:i=n:=by omega
   subst e
   exact .inl ⟨Nat.le_refl _,hd σ H p⟩
end L2
namespace L2
open PySem PySem.Spec PyProof.Rows
noncomputable abbrev R2:=V->V->Hp->VK->Prop
noncomputable def OpR (X:Cx) (f:Value->Value->Sem Value) (r:R2):Prop :=
 ∀ (pins:List (Addr×Obj)) (s:Shared) (σ:St) (H:Hp) (x y:V) (v u:Value) (Q:VK),Inv X pins σ H s->RelV x v->RelV y u->r x y H Q →
   wpAny (model X.prog X.w) X.A (f v u) (EP X pins σ Q) X.xe s
noncomputable def UnR (X:Cx) (f:Value->Sem Value) (r:V->Hp->VK->Prop):Prop :=
 ∀ (pins:List (Addr×Obj)) (s:Shared) (σ:St) (H:Hp) (x:V) (v:Value) (Q:VK),Inv X pins σ H s->RelV x v->r x H Q →
   wpAny (model X.prog X.w) X.A (f v) (EP X pins σ Q) X.xe s
noncomputable def zl2 (X:Cx) (f:Value) (r:List V->Hp->VK->Prop):Prop :=
 ∀ (pins:List (Addr×Obj)) (s:Shared) (σ:St) (H:Hp) (xs:List V) (us:List Value) (Q:VK),Inv X pins σ H s->Vals xs us->r xs H Q →
   wpAny (model X.prog X.w) X.A (call f us) (EP X pins σ Q) X.xe s
noncomputable def tOp (r:R2) (ta tb:TE):TE:=fun σ H Q=>ta σ H fun x H1=>tb σ H1 fun y H2=>r x y H2 Q
noncomputable def tUn (r:V->Hp->VK->Prop) (ta:TE):TE:=fun σ H Q=>ta σ H fun x H1=>r x H1 Q
noncomputable def rI (C:Int->Int->Prop) (g:Int->Int->V):R2:=fun x y H Q=>∃ i j,x = .int i/\y = .int j/\C i j/\Q (g i j) H
noncomputable def rI0 (g:Int->Int->V):R2:=fun x y H Q=>∃ i j,x = .int i/\y = .int j/\Q (g i j) H
noncomputable def rU (g:Int->V):V->Hp->VK->Prop:=fun x H Q=>∃ i,x = .int i/\Q (g i) H
section
variable {X:Cx} {a b c:Expr} {ta tb tc:TE} {pos:Pos}
theorem binT (ha:PE X a ta) (hb:PE X b tb) {pins:List (Addr×Obj)} {s:Shared} {σ:St} {H:Hp} {R:V->V->Hp->Prop} (I:Inv X pins σ H s)
   (h:ta σ H fun x H1=>tb σ H1 fun y H2=>R x y H2) {Q:Value->Shared->Prop} {f:Value->Value->Sem Value}
   (hf:∀ v u s2 x y H2,Inv X pins σ H2 s2->RelV x v->RelV y u->R x y H2->wpAny (model X.prog X.w) X.A (f v u) Q X.xe s2) :
   wpAny (model X.prog X.w) X.A (eval a X.env) (fun v s₁=>wpAny (model X.prog X.w) X.A (eval b X.env) (fun u s₂=>wpAny (model X.prog X.w) X.A (f v u) Q X.xe s₂) X.xe s₁) X.xe s:=by
 refine thn (ha pins s σ H _ I h) fun v s1 ⟨x,H1,I1,r1,q1⟩=>?_
 refine thn (hb pins s1 σ H1 _ I1 q1) fun u s2 ⟨y,H2,I2,r2,q2⟩=>?_
 exact hf v u s2 x y H2 I2 r1 r2 q2
theorem zc1 {op:Operator} {r:R2} (ho:OpR X (binaryOp op) r) (ha:PE X a ta) (hb:PE X b tb):PE X (.BinOp a op b pos) (tOp r ta tb):=by
 intro pins s σ H Q I h
 exact wpAny_BinOp (binT ha hb I h fun v u s2 x y H2 I2 rx ry q=>ho pins s2 σ H2 x y v u Q I2 rx ry q)
theorem zI0 {op:UnaryOp} {r:V->Hp->VK->Prop} (ho:UnR X (unaryOp op) r) (ha:PE X a ta):PE X (.UnaryOp op a pos) (tUn r ta):=by
 intro pins s σ H Q I h
 exact UnaryOp_ (thn (ha pins s σ H _ I h) fun v s1 ⟨x,H1,I1,r1,q1⟩=>ho pins s1 σ H1 x v Q I1 r1 q1)
/-! ### ints -/
theorem opI {f:Value->Value->Sem Value} {C:Int->Int->Prop} {g:Int->Int->Int}
   (rule:∀ (i j:Int) (t u:Tok) (s:Shared) (Q:Value->Shared->Prop) (E:Value->Shared->Prop),C i j->Q (.int (g i j) s.toks) { s with toks:=s.toks+1 }->wpAny (model X.prog X.w) X.A (f (.int i t) (.int j u)) Q E s) :
   OpR X f (rI C fun i j=>.int (g i j)):=by
 intro pins s σ H x y v u Q I rx ry h
 obtain ⟨i,j,rfl,rfl,hc,q⟩:=h
 obtain ⟨t,rfl⟩:=rx
 obtain ⟨t',rfl⟩:=ry
 exact rule i j t t' s _ _ hc ⟨.int (g i j),H,I.tok _,⟨_,rfl⟩,q⟩
theorem opI0 {f:Value->Value->Sem Value} {g:Int->Int->Int}
   (rule:∀ (i j:Int) (t u:Tok) (s:Shared) (Q:Value->Shared->Prop) (E:Value->Shared->Prop),Q (.int (g i j) s.toks) { s with toks:=s.toks+1 }->wpAny (model X.prog X.w) X.A (f (.int i t) (.int j u)) Q E s) :
   OpR X f (rI0 fun i j=>.int (g i j)):=by
 intro pins s σ H x y v u Q I rx ry h
 obtain ⟨i,j,rfl,rfl,q⟩:=h
 obtain ⟨t,rfl⟩:=rx
 obtain ⟨t',rfl⟩:=ry
 exact rule i j t t' s _ _ ⟨.int (g i j),H,I.tok _,⟨_,rfl⟩,q⟩
theorem opB0 {f:Value->Value->Sem Value} {g:Int->Int->Bool}
   (rule:∀ (i j:Int) (t u:Tok) (s:Shared) (Q:Value->Shared->Prop) (E:Value->Shared->Prop),Q (.bool (g i j)) s->wpAny (model X.prog X.w) X.A (f (.int i t) (.int j u)) Q E s) :
   OpR X f (rI0 fun i j=>.bl (g i j)):=by
 intro pins s σ H x y v u Q I rx ry h
 obtain ⟨i,j,rfl,rfl,q⟩:=h
 obtain ⟨t,rfl⟩:=rx
 obtain ⟨t',rfl⟩:=ry
 exact rule i j t t' s _ _ ⟨.bl (g i j),H,I,rfl,q⟩
noncomputable def CDiv (i j:Int):Prop:=0<j/\j<1073741824
noncomputable def CMul (i j:Int):Prop:=(-(2 ^ 64)<i/\i<2 ^ 64)\/(-(2 ^ 64)<j/\j<2 ^ 64)
theorem CMul.ok {i j:Int} (h:CMul i j):IntMulOk i j:=by
 rcases h with ⟨h1,h2⟩ | ⟨h1,h2⟩
 . exact .of_left (intBits_le_64 h1 h2)
 . exact .of_right (intBits_le_64 h1 h2)
theorem zg7:OpR X (binaryOp .Add) (rI0 fun i j=>.int (i+j)):=opI0 fun _ _ _ _ _ _ _ q=>add_int q
theorem zC7:OpR X (binaryOp .Sub) (rI0 fun i j=>.int (i-j)):=opI0 fun _ _ _ _ _ _ _ q=>sub_int q
theorem zq8:OpR X (binaryOp .Mult) (rI CMul fun i j=>.int (i*j)):=opI fun _ _ _ _ _ _ _ hc q=>mul_int q hc.ok
theorem zj1:OpR X (binaryOp .FloorDiv) (rI CDiv fun i j=>.int (i / j)):=opI fun i j _ _ _ _ _ hc q=>by
 have h1:(0:Int)<j:=hc.1
 have h2:j<1073741824:=hc.2
 exact floordiv_int (by omega) (by rw[Int.fdiv_eq_ediv_of_nonneg i (by omega)];exact q) (.inl (PyProof.noPylong_small (by omega)))
theorem ze0:OpR X (binaryOp .Mod) (rI (fun _ j=>0<j) fun i j=>.int (i % j)):=opI fun i j _ _ _ _ _ hc q=>by
 have h1:(0:Int)<j:=hc
 exact mod_int' (by omega) (by rw[Int.fmod_eq_emod_of_nonneg i (by omega)];exact q)
theorem unI {f:Value->Sem Value} {g:Int->Int}
   (rule:∀ (i:Int) (t:Tok) (s:Shared) (Q:Value->Shared->Prop) (E:Value->Shared->Prop),Q (.int (g i) s.toks) { s with toks:=s.toks+1 }->wpAny (model X.prog X.w) X.A (f (.int i t)) Q E s) :
   UnR X f (rU fun i=>.int (g i)):=by
 intro pins s σ H x v Q I rx h
 obtain ⟨i,rfl,q⟩:=h
 obtain ⟨t,rfl⟩:=rx
 exact rule i t s _ _ ⟨.int (g i),H,I.tok _,⟨_,rfl⟩,q⟩
theorem zG1:UnR X (unaryOp .USub) (rU fun i=>.int (-i)):=unI fun _ _ _ _ _ q=>neg_int q
/-! ### bools among ints: n += (a<b) -/
end
/-! ### comparisons -/
noncomputable def scal:V->V->Bool
 | .non,.non=>true | .non,.int _=>true | .int _,.non=>true | .non,.bl _=>true | .bl _,.non=>true | .non,.str _=>true | .str _,.non=>true
 | .int _,.int _=>true | .bl _,.bl _=>true | .str _,.str _=>true | .byt _,.byt _=>true
 | .int _,.str _=>true | .str _,.int _=>true | .bl _,.str _=>true | .str _,.bl _=>true
 | _,_=>false
noncomputable def rEq:R2:=fun x y H Q=>scal x y=true/\Q (.bl (decide (x=y))) H
noncomputable def rNe:R2:=fun x y H Q=>scal x y=true/\Q (.bl (!decide (x=y))) H
theorem zD3 {i j:Int}:decide (V.int i=V.int j)=(i == j):=by
 rw[Bool.eq_iff_iff]
 simp
theorem zG2 {i j:Bool}:decide (V.bl i=V.bl j)=(i == j):=by
 rw[Bool.eq_iff_iff]
 simp
theorem zD4 {i j:Str}:decide (V.str i=V.str j)=(i == j):=by
 rw[Bool.eq_iff_iff]
 simp
theorem zD5 {i j:Array UInt8}:decide (V.byt i=V.byt j)=(i.toList == j.toList):=by
 rw[Bool.eq_iff_iff]
 cases i
 cases j
 simp
section
variable {X:Cx} {a b c:Expr} {ta tb tc:TE} {pos:Pos}
theorem zc9 {pins:List (Addr×Obj)} {σ:St} {H:Hp} {s:Shared} {Q:VK} {k k':Bool} (I:Inv X pins σ H s) (q:Q (.bl k) H) (e:k=k'):EP X pins σ Q (.bool k') s:=by
 subst e
 exact⟨.bl k,H,I,rfl,q⟩
theorem zd9:OpR X (compareOp .Eq) rEq:=by
 intro pins s σ H x y v u Q I rx ry h
 obtain ⟨hs,q⟩:=h
 cases x with
 | non =>
   cases rx
   cases y with
   | non=>cases ry;exact PySem.EqNone.eq_none_none (zc9 I q (by simp))
   | bl j=>cases ry;exact PySem.EqNone.eq_none_bool (zc9 I q (by simp))
   | int j=>obtain ⟨t',rfl⟩:=ry;exact PySem.EqNone.eq_none_int (zc9 I q (by simp))
   | str j=>obtain ⟨t',rfl⟩:=ry;exact PySem.EqNone.eq_none_str (zc9 I q (by simp))
   | _=>exact absurd (show false=true from hs) Bool.false_ne_true
 | bl i =>
   cases rx
   cases y with
   | non=>cases ry;exact PySem.EqNone.eq_bool_none (zc9 I q (by simp))
   | bl j=>cases ry;exact eq_bool (zc9 I q zG2)
   | str j=>obtain ⟨t',rfl⟩:=ry;exact PySem.EqMixed.eq_bool_str (zc9 I q (by simp))
   | _=>exact absurd (show false=true from hs) Bool.false_ne_true
 | int i =>
   obtain ⟨t,rfl⟩:=rx
   cases y with
   | non=>cases ry;exact PySem.EqNone.eq_int_none (zc9 I q (by simp))
   | int j=>obtain ⟨t',rfl⟩:=ry;exact eq_int (zc9 I q zD3)
   | str j=>obtain ⟨t',rfl⟩:=ry;exact PySem.EqMixed.eq_int_str (zc9 I q (by simp))
   | _=>exact absurd (show false=true from hs) Bool.false_ne_true
 | str i =>
   obtain ⟨t,rfl⟩:=rx
   cases y with
   | non=>cases ry;exact PySem.EqNone.eq_str_none (zc9 I q (by simp))
   | bl j=>cases ry;exact PySem.EqMixed.eq_str_bool (zc9 I q (by simp))
   | int j=>obtain ⟨t',rfl⟩:=ry;exact PySem.EqMixed.eq_str_int (zc9 I q (by simp))
   | str j=>obtain ⟨t',rfl⟩:=ry;exact eq_str (zc9 I q zD4)
   | _=>exact absurd (show false=true from hs) Bool.false_ne_true
 | byt i =>
   obtain ⟨t,rfl⟩:=rx
   cases y with
   | byt j=>obtain ⟨t',rfl⟩:=ry;exact PySem.W.eq_bytes (zc9 I q zD5)
   | _=>exact absurd (show false=true from hs) Bool.false_ne_true
 | _=>cases y<;>exact absurd (show false=true from hs) Bool.false_ne_true
theorem zA0:OpR X (compareOp .NotEq) rNe:=by
 intro pins s σ H x y v u Q I rx ry h
 obtain ⟨hs,q⟩:=h
 cases x with
 | non =>
   cases rx
   cases y with
   | non=>cases ry;exact PySem.EqNone.ne_none_none (zc9 I q (by simp))
   | bl j=>cases ry;exact PySem.EqNone.ne_none_bool (zc9 I q (by simp))
   | int j=>obtain ⟨t',rfl⟩:=ry;exact PySem.EqNone.ne_none_int (zc9 I q (by simp))
   | str j=>obtain ⟨t',rfl⟩:=ry;exact PySem.EqNone.ne_none_str (zc9 I q (by simp))
   | _=>exact absurd (show false=true from hs) Bool.false_ne_true
 | bl i =>
   cases rx
   cases y with
   | non=>cases ry;exact PySem.EqNone.ne_bool_none (zc9 I q (by simp))
   | bl j=>cases ry;exact ne_bool (zc9 I q (congrArg not zG2))
   | str j=>obtain ⟨t',rfl⟩:=ry;exact PySem.EqMixed.ne_bool_str (zc9 I q (by simp))
   | _=>exact absurd (show false=true from hs) Bool.false_ne_true
 | int i =>
   obtain ⟨t,rfl⟩:=rx
   cases y with
   | non=>cases ry;exact PySem.EqNone.ne_int_none (zc9 I q (by simp))
   | int j=>obtain ⟨t',rfl⟩:=ry;exact ne_int (zc9 I q (congrArg not zD3))
   | str j=>obtain ⟨t',rfl⟩:=ry;exact PySem.EqMixed.ne_int_str (zc9 I q (by simp))
   | _=>exact absurd (show false=true from hs) Bool.false_ne_true
 | str i =>
   obtain ⟨t,rfl⟩:=rx
   cases y with
   | non=>cases ry;exact PySem.EqNone.ne_str_none (zc9 I q (by simp))
   | bl j=>cases ry;exact PySem.EqMixed.ne_str_bool (zc9 I q (by simp))
   | int j=>obtain ⟨t',rfl⟩:=ry;exact PySem.EqMixed.ne_str_int (zc9 I q (by simp))
   | str j=>obtain ⟨t',rfl⟩:=ry;exact ne_str (zc9 I q (congrArg not zD4))
   | _=>exact absurd (show false=true from hs) Bool.false_ne_true
 | byt i =>
   obtain ⟨t,rfl⟩:=rx
   cases y with
   | byt j=>obtain ⟨t',rfl⟩:=ry;exact PySem.W.ne_bytes (zc9 I q (congrArg not zD5))
   | _=>exact absurd (show false=true from hs) Bool.false_ne_true
 | _=>cases y<;>exact absurd (show false=true from hs) Bool.false_ne_true
theorem zG3:OpR X (compareOp .Lt) (rI0 fun i j=>.bl (decide (i<j))):=opB0 fun _ _ _ _ _ _ _ q=>lt_int q
theorem zw0:OpR X (compareOp .Gt) (rI0 fun i j=>.bl (decide (j<i))):=opB0 fun _ _ _ _ _ _ _ q=>gt_int q
theorem op_ge:OpR X (compareOp .GtE) (rI0 fun i j=>.bl (decide (j<=i))):=opB0 fun _ _ _ _ _ _ _ q=>ge_int q
theorem zb9 (b:Expr) {op:CmpOp} (h:op≠.In:=by decide) (h2:op≠.NotIn:=by decide):behindInMarks op b=false:=by
 have e1:(op == CmpOp.In)=false:=by cases op<;>first | rfl | exact absurd rfl h
 have e2:(op == CmpOp.NotIn)=false:=by cases op<;>first | rfl | exact absurd rfl h2
 cases b<;>simp[behindInMarks,e1,e2]
theorem zm4 {op:CmpOp} {r:R2} (ho:OpR X (compareOp op) r) (ha:PE X a ta) (hb:PE X b tb) (hm:behindInMarks op b=false):PE X (.Compare a [op] [b] pos) (tOp r ta tb):=by
 intro pins s σ H Q I h
 exact wpAny_Compare1 (binT ha hb I h fun v u s2 x y H2 I2 rx ry q=>ho pins s2 σ H2 x y v u Q I2 rx ry q) hm
noncomputable def tTest (t:TE):TT:=fun σ H Q=>t σ H fun x H'=>∃ k,x = .bl k/\Q k H'
theorem zb7 {op:CmpOp} {r:R2} (ho:OpR X (compareOp op) r) (ha:PE X a ta) (hb:PE X b tb) (hm:behindInMarks op b=false):PT X (.Compare a [op] [b] pos) (tTest (tOp r ta tb)):=by
 intro pins s σ H Q I h
 refine wpAny_isTrue_Compare1 (thn (ha pins s σ H _ I h) fun v s1 ⟨x,H1,I1,r1,q1⟩=>thn (hb pins s1 σ H1 _ I1 q1) fun u s2 ⟨y,H2,I2,r2,q2⟩ =>
   thn (ho pins s2 σ H2 x y v u _ I2 r1 r2 q2) fun c s3 ⟨z,H3,I3,r3,k,e,q3⟩=>?_) hm
 subst e
 cases r3
 exact wpAny_truthy_bool ⟨H3,I3,q3⟩
/-! ### truth -/
theorem zt5:(sizeLine:Nat)<2 ^ 63:=by rw[sizeLine_eq];decide
/-! ### strs and bytes -/
/-! ### scalar builtins,by zl2 -/
theorem zA1 {x:V} {us:List Value} (r:Vals [x] us):∃ u,us=[u]/\RelV x u:=by
 cases r with
 | cons r1 r2=>cases r2;exact⟨_,rfl,r1⟩
theorem zD6 {x y:V} {us:List Value} (r:Vals [x,y] us):∃ u w',us=[u,w']/\RelV x u/\RelV y w':=by
 cases r with
 | cons r1 r2 =>
   cases r2 with
   | cons r3 r4=>cases r4;exact⟨_,_,rfl,r1,r3⟩
theorem call_abs:zl2 X (.builtin "abs") (fun xs H Q=>∃ i,xs=[.int i]/\Q (.int (if i<0 then -i else i)) H):=by
 intro pins s σ H xs us Q I r h
 obtain ⟨i,rfl,q⟩:=h
 obtain ⟨u,rfl,t,rfl⟩:=zA1 r
 exact call_abs_int fun u tk=>⟨.int (if i<0 then -i else i),H,I.tok _,⟨_,rfl⟩,q⟩
theorem call_min2 (hc:X.calm=true):zl2 X (.builtin "min") (fun xs H Q=>∃ i j,xs=[.int i,.int j]/\Q (.int (if j<i then j else i)) H):=by
 intro pins s σ H xs us Q I r h
 obtain ⟨i,j,rfl,q⟩:=h
 obtain ⟨u,w',rfl,⟨t,rfl⟩,⟨t',rfl⟩⟩:=zD6 r
 refine min_two_ints (I.ok.hd hc) fun h' tk k=>⟨_,H,I.kept k,?_,q⟩
 by_cases hj:j<i
 . rw[if_pos hj,if_pos hj];exact⟨_,rfl⟩
 . rw[if_neg hj,if_neg hj];exact⟨_,rfl⟩
end
end L2
namespace L2
open PySem PySem.Spec PyProof.Rows
/-! ### an instance,its attributes a map -/
structure ObjM (h:Heap) (x dx C:Addr) (mA:Str->Option Value):Prop where
 obj:h.get? x=some (PySem.W.instObj C dx)
 ns:h.Ns1 dx mA
 ne:dx≠x
theorem zw1 {h:Heap} {dx:Addr} {mA:Str->Option Value} (n:h.Ns1 dx mA):∃ od,h.get? dx=some od/\∀ name,PySem.W.lookIn name od=some (mA name):=by
 obtain ⟨o,es,ep,ho,hd,hk,_,hm⟩:=n
 refine⟨o,ho,fun name=>?_⟩
 have e:=hm name
 unfold nsFind findBy at e
 rw[<-Array.find?_toList] at e
 unfold PySem.W.lookIn
 rw[hd]
 dsimp only
 split
 . rename_i y q
   rw[q] at e
   exact congrArg some e
 . rename_i q
   rw[q] at e
   have a:es.toList.any (·.refKey)=false:=by
     rw[List.any_eq_false]
     intro y hy
     obtain ⟨z,t,hkey⟩:=hk y (Array.mem_toList_iff.mp hy)
     simp[DictEntry.refKey,hkey]
   have a':¬ es.toList.any (·.refKey)=true:=by rw[a];exact Bool.false_ne_true
   rw[if_neg a']
   exact congrArg some e
theorem ObjM.look {h:Heap} {x dx C:Addr} {mA:Str->Option Value} (I:ObjM h x dx C mA):∃ od,PySem.W.InstAt h x (PySem.W.instObj C dx) C (some od)/\∀ name,PySem.W.lookIn name od=some (mA name) :=
 let ⟨od,ho,hl⟩:=zw1 I.ns
 ⟨od,⟨I.obj,rfl,rfl,ho⟩,hl⟩
section
variable {prog:Program} {w:World} {A:Around} {E:Value->Shared->Prop} {s:Shared} {K:PySem.W.Frag} {x dx C f:Addr} {mA:Str->Option Value} {name:Str} {v:Value}
theorem get_map {expr:Bool} {Q:Value->Shared->Prop} (X:K.In s.heap) (I:ObjM s.heap x dx C mA) (hg:PySem.W.plainGet K C name=true) (hh:PySem.W.hasDictIn K C=true)
   (ha:PySem.W.findIn K (.ref C) name=some none) (hv:mA name=some v) (hv':PySem.W.handedIn v=true) (h:Q v { s with toks:=s.toks+1 }) :
   wpAny (model prog w) A (getAttr (.ref x) name expr) Q E s:=by
 obtain ⟨od,J,hl⟩:=I.look
 exact PySem.W.get_value X J (PySem.W.plainGet_of hg).1 (PySem.W.findObj_own hh ha rfl (by rw[hl,hv])) hv' h
theorem get_meth {pl:Sem Bool} {Q:Value×List Value->Shared->Prop} (X:K.In s.heap) (I:ObjM s.heap x dx C mA) (hg:PySem.W.plainGet K C name=true)
   (hf:PySem.W.findIn K (.ref C) name=some (some (.ref f))) (ht:PySem.W.isFn K (.ref f)=true) (hv:mA name=none) (h:Q (.ref f,[.ref x]) s) :
   wpAny (model prog w) A (getMethod (.ref x) name pl) Q E s:=by
 obtain ⟨od,J,hl⟩:=I.look
 exact PySem.W.method_fn X J (PySem.W.plainGet_of hg).1 (PySem.W.plainGet_of hg).2 hf (beq_iff_eq.mp ht) (by show (PySem.W.lookIn name od).map (·.isSome)=some false;rw[hl,hv];rfl) h
theorem set_map {ns:List Str} {Q:Unit->Shared->Prop} (X:K.In s.heap) (I:ObjM s.heap x dx C mA)
   (hs:PySem.W.findIn K (.ref C) "__setattr__" = some (some (.builtin "object.__setattr__"))) (hp:PySem.W.plainOver K C=true) (ht:PySem.W.takerIn K C name=some none) (hh:PySem.W.hasDictIn K C=true)
   (hw:PySem.Within mA ns) (hsz:ns.length<=sizeLine)
   (h:∀ h',ObjM h' x dx C (fun y=>if y=name then some v else mA y)->Heap.SameBut dx s.heap h'->Q () { s with heap:=h',toks:=s.toks+2 }) :
   wpAny (model prog w) A (setAttr (.ref x) name v) Q E s:=by
 obtain ⟨od,J,hl⟩:=I.look
 refine PySem.W.set_plain X J hs (PySem.W.osa_open (s:={ s with toks:=s.toks+1 }) (r:=none) X J hp ht fun b=>?_)
 obtain ⟨cd,hc,hd'⟩:=PySem.W.any_some hh
 have hx:s.heap.get? x=some ⟨.ref C,some dx,.plain,#[]⟩:=I.obj
 refine wpAny_bind (wpAny_pure (wpAny_bind (wpAny_bind (wpAny_loadPart hx (wpAny_bind (PySem.W.Looks.here (s:={ s with toks:=s.toks+1 }) (PySem.W.looks_clsIn X hc) ?_))))))
 rw[hd']
 refine wpAny_pure (a:=some dx) (wpAny_bind (wpAny_pure (wpAny_bind ?_)))
 refine wpAny_nsSet1 (s:={ s with toks:=s.toks+1 }) I.ns fun h' hn2 hs2=>?_
 obtain ⟨oD,esD,epD,hoD,hdD,hcD⟩:=hn2.count (PySem.Within.cons name v hw)
 refine wpAny_bind (wpAny_lookBehind hoD (by rw[hdD];exact pastItsLine_dict (Nat.le_trans hcD (by rw[List.length_cons];omega))) ?_)
 exact wpAny_pure (h _ ⟨(hs2.2 _ (Ne.symm I.ne)).trans I.obj,hn2,I.ne⟩ hs2)
theorem make_map {R:Result->Shared->Prop} {vs:List Value} {kw:List (Str×Value)} (X:K.In s.heap) (hm:PySem.W.makesIn K C=true)
   (hi:PySem.W.findIn K (.ref C) "__init__" = some (some (.ref f))) (hf:PySem.W.typeIn K (.ref f)=some (.type "function"))
   (h:codeAny (model prog w) (A.under (.builtin "type.__call__" ⟨.ref C::vs,kw⟩)) (.call (.ref f) ⟨.ref (s.heap.objs.size+1)::vs,kw⟩) (PySem.W.InitBack (s.heap.objs.size+1) R)
     { s with heap:=(s.heap.push PySem.W.emptyDict).push (PySem.W.instObj C s.heap.objs.size) }) :
   codeAny (model prog w) A (.call (.ref C) ⟨vs,kw⟩) R s:=by
 obtain ⟨hh,g,d,t,os⟩:=s
 exact PySem.W.make_core (PySem.W.makes_of X hm) (PySem.W.looks_findIn X hi) (fun self=>PySem.W.bind_fn X self hf) (.inl rfl) h
end
/-! ### the attributes as a list of pairs -/
noncomputable def putF (f:Str) (v:V):List (Str×V)->List (Str×V)
 | []=>[(f,v)]
 | (g,x)::r=>if g=f then (g,v)::r else (g,x)::putF f v r
theorem zb3 (f g:Str) (v:V):∀ fs:List (Str×V),(putF f v fs).lookup g=if g=f then some v else fs.lookup g
 | []=>by
   show List.lookup g [(f,v)]=_
   by_cases h:g=f
   . have hb:(g == f)=true:=beq_iff_eq.mpr h
     simp only[List.lookup,hb,if_pos h]
   . have hb:(g == f)=false:=beq_eq_false_iff_ne.mpr h
     simp only[List.lookup,hb,if_neg h]
 | (k,x)::r=>by
   have ih:=zb3 f g v r
   rw[show putF f v ((k,x)::r)=(if k=f then (k,v)::r else (k,x)::putF f v r) from rfl]
   by_cases hk:k=f
   . rw[if_pos hk]
     by_cases h:g=k
     . have hb:(g == k)=true:=beq_iff_eq.mpr h
       simp only[List.lookup,hb,if_pos (h.trans hk)]
     . have hb:(g == k)=false:=beq_eq_false_iff_ne.mpr h
       simp only[List.lookup,hb,if_neg (fun e:g=f=>h (e.trans hk.symm))]
   . rw[if_neg hk]
     by_cases h:g=k
     . have hb:(g == k)=true:=beq_iff_eq.mpr h
       simp only[List.lookup,hb,if_neg (fun e:g=f=>hk (h.symm.trans e))]
     . have hb:(g == k)=false:=beq_eq_false_iff_ne.mpr h
       simp only[List.lookup,hb]
       exact ih
theorem zk0 (f:Str) (v:V):∀ fs:List (Str×V),f∈(putF f v fs).map (·.1)/\∀ g,g∈fs.map (·.1)->g∈(putF f v fs).map (·.1)
 | []=>⟨by simp[putF],fun g h=>by simp at h⟩
 | (k,x)::r=>by
   obtain ⟨i1,i2⟩:=zk0 f v r
   rw[show putF f v ((k,x)::r)=(if k=f then (k,v)::r else (k,x)::putF f v r) from rfl]
   by_cases hk:k=f
   . rw[if_pos hk]
     subst hk
     exact⟨by simp,fun g h=>by simpa using h⟩
   . rw[if_neg hk]
     refine⟨?_,fun g h=>?_⟩
     . rw[List.map_cons]
       exact List.mem_cons_of_mem _ i1
     . rw[List.map_cons] at h ⊢
       rcases List.mem_cons.mp h with e | e
       . exact List.mem_cons.mpr (.inl e)
       . exact List.mem_cons_of_mem _ (i2 g e)
theorem zh3 (f:Str) (v:V):∀ fs:List (Str×V),(putF f v fs).length<=fs.length+1
 | []=>by simp[putF]
 | (k,x)::r=>by
   have ih:=zh3 f v r
   rw[show putF f v ((k,x)::r)=(if k=f then (k,v)::r else (k,x)::putF f v r) from rfl]
   by_cases hk:k=f
   . rw[if_pos hk,List.length_cons,List.length_cons];omega
   . rw[if_neg hk,List.length_cons,List.length_cons];omega
theorem RelO.some_of {v:V} {o:Option Value} (r:RelO (some v) o):∃ u,o=some u/\RelV v u:=by
 cases o with
 | none=>exact (show False from r).elim
 | some u=>exact⟨u,rfl,r⟩
theorem RelO.none_of {o:Option Value} (r:RelO none o):o=none:=by
 cases o with
 | none=>rfl
 | some u=>exact (show False from r).elim
theorem handed_of {v:V} {u:Value} (r:RelV v u):PySem.W.handedIn u=true:=by
 cases v with
 | non=>cases (show u=Value.none from r);rfl
 | bl b=>cases (show u=Value.bool b from r);rfl
 | int i=>obtain ⟨t,e⟩:=(show ∃ t,u=Value.int i t from r);cases e;rfl
 | str x=>obtain ⟨t,e⟩:=(show ∃ t,u=Value.str x t from r);cases e;rfl
 | byt b=>obtain ⟨t,e⟩:=(show ∃ t,u=Value.bytes b t from r);cases e;rfl
 | flt b=>obtain ⟨t,e⟩:=(show ∃ t,u=Value.float b t from r);cases e;rfl
 | ref a=>cases (show u=Value.ref a from r);rfl
 | ty n=>cases (show u=Value.type n from r);rfl
section
variable {P:Program} {w:World} {H H':Hp} {h h':Heap} {a C dx:Addr} {fs fs':List (Str×V)}
theorem zs5 (hok:HOk P w H h) (e:H a=some (.ins C dx fs)):∃ mA,ObjM h a dx C mA/\(∀ f,RelO (fs.lookup f) (mA f))/\PySem.Within mA (fs.map (·.1))/\fs.length<=1000/\H dx=some (.own a):=by
 obtain ⟨d,z,ne,ob,mA,n,r,q⟩:=(show ze6 P w H h a (.ins C dx fs) from hok a _ e)
 exact⟨mA,⟨ob,n,ne⟩,r,q,z,d⟩
end
/-! ### what of the text a class must have -/
structure Cls (K:PySem.W.Frag) (C:Addr):Prop where
 pg:PySem.W.plainGet K C Str.empty=true
 hd:PySem.W.hasDictIn K C=true
 po:PySem.W.plainOver K C=true
 sa:PySem.W.findIn K (.ref C) "__setattr__" = some (some (.builtin "object.__setattr__"))
theorem Cls.get {K:PySem.W.Frag} {C:Addr} (c:Cls K C) (f:Str):PySem.W.plainGet K C f=true:=c.pg
noncomputable def ze2 (K:PySem.W.Frag) (C:Addr) (f:Str):Prop:=PySem.W.findIn K (.ref C) f=some none
theorem ze2.taker {K:PySem.W.Frag} {C:Addr} {f:Str} (n:ze2 K C f):PySem.W.takerIn K C f=some none:=by
 unfold PySem.W.takerIn
 rw[show PySem.W.findIn K (.ref C) f=some none from n]
 rfl
structure Meth (K:PySem.W.Frag) (C:Addr) (m:Str) (f:Addr):Prop where
 at_:PySem.W.findIn K (.ref C) m=some (some (.ref f))
 fn:PySem.W.isFn K (.ref f)=true
 kp:PySem.W.keepIn K (.ref f)=true
section
variable {X:Cx} {pins:List (Addr×Obj)} {σ:St} {H:Hp} {s:Shared} {a C dx:Addr} {fs:List (Str×V)} {f:Str} {v:V} {A:Around} {E:Value->Shared->Prop}
theorem getattr_ok {b:Bool} {Q:Value->Shared->Prop} (I:Inv X pins σ H s) (e:H a=some (.ins C dx fs)) (c:Cls X.K C) (n:ze2 X.K C f) (l:fs.lookup f=some v)
   (h:∀ u s',Inv X pins σ H s'->RelV v u->Q u s'):wpAny (model X.prog X.w) A (getAttr (.ref a) f b) Q E s:=by
 obtain ⟨mA,O,r,_,_,_⟩:=zs5 I.hok e
 obtain ⟨u,hu,ru⟩:=RelO.some_of (v:=v) (o:=mA f) (by rw[<-l];exact r f)
 exact get_map I.kIn O (c.get f) c.hd n hu (handed_of ru) (h u _ (I.tok _) ru)
theorem zt6 {m:Str} {g:Addr} {pl:Sem Bool} {Q:Value×List Value->Shared->Prop} (I:Inv X pins σ H s) (e:H a=some (.ins C dx fs)) (c:Cls X.K C) (k:Meth X.K C m g) (l:fs.lookup m=none)
   (h:Q (.ref g,[.ref a]) s):wpAny (model X.prog X.w) A (getMethod (.ref a) m pl) Q E s:=by
 obtain ⟨mA,O,r,_,_,_⟩:=zs5 I.hok e
 have hn:mA m=none:=RelO.none_of (by rw[<-l];exact r m)
 exact get_meth I.kIn O (c.get m) k.at_ k.fn hn h
theorem setattr_ok {y:V} {u:Value} {Q:Unit->Shared->Prop} (I:Inv X pins σ H s) (e:H a=some (.ins C dx fs)) (c:Cls X.K C) (n:ze2 X.K C f) (hl:fs.length<1000) (ry:RelV y u)
   (h:∀ s',Inv X pins σ (upd H a (.ins C dx (putF f y fs))) s'->Q () s'):wpAny (model X.prog X.w) A (setAttr (.ref a) f u) Q E s:=by
 obtain ⟨mA,O,r,wi,_,ho⟩:=zs5 I.hok e
 have hz:(fs.map (·.1)).length<=sizeLine:=by rw[List.length_map,sizeLine_eq];omega
 refine set_map I.kIn O c.sa c.po n.taker c.hd wi hz fun h' O' sb=>h _ ?_
 have hd:∃ o,h'.get? dx=some o:=let ⟨o,_,_,e',_⟩:=O'.ns;⟨o,e'⟩
 refine I.write (x:=a) (e:=dx) (by rw[e];exact True.intro) (.inr ho) (fun b q hb z=>(sb.2 b hb).trans z) hd ?_
 refine⟨by rw[za7 O.ne];exact ho,?_,O.ne,O'.obj,_,O'.ns,fun g=>?_,fun g hg=>?_⟩
 . have:=zh3 f y fs;omega
 . show RelO ((putF f y fs).lookup g) (if g=f then some u else mA g)
   rw[zb3]
   by_cases q:g=f
   . rw[if_pos q,if_pos q];exact ry
   . rw[if_neg q,if_neg q];exact r g
 . by_cases q:g=f
   . rw[q];exact (zk0 f y fs).1
   . refine (zk0 f y fs).2 g (wi g fun z=>hg ?_)
     show (if g=f then some u else mA g)=none
     rw[if_neg q];exact z
theorem Inv.made (I:Inv X pins σ H s):Inv X pins σ (upd (upd H s.heap.objs.size (.own (s.heap.objs.size+1))) (s.heap.objs.size+1) (.ins C s.heap.objs.size []))
   { s with heap:=(s.heap.push PySem.W.emptyDict).push (PySem.W.instObj C s.heap.objs.size) }:=by
 have e1:(s.heap.push PySem.W.emptyDict).get? s.heap.objs.size=some PySem.W.emptyDict:=Heap.get?_push_size s.heap rfl
 have e2:((s.heap.push PySem.W.emptyDict).push (PySem.W.instObj C s.heap.objs.size)).get? (s.heap.objs.size+1)=some (PySem.W.instObj C s.heap.objs.size):=by
   have:=Heap.get?_push_size (s.heap.push PySem.W.emptyDict) (o:=PySem.W.instObj C s.heap.objs.size) rfl
   rwa [Heap.size_push] at this
 have e3:(s.heap.push PySem.W.emptyDict).Ns s.heap.objs.size (fun _=>none):=⟨PySem.W.emptyDict,#[],_,e1,rfl,(fun e he=>absurd he (by simp)),fun _=>rfl⟩
 have I1:=I.laid (a:=s.heap.objs.size) (o:=.own (s.heap.objs.size+1)) (h':=s.heap.push PySem.W.emptyDict) (t':=s.toks) (fun b u q=>Heap.get?_push_of_some _ q) (Nat.le_refl _) ⟨_,e1⟩
 refine I1.laid (a:=s.heap.objs.size+1) (o:=.ins C s.heap.objs.size []) (t':=s.toks) (fun b u q=>Heap.get?_push_of_some _ q) (Nat.le_of_eq (Heap.size_push _ _)) ?_
 have ne:s.heap.objs.size≠s.heap.objs.size+1:=Nat.ne_of_lt (Nat.lt_succ_self _)
 refine⟨by rw[za7 ne,za3],Nat.zero_le _,ne,e2,fun _=>none,(Heap.Ns1.of_empty e3).at fun o q=>Heap.get?_push_of_some _ q,fun _=>True.intro,fun y hy=>absurd rfl hy⟩
theorem attr_of {prog:Program} {w:World} {env:Env} {e:Expr} {f:Str} {pos:Pos} {s:Shared} {Q:Value->Shared->Prop} (hb:attributeBase e f env (eval e env)=eval e env)
   (h:wpAny (model prog w) A (eval e env) (fun o s₁=>wpAny (model prog w) A (getAttr o f true) Q E s₁) E s):wpAny (model prog w) A (eval (.Attribute e f pos) env) Q E s :=
 Attribute_any_ h (by rw[arm_eval_Attribute,hb])
end
/-! ### readings and rules -/
noncomputable def tFld (K:PySem.W.Frag) (ta:TE) (f:Str):TE:=fun σ H Q=>ta σ H fun x H1=>∃ a C dx fs v,x = .ref a/\H1 a=some (.ins C dx fs)/\Cls K C/\ze2 K C f/\fs.lookup f=some v/\Q v H1
noncomputable def sFld (K:PySem.W.Frag) (ta tv:TE) (f:Str):TS:=fun D σ H=>tv σ H fun y H1=>ta σ H1 fun x H2=>∃ a C dx fs,x = .ref a/\H2 a=some (.ins C dx fs)/\Cls K C/\ze2 K C f/\fs.length<1000 ∧
 D.nx σ (upd H2 a (.ins C dx (putF f y fs)))
section
variable {X:Cx} {o e value:Expr} {f:Str} {pos pos' tpos:Pos} {ta tv:TE}
theorem zf6 (he:PE X e ta) (hb:attributeBase e f X.env (eval e X.env)=eval e X.env):PE X (.Attribute e f pos) (tFld X.K ta f):=by
 intro pins s σ H Q I h
 refine attr_of hb (thn (he pins s σ H _ I h) fun u s1 ⟨x,H1,I1,rx,a,C,dx,fs,v,ex,ea,c,n,l,q⟩=>?_)
 subst ex
 obtain rfl:u=Value.ref a:=rx
 exact getattr_ok I1 ea c n l fun u' s2 I2 ru=>⟨v,H1,I2,ru,q⟩
theorem zl5 (ha:PE X o ta) (hv:PE X value tv) (hs:swapsWith value (some (.Attribute o f pos')) pos.line X.env=pure false):PS X (.Assign [.Attribute o f pos'] value pos) (sFld X.K ta tv f):=by
 intro pins s σ H D I h
 refine plainObj_wpAny_Assign_Attribute (thn (hv pins s σ H _ I h) fun u s1 ⟨y,H1,I1,ry,q⟩=>thn (ha pins s1 σ H1 _ I1 q) fun ov s2 ⟨x,H2,I2,rx,a,C,dx,fs,ex,ea,c,n,l,q2⟩=>?_) hs
 subst ex
 obtain rfl:ov=Value.ref a:=rx
 exact setattr_ok I2 ea c n l ry fun s3 I3=>⟨σ,_,I3,q2⟩
end
/-! ### isinstance -/
section
variable {X:Cx} {pins:List (Addr×Obj)} {σ:St} {H:Hp} {s:Shared} {A:Around} {E:Value->Shared->Prop} {Q:Value->Shared->Prop} {c:Value} {b:Bool}
inductive TyOf (K:PySem.W.Frag) (H:Hp):V->Value->Prop where
 | non:TyOf K H .non (.type "NoneType")
 | bl (x:Bool):TyOf K H (.bl x) (.type "bool")
 | int (i:Int):TyOf K H (.int i) (.type "int")
 | str (x:Str):TyOf K H (.str x) (.type "str")
 | flt (x:UInt64):TyOf K H (.flt x) (.type "float")
 | lst {a:Addr} {xs:List V} (e:H a=some (.lst xs)):TyOf K H (.ref a) (.type "list")
 | frz {a:Addr} {o:Obj} {xs:List V} (e:H a=some (.frz o (.lst xs))):TyOf K H (.ref a) (.type "list")
 | tup {a:Addr} {xs:List V} (e:H a=some (.tup xs)):TyOf K H (.ref a) (.type "tuple")
 | dK {a:Addr} {kvs:List (Key×V)} (e:H a=some (.dK kvs)):TyOf K H (.ref a) (.type "dict")
 | dT {a:Addr} {kvs:List (List Key×V)} (e:H a=some (.dT kvs)):TyOf K H (.ref a) (.type "dict")
 | ins {a C dx:Addr} {fs:List (Str×V)} (e:H a=some (.ins C dx fs)) (cl:Cls K C) (ha:PySem.W.findIn K (.ref C) "__class__" = some (some (.builtin "object.__class__")))
     (hn:PySem.W.specialIn K (.builtin "object.__class__") "__get__" = some (some (.builtin "getset_descriptor.__get__"))) (htk:PySem.W.takesIn K (.builtin "object.__class__")=some true)
     (hm:PySem.W.mroIn K C (.type "object")=some true):TyOf K H (.ref a) (.ref C)
theorem isinst_ok {x:V} {u t:Value} (I:Inv X pins σ H s) (rx:RelV x u) (ty:TyOf X.K H x t) (e:PySem.W.kitOne X.K t c=some b) (h:∀ tk,Q (.bool b) { s with toks:=tk }) :
   wpAny (model X.prog X.w) A (call (.builtin "isinstance") [u,c]) Q E s:=by
 cases ty with
 | non=>cases (show u=Value.none from rx);exact PySem.W.kia_one PySem.W.kitx_none I.kIn True.intro e (fun z=>nomatch z) h
 | bl y=>cases (show u=Value.bool y from rx);exact PySem.W.kia_one PySem.W.kitx_bool I.kIn True.intro e (fun z=>nomatch z) h
 | int i=>obtain ⟨t,q⟩:=(show ∃ t,u=Value.int i t from rx);cases q;exact PySem.W.kia_one PySem.W.kitx_int I.kIn True.intro e (fun z=>nomatch z) h
 | str y=>obtain ⟨t,q⟩:=(show ∃ t,u=Value.str y t from rx);cases q;exact PySem.W.kia_one PySem.W.kitx_str I.kIn True.intro e (fun z=>nomatch z) h
 | flt y=>obtain ⟨t,q⟩:=(show ∃ t,u=Value.float y t from rx);cases q;exact PySem.W.kia_one PySem.W.kitx_float I.kIn True.intro e (fun z=>nomatch z) h
 | @lst a xs ea =>
   cases (show u=Value.ref a from rx)
   obtain ⟨_,_,n,_,h1⟩:=(show ze6 X.prog X.w H s.heap a (.lst xs) from I.hok a _ ea)
   exact PySem.W.kia_one PySem.W.kitx_list I.kIn ⟨_,h1,rfl⟩ e (fun z=>nomatch z) h
 | @frz a ob xs ea =>
   cases (show u=Value.ref a from rx)
   obtain ⟨_,_,_,n,_,h1⟩:=(show ze6 X.prog X.w H s.heap a (.frz ob (.lst xs)) from I.hok a _ ea)
   exact PySem.W.kia_one PySem.W.kitx_list I.kIn ⟨_,h1,rfl⟩ e (fun z=>nomatch z) h
 | @tup a xs ea =>
   cases (show u=Value.ref a from rx)
   obtain ⟨_,_,_,p⟩:=(show ze6 X.prog X.w H s.heap a (.tup xs) from I.hok a _ ea)
   obtain ⟨o,h1,h2,_⟩:=p
   exact PySem.W.kia_one PySem.W.kitx_tuple I.kIn ⟨o,h1,h2⟩ e (fun z=>nomatch z) h
 | @dK a kvs ea =>
   cases (show u=Value.ref a from rx)
   obtain ⟨_,_,vs,_,p⟩:=(show ze6 X.prog X.w H s.heap a (.dK kvs) from I.hok a _ ea)
   obtain ⟨o,es,ep,h1,h2,_⟩:=p
   exact PySem.W.kia_one PySem.W.kitx_dict I.kIn ⟨o,h1,h2.1⟩ e (fun z=>nomatch z) h
 | @dT a kvs ea =>
   cases (show u=Value.ref a from rx)
   obtain ⟨_,_,xs,_,o,es,ep,h1,h2,_⟩:=(show ze6 X.prog X.w H s.heap a (.dT kvs) from I.hok a _ ea)
   exact PySem.W.kia_one PySem.W.kitx_dict I.kIn ⟨o,h1,h2.1⟩ e (fun z=>nomatch z) h
 | @ins a C dx fs ea cl ha hn htk hm =>
   cases (show u=Value.ref a from rx)
   obtain ⟨mA,O,_⟩:=zs5 I.hok ea
   obtain ⟨od,J,_⟩:=O.look
   exact PySem.W.kia_one (PySem.W.kitx_own (cl.get _) cl.hd ha hn htk hm) I.kIn J e (fun z=>nomatch z) h
end
end L2
namespace L2
open PySem PySem.Spec PyProof.Rows
/-! ### room -/
structure Room (k:Nat) (A:Around):Prop where
 hd:A.handled=none
 dp:A.depth+3*k+5<recursionLimit
 un:A.units+16*k+200<cLine
theorem Room.mono {j k:Nat} {A:Around} (r:Room k A) (h:j<=k):Room j A:=⟨r.hd,by have:=r.dp;omega,by have:=r.un;omega⟩
theorem Room.deeper {k:Nat} {A:Around} (r:Room (k+1) A) (env:Env):Room k (A.deeper env) :=
 ⟨r.hd,by have:=r.dp;show A.depth+1+3*k+5<_;omega,by have:=r.un;show A.units+3+16*k+200<_;omega⟩
theorem make_depth {A:Around} {C:Addr} {us:List Value} {kw:List (Str×Value)}:(A.under (.builtin "type.__call__" ⟨.ref C::us,kw⟩)).depth=A.depth+1:=by
 first | rfl | simp[Around.under,Code.weight,Code.isCreation,Code.isGuard,Code.isCaller,Code.frames,Code.isFrame,guardIds]
theorem make_units {A:Around} {C:Addr} {us:List Value} {kw:List (Str×Value)}:(A.under (.builtin "type.__call__" ⟨.ref C::us,kw⟩)).units=A.units+1:=by
 first | rfl | simp[Around.under,Code.cUnits,Code.frames,Code.isFrame]
theorem Room.make {k:Nat} {A:Around} (r:Room (k+1) A) (C:Addr) (us:List Value) (kw:List (Str×Value)):Room k (A.under (.builtin "type.__call__" ⟨.ref C::us,kw⟩)) :=
 ⟨r.hd,by have:=r.dp;rw[make_depth];omega,by have:=r.un;rw[make_units];omega⟩
theorem Room.depth {k:Nat} {A:Around} (r:Room k A):A.depth<recursionLimit:=by have:=r.dp;omega
theorem Room.units {k:Nat} {A:Around} (r:Room k A):A.units+64<cLine:=by have:=r.un;omega
/-! ### argument lists and displays -/
noncomputable def tNil:TA:=fun _ H Q=>Q [] H
noncomputable def tCons (ta:TE) (tr:TA):TA:=fun σ H Q=>ta σ H fun x H1=>tr σ H1 fun xs H2=>Q (x::xs) H2
section
variable {X:Cx} {e:Expr} {es:List Expr} {te:TE} {t:TA} {pos:Pos}
theorem za4:PA X [] tNil:=fun _ _ _ _ H Q I h=>Calls.spliced_nil ⟨[],H,I,.nil,h⟩
theorem za0 (ha:PE X e te) (hr:PA X es t) (hs:starEach (e::es) X.env=(false,eval e X.env)::starEach es X.env:=by rfl):PA X (e::es) (tCons te t):=by
 intro pos pins s σ H Q I h
 rw[hs]
 show wpAny _ _ (spliced ((false,eval e X.env)::backTo pos (starEach es X.env))) _ _ s
 refine Calls.spliced_cons (thn (ha pins s σ H _ I h) fun u s1 ⟨x,H1,I1,r1,q1⟩=>?_)
 exact thn (hr pos pins s1 σ H1 _ I1 q1) fun us s2 ⟨xs,H2,I2,r2,q2⟩=>⟨x::xs,H2,I2,.cons r1 r2,q2⟩
noncomputable def tTup (t:TA):TE:=fun σ H Q=>t σ H fun xs H1=>xs.length<=sizeLine/\∀ p,H1 p=none->Q (.ref p) (upd H1 p (.tup xs))
noncomputable def tLst (t:TA):TE:=fun σ H Q=>t σ H fun xs H1=>xs.length<=sizeLine/\∀ p,H1 p=none->Q (.ref p) (upd H1 p (.lst xs))
theorem zG4 {x1} (h:PA X es t):PE X (.Tuple es x1 pos) (tTup t):=by
 intro pins s σ H Q I hq
 refine wpAny_Tuple_spliced (thn (h pos pins s σ H _ I hq) fun us s1 ⟨xs,H1,I1,r,z,q⟩=>⟨by rw[<-r.length];exact z,?_⟩)
 have hf:H1 s1.heap.objs.size=none:=I1.hok.fresh (Nat.le_refl _)
 refine⟨.ref s1.heap.objs.size,upd H1 s1.heap.objs.size (.tup xs),I1.laid (t':=s1.toks) (fun b u e=>Heap.get?_push_of_some _ e) (Nat.le_refl _) ?_,rfl,q _ hf⟩
 exact⟨z,us,r,⟨_,Heap.get?_push_size _ rfl,rfl,rfl,_,rfl⟩⟩
theorem zf7 (h:PA X es t):PE X (.List es pos) (tLst t):=by
 intro pins s σ H Q I hq
 refine wpAny_List_spliced (thn (h pos pins s σ H _ I hq) fun us s1 ⟨xs,H1,I1,r,z,q⟩=>⟨by rw[<-r.length];exact z,?_⟩)
 have hf:H1 s1.heap.objs.size=none:=I1.hok.fresh (Nat.le_refl _)
 refine⟨.ref s1.heap.objs.size,upd H1 s1.heap.objs.size (.lst xs),I1.laid (t':=s1.toks) (fun b u e=>Heap.get?_push_of_some _ e) (Nat.le_refl _) ?_,rfl,q _ hf⟩
 exact⟨z,us,0,r,Heap.get?_push_size _ rfl⟩
end
/-! ### what a def promises -/
noncomputable abbrev Sp:=List V->Hp->VK->XK->Prop
noncomputable abbrev CXT:=List Env->Hp->Shared->XK->Value->Shared->Prop
structure Env0 (P:Program) (w:World) (K:PySem.W.Frag) (mg:Str->Option Value) (base:Heap) (A:Around) (outer:List Env) (s:Shared) (H:Hp):Prop where
 frames:A.frames=some outer
 mod:Mod K mg base
 bs:∀ b o,base.get? b=some o->s.heap.get? b=some o/\H b=none
 bsz:base.objs.size<=s.heap.objs.size
 funs:s.heap.FunFrames base outer
 frf:∀ b∈frs outer,H b=none
 hok:HOk P w H s.heap
 bare:AllBare s.gens
noncomputable def CE (outer:List Env) (P:Program) (w:World) (H:Hp) (s:Shared) (Q:VK) (u:Value) (s':Shared):Prop :=
 ∃ v H',s'.os=s.os/\AllBare s'.gens/\Un (frs outer) [] H H' s.heap s'.heap/\HOk P w H' s'.heap/\RelV v u/\Q v H'
noncomputable def CR (CX:CXT) (outer:List Env) (P:Program) (w:World) (H:Hp) (s:Shared) (Q:VK) (E:XK) (r:Result) (s':Shared):Prop :=
 match r with
 | .ok (.ret u)=>CE outer P w H s Q u s'
 | .ok _=>False
 | .error e=>CX outer H s E e s'
structure FnOk (P:Program) (w:World) (K:PySem.W.Frag) (mg:Str->Option Value) (base:Heap) (CX:CXT) (k:Nat) (f:Addr) (fd:FuncData) (ps:List Str) (sp:Sp):Prop where
 len:∀ vs H Q E,sp vs H Q E->vs.length=ps.length
 run:∀ (A:Around) (outer:List Env) (s:Shared) (H:Hp) (args:Args) (us:List Value) (vs:List V) (Q:VK) (E:XK),Room k A->Env0 P w K mg base A outer s H->BindsTo s fd args (ps.zip us)->Vals vs us->sp vs H Q E →
   codeAny (model P w) A (.call (.ref f) args) (CR CX outer P w H s Q E) s
theorem Env0.make {P:Program} {w:World} {K:PySem.W.Frag} {mg:Str->Option Value} {base:Heap} {A:Around} {outer:List Env} {s:Shared} {H:Hp} (e:Env0 P w K mg base A outer s H) (C:Addr) (us:List Value) (kw:List (Str×Value)) :
 Env0 P w K mg base (A.under (.builtin "type.__call__" ⟨.ref C::us,kw⟩)) outer s H:=⟨by first | exact e.frames | (simpa [Around.under,Code.envs,Code.isFrame,pushEnvs] using e.frames),e.mod,e.bs,e.bsz,e.funs,e.frf,e.hok,e.bare⟩
section
variable {X:Cx} {pins:List (Addr×Obj)} {σ:St} {H:Hp} {s s':Shared}
theorem Inv.env0 (I:Inv X pins σ H s):Env0 X.prog X.w X.K X.mg X.base X.A X.stack s H :=
 ⟨I.ok.frames,I.ok.mod,I.bs,Nat.le_trans I.ok.bsz I.sz,I.stack,I.stkFree,I.hok,I.bare⟩
theorem Inv.after {Q:VK} {u:Value} (I:Inv X pins σ H s) (h:CE X.stack X.prog X.w H s Q u s'):EP X pins σ Q u s':=by
 obtain ⟨v,H',os,bare,un,hok,r,q⟩:=h
 obtain ⟨hh,g,d,t,os'⟩:=s'
 obtain rfl:os'=s.os:=os
 exact⟨v,H',I.call (h':=hh) (g':=g) (d':=d) (t':=t) (ch:=[]) un hok bare (fun b z=>absurd z (by simp)),r,q⟩
end
/-! ### calls -/
noncomputable def zI1 (sp:Sp) (dvs:List V) (E:XK) (t:TA):TE:=fun σ H Q=>t σ H fun vs H1=>sp (vs++dvs) H1 Q E
noncomputable def zI2 (C:Addr) (m:Str) (sp:Sp) (dvs:List V) (E:XK) (ta:TE) (t:TA):TE:=fun σ H Q=>ta σ H fun x H1=>∃ a dx fs,x = .ref a/\H1 a=some (.ins C dx fs)/\fs.lookup m=none ∧
 t σ H1 fun vs H2=>sp (x::(vs++dvs)) H2 Q E
noncomputable def tMake (C:Addr) (sp:Sp) (dvs:List V) (E:XK) (t:TA):TE:=fun σ H Q=>t σ H fun vs H1=>∀ x dx,H1 x=none->H1 dx=none->dx≠x →
 sp (.ref x::(vs++dvs)) (upd (upd H1 dx (.own x)) x (.ins C dx [])) (fun v H2=>v = .non/\Q (.ref x) H2) E
noncomputable def zc3 (K:PySem.W.Frag) (fd:FuncData) (ps:List Str) (ds:List Value):Prop :=
 ∀ (s:Shared) (us:List Value),K.In s.heap->(us++ds).length=ps.length->BindsTo s fd ⟨us,[]⟩ (ps.zip (us++ds))
theorem zc3.all {K:PySem.W.Frag} {fd:FuncData} {ps:List Str} (h:∀ us:List Value,us.length=ps.length->bindArgs fd ⟨us,[]⟩=pure (ps.zip us)):zc3 K fd ps []:=fun s us _ hl=>by
 rw[List.append_nil] at hl ⊢
 exact .of_eq (h us hl)
noncomputable def zh5 (CX:CXT) (X:Cx) (E:XK):Prop:=∀ (pins:List (Addr×Obj)) (σ:St) (H:Hp) (s:Shared) (e:Value) (s':Shared),Inv X pins σ H s->CX X.stack H s E e s'->X.xe e s'
section
variable {X:Cx} {CX:CXT} {k:Nat} {f C:Addr} {fd:FuncData} {ps:List Str} {sp:Sp} {dvs:List V} {ds:List Value} {E:XK} {x m:Str} {p pos apos:Pos} {e o:Expr} {es:List Expr} {ta:TE} {t:TA}
theorem zy2 {pins:List (Addr×Obj)} {σ:St} {H:Hp} {s:Shared} {Q:VK} {us:List Value} {vs:List V} (F:FnOk X.prog X.w X.K X.mg X.base CX k f fd ps sp) (hr:Room k X.A) (hb:zc3 X.K fd ps ds) (hd:Vals dvs ds) (hx:zh5 CX X E)
   (I:Inv X pins σ H s) (r:Vals vs us) (h:sp (vs++dvs) H Q E):wpAny (model X.prog X.w) X.A (call (.ref f) us) (EP X pins σ Q) X.xe s:=by
 have r2:Vals (vs++dvs) (us++ds):=r.append hd
 have hl:(us++ds).length=ps.length:=by rw[<-r2.length];exact F.len _ _ _ _ h
 refine wpAny_call (codeAny_mono (F.run X.A X.stack s H ⟨us,[]⟩ (us++ds) (vs++dvs) Q E hr I.env0 (hb s us I.kIn hl) r2 h) fun r s' hq=>?_)
 cases r with
 | error e=>exact hx pins σ H s e s' I hq
 | ok fl =>
   cases fl with
   | ret u=>exact I.after hq
   | next=>exact False.elim hq
   | brk=>exact False.elim hq
   | cont=>exact False.elim hq
theorem za9 (F:FnOk X.prog X.w X.K X.mg X.base CX k f fd ps sp) (hr:Room k X.A) (hg:Gl X x) (hm:X.mg x=some (.ref f)) (hk:PySem.W.keepIn X.K (.ref f)=true) (hb:zc3 X.K fd ps ds) (hd:Vals dvs ds) (hx:zh5 CX X E)
   (ha:PA X (e::es) t) (hdb:(x == ("__debug__" : Str))=false:=by decide) (he:starEach (e::es) X.env=(false,eval e X.env)::starEach es X.env:=by rfl) (hpl:(backTo pos (starEach es X.env)).any (·.1)=false:=by rfl) :
   PE X (.Call (.Name x p) (e::es) [] pos) (zI1 sp dvs E t):=by
 intro pins s σ H Q I h
 refine wpAny_Call_Name_kw (zk5 I hg hm ?_ hdb)
 refine PySem.W.callWith_K (h₀:=X.base) I.ok.mod.kin hk (thn (ha pos pins s σ H _ I h) fun us s1 ⟨vs,H1,I1,r,q⟩=>⟨I1.kIn,?_⟩) he hpl
 exact zy2 F hr hb hd hx I1 r q
theorem zy3 {pl:Sem Bool} (he:PE X o ta) (c:Cls X.K C) (hm:Meth X.K C m f) (F:FnOk X.prog X.w X.K X.mg X.base CX k f fd ps sp) (hr:Room k X.A) (hb:zc3 X.K fd ps ds) (hd:Vals dvs ds) (hx:zh5 CX X E) (ha:PA X (e::es) t)
   (hst:starEach (e::es) X.env=(false,eval e X.env)::starEach es X.env:=by rfl) (hpl:(backTo pos (starEach es X.env)).any (·.1)=false:=by rfl)
   (ht:eval (.Call (.Attribute o m apos) (e::es) [] pos) X.env=(do
     let ov <-eval o X.env
     standAt apos.atName
     let (f,first) <-holding [ov] (getMethod ov m pl)
     callWith pos f first (backTo pos (starEach (e::es) X.env)) (backToKw pos (keywordEach [] X.env))):=by rfl) :
   PE X (.Call (.Attribute o m apos) (e::es) [] pos) (zI2 C m sp dvs E ta t):=by
 intro pins s σ H Q I h
 refine PySem.W.methodCall_KW (pl:=pl) (thn (he pins s σ H _ I h) fun u s1 ⟨x,H1,I1,rx,a,dx,fs,ex,ea,l,q⟩=>?_) ht
 subst ex
 obtain rfl:u=Value.ref a:=rx
 refine zt6 I1 ea c hm l ?_
 refine PySem.W.callWith_K (first:=[.ref a]) (h₀:=X.base) I.ok.mod.kin hm.kp (thn (ha pos pins s1 σ H1 _ I1 q) fun us s2 ⟨vs,H2,I2,r,q2⟩=>⟨I2.kIn,?_⟩) hst hpl
 exact zy2 (us:=.ref a::us) (vs:=.ref a::vs) F hr hb hd hx I2 (.cons rfl r) q2
theorem pe_meth0 {pl:Sem Bool} (he:PE X o ta) (c:Cls X.K C) (hm:Meth X.K C m f) (F:FnOk X.prog X.w X.K X.mg X.base CX k f fd ps sp) (hr:Room k X.A) (hb:zc3 X.K fd ps ds) (hd:Vals dvs ds) (hx:zh5 CX X E)
   (ht:eval (.Call (.Attribute o m apos) [] [] pos) X.env=(do
     let ov <-eval o X.env
     standAt apos.atName
     let (f,first) <-holding [ov] (getMethod ov m pl)
     callWith pos f first (backTo pos (starEach [] X.env)) (backToKw pos (keywordEach [] X.env))):=by rfl) :
   PE X (.Call (.Attribute o m apos) [] [] pos) (zI2 C m sp dvs E ta tNil):=by
 intro pins s σ H Q I h
 refine PySem.W.methodCall_KW (pl:=pl) (thn (he pins s σ H _ I h) fun u s1 ⟨x,H1,I1,rx,a,dx,fs,ex,ea,l,q⟩=>?_) ht
 subst ex
 obtain rfl:u=Value.ref a:=rx
 refine zt6 I1 ea c hm l ?_
 exact PySem.W.callWith_K0 (first:=[.ref a]) I1.kIn hm.kp (zy2 (us:=[.ref a]) (vs:=[.ref a]) F hr hb hd hx I1 (.cons rfl .nil) q)
structure Mk (K:PySem.W.Frag) (C f:Addr):Prop where
 makes:PySem.W.makesIn K C=true
 init:PySem.W.findIn K (.ref C) "__init__" = some (some (.ref f))
 fn:PySem.W.isFn K (.ref f)=true
 kp:PySem.W.keepIn K (.ref C)=true
theorem run_make {pins:List (Addr×Obj)} {σ:St} {H:Hp} {s:Shared} {Q:VK} {us:List Value} {vs:List V} (M:Mk X.K C f) (F:FnOk X.prog X.w X.K X.mg X.base CX k f fd ps sp) (hr:Room (k+1) X.A) (hb:zc3 X.K fd ps ds) (hd:Vals dvs ds)
   (hx:zh5 CX X E) (I:Inv X pins σ H s) (r:Vals vs us)
   (h:∀ x dx,H x=none->H dx=none->dx≠x->sp (.ref x::(vs++dvs)) (upd (upd H dx (.own x)) x (.ins C dx [])) (fun v H2=>v = .non/\Q (.ref x) H2) E) :
   wpAny (model X.prog X.w) X.A (call (.ref C) us) (EP X pins σ Q) X.xe s:=by
 have hq:=h (s.heap.objs.size+1) s.heap.objs.size (I.hok.fresh (Nat.le_succ _)) (I.hok.fresh (Nat.le_refl _)) (Nat.ne_of_lt (Nat.lt_succ_self _))
 have I2:=Inv.made (C:=C) I
 have r2:Vals (V.ref (s.heap.objs.size+1)::(vs++dvs)) (Value.ref (s.heap.objs.size+1)::(us++ds)):=.cons rfl (r.append hd)
 have hl:(Value.ref (s.heap.objs.size+1)::us++ds).length=ps.length:=by
   have e:=r2.length
   rw[F.len _ _ _ _ hq] at e
   exact e.symm
 refine wpAny_call (make_map (f:=f) I.kIn M.makes M.init (beq_iff_eq.mp M.fn) (codeAny_mono (F.run _ X.stack _ _ ⟨Value.ref (s.heap.objs.size+1)::us,[]⟩ (Value.ref (s.heap.objs.size+1)::(us++ds)) _ _ E (hr.make C us [])
   (I2.env0.make C us []) (hb _ (Value.ref (s.heap.objs.size+1)::us) I2.kIn hl) r2 hq) fun r s' hq'=>?_))
 cases r with
 | error e=>exact hx pins σ _ _ e s' I2 hq'
 | ok fl =>
   cases fl with
   | ret u =>
     obtain ⟨v,H',I3,rv,ev,q3⟩:=I2.after hq'
     subst ev
     exact⟨rv,⟨V.ref (s.heap.objs.size+1),H',I3,rfl,q3⟩⟩
   | next=>exact False.elim hq'
   | brk=>exact False.elim hq'
   | cont=>exact False.elim hq'
theorem zy4 (M:Mk X.K C f) (F:FnOk X.prog X.w X.K X.mg X.base CX k f fd ps sp) (hr:Room (k+1) X.A) (hg:Gl X x) (hm:X.mg x=some (.ref C)) (hb:zc3 X.K fd ps ds) (hd:Vals dvs ds) (hx:zh5 CX X E)
   (ha:PA X (e::es) t) (hdb:(x == ("__debug__" : Str))=false:=by decide) (he:starEach (e::es) X.env=(false,eval e X.env)::starEach es X.env:=by rfl) (hpl:(backTo pos (starEach es X.env)).any (·.1)=false:=by rfl) :
   PE X (.Call (.Name x p) (e::es) [] pos) (tMake C sp dvs E t):=by
 intro pins s σ H Q I h
 refine wpAny_Call_Name_kw (zk5 I hg hm ?_ hdb)
 refine PySem.W.callWith_K (h₀:=X.base) I.ok.mod.kin M.kp (thn (ha pos pins s σ H _ I h) fun us s1 ⟨vs,H1,I1,r,q⟩=>⟨I1.kIn,?_⟩) he hpl
 exact run_make M F hr hb hd hx I1 r q
end
/-! ### keywords -/
section
variable {X:Cx} {CX:CXT} {k:Nat} {f C:Addr} {fd:FuncData} {ps ks:List Str} {sp:Sp} {E:XK} {x m:Str} {p pos apos kpos:Pos} {e o:Expr} {es:List Expr} {kws:List Keyword} {te ta:TE} {t tk:TA} {nm:Option Str}
variable {g:List Value->List Value->List Value} {gV:List V->List V->List V}
end
/-! ### a def's body keeps its promise -/
structure zb5 (N P:List Str) (sc:Scope):Prop where
 kind:sc.kind = .function
 co:sc.isCoroutine=false
 gen:sc.isGenerator=false
 nd:N.Nodup
 pre:N.take P.length=P
 par:∀ x∈P,sc.names.lookup x=some .local\/sc.names.lookup x=some .cell
 nofree:∀ y∈sc.names,y.2≠.free
theorem zw2 {kindOf:Str->Option NameKind} {x:Str}:∀ {binds:List (Str×Value)} {m:Str->Option Value},(∀ v,(x,v)∉binds)->bindL kindOf binds m x=m x
 | [],_,_=>rfl
 | (n,v)::r,m,h=>by
   unfold bindL
   rw[zw2 fun w hw=>h w (List.mem_cons_of_mem _ hw)]
   split
   . have:x≠n:=by rintro rfl;exact h v List.mem_cons_self
     simp[this]
   . rfl
theorem zw3 {kindOf:Str->Option NameKind} {x:Str}:∀ {binds:List (Str×Value)} {m:Str->Option Value},(∀ v,(x,v)∉binds)->bindC kindOf binds m x=m x
 | [],_,_=>rfl
 | (n,v)::r,m,h=>by
   unfold bindC
   rw[zw3 fun w hw=>h w (List.mem_cons_of_mem _ hw)]
   split
   . rfl
   . have:x≠n:=by rintro rfl;exact h v List.mem_cons_self
     simp[this]
theorem zw4 {kindOf:Str->Option NameKind} {x:Str} {v:Value}:∀ {P:List Str} {vs:List Value} {i:Nat} {m:Str->Option Value},P.Nodup->P[i]?=some x->vs[i]?=some v->kindOf x=some .local →
   bindL kindOf (P.zip vs) m x=some v
 | [],_,_,_,_,h,_,_=>by simp at h
 | _::_,[],_,_,_,_,h,_=>by simp at h
 | p::P,w::vs,0,m,nd,h1,h2,hk=>by
   simp at h1 h2;subst h1;subst h2
   show bindL kindOf ((p,w)::P.zip vs) m p=_
   unfold bindL
   rw[zw2 fun v hv=>(List.nodup_cons.mp nd).1 (List.of_mem_zip hv).1,if_pos hk]
   simp
 | p::P,w::vs,i+1,m,nd,h1,h2,hk=>by
   show bindL kindOf ((p,w)::P.zip vs) m x=_
   unfold bindL
   exact zw4 (i:=i) (List.nodup_cons.mp nd).2 (by simpa using h1) (by simpa using h2) hk
theorem zw5 {kindOf:Str->Option NameKind} {x:Str} {v:Value}:∀ {P:List Str} {vs:List Value} {i:Nat} {m:Str->Option Value},P.Nodup->P[i]?=some x->vs[i]?=some v->kindOf x≠some .local →
   bindC kindOf (P.zip vs) m x=some v
 | [],_,_,_,_,h,_,_=>by simp at h
 | _::_,[],_,_,_,_,h,_=>by simp at h
 | p::P,w::vs,0,m,nd,h1,h2,hk=>by
   simp at h1 h2;subst h1;subst h2
   show bindC kindOf ((p,w)::P.zip vs) m p=_
   unfold bindC
   rw[zw3 fun v hv=>(List.nodup_cons.mp nd).1 (List.of_mem_zip hv).1,if_neg hk]
   simp
 | p::P,w::vs,i+1,m,nd,h1,h2,hk=>by
   show bindC kindOf ((p,w)::P.zip vs) m x=_
   unfold bindC
   exact zw5 (i:=i) (List.nodup_cons.mp nd).2 (by simpa using h1) (by simpa using h2) hk
noncomputable def zn3 (N:List Str) (vs:List V):St:=vs.map some++List.replicate (N.length-vs.length) none
noncomputable def cxOf (CX:CXT) (P:Program) (w:World) (K:PySem.W.Frag) (mg:Str->Option Value) (base:Heap) (N:List Str) (qual:Str) (scope:Scope) (f:Addr) (cd:Value) (A:Around) (outer:List Env) (s:Shared) (H:Hp) (E:XK):Cx where
 prog:=P
 w:=w
 K:=K
 mg:=mg
 base:=base
 A:=A.deeper (envOfC qual scope s.heap.objs.size f cd)
 N:=N
 s₀:=s
 H₀:=H
 env:=envOfC qual scope s.heap.objs.size f cd
 outer:=outer
 stack:=envOfC qual scope s.heap.objs.size f cd::outer
 ex:=[]
 calm:=true
 fn:=fun _=>true
 pn:=[]
 xe:=fun e s'=>wpAny (model P w) (A.deeper (envOfC qual scope s.heap.objs.size f cd)) (leaving (envOfC qual scope s.heap.objs.size f cd) e) (fun _ s''=>CX outer H s E e s'') (fun e' s''=>CX outer H s E e' s'') s'
theorem zA2 {sc:Scope} {n:Nat} {x:Str} (h:sc.names.lookup x=some .cell):∃ c,(cellsFrom n sc.names []).lookup x=some c:=by
 have q:=PySem.W.cellsFrom_some sc.names n [] (.inl h)
 exact Option.isSome_iff_exists.mp q
theorem inv_start {CX:CXT} {P:Program} {w:World} {K:PySem.W.Frag} {mg:Str->Option Value} {base:Heap} {N ps:List Str} {qual:Str} {scope:Scope} {f:Addr} {cd:Value} {A:Around} {outer:List Env} {s s1:Shared} {H:Hp} {E:XK} {us:List Value} {vs:List V}
   (S:zb5 N ps scope) (hd:A.handled=none) (e0:Env0 P w K mg base A outer s H) (hl:vs.length=ps.length) (r:Vals vs us)
   (x:InCallC s s.heap.objs.size (bindL (envOfC qual scope s.heap.objs.size f cd).kindOf (ps.zip us) fun _=>none) (cellsFrom (s.heap.objs.size+1) scope.names []) (bindC (envOfC qual scope s.heap.objs.size f cd).kindOf (ps.zip us) fun _=>none) s1) :
   Inv (cxOf CX P w K mg base N qual scope f cd A outer s H E) [] (zn3 N vs) H s1:=by
 have hpl:ps.length<=N.length:=by have:=congrArg List.length S.pre;rw[List.length_take] at this;omega
 obtain ⟨h1,tk,rfl,hk⟩:=x.done
 have noA:∀ b:Addr,b∉(cxOf CX P w K mg base N qual scope f cd A outer s H E).ex:=fun b z=>absurd (show b∈([]:List Addr) from z) (by simp)
 refine⟨⟨e0.mod,S.kind,rfl,rfl,Nat.le_refl _,fun y z c h1 h2=>?_,fun y hy=>?_,fun y c _ h=>?_,fun _=>hd,Around.frames_deeper e0.frames,.inr ⟨rfl,rfl⟩,fun b z=>absurd z (noA b),e0.bs,e0.bsz,fun b _ _=>noA b,fun b z=>absurd z (noA b),e0.funs,e0.frf⟩,
   rfl,e0.bare,Un.kept hk,⟨_,x.toInCall.ns,fun i y v h1 h2 h3=>?_⟩,fun y c h=>⟨_,x.cell y c h⟩,e0.hok.fresh (Nat.le_refl _),fun y c h=>?_,fun p hp=>absurd (show p∈([]:List (Addr×Obj)) from hp) (by simp),e0.hok.kept hk,?_⟩
 . exact name_of_addr x.apart (PySem.mem_of_lookup h1) (PySem.mem_of_lookup h2)
 . have hy:scope.names.lookup y=some .cell\/scope.names.lookup y=some .free:=hy
   rcases hy with hy | hy
   . exact zA2 hy
   . exact absurd rfl (S.nofree _ (PySem.mem_of_lookup hy))
 . exact Nat.le_of_lt (x.above y c (PySem.mem_of_lookup h))
 . have hi:i<vs.length:=by
     unfold zn3 at h2
     by_cases hi:i<vs.length
     . exact hi
     . rw[List.getElem?_append_right (by simpa using hi)] at h2
       rw[List.getElem?_replicate] at h2
       split at h2<;>cases h2
   have ha:vs[i]?=some v:=by
     unfold zn3 at h2
     rw[List.getElem?_append_left (by simpa using hi),List.getElem?_map] at h2
     cases e:vs[i]? with
     | none=>rw[e] at h2;cases h2
     | some a=>rw[e] at h2;cases h2;rfl
   obtain ⟨u,hu,rv⟩:=r.get ha
   have hp:ps[i]?=some y:=by
     rw[<-S.pre,List.getElem?_take_of_lt (by omega)];exact h1
   have ndP:ps.Nodup:=by rw[<-S.pre];exact S.nd.sublist (List.take_sublist _ _)
   refine⟨u,rv,?_⟩
   rcases S.par y (List.mem_of_getElem? hp) with k | k
   . exact .inl ⟨k,zw4 ndP hp hu k⟩
   . obtain ⟨c,e⟩:=zA2 (n:=s.heap.objs.size+1) k
     refine .inr ⟨.inl k,c,e,?_⟩
     have q:=x.cell y c e
     rw[zw5 ndP hp hu (by show scope.names.lookup y≠_;rw[k];decide)] at q
     exact q
 . exact e0.hok.fresh (Nat.le_of_lt (x.above y c (PySem.mem_of_lookup h)))
 . unfold zn3
   show _=N.length
   rw[List.length_append,List.length_map,List.length_replicate]
   omega
theorem zG5 {CX:CXT} {P:Program} {w:World} {K:PySem.W.Frag} {mg:Str->Option Value} {base:Heap} {k:Nat} {f:Addr} {name qual:Str} {params:Arguments} {body:List Stmt} {scope:Scope} {dV kV doc pm cdv ct oc:Value} {an od:Option Addr}
   {osl:Array (Option Value)} {N ps:List Str} {sp:Sp} (lk:K.lookup f=some ⟨oc,od,.func (PySem.W.fnOf name qual params body scope dV kV doc pm an cdv ct),osl⟩) (hcd:PySem.W.codeIn K cdv qual=true) (S:zb5 N ps scope)
   (len:∀ vs H Q E,sp vs H Q E->vs.length=ps.length)
   (hbody:∀ (A:Around) (outer:List Env) (s:Shared) (H:Hp) (vs:List V) (Q:VK) (E:XK),Room k (A.deeper (envOfC qual scope s.heap.objs.size f cdv))->sp vs H Q E →
     ∃ t,PSs (cxOf CX P w K mg base N qual scope f cdv A outer s H E) body t/\t { nx:=fun _ H'=>Q .non H',rt:=Q } (zn3 N vs) H) :
   FnOk P w K mg base CX (k+1) f (PySem.W.fnOf name qual params body scope dV kV doc pm an cdv ct) ps sp:=by
 refine⟨len,fun A outer s H args us vs Q E hr e0 hb r hsp=>?_⟩
 have hl:=len _ _ _ _ hsp
 have KX:K.In s.heap:=e0.mod.kin.keeps fun b o e=>(e0.bs b o e).1
 have lim:s.heap.NoLimit:=e0.mod.nolimit.keeps fun b o e=>(e0.bs b o e).1
 have hkind:∀ y∈ps.zip us,scope.names.lookup y.1=some .local\/(scope.names.lookup y.1=some .cell/\((cellsFrom (s.heap.objs.size+1) scope.names []).lookup y.1).isSome=true):=fun ⟨n,v⟩ hy=>by
   rcases S.par n (List.of_mem_zip hy).1 with q | q
   . exact .inl q
   . exact .inr ⟨q,PySem.W.cellsFrom_some _ _ _ (.inl q)⟩
 refine codeAny_call_function hr.depth (KX _ _ lk) rfl S.co S.gen rfl (PySem.W.codeRec_of KX hcd) (hb _ _ _ _ ?_)
 refine wpAny_newFunctionEnv_cells S.kind hkind fun env he s1 x=>?_
 subst he
 refine⟨lim.keeps x.toInCall.keep,codeAny_func ?_⟩
 obtain ⟨t,ht,hq⟩:=hbody A outer s H vs Q E (hr.deeper _) hsp
 have I:Inv (cxOf CX P w K mg base N qual scope f cdv A outer s H E) [] (zn3 N vs) H s1:=inv_start S hr.hd e0 hl r x
 refine wpAny_mono (ht [] s1 (zn3 N vs) H _ I hq) (fun fl s' hs=>?_) fun e s' hs=>hs
 have fin:∀ {σ':St} {H':Hp} {v:V} {u:Value},Inv (cxOf CX P w K mg base N qual scope f cdv A outer s H E) [] σ' H' s'->RelV v u->Q v H'->CE outer P w H s Q u s' :=
   fun {σ' H' v u} J rv q=>⟨v,H',J.os,J.bare,J.base,J.hok,rv,q⟩
 cases fl with
 | ret u =>
   obtain ⟨v,σ',H',J,rv,q⟩:=hs
   exact fin J rv q
 | next =>
   obtain ⟨σ',H',J,q⟩:=hs
   exact fin (v:=V.non) (u:=Value.none) J rfl q
 | brk =>
   obtain ⟨_,_,_,q⟩:=hs
   exact False.elim q
 | cont =>
   obtain ⟨_,_,_,q⟩:=hs
   exact False.elim q
end L2
namespace L2
open PySem PySem.Spec PyProof.Rows
section
variable {X:Cx} {x:Str} {p pos:Pos} {e:Expr} {es:List Expr} {t:TA} {id T:String} {r:List V->Hp->VK->Prop}
noncomputable def tCB (r:List V->Hp->VK->Prop) (t:TA):TE:=fun σ H Q=>t σ H fun vs H1=>r vs H1 Q
theorem zd0 (hc:zl2 X (.builtin id) r) (hg:Gl X x) (hm:X.mg x=none) (hv:bootBuiltins x=some (.builtin id)) (ha:PA X (e::es) t) (hn:x≠"__name__":=by decide) (hdb:(x == ("__debug__" : Str))=false:=by decide)
   (he:starEach (e::es) X.env=(false,eval e X.env)::starEach es X.env:=by rfl) (hpl:(backTo pos (starEach es X.env)).any (·.1)=false:=by rfl):PE X (.Call (.Name x p) (e::es) [] pos) (tCB r t):=by
 intro pins s σ H Q I h
 refine wpAny_Call_Name_kw (zt3 I hg hm hv ?_ hn hdb)
 exact PyProof.Rows.callWith_builtin1 (thn (ha pos pins s σ H _ I h) fun us s1 ⟨vs,H1,I1,r1,q1⟩=>hc pins s1 σ H1 vs us Q I1 r1 q1) he hpl
theorem zf9 (hc:zl2 X (.type T) r) (hg:Gl X x) (hm:X.mg x=none) (hv:bootBuiltins x=some (.type T)) (ha:PA X (e::es) t) (hn:x≠"__name__":=by decide) (hdb:(x == ("__debug__" : Str))=false:=by decide)
   (he:starEach (e::es) X.env=(false,eval e X.env)::starEach es X.env:=by rfl) (hpl:(backTo pos (starEach es X.env)).any (·.1)=false:=by rfl):PE X (.Call (.Name x p) (e::es) [] pos) (tCB r t):=by
 intro pins s σ H Q I h
 refine wpAny_Call_Name_kw (zt3 I hg hm hv ?_ hn hdb)
 exact PyProof.Rows.callWith_type1 (thn (ha pos pins s σ H _ I h) fun us s1 ⟨vs,H1,I1,r1,q1⟩=>hc pins s1 σ H1 vs us Q I1 r1 q1) he hpl
end
end L2
namespace HT
open PySem PyProof.Rows
section
open PySem.SeqAt
open PySem.AutoSeq1 (wpAny_loadPart')
open PySem.MeetsSeq PySem.MeetsSeq2 PySem.MeetsSeq3
end
section
variable {prog:Program} {w:World} {A:Around} {E:Value->Shared->Prop} {s:Shared}
/-! ### t[a:b],not the whole -/
noncomputable def sIx (n d:Nat):Option Int->Nat
 | none=>d
 | some v=>if v<0 then (v+(n:Int)).toNat else min v.toNat n
theorem sIx_none (n d:Nat):sIx n d none=d:=rfl
theorem sIx_nat (n d k:Nat):sIx n d (some (k:Int))=min k n:=by
 show (if (k:Int)<0 then ((k:Int)+(n:Int)).toNat else min (k:Int).toNat n)=min k n
 rw[if_neg (by omega),Int.toNat_natCast]
end
end HT
namespace L2
open PySem PySem.Spec PyProof.Rows
/-! ### the parts of a slice -/
noncomputable abbrev TO:=St->Hp->(Option Int->Hp->Prop)->Prop
noncomputable def PO (X:Cx) (e:Option Expr) (t:TO):Prop :=
 ∀ (pins:List (Addr×Obj)) (s:Shared) (σ:St) (H:Hp) (Q:Option Int->Hp->Prop),Inv X pins σ H s->t σ H Q →
   wpAny (model X.prog X.w) X.A (evalPart e X.env) (fun u s'=>∃ o H',Inv X pins σ H' s'/\IsPart u o/\Q o H') X.xe s
noncomputable def tNoPart:TO:=fun _ H Q=>Q none H
noncomputable def tPart (t:TE):TO:=fun σ H Q=>t σ H fun x H1=>∃ i,x = .int i/\Q (some i) H1
theorem zo1 {ns:List Int}:∀ {us:List Value},Vals (ns.map V.int) us->IntsAre us ns:=by
 induction ns with
 | nil=>intro us r;rw[List.map_nil] at r;cases r;exact .nil
 | cons n ns ih =>
   intro us r
   rw[List.map_cons] at r
   cases r with
   | cons r1 r2 =>
     obtain ⟨t,e⟩:=r1
     subst e
     exact .cons n t (ih r2)
section
variable {X:Cx} {e:Expr} {te:TE} {lo hi:Option Expr} {tl th:TO} {pos p2:Pos}
theorem zy5:PO X none tNoPart:=by
 intro pins s σ H Q I h
 rw[evalPart_none]
 exact wpAny_pure ⟨none,H,I,.none,h⟩
theorem zy6 (h:PE X e te):PO X (some e) (tPart te):=by
 intro pins s σ H Q I hw
 rw[evalPart_some]
 refine thn (h pins s σ H _ I hw) fun u s1 ⟨x,H1,I1,r1,q1⟩=>?_
 obtain ⟨i,rfl,q⟩:=q1
 obtain ⟨t,rfl⟩:=r1
 exact⟨some i,H1,I1,.int i t,q⟩
noncomputable def SlR (X:Cx) (r:V->Option Int->Option Int->Hp->VK->Prop):Prop :=
 ∀ (pins:List (Addr×Obj)) (s:Shared) (σ:St) (H:Hp) (x:V) (v vl vu:Value) (lo hi:Option Int) (sl:Addr) (Q:VK),Inv X pins σ H s->RelV x v->s.heap.IsSliceOf sl vl vu .none->IsPart vl lo->IsPart vu hi->r x lo hi H Q →
   ∃ T id,typeLookup (.type T) "__getitem__" = pure (some (.builtin id))/\s.TypeIs v T/\wpAny (model X.prog X.w) X.A (getItem v (.ref sl)) (EP X pins σ Q) X.xe s
noncomputable def tSl (r:V->Option Int->Option Int->Hp->VK->Prop) (te:TE) (tl th:TO):TE:=fun σ H Q=>te σ H fun x H1=>tl σ H1 fun l H2=>th σ H2 fun u H3=>r x l u H3 Q
theorem zt7 {r:V->Option Int->Option Int->Hp->VK->Prop} (hr:SlR X r) (he:PE X e te) (hl:PO X lo tl) (hu:PO X hi th):PE X (.Subscript e (.Slice lo hi none p2) pos) (tSl r te tl th):=by
 intro pins s σ H Q I h
 refine Subscript_ (thn (he pins s σ H _ I h) fun v s1 ⟨x,H1,I1,r1,q1⟩=>?_)
 refine wpAny_Slice (thn (hl pins s1 σ H1 _ I1 q1) fun vl s2 ⟨l,H2,I2,pl,q2⟩=>thn (hu pins s2 σ H2 _ I2 q2) fun vu s3 ⟨u,H3,I3,pu,q3⟩=>?_)
 rw[evalPart_none]
 refine wpAny_pure ?_
 have I4:Inv X pins σ H3 { s3 with heap:=s3.heap.push { cls:=.type "slice",data:=.fields #[vl,vu,.none] } }:=I3.kept (t':=s3.toks) fun b ob q=>Heap.get?_push_of_some _ q
 obtain ⟨T,id,hT,ht,hg⟩:=hr pins { s3 with heap:=s3.heap.push { cls:=.type "slice",data:=.fields #[vl,vu,.none] } } σ H3 x v vl vu l u s3.heap.objs.size Q I4 r1 (Heap.IsSliceOf.new ..) pl pu q3
 show wpAny (model X.prog X.w) X.A (subscriptTail e (.Slice lo hi none p2) v (.ref s3.heap.objs.size)) (EP X pins σ Q) X.xe { s3 with heap:=s3.heap.push { cls:=.type "slice",data:=.fields #[vl,vu,.none] } }
 exact tail_any (ops:=[.ref s3.heap.objs.size,v]) ht hT hg (by with_unfolding_all rfl)
noncomputable def cutV (xs:List V) (lo hi:Option Int):List V:=(xs.drop (HT.sIx xs.length 0 lo)).take (HT.sIx xs.length xs.length hi-HT.sIx xs.length 0 lo)
theorem zs0 (xs:List V) (lo hi:Option Int):(cutV xs lo hi).length<=xs.length:=by
 unfold cutV
 rw[List.length_take,List.length_drop]
 omega
/-! ### t<u,t+u -/
end
end L2
namespace L2
open PySem PySem.Spec PyProof.Rows
/-! ### places -/
noncomputable def ixN (n:Nat) (i:Int):Option Nat:=if 0<=i then (if i<n then some i.toNat else none) else if -(n:Int)<=i then some (i+n).toNat else none
noncomputable def atI {α:Type} (xs:List α) (i:Int):Option α:=(ixN xs.length i).bind fun j=>xs[j]?
theorem zD7 {n:Nat} {i:Int} {j:Nat} (h:ixN n i=some j):seqIndex? i n=some j/\j<n/\-(n:Int)<=i/\i<n:=by
 unfold ixN at h
 by_cases h0:0<=i
 . rw[if_pos h0] at h
   by_cases h1:i<n
   . rw[if_pos h1] at h
     have e:i.toNat=j:=Option.some.inj h
     exact⟨by rw[seqIndex_of h0 h1,e],by omega,by omega,h1⟩
   . rw[if_neg h1] at h;cases h
 . rw[if_neg h0] at h
   by_cases h1:-(n:Int)<=i
   . rw[if_pos h1] at h
     have e:(i+n).toNat=j:=Option.some.inj h
     exact⟨by rw[seqIndex_neg (by omega) h1,e],by omega,h1,by omega⟩
   . rw[if_neg h1] at h;cases h
theorem zy7 {α:Type} {xs:List α} {i:Int} {v:α} (h:atI xs i=some v):∃ j,seqIndex? i xs.length=some j/\xs[j]?=some v/\j<xs.length/\-(xs.length:Int)<=i/\i<xs.length:=by
 unfold atI at h
 cases e:ixN xs.length i with
 | none=>rw[e] at h;cases h
 | some j =>
   rw[e] at h
   obtain ⟨h1,h2,h3,h4⟩:=zD7 e
   exact⟨j,h1,h,h2,h3,h4⟩
theorem atI_nat {α:Type} {xs:List α} {j:Nat} {v:α} (h:xs[j]?=some v):atI xs (j:Int)=some v:=by
 have hj:j<xs.length:=(List.getElem?_eq_some_iff.mp h).1
 have e:ixN xs.length (j:Int)=some j:=by
   unfold ixN
   rw[if_pos (by omega),if_pos (by omega)];simp
 unfold atI;rw[e];exact h
/-! ### what may be subscripted -/
noncomputable def PlainIx (b:Expr):Prop:=∀ o i,subscripted b false o i=operate [o,i] (getItem o i)
noncomputable def IxR (X:Cx) (r:R2):Prop :=
 ∀ (value slice:Expr) (pins:List (Addr×Obj)) (s:Shared) (σ:St) (H:Hp) (x y:V) (v u:Value) (Q:VK),Inv X pins σ H s->RelV x v->RelV y u->r x y H Q →
   subscripted slice false v u=operate [v,u] (getItem v u)->wpAny (model X.prog X.w) X.A (subscriptTail value slice v u) (EP X pins σ Q) X.xe s
noncomputable def MtR (X:Cx) (id:String) (r:V->List V->Hp->VK->Prop):Prop :=
 ∀ (pins:List (Addr×Obj)) (s:Shared) (σ:St) (H:Hp) (x:V) (xs:List V) (v:Value) (us:List Value) (Q:VK),Inv X pins σ H s->RelV x v->Vals xs us->r x xs H Q →
   wpAny (model X.prog X.w) X.A (call (.builtin id) (v::us)) (EP X pins σ Q) X.xe s
section
variable {X:Cx} {a b:Expr} {ta tb:TE} {pos:Pos}
theorem IxR.or {r r':R2} (h:IxR X r) (h':IxR X r'):IxR X (fun x y H Q=>r x y H Q\/r' x y H Q):=by
 intro value slice pins s σ H x y v u Q I rx ry q hs
 rcases q with q | q
 . exact h value slice pins s σ H x y v u Q I rx ry q hs
 . exact h' value slice pins s σ H x y v u Q I rx ry q hs
theorem zk1 {r:R2} (hr:IxR X r) (ha:PE X a ta) (hb:PE X b tb) (hs:PlainIx b):PE X (.Subscript a b pos) (tOp r ta tb):=by
 intro pins s σ H Q I h
 exact Subscript_ (binT ha hb I h fun v u s2 x y H2 I2 rx ry q=>hr a b pins s2 σ H2 x y v u Q I2 rx ry q (hs _ _))
noncomputable def rIxL (K:PySem.W.Frag):R2:=fun x y H Q=>∃ p xs i v,x = .ref p/\y = .int i/\SqL K H p xs/\atI xs i=some v/\Q v H
noncomputable def rIxT (K:PySem.W.Frag):R2:=fun x y H Q=>∃ p xs i v,x = .ref p/\y = .int i/\SqT K H p xs/\atI xs i=some v/\Q v H
noncomputable def rIxS:R2:=fun x y H Q=>∃ z i c,x = .str z/\y = .int i/\z.length<=sizeLine/\atI z.cps.toList i=some c/\Q (.str ⟨#[c]⟩) H
theorem zg5:IxR X (rIxL X.K):=by
 intro value slice pins s σ H x y v u Q I rx ry h hs
 obtain ⟨p,xs,i,z,rfl,rfl,hq,he,q⟩:=h
 cases rx
 obtain ⟨t,rfl⟩:=ry
 obtain ⟨its,r,pl,hz⟩:=I.list hq
 obtain ⟨j,h1,h2,h3,h4,h5⟩:=zy7 he
 obtain ⟨w,ew,rw'⟩:=r.get h2
 have hl:=r.length
 have hn:=zt5
 have fin:EP X pins σ Q w s:=⟨z,H,I,rw',q⟩
 by_cases h0:0<=i
 . have hj:i.toNat=j:=by
     rw[seqIndex_of h0 h5] at h1
     exact Option.some.inj h1
   exact item_listR pl.isList h0 (by omega) (by rw[hj];simpa using ew) fin hs
 . have hj:(i+(its.toArray.size:Int)).toNat=j:=by
     rw[seqIndex_neg (by omega) h4] at h1
     rw[List.size_toArray,<-hl]
     exact Option.some.inj h1
   exact subscriptTail_builtinR (x:=w) pl.isList.typeIs slot_list_getitem.lookup
     (wpAny_getItem_list_neg (Q:=fun r s'=>r=w/\EP X pins σ Q r s') pl.isList (by omega) (by rw[List.size_toArray]<;>omega) (by omega) (by rw[hj];simpa using ew) ⟨rfl,fin⟩) hs
theorem ix_tup:IxR X (rIxT X.K):=by
 intro value slice pins s σ H x y v u Q I rx ry h hs
 obtain ⟨p,xs,i,z,rfl,rfl,hq,he,q⟩:=h
 cases rx
 obtain ⟨t,rfl⟩:=ry
 obtain ⟨its,r,pl,hz⟩:=I.tuple hq
 obtain ⟨j,h1,h2,h3,h4,h5⟩:=zy7 he
 obtain ⟨w,ew,rw'⟩:=r.get h2
 have hl:=r.length
 have hn:=zt5
 have fin:EP X pins σ Q w s:=⟨z,H,I,rw',q⟩
 exact subscriptTail_builtinR (x:=w) pl.typeIs slot_tuple_getitem.lookup
   (getItem_tuple (j:=j) (Q:=fun r s'=>r=w/\EP X pins σ Q r s') pl (by omega) (by omega) (by rw[List.size_toArray,<-hl];exact h1) (by simpa using ew) ⟨rfl,fin⟩) hs
theorem ix_str:IxR X rIxS:=by
 intro value slice pins s σ H x y v u Q I rx ry h hs
 obtain ⟨z,i,c,rfl,rfl,hz,he,q⟩:=h
 obtain ⟨t,rfl⟩:=rx
 obtain ⟨t',rfl⟩:=ry
 obtain ⟨j,h1,h2,h3,h4,h5⟩:=zy7 he
 have hl:z.cps.toList.length=z.length:=by simp[Str.length]
 rw[hl] at h1 h4 h5
 have hn:=zt5
 exact tail_any (typeIs_str s z t) slot_str_getitem.lookup (getItem_str (c:=c) (by
   have e1:decide (i < -(2 ^ 63:Int))=false:=decide_eq_false (by omega)
   have e2:decide (i≥2 ^ 63)=false:=decide_eq_false (by omega)
   rw[e1,e2,Bool.or_false]) (by rw[h1];simpa using h2) ⟨.str ⟨#[c]⟩,H,I.tok _,⟨_,rfl⟩,q⟩) hs
noncomputable def rIx (K:PySem.W.Frag):R2:=fun x y H Q=>rIxL K x y H Q\/rIxT K x y H Q\/rIxS x y H Q
theorem zC8:IxR X (rIx X.K):=zg5.or (ix_tup.or ix_str)
/-! ### xs[i]=v,any sign -/
theorem mapSeq_set (its:List Value) (n j:Nat) (u:Value):Obj.mapSeq (·.setIfInBounds j u) { cls:=.type "list",data:=.seq its.toArray n } = { cls:=.type "list",data:=.seq (its.set j u).toArray n }:=by
 simp[Obj.mapSeq]
theorem Inv.lst {pins:List (Addr×Obj)} {σ:St} {H:Hp} {s:Shared} {p:Addr} {xs:List V} (I:Inv X pins σ H s) (h:H p=some (.lst xs)) :
   ∃ (its:List Value) (n:Nat),Vals xs its/\s.heap.get? p=some { cls:=.type "list",data:=.seq its.toArray n }/\xs.length<=sizeLine:=by
 obtain ⟨z,its,n,r,e⟩:=I.hok p _ h
 exact⟨its,n,r,e,z⟩
theorem Inv.lstUpd {pins:List (Addr×Obj)} {σ:St} {H:Hp} {s:Shared} {p:Addr} {xs ys:List V} {its its':List Value} {n n':Nat} {f:Obj->Obj} (I:Inv X pins σ H s) (h:H p=some (.lst xs))
   (ho:s.heap.get? p=some { cls:=.type "list",data:=.seq its.toArray n }) (hf:f { cls:=.type "list",data:=.seq its.toArray n } = { cls:=.type "list",data:=.seq its'.toArray n' }) (r:Vals ys its') (hz:ys.length<=sizeLine) (t:Nat) :
   Inv X pins σ (upd H p (.lst ys)) { s with heap:=s.heap.update p f,toks:=t }:=by
 have e:(s.heap.update p f).get? p=some { cls:=.type "list",data:=.seq its'.toArray n' }:=by
   rw[Heap.get?_update_self f ho (by rw[hf]<;>rfl),hf]
 refine I.write (x:=p) (e:=p) (by rw[h];trivial) (.inl rfl) (fun b u hb q=>(Heap.get?_update_other _ _ (Ne.symm hb)).trans q) ⟨_,e⟩ ?_
 exact⟨hz,its',n',r,e⟩
noncomputable def rSetL:V->V->V->Hp->(Hp->Prop)->Prop:=fun o i v H Q=>∃ p xs k j,o = .ref p/\i = .int k/\H p=some (.lst xs)/\ixN xs.length k=some j/\Q (upd H p (.lst (xs.set j v)))
theorem set_list:PSet X rSetL:=by
 intro pins s σ H o i v ov iv u Q I ro ri rv h
 obtain ⟨p,xs,k,j,rfl,rfl,hp,hj,q⟩:=h
 cases ro
 obtain ⟨t,rfl⟩:=ri
 obtain ⟨its,n,r,ho,hz⟩:=I.lst hp
 obtain ⟨h1,h2,h3,h4⟩:=zD7 hj
 have hl:=r.length
 have hn:=zt5
 have I':Inv X pins σ (upd H p (.lst (xs.set j v))) { s with heap:=s.heap.update p (Obj.mapSeq (·.setIfInBounds j u)) } :=
   I.lstUpd hp ho (mapSeq_set its n j u) (r.set rv j) (by rw[List.length_set];exact hz) s.toks
 by_cases h0:0<=k
 . have hk:k.toNat=j:=by
     rw[seqIndex_of h0 h4] at h1
     exact Option.some.inj h1
   exact PySem.W.ki_setAt ho h0 (by omega) (by rw[List.size_toArray,<-hl];exact h4) (by rw[hk];exact⟨_,I',q⟩)
 . have hk:(k+(its.toArray.size:Int)).toNat=j:=by
     rw[seqIndex_neg (by omega) h3] at h1
     rw[List.size_toArray,<-hl]
     exact Option.some.inj h1
   exact PySem.W.ki_setBack ho (by omega) (by rw[List.size_toArray,<-hl];exact h3) (by omega) (by rw[hk];exact⟨_,I',q⟩)
/-! ### slices -/
theorem slice_bounds (lo hi:Option Int) (n:Nat):(sliceBounds lo hi none n).1=((HT.sIx n 0 lo:Nat):Int)/\(sliceBounds lo hi none n).2.1=((HT.sIx n n hi:Nat):Int)/\(sliceBounds lo hi none n).2.2=1:=by
 refine⟨?_,?_,rfl⟩
 . cases lo with
   | none=>simp[sliceBounds,HT.sIx]
   | some i =>
     simp only[sliceBounds,HT.sIx,Option.getD_none,show (1:Int)>0 by decide,if_true]
     by_cases h:i<0
     . simp only[h,if_true]<;>omega
     . simp only[h,if_false]<;>omega
 . cases hi with
   | none=>simp[sliceBounds,HT.sIx]
   | some i =>
     simp only[sliceBounds,HT.sIx,Option.getD_none,show (1:Int)>0 by decide,if_true]
     by_cases h:i<0
     . simp only[h,if_true]<;>omega
     . simp only[h,if_false]<;>omega
theorem slicePick_cut (its:List Value) (lo hi:Option Int):slicePick its.toArray lo hi none=((its.drop (HT.sIx its.length 0 lo)).take (HT.sIx its.length its.length hi-HT.sIx its.length 0 lo)).toArray:=by
 obtain ⟨h1,h2,h3⟩:=slice_bounds lo hi its.toArray.size
 unfold slicePick
 rw[h1,h2,h3]
 simp only[sliceRange_one,pick_run,List.size_toArray]<;>rfl
noncomputable def rSlL (K:PySem.W.Frag):V->Option Int->Option Int->Hp->VK->Prop:=fun x lo hi H Q=>∃ a xs,x = .ref a/\SqL K H a xs/\∀ p,H p=none->Q (.ref p) (upd H p (.lst (cutV xs lo hi)))
theorem zy8:SlR X (rSlL X.K):=by
 intro pins s σ H x v vl vu lo hi sl Q I rx hs pl pu h
 obtain ⟨a,xs,rfl,hx,q⟩:=h
 cases rx
 obtain ⟨its,r,ht,hz⟩:=I.list hx
 have hlen:=r.length
 refine⟨"list",_,slot_list_getitem.lookup,ht.isList.typeIs,?_⟩
 refine wpAny_getItem_list_slice ht.isList hs pl pu .none (by simp) ?_ (by rw[List.size_toArray]<;>omega)
 rw[slicePick_cut,<-hlen]
 refine⟨.ref s.heap.objs.size,_,I.laid (t':=s.toks) (o:=.lst (cutV xs lo hi)) (fun b ob q=>Heap.get?_push_of_some _ q) (Nat.le_refl _) ?_,rfl,q _ (I.hok.fresh (Nat.le_refl _))⟩
 exact⟨Nat.le_trans (zs0 xs lo hi) hz,_,0,(r.drop (HT.sIx xs.length 0 lo)).take (HT.sIx xs.length xs.length hi-HT.sIx xs.length 0 lo),Heap.get?_push_size _ rfl⟩
/-! ### in,not in: flat items -/
/-! ### len,list(x),tuple(x) of any list or tuple that is read -/
theorem zc8:zl2 X (.builtin "len") (fun xs H Q=>∃ p ys,xs=[.ref p]/\(SqL X.K H p ys\/SqT X.K H p ys)/\Q (.int ys.length) H):=by
 intro pins s σ H xs us Q I r h
 obtain ⟨p,ys,rfl,hq,q⟩:=h
 obtain ⟨u,rfl,rx⟩:=zA1 r
 cases rx
 have hn:=zt5
 rcases hq with hq | hq
 . obtain ⟨its,r',pl,hz⟩:=I.list hq
   have hlen:=r'.length
   exact Calls.call_len_list pl.isList (by simp only[List.size_toArray]<;>omega) ⟨.int ys.length,H,I.tok _,⟨s.toks+1,by rw[List.size_toArray,hlen]⟩,q⟩
 . obtain ⟨its,r',pl,hz⟩:=I.tuple hq
   have hlen:=r'.length
   exact len_tuple pl (by simp only[List.size_toArray]<;>omega) ⟨.int ys.length,H,I.tok _,⟨s.toks+1,by rw[List.size_toArray,hlen]⟩,q⟩
theorem zh9:zl2 X (.type "list") (fun xs H Q=>∃ p ys,xs=[.ref p]/\(SqL X.K H p ys\/SqT X.K H p ys)/\∀ l,H l=none->Q (.ref l) (upd H l (.lst ys))):=by
 intro pins s σ H xs us Q I r h
 obtain ⟨p,ys,rfl,hq,q⟩:=h
 obtain ⟨u,rfl,rx⟩:=zA1 r
 cases rx
 have fin:∀ (its:List Value),Vals ys its->ys.length<=sizeLine->∀ (h':Heap) (c':Nat),(∀ b o',s.heap.get? b=some o'->h'.get? b=some o') →
     h'.get? s.heap.objs.size=some { cls:=.type "list",dict:=none,data:=.seq its.toArray c',slots:=#[] }->EP X pins σ Q (.ref s.heap.objs.size) { s with heap:=h' }:=fun its r' hz h' c' kp e =>
   ⟨.ref s.heap.objs.size,_,I.laid (t':=s.toks) kp (Nat.le_refl _) (show ze6 X.prog X.w _ h' _ (.lst ys) from ⟨hz,its,c',r',e⟩),rfl,q _ (I.hok.fresh (Nat.le_refl _))⟩
 rcases hq with hq | hq
 . obtain ⟨its,r',pl,hz⟩:=I.list hq
   have hlen:=r'.length
   obtain ⟨o,ho,hc,n,hd⟩:=pl.isList
   exact call_list_seq p (.inl rfl) ho hc hd (fun h' c' kp e=>fin its r' hz h' c' kp e) (by simp only[List.size_toArray]<;>omega)
 . obtain ⟨its,r',pl,hz⟩:=I.tuple hq
   have hlen:=r'.length
   obtain ⟨o,ho,hc,n,hd⟩:=pl
   exact call_list_seq p (.inr rfl) ho hc hd (fun h' c' kp e=>fin its r' hz h' c' kp e) (by simp only[List.size_toArray]<;>omega)
theorem zh1:zl2 X (.type "tuple") (fun xs H Q=>∃ p ys,xs=[.ref p]/\((SqL X.K H p ys/\∀ l,H l=none->Q (.ref l) (upd H l (.tup ys)))\/(SqT X.K H p ys/\Q (.ref p) H))):=by
 intro pins s σ H xs us Q I r h
 obtain ⟨p,ys,rfl,h⟩:=h
 obtain ⟨u,rfl,rx⟩:=zA1 r
 cases rx
 rcases h with ⟨hq,q⟩ | ⟨hq,q⟩
 . obtain ⟨its,r',pl,hz⟩:=I.list hq
   have hlen:=r'.length
   refine call_tuple_list pl.isList (fun h' kp=>?_) (by simp only[List.size_toArray]<;>omega)
   have I1:Inv X pins σ H { s with heap:=h' }:=I.kept (t':=s.toks) kp
   have I2:Inv X pins σ (upd H h'.objs.size (.tup ys)) { s with heap:=h'.push { cls:=.type "tuple",data:=.seq its.toArray } } :=
     I1.laid (t':=s.toks) (fun b o e=>Heap.get?_push_of_some _ e) (Nat.le_refl _) (show ze6 X.prog X.w _ _ _ (.tup ys) from ⟨hz,its,r',TupD.new _ _⟩)
   exact⟨.ref h'.objs.size,_,I2,rfl,q _ (I1.hok.fresh (Nat.le_refl _))⟩
 . obtain ⟨its,r',pl,hz⟩:=I.tuple hq
   exact call_tuple_same pl ⟨.ref p,H,I,rfl,q⟩
/-! ### the call of a builtin's method: o.m(..) -/
noncomputable def tyV (K:PySem.W.Frag) (T:String) (x:V) (H:Hp):Prop:=match x with
 | .str _=>T = "str"
 | .int _=>T = "int"
 | .ref p=>(T = "list"/\∃ xs,SqL K H p xs)\/(T = "tuple"/\∃ o,K.lookup p=some o/\o.cls = .type "tuple"/\o.dict=none) ∨
     (T = "dict"/\((∃ kvs,H p=some (.dK kvs))\/∃ kvs,H p=some (.dT kvs)))\/(T = "set"/\∃ S n,H p=some (.set S n))
 | _=>False
theorem tyV_is {pins:List (Addr×Obj)} {σ:St} {H:Hp} {s:Shared} {T:String} {x:V} {v:Value} (I:Inv X pins σ H s) (r:RelV x v) (ty:tyV X.K T x H) :
   s.TypeIs v T/\∀ a,v = .ref a->∃ ob,s.heap.get? a=some ob/\ob.dict=none:=by
 cases x with
 | str z =>
   obtain ⟨t,rfl⟩:=r
   cases (show T = "str" from ty)
   exact⟨typeIs_str s z t,fun _ e=>nomatch e⟩
 | int i =>
   obtain ⟨t,rfl⟩:=r
   cases (show T = "int" from ty)
   exact⟨typeIs_int s i t,fun _ e=>nomatch e⟩
 | ref p =>
   cases r
   rcases ty with ⟨rfl,xs,hq⟩ | ⟨rfl,o,hk,hc,hd⟩ | ⟨rfl,hk⟩ | ⟨rfl,S,n,hk⟩
   . obtain ⟨its,_,pl,_⟩:=I.list hq
     refine⟨pl.isList.typeIs,fun a e=>?_⟩
     cases e
     obtain ⟨o,n,e,c,hd,_⟩:=pl
     exact⟨o,e,hd⟩
   . refine⟨⟨o,I.kIn p o hk,hc⟩,fun a e=>?_⟩
     cases e
     exact⟨o,I.kIn _ o hk,hd⟩
   . have z:∃ o,s.heap.get? p=some o/\o.ExactDict:=by
       rcases hk with ⟨kvs,hk⟩ | ⟨kvs,hk⟩
       . obtain ⟨_,_,_,_,o,_,_,e,ex,_⟩:=I.hok p _ hk
         exact⟨o,e,ex⟩
       . obtain ⟨_,_,_,_,o,_,_,e,ex,_⟩:=I.hok p _ hk
         exact⟨o,e,ex⟩
     obtain ⟨o,e,ex⟩:=z
     refine⟨⟨o,e,ex.1⟩,fun a e2=>?_⟩
     cases e2
     exact⟨o,e,ex.2.1⟩
   . obtain ⟨o,_,_,_,e,ex,_⟩:=I.hok p _ hk
     refine⟨⟨o,e,ex.1⟩,fun a e2=>?_⟩
     cases e2
     exact⟨o,e,ex.2.1⟩
 | _=>exact False.elim ty
noncomputable def tBM (K:PySem.W.Frag) (T:String) (r:V->List V->Hp->VK->Prop) (to:TE) (t:TA):TE:=fun σ H Q=>to σ H fun x H1=>tyV K T x H1/\t σ H1 fun xs H2=>r x xs H2 Q
variable {o e:Expr} {es:List Expr} {to:TE} {t:TA} {name:Str} {apos cpos:Pos} {T id:String} {r:V->List V->Hp->VK->Prop}
theorem zD8 (pa:PlainAttrs T) (slot:Slot T name id) (hty:typeOf (.builtin id)=pure (.type "method_descriptor")) (hm:MtR X id r) (ho:PE X o to) (ha:PA X (e::es) t)
   (hbase:attributeBase o name X.env (eval o X.env)=eval o X.env:=by rfl)
   (hfew:((backTo cpos (starEach (e::es) X.env)).all (fun x=>!x.1) && (backToKw cpos (keywordEach [] X.env)).all (fun x=>x.1.isSome)
     && decide ((e::es).length+([]:List Keyword).length+(if ([]:List Keyword).isEmpty then 0 else 1)<30))=true:=by rfl)
   (hline:(apos.endLine == cpos.line)=true:=by rfl) (hs:starEach (e::es) X.env=(false,eval e X.env)::starEach es X.env:=by rfl) (hplain:(backTo cpos (starEach es X.env)).any (·.1)=false:=by rfl) :
   PE X (.Call (.Attribute o name apos) (e::es) [] cpos) (tBM X.K T r to t):=by
 intro pins s σ H Q I h
 refine wpAny_Call_method_late hbase hfew hline rfl (thn (ho pins s σ H _ I h) fun v s1 ⟨x,H1,I1,r1,ty,q1⟩=>?_)
 obtain ⟨h1,h2⟩:=tyV_is I1 r1 ty
 refine⟨T,id,pa,slot,hty,h1,h2,?_⟩
 have hA:=ha cpos pins s1 σ H1 _ I1 q1
 rw[hs] at hA ⊢
 refine Calls.callWith_builtin (by show (false || (backTo cpos (starEach es X.env)).any (·.1))=false;rw[hplain]<;>rfl) (Calls.evalArgs_plain ?_)
 exact thn hA fun us s2 ⟨vs,H2,I2,r2,q2⟩=>hm pins s2 σ H2 x vs v us Q I2 r1 r2 q2
/- xs.append(e),list.index on a module's tuple .. are MtR facts of 06m -/
end
end L2
namespace L2
open PySem PySem.Spec PyProof.Rows
noncomputable def MtM (X:Cx) (id:String) (r:V->List V->Hp->VK->Prop):Prop :=
 ∀ (pins:List (Addr×Obj)) (s:Shared) (σ:St) (H:Hp) (x:V) (xs:List V) (v:Value) (us:List Value) (Q:VK),Inv X pins σ H s->RelV x v->Vals xs us->r x xs H Q →
   wpAny (model X.prog X.w) X.A (call (.builtin id) (v::us)) (EP X pins σ Q) X.xe s
/-! ### lists of values -/
theorem Vals.one:∀ {x:V} {us:List Value},Vals [x] us->∃ u,us=[u]/\RelV x u
 | _,_,.cons r .nil=>⟨_,rfl,r⟩
theorem Vals.rep {xs:List V} {us:List Value} (h:Vals xs us):∀ k:Nat,Vals (List.replicate k xs).flatten (List.replicate k us).flatten
 | 0=>.nil
 | k+1=>by
   rw[List.replicate_succ,List.replicate_succ,List.flatten_cons,List.flatten_cons]
   exact Vals.append h (Vals.rep h k)
theorem zw6 (its:List Value):∀ (k:Nat) (acc:List Value),
   List.foldl (fun x1 x2=>x1++x2) acc.toArray (List.replicate k its.toArray)=(acc++(List.replicate k its).flatten).toArray
 | 0,acc=>by simp
 | k+1,acc=>by
   have e:acc.toArray++its.toArray=(acc++its).toArray:=by simp
   have e2:(acc++its)++(List.replicate k its).flatten=acc++(List.replicate (k+1) its).flatten:=by
     rw[List.replicate_succ,List.flatten_cons,List.append_assoc]
   rw[<-e2,<-zw6 its k (acc++its),<-e,List.replicate_succ,List.foldl_cons]
section
variable {X:Cx} {pins:List (Addr×Obj)} {σ:St} {H:Hp} {s:Shared} {l b:Addr} {xs ys zs:List V}
/-! ### the two steps: a tracked list is rewritten,a new list is laid -/
theorem Inv.lset {its its':List Value} {n:Nat} {f:Array Value->Array Value} {t':Nat} (I:Inv X pins σ H s) (hH:H l=some (.lst xs))
   (e:s.heap.get? l=some { cls:=.type "list",data:=.seq its.toArray n }) (hf:f its.toArray=its'.toArray) (hv:Vals ys its') (hz:ys.length<=sizeLine) :
   Inv X pins σ (upd H l (.lst ys)) { s with heap:=s.heap.update l (Obj.mapSeq f),toks:=t' }:=by
 have q:=PySem.IsL.update e f
 rw[hf] at q
 refine I.write (x:=l) (e:=l) (by rw[hH];exact trivial) (.inl rfl) (fun b' u hb hu=>(Heap.get?_update_other s.heap (Obj.mapSeq f) (Ne.symm hb)).trans hu) ⟨_,q⟩ ?_
 exact⟨hz,its',_,hv,q⟩
theorem Inv.lnew {its:List Value} {t':Nat} (I:Inv X pins σ H s) (hv:Vals ys its) (hz:ys.length<=sizeLine) :
   Inv X pins σ (upd H s.heap.objs.size (.lst ys)) { s with heap:=s.heap.push { cls:=.type "list",data:=.seq its.toArray },toks:=t' } :=
 I.laid (fun _ _ q=>Heap.get?_push_of_some _ q) (Nat.le_refl _) ⟨hz,its,0,hv,Heap.get?_push_size _ rfl⟩
theorem Inv.fresh (I:Inv X pins σ H s):H s.heap.objs.size=none:=I.hok.fresh (Nat.le_refl _)
theorem Inv.lstM (I:Inv X pins σ H s) (hH:H l=some (.lst xs)):xs.length<=sizeLine/\∃ (its:List Value) (n:Nat),Vals xs its/\xs.length=its.length/\s.heap.get? l=some { cls:=.type "list",data:=.seq its.toArray n }:=by
 obtain ⟨z,its,n,r,e⟩:=I.hok l _ hH
 exact⟨z,its,n,r,r.length,e⟩
theorem notLongL {n:Nat} (h:n<=sizeLine):Builtin.List.listTooLong n=false:=by
 unfold Builtin.List.listTooLong
 exact decide_eq_false (by omega)
end
section
variable {X:Cx}
/-! ### methods -/
noncomputable def rAppend:V->List V->Hp->VK->Prop:=fun x vs H Q=>∃ l xs y,x = .ref l/\vs=[y]/\H l=some (.lst xs)/\xs.length<sizeLine/\Q .non (upd H l (.lst (xs++[y])))
theorem zq9:MtM X "list.append" rAppend:=by
 intro pins s σ H x vs v us Q I rx rv h
 obtain ⟨l,xs,y,rfl,rfl,hH,hz,q⟩:=h
 cases rx
 obtain ⟨u,rfl,ru⟩:=rv.one
 obtain ⟨z,its,n,r,hl,e⟩:=I.lstM hH
 refine call_meets F.slot_list_append ⟨_,e,rfl⟩ F.entry_list_append (F.args_list_append_2 _ _) (PySem.list_append l its.toArray n u (by rw[List.size_toArray];omega)) ⟨e,?_⟩
 refine⟨.non,_,I.lset (its':=its++[u]) hH e (by simp) (r.append (.cons ru .nil)) ?_,rfl,q⟩
 rw[List.length_append,List.length_singleton]
 omega
/-! ### list+list,list += list,list*int -/
noncomputable def rCat:R2:=fun x y H Q=>∃ l b xs zs,x = .ref l/\y = .ref b/\H l=some (.lst xs)/\H b=some (.lst zs)/\xs.length+zs.length<=sizeLine/\∀ p,H p=none->Q (.ref p) (upd H p (.lst (xs++zs)))
theorem zG6:OpR X (binaryOp .Add) rCat:=by
 intro pins s σ H x y v u Q I rx ry h
 obtain ⟨l,b,xs,zs,rfl,rfl,hH,hB,hz,q⟩:=h
 cases rx
 cases ry
 obtain ⟨z,its,n,r,hl,e⟩:=I.lstM hH
 obtain ⟨z2,its2,n2,r2,hl2,e2⟩:=I.lstM hB
 refine PySem.P.add_list e e2 ?_ (by rw[List.size_toArray,List.size_toArray];omega)
 have ea:its.toArray++its2.toArray=(its++its2).toArray:=by simp
 rw[ea]
 exact⟨.ref _,_,I.lnew (t':=s.toks) (r.append r2) (by rw[List.length_append];omega),rfl,q _ I.fresh⟩
noncomputable def rRep:R2:=fun x y H Q=>∃ l k xs,x = .ref l/\y = .int k/\H l=some (.lst xs)/\-(2 ^ 63)<=k/\k<2 ^ 63/\xs.length*k.toNat<=sizeLine ∧
 ∀ p,H p=none->Q (.ref p) (upd H p (.lst (List.replicate k.toNat xs).flatten))
theorem zy9 {α:Type} (xs:List α) (k:Nat):(List.replicate k xs).flatten.length=k*xs.length:=by
 induction k with
 | zero=>simp
 | succ k ih=>rw[List.replicate_succ,List.flatten_cons,List.length_append,ih,Nat.succ_mul,Nat.add_comm]
theorem zz0:OpR X (binaryOp .Mult) rRep:=by
 intro pins s σ H x y v u Q I rx ry h
 obtain ⟨l,k,xs,rfl,rfl,hH,h1,h2,hz,q⟩:=h
 cases rx
 obtain ⟨t,rfl⟩:=ry
 obtain ⟨z,its,n,r,hl,e⟩:=I.lstM hH
 have hlen:its.toArray.size*k.toNat<=sizeLine:=by rw[List.size_toArray,<-hl];exact hz
 have hcap:¬ its.toArray.size*k.toNat>(2 ^ 63-1) / 8:=by
   have:(sizeLine:Nat)<=(2 ^ 63-1) / 8:=by decide
   omega
 have hfit:¬ (!Builtin.List.listFitsIndex k)=true:=by
   rw[fitsIndex_both h1 h2]
   exact Bool.false_ne_true
 have hlong:¬ Builtin.List.listTooLong (its.toArray.size*k.toNat)=true:=by
   rw[notLongL hlen]
   exact Bool.false_ne_true
 have hnew:List.foldl (fun x1 x2=>x1++x2) #[] (List.replicate (if its.toArray.isEmpty=true then 0 else k.toNat) its.toArray)=(List.replicate k.toNat its).flatten.toArray:=by
   have f0:∀ m:Nat,List.foldl (fun x1 x2=>x1++x2) #[] (List.replicate m its.toArray)=(List.replicate m its).flatten.toArray:=fun m=>by
     have:=zw6 its m []
     rw[List.nil_append] at this
     exact this
   rw[f0]
   cases its with
   | nil=>simp
   | cons a r'=>rw[if_neg (by simp)]
 refine wpAny_binaryOp_repeat_ref (T:="list") (U:="int") (by decide) ⟨_,e,rfl⟩ (fun s'=>typeIs_int s' k t) noFill_list_mul F.fills_int_mul F.slot_int_rmul repeat_list F.slot_int_index.lookup
   (call_meets F.slot_int_rmul (typeIs_int s k t) F.entry_int_rmul (F.args_int_rmul_2 _ _) (int___rmul___int_list k t l its.toArray n)
     ⟨e,rfl,⟨_,e,rfl⟩,call_meets F.slot_list_mul ⟨_,e,rfl⟩ F.entry_list_mul (F.args_list_mul_2 _ _) (AutoListH.list___mul___list_int_3 l its.toArray n k t hfit hcap hlong) ⟨e,?_⟩⟩)
 rw[hnew]
 exact⟨.ref _,_,I.lnew (t':=s.toks) (r.rep k.toNat) (by rw[zy9,Nat.mul_comm];exact hz),rfl,q _ I.fresh⟩
/-! ### del xs[i] -/
end
/-! ### xs[a:b]=ys -/
section
variable {prog:Program} {w:World} {A:Around} {E:Value->Shared->Prop} {s:Shared}
end
section
variable {X:Cx}
end
end L2
namespace Att
open PySem PySem.W PySem.Calls PyProof.Rows
/-! ### the script -/
theorem ints_of_wellAll {P:Params} {h:Heap}:∀ (ns:List Int) (vs:List Value),WellAll P h vs (ns.map WData.int)->IntsAre vs ns:=by
 intro ns
 induction ns with
 | nil =>
   intro vs w
   rw[List.map_nil] at w
   cases w
   exact .nil
 | cons n ns ih =>
   intro vs w
   rw[List.map_cons] at w
   cases w with
   | cons a b =>
     cases a
     exact .cons _ _ (ih _ b)
theorem script_of {l:OpenLaw} {n:Nat} (hn:l.most=some n) {P:Params} {h:Heap} {args:List WData} {vals:List Value}
   (hpre:l.row.toRowW.claim.pre args=true) (hwl:WellAll P h vals args) :
   ∃ a vs ns,vals=[Value.ref a]/\args=[WData.list (ns.map WData.int)]/\h.get? a=some { cls:=.type "list",data:=.seq vs.toArray }/\IntsAre vs ns/\ns.length<=n:=by
 have hsh:WShape.hasAll [] args [.list .int]=true:=(pre_splitW hpre).1
 have hc:l.pre.holds [] { args:=args }=true:=(pre_splitW hpre).2
 obtain ⟨d,r,rfl,h1,h2⟩:=hasAllW_cons hsh
 obtain rfl:=hasAllW_nil h2
 obtain ⟨xs,rfl,h3⟩:=hasW_list h1
 obtain ⟨ns,rfl⟩:=items_int h3
 have hlen:ns.length<=n:=by
   unfold OpenLaw.pre at hc
   have h4:(WTm.not (.lt (.lit (.int (n:Int))) (.len (.arg 0)))).holds [] { args:=[.list (ns.map .int)] }=true:=by
     have h4:=(holds_andW hc).1
     rw[hn] at h4
     exact h4
   have h5:=condW_of h4 (w_not (w_lt w_lit (w_len_list (w_arg rfl))))
   rw[List.length_map] at h5
   refine Nat.le_of_not_lt fun q=>?_
   have q':(n:Int)<((ns.length:Nat):Int):=by omega
   first
     | (rw[decide_eq_true q'] at h5;exact absurd h5 (by decide))
     | (simp at h5;omega)
 cases hwl with
 | cons w1 w2 =>
   cases w2
   cases w1 with
   | list ho hall=>exact⟨_,_,ns,rfl,rfl,ho,ints_of_wellAll ns _ hall,hlen⟩
theorem post_true (l:OpenLaw) (args:List WData):l.row.toRowW.claim.post args (.bool true) args=true :=
 postW_of (r:=l.row.toRowW) (X:=(true == true))
   (show WShape.has [] (.bool true) .bool=true by first | rfl | decide | simp[WShape.has,WShape.arms,WShape.armsAll])
   (show (WTm.eq .res (.lit (.bool true))).value [] { args:=args,res:=some (.bool true),after:=args }=some (.bool (true == true)) from w_eq_bool (w_res rfl) w_lit) rfl
/-! ### the attachment: holds_open's last premise (the goal 'hc' behind k_head) from a wpAny of the law's body -/
theorem attach_call {l:OpenLaw} {n:Nat} {q:Program} {loose:List Str} {XP:(Str->Option Value)->Heap->Prop} {YP:World->Heap->Prop} {d:DefRec}
   (hn:l.most=some n) (hdf:d.params.defaults=[])
   (call:∀ (w:World) (s₀ s₁:Shared) (mg mb:Str->Option Value) (fa:Addr) (o:Obj) (pm cd doc:Value) (a:Addr) (vs:List Value) (ns:List Int),
     Ground q loose [] XP w s₀ mg mb s₁.heap->YP w s₁.heap →
     s₁.heap.get? fa=some o->o.data = .func (docDef d.name d.params d.body d.scope pm cd doc)->s₁.heap.CodeRec cd d.name->mg d.name=some (.ref fa) →
     s₁.heap.get? a=some { cls:=.type "list",data:=.seq vs.toArray }->IntsAre vs ns->ns.length<=n->s₁.gens = #[] →
     codeAny (model l.prog w) callerA (.call (.ref fa) ⟨[.ref a],[]⟩) (fun r s'=>r = .ok (.ret (.bool true))/\OldK s₁.heap s'.heap/\s'.os=s₁.os/\AllBare s'.gens) s₁) :
   WalkO q loose XP YP l.row.toRowW d [] (fun f vs=>PySem.call f vs):=by
 intro w s₀ s₁ mg mb G Y fa o pm cd doc dV kV ho hd hcd hD hmg hg args vals as hpre hlay hrd hwl hlo
 obtain rfl:dV = .none:=Dflts.none hD hdf
 obtain rfl:kV = .none:=Dflts.noKw hD
 obtain ⟨a,vs,ns,rfl,rfl,hobj,hints,hlen⟩:=script_of hn hpre hwl
 refine enter_call (codeAny_mono (call w s₀ s₁ mg mb fa o pm cd doc a vs ns G Y ho (fd_plain hd) hcd hmg hobj hints hlen hg) fun r s' hq=>?_)
 obtain ⟨rfl,h2,h3,h4⟩:=hq
 exact⟨.inl ⟨.bool true,.bool true,[],rfl,fun _=>rfl,.bool true,post_true l _,fun _=>⟨List.Pairwise.nil,fun _ hm=>(nomatch hm)⟩⟩,h2,h3,h4⟩
/-! ### rules over ANY heap (no ledger) from facts about the written part K: the library's own take a ledger (News) for what they write -/
section
variable {prog:Program} {w:World} {A:Around} {E:Value->Shared->Prop} {s:Shared} {K:Frag}
/-! the whole heap as the ledger: makes every rule that writes through a ledger a rule over any heap -/
end
end Att
namespace L2
open PySem PySem.Spec PyProof.Rows
theorem zw7:∀ {vs:List Value} {ns:List Int},IntsAre vs ns->Vals (ns.map V.int) vs
 | _,_,.nil=>.nil
 | _,_,.cons n t h=>.cons ⟨t,rfl⟩ (zw7 h)
noncomputable def Only (H:Hp):Prop:=∀ b,H b=none\/∃ o xs,H b=some (.frz o (.lst xs))
theorem law_call {P:Program} {w:World} {K:PySem.W.Frag} {mg mb:Str->Option Value} {CX:CXT} {k:Nat} {fa a:Addr} {fd:FuncData} {x:Str} {sp:Sp} {s₁:Shared} {vs:List Value} {ns:List Int}
   (KX:K.In s₁.heap) (hns:s₁.heap.Ns mainGlobals mg) (hb:s₁.heap.Ns builtinsNs mb) (hbb:∀ x:Str,x≠"__name__"->mb x=bootBuiltins x) (hlim:s₁.heap.NoLimit) (hg:s₁.gens = #[])
   (ha:s₁.heap.get? a=some { cls:=.type "list",data:=.seq vs.toArray }) (hi:IntsAre vs ns) (hl:ns.length<=sizeLine) (hr:Room k callerA)
   (F:∀ base:Heap,K.In base->base.Ns mainGlobals mg->FnOk P w K mg base CX k fa fd [x] sp) (hbind:∀ (s:Shared) (u:Value),BindsTo s fd ⟨[u],[]⟩ [(x,u)])
   (hsp:∀ H:Hp,Only H->SqL K H a (ns.map V.int)->sp [.ref a] H (fun v _=>v = .bl true) fun _ _ _=>False)
   (hCX:∀ H e s',CX [] H s₁ (fun _ _ _=>False) e s'->False) :
   codeAny (model P w) callerA (.call (.ref fa) ⟨[.ref a],[]⟩) (fun r s'=>r = .ok (.ret (.bool true))/\OldK s₁.heap s'.heap/\s'.os=s₁.os/\AllBare s'.gens) s₁:=by
 have rv:=zw7 hi
 have lenV:=hi.length
 have core:∀ H:Hp,Only H->SqL K H a (ns.map V.int)->HOk P w H s₁.heap->(∀ b,H b≠none->b=a)->(H a≠none->K.lookup a=none) →
     codeAny (model P w) callerA (.call (.ref fa) ⟨[.ref a],[]⟩) (fun r s'=>r = .ok (.ret (.bool true))/\OldK s₁.heap s'.heap/\s'.os=s₁.os/\AllBare s'.gens) s₁:=by
   intro H hO hS hok hA hK
   have base_of:∀ {b:Addr} {o:Obj},s₁.heap.get? b=some o->H b=none->(hidT s₁.heap H).get? b=some o:=fun e n=>hidT_get e n
   have noA:∀ {b:Addr} {o:Obj} {es:Array DictEntry} {ep:Nat},s₁.heap.get? b=some o->o.data = .dict es ep->H b=none:=fun {b o es ep} e d=>by
     cases q:H b with
     | none=>rfl
     | some u =>
       have e':b=a:=hA b (by rw[q];simp)
       subst e'
       rw[ha] at e;cases e
       have d':Data.seq vs.toArray _=Data.dict es ep:=d
       cases d'
   have nsK:∀ {b:Addr} {m:Str->Option Value},s₁.heap.Ns b m->(hidT s₁.heap H).Ns b m:=fun {b m} ⟨o,es,ep,e,d,r⟩=>⟨o,es,ep,base_of e (noA e d),d,r⟩
   have hKb:K.In (hidT s₁.heap H):=fun b o e=>base_of (KX b o e) (by
     cases q:H b with
     | none=>rfl
     | some u =>
       have e':b=a:=hA b (by rw[q];simp)
       subst e'
       rw[hK (by rw[q];simp)] at e;cases e)
   have hM:Mod K mg (hidT s₁.heap H):=⟨hKb,nsK hns,⟨mb,nsK hb,hbb⟩,let ⟨mc,h1,h2⟩:=hlim;⟨mc,nsK h1,h2⟩⟩
   have e0:Env0 P w K mg (hidT s₁.heap H) callerA [] s₁ H:=⟨rfl,hM,fun b o e=>of_hidT e,Nat.le_of_eq (hidT_size _ _),trivial,fun b hb=>absurd (show b∈([]:List Addr) from hb) (by simp),hok,.of_eq hg⟩
   refine codeAny_mono ((F _ hKb (nsK hns)).run callerA [] s₁ H ⟨[.ref a],[]⟩ [.ref a] [.ref a] _ _ hr e0 (hbind s₁ (.ref a)) (.cons rfl .nil) (hsp H hO hS)) fun r s' h=>?_
   cases r with
   | error e=>exact (hCX H e s' h).elim
   | ok fl =>
     cases fl with
     | next=>exact False.elim h
     | brk=>exact False.elim h
     | cont=>exact False.elim h
     | ret u =>
       obtain ⟨v,H',os,bare,un,hok',r',q⟩:=h
       have q':v = .bl true:=q
       subst q'
       obtain rfl:u=Value.bool true:=r'
       refine⟨rfl,OldK.of_keep fun b o e=>?_,os,bare⟩
       cases q:H b with
       | none=>exact un.keep b o e q (by intro z;exact absurd (show b∈([]:List Addr) from z) (by simp)) (by simp)
       | some u =>
         rcases hO b with z | ⟨ob,xs,z⟩
         . rw[q] at z;cases z
         . have z2:=un.frzs b ob _ z
           obtain ⟨e1,_⟩:=hok b _ z
           obtain ⟨e2,_⟩:=hok' b _ z2
           rw[e] at e1;cases e1
           exact e2
 cases hk:K.lookup a with
 | some o =>
   have e:=KX a o hk
   rw[ha] at e
   cases e
   refine core (fun _=>none) (fun _=>.inl rfl) (.inr ⟨_,vs.toArray,_,hk,rfl,rfl,rfl,by rw[List.size_toArray,lenV];exact hl,by simpa using rv⟩) (fun b u z=>by have z':(none:Option HO)=some u:=z;cases z') (fun b z=>absurd rfl z) fun z=>absurd rfl z
 | none =>
   refine core (fun b=>if b=a then some (.frz { cls:=.type "list",data:=.seq vs.toArray } (.lst (ns.map V.int))) else none) (fun b=>?_) (.inl (.inr ⟨{ cls:=.type "list",data:=.seq vs.toArray },if_pos rfl⟩)) (fun b u z=>?_) (fun b z=>?_) fun _=>hk
   . by_cases hb:b=a
     . exact .inr ⟨_,_,if_pos hb⟩
     . exact .inl (if_neg hb)
   . by_cases hb:b=a
     . have z':=(if_pos hb).symm.trans z
       cases z'
       subst hb
       exact⟨ha,by rw[List.length_map];exact hl,vs,_,rv,ha⟩
     . have z':=(if_neg hb).symm.trans z
       cases z'
   . by_cases hb:b=a
     . exact hb
     . exact absurd (if_neg hb) z
end L2
namespace L2
open PySem PySem.Spec PyProof.Rows
theorem walk_of {l:PySem.W.OpenLaw} {n k:Nat} {q:Program} {loose:List Str} {XP:(Str->Option Value)->Heap->Prop} {YP:World->Heap->Prop} {d:DefRec} {K:Params->PySem.W.Frag} {CX:World->CXT} {sp:World->Sp} {x:Str}
   (hn:l.most=some n) (hn2:n<=sizeLine) (hdf:d.params.defaults=[]) (hr:Room k callerA)
   (hY:∀ (w:World) (h:Heap),YP w h->(K w.params).In h)
   (F:∀ (w:World) (mg:Str->Option Value) (fa:Addr) (h:Heap),(K w.params).In h->h.Ns mainGlobals mg->mg d.name=some (.ref fa) →
     ∃ fd:FuncData,(∀ (s:Shared) (u:Value),BindsTo s fd ⟨[u],[]⟩ [(x,u)]) ∧
       ∀ base:Heap,(K w.params).In base->base.Ns mainGlobals mg->FnOk l.prog w (K w.params) mg base (CX w) k fa fd [x] (sp w))
   (hsp:∀ (w:World) (H:Hp) (a:Addr) (ns:List Int),ns.length<=n->Only H->SqL (K w.params) H a (ns.map V.int)->sp w [.ref a] H (fun v _=>v = .bl true) fun _ _ _=>False)
   (hCX:∀ (w:World) (H:Hp) (s:Shared) (e:Value) (s':Shared),CX w [] H s (fun _ _ _=>False) e s'->False) :
   PySem.W.WalkO q loose XP YP l.row.toRowW d [] (fun f vs=>PySem.call f vs):=by
 refine Att.attach_call hn hdf fun w s₀ s₁ mg mb fa o pm cd doc a vs ns G Y ho hd hcd hmg hobj hints hlen hg=>?_
 have KX:=hY w _ Y
 obtain ⟨fd,hb,hF⟩:=F w mg fa _ KX G.T.g hmg
 exact law_call KX G.T.g G.T.b G.T.builtins G.T.nolimit hg hobj hints (Nat.le_trans hlen hn2) hr hF hb (fun H hO hS=>hsp w H a ns hlen hO hS) fun H e s'=>hCX w H s₁ e s'
end L2
/-! SHORT WORDS over the layer: a def of the text,its body,what a loop and a test want. -/
namespace L2
open PySem PySem.Spec PyProof.Rows
/-! ### the text by places -/
noncomputable def zj2 (s:Stmt) (j:Nat):Stmt:=match s with
 | .ClassDef _ _ _ body _ _ _ _ _ _ _=>body.getD j (.Pass ⟨0,0,0,0⟩)
 | _=>.Pass ⟨0,0,0,0⟩
noncomputable def zb2 (s:Stmt):Arguments:=match s with
 | .FunctionDef _ a _ _ _ _ _ _ _ _=>a
 | _=>{ posonlyargs:=[],args:=[],vararg:=none,kwonlyargs:=[],kw_defaults:=[],kwarg:=none,defaults:=[] }
noncomputable def zb0 (s:Stmt):List Stmt:=match s with
 | .FunctionDef _ _ b _ _ _ _ _ _ _=>b
 | _=>[]
noncomputable def za2 (s:Stmt):Scope:=match s with
 | .FunctionDef _ _ _ _ _ _ sc _ _ _=>sc
 | _=>{ kind:=.function,names:=[],isGenerator:=false,isCoroutine:=false }
/-! ### no exception leaves a def -/
noncomputable abbrev CX0:CXT:=fun _ _ _ _ _ _=>False
noncomputable abbrev E0:XK:=fun _ _ _=>False
theorem zd3 {X:Cx}:zh5 CX0 X E0:=fun _ _ _ _ _ _ _ h=>h.elim
/-! ### a def (or method) of the text as it stands behind the top -/
structure Fun (K:PySem.W.Frag) (x qual:Str) (st:Stmt) (f:Addr) (fd:FuncData):Prop where
 ex:∃ (oc:Value) (od:Option Addr) (kV doc pm:Value) (an:Option Addr) (cdv ct:Value) (osl:Array (Option Value)),
   fd=PySem.W.fnOf x qual (zb2 st) (zb0 st) (za2 st) .none kV doc pm an cdv ct/\K.lookup f=some ⟨oc,od,.func fd,osl⟩/\PySem.W.codeIn K cdv qual=true
 kp:PySem.W.keepIn K (.ref f)=true
section
variable {P:Program} {w:World} {K:PySem.W.Frag} {mg:Str->Option Value} {base:Heap}
theorem Fun.ok {x qual:Str} {st:Stmt} {f:Addr} {fd:FuncData} {N ps:List Str} {k:Nat} {sp:Sp} (F:Fun K x qual st f fd) (S:zb5 N ps (za2 st)) (len:∀ vs H Q E,sp vs H Q E->vs.length=ps.length)
   (hbody:∀ (cdv:Value) (A:Around) (outer:List Env) (s:Shared) (H:Hp) (vs:List V) (Q:VK) (E:XK),Room k (A.deeper (envOfC qual (za2 st) s.heap.objs.size f cdv))->sp vs H Q E →
     ∃ t,PSs (cxOf CX0 P w K mg base N qual (za2 st) f cdv A outer s H E).nox (zb0 st) t/\t { nx:=fun _ H'=>Q .non H',rt:=Q } (zn3 N vs) H):FnOk P w K mg base CX0 (k+1) f fd ps sp:=by
 obtain ⟨oc,od,kV,doc,pm,an,cdv,ct,osl,rfl,lk,hcd⟩:=F.ex
 refine zG5 lk hcd S len fun A outer s H vs Q E hr hsp=>?_
 obtain ⟨t,h,q⟩:=hbody cdv A outer s H vs Q E hr hsp
 exact⟨t,h.nox,q⟩
theorem Fun.binds {x qual:Str} {st:Stmt} {f:Addr} {fd:FuncData} {ps:List Str} (F:Fun K x qual st f fd)
   (h:∀ (kV doc pm:Value) (an:Option Addr) (cdv ct:Value) (us:List Value),us.length=ps.length->bindArgs (PySem.W.fnOf x qual (zb2 st) (zb0 st) (za2 st) .none kV doc pm an cdv ct) ⟨us,[]⟩=pure (ps.zip us)):zc3 K fd ps []:=by
 obtain ⟨oc,od,kV,doc,pm,an,cdv,ct,osl,rfl,lk,hcd⟩:=F.ex
 exact .all (h kV doc pm an cdv ct)
theorem zc5 {x qual:Str} {st:Stmt} {f:Addr} {oc:Value} {od an:Option Addr} {osl:Array (Option Value)} {kV doc pm cdv ct:Value} (l:K.lookup f=some ⟨oc,od,.func (PySem.W.fnOf x qual (zb2 st) (zb0 st) (za2 st) .none kV doc pm an cdv ct),osl⟩)
 (c:PySem.W.codeIn K cdv qual=true) (k:PySem.W.keepIn K (.ref f)=true):Fun K x qual st f (PySem.W.fnOf x qual (zb2 st) (zb0 st) (za2 st) .none kV doc pm an cdv ct):=⟨⟨oc,od,kV,doc,pm,an,cdv,ct,osl,rfl,l,c⟩,k⟩
end
theorem zI3 {A:Around} {k:Nat} (hr:Room k A):A.units+1<cLine:=Nat.lt_of_le_of_lt (Nat.add_le_add_left (by decide:1<=64) _) hr.units
theorem zd1 {n:Nat} (h:n<=1000):n<sizeLine:=Nat.lt_of_le_of_lt h (by decide)
/-! ### expressions in short: the name that stands in the i-th slot -/
section
variable {X:Cx}
theorem pv (i:Nat) {x:Str} {pos:Pos} (hN:X.N[i]?=some x:=by rfl) (hv:Vis X.env.scope x:=by first | exact Or.inl rfl | exact Or.inr (Or.inl rfl) | exact Or.inr (Or.inr rfl)) (hd:(x == ("__debug__" : Str))=false:=by decide)
 (hcd:(x == ("__classdict__" : Str))=false:=by decide):PE X (.Name x pos) (tVar i):=pe_var hN hv hd hcd
end
/-! ### tests -/
theorem iteF {A B:Prop} (h:B):if false=true then A else B:=by
 rw[if_neg Bool.false_ne_true]
 exact h
theorem iteT {A B:Prop} (h:A):if true=true then A else B:=by
 rw[if_pos rfl]
 exact h
theorem ite2 {c A B:Prop} [Decidable c] (h1:c->A) (h2:¬ c->B):if c then A else B:=by
 by_cases h:c
 . rw[if_pos h]
   exact h1 h
 . rw[if_neg h]
   exact h2 h
/-! ### heaps -/
noncomputable def Same (H H':Hp):Prop:=∀ b o,H b=some o->H' b=some o
theorem Same.refl (H:Hp):Same H H:=fun _ _ h=>h
theorem Same.trans {H H1 H2:Hp} (a:Same H H1) (b:Same H1 H2):Same H H2:=fun c o h=>b c o (a c o h)
theorem Same.free {H H':Hp} (e:Same H H') {l:Addr} (h:H' l=Option.none):H l=Option.none:=by
 cases q:H l with
 | none=>rfl
 | some o =>
   rw[e l o q] at h
   cases h
theorem Same.seq {K:PySem.W.Frag} {H H':Hp} {a:Addr} {xs:List V} (e:Same H H') (h:SqL K H a xs):SqL K H' a xs:=by
 rcases h with (h | ⟨o,h⟩) | h
 . exact .inl (.inl (e _ _ h))
 . exact .inl (.inr ⟨o,e _ _ h⟩)
 . exact .inr h
end L2
/-! COMPREHENSIONS over the layer: a list comprehension of one clause,whose block raises nothing -/
namespace L2
open PySem PySem.Spec PyProof.Rows
section
variable {prog:Program} {w:World} {A:Around} {R:Result->Shared->Prop} {s:Shared}
theorem compLoop_go {elt target iter:Expr} {ifs:List Expr} {scope:Scope} {pos:Pos} {it acc:Value} {env:Env} (I:Nat->Shared->Prop)
   (turn:∀ n s,I n s->wpAny (model prog w) A (pyNext it) (fun r s1=>match r with
     | none=>R (.ok .next) s1
     | some v=>wpAny (model prog w) A (letOwnedTupleGo target it v) (fun _ s1'=>wpAny (model prog w) A (assign target env v) (fun _ s2 =>
         wpAny (model prog w) A (forIn ifs true fun c r=>if r=true then do let ok <-isTrue c env (eval c env);pure (ForInStep.yield ok) else pure (ForInStep.yield r)) (fun ok s3 =>
           if ok=true then wpAny (model prog w) A (eval elt env) (fun x s4 =>
             wpAny (model prog w) A (call (.builtin "list.append") [acc,x]) (fun _ s5=>∃ m,m<n/\I m s5) (fun _ _=>False) s4) (fun _ _=>False) s3
           else ∃ m,m<n/\I m s3) (fun _ _=>False) s2) (fun _ _=>False) s1') (fun _ _=>False) s1) (fun _ _=>False) s)
   (n:Nat) (h:I n s) :
   codeAny (model prog w) A (.compLoop (.ListComp elt [⟨target,iter,ifs,0⟩] scope pos) 0 it acc env) R s:=by
 refine codeAny_loop rfl I (fun n s hI=>?_) n h
 show wpAny _ A ((compTurn (.ListComp elt [⟨target,iter,ifs,0⟩] scope pos) 0 it acc env).onRaise (fun x=>do noteFrame x env;theTreesLotGoes x)) _ _ s
 refine wpAny_noted ?_
 rw[compTurn_list]
 refine wpAny_bind (wpAny_standAt (wpAny_bind (wpAny_mono (turn n s hI) (fun r s1 h1=>?_) fun _ _ h'=>h'.elim)))
 cases r with
 | none=>exact wpAny_pure h1
 | some v =>
   refine wpAny_bind (wpAny_mono h1 (fun _ s1' h1'=>?_) fun _ _ h'=>h'.elim)
   refine wpAny_bind (wpAny_mono h1' (fun _ s2 h2=>wpAny_bind (wpAny_mono h2 (fun ok s3 h3=>?_) fun _ _ h'=>h'.elim)) fun _ _ h'=>h'.elim)
   cases ok with
   | false=>exact wpAny_pure ⟨rfl,h3⟩
   | true=>exact wpAny_bind (wpAny_bind (wpAny_mono h3 (fun x s4 h4=>wpAny_bind (wpAny_mono h4 (fun _ s5 h5=>wpAny_pure (wpAny_pure ⟨rfl,h5⟩)) fun _ _ h'=>h'.elim)) fun _ _ h'=>h'.elim))
end
theorem zt8 {scope:Scope} {env:Env} (h:∀ y∈scope.names,y.2 = .free->∃ c,env.cells.lookup y.1=some c) :
   ∃ cl,closureFor scope env=pure cl/\(∀ x c,cl.lookup x=some c->env.cells.lookup x=some c)/\∀ y∈scope.names,y.2 = .free->∃ c,cl.lookup y.1=some c:=by
 have all:∀ (names:List (Str×NameKind)) (acc:List (Str×Addr)) (f:Str×NameKind->List (Str×Addr)->Sem (ForInStep (List (Str×Addr)))),
     (∀ n k c,f (n,k) c=if k == .free then (do let a <-cellOf env n;pure (.yield ((n,a)::c))) else pure (.yield c)) →
     (∀ y∈names,y.2 = .free->∃ c,env.cells.lookup y.1=some c)->(∀ x c,acc.lookup x=some c->env.cells.lookup x=some c) →
     ∃ cl,forIn names acc f=pure cl/\(∀ x c,cl.lookup x=some c->env.cells.lookup x=some c)/\(∀ x c,acc.lookup x=some c->∃ c',cl.lookup x=some c')/\∀ y∈names,y.2 = .free->∃ c,cl.lookup y.1=some c:=by
   intro names
   induction names with
   | nil=>intro acc f _ _ ha;exact⟨acc,by rw[List.forIn_nil],ha,fun x c e=>⟨c,e⟩,fun y hy=>nomatch hy⟩
   | cons y r ih =>
     intro acc f hf hy ha
     obtain ⟨n,k⟩:=y
     rw[List.forIn_cons,hf]
     by_cases hk:k = .free
     . subst hk
       obtain ⟨c,hc⟩:=hy (n,.free) List.mem_cons_self rfl
       have hc':env.cells.lookup n=some c:=hc
       have ec:cellOf env n=pure c:=by unfold cellOf;rw[hc']
       rw[if_pos (by decide),ec,pure_bind,pure_bind]
       obtain ⟨cl,e,h1,h2,h3⟩:=ih ((n,c)::acc) f hf (fun y hy'=>hy y (List.mem_cons_of_mem _ hy')) (fun x c' e=>by
         rw[List.lookup_cons] at e
         cases hx:x == n with
         | true=>rw[hx] at e;cases e;rw[eq_of_beq hx];exact hc'
         | false=>rw[hx] at e;exact ha x c' e)
       refine⟨cl,e,h1,fun x c' e'=>?_,fun y hy' hk'=>?_⟩
       . cases hx:x == n with
         | true=>exact h2 x c (by rw[List.lookup_cons,hx])
         | false=>exact h2 x c' (by rw[List.lookup_cons,hx];exact e')
       . rcases List.mem_cons.mp hy' with z | z
         . subst z;exact h2 n c (by rw[List.lookup_cons];simp)
         . exact h3 y z hk'
     . have hb:(k == NameKind.free)=false:=by simpa using hk
       rw[hb]
       rw[if_neg (by decide),pure_bind]
       obtain ⟨cl,e,h1,h2,h3⟩:=ih acc f hf (fun y hy'=>hy y (List.mem_cons_of_mem _ hy')) ha
       refine⟨cl,e,h1,h2,fun y hy' hk'=>?_⟩
       rcases List.mem_cons.mp hy' with z | z
       . subst z;exact absurd hk' hk
       . exact h3 y z hk'
 have fin:∀ f:Str×NameKind->List (Str×Addr)->Sem (ForInStep (List (Str×Addr))),
     (∀ n k c,f (n,k) c=if k == .free then (do let a <-cellOf env n;pure (.yield ((n,a)::c))) else pure (.yield c)) →
     ∃ cl,(forIn scope.names [] f >>= fun r=>pure r)=pure cl/\(∀ x c,cl.lookup x=some c->env.cells.lookup x=some c)/\∀ y∈scope.names,y.2 = .free->∃ c,cl.lookup y.1=some c:=fun f hf=>by
   obtain ⟨cl,e,h1,_,h3⟩:=all scope.names [] f hf h (fun x c e=>by cases e)
   exact⟨cl,by rw[e,pure_bind],h1,h3⟩
 unfold closureFor
 exact fin _ (fun n k c=>by cases hk:k == NameKind.free<;>simp[hk])
noncomputable def Cx.comp (X:Cx) (scope:Scope) (cl:List (Str×Addr)) (C:Addr) (N':List Str) (s0:Shared) (H0:Hp) (fp:List Addr):Cx :=
 { X with N:=N',s₀:=s0,H₀:=H0,env:=compEnvC scope cl C X.env,outer:=X.stack,ex:=fp,fn:=fun _=>false,pn:=[],xe:=fun _ _=>False }
noncomputable def selS (ix:List (Option Nat)) (σ:St):St:=ix.map fun o=>o.bind fun j=>(σ[j]?).join
structure zf2 (ON:List Str) (osc scope:Scope) (N':List Str) (ix:List (Option Nat)):Prop where
 kind:scope.kind = .function
 nocell:∀ y∈scope.names,y.2≠.cell
 names:∀ y∈scope.names,y.2 = .local->scope.names.lookup y.1=some .local
 frees:∀ y∈scope.names,y.2 = .free->osc.names.lookup y.1=some .cell
 len:ix.length=N'.length
 nd:N'.Nodup
 chk:((ix.zip N').all fun p=>match p.1 with | none=>true | some j=>decide (ON[j]?=some p.2) && decide (scope.names.lookup p.2=some .free))=true
theorem zf2.sel {ON:List Str} {osc scope:Scope} {N':List Str} {ix:List (Option Nat)} (S:zf2 ON osc scope N' ix) (i j:Nat) (x:Str) (h1:ix[i]?=some (some j)) (h2:N'[i]?=some x):ON[j]?=some x/\scope.names.lookup x=some .free:=by
 have hz:(ix.zip N')[i]?=some (some j,x):=by rw[List.getElem?_zip_eq_some];exact⟨h1,h2⟩
 have:=List.all_eq_true.mp S.chk _ (List.mem_of_getElem? hz)
 simp only[Bool.and_eq_true,decide_eq_true_eq] at this
 exact this
theorem zo5 {env:Env}:∀ {names:List (Str×NameKind)} {x:Str},names.lookup x=some .free →
   ((names.map fun (n,k)=>if (k == NameKind.free && env.scope.kind == .function && env.kindOf n == some .cell) then (n,NameKind.cell) else (n,k)).lookup x=some .cell ∨
    (names.map fun (n,k)=>if (k == NameKind.free && env.scope.kind == .function && env.kindOf n == some .cell) then (n,NameKind.cell) else (n,k)).lookup x=some .free)
 | [],_,h=>by simp at h
 | (n,k)::r,x,h=>by
   have ih:=@zo5 env r x
   rw[List.map_cons]
   cases hx:x == n with
   | true =>
     rw[List.lookup_cons,hx] at h
     cases h
     by_cases hc:(NameKind.free == NameKind.free && env.scope.kind == .function && env.kindOf n == some .cell)=true
     . left;simp only[hc,if_true,List.lookup_cons,hx]
     . right
       have hc':(NameKind.free == NameKind.free && env.scope.kind == .function && env.kindOf n == some .cell)=false:=by simpa using hc
       simp only[hc',Bool.false_eq_true,if_false,List.lookup_cons,hx]
   | false =>
     rw[List.lookup_cons,hx] at h
     have ih':=ih h
     by_cases hc:(k == NameKind.free && env.scope.kind == .function && env.kindOf n == some .cell)=true
     . simp only[hc,if_true,List.lookup_cons,hx];exact ih'
     . have hc':(k == NameKind.free && env.scope.kind == .function && env.kindOf n == some .cell)=false:=by simpa using hc
       simp only[hc',Bool.false_eq_true,if_false,List.lookup_cons,hx];exact ih'
theorem zo6 {env:Env}:∀ {names:List (Str×NameKind)} {x:Str},(∀ y∈names,y.2≠.cell) →
   ((names.map fun (n,k)=>if (k == NameKind.free && env.scope.kind == .function && env.kindOf n == some .cell) then (n,NameKind.cell) else (n,k)).lookup x=some .cell ∨
    (names.map fun (n,k)=>if (k == NameKind.free && env.scope.kind == .function && env.kindOf n == some .cell) then (n,NameKind.cell) else (n,k)).lookup x=some .free)->(x,NameKind.free)∈names
 | [],_,_,h=>by simp at h
 | (n,k)::r,x,hn,h=>by
   have ih:=@zo6 env r x fun y hy=>hn y (List.mem_cons_of_mem _ hy)
   rw[List.map_cons] at h
   cases hx:x == n with
   | true =>
     have e:=eq_of_beq hx
     subst e
     by_cases hc:(k == NameKind.free && env.scope.kind == .function && env.kindOf x == some .cell)=true
     . have hk:k = .free:=by
         have:=(Bool.and_eq_true_iff.mp (Bool.and_eq_true_iff.mp hc).1).1
         exact eq_of_beq this
       subst hk;exact List.mem_cons_self
     . have hc':(k == NameKind.free && env.scope.kind == .function && env.kindOf x == some .cell)=false:=by simpa using hc
       simp only[hc',Bool.false_eq_true,if_false,List.lookup_cons,beq_self_eq_true] at h
       rcases h with h | h
       . have hk:k = .cell:=Option.some.inj h
         exact absurd hk (hn (x,k) List.mem_cons_self)
       . have hk:k = .free:=Option.some.inj h
         subst hk;exact List.mem_cons_self
   | false =>
     refine List.mem_cons_of_mem _ (ih ?_)
     by_cases hc:(k == NameKind.free && env.scope.kind == .function && env.kindOf n == some .cell)=true
     . simp only[hc,if_true,List.lookup_cons,hx] at h;exact h
     . have hc':(k == NameKind.free && env.scope.kind == .function && env.kindOf n == some .cell)=false:=by simpa using hc
       simp only[hc',Bool.false_eq_true,if_false,List.lookup_cons,hx] at h;exact h
section
variable {X:Cx} {pins:List (Addr×Obj)} {σ:St} {H:Hp} {s:Shared}
theorem Inv.comp {scope:Scope} {N':List Str} {ix:List (Option Nat)} {cl:List (Str×Addr)} {fp:List Addr} {h':Heap} {t':Nat} (I:Inv X pins σ H s) (S:zf2 X.N X.env.scope scope N' ix) (hfp:∀ b∈fp,FpOk X pins H b) (hlt:∀ b∈fp,b<s.heap.objs.size)
   (c1:∀ x c,cl.lookup x=some c->X.env.cells.lookup x=some c) (c2:∀ y∈scope.names,y.2 = .free->∃ c,cl.lookup y.1=some c)
   (ns:h'.Ns s.heap.objs.size fun _=>none) (sb:∀ b o,s.heap.get? b=some o->h'.get? b=some o) :
   Inv (X.comp scope cl s.heap.objs.size N' s H fp) [] (selS ix σ) H { s with heap:=h',toks:=t' }:=by
 have fpne:∀ b∈fp,b≠s.heap.objs.size:=fun b hb=>Nat.ne_of_lt (hlt b hb)
 have cin:∀ x c,cl.lookup x=some c->∃ v,s.heap.IsCell c v:=fun x c e=>I.cell x c (c1 x c e)
 refine⟨⟨I.ok.mod,S.kind,I.ok.glob,I.ok.blt,Nat.le_refl _,fun x y c e1 e2=>I.ok.inj x y c (c1 x c e1) (c1 y c e2),fun x hx=>?_,fun x c z=>(by cases z),I.ok.hd,I.ok.frames,.inl rfl,fun b hb=>⟨fpne b hb,fun x c e=>?_⟩,I.bs,Nat.le_trans I.ok.bsz I.sz,fun b o e hb=>?_,fun b hb hf=>?_,I.stack,I.stkFree⟩,
   rfl,I.bare,Un.kept sb,⟨_,ns,fun i x v e1 e2 e3=>?_⟩,fun x c e=>?_,I.hok.fresh (Nat.le_refl _),fun x c e=>I.freeC x c (c1 x c e),fun p hp=>(by cases hp),I.hok.kept sb,?_⟩
 . obtain ⟨c,e⟩:=c2 (x,.free) (zo6 S.nocell hx) rfl
   exact⟨c,e⟩
 . exact (hfp b hb).2.2.2.2.1 x c (c1 x c e)
 . rcases (hfp b hb).2.2.2.1 with z | z
   . exact I.ok.noex b o e z
   . exact absurd (Nat.lt_of_lt_of_le (Heap.lt_size (I.ok.bs b o e).1) z) (Nat.lt_irrefl _)
 . rcases List.mem_cons.mp (I.stkSub b hf) with z | z
   . exact (hfp b hb).2.1 z
   . exact (hfp b hb).2.2.1 z
 . -- what the block sees
   have e2':ix[i]?.map (fun o=>o.bind fun j=>(σ[j]?).join)=some (some v):=by
     have:=e2
     unfold selS at this
     rwa [List.getElem?_map] at this
   cases hi:ix[i]? with
   | none=>rw[hi] at e2';cases e2'
   | some o =>
     rw[hi] at e2'
     cases o with
     | none=>cases e2'
     | some j =>
       have e4:(σ[j]?).join=some v:=Option.some.inj e2'
       have e5:σ[j]?=some (some v):=by
         cases q:σ[j]? with
         | none=>rw[q] at e4;cases e4
         | some z=>rw[q] at e4;have:z=some v:=e4;rw[this]
       obtain ⟨hN,hfr⟩:=S.sel i j x hi e1
       have hk:=S.frees (x,.free) (PySem.mem_of_lookup hfr) rfl
       obtain ⟨m,_,hl⟩:=I.loc
       obtain ⟨u,r,lk⟩:=hl j x v hN e5 (.inr (.inl hk))
       refine⟨u,r,.inr ?_⟩
       rcases lk with ⟨k1,_⟩ | ⟨_,c,ec,hc⟩
       . exact absurd (k1.symm.trans hk) (by decide)
       . obtain ⟨c',ec'⟩:=c2 (x,.free) (PySem.mem_of_lookup hfr) rfl
         have:=c1 x c' ec'
         rw[ec] at this
         cases this
         refine⟨zo5 hfr,c,ec',?_⟩
         obtain ⟨o,ho,hd⟩:=hc
         exact⟨o,sb c o ho,hd⟩
 . obtain ⟨v,o,ho,hd⟩:=cin x c e
   exact⟨v,o,sb c o ho,hd⟩
 . show (selS ix σ).length=N'.length
   unfold selS
   rw[List.length_map]
   exact S.len
theorem Inv.uncomp {scope:Scope} {N':List Str} {cl:List (Str×Addr)} {fp:List Addr} {C:Addr} {σ':St} {H':Hp} {s':Shared} (I:Inv X pins σ H s) (hfp:∀ b∈fp,FpOk X pins H b) (hC:s.heap.objs.size<=C)
   (J:Inv (X.comp scope cl C N' s H fp) [] σ' H' s'):Inv X pins σ H' s' :=
 I.call' (ch:=fp) J.os J.base J.hok J.bare fun b hb=>by
   obtain ⟨f0,f1,f2,f3,f4,f5⟩:=hfp b hb
   exact⟨f3,f1,f4,f5⟩
end
/-! ### readings -/
noncomputable def zs1 (D:Addr) (telt:TE) (N:St->Hp->Prop):St->Hp->Prop:=fun σ H=>telt σ H fun v H1=>∃ acc,H1 D=some (.lst acc)/\acc.length<sizeLine/\N σ (upd H1 D (.lst (acc++[v])))
noncomputable def zI4 (wi:TI) (ix:List (Option Nat)) (g:TG) (tif:TT) (telt:TE):TE:=fun σ H Q=>wi σ H fun J H1=>∀ D,H1 D=none->∃ W:Nat->Nat->St->Hp->Prop,(∃ m,W 0 m (selS ix σ) (upd H1 D (.lst []))) ∧
 ∀ i m σ' H',W i m σ' H'->(J.stop i H'/\Q (.ref D) H')\/(J.go i H'/\∃ N:St->Hp->Prop,(∀ σ2 H2,N σ2 H2->∃ m',m'<m/\W (i+1) m' σ2 H2) ∧
   ∀ x H2,J.yld i H' x H2->g x σ' H2 fun σ3 H3=>tif σ3 H3 fun b H4=>if b=true then zs1 D telt N σ3 H4 else N σ3 H4)
noncomputable def PIfs (X:Cx) (ifs:List Expr) (t:TT):Prop :=
 ∀ (pins:List (Addr×Obj)) (s:Shared) (σ:St) (H:Hp) (Q:Bool->Hp->Prop),Inv X pins σ H s->t σ H Q →
   wpAny (model X.prog X.w) X.A (forIn ifs true fun c r=>if r=true then do let ok <-isTrue c X.env (eval c X.env);pure (ForInStep.yield ok) else pure (ForInStep.yield r)) (TP X pins σ Q) X.xe s
noncomputable def zw8:TT:=fun _ H Q=>Q true H
theorem zt9 {X:Cx}:PIfs X [] zw8:=fun _ _ _ H _ I h=>wpAny_tests_nil ⟨H,I,h⟩
section
variable {X:Cx} {scope:Scope} {N':List Str} {ix:List (Option Nat)} {tg iter elt:Expr} {ifs:List Expr} {pos:Pos} {wi:TI} {g:TG} {tif:TT} {telt:TE}
theorem zu0 {RR:Value->Addr->Result->Shared->Prop} {pins:List (Addr×Obj)} {σ:St} {s2:Shared} {H2:Hp} {it:Addr} {fp:List Addr} {tn:Nat->Heap->Prop} {J:It} {cl:List (Str×Addr)} {Q:VK} {E:Value->Shared->Prop}
   (hc:X.calm=true) (S:zf2 X.N X.env.scope scope N' ix)
   (c1:∀ x c,cl.lookup x=some c->X.env.cells.lookup x=some c) (c2:∀ y∈scope.names,y.2 = .free->∃ c,cl.lookup y.1=some c)
   (hg:∀ cl C s0 H0 fp,PG (X.comp scope cl C N' s0 H0 fp) tg g) (hif:∀ cl C s0 H0 fp,PIfs (X.comp scope cl C N' s0 H0 fp) ifs tif) (he:∀ cl C s0 H0 fp,PE (X.comp scope cl C N' s0 H0 fp) elt telt)
   (I2:Inv X pins σ H2 s2) (T:Turn X.prog X.w X.K tg J fp it tn) (st2:tn 0 s2.heap) (f2:∀ b∈fp,FpOk X pins H2 b)
   (body:∀ D,H2 D=none->∃ W:Nat->Nat->St->Hp->Prop,(∃ m,W 0 m (selS ix σ) (upd H2 D (.lst []))) ∧
     ∀ i m σ' H',W i m σ' H'->(J.stop i H'/\Q (.ref D) H')\/(J.go i H'/\∃ N:St->Hp->Prop,(∀ σ2 H2,N σ2 H2->∃ m',m'<m/\W (i+1) m' σ2 H2) ∧
       ∀ x H2,J.yld i H' x H2->g x σ' H2 fun σ3 H3=>tif σ3 H3 fun b H4=>if b=true then zs1 D telt N σ3 H4 else N σ3 H4))
   (hRR:∀ D C s3 s' H' m,Inv X pins σ H' s'->s2.heap.objs.size<=s3->s3<=C->s'.heap.Ns C m->FpOk X pins H' C->HOk X.prog X.w H' s'.heap->Q (.ref D) H'->RR (.ref D) C (.ok .next) s') :
   wpAny (model X.prog X.w) X.A (newList []) (fun acc s3=>wpAny (model X.prog X.w) X.A (newFunctionEnv scope X.env.globals cl [] X.env.qual none .none (some X.env)) (fun cenv s4 =>
     codeAny (model X.prog X.w) X.A (.compStart (.ListComp elt [⟨tg,iter,ifs,0⟩] scope pos) 0 (.ref it) acc { cenv with scope:=relabel scope X.env }) (RR acc cenv.locals) s4) E s3) E s2:=by
 have hlt2:∀ b∈fp,b<s2.heap.objs.size:=fun b hb=>by
   obtain ⟨o,e,_⟩:=T.obj _ _ st2 b hb
   exact Heap.lt_size e
 obtain ⟨W,⟨m0,w0⟩,turn⟩:=body s2.heap.objs.size I2.fresh
 refine wpAny_newObj_type (wpAny_newFunctionEnv S.nocell (by intro y hy;simp at hy) (fun h1 hns1 hsb1=>?_) S.kind)
 dsimp only at hns1 hsb1 ⊢
 have I3:Inv X pins σ (upd H2 s2.heap.objs.size (.lst [])) { s2 with heap:=s2.heap.push { cls:=.type "list",dict:=none,data:=.seq ([]:List Value).toArray } } :=
   Inv.lnew (its:=[]) (t':=s2.toks) I2 .nil (Nat.zero_le _)
 generalize hs3:({ s2 with heap:=s2.heap.push { cls:=.type "list",dict:=none,data:=.seq ([]:List Value).toArray } }:Shared)=s3 at I3
 have hh3:s3.heap=s2.heap.push { cls:=.type "list",dict:=none,data:=.seq ([]:List Value).toArray }:=by rw[<-hs3]
 have hsz3:s3.heap.objs.size=s2.heap.objs.size+1:=by rw[hh3,Heap.size_push]
 have hsh:({ s2 with heap:=h1,toks:=s2.toks+([]:List (Str×Value)).length }:Shared) = { s3 with heap:=h1,toks:=s2.toks+([]:List (Str×Value)).length }:=by rw[<-hs3]
 rw[<-hh3] at hns1 hsb1 ⊢
 have fpD:∀ b∈fp,b≠s2.heap.objs.size:=fun b hb=>Nat.ne_of_lt (hlt2 b hb)
 have f3:∀ b∈fp,FpOk X pins (upd H2 s2.heap.objs.size (.lst [])) b:=fun b hb=>⟨by rw[za7 (fpD b hb)];exact (f2 b hb).1,(f2 b hb).2⟩
 have old:∀ b o,s3.heap.get? b=some o->h1.get? b=some o:=fun b o e=>hsb1.extBut b o (Nat.ne_of_lt (Heap.lt_size e)) (Heap.get?_push_of_some _ e)
 have J4:Inv (X.comp scope cl s3.heap.objs.size N' s3 (upd H2 s2.heap.objs.size (.lst [])) fp) [] (selS ix σ) (upd H2 s2.heap.objs.size (.lst [])) { s3 with heap:=h1,toks:=s2.toks+([]:List (Str×Value)).length } :=
   I3.comp S f3 (fun b hb=>Nat.lt_of_lt_of_le (hlt2 b hb) (by rw[hsz3];exact Nat.le_succ _)) c1 c2 hns1 old
 have st4:tn 0 h1:=T.keep _ _ _ st2 fun b hb o e=>old b o (by rw[hh3];exact Heap.get?_push_of_some _ e)
 generalize hCC:s3.heap.objs.size=C at *
 generalize hX':X.comp scope cl C N' s3 (upd H2 s2.heap.objs.size (.lst [])) fp=X' at J4
 have stat:∀ {H':Hp},(∀ b∈fp,H' b=none)->∀ b∈fp,FpOk X' [] H' b:=fun {H'} hn b hb=>by
   subst hX'
   refine⟨hn b hb,(J4.ok.exf b hb).1,J4.ok.exfs b hb,.inl hb,(J4.ok.exf b hb).2,fun p hp=>(by cases hp)⟩
 rw[hsh]
 have loop:codeAny (model X.prog X.w) X.A (.compLoop (.ListComp elt [⟨tg,iter,ifs,0⟩] scope pos) 0 (.ref it) (.ref s2.heap.objs.size) (compEnvC scope cl C X.env)) (RR (.ref s2.heap.objs.size) C) { s3 with heap:=h1,toks:=s2.toks+([]:List (Str×Value)).length }:=by
   refine compLoop_go (fun n s'=>∃ i σ' H',Inv X' [] σ' H' s'/\tn i s'.heap/\(∀ b∈fp,H' b=none)/\W i n σ' H') ?_ m0 ⟨0,_,_,J4,st4,fun b hb=>(f3 b hb).1,w0⟩
   rintro n s5 ⟨i,σ5,H5,I5,st5,fr5,w5⟩
   rcases turn i n σ5 H5 w5 with ⟨stop,qn⟩ | ⟨go,N,hN,step⟩
   . have td:=T.done X' (by subst hX';rfl) (by subst hX';rfl) (by subst hX';rfl) (by subst hX';exact hc) i [] s5 σ5 H5 (fun _ _=>False) I5 (stat fr5) st5 stop
     have eA:X'.A=X.A:=by subst hX';rfl
     rw[eA] at td
     refine thn td fun r s6 ⟨hr,I6⟩=>?_
     subst hr
     subst hX'
     obtain ⟨m,hnm,_⟩:=I6.loc
     have I7:Inv X pins σ H5 s6:=I3.uncomp f3 (Nat.le_of_eq hCC) I6
     refine hRR s2.heap.objs.size C s3.heap.objs.size s6 H5 m I7 (by omega) (by omega) hnm ?_ I6.hok qn
     have q:=I3.fpOk (H':=H5) (b:=C) (by omega) I6.free
     exact q
   . have ti:=T.item X' (by subst hX';rfl) (by subst hX';rfl) (by subst hX';rfl) (by subst hX';exact hc) i [] s5 σ5 H5 (fun _ _=>False) I5 (stat fr5) st5 go
     have eA:X'.A=X.A:=by subst hX';rfl
     rw[eA] at ti
     refine thn ti fun r s6 ⟨u,hr,h6⟩=>?_
     subst hr
     refine thn h6 fun _ s7 ⟨x,H7,I7,r7,y7,st7,fr7⟩=>?_
     have I7':=I7.pinned (stat fr7) (T.obj _ _ st7)
     have again:∀ {pl:List (Addr×Obj)} {σ8:St} {H8:Hp} {s8:Shared},Inv X' ([]++zq7 fp s7.heap) σ8 H8 s8->N σ8 H8->∃ m,m<n/\∃ i σ' H',Inv X' [] σ' H' s8/\tn i s8.heap/\(∀ b∈fp,H' b=none)/\W i m σ' H':=fun {pl σ8 H8 s8} I8 n8=>by
       obtain ⟨m',hm,w8⟩:=hN σ8 H8 n8
       refine⟨m',hm,i+1,σ8,H8,I8.unpinned,T.keep _ _ _ st7 fun b hb o e=>(I8.pin (b,o) (List.mem_append_right _ (List.mem_append_right _ (zk7 hb e)))).1,fun b hb=>?_,w8⟩
       obtain ⟨o,e,d⟩:=T.obj _ _ st7 b hb
       exact (I8.pin (b,o) (List.mem_append_right _ (List.mem_append_right _ (zk7 hb e)))).2.1
     have eE:X'.env=compEnvC scope cl C X.env:=by subst hX';rfl
     have eP:X'.prog=X.prog:=by subst hX';rfl
     have eW:X'.w=X.w:=by subst hX';rfl
     have eX:X'.xe=fun _ _=>False:=by subst hX';rfl
     have hg':PG X' tg g:=by subst hX';exact hg _ _ _ _ _
     have hif':PIfs X' ifs tif:=by subst hX';exact hif _ _ _ _ _
     have he':PE X' elt telt:=by subst hX';exact he _ _ _ _ _
     have a1:=hg' _ s7 σ5 H7 x u _ I7' r7 (step x H7 y7)
     rw[eE,eP,eW,eA,eX] at a1
     refine thn a1 fun _ s8 ⟨σ8,H8,I8,q8⟩=>?_
     have a2:=hif' _ s8 σ8 H8 _ I8 q8
     rw[eE,eP,eW,eA,eX] at a2
     refine thn a2 fun ok s9 ⟨H9,I9,q9⟩=>?_
     cases ok with
     | false=>exact again (pl:=[]) I9 q9
     | true =>
       have q9':zs1 s2.heap.objs.size telt N σ8 H9:=q9
       have a3:=he' _ s9 σ8 H9 _ I9 q9'
       rw[eE,eP,eW,eA,eX] at a3
       show wpAny _ _ _ _ _ _
       refine thn a3 fun y s10 ⟨v,H10,I10,r10,acc,hD,hl,n10⟩=>?_
       obtain ⟨hz,its,k,rv,hgD⟩:=I10.hok s2.heap.objs.size _ hD
       have hlen:=rv.length
       refine wpAny_list_append_plain (hsz:=by rw[List.size_toArray,<-hlen];exact Nat.le_of_lt hl) ⟨k,hgD⟩ fun h11 hl11 hs11=>?_
       obtain ⟨k',hk'⟩:=hl11
       have ep:(its.toArray.push y)=(its++[y]).toArray:=by simp
       rw[ep] at hk'
       have I11:Inv X' ([]++zq7 fp s7.heap) σ8 (upd H10 s2.heap.objs.size (.lst (acc++[v]))) { s10 with heap:=h11 } :=
         I10.write (x:=s2.heap.objs.size) (e:=s2.heap.objs.size) (t':=s10.toks) (by rw[hD];exact trivial) (.inl rfl) (fun b o hb e=>hs11.extBut b o hb e) ⟨_,hk'⟩ ⟨by rw[List.length_append];exact hl,its++[y],k',rv.append (.cons r10 .nil),hk'⟩
       exact again (pl:=[]) I11 n10
 exact codeAny_compStart_list loop (T.self _ 0 _ _ _ st4 loop)
theorem zD9 (hc:X.calm=true) (S:zf2 X.N X.env.scope scope N' ix) (hi:PI X tg iter wi)
   (hg:∀ cl C s0 H0 fp,PG (X.comp scope cl C N' s0 H0 fp) tg g) (hif:∀ cl C s0 H0 fp,PIfs (X.comp scope cl C N' s0 H0 fp) ifs tif) (he:∀ cl C s0 H0 fp,PE (X.comp scope cl C N' s0 H0 fp) elt telt)
   (hs:∀ x,foldedSetIterable iter X.env x=pure x:=by intro _;rfl):PE X (.ListComp elt [⟨tg,iter,ifs,0⟩] scope pos) (zI4 wi ix g tif telt):=by
 intro pins s σ H Q I h
 obtain ⟨cl,hcl,c1,c2⟩:=zt8 (scope:=scope) (env:=X.env) fun y hy hk=>I.ok.has y.1 (.inl (S.frees y hy hk))
 rw[eval_ListComp]
 refine wpAny_comprehension_free (use:=none) rfl hs hcl S.kind S.names (thn (hi pins s σ H _ I h) fun xv s1 h1=>thn h1 fun itv s2 h2=>?_)
 obtain ⟨it,fp,tn,J,H2,e,I2,T,st2,f2,body⟩:=h2
 subst e
 refine zu0 (RR:=fun acc C=>compPost (model X.prog X.w) X.A X.xe none (EP X pins σ Q) acc C) (Q:=Q) hc S c1 c2 hg hif he I2 T st2 f2 body ?_
 intro D C s3 s' H' m I' h1 h2 hm hf hok q
 obtain ⟨f0,f1,f2',f3,f4,f5⟩:=hf
 refine⟨m,hm,fun h' sb=>⟨.ref D,H',?_,rfl,q⟩⟩
 exact I'.turned (t':=s'.toks) (fun b o hb e=>sb.extBut b o hb e) f0 f1 f3 f4 f5
theorem ps_comp {i:Nat} {y:Str} {py spos:Pos} (hc:X.calm=true) (S:zf2 X.N X.env.scope scope N' ix) (hi:PI X tg iter wi)
   (hg:∀ cl C s0 H0 fp,PG (X.comp scope cl C N' s0 H0 fp) tg g) (hif:∀ cl C s0 H0 fp,PIfs (X.comp scope cl C N' s0 H0 fp) ifs tif) (he:∀ cl C s0 H0 fp,PE (X.comp scope cl C N' s0 H0 fp) elt telt)
   (hN:X.N.Nodup) (hy:X.N[i]?=some y) (hx:X.env.scope.names.lookup y=some .local)
   (hsw:swapsWith (.ListComp elt [⟨tg,iter,ifs,0⟩] scope pos) (some (.Name y py)) spos.line X.env=pure true:=by rfl)
   (hs:∀ x,foldedSetIterable iter X.env x=pure x:=by intro _;rfl):PS X (.Assign [.Name y py] (.ListComp elt [⟨tg,iter,ifs,0⟩] scope pos) spos) (tAsg (zI4 wi ix g tif telt) (zo4 i)):=by
 intro pins s σ H D0 I h
 obtain ⟨cl,hcl,c1,c2⟩:=zt8 (scope:=scope) (env:=X.env) fun y hy hk=>I.ok.has y.1 (.inl (S.frees y hy hk))
 rw[exec_Assign_Name_used _ _ _ _ hsw]
 refine wpAny_bind (wpAny_standAt (wpAny_bind ?_))
 show wpAny _ _ (do let _ <-comprehension (.ListComp elt [⟨tg,iter,ifs,0⟩] scope pos) scope X.env _ (newList []) false (eval iter X.env) (some (assign (.Name y py) X.env))) _ _ s
 refine wpAny_bind (wpAny_mono (wpAny_comprehension_free (use:=some (assign (.Name y py) X.env)) (Q:=fun _ s'=>SP X pins D0 .next s') rfl hs hcl S.kind S.names
   (thn (hi pins s σ H _ I h) fun xv s1 h1=>thn h1 fun itv s2 h2=>?_)) (fun _ s' hq=>wpAny_pure (wpAny_pure hq)) fun _ _ e=>e)
 obtain ⟨it,fp,tn,J,H2,e,I2,T,st2,f2,body⟩:=h2
 subst e
 refine zu0 (RR:=fun acc C=>compPost (model X.prog X.w) X.A X.xe (some (assign (.Name y py) X.env)) (fun _ s'=>SP X pins D0 .next s') acc C) (Q:=fun v H1=>zo4 i v σ H1 D0.nx) hc S c1 c2 hg hif he I2 T st2 f2 body ?_
 intro D C s3 s' H' m I' h1 h2 hm hf hok q
 obtain ⟨f0,f1,f2',f3,f4,f5⟩:=hf
 show wpAny _ _ (assign (.Name y py) X.env (.ref D)) _ _ _
 refine wpAny_assign_Name (zv8 I' hN hy (.inl hx) (v:=.ref D) rfl (fun s4 I4 ⟨a,sb,ha⟩=>?_) (.inr hx))
 have hCa:C≠a:=by
   rcases ha with z | z
   . rw[z];exact f1
   . exact Ne.symm (f4 y a z)
 refine⟨m,hm.sameBut sb hCa,fun h' sb'=>⟨_,H',?_,q⟩⟩
 exact I4.turned (t':=s4.toks) (fun b o hb e=>sb'.extBut b o hb e) f0 f1 f3 f4 f5
end
end L2
/-! MORE RULES: count,isinstance,sum,a list unpacked,a tuple's methods -/
namespace L2
open PySem PySem.Spec PyProof.Rows
section
variable {X:Cx}
/-! ### count of ints -/
noncomputable def rCountL (K:PySem.W.Frag):V->List V->Hp->VK->Prop:=fun x vs H Q=>∃ (l:Addr) (ns:List Int) (k:Int),x = .ref l/\vs=[.int k]/\SqL K H l (ns.map V.int)/\Q (.int (ns.count k:Nat)) H
theorem mt_countL:MtR X "list.count" (rCountL X.K):=by
 intro pins s σ H x vs v us Q I rx rv h
 obtain ⟨l,ns,k,rfl,rfl,hS,q⟩:=h
 cases rx
 obtain ⟨u,rfl,t,rfl⟩:=rv.one
 obtain ⟨its,r,p,hz⟩:=I.list hS
 exact count_list_ints p.isList (zo1 r) ⟨.int (ns.count k:Nat),H,I.tok _,⟨_,rfl⟩,q⟩
noncomputable def rCountT (K:PySem.W.Frag):V->List V->Hp->VK->Prop:=fun x vs H Q=>∃ (l:Addr) (ns:List Int) (k:Int),x = .ref l/\vs=[.int k]/\SqT K H l (ns.map V.int)/\Q (.int (ns.count k:Nat)) H
theorem mt_countT:MtR X "tuple.count" (rCountT X.K):=by
 intro pins s σ H x vs v us Q I rx rv h
 obtain ⟨l,ns,k,rfl,rfl,hS,q⟩:=h
 cases rx
 obtain ⟨u,rfl,t,rfl⟩:=rv.one
 obtain ⟨its,r,⟨⟨cls,dd,data,sl⟩,ho,hc,n,hd⟩,hz⟩:=I.tuple hS
 simp only at hc hd
 subst hc hd
 have hi:=zo1 r
 refine call_meets PySem.F.slot_tuple_count ⟨_,ho,rfl⟩ PySem.F.entry_tuple_count (PySem.F.args_tuple_count_2 _ _) (SeqAt.tuple_countAt l its.toArray n dd sl (.int k t) (isInt k)) ⟨ho,fun y hy=>(eq_isInt k t hi y (by simpa using hy)).at _ _,?_⟩
 rw[show its.toArray.toList=its from rfl,countP_isInt k hi]
 exact⟨.int (ns.count k:Nat),H,I.tok _,⟨_,rfl⟩,q⟩
noncomputable def tTM (r:V->List V->Hp->VK->Prop) (to:TE) (t:TA):TE:=fun σ H Q=>to σ H fun x H1=>(∃ p ys,x = .ref p/\H1 p=some (.tup ys))/\t σ H1 fun xs H2=>r x xs H2 Q
variable {o e:Expr} {es:List Expr} {to:TE} {t:TA} {name:Str} {apos cpos:Pos} {id:String} {r:V->List V->Hp->VK->Prop}
theorem pe_tm (slot:Slot "tuple" name id) (hty:typeOf (.builtin id)=pure (.type "method_descriptor")) (hm:MtR X id r) (ho:PE X o to) (ha:PA X (e::es) t)
   (hbase:attributeBase o name X.env (eval o X.env)=eval o X.env:=by rfl)
   (hfew:((backTo cpos (starEach (e::es) X.env)).all (fun x=>!x.1) && (backToKw cpos (keywordEach [] X.env)).all (fun x=>x.1.isSome)
     && decide ((e::es).length+([]:List Keyword).length+(if ([]:List Keyword).isEmpty then 0 else 1)<30))=true:=by rfl)
   (hline:(apos.endLine == cpos.line)=true:=by rfl) (hs:starEach (e::es) X.env=(false,eval e X.env)::starEach es X.env:=by rfl) (hplain:(backTo cpos (starEach es X.env)).any (·.1)=false:=by rfl) :
   PE X (.Call (.Attribute o name apos) (e::es) [] cpos) (tTM r to t):=by
 intro pins s σ H Q I h
 refine wpAny_Call_method_late hbase hfew hline rfl (thn (ho pins s σ H _ I h) fun v s1 ⟨x,H1,I1,r1,⟨p,ys,ex,hp⟩,q1⟩=>?_)
 subst ex
 cases r1
 obtain ⟨_,its,_,ob,eo,ec,ed,_⟩:=I1.hok p _ hp
 refine⟨"tuple",id,PySem.F.plainAttrs_tuple,slot,hty,⟨ob,eo,ec⟩,fun a ea=>by cases ea;exact⟨ob,eo,ed⟩,?_⟩
 have hA:=ha cpos pins s1 σ H1 _ I1 q1
 rw[hs] at hA ⊢
 refine Calls.callWith_builtin (by show (false || (backTo cpos (starEach es X.env)).any (·.1))=false;rw[hplain]<;>rfl) (Calls.evalArgs_plain ?_)
 exact thn hA fun us s2 ⟨vs,H2,I2,r2,q2⟩=>hm pins s2 σ H2 (.ref p) vs _ us Q I2 rfl r2 q2
/-! ### isinstance -/
inductive ClsV:V->Value->Prop where
 | ty (n:String):ClsV (.ty n) (.type n)
 | own (C:Addr):ClsV (.ref C) (.ref C)
noncomputable def rIsi (K:PySem.W.Frag):List V->Hp->VK->Prop:=fun xs H Q=>∃ x cv t c b,xs=[x,cv]/\ClsV cv c/\TyOf K H x t/\PySem.W.kitOne K t c=some b/\Q (.bl b) H
theorem zu1:zl2 X (.builtin "isinstance") (rIsi X.K):=by
 intro pins s σ H xs us Q I r h
 obtain ⟨x,cv,t,c,b,rfl,hc,ty,e,q⟩:=h
 obtain ⟨u,w',rfl,ru,rw'⟩:=zD6 r
 have ew:w'=c:=by
   cases hc with
   | ty n=>exact rw'
   | own C=>exact rw'
 subst ew
 exact isinst_ok I ru ty e fun tk=>⟨.bl b,H,I.tok tk,rfl,q⟩
/-! ### a list unpacked -/
theorem zw9 {prog:Program} {w:World} {A:Around} {E:Value->Shared->Prop} {it t:Addr} {items:Array Value} (hne:t≠it):∀ (n i:Nat) (s:Shared) (Q:List Value->Shared->Prop),s.heap.IsListIter it t i->s.heap.IsList t items->i+n<=items.size →
   (∀ h',h'.IsListIter it t (i+n)->Heap.SameBut it s.heap h'->Q ((items.toList.drop i).take n) { s with heap:=h' })->wpAny (model prog w) A (draw (.ref it) n) Q E s
 | 0,i,s,Q,hit,_,_,hQ=>by
   show wpAny _ _ (pure []) Q E s
   exact wpAny_pure (by simpa using hQ s.heap hit (Heap.SameBut.refl ..))
 | n+1,i,s,Q,hit,ht,hle,hQ=>by
   have hlt:i<items.size:=by omega
   show wpAny _ _ (pyNext (.ref it) >>= _) Q E s
   refine wpAny_bind (wpAny_pyNext_list_item hit ht (x:=items[i]) (by simp[hlt]) fun h1 hit1 hs1=>?_)
   refine wpAny_bind (wpAny_holding (zw9 hne n (i+1) _ _ hit1 (ht.extBut hs1.extBut hne) (by omega) fun h2 hit2 hs2=>wpAny_pure ?_))
   have hd:items.toList.drop i=items[i]::items.toList.drop (i+1):=by simp[List.drop_eq_getElem_cons,hlt]
   have:=hQ h2 (by rw[show i+(n+1)=i+1+n by omega];exact hit2) (hs1.trans hs2)
   rw[hd,List.take_succ_cons] at this
   exact this
theorem unpackItems_list {prog:Program} {w:World} {A:Around} {E:Value->Shared->Prop} {s:Shared} {t:Addr} {items:Array Value} {Q:List Value->Shared->Prop} (hh:A.handled=none) (ht:s.heap.IsList t items)
   (hQ:∀ h',Heap.ExtBut s.heap.objs.size s.heap h'->Q items.toList { s with heap:=h' }):wpAny (model prog w) A (unpackItems (.ref t) items.size none) Q E s:=by
 have hlt:t≠s.heap.objs.size:=by obtain ⟨o,ho,_⟩:=ht;exact Nat.ne_of_lt (Heap.lt_size ho)
 unfold unpackItems
 refine wpAny_bind ?_
 . unfold notIterableAtAll
   refine wpAny_bind (wpAny_specialOf ht.typeIs slot_list_iter.lookup ?_)
   refine wpAny_pure ?_
   simp only[Bool.false_eq_true,if_false]
   refine wpAny_bind (wpAny_holding (wpAny_pyIter_list ht ?_))
   refine wpAny_bind (wpAny_holding (zw9 hlt items.size 0 _ _ ⟨_,Heap.get?_push_size _ rfl,rfl,rfl⟩ (ht.push _) (by omega) fun h1 hit1 hs1=>?_))
   have hall:List.take items.size (List.drop 0 items.toList)=items.toList:=by
     rw[List.drop_zero];exact List.take_of_length_le (by simp)
   rw[hall]
   rw[if_neg (by simp)]
   have ht1:h1.IsList t items:=(ht.push _).extBut hs1.extBut hlt
   refine wpAny_bind (wpAny_holding (wpAny_pyNext_list_end hh hit1 ht1 (by simp) fun h2 he2=>?_))
   simp only[Option.isSome_none,Bool.false_eq_true,if_false]
   refine wpAny_pure (hQ h2 fun b o hb e=>he2 b o hb (hs1.extBut b o hb (Heap.get?_push_of_some _ e)))
noncomputable def gLst (K:PySem.W.Frag) (n:Nat) (t:TGs):TG:=fun v σ H Q=>∃ a xs,v = .ref a/\SqL K H a xs/\xs.length=n/\t xs σ H Q
theorem zG7 {es:List Expr} {k:Nat} {t:TGs} {n:Nat} {pos:Pos} (hc:X.calm=true) (h:PGs X es t)
   (hn:(assignEach es X.env).length=n:=by rfl) (hst:(assignEach es X.env).findIdx? (·.1)=none:=by rfl):PG X (.Tuple es k pos) (gLst X.K n t):=by
 intro pins s σ H v u Q I r hw
 obtain ⟨a,xs,e1,hq,hl,hw⟩:=hw
 subst e1
 cases r
 obtain ⟨its,rv,ht,hz⟩:=I.list hq
 have hln:=rv.length
 rw[assign_Tuple]
 refine wpAny_bind (wpAny_standAt ?_)
 unfold unpack
 have esz:(assignEach es X.env).length=its.toArray.size:=by rw[hn,<-hl,hln,List.size_toArray]
 rw[esz,hst]
 refine wpAny_bind (wpAny_holding (unpackItems_list (I.ok.hd hc) ht.isList fun h' hx=>?_))
 have I1:Inv X pins σ H { s with heap:=h' }:=I.kept (t':=s.toks) fun b o e=>hx b o (Nat.ne_of_lt (Heap.lt_size e)) e
 exact h pins _ σ H xs _ Q I1 (by simpa using rv) hw
/-! ### sum of a list of ints -/
theorem zn4:∀ {us:List Value} {ns:List Int},IntsAre us ns->∃ ps:List (Int×Tok),us=ps.map (fun p=>Value.int p.1 p.2)/\ps.map (·.1)=ns
 | _,_,.nil=>⟨[],rfl,rfl⟩
 | _,_,.cons n t h=>by
   obtain ⟨ps,e1,e2⟩:=zn4 h
   exact⟨(n,t)::ps,by rw[List.map_cons,e1],by rw[List.map_cons,e2]⟩
/-! ### a list or a tuple walked -/
noncomputable def iSeq (K:PySem.W.Frag) (tl:TE):TI:=fun σ H R=>tl σ H fun x H1=>∃ a,x = .ref a/\(((∃ xs,SqL K H1 a xs)/\R (Itl K a) H1)\/((∃ xs,SqT K H1 a xs)/\R (Itt K a) H1))
theorem pi_seq {tg l:Expr} {tl:TE} (hl:PE X l tl):PI X tg l (iSeq X.K tl):=by
 intro pins s σ H R I h
 refine thn (hl pins s σ H _ I h) fun v s1 ⟨x,H1,I1,r1,q1⟩=>?_
 obtain ⟨a,e,q⟩:=q1
 subst e
 cases r1
 rcases q with ⟨⟨xs,hq⟩,q⟩ | ⟨⟨xs,hq⟩,q⟩
 . obtain ⟨its,rv,p,hz⟩:=I1.list hq
   refine wpAny_pyIter_list p.isList ?_
   refine⟨s1.heap.objs.size,[s1.heap.objs.size],_,_,H1,rfl,I1.kept (t':=s1.toks) fun b o e=>Heap.get?_push_of_some _ e,zv9 a _,⟨_,Heap.get?_push_size _ rfl,rfl,rfl⟩,fun b hb=>?_,q⟩
   have e:b=s1.heap.objs.size:=by simpa using hb
   subst e
   exact I1.fpOk (Nat.le_refl _) (I1.hok.fresh (Nat.le_refl _))
 . obtain ⟨its,rv,p,hz⟩:=I1.tuple hq
   refine wpAny_pyIter_tuple (show s1.heap.IsTuple a its.toArray from p) ?_
   refine⟨s1.heap.objs.size,[s1.heap.objs.size],_,_,H1,rfl,I1.kept (t':=s1.toks) fun b o e=>Heap.get?_push_of_some _ e,zt4 a _,⟨_,Heap.get?_push_size _ rfl,rfl,rfl⟩,fun b hb=>?_,q⟩
   have e:b=s1.heap.objs.size:=by simpa using hb
   subst e
   exact I1.fpOk (Nat.le_refl _) (I1.hok.fresh (Nat.le_refl _))
/-! ### the text by places -/
noncomputable def stE:Stmt->Expr
 | .Assign _ v _=>v
 | .Return (some v) _=>v
 | .Expr v _=>v
 | _=>.Constant .none 0 ⟨0,0,0,0⟩
noncomputable def zI5 (e:Expr) (j:Nat):Expr:=match e with
 | .Call _ as _ _=>as.getD j (.Constant .none 0 ⟨0,0,0,0⟩)
 | _=>.Constant .none 0 ⟨0,0,0,0⟩
noncomputable def zz1:Expr->Scope
 | .ListComp _ _ sc _=>sc
 | _=>{ kind:=.function,names:=[],isGenerator:=false,isCoroutine:=false }
noncomputable def stAt (l:List Stmt) (i:Nat):Stmt:=l.getD i (.Pass ⟨0,0,0,0⟩)
end
end L2
/-! SMALL WORDS for readings -/
namespace L2
open PySem PySem.Spec PyProof.Rows
theorem iteB {c:Bool} {A B:Prop} (e:c=false) (h:B):if c=true then A else B:=by
 subst e;exact iteF h
theorem iteA {c:Bool} {A B:Prop} (e:c=true) (h:A):if c=true then A else B:=by
 subst e;exact iteT h
theorem zu2 {a lo hi:Int} (h1:lo<=a) (h2:a<=hi):(decide (a<lo) || decide (hi<a))=false:=by
 rw[decide_eq_false (by omega),decide_eq_false (by omega)];rfl
theorem zG8 {a b:Int} (h:b<=a):decide (a<b)=false:=decide_eq_false (by omega)
theorem fl0 {f:Str} {v:V}:(putF f v []).length<=1:=zh3 f v []
theorem flS {f:Str} {v:V} {fs:List (Str×V)} {k:Nat} (h:fs.length<=k):(putF f v fs).length<=k+1:=Nat.le_trans (zh3 f v fs) (Nat.succ_le_succ h)
theorem zl6 {fs:List (Str×V)} {k:Nat} (h:fs.length<=k) (hk:k<1000:=by decide):fs.length<1000:=Nat.lt_of_le_of_lt h hk
noncomputable def zi6 (p:Addr) (H H':Hp):Prop:=∀ b o,H b=some o->b≠p->H' b=some o
theorem Same.upd {H:Hp} {l:Addr} {o:HO} (h:H l=none):Same H (upd H l o):=fun b u e=>by
 rw[za7 (zb1 e h)];exact e
theorem Same.updT {H H1:Hp} {l:Addr} {o:HO} (s:Same H H1) (h:H1 l=none):Same H (L2.upd H1 l o):=s.trans (Same.upd h)
theorem Same.put {H H1:Hp} {l:Addr} {o:HO} (s:Same H H1) (h:H l=none):Same H (L2.upd H1 l o):=fun b u e=>by
 rw[za7 (zb1 e h)];exact s b u e
theorem upd_id {H:Hp} {m:Addr} {o:HO} (h:H m=some o):L2.upd H m o=H:=by
 funext b
 by_cases hb:b=m
 . subst hb;rw[za3,h]
 . rw[za7 hb]
/-! ### rules whose reading names the written part: for a comprehension's block -/
/-! ### ints in a list -/
theorem zu3 {xs:List Int} {i:Nat} {v:V} (h:(xs.map V.int)[i]?=some v):∃ z,v = .int z/\xs[i]?=some z:=by
 rw[List.getElem?_map] at h
 cases e:xs[i]? with
 | none=>rw[e] at h;cases h
 | some z=>rw[e] at h;exact⟨z,(Option.some.inj h).symm,rfl⟩
theorem zs6 {xs:List Int} {j:Nat} {z:Int} (h:xs[j]?=some z):atI (xs.map V.int) (j:Int)=some (V.int z):=atI_nat (by rw[List.getElem?_map,h];rfl)
theorem zu4 {xs:List Int} {i:Int} (h0:0<=i) (h1:i<xs.length):atI (xs.map V.int) i=some (.int (xs.getD i.toNat 0)):=by
 obtain ⟨j,rfl⟩:∃ j:Nat,i=j:=⟨i.toNat,by omega⟩
 have hj:j<xs.length:=by omega
 rw[zs6 (z:=xs[j]) (by simp[hj])]
 simp[hj]
theorem zi7 {a b:Int}:decide (V.int a=V.int b)=decide (a=b):=by
 by_cases h:a=b
 . subst h;simp
 . rw[decide_eq_false h,decide_eq_false];intro e;cases e;exact h rfl
/-! ### comprehensions that map -/
theorem comp_map {J:It} {H1:Hp} {D:Addr} {n:Nat} {x:Nat->V} {f:Nat->V} {j:Nat} {σc:St} {telt:TE} {Q:Hp->Prop} (hn:n<=sizeLine)
   (go:∀ i acc,i<n->J.go i (upd H1 D (.lst acc))) (st:∀ acc,J.stop n (upd H1 D (.lst acc))) (yl:∀ i acc v H',i<n->J.yld i (upd H1 D (.lst acc)) v H'->H'=upd H1 D (.lst acc)/\v=x i)
   (el:∀ i acc R,i<n->R (f i) (upd H1 D (.lst acc))->telt (σc.set j (some (x i))) (upd H1 D (.lst acc)) R) (q:Q (upd H1 D (.lst ((List.range n).map f)))) :
   ∃ W:Nat->Nat->St->Hp->Prop,(∃ m,W 0 m σc (upd H1 D (.lst []))) ∧
     ∀ i m σ' H',W i m σ' H'->(J.stop i H'/\Q H')\/(J.go i H'/\∃ N:St->Hp->Prop,(∀ σ2 H2,N σ2 H2->∃ m',m'<m/\W (i+1) m' σ2 H2) ∧
       ∀ v H2,J.yld i H' v H2->zo4 j v σ' H2 fun σ3 H3=>zw8 σ3 H3 fun b H4=>if b=true then zs1 D telt N σ3 H4 else N σ3 H4):=by
 refine⟨fun i m σ' H'=>m=n-i/\i<=n/\(∀ v,σ'.set j (some v)=σc.set j (some v))/\H'=upd H1 D (.lst ((List.range i).map f)),⟨n,by simp,Nat.zero_le _,fun _=>rfl,rfl⟩,?_⟩
 rintro i m σ' H' ⟨rfl,hi,hσ,rfl⟩
 by_cases hlt:i<n
 . refine .inr ⟨go i _ hlt,fun σ2 H2=>(∀ v,σ2.set j (some v)=σc.set j (some v))/\H2=upd H1 D (.lst ((List.range (i+1)).map f)),fun σ2 H2 ⟨h1,h2⟩=>⟨n-(i+1),by omega,rfl,hlt,h1,h2⟩,fun v H2 y=>?_⟩
   obtain ⟨rfl,rfl⟩:=yl i _ v H2 hlt y
   dsimp only[zo4,zw8]
   refine iteT ?_
   dsimp only[zs1]
   rw[hσ]
   refine el i _ _ hlt ⟨_,za3,?_,?_,?_⟩
   . rw[List.length_map,List.length_range];omega
   . intro v;simp
   . rw[zh0,List.range_succ,List.map_append];rfl
 . have e:i=n:=by omega
   subst e
   exact .inl ⟨st _,q⟩
theorem zz2 {K:PySem.W.Frag} {H:Hp} {a D:Addr} {xs:List V} {o:HO} (h:SqL K H a xs) (n:H D=none):SqL K (upd H D o) a xs:=(Same.upd n).seq h
theorem map_range_get {α β:Type} (xs:List α) (d:α) (f:α->β):(List.range xs.length).map (fun i=>f (xs.getD i d))=xs.map f:=by
 apply List.ext_getElem
 . simp
 . intro i h1 h2
   simp at h1 h2
   simp[h1]
theorem comp_list {K:PySem.W.Frag} {H1:Hp} {a D:Addr} {xs:List V} {f:V->V} {j:Nat} {σc:St} {telt:TE} {Q:Hp->Prop} (h:SqL K H1 a xs) (hD:H1 D=none) (hn:xs.length<=sizeLine)
   (el:∀ x acc R,x∈xs->R (f x) (upd H1 D (.lst acc))->telt (σc.set j (some x)) (upd H1 D (.lst acc)) R) (q:Q (upd H1 D (.lst (xs.map f)))) :
   ∃ W:Nat->Nat->St->Hp->Prop,(∃ m,W 0 m σc (upd H1 D (.lst []))) ∧
     ∀ i m σ' H',W i m σ' H'->((Itl K a).stop i H'/\Q H')\/((Itl K a).go i H'/\∃ N:St->Hp->Prop,(∀ σ2 H2,N σ2 H2->∃ m',m'<m/\W (i+1) m' σ2 H2) ∧
       ∀ v H2,(Itl K a).yld i H' v H2->zo4 j v σ' H2 fun σ3 H3=>zw8 σ3 H3 fun b H4=>if b=true then zs1 D telt N σ3 H4 else N σ3 H4):=by
 refine comp_map (J:=Itl K a) (n:=xs.length) (x:=fun i=>xs.getD i .non) (f:=fun i=>f (xs.getD i .non)) hn (fun i acc hi=>⟨xs,xs[i],zz2 h hD,by simp[hi]⟩) (fun acc=>⟨xs,zz2 h hD,Nat.le_refl _⟩) (fun i acc v H' hi y=>?_) (fun i acc R hi r=>?_) ?_
 . obtain ⟨e,y⟩:=y
   have:=y xs (zz2 h hD)
   exact⟨e,by rw[List.getD_eq_getElem?_getD,this];rfl⟩
 . refine el _ acc R ?_ r
   rw[List.getD_eq_getElem?_getD,List.getElem?_eq_getElem hi]
   exact List.getElem_mem hi
 . rw[map_range_get];exact q
end L2
/-! ZIP of two tuples,SUM of a list of ints -/
namespace L2
open PySem PySem.Spec PyProof.Rows
section
variable {prog:Program} {w:World} {A:Around} {E:Value->Shared->Prop} {s:Shared}
theorem zu5 {it l:Addr} {i:Nat} {its:Array Value} {x:Value} {Q:Value->Shared->Prop} (hit:s.heap.IsTupleIter it l i) (hl:s.heap.IsTuple l its) (hx:its[i]?=some x)
   (hQ:∀ h',h'.IsTupleIter it l (i+1)->Heap.SameBut it s.heap h'->Q x { s with heap:=h' }):wpAny (model prog w) A (Builtin.SmallTypes.nextOf (.ref it)) Q E s:=by
 obtain ⟨oi,hoi,hci,hdi⟩:=id hit
 obtain ⟨os,hos,_,ns,hds⟩:=hl
 unfold Builtin.SmallTypes.nextOf
 refine wpAny_bind (wpAny_callSpecial?_slot (name:=Str.ofString "__next__") hit.typeIs F.slot_tuple_iterator_next (wpAny_call_entry F.slot_tuple_iterator_next hit.typeIs F.entry_tuple_iterator_next ?_ (F.args_tuple_iterator_next_1 _)))
 show wpAny _ _ (field (.ref it) 0 >>= _) _ _ s
 refine wpAny_bind (wpAny_field hoi hdi (x:=.ref l) rfl ?_);show wpAny _ _ (if (Value.ref l == Value.none)=true then _ else _) _ _ s
 rw[if_neg (show ¬ ((Value.ref l == Value.none)=true) from Bool.false_ne_true)];show wpAny _ _ (field (.ref it) 1 >>= _) _ _ s
 refine wpAny_bind (wpAny_field hoi hdi (x:=.int i 0) rfl ?_);show wpAny _ _ (seqItems? (.ref l) >>= _) _ _ s
 refine wpAny_bind (wpAny_seqItems hos hds ?_);simp only[Int.toNat_natCast,hx]
 refine wpAny_bind (wpAny_setField hoi hdi (by simp) (wpAny_pure ⟨x,rfl,wpAny_pure (hQ _ ?_ (Heap.SameBut.update ..))⟩))
 refine⟨_,Heap.get?_update_self _ hoi (Obj.isFreed_of_fields (Obj.data_mapFields hdi _)),(Obj.cls_mapFields ..).trans hci,?_⟩;rw[Obj.data_mapFields hdi];simp[rawInt]
theorem nextOf_tup_end {it l:Addr} {i:Nat} {its:Array Value} {Q:Value->Shared->Prop} (hh:A.handled=none) (hit:s.heap.IsTupleIter it l i) (hl:s.heap.IsTuple l its) (hx:its[i]?=none)
   (hE:∀ h' e,Heap.ExtBut it s.heap h'->(∃ o,h'.get? e=some o/\o.cls = .type "StopIteration")->E (.ref e) { s with heap:=h' }):wpAny (model prog w) A (Builtin.SmallTypes.nextOf (.ref it)) Q E s:=by
 obtain ⟨oi,hoi,hci,hdi⟩:=id hit
 obtain ⟨os,hos,_,ns,hds⟩:=hl
 unfold Builtin.SmallTypes.nextOf
 refine wpAny_bind (wpAny_callSpecial?_slot (name:=Str.ofString "__next__") hit.typeIs F.slot_tuple_iterator_next (wpAny_call_entry F.slot_tuple_iterator_next hit.typeIs F.entry_tuple_iterator_next ?_ (F.args_tuple_iterator_next_1 _)))
 show wpAny _ _ (field (.ref it) 0 >>= _) _ _ s
 refine wpAny_bind (wpAny_field hoi hdi (x:=.ref l) rfl ?_);show wpAny _ _ (if (Value.ref l == Value.none)=true then _ else _) _ _ s
 rw[if_neg (show ¬ ((Value.ref l == Value.none)=true) from Bool.false_ne_true)];show wpAny _ _ (field (.ref it) 1 >>= _) _ _ s
 refine wpAny_bind (wpAny_field hoi hdi (x:=.int i 0) rfl ?_);show wpAny _ _ (seqItems? (.ref l) >>= _) _ _ s
 refine wpAny_bind (wpAny_seqItems hos hds ?_);simp only[Int.toNat_natCast,hx]
 refine wpAny_bind (wpAny_rule (wpAny_bind (wpAny_setField hoi hdi (by simp) ?_)));show wpAny _ _ (newExc (.type "StopIteration") [] >>= _) _ _ _
 refine wpAny_bind ?_;simp only[newExc,newTuple]
 refine wpAny_bind (wpAny_newObj_type ?_ (by size_fits))
 refine wpAny_bind (m:=firstArgMember _ _) (wpAny_of_eq (a:=Value.none) (by first | rfl | (simp only[firstArgMember];rfl)) ?_)
 refine wpAny_newObj_type ?_ (by size_fits);simp only[raiseNew]
 refine wpAny_bind (wpAny_handled ?_);first | rw[show A.in1.handled=none from hh] | rw[hh]
 refine wpAny_bind (wpAny_pure (wpAny_throw ?_))
 exact hE _ _ (((Heap.SameBut.update ..).extBut.push _).push _) ⟨_,Heap.get?_push_size _ rfl,rfl⟩
structure zC9 (z TI TO i1 i2:Addr):Prop where
 TIz:TI≠z
 TOz:TO≠z
 i1z:i1≠z
 i2z:i2≠z
 TITO:TI≠TO
 TIi1:TI≠i1
 TIi2:TI≠i2
 TOi1:TO≠i1
 TOi2:TO≠i2
 i12:i1≠i2
structure ZAt (h:Heap) (z TI TO i1 i2 l1 l2:Addr) (f0:Value) (i:Nat):Prop where
 hz:IsZip h z TI TO f0
 hTI:IsPair h TI (.ref i1) (.ref i2)
 hTO:∃ a b,IsPair h TO a b
 h1:h.IsTupleIter i1 l1 i
 h2:h.IsTupleIter i2 l2 i
theorem zip_item {z TI TO i1 i2 l1 l2:Addr} {k:Nat} {xs ys:Array Value} {x y:Value} {Q:Option Value->Shared->Prop} (D:zC9 z TI TO i1 i2) (L:∀ l,l=l1\/l=l2->l≠z/\l≠TO/\l≠i1/\l≠i2) (Z:ZAt s.heap z TI TO i1 i2 l1 l2 .none k)
   (hl1:s.heap.IsTuple l1 xs) (hl2:s.heap.IsTuple l2 ys) (hx:xs[k]?=some x) (hy:ys[k]?=some y)
   (hQ:∀ h',ZAt h' z TI TO i1 i2 l1 l2 (rawInt s.heap.objs.size) (k+1)->IsPair h' s.heap.objs.size x y →
     (∀ c o,c≠z->c≠TO->c≠i1->c≠i2->s.heap.get? c=some o->h'.get? c=some o)->Q (some (.ref s.heap.objs.size)) { s with heap:=h' }) :
   wpAny (model prog w) A (pyNext (.ref z)) Q E s:=by
 obtain ⟨hz,hTI,⟨a,b,hTO⟩,h1,h2⟩:=Z
 obtain ⟨l1z,l1TO,l1i1,l1i2⟩:=L l1 (.inl rfl)
 obtain ⟨l2z,l2TO,l2i1,l2i2⟩:=L l2 (.inr rfl)
 have hT:s.TypeIs (.ref z) "zip":=⟨_,hz,rfl⟩
 unfold pyNext
 refine wpAny_bind (wpAny_attempt (wpAny_callSpecial?_slot (name:=Str.ofString "__next__") hT F.slot_zip_next (wpAny_call_entry F.slot_zip_next hT F.entry_zip_next ?_ (F.args_zip_next_1 _))))
 show wpAny _ _ (field (.ref z) 2 >>= _) _ _ _
 refine wpAny_bind (wpAny_field hz rfl (x:=.bool false) rfl ?_);show wpAny _ _ (field (.ref z) 3 >>= _) _ _ _
 refine wpAny_bind (wpAny_field hz rfl (x:=.ref TI) rfl ?_)
 refine wpAny_bind (wpAny_seqItems hTI rfl ?_);show wpAny _ _ (Builtin.SmallTypes.ownedTupleIsFree (.ref z) >>= _) _ _ _
 refine wpAny_bind ?_;unfold Builtin.SmallTypes.ownedTupleIsFree
 refine wpAny_bind (wpAny_field hz rfl (x:=.none) rfl (wpAny_pure ?_));simp only[if_true]
 refine wpAny_bind (wpAny_rule (wpAny_bind (wpAny_field hz rfl (x:=.ref TO) rfl ?_)))
 refine wpAny_bind (wpAny_setField_rec hz (by simp) fun g1 z1 e1=>?_)
 replace z1:IsZip g1 z TI TO .ellipsis:=z1
 refine wpAny_bind ?_;simp only[List.zipIdx_cons,List.zipIdx_nil,List.forIn_cons,List.forIn_nil]
 refine wpAny_bind (wpAny_bind (wpAny_onRaise ?_));show wpAny _ _ (Builtin.SmallTypes.nextOf (.ref i1) >>= _) _ _ _
 refine wpAny_bind (zu5 (h1.extBut e1.extBut D.i1z) (hl1.extBut e1.extBut l1z) hx fun g2 j1 e2=>wpAny_pure ?_)
 have t2:IsPair g2 TO a b:=e2.extBut _ _ D.TOi1 (e1.extBut _ _ D.TOz hTO)
 refine wpAny_bind (wpAny_seqItems t2 rfl (wpAny_bind (wpAny_updateSeq_pair t2 fun g3 t3 e3=>?_)))
 replace t3:IsPair g3 TO x b:=t3
 refine wpAny_bind (wpAny_letGo (wpAny_pure ?_))
 refine wpAny_bind (wpAny_bind (wpAny_onRaise ?_));show wpAny _ _ (Builtin.SmallTypes.nextOf (.ref i2) >>= _) _ _ _
 refine wpAny_bind (zu5 (((h2.extBut e1.extBut D.i2z).extBut e2.extBut D.i12.symm).extBut e3.extBut D.TOi2.symm) (((hl2.extBut e1.extBut l2z).extBut e2.extBut l2i1).extBut e3.extBut l2TO) hy fun g4 j2 e4=>wpAny_pure ?_)
 have t4:IsPair g4 TO x b:=e4.extBut _ _ D.TOi2 t3
 refine wpAny_bind (wpAny_seqItems t4 rfl (wpAny_bind (wpAny_updateSeq_pair t4 fun g5 t5 e5=>?_)))
 replace t5:IsPair g5 TO x y:=t5
 refine wpAny_bind (wpAny_letGo (wpAny_pure (wpAny_pure ?_)))
 refine wpAny_bind (wpAny_seqItems t5 rfl (wpAny_bind (wpAny_newTuple ?_)))
 have sz:g5.objs.size=s.heap.objs.size:=by rw[e5.1,e4.1,e3.1,e2.1,e1.1]
 have z5:IsZip g5 z TI TO .ellipsis:=e5.extBut _ _ D.TOz.symm (e4.extBut _ _ D.i2z.symm (e3.extBut _ _ D.TOz.symm (e2.extBut _ _ D.i1z.symm z1)))
 have k5:∀ c o,c≠z->c≠TO->c≠i1->c≠i2->s.heap.get? c=some o->g5.get? c=some o:=fun c o c1 c2 c3 c4 e=>e5.extBut _ _ c2 (e4.extBut _ _ c4 (e3.extBut _ _ c2 (e2.extBut _ _ c3 (e1.extBut _ _ c1 e))))
 have m1:g5.IsTupleIter i1 l1 (k+1):=((j1.extBut e3.extBut D.TOi1.symm).extBut e4.extBut D.i12).extBut e5.extBut D.TOi1.symm
 have m2:g5.IsTupleIter i2 l2 (k+1):=j2.extBut e5.extBut D.TOi2.symm
 have zl:z<g5.objs.size:=Heap.lt_size z5
 show wpAny _ _ (Builtin.SmallTypes.ownedTupleHandOut (.ref z) (.ref g5.objs.size) >>= _) _ _ _
 refine wpAny_bind ?_;unfold Builtin.SmallTypes.ownedTupleHandOut
 have z6:IsZip (g5.push { cls:=.type "tuple",data:=.seq #[x,y] }) z TI TO .ellipsis:=Heap.get?_push_of_some _ z5
 refine wpAny_bind (wpAny_setField_rec z6 (by simp) fun g7 z7 e7=>?_)
 replace z7:IsZip g7 z TI TO (rawInt g5.objs.size):=z7
 refine wpAny_setField_rec z7 (by simp) fun g8 z8 e8=>?_
 replace z8:IsZip g8 z TI TO (rawInt g5.objs.size):=z8
 have up:∀ c o,c≠z->g5.get? c=some o->g8.get? c=some o:=fun c o c1 e=>e8.extBut _ _ c1 (e7.extBut _ _ c1 (Heap.get?_push_of_some _ e))
 have t8:IsPair g8 g5.objs.size x y:=e8.extBut _ _ (Nat.ne_of_gt zl) (e7.extBut _ _ (Nat.ne_of_gt zl) (Heap.get?_push_size _ rfl))
 rw[sz] at z8 t8
 refine wpAny_pure ⟨_,rfl,wpAny_pure ?_⟩
 show Q (some (.ref g5.objs.size)) _
 rw[sz]
 have at1:∀ {it l:Addr} {i:Nat},g5.IsTupleIter it l i->it≠z->g8.IsTupleIter it l i:=fun q ne=>let ⟨o,ho,r⟩:=q;⟨o,up _ o ne ho,r⟩
 exact hQ g8 ⟨z8,up _ _ D.TIz (k5 _ _ D.TIz D.TITO D.TIi1 D.TIi2 hTI),⟨x,y,up _ _ D.TOz t5⟩,at1 m1 D.i1z,at1 m2 D.i2z⟩ t8 fun c o c1 c2 c3 c4 e=>up c o c1 (k5 c o c1 c2 c3 c4 e)
theorem zip_end {z TI TO i1 i2 l1 l2:Addr} {k:Nat} {xs:Array Value} {Q:Option Value->Shared->Prop} (hh:A.handled=none) (D:zC9 z TI TO i1 i2) (L:l1≠z) (Z:ZAt s.heap z TI TO i1 i2 l1 l2 .none k)
   (hl1:s.heap.IsTuple l1 xs) (hx:xs[k]?=none)
   (hQ:∀ h',(∀ c o,c≠z->c≠TO->c≠i1->c≠i2->s.heap.get? c=some o->h'.get? c=some o)->Q none { s with heap:=h' }):wpAny (model prog w) A (pyNext (.ref z)) Q E s:=by
 obtain ⟨hz,hTI,⟨a,b,hTO⟩,h1,h2⟩:=Z
 have hT:s.TypeIs (.ref z) "zip":=⟨_,hz,rfl⟩
 unfold pyNext
 refine wpAny_bind (wpAny_attempt (wpAny_callSpecial?_slot (name:=Str.ofString "__next__") hT F.slot_zip_next (wpAny_call_entry F.slot_zip_next hT F.entry_zip_next ?_ (F.args_zip_next_1 _))))
 show wpAny _ _ (field (.ref z) 2 >>= _) _ _ _
 refine wpAny_bind (wpAny_field hz rfl (x:=.bool false) rfl ?_);show wpAny _ _ (field (.ref z) 3 >>= _) _ _ _
 refine wpAny_bind (wpAny_field hz rfl (x:=.ref TI) rfl ?_)
 refine wpAny_bind (wpAny_seqItems hTI rfl ?_);show wpAny _ _ (Builtin.SmallTypes.ownedTupleIsFree (.ref z) >>= _) _ _ _
 refine wpAny_bind ?_;unfold Builtin.SmallTypes.ownedTupleIsFree
 refine wpAny_bind (wpAny_field hz rfl (x:=.none) rfl (wpAny_pure ?_));simp only[if_true]
 refine wpAny_bind (wpAny_rule (wpAny_bind (wpAny_field hz rfl (x:=.ref TO) rfl ?_)))
 refine wpAny_bind (wpAny_setField_rec hz (by simp) fun g1 z1 e1=>?_)
 replace z1:IsZip g1 z TI TO .ellipsis:=z1
 refine wpAny_bind ?_;simp only[List.zipIdx_cons,List.zipIdx_nil,List.forIn_cons,List.forIn_nil]
 refine wpAny_bind (wpAny_bind (wpAny_onRaise ?_));show wpAny _ _ (Builtin.SmallTypes.nextOf (.ref i1) >>= _) _ _ _
 refine wpAny_bind (nextOf_tup_end hh (h1.extBut e1.extBut D.i1z) (hl1.extBut e1.extBut L) hx fun g2 e e2 he=>?_)
 obtain ⟨oe,hoe,hce⟩:=he
 have z2:IsZip g2 z TI TO .ellipsis:=e2 _ _ D.i1z.symm z1
 have nez:e≠z:=fun q=>by subst q;rw[z2] at hoe;cases hoe;simp at hce
 refine wpAny_setField_rec z2 (by simp) fun g3 _ e3=>?_
 refine wpAny_bind (wpAny_isInstance (T:="StopIteration") (b:=true) ⟨oe,e3.extBut _ _ nez hoe,hce⟩ isSubtype_stop ?_)
 exact wpAny_pure (hQ _ fun c o c1 _ c3 _ q=>e3.extBut _ _ c1 (e2 _ _ c3 (e1.extBut _ _ c1 q)))
noncomputable abbrev zp1 (h:Heap) (l1:Addr):Heap:=h.push { cls:=.type "tuple_iterator",data:=.fields #[.ref l1,.int 0 0] }
noncomputable abbrev zp2 (h:Heap) (l1 l2:Addr):Heap:=(zp1 h l1).push { cls:=.type "tuple_iterator",data:=.fields #[.ref l2,.int 0 0] }
noncomputable abbrev zp3 (h:Heap) (l1 l2:Addr):Heap:=(zp2 h l1 l2).push { cls:=.type "tuple",data:=.seq #[.ref h.objs.size,.ref (zp1 h l1).objs.size] }
noncomputable abbrev zp4 (h:Heap) (l1 l2:Addr):Heap:=(zp3 h l1 l2).push { cls:=.type "tuple",data:=.seq #[.none,.none] }
noncomputable abbrev zp5 (h:Heap) (l1 l2:Addr):Heap:=(zp4 h l1 l2).push { cls:=.type "zip",data:=.fields #[.none,.bool false,.bool false,.ref (zp2 h l1 l2).objs.size,.ref (zp3 h l1 l2).objs.size] }
theorem zip_made (l1 l2:Addr) (xs ys:Array Value) :
   Meets (Builtin.«zip.__new__» ⟨[.type "zip",.ref l1,.ref l2],[]⟩) (fun _ R s=>s.heap.IsTuple l1 xs/\s.heap.IsTuple l2 ys/\R (.ok (.ret (.ref (zp4 s.heap l1 l2).objs.size))) { s with heap:=zp5 s.heap l1 l2 }) :=
 .of_wp fun prog w A R s h=>by
   obtain ⟨hp,g,d,tk,os⟩:=s
   obtain ⟨hl1,hl2,h⟩:=h
   have hsub:=sub_zip
   have q1:Heap.IsTuple (Shared.heap ⟨hp,g,d,tk,os⟩) l1 xs:=hl1
   have q2:Heap.IsTuple (Shared.heap ⟨hp.push { cls:=.type "tuple_iterator",data:=.fields #[.ref l1,.int 0 0] },g,d,tk,os⟩) l2 ys:=Heap.IsTuple.push hl2 _
   wp_walk using wpAny_pyIter_tuple q1,wpAny_pyIter_tuple q2
   exact⟨_,rfl,h⟩
theorem zip_call {l1 l2:Addr} {xs ys:Array Value} {Q:Value->Shared->Prop} (hl1:s.heap.IsTuple l1 xs) (hl2:s.heap.IsTuple l2 ys)
   (h:∀ h',ZAt h' (s.heap.objs.size+4) (s.heap.objs.size+2) (s.heap.objs.size+3) s.heap.objs.size (s.heap.objs.size+1) l1 l2 .none 0 →
     (∀ c o,s.heap.get? c=some o->h'.get? c=some o)->Q (.ref (s.heap.objs.size+4)) { s with heap:=h' }):wpAny (model prog w) A (call (.type "zip") [.ref l1,.ref l2]) Q E s:=by
 refine callType_new F.called_zip (by decide) (F.typeCall_zip_2 _ _) (F.newCall_zip_2 _ _) (fun obj=>F.args_object_init_3 obj _ _) F.entry_zip_new (zip_made l1 l2 xs ys) ⟨hl1,hl2,?_⟩
 have n1:(zp1 s.heap l1).objs.size=s.heap.objs.size+1:=Heap.size_push ..
 have n2:(zp2 s.heap l1 l2).objs.size=s.heap.objs.size+2:=by rw[Heap.size_push,n1]
 have n3:(zp3 s.heap l1 l2).objs.size=s.heap.objs.size+3:=by rw[Heap.size_push,n2]
 have n4:(zp4 s.heap l1 l2).objs.size=s.heap.objs.size+4:=by rw[Heap.size_push,n3]
 have p5:(zp5 s.heap l1 l2).get? (zp4 s.heap l1 l2).objs.size=some _:=Heap.get?_push_size _ rfl
 have p4:(zp5 s.heap l1 l2).get? (zp3 s.heap l1 l2).objs.size=some _:=Heap.get?_push_of_some _ (Heap.get?_push_size _ rfl)
 have p3:(zp5 s.heap l1 l2).get? (zp2 s.heap l1 l2).objs.size=some _:=Heap.get?_push_of_some _ (Heap.get?_push_of_some _ (Heap.get?_push_size _ rfl))
 have p2:(zp5 s.heap l1 l2).get? (zp1 s.heap l1).objs.size=some _:=Heap.get?_push_of_some _ (Heap.get?_push_of_some _ (Heap.get?_push_of_some _ (Heap.get?_push_size _ rfl)))
 have p1:(zp5 s.heap l1 l2).get? s.heap.objs.size=some _:=Heap.get?_push_of_some _ (Heap.get?_push_of_some _ (Heap.get?_push_of_some _ (Heap.get?_push_of_some _ (Heap.get?_push_size _ rfl))))
 show _/\_
 rw[n2,n3,n4] at p5
 rw[n1,n2] at p3
 rw[n3] at p4
 rw[n1] at p2
 rw[n4]
 refine⟨⟨_,p5,rfl⟩,h _ ⟨p5,p3,⟨_,_,p4⟩,⟨_,p1,rfl,rfl⟩,⟨_,p2,rfl,rfl⟩⟩ fun c o x=>?_⟩
 exact Heap.get?_push_of_some _ (Heap.get?_push_of_some _ (Heap.get?_push_of_some _ (Heap.get?_push_of_some _ (Heap.get?_push_of_some _ x))))
end
/-! ### a zip walked -/
noncomputable def Itz (l1 l2:Addr):It :=
 ⟨fun i H=>∃ xs ys x y,H l1=some (.tup xs)/\H l2=some (.tup ys)/\xs[i]?=some x/\ys[i]?=some y,
  fun i H v H'=>∃ p xs ys x y,H p=none/\v = .ref p/\H l1=some (.tup xs)/\H l2=some (.tup ys)/\xs[i]?=some x/\ys[i]?=some y/\H'=upd H p (.tup [x,y]),
  fun i H=>∃ xs ys,H l1=some (.tup xs)/\H l2=some (.tup ys)/\xs.length<=i⟩
theorem turn_zip {P:Program} {w:World} {K:PySem.W.Frag} {es:List Expr} {k0:Nat} {tp:Pos} {l1 l2 z TI TO i1 i2:Addr} (D:zC9 z TI TO i1 i2) :
   Turn P w K (.Tuple es k0 tp) (Itz l1 l2) [z,TI,TO,i1,i2] z (fun i h=>ZAt h z TI TO i1 i2 l1 l2 .none i) where
 mem:=by simp
 obj:=fun i h Z b hb=>by
   obtain ⟨hz,hTI,⟨a,c,hTO⟩,⟨o1,e1,c1,d1⟩,⟨o2,e2,c2,d2⟩⟩:=Z
   simp only[List.mem_cons,List.not_mem_nil,or_false] at hb
   rcases hb with rfl | rfl | rfl | rfl | rfl
   . exact⟨_,hz,fun v q=>by cases (show Data.fields _=Data.cell v from q)⟩
   . exact⟨_,hTI,fun v q=>by cases (show Data.seq _ _=Data.cell v from q)⟩
   . exact⟨_,hTO,fun v q=>by cases (show Data.seq _ _=Data.cell v from q)⟩
   . exact⟨o1,e1,fun v q=>by rw[d1] at q;cases q⟩
   . exact⟨o2,e2,fun v q=>by rw[d2] at q;cases q⟩
 keep:=fun i h h' Z k=>by
   obtain ⟨hz,hTI,⟨a,c,hTO⟩,⟨o1,e1,r1⟩,⟨o2,e2,r2⟩⟩:=Z
   exact⟨k z (by simp) _ hz,k TI (by simp) _ hTI,⟨a,c,k TO (by simp) _ hTO⟩,⟨o1,k i1 (by simp) _ e1,r1⟩,⟨o2,k i2 (by simp) _ e2,r2⟩⟩
 item:=by
   intro X hP hw hK hc i pins s σ H E I hf Z hg
   subst hP hw hK
   obtain ⟨xs,ys,x,y,hx,hy,ex,ey⟩:=hg
   obtain ⟨_,vx,rx,tx⟩:=I.hok l1 _ hx
   obtain ⟨_,vy,ry,ty⟩:=I.hok l2 _ hy
   obtain ⟨u,hu,ru⟩:=rx.get ex
   obtain ⟨v,hv,rv⟩:=ry.get ey
   have hfree:∀ b∈[z,TI,TO,i1,i2],H b=none:=fun b hb=>(hf b hb).1
   have L:∀ l,l=l1\/l=l2->l≠z/\l≠TO/\l≠i1/\l≠i2:=fun l hl=>by
     have hs:∃ o,H l=some o:=by
       rcases hl with e | e
       . exact⟨_,by rw[e];exact hx⟩
       . exact⟨_,by rw[e];exact hy⟩
     obtain ⟨o,ho⟩:=hs
     exact⟨zb1 ho (hfree z (by simp)),zb1 ho (hfree TO (by simp)),zb1 ho (hfree i1 (by simp)),zb1 ho (hfree i2 (by simp))⟩
   refine zip_item D L Z (show s.heap.IsTuple l1 vx.toArray from tx.isTup) (show s.heap.IsTuple l2 vy.toArray from ty.isTup) (x:=u) (y:=v) (by simpa using hu) (by simpa using hv) fun h' Z' hp kk=>?_
   refine⟨_,rfl,wpAny_letOwnedTupleGo_zip Z'.hz fun h2 hz2 sb=>?_⟩
   have kk2:∀ c o,c∉[z,TO,i1,i2]->s.heap.get? c=some o->h2.get? c=some o:=fun c o hc e=>sb.extBut _ _ (fun q=>hc (by simp[q])) (kk c o (fun q=>hc (by simp[q])) (fun q=>hc (by simp[q])) (fun q=>hc (by simp[q])) (fun q=>hc (by simp[q])) e)
   have nb:∀ c o,H c=some o->c∉[z,TO,i1,i2]:=fun c o e hm=>by
     have:H c=none:=hfree c (by simp only[List.mem_cons,List.not_mem_nil,or_false] at hm ⊢;rcases hm with q | q | q | q<;>simp[q])
     rw[this] at e;cases e
   have zlt:z<s.heap.objs.size:=Heap.lt_size Z.hz
   have hp2:IsPair h2 s.heap.objs.size u v:=sb.extBut _ _ (Nat.ne_of_gt zlt) hp
   have fr:H s.heap.objs.size=none:=I.fresh
   have I2:Inv X pins σ (upd H s.heap.objs.size (.tup [x,y])) { s with heap:=h2 }:=by
     refine I.step (g':=s.gens) (d':=s.drawn) (t':=s.toks) (ch:=[z,TO,i1,i2]) (fun b hb=>?_) (fun b o _ _ hc e _=>kk2 b o hc e) (fun b o _ _ hc e _=>⟨o.slots,kk2 b o hc e⟩)
       (fun b o _ e n=>by rw[za7 (Nat.ne_of_lt (Heap.lt_size e))];exact n)
       (fun b o hc e=>⟨o,kk2 b o hc e⟩) (fun b zs e=>by rw[za7 (zb1 e fr)];exact e) (fun b o zs e=>by rw[za7 (zb1 e fr)];exact e) (fun b ps e=>⟨#[],by rw[za7 (zb1 e fr),e];simp⟩) (fun m hm=>?_) (fun b o e=>?_) I.bare
     . obtain ⟨f0,f1,f2,f3,f4,f5⟩:=hf b (by simp only[List.mem_cons,List.not_mem_nil,or_false] at hb ⊢;rcases hb with q | q | q | q<;>simp[q])
       exact⟨f3,f1,f4,f5⟩
     . obtain ⟨o,es',ep,ho,r⟩:=hm
       refine⟨o,es',ep,kk2 _ o (fun hm=>?_) ho,r⟩
       exact (hf X.env.locals (by simp only[List.mem_cons,List.not_mem_nil,or_false] at hm ⊢;rcases hm with q | q | q | q<;>simp[q])).2.1 rfl
     . by_cases hb:b=s.heap.objs.size
       . subst hb
         rw[za3] at e
         cases e
         exact⟨(by show 2<=sizeLine;decide),[u,v],.cons ru (.cons rv .nil),⟨_,hp2,rfl,rfl,_,rfl⟩⟩
       . rw[za7 hb] at e
         refine (I.hok b o e).stay (fun c v hc q=>kk2 c v ?_ q) (fun c q=>by rw[za7 (zb1 q fr)];exact q) fun c zs q=>by rw[za7 (zb1 q fr)];exact q
         rcases hc with rfl | hc
         . exact nb _ _ e
         . exact nb _ _ hc
   exact⟨.ref s.heap.objs.size,_,I2,rfl,⟨_,xs,ys,x,y,fr,rfl,hx,hy,ex,ey,rfl⟩,⟨hz2,sb.extBut _ _ D.TIz Z'.hTI,(let ⟨a,c,q⟩:=Z'.hTO;⟨a,c,sb.extBut _ _ D.TOz q⟩),Z'.h1.extBut sb.extBut D.i1z,Z'.h2.extBut sb.extBut D.i2z⟩,fun b hb=>by
     rw[za7]
     . exact hfree b hb
     . obtain ⟨o,e,_⟩:∃ o,s.heap.get? b=some o/\True:=by
         simp only[List.mem_cons,List.not_mem_nil,or_false] at hb
         obtain ⟨hz,hTI,⟨a,c,hTO⟩,⟨o1,e1,_⟩,⟨o2,e2,_⟩⟩:=Z
         rcases hb with rfl | rfl | rfl | rfl | rfl
         . exact⟨_,hz,trivial⟩
         . exact⟨_,hTI,trivial⟩
         . exact⟨_,hTO,trivial⟩
         . exact⟨_,e1,trivial⟩
         . exact⟨_,e2,trivial⟩
       exact Nat.ne_of_lt (Heap.lt_size e)⟩
 done:=by
   intro X hP hw hK hc i pins s σ H E I hf Z hg
   subst hP hw hK
   obtain ⟨xs,ys,hx,hy,hle⟩:=hg
   obtain ⟨_,vx,rx,tx⟩:=I.hok l1 _ hx
   have hln:=rx.length
   have hfree:∀ b∈[z,TI,TO,i1,i2],H b=none:=fun b hb=>(hf b hb).1
   refine zip_end (I.ok.hd hc) D (zb1 hx (hfree z (by simp))) Z (show s.heap.IsTuple l1 vx.toArray from tx.isTup) (by simp;omega) fun h' kk=>⟨rfl,?_⟩
   have kk2:∀ c o,c∉[z,TO,i1,i2]->s.heap.get? c=some o->h'.get? c=some o:=fun c o hc e=>kk c o (fun q=>hc (by simp[q])) (fun q=>hc (by simp[q])) (fun q=>hc (by simp[q])) (fun q=>hc (by simp[q])) e
   have nb:∀ c o,H c=some o->c∉[z,TO,i1,i2]:=fun c o e hm=>by
     have:H c=none:=hfree c (by simp only[List.mem_cons,List.not_mem_nil,or_false] at hm ⊢;rcases hm with q | q | q | q<;>simp[q])
     rw[this] at e;cases e
   refine I.step (g':=s.gens) (d':=s.drawn) (t':=s.toks) (ch:=[z,TO,i1,i2]) (fun b hb=>?_) (fun b o _ _ hc e _=>kk2 b o hc e) (fun b o _ _ hc e _=>⟨o.slots,kk2 b o hc e⟩) (fun _ _ _ _ n=>n)
     (fun b o hc e=>⟨o,kk2 b o hc e⟩) (fun _ _ e=>e) (fun _ _ _ e=>e) (fun b ps e=>⟨#[],by rw[e];simp⟩) (fun m hm=>?_) (fun b o e=>?_) I.bare
   . obtain ⟨f0,f1,f2,f3,f4,f5⟩:=hf b (by simp only[List.mem_cons,List.not_mem_nil,or_false] at hb ⊢;rcases hb with q | q | q | q<;>simp[q])
     exact⟨f3,f1,f4,f5⟩
   . obtain ⟨o,es',ep,ho,r⟩:=hm
     refine⟨o,es',ep,kk2 _ o (fun hm=>?_) ho,r⟩
     exact (hf X.env.locals (by simp only[List.mem_cons,List.not_mem_nil,or_false] at hm ⊢;rcases hm with q | q | q | q<;>simp[q])).2.1 rfl
   . refine (I.hok b o e).stay (fun c v hc q=>kk2 c v ?_ q) (fun _ q=>q) fun _ _ q=>q
     rcases hc with rfl | hc
     . exact nb _ _ e
     . exact nb _ _ hc
 self:=fun _ _ _ _ _ Z h=>wpAny_pyIter_zip Z.hz h
section
variable {X:Cx} {es:List Expr} {k0:Nat} {tp:Pos}
noncomputable def iZip (ta:TA):TI:=fun σ H R=>ta σ H fun vs H1=>∃ l1 l2 xs ys,vs=[.ref l1,.ref l2]/\H1 l1=some (.tup xs)/\H1 l2=some (.tup ys)/\R (Itz l1 l2) H1
theorem pi_zip {a b:Expr} {ta:TA} {p pos:Pos} (hg:Gl X "zip") (hm:X.mg "zip" = none) (ha:PA X [a,b] ta) (hs:starEach [a,b] X.env=[(false,eval a X.env),(false,eval b X.env)]:=by rfl) (hs2:starEach [b] X.env=[(false,eval b X.env)]:=by rfl) :
   PI X (.Tuple es k0 tp) (.Call (.Name "zip" p) [a,b] [] pos) (iZip ta):=by
 intro pins s σ H R I h
 refine Call_ (zt3 I hg hm boot_zip (PyProof.Rows.callWith_type1 (thn (ha pos pins s σ H _ I h) fun us s1 ⟨vs,H1,I1,r1,q1⟩=>?_) (by rw[hs,hs2]) (by rw[hs2];rfl)))
 obtain ⟨l1,l2,xs,ys,e,hx,hy,q⟩:=q1
 subst e
 obtain ⟨u1,u2,rfl,r1',r2'⟩:=zD6 r1
 cases r1'
 cases r2'
 obtain ⟨_,vx,rx,tx⟩:=I1.hok l1 _ hx
 obtain ⟨_,vy,ry,ty⟩:=I1.hok l2 _ hy
 refine zip_call (show s1.heap.IsTuple l1 vx.toArray from tx.isTup) (show s1.heap.IsTuple l2 vy.toArray from ty.isTup) fun h' Z kk=>?_
 refine wpAny_pyIter_zip Z.hz ?_
 have I2:Inv X pins σ H1 { s1 with heap:=h' }:=I1.kept (t':=s1.toks) kk
 have ne:∀ i j:Nat,i≠j->s1.heap.objs.size+i≠s1.heap.objs.size+j:=fun i j hij=>by omega
 refine⟨_,_,_,_,H1,rfl,I2,turn_zip (es:=es) (k0:=k0) (tp:=tp) (TI:=s1.heap.objs.size+2) (TO:=s1.heap.objs.size+3) (i1:=s1.heap.objs.size) (i2:=s1.heap.objs.size+1) ⟨ne 2 4 (by decide),ne 3 4 (by decide),ne 0 4 (by decide),ne 1 4 (by decide),ne 2 3 (by decide),ne 2 0 (by decide),ne 2 1 (by decide),ne 3 0 (by decide),ne 3 1 (by decide),ne 0 1 (by decide)⟩,Z,fun b hb=>?_,q⟩
 have hge:s1.heap.objs.size<=b:=by
   simp only[List.mem_cons,List.not_mem_nil,or_false] at hb
   rcases hb with rfl | rfl | rfl | rfl | rfl<;>first | exact Nat.le_add_right _ _ | exact Nat.le_refl _
 exact I1.fpOk hge (I1.hok.fresh hge)
/-! ### sum -/
theorem call_sum (hc:X.calm=true):zl2 X (.builtin "sum") (fun xs H Q=>∃ l ns,xs=[.ref l]/\SqL X.K H l (ns.map V.int)/\PySem.SumFits ns/\Q (.int ns.sum) H):=by
 intro pins s σ H xs us Q I r h
 obtain ⟨l,ns,rfl,hS,hfit,q⟩:=h
 obtain ⟨u,rfl,ru⟩:=zA1 r
 cases ru
 obtain ⟨its,rv,p,hz⟩:=I.list hS
 obtain ⟨ps,e1,e2⟩:=zn4 (zo1 rv)
 have ei:its.toArray=intItems ps.toArray:=by
   unfold intItems
   rw[e1]
   simp
 have hl:=p.isList
 rw[ei] at hl
 have num:∀ j,numAt ps.toArray j=ns.getD j 0:=fun j=>by
   unfold numAt
   rw[<-e2]
   simp[List.getD_eq_getElem?_getD,List.getElem?_map]
 have pre:∀ j,j<=ns.length->preSum (numAt ps.toArray) j=(ns.take j).sum:=by
   intro j
   induction j with
   | zero=>intro _;rfl
   | succ j ih =>
     intro hj
     show preSum (numAt ps.toArray) j+numAt ps.toArray j=_
     rw[ih (by omega),num,List.take_succ,List.sum_append]
     have:ns[j]?=some (ns[j]'(by omega)):=by simp
     rw[List.getD_eq_getElem?_getD,this]
     simp
 have hlen:ps.toArray.size=ns.length:=by rw[<-e2];simp
 refine sum_intList (I.ok.hd hc) hl (fun j hj=>?_) fun h' tk t' kk=>?_
 . have hj':j<ns.length:=by omega
   obtain ⟨f1,f2⟩:=hfit j hj'
   rw[num,pre (j+1) (by omega)]
   exact⟨f1,f2⟩
 . rw[hlen,pre ns.length (Nat.le_refl _),List.take_length]
   exact⟨.int ns.sum,H,I.kept kk,⟨_,rfl⟩,q⟩
theorem pg_tupK {es:List Expr} {k:Nat} {t:TGs} {n:Nat} {pos:Pos} (K:PySem.W.Frag) (hK:X.K=K) (hc:X.calm=true) (h:PGs X es t)
 (hn:(assignEach es X.env).length=n:=by rfl) (hst:(assignEach es X.env).findIdx? (·.1)=none:=by rfl):PG X (.Tuple es k pos) (gTup K n t):=hK▸pg_tup hc h hn hst
end
theorem comp_zip {K:PySem.W.Frag} {H1:Hp} {l1 l2 D:Addr} {xs ys:List V} {f:V->V->V} {rest:St} {telt:TE} {Q:Hp->Prop} (hx:H1 l1=some (.tup xs)) (hy:H1 l2=some (.tup ys)) (hl:xs.length=ys.length) (hD:H1 D=none) (hn:xs.length<=sizeLine)
   (el:∀ (i:Nat) x y H' R,xs[i]?=some x->ys[i]?=some y->Same H1 H'->R (f x y) H'->telt (some x::some y::rest) H' R) (q:∀ H',Same H1 H'->H' D=some (.lst (List.zipWith f xs ys))->Q H') :
   ∃ W:Nat->Nat->St->Hp->Prop,(∃ m,W 0 m (none::none::rest) (upd H1 D (.lst []))) ∧
     ∀ i m σ' H',W i m σ' H'->((Itz l1 l2).stop i H'/\Q H')\/((Itz l1 l2).go i H'/\∃ N:St->Hp->Prop,(∀ σ2 H2,N σ2 H2->∃ m',m'<m/\W (i+1) m' σ2 H2) ∧
       ∀ v H2,(Itz l1 l2).yld i H' v H2->gTup K 2 (zF8 (zo4 0) (zF8 (zo4 1) gNil)) v σ' H2 fun σ3 H3=>zw8 σ3 H3 fun b H4=>if b=true then zs1 D telt N σ3 H4 else N σ3 H4):=by
 have hz:(List.zipWith f xs ys).length=xs.length:=by rw[List.length_zipWith,hl,Nat.min_self]
 refine⟨fun i m σ' H'=>m=xs.length-i/\i<=xs.length/\(∃ a b,σ'=a::b::rest)/\Same H1 H'/\H' D=some (.lst ((List.zipWith f xs ys).take i)),⟨xs.length,by simp,Nat.zero_le _,⟨_,_,rfl⟩,Same.upd hD,by rw[za3];rfl⟩,?_⟩
 rintro i m σ' H' ⟨rfl,hi,⟨a,b,rfl⟩,s,hd⟩
 by_cases hlt:i<xs.length
 . have ex:xs[i]?=some xs[i]:=by simp[hlt]
   have ey:ys[i]?=some (ys[i]'(by omega)):=by simp
   refine .inr ⟨⟨xs,ys,_,_,s _ _ hx,s _ _ hy,ex,ey⟩,fun σ2 H2=>(∃ a b,σ2=a::b::rest)/\Same H1 H2/\H2 D=some (.lst ((List.zipWith f xs ys).take (i+1))),fun σ2 H2 h=>⟨xs.length-(i+1),by omega,rfl,hlt,h.1,h.2.1,h.2.2⟩,?_⟩
   rintro v H2 ⟨p,xs',ys',x',y',fp,rfl,hx',hy',ex',ey',rfl⟩
   have e1:xs'=xs:=by have:=(s _ _ hx).symm.trans hx';cases this;rfl
   have e2:ys'=ys:=by have:=(s _ _ hy).symm.trans hy';cases this;rfl
   subst e1 e2
   have nDp:D≠p:=fun z=>by rw[z,fp] at hd;cases hd
   refine⟨p,_,rfl,SqT.of za3,rfl,_,_,rfl,_,_,rfl,rfl,?_⟩
   dsimp only[zw8]
   refine iteT ?_
   show zs1 D telt _ (some x'::some y'::rest) _
   refine el i x' y' _ _ ex' ey' (s.updT fp) ⟨_,by rw[za7 nDp];exact hd,?_,⟨_,_,rfl⟩,(s.updT fp).put hD,?_⟩
   . rw[List.length_take];omega
   . rw[za3,List.take_succ,List.getElem?_zipWith,ex',ey']
     rfl
 . have e:i=xs.length:=by omega
   subst e
   refine .inl ⟨⟨xs,ys,s _ _ hx,s _ _ hy,Nat.le_refl _⟩,q H' s ?_⟩
   rw[hd,<-hz,List.take_length]
end L2
/-! EXCEPTIONS,1: an own exception class (under ValueError,or under an own class under it) is called;its __init__ stores attributes -/
namespace L2
open PySem PySem.Spec PyProof.Rows
noncomputable abbrev bmV:List Value:=[.type "ValueError",.type "Exception",.type "BaseException",.type "object"]
noncomputable def MroV (bm:List Value):Prop:=bm=bmV\/∃ D:Addr,bm = .ref D::bmV
theorem MroV.has {bm:List Value} (m:MroV bm) {T:String} {b:Bool} (h:bmV.contains (.type T)=b):bm.contains (.type T)=b:=by
 rcases m with rfl | ⟨D,rfl⟩
 . exact h
 . rw[List.contains_cons,h];rfl
theorem MroV.self {bm:List Value} (m:MroV bm) (C:Addr) {T:String} {b:Bool} (h:bmV.contains (.type T)=b):(Value.ref C::bm).contains (.type T)=b:=by
 rw[List.contains_cons,m.has h];rfl
theorem MroV.passes {bm:List Value} (m:MroV bm) (v:Value):refuseLoop v "__setattr__" bm=pure ():=by
 rcases m with rfl | ⟨D,rfl⟩
 . exact PySem.F.store_ValueError.passes v
 . rw[refuseLoop_ref];exact PySem.F.store_ValueError.passes v
section
variable {prog:Program} {w:World} {A:Around} {E:Value->Shared->Prop} {R:Result->Shared->Prop} {h:Heap} {g:Array GenState} {d:Drawn} {t:Nat} {os:OsState}
variable {nm q:Str} {C N:Addr} {bs bm:List Value} {hdct:Bool} {sn:List Str} {sub:List Value} {ab:Bool} {col:Option Bool} {dd:Option Addr} {k0 k1 k2 k3 k5:Option Value}
theorem xnew_check {M:Model} (m:MroV bm) {rest:List Value} {Q:Unit->Shared->Prop} (hC:h.get? C=some (excClassObj nm q C N bs bm hdct sn sub ab col dd k0 k1 k2 k3 k5 "ValueError.__new__"))
   (hq:Q () ⟨h,g,d,t,os⟩):wpAny M A (checkBuiltinCall "ValueError.__new__" ⟨.ref C::rest,[]⟩) Q E ⟨h,g,d,t,os⟩:=by
 have hin:=m.self C PySem.F.excBase_ValueError.hasB
 have hst:=PySem.F.excBase_ValueError.noStar
 simp only[checkBuiltinCall,PySem.F.excBase_ValueError.newKind,PySem.F.excBase_ValueError.newSplit,PySem.F.excBase_ValueError.newRow]
 repeat (first | refine wpAny_loadPart_at hC ?_ | (refine wpAny_isSubtype_exc hC ?_;rw[hin]) | refine wpAny_staticBase_exc hC ?_ | refine wpAny_madeBy_exc hC ?_ | simp only[bne_self_eq_false,Bool.false_eq_true,if_false] | wp_step)
 exact hq
theorem xnew_code (m:MroV bm) {rest:List Value} (hC:h.get? C=some (excClassObj nm q C N bs bm hdct sn sub ab col dd k0 k1 k2 k3 k5 "ValueError.__new__"))
   (hq:R (.ok (.ret (.ref (h.objs.size+1)))) ⟨(h.push { cls:=.type "tuple",data:=.seq rest.toArray }).push { cls:=.ref C,data:=.fields #[.ref h.objs.size,.none,.none,.none,.bool false,.none] },g,d,t,os⟩)
   (hrest:rest.length<=sizeLine):codeAny (model prog w) A (.builtin "ValueError.__new__" ⟨.ref C::rest,[]⟩) R ⟨h,g,d,t,os⟩:=by
 have hends:=PySem.F.excBase_ValueError.ends
 have c1:=m.self C PySem.F.excBase_ValueError.hasB
 have c2:=m.self C PySem.F.excBase_ValueError.noAttr
 have c3:=m.self C PySem.F.excBase_ValueError.noName
 refine codeAny_builtinAt PySem.F.excBase_ValueError.entry ?_;unfold Builtin.«BaseException.__new__»
 refine PySem.wpAt_bind ?_;show PySem.wpAt _ _ _ (stack >>= _) _ _ _
 refine PySem.wpAt_bind (PySem.wpAt_stack fun p below=>PySem.wpAt_of_wpAny ?_);wp_walk
 refine PySem.wpAt_of_wpAny ?_;rw[PySem.F.excBase_ValueError.owner]
 repeat (first | with_reducible refine wpAny_madeHere_exc PySem.F.excBase_ValueError.canon hC ?_ | with_reducible refine wpAny_loadPart_at hC ?_ | (with_reducible refine wpAny_isSubtype_exc hC ?_;first | rw[c1] | rw[c2] | rw[c3]) | wp_step)
 show R _ _;rw[Heap.size_push];exact hq
theorem xcall {K:PySem.W.Frag} (X:K.In h) (m:MroV bm) {rest:List Value} {fI:Addr} {Q:Value->Shared->Prop} (hC:h.get? C=some (excClassObj nm q C N bs bm hdct sn sub ab col dd k0 k1 k2 k3 k5 "ValueError.__new__"))
   (hi:PySem.W.findIn K (.ref C) "__init__" = some (some (.ref fI))) (hf:PySem.W.isFn K (.ref fI)=true) (hrest:rest.length<=sizeLine)
   (hq:wpAny (model prog w) (A.under (.builtin "type.__call__" ⟨.ref C::rest,[]⟩)) (call (.ref fI) (.ref (h.objs.size+1)::rest)) (fun r s'=>r = .none/\Q (.ref (h.objs.size+1)) s') E
     ⟨(h.push { cls:=.type "tuple",data:=.seq rest.toArray }).push { cls:=.ref C,data:=.fields #[.ref h.objs.size,.none,.none,.none,.bool false,.none] },g,d,t,os⟩) :
   wpAny (model prog w) A (call (.ref C) rest) Q E ⟨h,g,d,t,os⟩:=by
 have f1:=tc_lookup
 have f2:=tc_bind (.ref C)
 have hT:(⟨h,g,d,t,os⟩:Shared).TypeIs (.ref C) "type":=⟨_,hC,rfl⟩
 refine wpAny_call (codeAny_of_tree ?_);show wpAny _ _ (callAny (.ref C) _) _ _ _
 repeat (any_goals (first | assumption | with_reducible refine wpAny_loadPart_at hC ?_ | wp_step))
 refine⟨rfl,?_⟩
 refine codeAny_call_builtin_at (Code.quiet_builtin _ (by decide +kernel)) entry_typeCall (wpAny_check_type_call_sub hC ?_)
 repeat (first | with_reducible refine wpAny_loadPart_at hC ?_ | with_reducible refine wpAny_madeBy_exc hC ?_ | wp_step)
 refine codeAny_call_builtin_code (Code.quiet_builtin _ PySem.F.excBase_ValueError.quiet) (xnew_check m hC (xnew_code m hC ?_ hrest))
 show wpAny _ _ _ _ _ _
 have kp:∀ b o,h.get? b=some o->((h.push { cls:=.type "tuple",data:=.seq rest.toArray }).push { cls:=.ref C,data:=.fields #[.ref h.objs.size,.none,.none,.none,.bool false,.none] }).get? b=some o:=fun b o e=>Heap.get?_push_of_some _ (Heap.get?_push_of_some _ e)
 have hC1:=kp _ _ hC
 have X1:K.In ((h.push { cls:=.type "tuple",data:=.seq rest.toArray }).push { cls:=.ref C,data:=.fields #[.ref h.objs.size,.none,.none,.none,.bool false,.none] }):=X.keeps kp
 have hg:((h.push { cls:=.type "tuple",data:=.seq rest.toArray }).push { cls:=.ref C,data:=.fields #[.ref h.objs.size,.none,.none,.none,.bool false,.none] }).get? (h.objs.size+1)=some { cls:=.ref C,data:=.fields #[.ref h.objs.size,.none,.none,.none,.bool false,.none] }:=by heap_get
 have hcc:(Value.ref C::bm).contains (.ref C)=true:=by simp
 unfold isInstance
 repeat (first | with_reducible refine wpAny_loadPart_at hg ?_ | wp_step)
 refine wpAny_isSubtype_exc hC1 ?_;rw[hcc]
 repeat (first | with_reducible refine wpAny_loadPart_at hg ?_ | wp_step)
 show wpAny _ _ (typeLookup (.ref C) _) _ _ _
 refine PySem.W.looks_findIn X1 hi _ _ _ _ (fun _ _ e=>e) ?_
 refine wpAny_holding (wpAny_bind ?_);unfold bindSpecial
 refine wpAny_bind (PySem.W.looks_typeIn X1 (beq_iff_eq.mp hf) _ _ _ _ (fun _ _ e=>e) ?_)
 rw[if_pos (by decide)]
 refine wpAny_pure (wpAny_bind (wpAny_mono hq (fun r s' hr=>?_) fun _ _ x=>x))
 obtain ⟨rfl,hQ⟩:=hr
 wp_walk
 exact hQ
end
end L2
/-! EXCEPTIONS,2: an attribute stored on an exception -/
namespace L2
open PySem PySem.Spec PyProof.Rows
open PySem.Builtin PySem.Builtin.ObjectAttr
section
variable {prog:Program} {w:World} {A:Around} {E:Value->Shared->Prop} {h:Heap} {g:Array GenState} {d:Drawn} {t:Nat} {os:OsState}
variable {nm q:Str} {C N x:Addr} {bs bm:List Value} {sn:List Str} {sub:List Value} {ab:Bool} {col:Option Bool} {dd:Option Addr} {k0 k1 k2 k3 k5:Option Value} {newId:String} {mA:Str->Option Value} {name:Str} {v:Value} {K:PySem.W.Frag}
theorem xsa_check {M:Model} (m:MroV bm) {o:Obj} {nv:Value} {Q:Unit->Shared->Prop} (hC:h.get? C=some (excClassObj nm q C N bs bm true sn sub ab col dd k0 k1 k2 k3 k5 newId)) (hx:h.get? x=some o) (hc:o.cls = .ref C) (hq:Q () ⟨h,g,d,t,os⟩) :
   wpAny M A (checkBuiltinCall "object.__setattr__" ⟨[.ref x,nv,v],[]⟩) Q E ⟨h,g,d,t,os⟩:=by
 have hin:=m.self C PySem.F.store_ValueError.hasOwner
 have ha:=PySem.F.store_ValueError.args (.ref x) nv v
 simp only[checkBuiltinCall,PySem.F.store_ValueError.kind,PySem.F.store_ValueError.split]
 refine wpAny_bind ?_;unfold isInstance
 repeat (first | (with_reducible refine wpAny_loadPart_at hx ?_;rw[hc]) | (with_reducible refine wpAny_isSubtype_exc hC ?_;rw[hin]) | wp_step)
 exact hq
theorem xsa_entry (X:K.In h) (m:MroV bm) {tk:Tok} {Q:PySem.Fin->Shared->Prop} {ns:List Str} (hC:h.get? C=some (excClassObj nm q C N bs bm true sn sub ab col dd k0 k1 k2 k3 k5 newId)) (hna:PySem.W.findIn K (.ref C) name=some none) (hxC:x≠C) (I:h.Inst x C mA)
   (hq:∀ h' tk',h'.Inst x C (fun y=>if y=name then some v else mA y) →
     (∀ b o,b≠x->(∀ o0 dx,h.get? x=some o0->o0.dict=some dx->b≠dx)->h.get? b=some o->h'.get? b=some o) →
     (∀ o0,h.get? x=some o0->∃ o1,h'.get? x=some o1/\o1.cls=o0.cls/\o1.data=o0.data/\o1.slots=o0.slots/\(∀ dx,o0.dict=some dx->o1.dict=some dx)/\(o0.dict=none->o1.dict=some h.objs.size))->Q (.done (.ret .none)) ⟨h',g,d,tk',os⟩) (hw:Within mA ns) (hsz:ns.length<=sizeLine) :
   wpAny (model prog w) A (Builtin.«object.__setattr__» ⟨[.ref x,.str name tk,v],[]⟩) Q E ⟨h,g,d,t,os⟩:=by
 obtain ⟨o,hx,hc,hnc,hd⟩:=I
 have hpass:=m.passes (.ref x)
 have lk:∀ (A:Around) (Q:Option Value->Shared->Prop) (E:Value->Shared->Prop),Q none ⟨h,g,d,t,os⟩->wpAny (model prog w) A (typeLookup (.ref C) name) Q E ⟨h,g,d,t,os⟩:=fun A Q E q=>PySem.W.looks_findIn X hna A Q E _ (fun _ _ e=>e) q
 unfold Builtin.«object.__setattr__»
 repeat (first | rw[refuse_eq] | (rw[refuseLoop_ref,hpass]) | (with_reducible refine wpAny_loadPart_at hx ?_;rw[hc]) | with_reducible refine wpAny_mroOf_exc hC ?_ | with_reducible refine lk _ _ _ ?_ | wp_step)
 rcases hd with ⟨hdn,hmA⟩ | ⟨dx,hdx,hne,hns⟩
 . rw[hdn,if_neg (by simp[typeHasDict])]
   split
   . rename_i hcd
     cases hcd
   split
   . rename_i c hcd
     exact absurd hcd (hnc c)
   . have hx1:(h.push { cls:=.type "dict",data:=.dict #[] }).get? x=some o:=Heap.get?_push_of_some _ hx
     have hxs:x≠h.objs.size:=Nat.ne_of_lt (Heap.lt_size hx)
     refine wpAny_bind (wpAny_alloc' (wpAny_bind (wpAny_update' hx1 (wpAny_pure ?_))))
     have hgd:((h.push { cls:=.type "dict",data:=.dict #[] }).update x fun o=>{ cls:=o.cls,dict:=some h.objs.size,data:=o.data,slots:=o.slots }).get? h.objs.size=some { cls:=.type "dict",data:=.dict #[] }:=(Heap.get?_update_ne _ _ _ _ hxs.symm).trans (Heap.get?_push_at rfl rfl)
     have hnd:((h.push { cls:=.type "dict",data:=.dict #[] }).update x fun o=>{ cls:=o.cls,dict:=some h.objs.size,data:=o.data,slots:=o.slots }).Ns h.objs.size (fun _=>none):=⟨_,#[],_,hgd,rfl,fun e he=>absurd he (by simp),fun _=>rfl⟩
     show wpAny _ _ (storeInDict h.objs.size (.str name tk) name v) _ _ _
     unfold storeInDict newKeyGuard
     refine wpAny_bind (wpAny_pure (wpAny_bind (wpAny_nsSet1 (Heap.Ns1.of_empty hnd) fun h' hn' hs=>?_)))
     obtain ⟨oD,esD,epD,hoD,hdD,hcD⟩:=hn'.count (Within.cons name v Within.nil)
     refine wpAny_bind (wpAny_lookBehind hoD (by rw[hdD];exact pastItsLine_dict (Nat.le_trans hcD (by rw[List.length_cons,List.length_nil,sizeLine_eq];omega))) ?_)
     wp_walk
     have hx':h'.get? x=some { cls:=o.cls,dict:=some h.objs.size,data:=o.data,slots:=o.slots }:=by
       refine (hs.2 x hxs).trans (Heap.get?_update_self _ hx1 ?_)
       have hfr:=(Heap.get?_some_iff.mp hx).2
       obtain ⟨oc,od,odt,osl⟩:=o
       cases odt<;>first | rfl | exact hfr
     refine hq h' _ ⟨_,hx',hc,hnc,.inr ⟨h.objs.size,rfl,hxs.symm,?_⟩⟩ (fun b ob hbx _ hb=>?_) (fun o0 h0=>?_)
     . obtain ⟨o',es,ep,e1,e2,e3,eu,e4⟩:=hn'
       exact⟨o',es,ep,e1,e2,e3,eu,fun y=>by rw[e4 y];by_cases hy:y=name<;>simp[hy,hmA]⟩
     . exact (hs.2 b (Nat.ne_of_lt (Heap.lt_size hb))).trans ((Heap.get?_update_ne _ _ _ _ hbx).trans (Heap.get?_push_of_some _ hb))
     . obtain rfl:o=o0:=Option.some.inj (hx.symm.trans h0)
       exact⟨_,hx',rfl,rfl,rfl,fun dx e=>(by rw[hdn] at e;cases e),fun _=>rfl⟩
 . rw[hdx]
   refine wpAny_pure ?_
   show wpAny _ _ (storeInDict dx (.str name tk) name v) _ _ _
   unfold storeInDict newKeyGuard
   refine wpAny_bind (wpAny_pure (wpAny_bind (wpAny_nsSet1 hns fun h' hn' hs=>?_)))
   obtain ⟨oD,esD,epD,hoD,hdD,hcD⟩:=hn'.count (Within.cons name v hw)
   refine wpAny_bind (wpAny_lookBehind hoD (by rw[hdD];exact pastItsLine_dict (Nat.le_trans hcD (by rw[List.length_cons];omega))) ?_)
   wp_walk
   refine hq h' _ ⟨o,(hs.2 x hne.symm).trans hx,hc,hnc,.inr ⟨dx,hdx,hne,hn'⟩⟩ (fun b ob _ hbd hb=>(hs.2 b (hbd o dx hx hdx)).trans hb) (fun o0 h0=>?_)
   obtain rfl:o=o0:=Option.some.inj (hx.symm.trans h0)
   exact⟨o,(hs.2 x hne.symm).trans hx,rfl,rfl,rfl,fun _ e=>e,fun e=>(by rw[hdx] at e;cases e)⟩
theorem zG9 (X:K.In h) (m:MroV bm) {Q:Unit->Shared->Prop} {ns:List Str} (hC:h.get? C=some (excClassObj nm q C N bs bm true sn sub ab col dd k0 k1 k2 k3 k5 newId)) (hsa:PySem.W.findIn K (.ref C) "__setattr__" = some (some (.builtin "object.__setattr__")))
   (hna:PySem.W.findIn K (.ref C) name=some none) (hxC:x≠C) (I:h.Inst x C mA)
   (hq:∀ h' tk',h'.Inst x C (fun y=>if y=name then some v else mA y) →
     (∀ b o,b≠x->(∀ o0 dx,h.get? x=some o0->o0.dict=some dx->b≠dx)->h.get? b=some o->h'.get? b=some o) →
     (∀ o0,h.get? x=some o0->∃ o1,h'.get? x=some o1/\o1.cls=o0.cls/\o1.data=o0.data/\o1.slots=o0.slots/\(∀ dx,o0.dict=some dx->o1.dict=some dx)/\(o0.dict=none->o1.dict=some h.objs.size))->Q () ⟨h',g,d,tk',os⟩) (hw:Within mA ns) (hsz:ns.length<=sizeLine) :
   wpAny (model prog w) A (setAttr (.ref x) name v) Q E ⟨h,g,d,t,os⟩:=by
 obtain ⟨o,hx,hc,_⟩:=id I
 have f3:=PySem.F.store_ValueError.slot.bind (.ref x)
 have lk:∀ (A:Around) (Q:Option Value->Shared->Prop) (E:Value->Shared->Prop) (t:Nat),Q (some (.builtin "object.__setattr__")) ⟨h,g,d,t,os⟩->wpAny (model prog w) A (typeLookup (.ref C) "__setattr__") Q E ⟨h,g,d,t,os⟩:=fun A Q E t q=>PySem.W.looks_findIn X hsa A Q E _ (fun _ _ e=>e) q
 unfold setAttr callSpecial? specialOf
 repeat (any_goals (first | assumption | (with_reducible refine wpAny_loadPart_at hx ?_;rw[hc]) | refine lk _ _ _ _ ?_ | wp_step))
 refine codeAny_call_builtin PySem.F.store_ValueError.slot.plain PySem.F.store_ValueError.entry (xsa_check m hC hx hc (xsa_entry X m hC hna hxC I (fun h' tk' I' hk hsame=>?_) hw hsz))
 repeat (any_goals (first | assumption | wp_step))
 exact hq h' tk' I' hk hsame
end
end L2
/-! EXCEPTIONS,3: the layer's rules -/
namespace L2
open PySem PySem.Spec PyProof.Rows
noncomputable def ExcO (C e:Addr) (od:Option Addr):HO:=.ext fun h=>∃ t:Addr,h.get? e=some { cls:=.ref C,dict:=od,data:=.fields #[.ref t,.none,.none,.none,.bool false,.none] }
structure XCls (K:PySem.W.Frag) (C:Addr):Prop where
 ob:∃ nm q N bs bm sn sub ab col dd k0 k1 k2 k3 k5,K.lookup C=some (excClassObj nm q C N bs bm true sn sub ab col dd k0 k1 k2 k3 k5 "ValueError.__new__")/\MroV bm
 sa:PySem.W.findIn K (.ref C) "__setattr__" = some (some (.builtin "object.__setattr__"))
 kp:PySem.W.keepIn K (.ref C)=true
section
variable {X:Cx} {pins:List (Addr×Obj)} {σ:St} {H:Hp} {s:Shared} {C x:Addr} {od:Option Addr}
theorem zz3 (I:Inv X pins σ H s) (e:H x=some (ExcO C x od)):∃ t:Addr,s.heap.get? x=some { cls:=.ref C,dict:=od,data:=.fields #[.ref t,.none,.none,.none,.bool false,.none] }:=(I.hok x _ e).1
theorem zE0 {P:Program} {w:World} {H:Hp} {h:Heap} {t:Addr} (e:h.get? x=some { cls:=.ref C,dict:=od,data:=.fields #[.ref t,.none,.none,.none,.bool false,.none] }):ze6 P w H h x (ExcO C x od) :=
 ⟨⟨t,e⟩,⟨_,e⟩,fun h1 h2 ⟨t,e1⟩ k=>⟨t,k _ e1⟩⟩
theorem cls_ne (I:Inv X pins σ H s) {o:HO} {ob:Obj} (hC:X.K.lookup C=some ob) (e:H x=some o):x≠C:=fun z=>by
 have hb:=I.ok.mod.kin _ _ hC
 have:=(I.bs _ _ hb).2
 rw[z,this] at e;cases e
noncomputable def XPut (D:St->Hp->Prop) (σ:St) (H:Hp) (a C:Addr) (od:Option Addr) (f:Str) (y:V):Prop:=match od with
 | none=>∀ dx,H dx=none->dx≠a->D σ (upd (upd H dx (.xd (putF f y []))) a (ExcO C a (some dx)))
 | some dx=>∃ fs,H dx=some (.xd fs)/\fs.length<1000/\D σ (upd H dx (.xd (putF f y fs)))
theorem zH0 {P:Program} {w:World} {H:Hp} {h:Heap} {dx:Addr} {mA:Str->Option Value} {f:Str} {y:V} {u:Value} {fs:List (Str×V)} (hl:fs.length<1000) (hn:h.Ns1 dx fun g=>if g=f then some u else mA g) (r:∀ g,RelO (fs.lookup g) (mA g)) (wi:PySem.Within mA (fs.map (·.1))) (ry:RelV y u) :
   ze6 P w H h dx (.xd (putF f y fs)):=by
 refine⟨by have:=zh3 f y fs;omega,_,hn,fun g=>?_,fun g hg=>?_⟩
 . rw[zb3]
   by_cases q:g=f
   . rw[if_pos q];simp only[q,if_true];exact ry
   . rw[if_neg q];simp only[q,if_false];exact r g
 . by_cases q:g=f
   . rw[q];exact (zk0 f y fs).1
   . refine (zk0 f y fs).2 g (wi g fun z=>hg ?_)
     simp only[q,if_false];exact z
theorem xsetattr_ok {f:Str} {y:V} {u:Value} {D:St->Hp->Prop} {A:Around} {E:Value->Shared->Prop} (I:Inv X pins σ H s) (c:XCls X.K C) (na:ze2 X.K C f) (e:H x=some (ExcO C x od)) (ry:RelV y u) (q:XPut D σ H x C od f y) :
   wpAny (model X.prog X.w) A (setAttr (.ref x) f u) (fun _ s'=>∃ H',Inv X pins σ H' s'/\D σ H') E s:=by
 obtain ⟨nm,qn,N,bs,bm,sn,sub,ab,col,dd,k0,k1,k2,k3,k5,hK,m⟩:=c.ob
 have hC:=I.kIn _ _ hK
 obtain ⟨t,hx⟩:=zz3 I e
 have hxC:=cls_ne I hK e
 cases od with
 | none =>
   have hI:s.heap.Inst x C (fun _=>none):=⟨_,hx,rfl,fun c z=>(by cases z),.inl ⟨rfl,fun _=>rfl⟩⟩
   obtain ⟨hp,g,d,tk,os⟩:=s
   refine zG9 (ns:=[]) I.kIn m hC c.sa na hxC hI (fun h' tk' I' hk hs=>?_) PySem.Within.nil (Nat.zero_le _)
   obtain ⟨o1,e1,e2,e3,e4,_,e5⟩:=hs _ hx
   have ed:=e5 rfl
   have eo:h'.get? x=some { cls:=.ref C,dict:=some hp.objs.size,data:=.fields #[.ref t,.none,.none,.none,.bool false,.none] }:=by
     rw[e1]
     obtain ⟨c1,d1,dt1,sl1⟩:=o1
     simp only at e2 e3 e4 ed
     subst e2 e3 e4 ed
     rfl
   have hkk:∀ b o,b≠x->hp.get? b=some o->h'.get? b=some o:=fun b o hb ho=>hk b o hb (fun o0 dx h0 hd=>by rw[hx] at h0;cases h0;cases hd) ho
   have fr:H hp.objs.size=none:=I.fresh
   have hxs:hp.objs.size≠x:=fun z=>by rw[<-z,fr] at e;cases e
   obtain ⟨oI,hoI,_,_,hdI⟩:=I'
   have hn1:h'.Ns1 hp.objs.size (fun g=>if g=f then some u else none):=by
     rw[eo] at hoI
     cases hoI
     rcases hdI with ⟨z,_⟩ | ⟨d',hd',_,hn⟩
     . cases z
     . cases hd';exact hn
   refine⟨_,?_,q _ fr hxs⟩
   refine I.un (t':=tk') (h':=h') ⟨fun b o ho n _ _=>?_,fun b o ho n _ _=>⟨o.slots,?_⟩,fun b o ho n _=>?_,fun b o ho _=>?_,fun b xs z=>?_,fun b o xs z=>?_,fun b ps z=>⟨#[],?_⟩⟩ fun b o z=>?_
   . exact hkk b o (fun z=>by rw[z,e] at n;cases n) ho
   . exact hkk b o (fun z=>by rw[z,e] at n;cases n) ho
   . rw[za7 (fun z=>by rw[z,e] at n;cases n),za7 (Nat.ne_of_lt (Heap.lt_size ho))];exact n
   . by_cases hb:b=x
     . subst hb;exact⟨_,eo⟩
     . exact⟨o,hkk b o hb ho⟩
   . rw[za7 (zr9 z e (by intro w;cases w)),za7 (zb1 z fr)];exact z
   . rw[za7 (zr9 z e (by intro w;cases w)),za7 (zb1 z fr)];exact z
   . rw[za7 (zr9 z e (by intro w;cases w)),za7 (zb1 z fr),z];simp
   . by_cases hb:b=x
     . subst hb
       rw[za3] at z;cases z
       exact zE0 eo
     . rw[za7 hb] at z
       by_cases hb2:b=hp.objs.size
       . subst hb2
         rw[za3] at z;cases z
         exact zH0 (mA:=fun _=>none) (by decide) hn1 (fun g=>True.intro) PySem.Within.nil ry
       . rw[za7 hb2] at z
         refine (I.hok b o z).stay (fun c v hc qv=>hkk c v ?_ qv) (fun c qc=>?_) fun c xs qc=>?_
         . rcases hc with rfl | hc
           . exact hb
           . exact zr9 hc e (by intro w;cases w)
         . rw[za7 (zr9 qc e (by intro w;cases w)),za7 (zb1 qc fr)];exact qc
         . rw[za7 (zr9 qc e (by intro w;cases w)),za7 (zb1 qc fr)];exact qc
 | some dx =>
   obtain ⟨fs,hd,hl,q⟩:=q
   obtain ⟨hl2,mA,hn,r,wi⟩:=I.hok dx _ hd
   have hdx:dx≠x:=zr9 hd e (by intro w;cases w)
   have hI:s.heap.Inst x C mA:=⟨_,hx,rfl,fun c z=>(by cases z),.inr ⟨dx,rfl,hdx,hn⟩⟩
   have hz:(fs.map (·.1)).length<=sizeLine:=by rw[List.length_map,sizeLine_eq];omega
   obtain ⟨hp,g,d,tk,os⟩:=s
   refine zG9 (ns:=fs.map (·.1)) I.kIn m hC c.sa na hxC hI (fun h' tk' I' hk hs=>?_) wi hz
   obtain ⟨o1,e1,e2,e3,e4,e5,_⟩:=hs _ hx
   have ed:=e5 dx rfl
   have eo:h'.get? x=some { cls:=.ref C,dict:=some dx,data:=.fields #[.ref t,.none,.none,.none,.bool false,.none] }:=by
     rw[e1]
     obtain ⟨c1,d1,dt1,sl1⟩:=o1
     simp only at e2 e3 e4 ed
     subst e2 e3 e4 ed
     rfl
   obtain ⟨oI,hoI,_,_,hdI⟩:=I'
   have hn1:h'.Ns1 dx (fun g=>if g=f then some u else mA g):=by
     rw[eo] at hoI
     cases hoI
     rcases hdI with ⟨z,_⟩ | ⟨d',hd',_,hn⟩
     . cases z
     . cases hd';exact hn
   refine⟨_,I.write (t':=tk') (h':=h') (x:=dx) (e:=dx) (by rw[hd];exact True.intro) (.inl rfl) (fun b o hb ho=>?_) (let ⟨o,_,_,e',_⟩:=hn1;⟨o,e'⟩) (zH0 hl hn1 r wi ry),q⟩
   by_cases hbx:b=x
   . subst hbx
     rw[show hp.get? b=_ from hx] at ho
     cases ho
     exact eo
   . exact hk b o hbx (fun o0 d0 h0 hd0=>by rw[show hp.get? x=_ from hx] at h0;cases h0;cases hd0;exact hb) ho
end
section
variable {X:Cx} {o value:Expr} {f:Str} {pos pos':Pos} {ta tv:TE}
noncomputable def sXFld (K:PySem.W.Frag) (ta tv:TE) (f:Str):TS:=fun D σ H=>tv σ H fun y H1=>ta σ H1 fun x H2=>∃ a C od,x = .ref a/\H2 a=some (ExcO C a od)/\XCls K C/\ze2 K C f/\XPut D.nx σ H2 a C od f y
theorem zE1 (ha:PE X o ta) (hv:PE X value tv) (hs:swapsWith value (some (.Attribute o f pos')) pos.line X.env=pure false):PS X (.Assign [.Attribute o f pos'] value pos) (sXFld X.K ta tv f):=by
 intro pins s σ H D I h
 refine plainObj_wpAny_Assign_Attribute (thn (hv pins s σ H _ I h) fun u s1 ⟨y,H1,I1,ry,q⟩=>thn (ha pins s1 σ H1 _ I1 q) fun ov s2 ⟨x,H2,I2,rx,a,C,od,ex,ea,c,n,q2⟩=>?_) hs
 subst ex
 obtain rfl:ov=Value.ref a:=rx
 exact thn (xsetattr_ok I2 c n ea ry q2) fun _ s3 ⟨H3,I3,q3⟩=>⟨σ,H3,I3,q3⟩
end
/-! ### C.m(..),C a class of the text -/
structure zI6 (K:PySem.W.Frag) (C:Addr) (m:Str) (f:Addr):Prop where
 ga:PySem.W.specialIn K (.ref C) "__getattribute__" = some (some (.builtin "type.__getattribute__"))
 rd:PySem.W.readsIn K C (.type "type")=true
 fd:PySem.W.findCls K (.ref C) (.type "type") m=some (.val (.ref f))
 kp:PySem.W.keepIn K (.ref f)=true
section
variable {X:Cx} {CX:CXT} {k:Nat} {f C:Addr} {fd:FuncData} {ps:List Str} {sp:Sp} {dvs:List V} {ds:List Value} {E:XK} {x m:Str} {p pos apos:Pos} {e:Expr} {es:List Expr} {t:TA}
theorem pe_cmeth {pl:Sem Bool} (M:zI6 X.K C m f) (hg:Gl X x) (hm:X.mg x=some (.ref C)) (F:FnOk X.prog X.w X.K X.mg X.base CX k f fd ps sp) (hr:Room k X.A) (hb:zc3 X.K fd ps ds) (hd:Vals dvs ds) (hx:zh5 CX X E) (ha:PA X (e::es) t)
   (hdb:(x == ("__debug__" : Str))=false:=by decide)
   (hst:starEach (e::es) X.env=(false,eval e X.env)::starEach es X.env:=by rfl) (hpl:(backTo pos (starEach es X.env)).any (·.1)=false:=by rfl)
   (ht:eval (.Call (.Attribute (.Name x p) m apos) (e::es) [] pos) X.env=(do
     let ov <-eval (.Name x p) X.env
     standAt apos.atName
     let (f,first) <-holding [ov] (getMethod ov m pl)
     callWith pos f first (backTo pos (starEach (e::es) X.env)) (backToKw pos (keywordEach [] X.env))):=by rfl) :
   PE X (.Call (.Attribute (.Name x p) m apos) (e::es) [] pos) (zI1 sp dvs E t):=by
 intro pins s σ H Q I h
 refine PySem.W.methodCall_KW (pl:=pl) (zk5 I hg hm ?_ hdb) ht
 refine PySem.W.method_cls I.kIn M.ga (PySem.W.cls_value I.kIn M.rd M.fd (by rfl) ?_)
 refine PySem.W.callWith_K (first:=[]) (h₀:=X.base) I.ok.mod.kin M.kp (thn (ha pos pins _ σ H _ (I.tok _) h) fun us s2 ⟨vs,H2,I2,r,q2⟩=>⟨I2.kIn,?_⟩) hst hpl
 exact zy2 F hr hb hd hx I2 r q2
/-! ### an exception is made -/
end
end L2
/-! EXCEPTIONS,4: raised,passing frames,caught -/
namespace L2
open PySem PySem.Spec PyProof.Rows
noncomputable def del (H:Hp) (a:Addr):Hp:=fun b=>if b=a then none else H b
theorem zA3 (H:Hp) (a:Addr):del H a a=none:=if_pos rfl
theorem zl7 {H:Hp} {a b:Addr} (h:b≠a):del H a b=H b:=if_neg h
theorem ze6.got {P:Program} {w:World} {H:Hp} {h:Heap} {a:Addr} {o:HO} (x:ze6 P w H h a o):∃ ob,h.get? a=some ob:=by
 cases o with
 | lst xs=>obtain ⟨_,_,_,_,e⟩:=x;exact⟨_,e⟩
 | tup xs=>obtain ⟨_,_,_,_,e,_⟩:=x;exact⟨_,e⟩
 | dK kvs=>obtain ⟨_,_,_,_,o,_,_,e,_⟩:=x;exact⟨_,e⟩
 | dT kvs=>obtain ⟨_,_,_,_,o,_,_,e,_⟩:=x;exact⟨_,e⟩
 | set S n=>obtain ⟨o,_,_,_,e,_⟩:=x;exact⟨_,e⟩
 | ins C dx fs=>obtain ⟨_,_,_,e,_⟩:=x;exact⟨_,e⟩
 | own y=>obtain ⟨_,e⟩:=x;exact⟨_,e⟩
 | xd fs=>obtain ⟨_,_,⟨_,_,_,e,_⟩,_⟩:=x;exact⟨_,e⟩
 | rng lo hi=>obtain ⟨_,_,_,e⟩:=x;exact⟨_,e⟩
 | frz ob u=>obtain ⟨e,_⟩:=x;exact⟨_,e⟩
 | tbl ps=>exact⟨_,show h.get? a=some _ from x⟩
 | met f y=>exact⟨_,show h.get? a=some _ from x⟩
 | ext φ=>obtain ⟨_,⟨_,e⟩,_⟩:=x;exact⟨_,e⟩
section
variable {X:Cx} {pins:List (Addr×Obj)} {σ:St} {H H':Hp} {s s':Shared} {C x a:Addr} {od:Option Addr} {cls a0:Value}
theorem Inv.del (I:Inv X pins σ H s) (e:H x=some (ExcO C x od)):Inv X pins σ (L2.del H x) s:=by
 have ne:∀ b u,H b=some u->(∀ φ,u≠.ext φ)->b≠x:=fun b u q n z=>by rw[z,e] at q;cases q;exact n _ rfl
 have:=I.un (t':=s.toks) (h':=s.heap) (H':=L2.del H x) ⟨fun b o ho n _ _=>ho,fun b o ho n _ _=>⟨o.slots,ho⟩,fun b o ho n _=>?_,fun b o ho _=>⟨o,ho⟩,fun b xs z=>?_,fun b o xs z=>?_,fun b ps z=>⟨#[],?_⟩⟩ fun b o z=>?_
 . exact this
 . unfold L2.del;split
   . rfl
   . exact n
 . rw[zl7 (ne b _ z fun φ w=>by cases w)];exact z
 . rw[zl7 (ne b _ z fun φ w=>by cases w)];exact z
 . rw[zl7 (ne b _ z fun φ w=>by cases w),z];simp
 . have hb:b≠x:=fun q=>by rw[q,zA3] at z;cases z
   rw[zl7 hb] at z
   exact (I.hok b o z).stay (fun _ _ _ q=>q) (fun c q=>by rw[zl7 (ne c _ q fun φ w=>by cases w)];exact q) fun c xs q=>by rw[zl7 (ne c _ q fun φ w=>by cases w)];exact q
end
section
variable {P:Program} {w:World} {K:PySem.W.Frag} {mg:Str->Option Value} {base:Heap} {N:List Str} {qual:Str} {scope:Scope} {f:Addr} {cd:Value} {A:Around} {outer:List Env} {s:Shared} {H:Hp} {E:XK}
end
end L2
/-! EXCEPTIONS,5: the statements raise and try;defs that raise -/
namespace L2
open PySem PySem.Spec PyProof.Rows
section
variable {M:Model} {A:Around} {E:Value->Shared->Prop} {env:Env}
variable {nm q:Str} {C N:Addr} {bs bm:List Value} {hdct:Bool} {sn:List Str} {sub:List Value} {ab:Bool} {col:Option Bool} {dd:Option Addr} {k0 k1 k2 k3 k5:Option Value} {newId:String}
theorem xraise {s:Shared} {x:Sem Value} {Q:Flow->Shared->Prop} (m:MroV bm) (hh:A.handled=none)
   (h:wpAny M A x (fun v s₁=>∃ e od t,v = .ref e/\s₁.heap.get? C=some (excClassObj nm q C N bs bm hdct sn sub ab col dd k0 k1 k2 k3 k5 newId)/\s₁.heap.get? e=some { cls:=.ref C,dict:=od,data:=.fields #[.ref t,.none,.none,.none,.bool false,.none] }/\E (.ref e) s₁) E s) :
   wpAny M A (raiseStmt env (some x) none) Q E s:=by
 have hcB:(Value.ref C::bm).contains (.type "BaseException")=true:=m.self C (by decide)
 unfold raiseStmt
 refine wpAny_bind (wpAny_mono h (fun v s₁ h₁=>?_) fun _ _ x=>x)
 obtain ⟨e,od,t,rfl,hC,he,hE⟩:=h₁
 obtain ⟨hp,g,d,tk,os⟩:=s₁
 repeat (first | with_reducible refine wpAny_loadPart_at he ?_ | with_reducible refine wpAny_loadPart_at hC ?_ | (with_reducible refine wpAny_isSubtype_exc hC ?_;rw[hcB]) | wp_step)
 exact wpAny_raiseNew_none hh hE
end
section
variable {X:Cx} {CX:CXT} {k:Nat} {f C:Addr} {fd:FuncData} {ps:List Str} {sp:Sp} {dvs:List V} {ds:List Value} {E Ei:XK} {x m:Str} {p pos cpos apos:Pos} {e:Expr} {es:List Expr} {t:TA}
theorem run_xmake2 {pins:List (Addr×Obj)} {σ:St} {H:Hp} {s:Shared} {Q:Addr->Hp->Prop} {us:List Value} {vs:List V} (c:XCls X.K C) (hi:PySem.W.findIn X.K (.ref C) "__init__" = some (some (.ref f))) (hf:PySem.W.isFn X.K (.ref f)=true) (F:FnOk X.prog X.w X.K X.mg X.base CX k f fd ps sp) (hr:Room (k+1) X.A) (hb:zc3 X.K fd ps ds) (hd:Vals dvs ds)
   (hx:zh5 CX X E) (I:Inv X pins σ H s) (r:Vals vs us) (hv:vs.length<=sizeLine)
   (h:∀ x,H x=none->sp (.ref x::(vs++dvs)) (upd H x (ExcO C x none)) (fun v H2=>v = .non/\Q x H2) E) :
   wpAny (model X.prog X.w) X.A (call (.ref C) us) (fun v s'=>v = .ref (s.heap.objs.size+1)/\∃ H',Inv X pins σ H' s'/\Q (s.heap.objs.size+1) H') X.xe s:=by
 obtain ⟨nm,qn,N,bs,bm,sn,sub,ab,col,dd,k0,k1,k2,k3,k5,hK,m⟩:=c.ob
 have hC:=I.kIn _ _ hK
 have hq:=h (s.heap.objs.size+1) (I.hok.fresh (Nat.le_succ _))
 have I1:Inv X pins σ H { s with heap:=s.heap.push { cls:=.type "tuple",data:=.seq us.toArray } }:=I.kept (t':=s.toks) fun b o e=>Heap.get?_push_of_some _ e
 have sz1:(s.heap.push { cls:=.type "tuple",data:=.seq us.toArray }).objs.size=s.heap.objs.size+1:=Heap.size_push ..
 have I2:Inv X pins σ (upd H (s.heap.objs.size+1) (ExcO C (s.heap.objs.size+1) none)) { s with heap:=(s.heap.push { cls:=.type "tuple",data:=.seq us.toArray }).push { cls:=.ref C,data:=.fields #[.ref s.heap.objs.size,.none,.none,.none,.bool false,.none] } }:=by
   refine I1.laid (t':=s.toks) (fun b o e=>Heap.get?_push_of_some _ e) (Nat.le_of_eq sz1) (zE0 (t:=s.heap.objs.size) ?_)
   rw[<-sz1];exact Heap.get?_push_size _ rfl
 have r2:Vals (V.ref (s.heap.objs.size+1)::(vs++dvs)) (Value.ref (s.heap.objs.size+1)::(us++ds)):=.cons rfl (r.append hd)
 have hl:(Value.ref (s.heap.objs.size+1)::us++ds).length=ps.length:=by
   have e:=r2.length
   rw[F.len _ _ _ _ hq] at e
   exact e.symm
 obtain ⟨hp,g,d,tk,os⟩:=s
 refine xcall I.kIn m hC hi hf (by rw[<-r.length];exact hv) ?_
 refine wpAny_call (codeAny_mono (F.run _ X.stack _ _ ⟨Value.ref (hp.objs.size+1)::us,[]⟩ (Value.ref (hp.objs.size+1)::(us++ds)) _ _ E (hr.make C us []) (I2.env0.make C us []) (hb _ (Value.ref (hp.objs.size+1)::us) I2.kIn hl) r2 hq) fun r s' hq'=>?_)
 cases r with
 | error e=>exact hx pins σ _ _ e s' I2 hq'
 | ok fl =>
   cases fl with
   | ret u =>
     obtain ⟨v,H',I3,rv,ev,q3⟩:=I2.after hq'
     subst ev
     exact⟨rv,rfl,H',I3,q3⟩
   | next=>exact False.elim hq'
   | brk=>exact False.elim hq'
   | cont=>exact False.elim hq'
end
/-! ### try -/
noncomputable def Cx.caught (X:Cx) (e:Value):Cx:={ X with A:=X.A.mark (some e),calm:=false,xe:=fun _ _=>False }
section
variable {X:Cx} {pins pins':List (Addr×Obj)} {σ:St} {H:Hp} {s:Shared} {E:XK} {e:Value} {D:Ends} {f:Flow}
theorem Inv.caught (I:Inv X pins σ H s) (e:Value):Inv (X.caught e) pins σ H s :=
 let ok:=I.ok
 ⟨⟨ok.mod,ok.kind,ok.glob,ok.blt,ok.above,ok.inj,ok.has,ok.cab,(fun z=>nomatch z),ok.frames,ok.stk,ok.exf,ok.bs,ok.bsz,ok.noex,ok.exfs,ok.funs,ok.frf⟩,I.os,I.bare,I.base,I.loc,I.cell,I.free,I.freeC,I.pin,I.hok,I.len⟩
theorem Inv.uncaught (hd:X.calm=true->X.A.handled=none) (I:Inv (X.caught e) pins σ H s):Inv X pins σ H s :=
 let ok:=I.ok
 ⟨⟨ok.mod,ok.kind,ok.glob,ok.blt,ok.above,ok.inj,ok.has,ok.cab,hd,ok.frames,ok.stk,ok.exf,ok.bs,ok.bsz,ok.noex,ok.exfs,ok.funs,ok.frf⟩,I.os,I.bare,I.base,I.loc,I.cell,I.free,I.freeC,I.pin,I.hok,I.len⟩
theorem SP.uncaught (hd:X.calm=true->X.A.handled=none) (h:SP (X.caught e) pins D f s):SP X pins D f s:=by
 cases f with
 | next=>obtain ⟨σ',H',I,q⟩:=h;exact⟨σ',H',I.uncaught hd,q⟩
 | brk=>obtain ⟨σ',H',I,q⟩:=h;exact⟨σ',H',I.uncaught hd,q⟩
 | cont=>obtain ⟨σ',H',I,q⟩:=h;exact⟨σ',H',I.uncaught hd,q⟩
 | ret u=>obtain ⟨v,σ',H',I,r,q⟩:=h;exact⟨v,σ',H',I.uncaught hd,r,q⟩
end
section
variable {X:Cx} {C:Addr} {E:XK} {x:Str} {p pos hpos:Pos} {body suite:List Stmt} {b₀:Stmt} {tb th:TS}
end
/-! ### a def (or method) of the text whose defaults are any -/
structure FunD (K:PySem.W.Frag) (x qual:Str) (st:Stmt) (f:Addr) (fd:FuncData):Prop where
 ex:∃ (oc:Value) (od:Option Addr) (dV kV doc pm:Value) (an:Option Addr) (cdv ct:Value) (osl:Array (Option Value)),
   fd=PySem.W.fnOf x qual (zb2 st) (zb0 st) (za2 st) dV kV doc pm an cdv ct/\K.lookup f=some ⟨oc,od,.func fd,osl⟩/\PySem.W.codeIn K cdv qual=true
 kp:PySem.W.keepIn K (.ref f)=true
section
variable {P:Program} {w:World} {K:PySem.W.Frag} {mg:Str->Option Value} {base:Heap} {CX:CXT}
theorem Fun.d {x qual:Str} {st:Stmt} {f:Addr} {fd:FuncData} (F:Fun K x qual st f fd):FunD K x qual st f fd:=by
 obtain ⟨oc,od,kV,doc,pm,an,cdv,ct,osl,h⟩:=F.ex
 exact⟨⟨oc,od,.none,kV,doc,pm,an,cdv,ct,osl,h⟩,F.kp⟩
theorem FunD.ok {x qual:Str} {st:Stmt} {f:Addr} {fd:FuncData} {N ps:List Str} {k:Nat} {sp:Sp} (F:FunD K x qual st f fd) (S:zb5 N ps (za2 st)) (len:∀ vs H Q E,sp vs H Q E->vs.length=ps.length)
   (hbody:∀ (cdv:Value) (A:Around) (outer:List Env) (s:Shared) (H:Hp) (vs:List V) (Q:VK) (E:XK),Room k (A.deeper (envOfC qual (za2 st) s.heap.objs.size f cdv))->sp vs H Q E →
     ∃ t,PSs (cxOf CX0 P w K mg base N qual (za2 st) f cdv A outer s H E).nox (zb0 st) t/\t { nx:=fun _ H'=>Q .non H',rt:=Q } (zn3 N vs) H):FnOk P w K mg base CX0 (k+1) f fd ps sp:=by
 obtain ⟨oc,od,dV,kV,doc,pm,an,cdv,ct,osl,rfl,lk,hcd⟩:=F.ex
 refine zG5 lk hcd S len fun A outer s H vs Q E hr hsp=>?_
 obtain ⟨t,h,q⟩:=hbody cdv A outer s H vs Q E hr hsp
 exact⟨t,h.nox,q⟩
theorem zE2 {x qual:Str} {st:Stmt} {f:Addr} {oc:Value} {od an:Option Addr} {osl:Array (Option Value)} {dV kV doc pm cdv ct:Value} (l:K.lookup f=some ⟨oc,od,.func (PySem.W.fnOf x qual (zb2 st) (zb0 st) (za2 st) dV kV doc pm an cdv ct),osl⟩)
 (c:PySem.W.codeIn K cdv qual=true) (k:PySem.W.keepIn K (.ref f)=true):FunD K x qual st f (PySem.W.fnOf x qual (zb2 st) (zb0 st) (za2 st) dV kV doc pm an cdv ct):=⟨⟨oc,od,dV,kV,doc,pm,an,cdv,ct,osl,rfl,l,c⟩,k⟩
noncomputable abbrev EN:XK:=fun _ _ _=>False
end
end L2
namespace L2
open PySem PySem.Spec PyProof.Rows
/-! ### within try: readings that name K itself -/
end L2
/-! EXCEPTIONS,6: loops in a def that raises;a list against the empty list -/
namespace L2
open PySem PySem.Spec PyProof.Rows
end L2
/-! EXCEPTIONS,7: try whose handler knows the names' values;the class named by except may be a base -/
namespace L2
open PySem PySem.Spec PyProof.Rows
noncomputable def zE3 (CX:CXT) (X:Cx) (Ex:St->XK):Prop:=∀ (pins:List (Addr×Obj)) (σ:St) (H:Hp) (s:Shared) (e:Value) (s':Shared),Inv X pins σ H s->CX X.stack H s (Ex σ) e s'->X.xe e s'
noncomputable def tCallS (sp:Sp) (dvs:List V) (Ex:St->XK) (t:TA):TE:=fun σ H Q=>t σ H fun vs H1=>sp (vs++dvs) H1 Q (Ex σ)
section
variable {X:Cx} {pins pins':List (Addr×Obj)} {σ:St} {H:Hp} {s:Shared} {Ex:St->XK} {D:Ends} {fl:Flow}
end
section
variable {X:Cx} {CX:CXT} {k:Nat} {f C:Addr} {fd:FuncData} {ps:List Str} {sp:Sp} {dvs:List V} {ds:List Value} {Ex:St->XK} {x m:Str} {p pos apos:Pos} {e o:Expr} {es:List Expr} {ta:TE} {t:TA}
theorem zA4 (F:FnOk X.prog X.w X.K X.mg X.base CX k f fd ps sp) (hr:Room k X.A) (hg:Gl X x) (hm:X.mg x=some (.ref f)) (hk:PySem.W.keepIn X.K (.ref f)=true) (hb:zc3 X.K fd ps ds) (hd:Vals dvs ds) (hx:zE3 CX X Ex)
   (ha:PA X (e::es) t) (hdb:(x == ("__debug__" : Str))=false:=by decide) (he:starEach (e::es) X.env=(false,eval e X.env)::starEach es X.env:=by rfl) (hpl:(backTo pos (starEach es X.env)).any (·.1)=false:=by rfl) :
   PE X (.Call (.Name x p) (e::es) [] pos) (tCallS sp dvs Ex t):=by
 intro pins s σ H Q I h
 refine wpAny_Call_Name_kw (zk5 I hg hm ?_ hdb)
 refine PySem.W.callWith_K (h₀:=X.base) I.ok.mod.kin hk (thn (ha pos pins s σ H _ I h) fun us s1 ⟨vs,H1,I1,r,q⟩=>⟨I1.kIn,?_⟩) he hpl
 have r2:Vals (vs++dvs) (us++ds):=r.append hd
 have hl:(us++ds).length=ps.length:=by rw[<-r2.length];exact F.len _ _ _ _ q
 refine wpAny_call (codeAny_mono (F.run X.A X.stack s1 H1 ⟨us,[]⟩ (us++ds) (vs++dvs) Q (Ex σ) hr I1.env0 (hb s1 us I1.kIn hl) r2 q) fun r s' hq=>?_)
 cases r with
 | error e=>exact hx pins σ H1 s1 e s' I1 hq
 | ok fl =>
   cases fl with
   | ret u=>exact I1.after hq
   | next=>exact False.elim hq
   | brk=>exact False.elim hq
   | cont=>exact False.elim hq
end
section
variable {X:Cx} {D:Addr} {Ex:St->XK} {x:Str} {p pos hpos:Pos} {body suite:List Stmt} {b₀:Stmt} {tb th:TS}
end
end L2
/-! EXCEPTIONS,8: except D as n -/
namespace L2
open PySem PySem.Spec PyProof.Rows
section
variable {X:Cx} {pins:List (Addr×Obj)} {σ:St} {H:Hp} {s:Shared}
theorem zs7 {M:Model} {A:Around} {E:Value->Shared->Prop} {i:Nat} {x:Str} {pos:Pos} {Q:Unit->Shared->Prop} (I:Inv X pins σ H s) (hN:X.N.Nodup) (hi:X.N[i]?=some x) (hk:X.env.scope.names.lookup x=some .local)
   (h:∀ s',Inv X pins (σ.set i none) H s'->Q () s'):wpAny M A (do bindName X.env x .none;unbindBehindTheSuite X.env x pos) Q E s:=by
 obtain ⟨m,hn,hl⟩:=id I.loc
 have hcls:(X.env.scope.kind == .class || (X.env.scope.kind == .module && X.env.locals != X.env.globals))=false:=by rw[I.ok.kind];rfl
 have hiσ:i<σ.length:=by rw[I.len];exact (List.getElem?_eq_some_iff.mp hi).1
 have cne:=I.cne
 refine wpAny_nameGoes_keeps hk hn hcls fun h' v hn' hs=>?_
 refine h _ ⟨I.ok,I.os,I.bare,⟨fun b o e n hb hx=>?_,fun b o e n hb hx=>?_,I.base.free,fun b o e hx=>?_,I.base.tups,I.base.frzs,I.base.tbls⟩,⟨_,hn',fun j y v' e1 e2 e3=>?_⟩,fun y c e=>?_,I.free,I.freeC,fun p hp=>?_,fun b ob e=>?_,by simpa using I.len⟩
 . exact (hs.2 b (Nat.ne_of_lt (Nat.lt_of_lt_of_le (Heap.lt_size e) I.ok.above))).trans (I.base.keep b o e n hb hx)
 . obtain ⟨sl,e1⟩:=I.base.slot b o e n hb hx
   exact⟨sl,(hs.2 b (Nat.ne_of_lt (Nat.lt_of_lt_of_le (Heap.lt_size e) I.ok.above))).trans e1⟩
 . obtain ⟨o',e1⟩:=I.base.there b o e hx
   exact⟨o',(hs.2 b (Nat.ne_of_lt (Nat.lt_of_lt_of_le (Heap.lt_size e) I.ok.above))).trans e1⟩
 . by_cases hj:j=i
   . subst hj
     rw[List.getElem?_set_self hiσ] at e2
     cases e2
   . rw[List.getElem?_set_ne (Ne.symm hj)] at e2
     obtain ⟨u',r',q⟩:=hl j y v' e1 e2 e3
     refine⟨u',r',?_⟩
     rcases q with ⟨k,e⟩ | ⟨k,c,e,z⟩
     . refine .inl ⟨k,?_⟩
       have:y≠x:=fun e=>hj (zt0 hN e1 (e▸hi))
       simp[this,e]
     . exact .inr ⟨k,c,e,z.sameBut hs (cne y c e)⟩
 . obtain ⟨w',z⟩:=I.cell y c e
   exact⟨w',z.sameBut hs (cne y c e)⟩
 . obtain ⟨e,n,ne,nf,d⟩:=I.pin p hp
   exact⟨(hs.2 p.1 ne).trans e,n,ne,nf,d⟩
 . refine (I.hok b ob e).stay (fun c w' hc q=>(hs.2 c ?_).trans q) (fun _ q=>q) fun _ _ q=>q
   rintro rfl
   rcases hc with rfl | hc
   . rw[I.free] at e;cases e
   . rw[I.free] at hc;cases hc
end
section
variable {X:Cx} {D:Addr} {Ex:St->XK} {x n:Str} {i:Nat} {p pos hpos:Pos} {body suite:List Stmt} {b₀:Stmt} {tb th:TS}
noncomputable def Ends.forget (D:Ends) (i:Nat):Ends:={ nx:=fun σ H=>D.nx (σ.set i none) H,rt:=D.rt,bk:=fun σ H=>D.bk (σ.set i none) H,ct:=fun σ H=>D.ct (σ.set i none) H }
end
end L2
namespace L2
open PySem PySem.Spec PyProof.Rows
theorem exm_of {K:PySem.W.Frag} {c:Value} {D:Addr} {b:Bool} (h1:PySem.W.subIn K (.ref D) (.type "BaseException")=some true) (h2:(PySem.W.clsIn K D).isSome=true) (h3:PySem.W.typeIn K (.ref D)=some (.type "type")) (h4:PySem.W.subIn K c (.ref D)=some b) :
   PySem.W.exmOne K c (.ref D)=some b:=by
 unfold PySem.W.exmOne PySem.W.kitCls
 simp[h1,h2,h3,h4]
end L2
namespace L2
open PySem PySem.Spec PyProof.Rows
section
variable {X:Cx}
end
end L2
namespace L2
open PySem PySem.Spec PyProof.Rows
end L2
/-! EXCEPTIONS WITH THEIR DICT,1: the flight -/
namespace L2
open PySem PySem.Spec PyProof.Rows
theorem dict_mapF (g:Array Value->Array Value) (o:Obj):(Obj.mapFields g o).dict=o.dict:=by
 obtain ⟨c,d,dt,sl⟩:=o
 cases dt<;>rfl
noncomputable def TrD (h base:Heap) (e:Addr) (cls:Value) (od:Option Addr) (fl:Value):Prop :=
 ∃ ob fs T ot tf,h.get? e=some ob/\(ob.cls=cls/\ob.dict=od)/\ob.data = .fields fs/\fs[1]?=some (.ref T)/\base.get? T=none/\T≠e/\h.get? T=some ot/\ot.data = .fields tf/\tf[3]?=some fl
noncomputable def FlD (base:Heap) (l:List Env) (e:Addr) (cls:Value) (od:Option Addr) (fl:Value) (h:Heap):Prop:=base.StaysIn h/\base.get? e=none/\h.FunFrames base l/\TrD h base e cls od fl
theorem FlD.there {base h:Heap} {l:List Env} {e:Addr} {cls fl:Value} {od:Option Addr} (x:FlD base l e cls od fl h):∃ ob,h.get? e=some ob/\(ob.cls=cls/\ob.dict=od)/\∃ vs,ob.data = .fields vs:=by
 obtain ⟨_,_,_,ob,fs,_,_,_,e1,e2,e3,_⟩:=x
 exact⟨ob,e1,e2,fs,e3⟩
section
variable {M:Model} {A:Around} {E:Value->Shared->Prop} {s:Shared} {base:Heap} {env:Env} {outer l:List Env} {L e:Addr} {cls fl:Value} {od:Option Addr} {Q:Unit->Shared->Prop}
theorem zo7 (x:FlD base l e cls od fl s.heap) (k:∀ h',FlD base l e cls od .none h'->s.heap.UpToSlots h'->Q () { s with heap:=h' }):wpAny M A (setFlight (.ref e) none) Q E s:=by
 obtain ⟨st,ne,ff,ob,fs,T,ot,tf,g1,gc,g2,g3,g4,g5,g6,g7,g8⟩:=x
 have sz3:3<tf.size:=(Array.getElem?_eq_some_iff.mp g8).1
 let U:Heap:=s.heap.update T (Obj.mapFields (·.setIfInBounds 3 ((none:Option Addr).elim Value.none fun f=>rawInt f)))
 have oth:∀ b,b≠T->U.get? b=s.heap.get? b:=fun b hb=>Heap.get?_update_other _ _ (Ne.symm hb)
 have noT:∀ b o,s.heap.get? b=some o->(∀ vs,o.data≠.fields vs)->b≠T:=fun b o hb hn z=>by
   rw[z,g6] at hb
   cases hb
   exact hn tf g7
 unfold setFlight
 refine wpAny_bind (wpAny_field g1 g2 g3 ?_)
 rw[if_pos (show (Value.ref T != Value.none)=true by simp)]
 refine wpAny_setField g6 g7 sz3 (k U ⟨fun b o hb=>(oth b fun z=>by rw[z,g4] at hb;cases hb).trans (st b o hb),ne,ff.of_keeps fun b o hb hn=>⟨o,(oth b (noT b o hb hn)).trans hb,rfl⟩,?_⟩ fun b o hb hn=>⟨o.slots,(oth b (noT b o hb hn)).trans hb⟩)
 exact⟨ob,fs,T,_,_,(oth e (Ne.symm g5)).trans g1,gc,g2,g3,g4,g5,Heap.get?_update_self _ g6 (Obj.isFreed_of_fields (Obj.data_mapFields g7 _)),Obj.data_mapFields g7 _,by simp[sz3]⟩
theorem zA5 {ob:Obj} {fs:Array Value} {head:Value} {nx:Bool} (fr:A.frames=some (env::outer)) (ff:s.heap.FunFrames base (env::outer)) (lf:env.frame=some L) (g1:s.heap.get? e=some ob) (st:base.StaysIn s.heap) (ne:base.get? e=none) (g2:ob.data = .fields fs) (sz:1<fs.size)
   (k:∀ h',FlD base (env::outer) e ob.cls ob.dict (rawInt L) h'->s.heap.UpToSlots h'->Q () { s with heap:=h' }) :
   wpAny M A (do let a <-frameOf env;let pl <-entryPlaceOf L nx;let b <-EntryCells.newEntry head a .none (rawInt L) .none pl;setField (.ref e) 1 b) Q E s:=by
 have nfr:e∉(env::outer).filterMap (·.frame):=fun hm=>by
   obtain ⟨_,o,ho,hn⟩:=ff.mem hm
   rw[g1] at ho
   cases ho
   exact hn fs g2
 refine wpAny_bind (wpAny_frameOf_fun fr ff lf fun h1 q1=>?_)
 refine wpAny_bind (wpAny_entryPlaceOf fun pl hpl=>?_)
 unfold EntryCells.newEntry newFields
 refine wpAny_bind (wpAny_newObj_type ?_ (hpl.sizeOk5 _ _ _ _ _))
 have e1:h1.get? e=some ob:=(q1.2.1 e nfr).trans g1
 have st1:base.StaysIn h1:=fun b o hb=>(q1.2.1 b fun hm=>by rw[(ff.mem hm).1] at hb;cases hb).trans (st b o hb)
 generalize htb:(([head,.ref L,.none,rawInt L,.none]++(if pl.isEmpty then List.replicate 6 Value.none else pl)).toArray:Array Value)=tb
 have tb3:tb[3]?=some (rawInt L):=by rw[<-htb];rcases hpl with rfl | ⟨_,_,_,_,_,_,_,rfl⟩<;>simp
 have e2:=Heap.get?_push_of_some (h:=h1) { cls:=.type "traceback",dict:=none,data:=.fields tb } e1
 refine wpAny_setField e2 g2 sz (k _ ?_ ?_)
 all_goals
   have neT:h1.objs.size≠e:=Nat.ne_of_gt (Heap.lt_size e1)
   have keep:∀ b o,b≠e->h1.get? b=some o->((h1.push { cls:=.type "traceback",dict:=none,data:=.fields tb }).update e (Obj.mapFields (·.setIfInBounds 1 (Value.ref h1.objs.size)))).get? b=some o:=fun b o hb hg=>by
     rw[Heap.get?_update_other _ _ (Ne.symm hb)]
     exact Heap.get?_push_of_some _ hg
   have noE:∀ b o,s.heap.get? b=some o->(∀ vs,o.data≠.fields vs)->b≠e:=fun b o hb hn z=>by
     rw[z,g1] at hb
     cases hb
     exact hn fs g2
 . have d3:=Obj.data_mapFields g2 (·.setIfInBounds 1 (Value.ref h1.objs.size))
   have e3:=Heap.get?_update_self (Obj.mapFields (·.setIfInBounds 1 (Value.ref h1.objs.size))) e2 (Obj.isFreed_of_fields d3)
   have t3:=(Heap.get?_update_other (h1.push { cls:=.type "traceback",dict:=none,data:=.fields tb }) (Obj.mapFields (·.setIfInBounds 1 (Value.ref h1.objs.size))) (Ne.symm neT)).trans (Heap.get?_push_size h1 rfl)
   refine⟨fun b o hb=>keep b o (fun z=>by rw[z,ne] at hb;cases hb) (st1 b o hb),ne,ff.of_keeps fun b o hb hn=>?_,?_⟩
   . obtain ⟨sl,z⟩:=q1.2.2 b o hb
     exact⟨_,keep b _ (noE b o hb hn) z,rfl⟩
   . exact⟨_,_,h1.objs.size,_,_,e3,⟨Obj.cls_mapFields _ _,dict_mapF _ _⟩,d3,by simp[sz],st1.fresh,neT,t3,rfl,tb3⟩
 . intro b o hb hn
   obtain ⟨sl,z⟩:=q1.2.2 b o hb
   exact⟨sl,keep b _ (noE b o hb hn) z⟩
theorem leave_first {ob:Obj} {fs:Array Value} (fr:A.frames=some (env::outer)) (ff:s.heap.FunFrames base (env::outer)) (lf:env.frame=some L) (g1:s.heap.get? e=some ob) (st:base.StaysIn s.heap) (ne:base.get? e=none) (g2:ob.data = .fields fs) (g3:fs[1]?=some .none)
   (k:∀ h',FlD base (env::outer) e ob.cls ob.dict .none h'->s.heap.UpToSlots h'->Q () { s with heap:=h' }):wpAny M A (leaving env (.ref e)) Q E s:=by
 unfold leaving noteFrame
 simp only[lf]
 refine wpAny_bind (wpAny_bind (wpAny_field g1 g2 g3 ?_))
 rw[if_neg (by decide)]
 exact zA5 fr ff lf g1 st ne g2 (Array.getElem?_eq_some_iff.mp g3).1 fun h' x up=>zo7 (s:={ s with heap:=h' }) x fun h2 x2 up2=>k h2 x2 (up.trans up2)
theorem zE4 (fr:A.frames=some (env::outer)) (lf:env.frame=some L) (x:FlD base (env::outer) e cls od .none s.heap)
   (k:∀ h',FlD base (env::outer) e cls od (rawInt L) h'->s.heap.UpToSlots h'->Q () { s with heap:=h' }):wpAny M A (noteFrame (.ref e) env) Q E s:=by
 obtain ⟨st,ne,ff,ob,fs,T,ot,tf,g1,⟨gc,gd⟩,g2,g3,g4,g5,g6,g7,g8⟩:=x
 subst gc gd
 unfold noteFrame
 simp only[lf]
 refine wpAny_bind (wpAny_field g1 g2 g3 ?_)
 rw[if_pos (show (Value.ref T != Value.none)=true by simp)]
 refine wpAny_bind (wpAny_field g6 g7 g8 ?_)
 rw[if_neg (show ¬ ((Value.none == rawInt L)=true) by simp[rawInt])]
 refine wpAny_bind (wpAny_setField g6 g7 (Array.getElem?_eq_some_iff.mp g8).1 ?_)
 have oth:∀ b,b≠T->(s.heap.update T (Obj.mapFields (·.setIfInBounds 3 Value.none))).get? b=s.heap.get? b:=fun b hb=>Heap.get?_update_other _ _ (Ne.symm hb)
 have noT:∀ b o,s.heap.get? b=some o->(∀ vs,o.data≠.fields vs)->b≠T:=fun b o hb hn z=>by
   rw[z,g6] at hb
   cases hb
   exact hn tf g7
 refine zA5 fr (ff.of_keeps fun b o hb hn=>⟨o,(oth b (noT b o hb hn)).trans hb,rfl⟩) lf ((oth e (Ne.symm g5)).trans g1) (fun b o hb=>(oth b fun z=>by rw[z,g4] at hb;cases hb).trans (st b o hb)) ne g2 (Array.getElem?_eq_some_iff.mp g3).1 fun h' x up=>k h' x fun b o hb hn=>up b o ((oth b (noT b o hb hn)).trans hb) hn
theorem leave_on (fr:A.frames=some (env::outer)) (lf:env.frame=some L) (x:FlD base (env::outer) e cls od .none s.heap)
   (k:∀ h',FlD base outer e cls od .none h'->s.heap.UpToSlots h'->Q () { s with heap:=h' }):wpAny M A (leaving env (.ref e)) Q E s:=by
 unfold leaving
 refine wpAny_bind (zE4 fr lf x fun h1 x1 up1=>zo7 (s:={ s with heap:=h1 }) x1 fun h2 x2 up2=>?_)
 obtain ⟨k1,k2,⟨_,_,k3⟩,k4⟩:=x2
 exact k h2 ⟨k1,k2,k3,k4⟩ (up1.trans up2)
end
end L2
/-! EXCEPTIONS WITH THEIR DICT,2: raised,passing frames,caught -/
namespace L2
open PySem PySem.Spec PyProof.Rows
noncomputable def FlyD (h:Heap) (H:Hp) (h0:Heap) (a:Addr) (cls:Value) (od:Option Addr):Prop :=
 (H a=none/\h0.get? a=none)/\∃ T,(H T=none/\h0.get? T=none)/\∃ oe vs oT ts,h.get? a=some oe/\(oe.cls=cls/\oe.dict=od)/\oe.data = .fields vs/\vs[1]?=some (.ref T)/\T≠a/\h.get? T=some oT/\oT.data = .fields ts/\ts[3]?=some Value.none
theorem FlyD.from {h:Heap} {H:Hp} {h0 h1:Heap} {a:Addr} {cls:Value} {od:Option Addr} (x:FlyD h H h0 a cls od) (k:∀ b o,h1.get? b=some o->∃ o',h0.get? b=some o'):FlyD h H h1 a cls od:=by
 have g:∀ b,h0.get? b=none->h1.get? b=none:=fun b e=>by
   cases q:h1.get? b with
   | none=>rfl
   | some o=>obtain ⟨o',z⟩:=k b o q;rw[e] at z;cases z
 obtain ⟨⟨x1,x2⟩,T,⟨x3,x4⟩,r⟩:=x
 exact⟨⟨x1,g _ x2⟩,T,⟨x3,g _ x4⟩,r⟩
theorem FlyD.flying {h:Heap} {H:Hp} {h0 B:Heap} {a:Addr} {cls:Value} {od:Option Addr} {l:List Env} (x:FlyD h H h0 a cls od) (ff:h.FunFrames B l) :
   ∃ T,(H T=none/\h0.get? T=none)/\FlD (PySem.W.hideAll h (a::([T]++frs l))) l a cls od .none h:=by
 obtain ⟨_,T,z,oe,vs,oT,ts,e1,e2,e3,e4,e5,e6,e7,e8⟩:=x
 refine⟨T,z,fun b o e=>PySem.W.of_hideAll _ e,PySem.W.hideAll_none _ List.mem_cons_self,PySem.W.funFrames_hide ff fun env he b hb=>?_,oe,vs,T,oT,ts,e1,e2,e3,e4,PySem.W.hideAll_none _ (by simp),e5,e6,e7,e8⟩
 exact List.mem_cons_of_mem _ (List.mem_cons_of_mem _ (List.mem_filterMap.mpr ⟨env,he,hb⟩))
theorem zA6 {P:Program} {w:World} {fs ts:List Addr} {l l':List Env} {H0 H:Hp} {h0 h1 h2 B:Heap} {a:Addr} {cls:Value} {od:Option Addr} (u:Un fs [] H0 H h0 h1) (ok:HOk P w H h1) (ff:h1.FunFrames B l)
   (hl:∀ b∈frs l,(b∈fs\/h0.get? b=none)/\H b=none) (ha:H a=none/\h0.get? a=none) (hts:∀ T∈ts,H T=none/\h0.get? T=none)
   (x:FlD (PySem.W.hideAll h1 (a::(ts++frs l))) l' a cls od .none h2) (up:h1.UpToSlots h2):Un fs [] H0 H h0 h2/\HOk P w H h2/\FlyD h2 H h0 a cls od:=by
 obtain ⟨st,_,_,oe,vs,T,oT,tv,e1,e2,e3,e4,e5,e6,e7,e8,e9⟩:=x
 have keep:∀ b o,b∉a::(ts++frs l)->h1.get? b=some o->h2.get? b=some o:=fun b o hb e=>st b o (PySem.W.hideAll_get _ e hb)
 have out:∀ b,b∈a::(ts++frs l)->H b=none/\(b∈frs l\/h0.get? b=none):=fun b hb=>by
   rcases List.mem_cons.mp hb with rfl | hb
   . exact⟨ha.1,.inr ha.2⟩
   . rcases List.mem_append.mp hb with hb | hb
     . exact⟨(hts b hb).1,.inr (hts b hb).2⟩
     . exact⟨(hl b hb).2,.inl hb⟩
 have slot:∀ b o,h0.get? b≠none->h1.get? b=some o->∃ sl,h2.get? b=some { o with slots:=sl }:=fun b o n e=>by
   by_cases hb:b∈a::(ts++frs l)
   . rcases (out b hb).2 with q | q
     . obtain ⟨_,o',ho,hn⟩:=ff.mem q
       rw[e] at ho;cases ho
       exact up b o e hn
     . exact absurd q n
   . exact⟨o.slots,keep b o hb e⟩
 refine⟨⟨fun b o e n hf hx=>?_,fun b o e n hf hx=>?_,u.free,fun b o e hx=>?_,u.tups,u.frzs,u.tbls⟩,fun b o q=>?_,ha,T,?_,oe,vs,oT,tv,e1,e2,e3,e4,e6,e7,e8,e9⟩
 . refine keep b o (fun hb=>?_) (u.keep b o e n hf hx)
   rcases (out b hb).2 with q | q
   . rcases (hl b q).1 with q | q
     . exact hf q
     . rw[e] at q;cases q
   . rw[e] at q;cases q
 . obtain ⟨sl,q⟩:=u.slot b o e n hf hx
   obtain ⟨sl',q'⟩:=slot b _ (by rw[e];simp) q
   exact⟨sl',q'⟩
 . obtain ⟨o',q⟩:=u.there b o e hx
   obtain ⟨sl',q'⟩:=slot b _ (by rw[e];simp) q
   exact⟨_,q'⟩
 . refine (ok b o q).stay (fun c v hc qv=>keep c v (fun hm=>?_) qv) (fun _ z=>z) fun _ _ z=>z
   have n:=(out c hm).1
   rcases hc with rfl | hc
   . rw[q] at n;cases n
   . rw[hc] at n;cases n
 . by_cases hm:T∈a::(ts++frs l)
   . rcases List.mem_cons.mp hm with z | hm
     . exact absurd z e6
     . rcases List.mem_append.mp hm with hm | hm
       . exact hts T hm
       . obtain ⟨_,o',ho,hn⟩:=ff.mem hm
         obtain ⟨sl,z⟩:=up T o' ho hn
         rw[e7] at z;cases z
         exact absurd e8 (hn tv)
   . have n1:h1.get? T=none:=by
       cases q:h1.get? T with
       | none=>rfl
       | some o=>rw[PySem.W.hideAll_get _ q hm] at e5;cases e5
     refine⟨?_,?_⟩
     . cases q:H T with
       | none=>rfl
       | some o=>obtain ⟨ob,z⟩:=(ok T o q).got;rw[n1] at z;cases z
     . cases q:h0.get? T with
       | none=>rfl
       | some o=>obtain ⟨ob,z⟩:=u.there T o q (by simp);rw[n1] at z;cases z
noncomputable def CXD (P:Program) (w:World):CXT:=fun outer H s E e s'=>∃ a cls od H',e = .ref a/\s'.os=s.os/\AllBare s'.gens/\Un (frs outer) [] H H' s.heap s'.heap/\HOk P w H' s'.heap/\FlyD s'.heap H' s.heap a cls od/\E cls od H'
noncomputable def zE5 (X:Cx) (E:XK):Prop:=∀ (pins:List (Addr×Obj)) (σ:St) (H:Hp) (s:Shared) (x C:Addr) (od:Option Addr),Inv X pins σ H s->H x=some (ExcO C x od)->X.s₀.heap.get? x=none->E (.ref C) od (del H x)->X.xe (.ref x) s
theorem Inv.leftD {X:Cx} {pins:List (Addr×Obj)} {σ:St} {H:Hp} {s:Shared} {a:Addr} {od:Option Addr} {cls:Value} {ts:List Addr} {h2:Heap} {l':List Env} (I:Inv X pins σ H s) (hex:X.ex=[]) (ha:H a=none/\X.s₀.heap.get? a=none) (hts:∀ T∈ts,H T=none/\X.s₀.heap.get? T=none)
   (x:FlD (PySem.W.hideAll s.heap (a::(ts++frs X.stack))) l' a cls od .none h2) (up:s.heap.UpToSlots h2):Un X.fs [] X.H₀ H X.s₀.heap h2/\HOk X.prog X.w H h2/\FlyD h2 H X.s₀.heap a cls od:=by
 have u:=I.base
 rw[hex] at u
 refine zA6 u I.hok I.stack (fun b hb=>⟨?_,I.stkFree b hb⟩) ha hts x up
 rcases List.mem_cons.mp (I.stkSub b hb) with z | z
 . right;rw[z];exact Heap.get?_none_of_le I.ok.above
 . exact .inl z
section
variable {P:Program} {w:World} {K:PySem.W.Frag} {mg:Str->Option Value} {base:Heap} {N:List Str} {qual:Str} {scope:Scope} {f:Addr} {cd:Value} {A:Around} {outer:List Env} {s:Shared} {H:Hp} {E:XK}
theorem zo2:zE5 (cxOf (CXD P w) P w K mg base N qual scope f cd A outer s H E) E:=by
 intro pins σ H1 s1 x C od I e n q
 obtain ⟨t,hx⟩:=zz3 I e
 have J:=I.del e
 have hd:del H1 x x=none:=zA3 _ _
 refine leave_first (base:=PySem.W.hideAll s1.heap (x::([]++frs (cxOf (CXD P w) P w K mg base N qual scope f cd A outer s H E).stack))) (outer:=outer) (L:=s.heap.objs.size) I.ok.frames ?_ rfl hx (fun b o z=>PySem.W.of_hideAll _ z) (PySem.W.hideAll_none _ List.mem_cons_self) rfl rfl fun h' hL up=>?_
 . exact PySem.W.funFrames_hide I.stack fun env he b hb=>List.mem_cons_of_mem _ (List.mem_filterMap.mpr ⟨env,he,hb⟩)
 . obtain ⟨u,ok,fl⟩:=J.leftD (ts:=[]) rfl ⟨hd,n⟩ (fun _ z=>nomatch z) hL up
   exact⟨x,.ref C,od,_,rfl,I.os,I.bare,u,ok,fl,q⟩
theorem za8:zh5 (CXD P w) (cxOf (CXD P w) P w K mg base N qual scope f cd A outer s H E) E:=by
 intro pins σ H1 s1 e s2 I q
 obtain ⟨a,cls,od,H',rfl,os,bare,un,ok,fl,q⟩:=q
 have J:=I.call' (ch:=[]) os un ok bare fun b z=>nomatch z
 have fl':FlyD s2.heap H' s.heap a cls od:=fl.from fun b o z=>I.base.there b o z (fun z=>nomatch z)
 obtain ⟨T,z,fw⟩:=fl'.flying J.stack
 refine leave_on J.ok.frames rfl fw fun h' fw' up=>?_
 obtain ⟨u,ok',f2⟩:=J.leftD (ts:=[T]) rfl fl'.1 (fun b hb=>by rw[List.mem_singleton.mp hb];exact z) fw' up
 exact⟨a,cls,od,H',rfl,J.os,J.bare,u,ok',f2,q⟩
theorem passes_own_fnD :
   PassesOwn (model (cxOf (CXD P w) P w K mg base N qual scope f cd A outer s H E).prog (cxOf (CXD P w) P w K mg base N qual scope f cd A outer s H E).w) (cxOf (CXD P w) P w K mg base N qual scope f cd A outer s H E).A (cxOf (CXD P w) P w K mg base N qual scope f cd A outer s H E).env (cxOf (CXD P w) P w K mg base N qual scope f cd A outer s H E).xe :=
 PassesOwn.leaving
theorem FunD.okD {CX:CXT} {x qual:Str} {st:Stmt} {fd:FuncData} {N ps:List Str} {k:Nat} {sp:Sp} (F:FunD K x qual st f fd) (S:zb5 N ps (za2 st)) (len:∀ vs H Q E,sp vs H Q E->vs.length=ps.length)
   (hbody:∀ (cdv:Value) (A:Around) (outer:List Env) (s:Shared) (H:Hp) (vs:List V) (Q:VK) (E:XK),Room k (A.deeper (envOfC qual (za2 st) s.heap.objs.size f cdv))->sp vs H Q E →
     ∃ t,PSs (cxOf (CXD P w) P w K mg base N qual (za2 st) f cdv A outer s H E) (zb0 st) t/\t { nx:=fun _ H'=>Q .non H',rt:=Q } (zn3 N vs) H):FnOk P w K mg base (CXD P w) (k+1) f fd ps sp:=by
 obtain ⟨oc,od,dV,kV,doc,pm,an,cdv,ct,osl,rfl,lk,hcd⟩:=F.ex
 refine zG5 lk hcd S len fun A outer s H vs Q E hr hsp=>?_
 obtain ⟨t,h,q⟩:=hbody cdv A outer s H vs Q E hr hsp
 exact⟨t,h,q⟩
theorem passesND {X:Cx}:zh5 (CXD X.prog X.w) X EN:=fun _ _ _ _ _ _ _ ⟨_,_,_,_,_,_,_,_,_,_,z⟩=>z.elim
end
section
variable {X:Cx} {CX:CXT} {k:Nat} {f C:Addr} {fd:FuncData} {ps:List Str} {sp:Sp} {dvs:List V} {ds:List Value} {E Ei:XK} {x m:Str} {p pos cpos apos:Pos} {e:Expr} {es:List Expr} {t:TA}
noncomputable def tRaiseD (C:Addr) (sp:Sp) (dvs:List V) (Ei E:XK) (t:TA):TS:=fun _ σ H=>t σ H fun vs H1=>vs.length<=sizeLine/\∀ x,H1 x=none →
 sp (.ref x::(vs++dvs)) (upd H1 x (ExcO C x none)) (fun v H2=>v = .non/\∃ od,H2 x=some (ExcO C x od)/\E (.ref C) od (del H2 x)) Ei
theorem zr0 (R:zE5 X E) (hc:X.calm=true) (c:XCls X.K C) (hi:PySem.W.findIn X.K (.ref C) "__init__" = some (some (.ref f))) (hf:PySem.W.isFn X.K (.ref f)=true) (F:FnOk X.prog X.w X.K X.mg X.base CX k f fd ps sp) (hr:Room (k+1) X.A) (hg:Gl X x) (hm:X.mg x=some (.ref C)) (hb:zc3 X.K fd ps ds) (hd:Vals dvs ds) (hx:zh5 CX X Ei)
   (ha:PA X (e::es) t) (hdb:(x == ("__debug__" : Str))=false:=by decide) (he:starEach (e::es) X.env=(false,eval e X.env)::starEach es X.env:=by rfl) (hpl:(backTo cpos (starEach es X.env)).any (·.1)=false:=by rfl) :
   PS X (.Raise (some (.Call (.Name x p) (e::es) [] cpos)) none pos) (tRaiseD C sp dvs Ei E t):=by
 intro pins s σ H D I h
 obtain ⟨nm,qn,N,bs,bm,sn,sub,ab,col,dd,k0,k1,k2,k3,k5,hK,m⟩:=c.ob
 rw[arm_exec_Raise]
 simp only[evalOpt,Option.map]
 refine wpAny_bind (wpAny_standAt (xraise (C:=C) m (I.ok.hd hc) (hdct:=true) (nm:=nm) (q:=qn) (N:=N) (bs:=bs) (sn:=sn) (sub:=sub) (ab:=ab) (col:=col) (dd:=dd) (k0:=k0) (k1:=k1) (k2:=k2) (k3:=k3) (k5:=k5) (newId:="ValueError.__new__") ?_))
 refine wpAny_bind (wpAny_mono (wpAny_Call_Name_kw (zk5 I hg hm ?_ hdb)) (fun v s3 h3=>wpAny_bind (wpAny_standAt (wpAny_pure h3))) fun _ _ z=>z)
 refine PySem.W.callWith_K (h₀:=X.base) I.ok.mod.kin c.kp (thn (ha cpos pins s σ H _ I h) fun us s1 ⟨vs,H1,I1,r,hv,q⟩=>⟨I1.kIn,?_⟩) he hpl
 refine thn (run_xmake2 (Q:=fun x H2=>∃ od,H2 x=some (ExcO C x od)/\E (.ref C) od (del H2 x)) c hi hf F hr hb hd hx I1 r hv q) fun v s2 ⟨ev,H2,I2,od,e2,q2⟩=>?_
 obtain ⟨t2,hx2⟩:=zz3 I2 e2
 exact⟨_,_,_,ev,I2.kIn _ _ hK,hx2,R pins σ H2 s2 _ C od I2 e2 (Heap.get?_none_of_le (Nat.le_trans I1.sz (Nat.le_succ _))) q2⟩
end
/-! ### try .. except D as n -/
noncomputable def Cx.inTryD (X:Cx) (pins:List (Addr×Obj)) (Ex:St->XK):Cx:={ X with pn:=X.pn++pins,xe:=fun e s1=>∃ σ H s,Inv X pins σ H s/\CXD X.prog X.w X.stack H s (Ex σ) e s1 }
section
variable {X:Cx} {pins pins':List (Addr×Obj)} {σ:St} {H:Hp} {s:Shared} {Ex:St->XK} {D:Ends} {fl:Flow}
theorem Inv.inTryD (I:Inv X pins σ H s) (Ex:St->XK):Inv (X.inTryD pins Ex) [] σ H s :=
 let ok:=I.ok
 ⟨⟨ok.mod,ok.kind,ok.glob,ok.blt,ok.above,ok.inj,ok.has,ok.cab,ok.hd,ok.frames,ok.stk,ok.exf,ok.bs,ok.bsz,ok.noex,ok.exfs,ok.funs,ok.frf⟩,I.os,I.bare,I.base,I.loc,I.cell,I.free,I.freeC,fun p hp=>I.pin p (by
   rw[List.append_nil] at hp;exact hp),I.hok,I.len⟩
theorem Inv.outTryD (I:Inv (X.inTryD pins Ex) pins' σ H s):Inv X pins σ H s :=
 let ok:=I.ok
 ⟨⟨ok.mod,ok.kind,ok.glob,ok.blt,ok.above,ok.inj,ok.has,ok.cab,ok.hd,ok.frames,ok.stk,ok.exf,ok.bs,ok.bsz,ok.noex,ok.exfs,ok.funs,ok.frf⟩,I.os,I.bare,I.base,I.loc,I.cell,I.free,I.freeC,fun p hp=>I.pin p (List.mem_append_left _ hp),I.hok,I.len⟩
theorem SP.outTryD (h:SP (X.inTryD pins Ex) pins' D fl s):SP X pins D fl s:=by
 cases fl with
 | next=>obtain ⟨σ',H',I,q⟩:=h;exact⟨σ',H',I.outTryD,q⟩
 | brk=>obtain ⟨σ',H',I,q⟩:=h;exact⟨σ',H',I.outTryD,q⟩
 | cont=>obtain ⟨σ',H',I,q⟩:=h;exact⟨σ',H',I.outTryD,q⟩
 | ret u=>obtain ⟨v,σ',H',I,r,q⟩:=h;exact⟨v,σ',H',I.outTryD,r,q⟩
theorem zs2:zE3 (CXD X.prog X.w) (X.inTryD pins Ex) Ex:=fun pins' σ H s e s' I q=>⟨σ,H,s,I.outTryD,q⟩
end
noncomputable def zo8 (cls:Value) (a:Addr) (od:Option Addr):HO:=.ext fun h=>∃ oe,h.get? a=some oe/\(oe.cls=cls/\oe.dict=od)/\∃ vs,oe.data = .fields vs
theorem landD_ok {P:Program} {w:World} {H:Hp} {h:Heap} {a:Addr} {cls:Value} {od:Option Addr} {oe:Obj} (e:h.get? a=some oe) (hc:(oe.cls=cls/\oe.dict=od)/\∃ vs,oe.data = .fields vs):ze6 P w H h a (zo8 cls a od):=⟨⟨oe,e,hc⟩,⟨_,e⟩,fun h1 h2 ⟨t,e1,c1⟩ k=>⟨t,k _ e1,c1⟩⟩
section
variable {X:Cx} {D:Addr} {Ex:St->XK} {x n:Str} {i:Nat} {p pos hpos:Pos} {body suite:List Stmt} {b₀:Stmt} {tb th:TS}
noncomputable def tTryD (K:PySem.W.Frag) (Ex:St->XK) (D:Addr) (i:Nat) (tb th:TS):TS:=fun D' σ H=>tb D' σ H/\∀ σ' cls od H' a,Ex σ' cls od H'->H' a=none->PySem.W.exmOne K cls (.ref D)=some true/\th (D'.forget i) (σ'.set i (some (.ref a))) (upd H' a (zo8 cls a od))
theorem ps_tryD (hs:X.stack=X.env::X.outer/\X.env.frame=some X.env.locals) (hg:Gl X x) (hm:X.mg x=some (.ref D)) (hN:X.N.Nodup) (hi:X.N[i]?=some n) (hk:X.env.scope.names.lookup n=some .local) (hb:∀ pins,PSs (X.inTryD pins Ex) body tb) (hh:∀ e,PSs (X.caught e) (b₀::suite) th)
   (hdb:(x == ("__debug__" : Str))=false:=by decide) :
   PS X (.Try body [.ExceptHandler (some (.Name x p)) (some n) (b₀::suite) hpos] [] [] pos) (tTryD X.K Ex D i tb th):=by
 intro pins s σ H D' I h
 obtain ⟨h1,h2⟩:=h
 refine wpAny_Try_except (wpAny_mono (hb pins [] s σ H D' (I.inTryD Ex) h1) (fun f s1 q=>?_) fun e s1 q=>?_)
 . cases f with
   | next=>exact wpAny_execs_nil (SP.outTryD (fl:=.next) q)
   | brk=>exact SP.outTryD (fl:=.brk) q
   | cont=>exact SP.outTryD (fl:=.cont) q
   | ret u=>exact SP.outTryD (fl:=.ret u) q
 . obtain ⟨σ0,H0,s0,I0,a,cls,od,H',rfl,os,bare,un,ok,fl,q⟩:=q
   obtain ⟨ec,qh⟩:=h2 σ0 cls od H' a q fl.1.1
   have J:=I0.call' (ch:=[]) os un ok bare fun b z=>nomatch z
   have ff:=J.stack
   have ha0:=fl.1
   obtain ⟨T,z,fw⟩:=fl.flying ff
   have fr:X.A.frames=some (X.env::X.outer):=by rw[<-hs.1];exact J.ok.frames
   rw[hs.1] at fw
   refine zE4 fr hs.2 fw fun h1 held up1=>?_
   refine zo7 held fun h2 fw2 up2=>?_
   have st0:∀ (h':Heap),FlD (PySem.W.hideAll s1.heap (a::([T]++frs (X.env::X.outer)))) (X.env::X.outer) a cls od .none h'->s1.heap.UpToSlots h'->Un (frs X.stack) [] H0 H' s0.heap h'/\HOk X.prog X.w H' h':=fun h' fw' up'=>by
     obtain ⟨u,ok',_⟩:=zA6 (l:=X.env::X.outer) un ok (by rw[<-hs.1];exact ff) (fun b hb=>by rw[<-hs.1] at hb;exact⟨.inl hb,J.stkFree b hb⟩) fl.1 (ts:=[T]) (fun b hb=>by rw[List.mem_singleton.mp hb];exact z) fw' up'
     exact⟨u,ok'⟩
   have J2:Inv X pins σ0 H' { s1 with heap:=h2 }:=I0.call' (ch:=[]) (s':={ s1 with heap:=h2 }) os (st0 h2 fw2 (up1.trans up2)).1 (st0 h2 fw2 (up1.trans up2)).2 bare fun b z=>nomatch z
   refine wpAny_handleBy_cons (codeAny_handlers_test ?_) (by intro q;cases q)
   refine zk5 (X:=X.caught (.ref a)) (J2.caught _) hg hm ?_ hdb
   obtain ⟨oe,he,⟨hcls,_⟩,_⟩:=fw2.there
   have LT:PySem.W.Looks (model X.prog X.w) h2 (typeOf (.ref a)) cls:=by
     subst hcls
     exact (PySem.W.Looks.ld he).andThen .now
   refine (PySem.W.exm_one J2.kIn LT ec) _ _ _ _ (fun _ _ e=>e) ?_
   show codeAny _ _ _ _ _
   refine codeAny_handlers_suite_as (zo7 fw2 fun h3 fw3 up3=>?_)
   obtain ⟨u3,ok3⟩:=st0 h3 fw3 ((up1.trans up2).trans up3)
   obtain ⟨oe3,he3,hc3⟩:=fw3.there
   have nea:∀ b u,H' b=some u->b≠a:=fun b u e w=>by rw[w,ha0.1] at e;cases e
   have J3:Inv X pins σ0 (upd H' a (zo8 cls a od)) { s1 with heap:=h3 }:=by
     refine I0.call' (ch:=[]) (s':={ s1 with heap:=h3 }) os ⟨u3.keep,u3.slot,fun b o e n hx=>?_,u3.there,fun b xs e=>?_,fun b o u e=>?_,fun b ps e=>?_⟩ (fun b o e=>?_) bare fun b z=>nomatch z
     . rw[za7 (fun w=>by rw[w,ha0.2] at e;cases e)];exact u3.free b o e n hx
     . rw[za7 (nea b _ (u3.tups b xs e))];exact u3.tups b xs e
     . rw[za7 (nea b _ (u3.frzs b o u e))];exact u3.frzs b o u e
     . obtain ⟨more,e1⟩:=u3.tbls b ps e
       exact⟨more,by rw[za7 (nea b _ e1)];exact e1⟩
     . by_cases hb:b=a
       . subst hb
         rw[za3] at e;cases e
         exact landD_ok he3 hc3
       . rw[za7 hb] at e
         exact (ok3 b o e).stay (fun _ _ _ q=>q) (fun c q=>by rw[za7 (nea c _ q)];exact q) fun c xs q=>by rw[za7 (nea c _ q)];exact q
   refine zt1 (X:=X.caught (.ref a)) (v:=.ref a) (J3.caught _) hN hi (.inl hk) rfl (fun s4 J4=>?_) (.inr hk)
   refine wpAny_mono (hh (.ref a) pins s4 _ _ (D'.forget i) J4 qh) (fun f s' r=>?_) fun _ _ z=>False.elim z
   have r:=SP.uncaught I.ok.hd r
   cases f with
   | next=>obtain ⟨σ',H'',I',q'⟩:=r;exact zs7 I' hN hi hk fun s5 J5=>⟨_,_,J5,q'⟩
   | brk=>obtain ⟨σ',H'',I',q'⟩:=r;exact zs7 I' hN hi hk fun s5 J5=>⟨_,_,J5,q'⟩
   | cont=>obtain ⟨σ',H'',I',q'⟩:=r;exact zs7 I' hN hi hk fun s5 J5=>⟨_,_,J5,q'⟩
   | ret u=>obtain ⟨v,σ',H'',I',rr,q'⟩:=r;exact zs7 I' hN hi hk fun s5 J5=>⟨v,_,_,J5,rr,q'⟩
end
end L2
/-! EXCEPTIONS WITH THEIR DICT,3: a landed exception's fields,isinstance of it -/
namespace L2
open PySem PySem.Spec PyProof.Rows
/-! ### an exception is asked: its __getattribute__ is BaseException's -/
theorem check_gaX {M:Model} {A:Around} {E:Value->Shared->Prop} {K:W.Frag} {h:Heap} {g:Array GenState} {d:Drawn} {t:Nat} {os:OsState} {x C:Addr} {ox:Obj} {od:Option Obj} {nameV:Value} {Q:Unit->Shared->Prop}
   (X:K.In h) (I:W.InstAt h x ox C od) (hbe:W.mroIn K C (.type "BaseException")=some true) (q:Q () { heap:=h,gens:=g,drawn:=d,toks:=t,os:=os }) :
   wpAny M A (checkBuiltinCall "BaseException.__getattribute__" { pos:=[Value.ref x,nameV] }) Q E { heap:=h,gens:=g,drawn:=d,toks:=t,os:=os }:=by
 have hk:builtinKind "BaseException.__getattribute__" = some Manifest.AttrKind.slot:=by decide +kernel
 have hs:splitId "BaseException.__getattribute__" = some ("BaseException","__getattribute__"):=by decide +kernel
 have ha:=F.args_bexc_ga (Value.ref x) nameV
 have L0:=W.InstAt.type I (M:=M)
 have L4:=W.looks_mroIn (M:=M) X hbe
 unfold checkBuiltinCall
 simp only[hk,hs]
 refine wpAny_bind ?_
 unfold isInstance
 refine wpAny_bind (W.Looks.at L0 (W.Looks.at L4 ?_))
 refine wpAny_ite_false rfl ?_
 exact wpAny_of_eq ha q
theorem kin_classX {prog:Program} {w:World} {A:Around} {E:Value->Shared->Prop} {s:Shared} {K:W.Frag} {x D:Addr} {ox od:Obj} {Q:Option Value->Shared->Prop}
   (hga:W.findIn K (.ref D) "__getattribute__" = some (some (.builtin "BaseException.__getattribute__")))
   (hgt:W.findIn K (.ref D) "__getattr__" = some none)
   (hbe:W.mroIn K D (.type "BaseException")=some true)
   (hdct:W.hasDictIn K D=true) (ha:W.findIn K (.ref D) "__class__" = some (some (.builtin "object.__class__")))
   (hn:W.specialIn K (.builtin "object.__class__") "__get__" = some (some (.builtin "getset_descriptor.__get__")))
   (htk:W.takesIn K (.builtin "object.__class__")=some true) (hm:W.mroIn K D (.type "object")=some true)
   (X:K.In s.heap) (I:W.InstAt s.heap x ox D (some od)) (h:Q (some (.ref D)) { s with toks:=s.toks+1 }) :
   wpAny (model prog w) A (getAttr? (.ref x) "__class__") Q E s:=by
 have hf:W.findObj K D (some od) "__class__" = some (.bind (.builtin "getset_descriptor.__get__") (.builtin "object.__class__")) :=
   W.findObj_data (by obtain ⟨cd,hc,_⟩:=W.any_some hdct;rw[hc];rfl) ha hn htk
 obtain ⟨hh',g,d,t,os⟩:=s
 have L0:=W.InstAt.type I (M:=model prog w)
 have L1:=W.looks_findIn (M:=model prog w) X hga
 have L2:=W.looks_findIn (M:=model prog w) X hgt
 have L3:=W.looks_find (M:=model prog w) X I hf
 unfold getAttr?
 refine wpAny_bind (wpAny_mkText ?_)
 unfold getAttrBy?
 refine wpAny_bind (wpAny_attempt ?_)
 unfold getAttrBy
 refine wpAny_holding (wpAny_bind (W.Looks.at L0 (wpAny_bind (W.Looks.at L1 ?_))))
 refine wpAny_ite_false rfl ?_
 unfold getAttrByItsOwn
 refine wpAny_bind ?_
 unfold hookBefore
 refine wpAny_ite_true rfl (W.Looks.at L2 ?_)
 refine wpAny_bind (wpAny_attempt (wpAny_holding ?_))
 unfold callGetattribute
 refine wpAny_ite_false rfl ?_
 unfold boundAndCalled
 refine wpAny_bind (wpAny_of_eq (F.attr_ValueError.ga.bind (Value.ref x)) ?_)
 refine wpAny_call (codeAny_call_builtin F.attr_ValueError.ga.plain F.entry_bexc_ga ?_)
 refine check_gaX X I hbe ?_
 unfold Builtin.«object.__getattribute__»
 refine wpAny_bind (wpAny_of_eq (a:=(Value.ref x,[Value.str "__class__" t])) rfl ?_)
 refine wpAny_bind (wpAny_pure (wpAny_bind (W.Looks.at L0 (wpAny_bind (W.Looks.at L3 ?_)))))
 show wpAny _ _ (Builtin.ObjectAttr.bindTo (.builtin "getset_descriptor.__get__") (.builtin "object.__class__") (.ref x) (.ref D)) _ _ _
 unfold Builtin.ObjectAttr.bindTo
 refine wpAny_bind (wpAny_holding (wpAny_call (W.class_get X I hm ?_)))
 refine wpAny_pure ?_
 show wpAny (model prog w) A (handedOut (.ref D)) _ _ _
 refine W.handed_on rfl ?_
 exact wpAny_pure h
theorem kitx_X {K:W.Frag} {x D:Addr} {ox od:Obj}
   (hga:W.findIn K (.ref D) "__getattribute__" = some (some (.builtin "BaseException.__getattribute__")))
   (hgt:W.findIn K (.ref D) "__getattr__" = some none)
   (hbe:W.mroIn K D (.type "BaseException")=some true)
   (hdct:W.hasDictIn K D=true) (ha:W.findIn K (.ref D) "__class__" = some (some (.builtin "object.__class__")))
   (hn:W.specialIn K (.builtin "object.__class__") "__get__" = some (some (.builtin "getset_descriptor.__get__")))
   (htk:W.takesIn K (.builtin "object.__class__")=some true) (hm:W.mroIn K D (.type "object")=some true) :
   W.KitX K (.ref x) (.ref D) fun h=>W.InstAt h x ox D (some od):=by
 have hl:∃ c dd cd sl,List.lookup D K=some { cls:=c,dict:=dd,data:=.cls cd,slots:=sl }:=by
   obtain ⟨cd,hc,_⟩:=W.any_some hdct
   unfold W.clsIn at hc
   split at hc
   . rename_i c dd cd' sl e
     exact⟨_,_,_,_,e⟩
   . cases hc
 obtain ⟨c,dd,cd,sl,hl⟩:=hl
 refine⟨fun _ _ _ I=>W.InstAt.type I,fun M h X _=>?_,fun h tp dd' its n sl' X htp=>?_,fun X I k=>kin_classX hga hgt hbe hdct ha hn htk hm X I k⟩
 . intro A' Q' E' s' k q
   exact wpAny_bind (wpAny_loadPart (k D _ (X D _ hl)) (wpAny_pure q))
 . refine Bool.eq_false_iff.mpr fun q=>?_
   have e:=Value.ref.inj (beq_iff_eq.mp q)
   subst e
   have z:=(X D _ hl).symm.trans htp
   cases z
structure XAsk (K:PySem.W.Frag) (C:Addr):Prop where
 ga:PySem.W.findIn K (.ref C) "__getattribute__" = some (some (.builtin "BaseException.__getattribute__"))
 gt:PySem.W.findIn K (.ref C) "__getattr__" = some none
 be:PySem.W.mroIn K C (.type "BaseException")=some true
 hd:PySem.W.hasDictIn K C=true
 kc:PySem.W.findIn K (.ref C) "__class__" = some (some (.builtin "object.__class__"))
 mo:PySem.W.mroIn K C (.type "object")=some true
structure XWay (K:PySem.W.Frag):Prop where
 gt:PySem.W.specialIn K (.builtin "object.__class__") "__get__" = some (some (.builtin "getset_descriptor.__get__"))
 tk:PySem.W.takesIn K (.builtin "object.__class__")=some true
section
variable {X:Cx} {pins:List (Addr×Obj)} {σ:St} {H:Hp} {s:Shared}
theorem land_at {C a dx:Addr} {fs:List (Str×V)} (I:Inv X pins σ H s) (e:H a=some (zo8 (.ref C) a (some dx))) (ed:H dx=some (.xd fs)) :
   ∃ ox ob,PySem.W.InstAt s.heap a ox C (some ob)/\∃ mA:Str->Option Value,(∀ n,PySem.W.lookIn n ob=some (mA n))/\∀ g,RelO (fs.lookup g) (mA g):=by
 obtain ⟨ox,g1,⟨g2,g3⟩,vs,g4⟩:=(I.hok a _ e).1
 obtain ⟨_,mA,hn,r,_⟩:=I.hok dx _ ed
 obtain ⟨ob,h1,h2⟩:=zw1 hn
 refine⟨ox,ob,⟨g1,g2,?_,?_⟩,mA,h2,r⟩
 . unfold PySem.W.notCls
   rw[g4]
 . rw[g3];exact h1
noncomputable def rIsX (K:PySem.W.Frag):List V->Hp->VK->Prop:=fun xs H Q=>∃ a D dx fs cv c b,xs=[.ref a,cv]/\ClsV cv c/\H a=some (zo8 (.ref D) a (some dx))/\H dx=some (.xd fs)/\XAsk K D/\XWay K/\PySem.W.kitOne K (.ref D) c=some b/\Q (.bl b) H
theorem call_isX:zl2 X (.builtin "isinstance") (rIsX X.K):=by
 intro pins s σ H xs us Q I r h
 obtain ⟨a,D,dx,fs,cv,c,b,rfl,hc,ea,ed,k,w,e,q⟩:=h
 obtain ⟨u,w',rfl,ru,rw'⟩:=zD6 r
 have ew:w'=c:=by
   cases hc with
   | ty n=>exact rw'
   | own C=>exact rw'
 subst ew
 cases (show u=Value.ref a from ru)
 obtain ⟨ox,ob,J,_⟩:=land_at I ea ed
 exact PySem.W.kia_one (kitx_X k.ga k.gt k.be k.hd k.kc w.gt w.tk k.mo) I.kIn J e (fun z=>nomatch z) fun tk=>⟨.bl b,H,I.tok tk,rfl,q⟩
theorem kit_self {K:PySem.W.Frag} {C:Addr}:PySem.W.kitOne K (.ref C) (.ref C)=some true:=by
 unfold PySem.W.kitOne
 rw[if_pos (by simp)]
end
/-! ### readings that name K itself -/
theorem call_isXK {X:Cx} (K:PySem.W.Frag) (h:X.K=K):zl2 X (.builtin "isinstance") (rIsX K):=by
 subst h;exact call_isX
end L2
/-! TEXTS over the layer: methods,slices,walks,int of a text,all of bools -/
namespace L2
open PySem PySem.Spec PyProof.Rows
section
variable {X:Cx}
/-! ### x[lo:hi] of a text -/
/-! ### int(text) -/
/-! ### all of bools -/
/-! ### a text walked -/
/-! ### for x,y in zip(..) -/
/-! ### a list == [] -/
noncomputable def rEqE (K:PySem.W.Frag):R2:=fun x y H Q=>∃ a b xs,x = .ref a/\y = .ref b/\SqL K H a xs/\SqL K H b []/\Q (.bl xs.isEmpty) H
theorem zH1 {X:Cx} (hu:X.A.units<cLine):OpR X (compareOp .Eq) (rEqE X.K):=by
 intro pins s σ H x y v u Q I rx ry h
 obtain ⟨a,b,xs,rfl,rfl,ha,hb,q⟩:=h
 cases rx
 cases ry
 obtain ⟨its,r,⟨o1,n1,g1,g2,_,g3⟩,hz⟩:=I.list ha
 obtain ⟨its2,r2,⟨o2,n2,g4,g5,_,g6⟩,hz2⟩:=I.list hb
 have ht:s.heap.IsList a its.toArray:=⟨o1,g1,g2,n1,g3⟩
 have ht2:s.heap.IsList b its2.toArray:=⟨o2,g4,g5,n2,g6⟩
 obtain rfl:its2=[]:=by cases r2;rfl
 cases xs with
 | nil =>
   obtain rfl:its=[]:=by cases r;rfl
   exact (PySem.SeqAt.RcAt.lists (e:=fun _=>true) ht ht2 rfl hu (fun i hi=>absurd hi (by simp))) _ _ _ _ ⟨.bl true,H,I,rfl,q⟩
 | cons x xs =>
   have hl:=r.length
   refine (PySem.SeqAt.RcAt.lists_lengths ht ht2 ?_ hu) _ _ _ _ ⟨.bl false,H,I,rfl,q⟩
   simp only[List.size_toArray,List.length_nil,<-hl,List.length_cons]
   simp
/-! ### xs.insert(i,v),0<=i<=len -/
end
end L2
/-! TEXTS: numbers,places,words -/
namespace L2
open PySem PySem.NumText
end L2
/-! COMPREHENSIONS whose block may raise,in a def that raises -/
namespace L2
open PySem PySem.Spec PyProof.Rows
section
variable {prog:Program} {w:World} {A:Around} {R:Result->Shared->Prop} {s:Shared}
end
section
variable {X:Cx} {scope:Scope} {cl:List (Str×Addr)} {C:Addr} {N':List Str} {s0:Shared} {H0:Hp} {fp:List Addr} {Ex:XK} {pins:List (Addr×Obj)} {σ:St} {H:Hp} {s:Shared}
end
section
variable {X:Cx} {scope:Scope} {N':List Str} {ix:List (Option Nat)} {tg iter elt:Expr} {ifs:List Expr} {pos:Pos} {wi:TI} {g:TG} {tif:TT} {telt:TE}
end
/-! ### the way of an exception out of a block -/
section
variable {M:Model} {A:Around} {E:Value->Shared->Prop} {s:Shared}
end
section
variable {P:Program} {w:World} {K:PySem.W.Frag} {mg:Str->Option Value} {base:Heap} {N:List Str} {qual:Str} {scope:Scope} {f:Addr} {cd:Value} {A:Around} {outer:List Env} {s:Shared} {H:Hp} {E:XK}
end
section
variable {P:Program} {w:World} {K:PySem.W.Frag} {mg:Str->Option Value} {base:Heap} {N:List Str} {qual:Str} {fsc:Scope} {f:Addr} {cd:Value} {A:Around} {outer:List Env} {ss:Shared} {HH:Hp} {E:XK}
variable {scope:Scope} {N':List Str} {ix:List (Option Nat)} {tg iter elt:Expr} {ifs:List Expr} {pos:Pos} {wi:TI} {g:TG} {tif:TT} {telt:TE}
end
end L2
namespace L2
open PySem PySem.Spec PyProof.Rows
section
variable {X:Cx} {C1 C2:Addr} {E:XK} {x1 x2:Str} {p1 p2 pos hp1 hp2:Pos} {body su1 su2:List Stmt} {b₁ b₂:Stmt} {tb th1 th2:TS}
end
end L2
/-! ### sorted() of any length: the sort's own steps,over keys that are all told apart -/
namespace Sx
open PySem PyProof.Rows
section
variable {M:Model} {A:Around} {E:Value->Shared->Prop} {s:Shared}
end
end Sx
namespace Sx
open PySem PyProof.Rows
section
variable {α:Type} {R:α->α->Prop} {T out A B A1 A2 B1 B2:List α} {z:α}
end
section
variable {α:Type} {R:α->α->Prop} {T:List α}
end
end Sx
namespace Sx
open PySem PyProof.Rows
section
variable {M:Model} {A:Around} {E:Value->Shared->Prop} {s:Shared} {κ:SortKind} {lt:Keyed->Keyed->Bool} {T T':List Keyed}
end
end Sx
namespace Sx
inductive Aa6 (p0 p1 p2 p3 p4 p5:Prop):Prop | mk (h0:p0) (h1:p1) (h2:p2) (h3:p3) (h4:p4) (h5:p5):Aa6 p0 p1 p2 p3 p4 p5
inductive Aa8 (p0 p1 p2 p3 p4 p5 p6 p7:Prop):Prop | mk (h0:p0) (h1:p1) (h2:p2) (h3:p3) (h4:p4) (h5:p5) (h6:p6) (h7:p7):Aa8 p0 p1 p2 p3 p4 p5 p6 p7
inductive Ex4 {α β γ δ:Type} (p:α->β->γ->δ->Prop):Prop | mk (a0:α) (a1:β) (a2:γ) (a3:δ) (h:p a0 a1 a2 a3):Ex4 p
inductive Ex5 {α β γ δ ε:Type} (p:α->β->γ->δ->ε->Prop):Prop | mk (a0:α) (a1:β) (a2:γ) (a3:δ) (a4:ε) (h:p a0 a1 a2 a3 a4):Ex5 p
inductive Ex7 {α β γ δ ε ζ η:Type} (p:α->β->γ->δ->ε->ζ->η->Prop):Prop | mk (a0:α) (a1:β) (a2:γ) (a3:δ) (a4:ε) (a5:ζ) (a6:η) (h:p a0 a1 a2 a3 a4 a5 a6):Ex7 p
open PySem PyProof.Rows
section
variable {M:Model} {A:Around} {E:Value->Shared->Prop} {s:Shared} {κ:SortKind} {lt:Keyed->Keyed->Bool} {T:List Keyed}
end
end Sx
namespace Sx
open PySem PyProof.Rows
section
variable {α:Type} {R:α->α->Prop} {T:List α}
end
section
variable {M:Model} {A:Around} {E:Value->Shared->Prop} {s:Shared} {κ:SortKind} {lt:Keyed->Keyed->Bool} {T:List Keyed}
end
end Sx
namespace Sx
open PySem PyProof.Rows
section
variable {α:Type}
end
section
variable {lt:Keyed->Keyed->Bool}
end
section
variable {M:Model} {A:Around} {E:Value->Shared->Prop} {s:Shared} {κ:SortKind} {lt:Keyed->Keyed->Bool} {T:List Keyed}
end
end Sx
namespace Sx
open PySem PyProof.Rows
section
variable {M:Model} {A:Around} {E:Value->Shared->Prop} {s:Shared} {κ:SortKind} {lt:Keyed->Keyed->Bool} {T:List Keyed} {ar:Array Keyed} {pd:Array (Nat×Nat×Nat)} {g:Nat}
end
end Sx
namespace Sx
open PySem PyProof.Rows
section
variable {M:Model} {A:Around} {E:Value->Shared->Prop} {s:Shared} {κ:SortKind} {lt:Keyed->Keyed->Bool} {T:List Keyed}
end
end Sx
/-! ### a dict walked by its entries,whatever its keys are -/
namespace Sx
open PySem PySem.W PySem.Calls PyProof.Rows
section
variable {prog:Program} {w:World} {A:Around} {E:Value->Shared->Prop} {s:Shared} {d it:Addr} {es:Array DictEntry} {ep i:Nat}
end
end Sx
namespace Sx
open PySem PySem.W PySem.Calls PyProof.Rows
section
variable {prog:Program} {w:World} {A:Around} {E:Value->Shared->Prop} {s:Shared}
end
end Sx
namespace L2
open PySem PySem.Spec PyProof.Rows
/-! ### lists of pairs as tables -/
section
variable {κ:Type} [DecidableEq κ]
end
/-! ### a tracked dict,its keys ints and texts or tuples of these -/
section
variable {P:Program} {w:World} {H:Hp} {h:Heap} {a:Addr}
end
section
variable {X:Cx} {pins:List (Addr×Obj)} {σ:St} {H:Hp} {s:Shared} {a:Addr} {y v:V} {u r:Value} {o:Option V} {A:Around} {E:Value->Shared->Prop}
end
section
variable {X:Cx} {o i e value:Expr} {pos pos' tpos:Pos} {td ty tv:TE}
end
end L2
namespace L2
open PySem PySem.Spec PyProof.Rows
noncomputable abbrev Tups (H:Hp) (ys:List V) (ks:List (List Int)):Prop:=Paired (fun y k=>∃ b,y = .ref b/\H b=some (.tup (k.map V.int))) ys ks
section
variable {X:Cx}
end
end L2
/-! ### sets of ints from 1 to 5: their table,told whole,so that they can be walked -/
namespace Sx
open PySem PySem.W PySem.Calls PyProof.Rows
end Sx
namespace Sx
open PySem PySem.W PySem.Calls PyProof.Rows
section
variable {prog:Program} {w:World} {A:Around} {E:Value->Shared->Prop} {s:Shared} {byT:Bool} {a:Addr} {ns:List Int} {ep:Nat}
theorem pick5 {α:Type} (es:Array α) (e2:es.size=5):(#[0,1,2,3,4]:Array Nat).filterMap (es[·]?)=es:=by
 obtain ⟨L⟩:=es
 match L,e2 with
 | [_,_,_,_,_],_=>rfl
end
end Sx
namespace Sx
open PySem PySem.W PySem.Calls PyProof.Rows
section
variable {prog:Program} {w:World} {A:Around} {E:Value->Shared->Prop} {s:Shared}
end
end Sx
namespace Sx
open PySem PySem.W PySem.Calls PyProof.Rows
section
variable {prog:Program} {w:World} {A:Around} {E:Value->Shared->Prop} {s:Shared}
end
end Sx
namespace Sx
open PySem PySem.W PySem.Calls PyProof.Rows
end Sx
namespace Sx
open PySem PySem.W PySem.Calls PyProof.Rows
section
variable {prog:Program} {w:World} {A:Around} {E:Value->Shared->Prop} {s:Shared} {a it:Addr} {es:Array (Int×Value)} {ep:Nat} {t:SetTable}
end
end Sx
namespace L2
open PySem PySem.Spec PyProof.Rows
section
variable {X:Cx}
end
end L2
namespace L2
open PySem
theorem Same.tups {H H':Hp} (s:Same H H') {ys:List V} {ks:List (List Int)} (h:Tups H ys ks):Tups H' ys ks:=Paired.mapP h fun y k ⟨b,e,hb⟩=>⟨b,e,s _ _ hb⟩
theorem zi6.put {H H1:Hp} {l a:Addr} {o:HO} (s:zi6 l H H1) (h:H a=none):zi6 l H (L2.upd H1 a o):=fun b u e hb=>by rw[za7 (zb1 e h)];exact s b u e hb
end L2
namespace L2
open PySem PySem.Spec PyProof.Rows
/-! ### the rules behind a wrapper,so that what is written in a display is not run while the rules are matched -/
section
variable {X:Cx}
end
/-! ### max and min of a list of ints -/
end L2
open PySem
namespace L2
/-! ### two tuples or two lists compared,their items scalars -/
section
variable {X:Cx}
end
end L2
namespace L2
open PySem PySem.Spec PyProof.Rows
/-! ### {} ,a dict for tuples as keys -/
/-! ### a tuple of ints in a list of tuples of ints -/
open Classical in
open Classical in
section
variable {X:Cx}
end
end L2
namespace L2
open PySem PySem.Spec PyProof.Rows
end L2
namespace L2
open PySem PySem.Spec PyProof.Rows
section
variable {X:Cx}
end
end L2
namespace L2
open PySem PySem.Spec PyProof.Rows
/-! ### xs.remove(i),ints,i among them -/
section
variable {X:Cx}
end
end L2
namespace L2
open PySem PySem.W PySem.Calls PyProof.Rows
section
variable {prog:Program} {w:World} {A:Around} {E:Value->Shared->Prop} {s:Shared}
end
end L2
namespace L2
open PySem PySem.W PySem.Calls PyProof.Rows
section
variable {prog:Program} {w:World} {A:Around} {E:Value->Shared->Prop} {s:Shared}
end
end L2
namespace L2
open PySem PySem.Spec PyProof.Rows
section
variable {X:Cx}
end
end L2
namespace L2
open PySem PySem.Spec PyProof.Rows
section
variable {X:Cx}
end
end L2
namespace L2
open PySem PySem.Spec PyProof.Rows
end L2
namespace L2
open PySem PySem.Spec PyProof.Rows
section
variable {X:Cx} {e k:Expr} {te:TE} {tk:TO} {pos p2:Pos}
end
end L2
namespace L2
open PySem PySem.Spec PyProof.Rows
section
variable {X:Cx}
end
end L2
namespace L2
open PySem PySem.Spec PyProof.Rows
end L2
namespace L2
open PySem PySem.Spec PyProof.Rows
section
variable {X:Cx}
end
end L2
namespace L2
open PySem PySem.Spec PyProof.Rows
section
variable {X:Cx} {tg l:Expr} {tl:TE}
end
end L2
/-! ZIP of two lists -/
namespace L2
open PySem PySem.Spec PyProof.Rows
section
variable {prog:Program} {w:World} {A:Around} {E:Value->Shared->Prop} {s:Shared}
end
/-! ### a zip walked -/
section
variable {X:Cx} {es:List Expr} {k0:Nat} {tp:Pos}
end
end L2
/-! a method of one's own that raises,within try,the names' values known -/
namespace L2
open PySem PySem.Spec PyProof.Rows
section
variable {X:Cx} {CX:CXT} {k:Nat} {f C:Addr} {fd:FuncData} {ps:List Str} {sp:Sp} {dvs:List V} {ds:List Value} {Ex:St->XK} {x m:Str} {p pos apos:Pos} {e o:Expr} {es:List Expr} {ta:TE} {t:TA}
end
end L2
/-! NEW OBJECTS: the rules that make one,with the heap behind them unnamed -/
namespace L2
open PySem PySem.Spec PyProof.Rows
section
variable {X:Cx} {es:List Expr} {t:TA} {pos:Pos}
end
end L2
namespace Bt
open PySem L2
/-! ### the text by places -/
noncomputable def top (i:Nat):Stmt:=PySem.Challenge.pw_beamtender_k08_every_door.main.body.getD i (.Pass ⟨0,0,0,0⟩)
noncomputable abbrev zc7:Stmt:=zj2 (top 2) 0
noncomputable abbrev zc4:Stmt:=zj2 (top 4) 0
noncomputable abbrev zg0:Stmt:=zj2 (top 22) 0
noncomputable abbrev zi1:Stmt:=top 23
noncomputable abbrev ze3:Stmt:=top 24
noncomputable abbrev ze7:Stmt:=top 25
noncomputable abbrev zd2:Stmt:=top 26
noncomputable abbrev ze8:Stmt:=top 28
noncomputable abbrev zf0:Stmt:=top 29
noncomputable abbrev zl8:Stmt:=top 31
noncomputable abbrev zr1:Stmt:=top 32
noncomputable abbrev zr2:Stmt:=top 33
noncomputable abbrev zm5:Stmt:=top 34
noncomputable abbrev zi2:Stmt:=top 35
noncomputable abbrev zm6:Stmt:=top 36
noncomputable abbrev zi3:Stmt:=top 38
noncomputable abbrev zm7:Stmt:=top 39
noncomputable abbrev zm8:Stmt:=top 40
noncomputable abbrev zk2:Stmt:=top 51
noncomputable abbrev zg1:Stmt:=top 53
noncomputable abbrev zm9:Stmt:=top 61
noncomputable abbrev zg2:Stmt:=zj2 (top 67) 0
noncomputable abbrev zf3:Stmt:=zj2 (top 67) 3
noncomputable abbrev ze9:Stmt:=zj2 (top 67) 4
noncomputable abbrev zd4:Stmt:=zj2 (top 67) 5
noncomputable abbrev zf4:Stmt:=zj2 (top 67) 6
noncomputable abbrev zd5:Stmt:=top 69
noncomputable abbrev zf5:Stmt:=top 70
noncomputable abbrev zr3:Stmt:=top 73
noncomputable abbrev zi4:Stmt:=top 74
noncomputable abbrev zk3:Stmt:=top 75
noncomputable abbrev zg3:Stmt:=top 76
noncomputable abbrev zn0:Stmt:=top 77
noncomputable abbrev zk4:Stmt:=top 78
noncomputable abbrev zg8:Stmt:=top 79
noncomputable abbrev zi5:Stmt:=top 80
noncomputable abbrev zg4:Stmt:=top 81
noncomputable abbrev zn1:Stmt:=top 82
noncomputable abbrev zx0:Stmt:=top 83
theorem sc_BeamError_init:zb5 ["self","reason","word"] ["self","reason","word"] (za2 zc7):=⟨rfl,rfl,rfl,by decide +kernel,rfl,by decide +kernel,by decide +kernel⟩
theorem sc_BadStanding_init:zb5 ["self","reason"] ["self","reason"] (za2 zc4):=⟨rfl,rfl,rfl,by decide +kernel,rfl,by decide +kernel,by decide +kernel⟩
theorem sc_Beam_init:zb5 ["self","notches","room","hefts","limit"] ["self","notches","room","hefts","limit"] (za2 zg0):=⟨rfl,rfl,rfl,by decide +kernel,rfl,by decide +kernel,by decide +kernel⟩
theorem sc_outside:zb5 ["number","low","high"] ["number","low","high"] (za2 zi1):=⟨rfl,rfl,rfl,by decide +kernel,rfl,by decide +kernel,by decide +kernel⟩
theorem sc_check_bounds:zb5 ["notches","room","limit"] ["notches","room","limit"] (za2 ze3):=⟨rfl,rfl,rfl,by decide +kernel,rfl,by decide +kernel,by decide +kernel⟩
theorem zl9:zb5 ["hefts","heft"] ["hefts"] (za2 ze7):=⟨rfl,rfl,rfl,by decide +kernel,rfl,by decide +kernel,by decide +kernel⟩
theorem ze4:zb5 ["notches","weights","many","weight"] ["notches","weights"] (za2 zd2):=⟨rfl,rfl,rfl,by decide +kernel,rfl,by decide +kernel,by decide +kernel⟩
theorem zi8:zb5 ["beam","standing","places","place"] ["beam","standing"] (za2 ze8):=⟨rfl,rfl,rfl,by decide +kernel,rfl,by decide +kernel,by decide +kernel⟩
theorem sc_mirrored:zb5 ["beam","standing"] ["beam","standing"] (za2 zf0):=⟨rfl,rfl,rfl,by decide +kernel,rfl,by decide +kernel,by decide +kernel⟩
theorem zn5:zf2 ["beam","standing"] (za2 zf0) (zz1 (zI5 (stE (stAt (zb0 zf0) 0)) 0)) ["place"] [none]:=⟨rfl,by decide +kernel,by decide +kernel,by decide +kernel,rfl,by decide +kernel,by decide +kernel⟩
theorem zE6:zb5 ["beam","standing","places"] ["beam","standing"] (za2 zl8):=⟨rfl,rfl,rfl,by decide +kernel,rfl,by decide +kernel,by decide +kernel⟩
theorem zr4:zf2 ["beam","standing","places"] (za2 zl8) (zz1 (zI5 (stE (stAt (zb0 zl8) 1)) 0)) ["heft","place"] [none,none]:=⟨rfl,by decide +kernel,by decide +kernel,by decide +kernel,rfl,by decide +kernel,by decide +kernel⟩
theorem zE7:zb5 ["beam","standing","tipped"] ["beam","standing"] (za2 zr1):=⟨rfl,rfl,rfl,by decide +kernel,rfl,by decide +kernel,by decide +kernel⟩
theorem sc_past:zb5 ["beam","tipped"] ["beam","tipped"] (za2 zr2):=⟨rfl,rfl,rfl,by decide +kernel,rfl,by decide +kernel,by decide +kernel⟩
theorem sc_keeps:zb5 ["beam","standing"] ["beam","standing"] (za2 zm5):=⟨rfl,rfl,rfl,by decide +kernel,rfl,by decide +kernel,by decide +kernel⟩
theorem zu6:zb5 ["beam","standing","weight","places"] ["beam","standing","weight"] (za2 zi2):=⟨rfl,rfl,rfl,by decide +kernel,rfl,by decide +kernel,by decide +kernel⟩
theorem zA7:zb5 ["beam","standing","places"] ["beam","standing"] (za2 zm6):=⟨rfl,rfl,rfl,by decide +kernel,rfl,by decide +kernel,by decide +kernel⟩
theorem zu7:zb5 ["beam","standing","move","places","e"] ["beam","standing","move"] (za2 zi3):=⟨rfl,rfl,rfl,by decide +kernel,rfl,by decide +kernel,by decide +kernel⟩
theorem zA8:zb5 ["beam","standing","move","places"] ["beam","standing","move"] (za2 zm7):=⟨rfl,rfl,rfl,by decide +kernel,rfl,by decide +kernel,by decide +kernel⟩
theorem zA9:zb5 ["beam","standing","places","told","weight"] ["beam","standing"] (za2 zm8):=⟨rfl,rfl,rfl,by decide +kernel,rfl,by decide +kernel,by decide +kernel⟩
theorem zr5:zb5 ["beam","start","goal","first","last"] ["beam","start","goal"] (za2 zk2):=⟨rfl,rfl,rfl,by decide +kernel,rfl,by decide +kernel,by decide +kernel⟩
theorem zo9:zb5 ["beam","start","goal","way"] ["beam","start","goal"] (za2 zg1):=⟨rfl,rfl,rfl,by decide +kernel,rfl,by decide +kernel,by decide +kernel⟩
theorem zu8:zb5 ["beam","start","goal","first","last","limit","shut","way"] ["beam","start","goal"] (za2 zm9):=⟨rfl,rfl,rfl,by decide +kernel,rfl,by decide +kernel,by decide +kernel⟩
theorem zp0:zb5 ["self","beam","start","first"] ["self","beam","start"] (za2 zg2):=⟨rfl,rfl,rfl,by decide +kernel,rfl,by decide +kernel,by decide +kernel⟩
theorem sc_Play_trail:zb5 ["self"] ["self"] (za2 zf3):=⟨rfl,rfl,rfl,by decide +kernel,rfl,by decide +kernel,by decide +kernel⟩
theorem sc_Play_fewest:zb5 ["self","goal"] ["self","goal"] (za2 ze9):=⟨rfl,rfl,rfl,by decide +kernel,rfl,by decide +kernel,by decide +kernel⟩
theorem sc_Play_next_move:zb5 ["self","goal"] ["self","goal"] (za2 zd4):=⟨rfl,rfl,rfl,by decide +kernel,rfl,by decide +kernel,by decide +kernel⟩
theorem sc_Play_least:zb5 ["self","goal"] ["self","goal"] (za2 zf4):=⟨rfl,rfl,rfl,by decide +kernel,rfl,by decide +kernel,by decide +kernel⟩
theorem zj3:zb5 ["beam","standing","places"] ["beam","standing"] (za2 zd5):=⟨rfl,rfl,rfl,by decide +kernel,rfl,by decide +kernel,by decide +kernel⟩
theorem zn6:zb5 ["beam","standing","places","rows","heft","place"] ["beam","standing"] (za2 zf5):=⟨rfl,rfl,rfl,by decide +kernel,rfl,by decide +kernel,by decide +kernel⟩
theorem sc_w_at:zb5 ["_law_script","_law_k"] ["_law_script","_law_k"] (za2 zr3):=⟨rfl,rfl,rfl,by decide +kernel,rfl,by decide +kernel,by decide +kernel⟩
theorem sc_w_whole:zb5 ["_law_found"] ["_law_found"] (za2 zi4):=⟨rfl,rfl,rfl,by decide +kernel,rfl,by decide +kernel,by decide +kernel⟩
theorem zg9:zb5 ["_law_cell","_law_count","_law_base","_law_mix","_law_made","_law_rest","_law_k"] ["_law_cell","_law_count","_law_base","_law_mix"] (za2 zk3):=⟨rfl,rfl,rfl,by decide +kernel,rfl,by decide +kernel,by decide +kernel⟩
theorem ze5:zb5 ["_law_script","_law_cell","_law_notches","_law_count","_law_room","_law_mode","_law_hefts"] ["_law_script"] (za2 zg3):=⟨rfl,rfl,rfl,by decide +kernel,rfl,by decide +kernel,by decide +kernel⟩
theorem zp6:zf2 ["_law_script","_law_cell","_law_notches","_law_count","_law_room","_law_mode","_law_hefts"] (za2 zg3) (zz1 (stE (stAt (zb0 zg3) 5))) ["_law_x"] [none]:=⟨rfl,by decide +kernel,by decide +kernel,by decide +kernel,rfl,by decide +kernel,by decide +kernel⟩
theorem zf1:zb5 ["_law_script","_law_k","_law_more","_law_shape_here","_law_notches","_law_room","_law_hefts","_law_mix","_law_cell","_law_made","_law_x","_law_place"] ["_law_script","_law_k","_law_more","_law_shape_here"] (za2 zn0):=⟨rfl,rfl,rfl,by decide +kernel,rfl,by decide +kernel,by decide +kernel⟩
theorem zx1:zb5 ["_law_found","_law_due","_law_k"] ["_law_found","_law_due"] (za2 zk4):=⟨rfl,rfl,rfl,by decide +kernel,rfl,by decide +kernel,by decide +kernel⟩
theorem sc_w_looked:zb5 ["_law_door","_law_beam","_law_bad_here"] ["_law_door","_law_beam","_law_bad_here"] (za2 zg8):=⟨rfl,rfl,rfl,by decide +kernel,rfl,by decide +kernel,by decide +kernel⟩
theorem sc_w_asked:zb5 ["_law_door","_law_beam","_law_play","_law_bad_here","_law_fine"] ["_law_door","_law_beam","_law_play","_law_bad_here","_law_fine"] (za2 zi5):=⟨rfl,rfl,rfl,by decide +kernel,rfl,by decide +kernel,by decide +kernel⟩
theorem zp7:zb5 ["_law_door","_law_beam","_law_play","_law_bad_here","_law_fine","e"] ["_law_door","_law_beam","_law_play","_law_bad_here","_law_fine"] (za2 zg4):=⟨rfl,rfl,rfl,by decide +kernel,rfl,by decide +kernel,by decide +kernel⟩
theorem zi9:zb5 ["_law_spots","_law_shape_here","_law_cell","_law_notches","_law_room","_law_hefts","_law_more","_law_beyond","_law_there"] ["_law_spots","_law_shape_here","_law_cell"] (za2 zn1):=⟨rfl,rfl,rfl,by decide +kernel,rfl,by decide +kernel,by decide +kernel⟩
theorem zk8:zb5 ["_law_script","_law_shape_here","_law_bad_here","_law_fine","_law_beam","_law_origin","_law_play","_law_door","_law_handed"] ["_law_script"] (za2 zx0):=⟨rfl,rfl,rfl,by decide +kernel,rfl,by decide +kernel,by decide +kernel⟩
/-! ### what the top has written -/
set_option genInjectivity false in
set_option genSizeOf false in
structure Adr where
 a_BeamError_init:Addr
 d_BeamError_init:FuncData
 a_BadStanding_init:Addr
 d_BadStanding_init:FuncData
 a_Beam_init:Addr
 d_Beam_init:FuncData
 a_outside:Addr
 d_outside:FuncData
 a_check_bounds:Addr
 d_check_bounds:FuncData
 a_check_hefts:Addr
 d_check_hefts:FuncData
 a_check_standings:Addr
 d_check_standings:FuncData
 a_as_standing:Addr
 d_as_standing:FuncData
 a_mirrored:Addr
 d_mirrored:FuncData
 a_tilt:Addr
 d_tilt:FuncData
 a_side:Addr
 d_side:FuncData
 a_past:Addr
 d_past:FuncData
 a_keeps:Addr
 d_keeps:FuncData
 a_in_hand:Addr
 d_in_hand:FuncData
 a_loads:Addr
 d_loads:FuncData
 a_refusal:Addr
 d_refusal:FuncData
 a_moved:Addr
 d_moved:FuncData
 a_moves:Addr
 d_moves:FuncData
 a_fewest:Addr
 d_fewest:FuncData
 a_next_move:Addr
 d_next_move:FuncData
 a_least:Addr
 d_least:FuncData
 a_Play_init:Addr
 d_Play_init:FuncData
 a_Play_trail:Addr
 d_Play_trail:FuncData
 a_Play_fewest:Addr
 d_Play_fewest:FuncData
 a_Play_next_move:Addr
 d_Play_next_move:FuncData
 a_Play_least:Addr
 d_Play_least:FuncData
 a_write_standing:Addr
 d_write_standing:FuncData
 a_write_beam:Addr
 d_write_beam:FuncData
 a_w_at:Addr
 d_w_at:FuncData
 a_w_whole:Addr
 d_w_whole:FuncData
 a_w_figs:Addr
 d_w_figs:FuncData
 a_w_shape:Addr
 d_w_shape:FuncData
 a_w_put:Addr
 d_w_put:FuncData
 a_w_same:Addr
 d_w_same:FuncData
 a_w_looked:Addr
 d_w_looked:FuncData
 a_w_asked:Addr
 d_w_asked:FuncData
 a_w_refused:Addr
 d_w_refused:FuncData
 a_w_bad:Addr
 d_w_bad:FuncData
 a_law:Addr
 d_law:FuncData
 c_Beam:Addr
 c_Play:Addr
 c_BadStanding:Addr
 c_BeamError:Addr
 q_MOST_NOTCHES:Tok
 q_MOST_ROOM:Tok
 q_MOST_LIMIT:Tok
 q_MOST_WEIGHTS:Tok
 q_MOST_HEFT:Tok
 q_MOST_STANDINGS:Tok
structure Txt (K:PySem.W.Frag) (mg:Str->Option Value) (t:Adr):Prop where
 F_BeamError_init:FunD K "__init__" "BeamError.__init__" zc7 t.a_BeamError_init t.d_BeamError_init
 b_BeamError_init:zc3 K t.d_BeamError_init ["self","reason","word"] []
 k_BeamError_init:PySem.W.keepIn K (.ref t.a_BeamError_init)=true
 F_BadStanding_init:FunD K "__init__" "BadStanding.__init__" zc4 t.a_BadStanding_init t.d_BadStanding_init
 b_BadStanding_init:zc3 K t.d_BadStanding_init ["self","reason"] []
 k_BadStanding_init:PySem.W.keepIn K (.ref t.a_BadStanding_init)=true
 F_Beam_init:Fun K "__init__" "Beam.__init__" zg0 t.a_Beam_init t.d_Beam_init
 b_Beam_init:zc3 K t.d_Beam_init ["self","notches","room","hefts","limit"] []
 k_Beam_init:PySem.W.keepIn K (.ref t.a_Beam_init)=true
 F_outside:Fun K "outside" "outside" zi1 t.a_outside t.d_outside
 b_outside:zc3 K t.d_outside ["number","low","high"] []
 m_outside:mg "outside" = some (.ref t.a_outside)
 k_outside:PySem.W.keepIn K (.ref t.a_outside)=true
 F_check_bounds:Fun K "check_bounds" "check_bounds" ze3 t.a_check_bounds t.d_check_bounds
 b_check_bounds:zc3 K t.d_check_bounds ["notches","room","limit"] []
 m_check_bounds:mg "check_bounds" = some (.ref t.a_check_bounds)
 k_check_bounds:PySem.W.keepIn K (.ref t.a_check_bounds)=true
 F_check_hefts:Fun K "check_hefts" "check_hefts" ze7 t.a_check_hefts t.d_check_hefts
 b_check_hefts:zc3 K t.d_check_hefts ["hefts"] []
 m_check_hefts:mg "check_hefts" = some (.ref t.a_check_hefts)
 k_check_hefts:PySem.W.keepIn K (.ref t.a_check_hefts)=true
 F_check_standings:Fun K "check_standings" "check_standings" zd2 t.a_check_standings t.d_check_standings
 b_check_standings:zc3 K t.d_check_standings ["notches","weights"] []
 m_check_standings:mg "check_standings" = some (.ref t.a_check_standings)
 k_check_standings:PySem.W.keepIn K (.ref t.a_check_standings)=true
 F_as_standing:Fun K "as_standing" "as_standing" ze8 t.a_as_standing t.d_as_standing
 b_as_standing:zc3 K t.d_as_standing ["beam","standing"] []
 m_as_standing:mg "as_standing" = some (.ref t.a_as_standing)
 k_as_standing:PySem.W.keepIn K (.ref t.a_as_standing)=true
 F_mirrored:Fun K "mirrored" "mirrored" zf0 t.a_mirrored t.d_mirrored
 b_mirrored:zc3 K t.d_mirrored ["beam","standing"] []
 m_mirrored:mg "mirrored" = some (.ref t.a_mirrored)
 k_mirrored:PySem.W.keepIn K (.ref t.a_mirrored)=true
 F_tilt:Fun K "tilt" "tilt" zl8 t.a_tilt t.d_tilt
 b_tilt:zc3 K t.d_tilt ["beam","standing"] []
 m_tilt:mg "tilt" = some (.ref t.a_tilt)
 k_tilt:PySem.W.keepIn K (.ref t.a_tilt)=true
 F_side:Fun K "side" "side" zr1 t.a_side t.d_side
 b_side:zc3 K t.d_side ["beam","standing"] []
 m_side:mg "side" = some (.ref t.a_side)
 k_side:PySem.W.keepIn K (.ref t.a_side)=true
 F_past:Fun K "past" "past" zr2 t.a_past t.d_past
 b_past:zc3 K t.d_past ["beam","tipped"] []
 m_past:mg "past" = some (.ref t.a_past)
 k_past:PySem.W.keepIn K (.ref t.a_past)=true
 F_keeps:Fun K "keeps" "keeps" zm5 t.a_keeps t.d_keeps
 b_keeps:zc3 K t.d_keeps ["beam","standing"] []
 m_keeps:mg "keeps" = some (.ref t.a_keeps)
 k_keeps:PySem.W.keepIn K (.ref t.a_keeps)=true
 F_in_hand:Fun K "in_hand" "in_hand" zi2 t.a_in_hand t.d_in_hand
 b_in_hand:zc3 K t.d_in_hand ["beam","standing","weight"] []
 m_in_hand:mg "in_hand" = some (.ref t.a_in_hand)
 k_in_hand:PySem.W.keepIn K (.ref t.a_in_hand)=true
 F_loads:Fun K "loads" "loads" zm6 t.a_loads t.d_loads
 b_loads:zc3 K t.d_loads ["beam","standing"] []
 m_loads:mg "loads" = some (.ref t.a_loads)
 k_loads:PySem.W.keepIn K (.ref t.a_loads)=true
 F_refusal:Fun K "refusal" "refusal" zi3 t.a_refusal t.d_refusal
 b_refusal:zc3 K t.d_refusal ["beam","standing","move"] []
 m_refusal:mg "refusal" = some (.ref t.a_refusal)
 k_refusal:PySem.W.keepIn K (.ref t.a_refusal)=true
 F_moved:Fun K "moved" "moved" zm7 t.a_moved t.d_moved
 b_moved:zc3 K t.d_moved ["beam","standing","move"] []
 m_moved:mg "moved" = some (.ref t.a_moved)
 k_moved:PySem.W.keepIn K (.ref t.a_moved)=true
 F_moves:Fun K "moves" "moves" zm8 t.a_moves t.d_moves
 b_moves:zc3 K t.d_moves ["beam","standing"] []
 m_moves:mg "moves" = some (.ref t.a_moves)
 k_moves:PySem.W.keepIn K (.ref t.a_moves)=true
 F_fewest:Fun K "fewest" "fewest" zk2 t.a_fewest t.d_fewest
 b_fewest:zc3 K t.d_fewest ["beam","start","goal"] []
 m_fewest:mg "fewest" = some (.ref t.a_fewest)
 k_fewest:PySem.W.keepIn K (.ref t.a_fewest)=true
 F_next_move:Fun K "next_move" "next_move" zg1 t.a_next_move t.d_next_move
 b_next_move:zc3 K t.d_next_move ["beam","start","goal"] []
 m_next_move:mg "next_move" = some (.ref t.a_next_move)
 k_next_move:PySem.W.keepIn K (.ref t.a_next_move)=true
 F_least:Fun K "least" "least" zm9 t.a_least t.d_least
 b_least:zc3 K t.d_least ["beam","start","goal"] []
 m_least:mg "least" = some (.ref t.a_least)
 k_least:PySem.W.keepIn K (.ref t.a_least)=true
 F_Play_init:Fun K "__init__" "Play.__init__" zg2 t.a_Play_init t.d_Play_init
 b_Play_init:zc3 K t.d_Play_init ["self","beam","start"] []
 k_Play_init:PySem.W.keepIn K (.ref t.a_Play_init)=true
 F_Play_trail:Fun K "trail" "Play.trail" zf3 t.a_Play_trail t.d_Play_trail
 b_Play_trail:zc3 K t.d_Play_trail ["self"] []
 k_Play_trail:PySem.W.keepIn K (.ref t.a_Play_trail)=true
 F_Play_fewest:Fun K "fewest" "Play.fewest" ze9 t.a_Play_fewest t.d_Play_fewest
 b_Play_fewest:zc3 K t.d_Play_fewest ["self","goal"] []
 k_Play_fewest:PySem.W.keepIn K (.ref t.a_Play_fewest)=true
 F_Play_next_move:Fun K "next_move" "Play.next_move" zd4 t.a_Play_next_move t.d_Play_next_move
 b_Play_next_move:zc3 K t.d_Play_next_move ["self","goal"] []
 k_Play_next_move:PySem.W.keepIn K (.ref t.a_Play_next_move)=true
 F_Play_least:Fun K "least" "Play.least" zf4 t.a_Play_least t.d_Play_least
 b_Play_least:zc3 K t.d_Play_least ["self","goal"] []
 k_Play_least:PySem.W.keepIn K (.ref t.a_Play_least)=true
 F_write_standing:Fun K "write_standing" "write_standing" zd5 t.a_write_standing t.d_write_standing
 b_write_standing:zc3 K t.d_write_standing ["beam","standing"] []
 m_write_standing:mg "write_standing" = some (.ref t.a_write_standing)
 k_write_standing:PySem.W.keepIn K (.ref t.a_write_standing)=true
 F_write_beam:Fun K "write_beam" "write_beam" zf5 t.a_write_beam t.d_write_beam
 b_write_beam:zc3 K t.d_write_beam ["beam","standing"] []
 m_write_beam:mg "write_beam" = some (.ref t.a_write_beam)
 k_write_beam:PySem.W.keepIn K (.ref t.a_write_beam)=true
 F_w_at:Fun K "_law_at" "_law_at" zr3 t.a_w_at t.d_w_at
 b_w_at:zc3 K t.d_w_at ["_law_script","_law_k"] []
 m_w_at:mg "_law_at" = some (.ref t.a_w_at)
 k_w_at:PySem.W.keepIn K (.ref t.a_w_at)=true
 F_w_whole:Fun K "_law_whole" "_law_whole" zi4 t.a_w_whole t.d_w_whole
 b_w_whole:zc3 K t.d_w_whole ["_law_found"] []
 m_w_whole:mg "_law_whole" = some (.ref t.a_w_whole)
 k_w_whole:PySem.W.keepIn K (.ref t.a_w_whole)=true
 F_w_figs:Fun K "_law_figs" "_law_figs" zk3 t.a_w_figs t.d_w_figs
 b_w_figs:zc3 K t.d_w_figs ["_law_cell","_law_count","_law_base","_law_mix"] []
 m_w_figs:mg "_law_figs" = some (.ref t.a_w_figs)
 k_w_figs:PySem.W.keepIn K (.ref t.a_w_figs)=true
 F_w_shape:Fun K "_law_shape" "_law_shape" zg3 t.a_w_shape t.d_w_shape
 b_w_shape:zc3 K t.d_w_shape ["_law_script"] []
 m_w_shape:mg "_law_shape" = some (.ref t.a_w_shape)
 k_w_shape:PySem.W.keepIn K (.ref t.a_w_shape)=true
 F_w_put:Fun K "_law_put" "_law_put" zn0 t.a_w_put t.d_w_put
 b_w_put:zc3 K t.d_w_put ["_law_script","_law_k","_law_more","_law_shape_here"] []
 m_w_put:mg "_law_put" = some (.ref t.a_w_put)
 k_w_put:PySem.W.keepIn K (.ref t.a_w_put)=true
 F_w_same:Fun K "_law_same" "_law_same" zk4 t.a_w_same t.d_w_same
 b_w_same:zc3 K t.d_w_same ["_law_found","_law_due"] []
 m_w_same:mg "_law_same" = some (.ref t.a_w_same)
 k_w_same:PySem.W.keepIn K (.ref t.a_w_same)=true
 F_w_looked:Fun K "_law_looked" "_law_looked" zg8 t.a_w_looked t.d_w_looked
 b_w_looked:zc3 K t.d_w_looked ["_law_door","_law_beam","_law_bad_here"] []
 m_w_looked:mg "_law_looked" = some (.ref t.a_w_looked)
 k_w_looked:PySem.W.keepIn K (.ref t.a_w_looked)=true
 F_w_asked:Fun K "_law_asked" "_law_asked" zi5 t.a_w_asked t.d_w_asked
 b_w_asked:zc3 K t.d_w_asked ["_law_door","_law_beam","_law_play","_law_bad_here","_law_fine"] []
 m_w_asked:mg "_law_asked" = some (.ref t.a_w_asked)
 k_w_asked:PySem.W.keepIn K (.ref t.a_w_asked)=true
 F_w_refused:Fun K "_law_refused" "_law_refused" zg4 t.a_w_refused t.d_w_refused
 b_w_refused:zc3 K t.d_w_refused ["_law_door","_law_beam","_law_play","_law_bad_here","_law_fine"] []
 m_w_refused:mg "_law_refused" = some (.ref t.a_w_refused)
 k_w_refused:PySem.W.keepIn K (.ref t.a_w_refused)=true
 F_w_bad:Fun K "_law_bad" "_law_bad" zn1 t.a_w_bad t.d_w_bad
 b_w_bad:zc3 K t.d_w_bad ["_law_spots","_law_shape_here","_law_cell"] []
 m_w_bad:mg "_law_bad" = some (.ref t.a_w_bad)
 k_w_bad:PySem.W.keepIn K (.ref t.a_w_bad)=true
 F_law:Fun K "law" "law" zx0 t.a_law t.d_law
 b_law:zc3 K t.d_law ["_law_script"] []
 m_law:mg "law" = some (.ref t.a_law)
 k_law:PySem.W.keepIn K (.ref t.a_law)=true
 cl_Beam:Cls K t.c_Beam
 m_Beam:mg "Beam" = some (.ref t.c_Beam)
 mk_Beam:Mk K t.c_Beam t.a_Beam_init
 na_Beam_notches:ze2 K t.c_Beam "notches"
 na_Beam_room:ze2 K t.c_Beam "room"
 na_Beam_hefts:ze2 K t.c_Beam "hefts"
 na_Beam_limit:ze2 K t.c_Beam "limit"
 cl_Play:Cls K t.c_Play
 m_Play:mg "Play" = some (.ref t.c_Play)
 mk_Play:Mk K t.c_Play t.a_Play_init
 na_Play_beam:ze2 K t.c_Play "beam"
 na_Play_start:ze2 K t.c_Play "start"
 na_Play_standing:ze2 K t.c_Play "standing"
 na_Play_made:ze2 K t.c_Play "made"
 m_fewest_layers:mg "fewest_layers" = some (.ref t.a_fewest)
 m_next_move_layers:mg "next_move_layers" = some (.ref t.a_next_move)
 m_least_limits:mg "least_limits" = some (.ref t.a_least)
 me_Play_trail:Meth K t.c_Play "trail" t.a_Play_trail
 me_Play_fewest:Meth K t.c_Play "fewest" t.a_Play_fewest
 me_Play_next_move:Meth K t.c_Play "next_move" t.a_Play_next_move
 me_Play_least:Meth K t.c_Play "least" t.a_Play_least
 m_BadStanding:mg "BadStanding" = some (.ref t.c_BadStanding)
 m_BeamError:mg "BeamError" = some (.ref t.c_BeamError)
 x_BadStanding:XCls K t.c_BadStanding
 i_BadStanding:PySem.W.findIn K (.ref t.c_BadStanding) "__init__" = some (some (.ref t.a_BadStanding_init))
 if_BadStanding:PySem.W.isFn K (.ref t.a_BadStanding_init)=true
 na_BadStanding_reason:ze2 K t.c_BadStanding "reason"
 na_BadStanding_word:ze2 K t.c_BadStanding "word"
 xw:XWay K
 xa_BadStanding:XAsk K t.c_BadStanding
 xm_BadStanding_BeamError:PySem.W.exmOne K (.ref t.c_BadStanding) (.ref t.c_BeamError)=some true
 kt_BadStanding_BadStanding:PySem.W.kitOne K (.ref t.c_BadStanding) (.ref t.c_BadStanding)=some true
 cm_BeamError:zI6 K t.c_BeamError "__init__" t.a_BeamError_init
 n_tuple:mg "tuple" = none
 n_len:mg "len" = none
 n_range:mg "range" = none
 n_sum:mg "sum" = none
 n_zip:mg "zip" = none
 n_abs:mg "abs" = none
 n_list:mg "list" = none
 n_isinstance:mg "isinstance" = none
 n_int:mg "int" = none
 n_bool:mg "bool" = none
 n_min:mg "min" = none
 g_MOST_NOTCHES:mg "MOST_NOTCHES" = some (.int 4 t.q_MOST_NOTCHES)
 g_MOST_ROOM:mg "MOST_ROOM" = some (.int 3 t.q_MOST_ROOM)
 g_MOST_LIMIT:mg "MOST_LIMIT" = some (.int 400 t.q_MOST_LIMIT)
 g_MOST_WEIGHTS:mg "MOST_WEIGHTS" = some (.int 5 t.q_MOST_WEIGHTS)
 g_MOST_HEFT:mg "MOST_HEFT" = some (.int 20 t.q_MOST_HEFT)
 g_MOST_STANDINGS:mg "MOST_STANDINGS" = some (.int 1000 t.q_MOST_STANDINGS)
end Bt
namespace Bt
open PySem L2
/-! ### mathematics -/
noncomputable def zh6 (cell base:Int) (mix:Bool):Nat->Int×List Int
 | 0=>(if mix=true then cell*48271 % 2147483647 else cell,[])
 | i+1 =>
   if mix=true then (((zh6 cell base mix i).1+(0+(i:Int))+1)*69621 % 2147483647,(zh6 cell base mix i).2++[(((zh6 cell base mix i).1+(0+(i:Int))+1)*69621 % 2147483647) / 8 % base])
   else ((zh6 cell base mix i).1 / base,(zh6 cell base mix i).2++[(zh6 cell base mix i).1 % base])
noncomputable def figs (cell:Int) (n:Nat) (base:Int) (mix:Bool):List Int:=(zh6 cell base mix n).2
theorem zp8 (cell base:Int) (mix:Bool) (n:Nat):(figs cell n base mix).length=n:=by
 unfold figs
 induction n with
 | zero=>rfl
 | succ n ih =>
   unfold zh6
   cases mix
   . rw[if_neg (by decide)];simp[ih]
   . rw[if_pos rfl];simp[ih]
theorem zz4 {cell base:Int} {mix:Bool} (hb:0<base) (n:Nat):∀ x∈figs cell n base mix,0<=x/\x<base:=by
 unfold figs
 induction n with
 | zero=>intro x hx;cases hx
 | succ n ih =>
   unfold zh6
   have key:∀ z:Int,0<=z % base/\z % base<base:=fun z=>⟨Int.emod_nonneg _ (by omega),Int.emod_lt_of_pos _ hb⟩
   intro x hx
   cases mix
   . rw[if_neg (by decide)] at hx
     rcases List.mem_append.mp hx with h | h
     . exact ih x h
     . obtain rfl:=List.mem_singleton.mp h;exact key _
   . rw[if_pos rfl] at hx
     rcases List.mem_append.mp hx with h | h
     . exact ih x h
     . obtain rfl:=List.mem_singleton.mp h;exact key _
structure zz5 (n r:Int) (hs:List Int) (lim:Int):Prop where
 n1:1<=n
 n2:n<=4
 r1:1<=r
 r2:r<=3
 l1:0<=lim
 l2:lim<=400
 w:hs.length<=5
 h:∀ x∈hs,1<=x/\x<=20
 most:(2*n+1) ^ hs.length<=1000
structure ze1 (n r:Int) (w:Nat) (xs:List Int):Prop where
 len:xs.length=w
 on:∀ x∈xs,-n<=x/\x<=n
 room:∀ x∈xs,x≠0->(xs.count x:Int)<=r
/-! ### the shape and the standing that a script draws -/
noncomputable abbrev at0 (ns:List Int) (k:Nat):Int:=ns.getD k 0
noncomputable def zj4 (ns:List Int):Bool:=decide (V.int (at0 ns 0 % 2)=V.int 1)
noncomputable def shN (ns:List Int):Int:=([2,3,1,4]:List Int).getD (at0 ns 1 % 4).toNat 0
noncomputable def shW (ns:List Int):Int :=
 if ([3,2,4,1,5,0]:List Int).getD (at0 ns 1 / 4 % 6).toNat 0<([5,4,3,3]:List Int).getD (shN ns-1).toNat 0 then ([3,2,4,1,5,0]:List Int).getD (at0 ns 1 / 4 % 6).toNat 0 else ([5,4,3,3]:List Int).getD (shN ns-1).toNat 0
noncomputable def shR (ns:List Int):Int:=1+at0 ns 1 / 24 % 3
noncomputable def shH0 (ns:List Int):List Int:=(figs (at0 ns 2) (shW ns).toNat 20 (zj4 ns)).map fun x=>1+x
noncomputable def shH (ns:List Int):List Int :=
 if at0 ns 0 / 2 % 5=1 then (List.replicate (shW ns).toNat ((shH0 ns).take 1)).flatten else if at0 ns 0 / 2 % 5=2 then (List.replicate (shW ns).toNat [20]).flatten else shH0 ns
theorem zr6 (ns:List Int):shN ns=2\/shN ns=3\/shN ns=1\/shN ns=4:=by
 unfold shN
 have h1:0<=at0 ns 1 % 4:=Int.emod_nonneg _ (by decide)
 have h2:at0 ns 1 % 4<4:=Int.emod_lt_of_pos _ (by decide)
 have:at0 ns 1 % 4=0\/at0 ns 1 % 4=1\/at0 ns 1 % 4=2\/at0 ns 1 % 4=3:=by omega
 rcases this with e | e | e | e<;>rw[e]<;>decide
theorem cap_of {n:Int}:n=2\/n=3\/n=1\/n=4->([5,4,3,3]:List Int).getD (n-1).toNat 0=(if n=1 then 5 else if n=2 then 4 else 3):=by
 rintro (rfl | rfl | rfl | rfl)<;>decide
theorem six_of (z:Int):0<=([3,2,4,1,5,0]:List Int).getD (z % 6).toNat 0/\([3,2,4,1,5,0]:List Int).getD (z % 6).toNat 0<=5:=by
 have h1:0<=z % 6:=Int.emod_nonneg _ (by decide)
 have h2:z % 6<6:=Int.emod_lt_of_pos _ (by decide)
 have:z % 6=0\/z % 6=1\/z % 6=2\/z % 6=3\/z % 6=4\/z % 6=5:=by omega
 rcases this with e | e | e | e | e | e<;>rw[e]<;>decide
theorem zH2 (ns:List Int):0<=shW ns/\shW ns<=(if shN ns=1 then 5 else if shN ns=2 then 4 else 3):=by
 unfold shW
 obtain ⟨h1,h2⟩:=six_of (at0 ns 1 / 4)
 rw[cap_of (zr6 ns)]
 have h3:(0:Int)<=(if shN ns=1 then 5 else if shN ns=2 then 4 else 3):=by repeat (first | decide | split)
 split<;>omega
theorem pow_cap {n:Int} (h:n=2\/n=3\/n=1\/n=4) {w:Nat} (hw:(w:Int)<=(if n=1 then 5 else if n=2 then 4 else 3)):(2*n+1) ^ w<=1000:=by
 have h5:(if n=1 then (5:Int) else if n=2 then 4 else 3)<=5:=by repeat (first | decide | split)
 have:w=0\/w=1\/w=2\/w=3\/w=4\/w=5:=by omega
 rcases h with rfl | rfl | rfl | rfl<;>rcases this with rfl | rfl | rfl | rfl | rfl | rfl<;>first | decide | (exfalso;revert hw;decide)
theorem zB0 (ns:List Int):(shH0 ns).length=(shW ns).toNat:=by unfold shH0;rw[List.length_map,zp8]
theorem shH_len (ns:List Int):(shH ns).length=(shW ns).toNat:=by
 unfold shH
 have h0:=zB0 ns
 split
 . rw[zy9,List.length_take,h0]
   by_cases h:(shW ns).toNat=0
   . rw[h];simp
   . rw[Nat.min_eq_left (by omega),Nat.mul_one]
 . split
   . rw[zy9];simp
   . exact h0
theorem zE8 (ns:List Int):∀ x∈shH0 ns,1<=x/\x<=20:=by
 intro x hx
 unfold shH0 at hx
 obtain ⟨y,hy,rfl⟩:=List.mem_map.mp hx
 have:=zz4 (by decide) _ y hy
 omega
theorem shH_in (ns:List Int):∀ x∈shH ns,1<=x/\x<=20:=by
 intro x hx
 unfold shH at hx
 split at hx
 . obtain ⟨l,hl,hx⟩:=List.mem_flatten.mp hx
   obtain ⟨_,rfl⟩:=List.mem_replicate.mp hl
   exact zE8 ns x (List.mem_of_mem_take hx)
 . split at hx
   . obtain ⟨l,hl,hx⟩:=List.mem_flatten.mp hx
     obtain ⟨_,rfl⟩:=List.mem_replicate.mp hl
     obtain rfl:=List.mem_singleton.mp hx
     omega
   . exact zE8 ns x hx
theorem sh_ok (ns:List Int) {lim:Int} (h1:0<=lim) (h2:lim<=400):zz5 (shN ns) (shR ns) (shH ns) lim:=by
 have hN:=zr6 ns
 have hW:=zH2 ns
 have hl:=shH_len ns
 have h5:(if shN ns=1 then (5:Int) else if shN ns=2 then 4 else 3)<=5:=by repeat (first | decide | split)
 have hR1:0<=at0 ns 1 / 24 % 3:=Int.emod_nonneg _ (by decide)
 have hR2:at0 ns 1 / 24 % 3<3:=Int.emod_lt_of_pos _ (by decide)
 exact⟨by omega,by omega,by unfold shR;omega,by unfold shR;omega,h1,h2,by omega,shH_in ns,pow_cap hN (by omega)⟩
noncomputable def zi0 (n r:Int) (last:Bool) (made:List Int) (x:Int):List Int :=
 made++[if (if last=true then n else x-n)≠0/\r<=(made.count (if last=true then n else x-n):Int) then 0 else (if last=true then n else x-n)]
noncomputable def putL (n r:Int) (last:Bool) (xs:List Int):List Int:=xs.foldl (zi0 n r last) []
noncomputable def zB1 (ns:List Int) (k:Nat) (more n r:Int) (w:Nat):List Int :=
 putL n r (decide (V.int ((at0 ns k+more) % 13)=V.int 12)) (figs (at0 ns k+more) w (2*n+1) (zj4 ns))
theorem zx2 (n r:Int) (last:Bool) (xs:List Int) (x:Int):putL n r last (xs++[x])=zi0 n r last (putL n r last xs) x:=by
 unfold putL;rw[List.foldl_append];rfl
theorem zE9 {n r:Int} (last:Bool) (hn:0<=n) (hr:1<=r) (xs:List Int) (hx:∀ x∈xs,0<=x/\x<2*n+1) :
   (putL n r last xs).length=xs.length/\(∀ y∈putL n r last xs,-n<=y/\y<=n)/\∀ y,y≠0->((putL n r last xs).count y:Int)<=r:=by
 have main:∀ (k:Nat) (xs:List Int),xs.length=k->(∀ x∈xs,0<=x/\x<2*n+1)->(putL n r last xs).length=xs.length/\(∀ y∈putL n r last xs,-n<=y/\y<=n)/\∀ y,y≠0->((putL n r last xs).count y:Int)<=r:=by
   intro k
   induction k with
   | zero =>
     intro xs hk _
     have:xs=[]:=List.eq_nil_of_length_eq_zero hk
     subst this
     exact⟨rfl,(fun y hy=>nomatch hy),fun y _=>by show ((([]:List Int).count y:Nat):Int)<=r;simp;omega⟩
   | succ k ih =>
     intro xs hk hx
     obtain ⟨ys,x,rfl⟩:∃ ys x,xs=ys++[x]:=⟨xs.dropLast,xs.getLast (by intro e;rw[e] at hk;cases hk),(List.dropLast_concat_getLast _).symm⟩
     have hk':ys.length=k:=by rw[List.length_append,List.length_singleton] at hk;omega
     obtain ⟨h1,h2,h3⟩:=ih ys hk' fun z hz=>hx z (List.mem_append_left _ hz)
     have hx0:=hx x (List.mem_append_right _ (List.mem_singleton.mpr rfl))
     rw[zx2]
     unfold zi0
     have hp:-n<=(if last=true then n else x-n)/\(if last=true then n else x-n)<=n:=by split<;>omega
     generalize (if last=true then n else x-n)=p at hp ⊢
     refine⟨by rw[List.length_append,List.length_append,h1];rfl,fun y hy=>?_,fun y hy=>?_⟩
     . rcases List.mem_append.mp hy with hy | hy
       . exact h2 y hy
       . obtain rfl:=List.mem_singleton.mp hy
         split<;>omega
     . rw[List.count_append,List.count_singleton]
       have h3y:=h3 y hy
       by_cases hc:p≠0/\r<=((putL n r last ys).count p:Int)
       . rw[if_pos hc]
         have:((0:Int) == y)=false:=by simpa using fun e=>hy e.symm
         rw[this]
         simpa using h3y
       . rw[if_neg hc]
         by_cases e:p=y
         . subst e
           have:¬ r<=((putL n r last ys).count p:Int):=fun z=>hc ⟨hy,z⟩
           simp
           omega
         . have:(p == y)=false:=by simpa using e
           rw[this]
           simpa using h3y
 exact main xs.length xs rfl hx
theorem put_ok (ns:List Int) (k:Nat) (more:Int) {n r:Int} (w:Nat) (hn:1<=n) (hr:1<=r):ze1 n r w (zB1 ns k more n r w):=by
 unfold zB1
 obtain ⟨h1,h2,h3⟩:=zE9 (n:=n) (r:=r) (decide (V.int ((at0 ns k+more) % 13)=V.int 12)) (by omega) hr (figs (at0 ns k+more) w (2*n+1) (zj4 ns)) (zz4 (by omega) w)
 exact⟨by rw[h1,zp8],h2,fun x _ h0=>h3 x h0⟩
/-! ### the data -/
noncomputable def zp9 (n r:Int) (h:Addr) (lim:Int):List (Str×V):=putF "limit" (.int lim) (putF "hefts" (.ref h) (putF "room" (.int r) (putF "notches" (.int n) [])))
theorem zx3 (n r:Int) (h:Addr) (lim:Int):(zp9 n r h lim).lookup ("notches" : Str)=some (V.int n):=by
 unfold zp9
 rw[zb3,if_neg (by decide +kernel),zb3,if_neg (by decide +kernel),zb3,if_neg (by decide +kernel),zb3,if_pos rfl]
theorem b_room (n r:Int) (h:Addr) (lim:Int):(zp9 n r h lim).lookup ("room" : Str)=some (V.int r):=by
 unfold zp9
 rw[zb3,if_neg (by decide +kernel),zb3,if_neg (by decide +kernel),zb3,if_pos rfl]
theorem zF0 (n r:Int) (h:Addr) (lim:Int):(zp9 n r h lim).lookup ("hefts" : Str)=some (V.ref h):=by
 unfold zp9
 rw[zb3,if_neg (by decide +kernel),zb3,if_pos rfl]
theorem b_limit (n r:Int) (h:Addr) (lim:Int):(zp9 n r h lim).lookup ("limit" : Str)=some (V.int lim):=by
 unfold zp9
 rw[zb3,if_pos rfl]
noncomputable def zf8 (t:Adr) (H:Hp) (b:Addr) (n r:Int) (hs:List Int) (lim:Int):Prop :=
 zz5 n r hs lim/\∃ dx h,H b=some (.ins t.c_Beam dx (zp9 n r h lim))/\H h=some (.tup (hs.map V.int))
theorem zf8.same {t:Adr} {H H':Hp} {b:Addr} {n r:Int} {hs:List Int} {lim:Int} (B:zf8 t H b n r hs lim) (s:Same H H'):zf8 t H' b n r hs lim:=by
 obtain ⟨ok,dx,h,e1,e2⟩:=B
 exact⟨ok,dx,h,s _ _ e1,s _ _ e2⟩
/-! ### promises -/
noncomputable def zk9 (K:PySem.W.Frag) (t:Adr):Sp:=fun vs H Q _=>∃ a lo hi:Int,vs=[.int a,.int lo,.int hi]/\Q (.bl (decide (a<lo) || decide (hi<a))) H
noncomputable def zl3 (K:PySem.W.Frag) (t:Adr):Sp:=fun vs H Q _=>∃ n r l:Int,vs=[.int n,.int r,.int l]/\(1<=n/\n<=4/\1<=r/\r<=3/\0<=l/\l<=400)/\Q .non H
noncomputable def zm0 (K:PySem.W.Frag) (t:Adr):Sp:=fun vs H Q _=>∃ (a:Addr) (hs:List Int),vs=[.ref a]/\(SqL K H a (hs.map V.int)\/SqT K H a (hs.map V.int))/\(hs.length<=5/\∀ x∈hs,1<=x/\x<=20)/\Q .non H
noncomputable def zj0 (K:PySem.W.Frag) (t:Adr):Sp:=fun vs H Q _=>∃ (n:Int) (w:Nat),vs=[.int n,.int w]/\(1<=n/\n<=4/\w<=5/\(2*n+1) ^ w<=1000)/\Q .non H
noncomputable def zq0 (K:PySem.W.Frag) (t:Adr):Sp:=fun vs H Q _=>∃ (p dx a:Addr) (n r lim:Int) (hs:List Int),vs=[.ref p,.int n,.int r,.ref a,.int lim]/\H p=some (.ins t.c_Beam dx []) ∧
 (SqL K H a (hs.map V.int)\/H a=some (.tup (hs.map V.int)))/\zz5 n r hs lim/\∀ H',zf8 t H' p n r hs lim->zi6 p H H'->Q .non H'
noncomputable def zs8 (K:PySem.W.Frag) (t:Adr):Sp:=fun vs H Q _=>∃ (a:Addr) (ns:List Int) (k:Nat),vs=[.ref a,.int k]/\SqL K H a (ns.map V.int)/\Q (.int (ns.getD k 0)) H
noncomputable def zu9 (K:PySem.W.Frag) (t:Adr):Sp:=fun vs H Q _=>∃ i:Int,vs=[.int i]/\Q (.bl true) H
noncomputable def zr7 (K:PySem.W.Frag) (t:Adr):Sp:=fun vs H Q _=>∃ (cell base:Int) (n:Nat) (mix:Bool),vs=[.int cell,.int n,.int base,.bl mix]/\(n<=1000/\0<base/\base<1000) ∧
 ∀ l,H l=none->Q (.ref l) (upd H l (.lst ((figs cell n base mix).map V.int)))
noncomputable def zx4 (K:PySem.W.Frag) (t:Adr):Sp:=fun vs H Q _=>∃ (a b:Addr) (xs ys:List Int),vs=[.ref a,.ref b]/\(SqL K H a (xs.map V.int)\/SqT K H a (xs.map V.int))/\(SqL K H b (ys.map V.int)\/SqT K H b (ys.map V.int))/\ys.length<=1000/\Q (.bl (decide (xs=ys))) H
noncomputable def zv0 (K:PySem.W.Frag) (t:Adr):Sp:=fun vs H Q _=>∃ (a:Addr) (ns:List Int),vs=[.ref a]/\SqL K H a (ns.map V.int) ∧
 ∀ l h H',Same H H'->H l=none->H h=none->H' h=some (.lst ((shH ns).map V.int))->H' l=some (.lst [.int (shN ns),.int (shR ns),.ref h])->Q (.ref l) H'
noncomputable def zB2 (K:PySem.W.Frag) (t:Adr):Sp:=fun vs H Q _=>∃ (a sh h:Addr) (ns:List Int) (k:Nat) (more n r:Int) (hs:List Int),vs=[.ref a,.int k,.int more,.ref sh]/\SqL K H a (ns.map V.int) ∧
 H sh=some (.lst [.int n,.int r,.ref h])/\SqL K H h (hs.map V.int)/\(1<=n/\n<=4/\1<=r/\hs.length<=5) ∧
 ∀ l H',Same H H'->H l=none->H' l=some (.lst ((zB1 ns k more n r hs.length).map V.int))->Q (.ref l) H'
noncomputable def zB3 (K:PySem.W.Frag):Sp:=fun vs H Q _=>∃ (a:Addr) (ns:List Int),vs=[.ref a]/\SqL K H a (ns.map V.int)/\ns.length<=63/\∀ H',Q (.bl true) H'
noncomputable def sp_law (K:PySem.W.Frag) (t:Adr):Sp:=zB3 K
section
variable {P:Program} {w:World} {K:PySem.W.Frag} {mg:Str->Option Value} {base:Heap} {t:Adr}
theorem zo3 (T:Txt K mg t):FnOk P w K mg base CX0 1 t.a_outside t.d_outside ["number","low","high"] (zk9 K t):=by
 refine T.F_outside.ok sc_outside (fun vs H Q E h=>?_) (fun cdv A outer s H vs Q E hr h=>?_)
 . obtain ⟨a,lo,hi,rfl,q⟩:=h
   rfl
 . obtain ⟨a,lo,hi,rfl,q⟩:=h
   refine⟨_,(za6 (zb6 (pe_or (zm4 zG3 (pv 0) (pv 1) (zb9 _)) (zF5 (zm4 zw0 (pv 0) (pv 2) (zb9 _)))))),?_⟩
   refine⟨_,rfl,_,rfl,_,_,rfl,rfl,_,rfl,?_⟩
   refine ite2 (fun h1=>?_) (fun h1=>?_)
   . rw[h1] at q
     exact q
   . rw[Bool.eq_false_iff.mpr h1] at q
     exact⟨_,rfl,_,rfl,_,_,rfl,rfl,q⟩
theorem ok_check_bounds (T:Txt K mg t):FnOk P w K mg base CX0 2 t.a_check_bounds t.d_check_bounds ["notches","room","limit"] (zl3 K t):=by
 have G_outside:FnOk P w K mg base CX0 1 t.a_outside t.d_outside ["number","low","high"] (zk9 K t):=zo3 T
 refine T.F_check_bounds.ok sc_check_bounds (fun vs H Q E h=>?_) (fun cdv A outer s H vs Q E hr h=>?_)
 . obtain ⟨n,r,l,rfl,⟨h1,h2,h3,h4,h5,h6⟩,q⟩:=h
   rfl
 . obtain ⟨n,r,l,rfl,⟨h1,h2,h3,h4,h5,h6⟩,q⟩:=h
   have hr_outside:Room 1 _:=hr.mono (by decide)
   refine⟨_,(za1 (zc6 (zg6 (za9 G_outside hr_outside rfl T.m_outside T.k_outside T.b_outside .nil zd3 (za0 (pv 0) (za0 za5 (za0 (zk6 (v:=.int 4) rfl T.g_MOST_NOTCHES ⟨_,rfl⟩) za4))))) (za6 zj8) zb4)
     (za1 (zc6 (zg6 (za9 G_outside hr_outside rfl T.m_outside T.k_outside T.b_outside .nil zd3 (za0 (pv 1) (za0 za5 (za0 (zk6 (v:=.int 3) rfl T.g_MOST_ROOM ⟨_,rfl⟩) za4))))) (za6 zj8) zb4)
     (za6 (zc6 (zg6 (za9 G_outside hr_outside rfl T.m_outside T.k_outside T.b_outside .nil zd3 (za0 (pv 2) (za0 za5 (za0 (zk6 (v:=.int 400) rfl T.g_MOST_LIMIT ⟨_,rfl⟩) za4))))) (za6 zj8) zb4)))),?_⟩
   refine⟨_,rfl,_,_,_,rfl,_,rfl,iteB (zu2 h1 h2) ?_⟩
   refine⟨_,rfl,_,_,_,rfl,_,rfl,iteB (zu2 h3 h4) ?_⟩
   exact⟨_,rfl,_,_,_,rfl,_,rfl,iteB (zu2 h5 h6) q⟩
theorem ok_check_hefts (T:Txt K mg t):FnOk P w K mg base CX0 2 t.a_check_hefts t.d_check_hefts ["hefts"] (zm0 K t):=by
 have G_outside:FnOk P w K mg base CX0 1 t.a_outside t.d_outside ["number","low","high"] (zk9 K t):=zo3 T
 refine T.F_check_hefts.ok zl9 (fun vs H Q E h=>?_) (fun cdv A outer s H vs Q E hr h=>?_)
 . obtain ⟨a,hs,rfl,hS,⟨hl,hh⟩,q⟩:=h
   rfl
 . obtain ⟨a,hs,rfl,hS,⟨hl,hh⟩,q⟩:=h
   have hr_outside:Room 1 _:=hr.mono (by decide)
   refine⟨_,(za1 (zc6 (zb7 zw0 (zd0 zc8 rfl T.n_len PySem.boot_len (za0 (pv 0) za4)) (zk6 (v:=.int 5) rfl T.g_MOST_WEIGHTS ⟨_,rfl⟩) (zb9 _)) (za6 zj8) zb4)
     (za6 (zo0 PassesOwn.never rfl (pi_seq (pv 0)) (zd8 (i:=1) zl9.nd rfl (Or.inl rfl)) (za6 (zc6 (zg6 (za9 G_outside hr_outside rfl T.m_outside T.k_outside T.b_outside .nil zd3 (za0 (pv 1) (za0 za5 (za0 (zk6 (v:=.int 20) rfl T.g_MOST_HEFT ⟨_,rfl⟩) za4))))) (za6 zj8) zb4))))),?_⟩
   refine⟨_,rfl,a,hs.map V.int,rfl,hS,_,_,rfl,rfl,_,rfl,iteB (zG8 (by rw[List.length_map];omega)) ?_⟩
   refine⟨_,rfl,a,rfl,?_⟩
   have turn:∀ (i:Nat) x,(hs.map V.int)[i]?=some x->∃ z,x = .int z/\1<=z/\z<=20:=fun i x e=>by
     obtain ⟨z,rfl,hz⟩:=zu3 e
     exact⟨z,rfl,hh z (List.mem_of_getElem? hz)⟩
   rcases hS with hS | hS
   . refine .inl ⟨⟨_,hS⟩,zz9 (K:=K) (a:=a) (xs:=hs.map V.int) (fun i σ H'=>∃ v,σ=[some (.ref a),v]/\H'=H) ⟨_,rfl,rfl⟩ (fun i σ H' _ ⟨_,_,e⟩=>e▸hS) ?_ ?_⟩
     . rintro i x σ H' hi ⟨v,rfl,rfl⟩
       obtain ⟨z,rfl,h1,h2⟩:=turn i x hi
       exact⟨_,rfl,_,_,_,rfl,_,rfl,iteB (zu2 h1 h2) ⟨_,rfl,rfl⟩⟩
     . rintro σ H' ⟨v,rfl,rfl⟩
       exact q
   . refine .inr ⟨⟨_,hS⟩,zD2 (K:=K) (a:=a) (xs:=hs.map V.int) (fun i σ H'=>∃ v,σ=[some (.ref a),v]/\H'=H) ⟨_,rfl,rfl⟩ (fun i σ H' _ ⟨_,_,e⟩=>e▸hS) ?_ ?_⟩
     . rintro i x σ H' hi ⟨v,rfl,rfl⟩
       obtain ⟨z,rfl,h1,h2⟩:=turn i x hi
       exact⟨_,rfl,_,_,_,rfl,_,rfl,iteB (zu2 h1 h2) ⟨_,rfl,rfl⟩⟩
     . rintro σ H' ⟨v,rfl,rfl⟩
       exact q
theorem ok_check_standings (T:Txt K mg t):FnOk P w K mg base CX0 1 t.a_check_standings t.d_check_standings ["notches","weights"] (zj0 K t):=by
 refine T.F_check_standings.ok ze4 (fun vs H Q E h=>?_) (fun cdv A outer s H vs Q E hr h=>?_)
 . obtain ⟨n,w,rfl,⟨h1,h2,h3,h4⟩,q⟩:=h
   rfl
 . obtain ⟨n,w,rfl,⟨h1,h2,h3,h4⟩,q⟩:=h
   refine⟨_,(za1 (zb8 (i:=2) ze4.nd rfl (Or.inl rfl) za5)
     (za1 (zo0 PassesOwn.never rfl (zm3 rfl T.n_range (za0 (pv 1) za4)) (zd8 (i:=3) ze4.nd rfl (Or.inl rfl)) (za6 (zb8 (i:=2) ze4.nd rfl (Or.inl rfl) (zc1 zq8 (pv 2) (zc1 zg7 (zc1 zq8 za5 (pv 0)) za5)))))
     (za6 (zc6 (zb7 zw0 (pv 2) (zk6 (v:=.int 1000) rfl T.g_MOST_STANDINGS ⟨_,rfl⟩) (zb9 _)) (za6 zj8) zb4)))),?_⟩
   refine⟨_,rfl,_,rfl,by omega,by omega,zj9 (n:=(w:Int).toNat) (fun i σ H'=>∃ v,σ=[some (.int n),some (.int w),some (.int ((2*n+1) ^ i)),v]/\H'=H) ⟨none,by rw[Int.pow_zero];rfl,rfl⟩ ?_ ?_⟩
   . rintro i σ H' hi ⟨v,rfl,rfl⟩
     exact⟨_,rfl,_,rfl,_,_,rfl,rfl,.inl ⟨by decide,by decide⟩,_,_,rfl,rfl,_,_,rfl,rfl,.inr ⟨by omega,by omega⟩,_,by rw[Int.pow_succ];rfl,rfl⟩
   . rintro σ H' ⟨v,rfl,rfl⟩
     exact⟨_,rfl,_,_,rfl,rfl,_,rfl,iteB (zG8 (by rw[Int.toNat_natCast];exact h4)) q⟩
theorem ok_Beam_init (T:Txt K mg t):FnOk P w K mg base CX0 3 t.a_Beam_init t.d_Beam_init ["self","notches","room","hefts","limit"] (zq0 K t):=by
 have G_check_bounds:FnOk P w K mg base CX0 2 t.a_check_bounds t.d_check_bounds ["notches","room","limit"] (zl3 K t):=ok_check_bounds T
 have G_check_hefts:FnOk P w K mg base CX0 2 t.a_check_hefts t.d_check_hefts ["hefts"] (zm0 K t):=ok_check_hefts T
 have G_check_standings:FnOk P w K mg base CX0 1 t.a_check_standings t.d_check_standings ["notches","weights"] (zj0 K t):=ok_check_standings T
 refine T.F_Beam_init.ok sc_Beam_init (fun vs H Q E h=>?_) (fun cdv A outer s H vs Q E hr h=>?_)
 . obtain ⟨p,dx,a,n,r,lim,hs,rfl,hp,hS,B,q⟩:=h
   rfl
 . obtain ⟨p,dx,a,n,r,lim,hs,rfl,hp,hS,B,q⟩:=h
   have hr_check_bounds:Room 2 _:=hr.mono (by decide)
   have hr_check_hefts:Room 2 _:=hr.mono (by decide)
   have hr_check_standings:Room 1 _:=hr.mono (by decide)
   refine⟨_,(za1 (zh8 (za9 G_check_bounds hr_check_bounds rfl T.m_check_bounds T.k_check_bounds T.b_check_bounds .nil zd3 (za0 (pv 1) (za0 (pv 2) (za0 (pv 4) za4)))))
     (za1 (zh8 (za9 G_check_hefts hr_check_hefts rfl T.m_check_hefts T.k_check_hefts T.b_check_hefts .nil zd3 (za0 (pv 3) za4)))
     (za1 (zh8 (za9 G_check_standings hr_check_standings rfl T.m_check_standings T.k_check_standings T.b_check_standings .nil zd3 (za0 (pv 1) (za0 (zd0 zc8 rfl T.n_len PySem.boot_len (za0 (pv 3) za4)) za4))))
     (za1 (zl5 (pv 0) (pv 1) rfl)
     (za1 (zl5 (pv 0) (pv 2) rfl)
     (za1 (zl5 (pv 0) (zf9 zh1 rfl T.n_tuple PyProof.Rows.boot_tuple (za0 (pv 3) za4)) rfl)
     (za6 (zl5 (pv 0) (pv 4) rfl)))))))),?_⟩
   have hS':SqL K H a (hs.map V.int)\/SqT K H a (hs.map V.int):=hS.imp id SqT.of
   refine⟨_,rfl,_,rfl,_,rfl,n,r,lim,rfl,⟨B.n1,B.n2,B.r1,B.r2,B.l1,B.l2⟩,?_⟩
   refine⟨_,rfl,a,hs,rfl,hS',⟨B.w,B.h⟩,?_⟩
   refine⟨_,rfl,_,rfl,a,_,rfl,hS',n,hs.length,by rw[List.length_map];rfl,⟨B.n1,B.n2,B.w,B.most⟩,?_⟩
   refine⟨_,rfl,_,rfl,p,_,dx,_,rfl,hp,T.cl_Beam,T.na_Beam_notches,by decide,?_⟩
   refine⟨_,rfl,_,rfl,p,_,dx,_,rfl,za3,T.cl_Beam,T.na_Beam_room,zl6 fl0,?_⟩
   have hne:∀ {b:Addr} {o:HO},H b=some o->o≠.ins t.c_Beam dx []->b≠p:=fun e ne=>zr9 e hp ne
   refine⟨_,rfl,a,hs.map V.int,rfl,?_⟩
   rcases hS with hS | hS
   . have nap:∀ o,SqL K (upd (upd H p o) p o) a (hs.map V.int)->True:=fun _ _=>trivial
     refine .inl ⟨?_,fun l hl=>?_⟩
     . rcases hS with (hS | ⟨ob,hS⟩) | hS
       . exact .inl (.inl (by rw[za7 (hne hS (by intro z;cases z)),za7 (hne hS (by intro z;cases z))];exact hS))
       . exact .inl (.inr ⟨ob,by rw[za7 (hne hS (by intro z;cases z)),za7 (hne hS (by intro z;cases z))];exact hS⟩)
       . exact .inr hS
     . have hlp:l≠p:=fun z=>by rw[z,za3] at hl;cases hl
       have hl0:H l=none:=by rw[za7 hlp,za7 hlp] at hl;exact hl
       refine⟨_,rfl,p,_,dx,_,rfl,(by rw[za7 hlp.symm];exact za3),T.cl_Beam,T.na_Beam_hefts,zl6 (flS fl0),?_⟩
       refine⟨_,rfl,_,rfl,p,_,dx,_,rfl,za3,T.cl_Beam,T.na_Beam_limit,zl6 (flS (flS fl0)),?_⟩
       refine q _ ⟨B,dx,l,za3,by rw[za7 hlp,za7 hlp,za3]⟩ fun b o e hb=>?_
       rw[za7 hb,za7 hb,za7 (zb1 e hl0),za7 hb,za7 hb]
       exact e
   . have hap:a≠p:=hne hS (by intro z;cases z)
     refine .inr ⟨SqT.of (by rw[za7 hap,za7 hap];exact hS),?_⟩
     refine⟨_,rfl,p,_,dx,_,rfl,za3,T.cl_Beam,T.na_Beam_hefts,zl6 (flS fl0),?_⟩
     refine⟨_,rfl,_,rfl,p,_,dx,_,rfl,za3,T.cl_Beam,T.na_Beam_limit,zl6 (flS (flS fl0)),?_⟩
     refine q _ ⟨B,dx,a,za3,by rw[za7 hap,za7 hap,za7 hap,za7 hap];exact hS⟩ fun b o e hb=>?_
     rw[za7 hb,za7 hb,za7 hb,za7 hb]
     exact e
/-! ### refusals -/
noncomputable def zj5 (K:PySem.W.Frag) (t:Adr):Sp:=fun vs H Q _=>∃ (x C:Addr) (u v:V),vs=[.ref x,u,v]/\H x=some (ExcO C x none)/\XCls K C/\ze2 K C "reason"/\ze2 K C "word" ∧
 ∀ H' dx,H' x=some (ExcO C x (some dx))->H' dx=some (.xd (putF "word" v (putF "reason" u [])))->zi6 x H H'->Q .non H'
theorem ok_BeamError_init (T:Txt K mg t):FnOk P w K mg base CX0 1 t.a_BeamError_init t.d_BeamError_init ["self","reason","word"] (zj5 K t):=by
 refine T.F_BeamError_init.ok sc_BeamError_init (fun vs H Q E h=>?_) (fun cdv A outer s H vs Q E hr h=>?_)
 . obtain ⟨x,C,u,v,rfl,hx,hc,n1,n2,q⟩:=h
   rfl
 . obtain ⟨x,C,u,v,rfl,hx,hc,n1,n2,q⟩:=h
   refine⟨_,(za1 (zE1 (pv 0) (pv 1) rfl)
     (za6 (zE1 (pv 0) (pv 2) rfl))),?_⟩
   refine⟨_,rfl,_,rfl,x,C,none,rfl,hx,hc,n1,fun dx fdx ndx=>?_⟩
   refine⟨_,rfl,_,rfl,x,C,some dx,rfl,za3,hc,n2,putF "reason" u [],by rw[za7 ndx];exact za3,by show (1:Nat)<1000;decide,?_⟩
   refine q _ dx (by rw[za7 ndx.symm];exact za3) za3 fun b o e hb=>?_
   rw[za7 (zb1 e fdx),za7 hb,za7 (zb1 e fdx)]
   exact e
noncomputable def zh7 (K:PySem.W.Frag) (t:Adr):Sp:=fun vs H Q _=>∃ (x:Addr) (u:V),vs=[.ref x,u]/\H x=some (ExcO t.c_BadStanding x none) ∧
 ∀ H' dx,H' x=some (ExcO t.c_BadStanding x (some dx))->H' dx=some (.xd (putF "word" (.str "bad standing") (putF "reason" u [])))->zi6 x H H'->Q .non H'
theorem ok_BadStanding_init (T:Txt K mg t):FnOk P w K mg base CX0 2 t.a_BadStanding_init t.d_BadStanding_init ["self","reason"] (zh7 K t):=by
 have G_BeamError_init:FnOk P w K mg base CX0 1 t.a_BeamError_init t.d_BeamError_init ["self","reason","word"] (zj5 K t):=ok_BeamError_init T
 refine T.F_BadStanding_init.ok sc_BadStanding_init (fun vs H Q E h=>?_) (fun cdv A outer s H vs Q E hr h=>?_)
 . obtain ⟨x,u,rfl,hx,q⟩:=h
   rfl
 . obtain ⟨x,u,rfl,hx,q⟩:=h
   have hr_BeamError_init:Room 1 _:=hr.mono (by decide)
   refine⟨_,(za6 (zh8 (pe_cmeth T.cm_BeamError rfl T.m_BeamError G_BeamError_init hr_BeamError_init T.b_BeamError_init .nil zd3 (za0 (pv 0) (za0 (pv 1) (za0 zx8 za4)))))),?_⟩
   exact⟨_,rfl,_,rfl,x,t.c_BadStanding,u,_,rfl,hx,T.x_BadStanding,T.na_BadStanding_reason,T.na_BadStanding_word,fun H' dx h1 h2 h3=>q H' dx h1 h2 h3⟩
noncomputable def Told (H H':Hp) (od:Option Addr) (w:Str):Prop:=Same H H'/\∃ dx fs,od=some dx/\H' dx=some (.xd fs)/\fs.lookup ("word" : Str)=some (V.str w)
theorem Told.from {H H1 H':Hp} {od:Option Addr} {w:Str} (h:Told H1 H' od w) (s:Same H H1):Told H H' od w:=⟨s.trans h.1,h.2⟩
theorem told_of {H H1 H':Hp} {x dx C:Addr} {o:HO} {u:V} {w:Str} (s:Same H H1) (fx:H1 x=none) (hx:H' x=some (ExcO C x (some dx))) (hd:H' dx=some (.xd (putF "word" (.str w) (putF "reason" u [])))) (sx:zi6 x (upd H1 x o) H'):Told H (del H' x) (some dx) w:=by
 refine⟨fun b v e=>?_,dx,putF "word" (.str w) (putF "reason" u []),rfl,?_,?_⟩
 . have e1:=s b v e
   have hb:b≠x:=zb1 e1 fx
   rw[zl7 hb]
   exact sx b v (by rw[za7 hb];exact e1) hb
 . rw[zl7 (fun z=>by rw[z,hx] at hd;cases hd)];exact hd
 . rw[zb3,if_pos rfl]
noncomputable def SeqA (K:PySem.W.Frag) (H:Hp) (a:Addr) (xs:List Int):Prop:=SqL K H a (xs.map V.int)\/H a=some (.tup (xs.map V.int))
theorem SeqA.same {K:PySem.W.Frag} {H H':Hp} {a:Addr} {xs:List Int} (h:SeqA K H a xs) (s:Same H H'):SeqA K H' a xs:=h.imp s.seq (s _ _)
noncomputable def BS (t:Adr) (H:Hp) (E:XK):Prop:=∀ od H',Told H H' od "bad standing"->E (.ref t.c_BadStanding) od H'
theorem BS.same {t:Adr} {H H1:Hp} {E:XK} (h:BS t H E) (s:Same H H1):BS t H1 E:=fun od H' tl=>h od H' (tl.from s)
noncomputable def zq1 (K:PySem.W.Frag) (t:Adr) (more:List V):Sp:=fun vs H _ E=>∃ (b a:Addr) (n r lim:Int) (hs xs:List Int),vs = .ref b::.ref a::more/\zf8 t H b n r hs lim/\SeqA K H a xs/\¬ ze1 n r hs.length xs/\BS t H E
noncomputable def zc0 (K:PySem.W.Frag) (t:Adr):Sp:=fun vs H Q E=>∃ (b a:Addr) (n r lim:Int) (hs xs:List Int),vs=[.ref b,.ref a]/\zf8 t H b n r hs lim/\SeqA K H a xs ∧
 (ze1 n r hs.length xs->∀ l H',Same H H'->H' l=some (.tup (xs.map V.int))->Q (.ref l) H')/\(¬ ze1 n r hs.length xs->BS t H E)
noncomputable def okP (n r:Int) (xs:List Int) (y:Int):Prop:=(-n<=y/\y<=n)/\(y≠0->(xs.count y:Int)<=r)
theorem valid_of {n r:Int} {w:Nat} {xs:List Int} (h:xs.length=w) (k:∀ y∈xs,okP n r xs y):ze1 n r w xs:=⟨h,fun x hx=>(k x hx).1,fun x hx=>(k x hx).2⟩
theorem zq2 {xs:List Int} {i:Nat} {z:Int} {φ:Int->Prop} (hz:xs[i]?=some z) (h:∀ y∈xs.take i,φ y) (h2:φ z):∀ y∈xs.take (i+1),φ y:=fun y hy=>by
 rw[List.take_succ,hz] at hy
 rcases List.mem_append.mp hy with hy | hy
 . exact h y hy
 . obtain rfl:y=z:=by simpa using hy
   exact h2
theorem use_finLH {R:Addr->Hp->Prop} {S:Addr->Hp->Prop} {G:Prop} (main:(∀ o H',S o H'->R o H')->G) (fin:∀ o H',S o H'->R o H'):G:=main fin
theorem zc2 (T:Txt K mg t):FnOk P w K mg base (CXD P w) 4 t.a_as_standing t.d_as_standing ["beam","standing"] (zc0 K t):=by
 have G_BadStanding_init:FnOk P w K mg base CX0 2 t.a_BadStanding_init t.d_BadStanding_init ["self","reason"] (zh7 K t):=ok_BadStanding_init T
 have G_outside:FnOk P w K mg base CX0 1 t.a_outside t.d_outside ["number","low","high"] (zk9 K t):=zo3 T
 refine T.F_as_standing.d.okD (CX:=CX0) zi8 (fun vs H Q E h=>?_) (fun cdv A outer s H vs Q E hr h=>?_)
 . obtain ⟨b,a,n,r,lim,hs,xs,rfl,B,hS,q,qe⟩:=h
   rfl
 . obtain ⟨b,a,n,r,lim,hs,xs,rfl,B,hS,q,qe⟩:=h
   have hr_BadStanding:Room 3 _:=hr.mono (by decide)
   have hr_outside:Room 1 _:=hr.mono (by decide)
   refine⟨_,(za1 (zb8 (i:=2) zi8.nd rfl (Or.inl rfl) (zf9 zh1 rfl T.n_tuple PyProof.Rows.boot_tuple (za0 (pv 1) za4)))
     (za1 (zc6 (zb7 zA0 (zd0 zc8 rfl T.n_len PySem.boot_len (za0 (pv 2) za4)) (zd0 zc8 rfl T.n_len PySem.boot_len (za0 (zf6 (pv 0) rfl) za4)) (zb9 _)) (za6 (zr0 zo2 rfl T.x_BadStanding T.i_BadStanding T.if_BadStanding G_BadStanding_init hr_BadStanding rfl T.m_BadStanding T.b_BadStanding_init .nil zd3 (za0 zx8 za4))) zb4)
     (za1 (zo0 passes_own_fnD rfl (zG0 (pv 2)) (zd8 (i:=3) zi8.nd rfl (Or.inl rfl)) (za1 (zc6 (zg6 (za9 G_outside hr_outside rfl T.m_outside T.k_outside T.b_outside .nil zd3 (za0 (pv 3) (za0 (zI0 zG1 (zf6 (pv 0) rfl)) (za0 (zf6 (pv 0) rfl) za4))))) (za6 (zr0 zo2 rfl T.x_BadStanding T.i_BadStanding T.if_BadStanding G_BadStanding_init hr_BadStanding rfl T.m_BadStanding T.b_BadStanding_init .nil zd3 (za0 zx8 za4))) zb4)
     (za6 (zc6 (PW.pt (zC5 (zb7 zA0 (pv 3) za5 (zb9 _)) (zy0 (zb7 zw0 (pe_tm PySem.F.slot_tuple_count PySem.F.type_tuple_count mt_countT (pv 2) (za0 (pv 3) za4)) (zf6 (pv 0) rfl) (zb9 _))))) (za6 (zr0 zo2 rfl T.x_BadStanding T.i_BadStanding T.if_BadStanding G_BadStanding_init hr_BadStanding rfl T.m_BadStanding T.b_BadStanding_init .nil zd3 (za0 zx8 za4))) zb4))))
     (za6 (zb6 (pv 2)))))),?_⟩
   refine⟨_,rfl,a,xs.map V.int,rfl,?_⟩
   refine use_finLH (R:=?R) (S:=fun l H1=>Same H H1/\H1 l=some (.tup (xs.map V.int))) (fun fin=>?main) ?fin
   case main =>
     rcases hS with hS | hT
     . refine .inl ⟨hS,fun l hl=>?_⟩
       have s1:Same H (upd H l (.tup (xs.map V.int))):=Same.upd hl
       have hT:(upd H l (.tup (xs.map V.int))) l=some (.tup (xs.map V.int)):=za3
       revert s1 hT
       generalize upd H l (.tup (xs.map V.int))=H1
       intro s1 hT
       exact fin l H1 ⟨s1,hT⟩
     . exact .inr ⟨SqT.of hT,fin a H ⟨Same.refl _,hT⟩⟩
   case fin =>
     rintro l H1 ⟨s1,hT⟩
     have bad:¬ ze1 n r hs.length xs->∀ {u:V} y,H1 y=none->∀ H' dx,H' y=some (ExcO t.c_BadStanding y (some dx))->H' dx=some (.xd (putF "word" (.str "bad standing") (putF "reason" u [])))->zi6 y (upd H1 y (ExcO t.c_BadStanding y none)) H'->E (.ref t.c_BadStanding) (some dx) (del H' y):=fun v u y fy H' dx hx hd sx=>qe v _ _ (told_of s1 fy hx hd sx)
     replace q:=fun v=>q v l _ s1 hT
     obtain ⟨ok,dx,h,hb,hh⟩:=B.same s1
     refine⟨_,rfl,_,_,rfl,.inr (SqT.of hT),_,rfl,b,_,dx,_,_,rfl,hb,T.cl_Beam,T.na_Beam_hefts,zF0 _ _ _ _,h,_,rfl,.inr (SqT.of hh),rfl,_,rfl,?_⟩
     rw[List.length_map,List.length_map,zi7]
     refine ite2 (fun h1=>?_) (fun h1=>?_)
     . have hne:xs.length≠hs.length:=fun e=>by rw[e] at h1;simp at h1
       exact⟨(by show 1<=sizeLine;decide),fun y fy=>⟨y,_,rfl,za3,fun H' dx hx hd sx=>⟨rfl,some dx,hx,bad (fun v=>hne v.len) y fy H' dx hx hd sx⟩⟩⟩
     have hle:xs.length=hs.length:=by simp at h1;omega
     refine⟨_,rfl,_,rfl,⟨_,SqT.of hT⟩,zD2 (K:=K) (xs:=xs.map V.int) (fun i σ H'=>∃ v,σ=[some (.ref b),some (.ref a),some (.ref l),v]/\H'=H1/\∀ y∈xs.take i,okP n r xs y) ⟨none,rfl,rfl,by simp⟩ (fun i σ H' _ ⟨_,_,e,_⟩=>e▸SqT.of hT) ?_ ?_⟩
     . rintro i x σ H' hi ⟨v,rfl,rfl,hok⟩
       obtain ⟨z,rfl,hz⟩:=zu3 hi
       have hm:=List.mem_of_getElem? hz
       refine⟨_,rfl,_,rfl,b,_,dx,_,_,rfl,hb,T.cl_Beam,T.na_Beam_notches,zx3 _ _ _ _,_,rfl,_,rfl,b,_,dx,_,_,rfl,hb,T.cl_Beam,T.na_Beam_notches,zx3 _ _ _ _,z,-n,n,rfl,_,rfl,?_⟩
       refine ite2 (fun h2=>?_) (fun h2=>?_)
       . have hbad:¬ ze1 n r hs.length xs:=fun v=>by have:=v.on z hm;simp at h2;omega
         exact⟨(by show 1<=sizeLine;decide),fun y fy=>⟨y,_,rfl,za3,fun H' dx hx hd sx=>⟨rfl,some dx,hx,bad hbad y fy H' dx hx hd sx⟩⟩⟩
       . have hzn:-n<=z/\z<=n:=by simp at h2;omega
         refine⟨_,rfl,rfl,_,rfl,?_⟩
         rw[zi7]
         refine ite2 (fun h3=>?_) (fun h3=>?_)
         . have hz0:z≠0:=fun e=>by subst e;simp at h3
           refine⟨_,rfl,⟨_,_,rfl,hT⟩,_,rfl,_,xs,z,rfl,rfl,SqT.of hT,_,rfl,b,_,dx,_,_,rfl,hb,T.cl_Beam,T.na_Beam_room,b_room _ _ _ _,_,_,rfl,rfl,_,rfl,?_⟩
           refine ite2 (fun h4=>?_) (fun h4=>?_)
           . have hbad:¬ ze1 n r hs.length xs:=fun v=>by have:=v.room z hm hz0;simp at h4;omega
             exact⟨(by show 1<=sizeLine;decide),fun y fy=>⟨y,_,rfl,za3,fun H' dx hx hd sx=>⟨rfl,some dx,hx,bad hbad y fy H' dx hx hd sx⟩⟩⟩
           . exact⟨_,rfl,rfl,zq2 hz hok ⟨hzn,fun _=>by simp at h4;omega⟩⟩
         . exact iteF ⟨_,rfl,rfl,zq2 hz hok ⟨hzn,fun e=>absurd (by simpa using e) h3⟩⟩
     . rintro σ H' ⟨v,rfl,rfl,hok⟩
       exact⟨_,rfl,q (valid_of hle fun y hy=>hok y (by rw[List.length_map,List.take_length];exact hy))⟩
noncomputable def zv1 (hs xs:List Int):Int:=(List.zipWith (fun h x=>h*x) hs xs).sum
noncomputable def absI (i:Int):Int:=if i<0 then -i else i
noncomputable def mulV (x y:V):V:=match x,y with
 | .int a,.int b=>.int (a*b)
 | _,_=>.non
theorem zB4:∀ (hs xs:List Int),List.zipWith mulV (hs.map V.int) (xs.map V.int)=(List.zipWith (fun h x=>h*x) hs xs).map V.int
 | [],_=>rfl
 | _::_,[]=>rfl
 | h::hs,x::xs=>by
   show V.int (h*x)::List.zipWith mulV (hs.map V.int) (xs.map V.int)=_
   rw[zB4 hs xs]
   rfl
theorem zx5:∀ {hs xs:List Int} {B:Int},(∀ h∈hs,1<=h/\h<=20)->(∀ x∈xs,-B<=x/\x<=B)->0<=B->∀ z∈List.zipWith (fun h x=>h*x) hs xs,-(20*B)<=z/\z<=20*B
 | [],_,_,_,_,_=>(fun z hz=>by simp at hz)
 | _::_,[],_,_,_,_=>(fun z hz=>by simp at hz)
 | h::hs,x::xs,B,h1,h2,hB=>fun z hz=>by
   rw[List.zipWith_cons_cons] at hz
   rcases List.mem_cons.mp hz with rfl | hz
   . obtain ⟨a1,a2⟩:=h1 h List.mem_cons_self
     obtain ⟨b1,b2⟩:=h2 x List.mem_cons_self
     have c1:h*x<=h*B:=Int.mul_le_mul_of_nonneg_left b2 (by omega)
     have c2:h*B<=20*B:=Int.mul_le_mul_of_nonneg_right a2 hB
     have c3:h * -B<=h*x:=Int.mul_le_mul_of_nonneg_left b1 (by omega)
     have c4:h * -B = -(h*B):=Int.mul_neg h B
     omega
   . exact zx5 (fun y hy=>h1 y (List.mem_cons_of_mem _ hy)) (fun y hy=>h2 y (List.mem_cons_of_mem _ hy)) hB z hz
theorem tilt_fits {n r lim:Int} {hs xs:List Int} (ok:zz5 n r hs lim) (V0:ze1 n r hs.length xs):PySem.SumFits (List.zipWith (fun h x=>h*x) hs xs):=by
 refine PyProof.Rows.sumFits_of_bound (B:=80) (n:=5) (by decide) (fun z hz=>?_) ?_ (by decide)
 . have:=zx5 (B:=4) ok.h (fun x hx=>by have:=V0.on x hx;have:=ok.n2;omega) (by decide) z hz
   omega
 . rw[List.length_zipWith]
   have:=ok.w
   omega
noncomputable def zs9 (K:PySem.W.Frag) (t:Adr):Sp:=fun vs H Q E=>∃ (b a:Addr) (n r lim:Int) (hs xs:List Int),vs=[.ref b,.ref a]/\zf8 t H b n r hs lim/\SeqA K H a xs/\(ze1 n r hs.length xs->∀ H',Same H H'->Q (.int (zv1 hs xs)) H')/\(¬ ze1 n r hs.length xs->BS t H E)
noncomputable def zv2 (K:PySem.W.Frag) (t:Adr):Sp:=fun vs H Q E=>∃ (b a:Addr) (n r lim:Int) (hs xs:List Int),vs=[.ref b,.ref a]/\zf8 t H b n r hs lim/\SeqA K H a xs/\(ze1 n r hs.length xs->∀ H',Same H H'->Q (.bl (decide (absI (zv1 hs xs)<=lim))) H')/\(¬ ze1 n r hs.length xs->BS t H E)
noncomputable def zs3 (K:PySem.W.Frag) (t:Adr):Sp:=zq1 K t []
noncomputable def zF1 (K:PySem.W.Frag) (t:Adr):Sp:=zq1 K t []
noncomputable def zB5 (K:PySem.W.Frag) (t:Adr):Sp:=zq1 K t []
noncomputable def zB6 (K:PySem.W.Frag) (t:Adr):Sp:=zq1 K t []
noncomputable def zj6 (K:PySem.W.Frag) (t:Adr):Sp:=zq1 K t []
noncomputable def zn7 (K:PySem.W.Frag) (t:Adr):Sp:=zq1 K t []
noncomputable def zv3 (K:PySem.W.Frag) (t:Adr):Sp:=fun vs H Q E=>∃ v,zq1 K t [v] vs H Q E
noncomputable def zv4 (K:PySem.W.Frag) (t:Adr):Sp:=fun vs H Q E=>∃ v,zq1 K t [v] vs H Q E
noncomputable def zB7 (K:PySem.W.Frag) (t:Adr):Sp:=fun vs H Q E=>∃ v,zq1 K t [v] vs H Q E
theorem zz6 (T:Txt K mg t):FnOk P w K mg base (CXD P w) 5 t.a_tilt t.d_tilt ["beam","standing"] (zs9 K t):=by
 have G_as_standing:FnOk P w K mg base (CXD P w) 4 t.a_as_standing t.d_as_standing ["beam","standing"] (zc0 K t):=zc2 T
 refine T.F_tilt.d.okD (CX:=CX0) zE6 (fun vs H Q E h=>?_) (fun cdv A outer s H vs Q E hr h=>?_)
 . obtain ⟨b,a,n,r,lim,hs,xs,rfl,B,hS,q,qe⟩:=h
   rfl
 . obtain ⟨b,a,n,r,lim,hs,xs,rfl,B,hS,q,qe⟩:=h
   have hr_as_standing:Room 4 _:=hr.mono (by decide)
   refine⟨_,(za1 (zb8 (i:=2) zE6.nd rfl (Or.inl rfl) (za9 G_as_standing hr_as_standing rfl T.m_as_standing T.k_as_standing T.b_as_standing .nil za8 (za0 (pv 0) (za0 (pv 1) za4))))
     (za6 (zb6 (zd0 (call_sum rfl) rfl T.n_sum PyProof.Rows.boot_sum (za0 (zD9 rfl zr4 (pi_zip rfl T.n_zip (za0 (zf6 (pv 0) rfl) (za0 (pv 2) za4))) (fun _ _ _ _ _=>(pg_tupK (n:=2) K rfl rfl (zh2 (zd8 (i:=0) zr4.nd rfl (Or.inl rfl)) (zh2 (zd8 (i:=1) zr4.nd rfl (Or.inl rfl)) zy1)))) (fun _ _ _ _ _=>zt9) (fun _ _ _ _ _=>(zc1 zq8 (pv 0) (pv 1)))) za4))))),?_⟩
   refine⟨_,rfl,_,rfl,b,a,n,r,lim,hs,xs,rfl,B,hS,fun V0 l H1 s1 hl=>?_,qe⟩
   have ok:=B.1
   obtain ⟨_,dx,h,hb,hh⟩:=B.same s1
   refine⟨_,rfl,b,_,dx,_,_,rfl,hb,T.cl_Beam,T.na_Beam_hefts,zF0 _ _ _ _,_,rfl,h,l,_,_,rfl,hh,hl,fun D hD=>?_⟩
   refine comp_zip (f:=mulV) (rest:=[]) hh hl (by rw[List.length_map,List.length_map,V0.len]) hD (Nat.le_of_lt (zd1 (by rw[List.length_map];have:=ok.w;omega))) (fun i x y H' R hx hy s2 h=>?_) (fun H' s2 hd=>?_)
   . obtain ⟨u,rfl,hu⟩:=zu3 hx
     obtain ⟨v,rfl,hv⟩:=zu3 hy
     have:=ok.h u (List.mem_of_getElem? hu)
     exact⟨_,rfl,_,rfl,_,_,rfl,rfl,.inl ⟨by omega,by omega⟩,h⟩
   . rw[zB4] at hd
     exact⟨D,_,rfl,SqL.of hd,tilt_fits ok V0,q V0 H' (s1.trans s2)⟩
theorem not_past (a lim:Int):(!decide (lim<a))=decide (a<=lim):=by
 by_cases h:lim<a
 . rw[decide_eq_true h,decide_eq_false (by omega)];rfl
 . rw[decide_eq_false h,decide_eq_true (by omega)];rfl
noncomputable def zF2 (K:PySem.W.Frag) (t:Adr):Sp:=fun vs H Q _=>∃ (b:Addr) (n r lim:Int) (hs:List Int) (z:Int),vs=[.ref b,.int z]/\zf8 t H b n r hs lim/\Q (.bl (decide (lim<absI z))) H
theorem ok_past (T:Txt K mg t):FnOk P w K mg base CX0 1 t.a_past t.d_past ["beam","tipped"] (zF2 K t):=by
 refine T.F_past.ok sc_past (fun vs H Q E h=>?_) (fun cdv A outer s H vs Q E hr h=>?_)
 . obtain ⟨b,n,r,lim,hs,z,rfl,B,q⟩:=h
   rfl
 . obtain ⟨b,n,r,lim,hs,z,rfl,B,q⟩:=h
   refine⟨_,(za6 (zb6 (zm4 zw0 (zd0 call_abs rfl T.n_abs PyProof.Rows.boot_abs (za0 (pv 1) za4)) (zf6 (pv 0) rfl) (zb9 _)))),?_⟩
   obtain ⟨_,dx,h,hb,hh⟩:=B
   exact⟨_,rfl,_,rfl,_,rfl,b,_,dx,_,_,rfl,hb,T.cl_Beam,T.na_Beam_limit,b_limit _ _ _ _,_,_,rfl,rfl,q⟩
theorem zB8 (T:Txt K mg t):FnOk P w K mg base (CXD P w) 6 t.a_keeps t.d_keeps ["beam","standing"] (zv2 K t):=by
 have G_past:FnOk P w K mg base CX0 1 t.a_past t.d_past ["beam","tipped"] (zF2 K t):=ok_past T
 have G_tilt:FnOk P w K mg base (CXD P w) 5 t.a_tilt t.d_tilt ["beam","standing"] (zs9 K t):=zz6 T
 refine T.F_keeps.d.okD (CX:=CX0) sc_keeps (fun vs H Q E h=>?_) (fun cdv A outer s H vs Q E hr h=>?_)
 . obtain ⟨b,a,n,r,lim,hs,xs,rfl,B,hS,q,qe⟩:=h
   rfl
 . obtain ⟨b,a,n,r,lim,hs,xs,rfl,B,hS,q,qe⟩:=h
   have hr_past:Room 1 _:=hr.mono (by decide)
   have hr_tilt:Room 5 _:=hr.mono (by decide)
   refine⟨_,(za6 (zb6 (zF6 (za9 G_past hr_past rfl T.m_past T.k_past T.b_past .nil zd3 (za0 (pv 0) (za0 (za9 G_tilt hr_tilt rfl T.m_tilt T.k_tilt T.b_tilt .nil za8 (za0 (pv 0) (za0 (pv 1) za4))) za4)))))),?_⟩
   refine⟨_,rfl,_,rfl,_,rfl,b,a,n,r,lim,hs,xs,rfl,B,hS,fun V0 H1 s1=>⟨b,n,r,lim,hs,_,rfl,B.same s1,_,rfl,?_⟩,qe⟩
   rw[not_past]
   exact q V0 H1 s1
theorem ok_mirrored (T:Txt K mg t):FnOk P w K mg base (CXD P w) 5 t.a_mirrored t.d_mirrored ["beam","standing"] (zs3 K t):=by
 have G_as_standing:FnOk P w K mg base (CXD P w) 4 t.a_as_standing t.d_as_standing ["beam","standing"] (zc0 K t):=zc2 T
 refine T.F_mirrored.d.okD (CX:=CX0) sc_mirrored (fun vs H Q E h=>?_) (fun cdv A outer s H vs Q E hr h=>?_)
 . obtain ⟨b,a,n,r,lim,hs,xs,rfl,B,hS,nv,bs⟩:=h
   rfl
 . obtain ⟨b,a,n,r,lim,hs,xs,rfl,B,hS,nv,bs⟩:=h
   have hr_as_standing:Room 4 _:=hr.mono (by decide)
   refine⟨_,(za6 (zb6 (zf9 zh1 rfl T.n_tuple PyProof.Rows.boot_tuple (za0 (zD9 rfl zn5 (zG0 (za9 G_as_standing hr_as_standing rfl T.m_as_standing T.k_as_standing T.b_as_standing .nil za8 (za0 (pv 0) (za0 (pv 1) za4)))) (fun _ _ _ _ _=>(zd8 (i:=0) zn5.nd rfl (Or.inl rfl))) (fun _ _ _ _ _=>zt9) (fun _ _ _ _ _=>(zI0 zG1 (pv 0)))) za4)))),?_⟩
   exact⟨_,rfl,_,rfl,b,a,n,r,lim,hs,xs,rfl,B,hS,fun v=>absurd v nv,fun _=>bs⟩
theorem ok_side (T:Txt K mg t):FnOk P w K mg base (CXD P w) 6 t.a_side t.d_side ["beam","standing"] (zF1 K t):=by
 have G_tilt:FnOk P w K mg base (CXD P w) 5 t.a_tilt t.d_tilt ["beam","standing"] (zs9 K t):=zz6 T
 refine T.F_side.d.okD (CX:=CX0) zE7 (fun vs H Q E h=>?_) (fun cdv A outer s H vs Q E hr h=>?_)
 . obtain ⟨b,a,n,r,lim,hs,xs,rfl,B,hS,nv,bs⟩:=h
   rfl
 . obtain ⟨b,a,n,r,lim,hs,xs,rfl,B,hS,nv,bs⟩:=h
   have hr_tilt:Room 5 _:=hr.mono (by decide)
   refine⟨_,(za1 (zb8 (i:=2) zE7.nd rfl (Or.inl rfl) (za9 G_tilt hr_tilt rfl T.m_tilt T.k_tilt T.b_tilt .nil za8 (za0 (pv 0) (za0 (pv 1) za4))))
     zd6),?_⟩
   exact⟨_,rfl,_,rfl,b,a,n,r,lim,hs,xs,rfl,B,hS,fun v=>absurd v nv,fun _=>bs⟩
theorem ok_loads (T:Txt K mg t):FnOk P w K mg base (CXD P w) 5 t.a_loads t.d_loads ["beam","standing"] (zB5 K t):=by
 have G_as_standing:FnOk P w K mg base (CXD P w) 4 t.a_as_standing t.d_as_standing ["beam","standing"] (zc0 K t):=zc2 T
 refine T.F_loads.d.okD (CX:=CX0) zA7 (fun vs H Q E h=>?_) (fun cdv A outer s H vs Q E hr h=>?_)
 . obtain ⟨b,a,n,r,lim,hs,xs,rfl,B,hS,nv,bs⟩:=h
   rfl
 . obtain ⟨b,a,n,r,lim,hs,xs,rfl,B,hS,nv,bs⟩:=h
   have hr_as_standing:Room 4 _:=hr.mono (by decide)
   refine⟨_,(za1 (zb8 (i:=2) zA7.nd rfl (Or.inr rfl) (za9 G_as_standing hr_as_standing rfl T.m_as_standing T.k_as_standing T.b_as_standing .nil za8 (za0 (pv 0) (za0 (pv 1) za4))))
     zd6),?_⟩
   exact⟨_,rfl,_,rfl,b,a,n,r,lim,hs,xs,rfl,B,hS,fun v=>absurd v nv,fun _=>bs⟩
theorem ok_moves (T:Txt K mg t):FnOk P w K mg base (CXD P w) 5 t.a_moves t.d_moves ["beam","standing"] (zB6 K t):=by
 have G_as_standing:FnOk P w K mg base (CXD P w) 4 t.a_as_standing t.d_as_standing ["beam","standing"] (zc0 K t):=zc2 T
 refine T.F_moves.d.okD (CX:=CX0) zA9 (fun vs H Q E h=>?_) (fun cdv A outer s H vs Q E hr h=>?_)
 . obtain ⟨b,a,n,r,lim,hs,xs,rfl,B,hS,nv,bs⟩:=h
   rfl
 . obtain ⟨b,a,n,r,lim,hs,xs,rfl,B,hS,nv,bs⟩:=h
   have hr_as_standing:Room 4 _:=hr.mono (by decide)
   refine⟨_,(za1 (zb8 (i:=2) zA9.nd rfl (Or.inr rfl) (za9 G_as_standing hr_as_standing rfl T.m_as_standing T.k_as_standing T.b_as_standing .nil za8 (za0 (pv 0) (za0 (pv 1) za4))))
     zd6),?_⟩
   exact⟨_,rfl,_,rfl,b,a,n,r,lim,hs,xs,rfl,B,hS,fun v=>absurd v nv,fun _=>bs⟩
theorem ok_write_standing (T:Txt K mg t):FnOk P w K mg base (CXD P w) 5 t.a_write_standing t.d_write_standing ["beam","standing"] (zj6 K t):=by
 have G_as_standing:FnOk P w K mg base (CXD P w) 4 t.a_as_standing t.d_as_standing ["beam","standing"] (zc0 K t):=zc2 T
 refine T.F_write_standing.d.okD (CX:=CX0) zj3 (fun vs H Q E h=>?_) (fun cdv A outer s H vs Q E hr h=>?_)
 . obtain ⟨b,a,n,r,lim,hs,xs,rfl,B,hS,nv,bs⟩:=h
   rfl
 . obtain ⟨b,a,n,r,lim,hs,xs,rfl,B,hS,nv,bs⟩:=h
   have hr_as_standing:Room 4 _:=hr.mono (by decide)
   refine⟨_,(za1 (zb8 (i:=2) zj3.nd rfl (Or.inl rfl) (za9 G_as_standing hr_as_standing rfl T.m_as_standing T.k_as_standing T.b_as_standing .nil za8 (za0 (pv 0) (za0 (pv 1) za4))))
     zd6),?_⟩
   exact⟨_,rfl,_,rfl,b,a,n,r,lim,hs,xs,rfl,B,hS,fun v=>absurd v nv,fun _=>bs⟩
theorem ok_write_beam (T:Txt K mg t):FnOk P w K mg base (CXD P w) 5 t.a_write_beam t.d_write_beam ["beam","standing"] (zn7 K t):=by
 have G_as_standing:FnOk P w K mg base (CXD P w) 4 t.a_as_standing t.d_as_standing ["beam","standing"] (zc0 K t):=zc2 T
 refine T.F_write_beam.d.okD (CX:=CX0) zn6 (fun vs H Q E h=>?_) (fun cdv A outer s H vs Q E hr h=>?_)
 . obtain ⟨b,a,n,r,lim,hs,xs,rfl,B,hS,nv,bs⟩:=h
   rfl
 . obtain ⟨b,a,n,r,lim,hs,xs,rfl,B,hS,nv,bs⟩:=h
   have hr_as_standing:Room 4 _:=hr.mono (by decide)
   refine⟨_,(za1 (zb8 (i:=2) zn6.nd rfl (Or.inl rfl) (za9 G_as_standing hr_as_standing rfl T.m_as_standing T.k_as_standing T.b_as_standing .nil za8 (za0 (pv 0) (za0 (pv 1) za4))))
     zd6),?_⟩
   exact⟨_,rfl,_,rfl,b,a,n,r,lim,hs,xs,rfl,B,hS,fun v=>absurd v nv,fun _=>bs⟩
theorem ok_in_hand (T:Txt K mg t):FnOk P w K mg base (CXD P w) 5 t.a_in_hand t.d_in_hand ["beam","standing","weight"] (zv3 K t):=by
 have G_as_standing:FnOk P w K mg base (CXD P w) 4 t.a_as_standing t.d_as_standing ["beam","standing"] (zc0 K t):=zc2 T
 refine T.F_in_hand.d.okD (CX:=CX0) zu6 (fun vs H Q E h=>?_) (fun cdv A outer s H vs Q E hr h=>?_)
 . obtain ⟨v,b,a,n,r,lim,hs,xs,rfl,B,hS,nv,bs⟩:=h
   rfl
 . obtain ⟨v,b,a,n,r,lim,hs,xs,rfl,B,hS,nv,bs⟩:=h
   have hr_as_standing:Room 4 _:=hr.mono (by decide)
   refine⟨_,(za1 (zb8 (i:=3) zu6.nd rfl (Or.inl rfl) (za9 G_as_standing hr_as_standing rfl T.m_as_standing T.k_as_standing T.b_as_standing .nil za8 (za0 (pv 0) (za0 (pv 1) za4))))
     zd6),?_⟩
   exact⟨_,rfl,_,rfl,b,a,n,r,lim,hs,xs,rfl,B,hS,fun v=>absurd v nv,fun _=>bs⟩
theorem ok_refusal (T:Txt K mg t):FnOk P w K mg base (CXD P w) 5 t.a_refusal t.d_refusal ["beam","standing","move"] (zv4 K t):=by
 have G_as_standing:FnOk P w K mg base (CXD P w) 4 t.a_as_standing t.d_as_standing ["beam","standing"] (zc0 K t):=zc2 T
 refine T.F_refusal.d.okD (CX:=CX0) zu7 (fun vs H Q E h=>?_) (fun cdv A outer s H vs Q E hr h=>?_)
 . obtain ⟨v,b,a,n,r,lim,hs,xs,rfl,B,hS,nv,bs⟩:=h
   rfl
 . obtain ⟨v,b,a,n,r,lim,hs,xs,rfl,B,hS,nv,bs⟩:=h
   have hr_as_standing:Room 4 _:=hr.mono (by decide)
   refine⟨_,(za1 (zb8 (i:=3) zu7.nd rfl (Or.inl rfl) (za9 G_as_standing hr_as_standing rfl T.m_as_standing T.k_as_standing T.b_as_standing .nil za8 (za0 (pv 0) (za0 (pv 1) za4))))
     zd6),?_⟩
   exact⟨_,rfl,_,rfl,b,a,n,r,lim,hs,xs,rfl,B,hS,fun v=>absurd v nv,fun _=>bs⟩
theorem ok_moved (T:Txt K mg t):FnOk P w K mg base (CXD P w) 5 t.a_moved t.d_moved ["beam","standing","move"] (zB7 K t):=by
 have G_as_standing:FnOk P w K mg base (CXD P w) 4 t.a_as_standing t.d_as_standing ["beam","standing"] (zc0 K t):=zc2 T
 refine T.F_moved.d.okD (CX:=CX0) zA8 (fun vs H Q E h=>?_) (fun cdv A outer s H vs Q E hr h=>?_)
 . obtain ⟨v,b,a,n,r,lim,hs,xs,rfl,B,hS,nv,bs⟩:=h
   rfl
 . obtain ⟨v,b,a,n,r,lim,hs,xs,rfl,B,hS,nv,bs⟩:=h
   have hr_as_standing:Room 4 _:=hr.mono (by decide)
   refine⟨_,(za1 (zb8 (i:=3) zA8.nd rfl (Or.inl rfl) (za9 G_as_standing hr_as_standing rfl T.m_as_standing T.k_as_standing T.b_as_standing .nil za8 (za0 (pv 0) (za0 (pv 1) za4))))
     zd6),?_⟩
   exact⟨_,rfl,_,rfl,b,a,n,r,lim,hs,xs,rfl,B,hS,fun v=>absurd v nv,fun _=>bs⟩
noncomputable def zH3 (K:PySem.W.Frag) (t:Adr):Sp:=fun vs H _ E=>∃ (b a1 a2:Addr) (n r lim:Int) (hs xs gs:List Int),vs=[.ref b,.ref a1,.ref a2]/\zf8 t H b n r hs lim/\SeqA K H a1 xs/\SeqA K H a2 gs/\(¬ ze1 n r hs.length xs\/¬ ze1 n r hs.length gs)/\BS t H E
noncomputable def zn2 (K:PySem.W.Frag) (t:Adr):Sp:=zH3 K t
noncomputable def zl0 (K:PySem.W.Frag) (t:Adr):Sp:=zH3 K t
noncomputable def zv5 (K:PySem.W.Frag) (t:Adr):Sp:=zH3 K t
theorem zr8 (T:Txt K mg t):FnOk P w K mg base (CXD P w) 5 t.a_fewest t.d_fewest ["beam","start","goal"] (zn2 K t):=by
 have G_as_standing:FnOk P w K mg base (CXD P w) 4 t.a_as_standing t.d_as_standing ["beam","standing"] (zc0 K t):=zc2 T
 refine T.F_fewest.d.okD (CX:=CX0) zr5 (fun vs H Q E h=>?_) (fun cdv A outer s H vs Q E hr h=>?_)
 . obtain ⟨b,a1,a2,n,r,lim,hs,xs,gs,rfl,B,h1,h2,hv,bs⟩:=h
   rfl
 . obtain ⟨b,a1,a2,n,r,lim,hs,xs,gs,rfl,B,h1,h2,hv,bs⟩:=h
   have hr_as_standing:Room 4 _:=hr.mono (by decide)
   refine⟨_,(za1 (zb8 (i:=3) zr5.nd rfl (Or.inl rfl) (za9 G_as_standing hr_as_standing rfl T.m_as_standing T.k_as_standing T.b_as_standing .nil za8 (za0 (pv 0) (za0 (pv 1) za4))))
     (za1 (zb8 (i:=4) zr5.nd rfl (Or.inl rfl) (za9 G_as_standing hr_as_standing rfl T.m_as_standing T.k_as_standing T.b_as_standing .nil za8 (za0 (pv 0) (za0 (pv 2) za4))))
     zd6)),?_⟩
   refine⟨_,rfl,_,rfl,b,a1,n,r,lim,hs,xs,rfl,B,h1,fun v1 l H1 s1 hl=>?_,fun _=>bs⟩
   exact⟨_,rfl,_,rfl,b,a2,n,r,lim,hs,gs,rfl,B.same s1,h2.same s1,fun v2=>hv.elim (fun z=>absurd v1 z) (fun z=>absurd v2 z),fun _=>bs.same s1⟩
theorem zB9 (T:Txt K mg t):FnOk P w K mg base (CXD P w) 5 t.a_least t.d_least ["beam","start","goal"] (zv5 K t):=by
 have G_as_standing:FnOk P w K mg base (CXD P w) 4 t.a_as_standing t.d_as_standing ["beam","standing"] (zc0 K t):=zc2 T
 refine T.F_least.d.okD (CX:=CX0) zu8 (fun vs H Q E h=>?_) (fun cdv A outer s H vs Q E hr h=>?_)
 . obtain ⟨b,a1,a2,n,r,lim,hs,xs,gs,rfl,B,h1,h2,hv,bs⟩:=h
   rfl
 . obtain ⟨b,a1,a2,n,r,lim,hs,xs,gs,rfl,B,h1,h2,hv,bs⟩:=h
   have hr_as_standing:Room 4 _:=hr.mono (by decide)
   refine⟨_,(za1 (zb8 (i:=3) zu8.nd rfl (Or.inl rfl) (za9 G_as_standing hr_as_standing rfl T.m_as_standing T.k_as_standing T.b_as_standing .nil za8 (za0 (pv 0) (za0 (pv 1) za4))))
     (za1 (zb8 (i:=4) zu8.nd rfl (Or.inl rfl) (za9 G_as_standing hr_as_standing rfl T.m_as_standing T.k_as_standing T.b_as_standing .nil za8 (za0 (pv 0) (za0 (pv 2) za4))))
     zd6)),?_⟩
   refine⟨_,rfl,_,rfl,b,a1,n,r,lim,hs,xs,rfl,B,h1,fun v1 l H1 s1 hl=>?_,fun _=>bs⟩
   exact⟨_,rfl,_,rfl,b,a2,n,r,lim,hs,gs,rfl,B.same s1,h2.same s1,fun v2=>hv.elim (fun z=>absurd v1 z) (fun z=>absurd v2 z),fun _=>bs.same s1⟩
theorem zq3 (T:Txt K mg t):FnOk P w K mg base (CXD P w) 6 t.a_next_move t.d_next_move ["beam","start","goal"] (zl0 K t):=by
 have G_fewest:FnOk P w K mg base (CXD P w) 5 t.a_fewest t.d_fewest ["beam","start","goal"] (zn2 K t):=zr8 T
 refine T.F_next_move.d.okD (CX:=CX0) zo9 (fun vs H Q E h=>?_) (fun cdv A outer s H vs Q E hr h=>?_)
 . obtain ⟨b,a1,a2,n,r,lim,hs,xs,gs,rfl,B,h1,h2,hv,bs⟩:=h
   rfl
 . obtain ⟨b,a1,a2,n,r,lim,hs,xs,gs,rfl,B,h1,h2,hv,bs⟩:=h
   have hr_fewest:Room 5 _:=hr.mono (by decide)
   refine⟨_,(za1 (zb8 (i:=3) zo9.nd rfl (Or.inl rfl) (za9 G_fewest hr_fewest rfl T.m_fewest_layers T.k_fewest T.b_fewest .nil za8 (za0 (pv 0) (za0 (pv 1) (za0 (pv 2) za4)))))
     zd6),?_⟩
   exact⟨_,rfl,_,rfl,_,rfl,b,a1,a2,n,r,lim,hs,xs,gs,rfl,B,h1,h2,hv,bs⟩
end
end Bt
namespace Bt
open PySem L2
section
variable {P:Program} {w:World} {K:PySem.W.Frag} {mg:Str->Option Value} {base:Heap} {t:Adr}
/-! ### a play -/
noncomputable def zl4 (b s x m:Addr):List (Str×V):=[("beam",.ref b),("start",.ref s),("standing",.ref x),("made",.ref m)]
theorem zH4:¬ ("beam" : Str) = "start":=by decide +kernel
theorem zH5:¬ ("beam" : Str) = "standing":=by decide +kernel
theorem pf_ne3:¬ ("start" : Str) = "standing":=by decide +kernel
theorem zH6:¬ ("beam" : Str) = "made":=by decide +kernel
theorem pf_ne5:¬ ("start" : Str) = "made":=by decide +kernel
theorem zH7:¬ ("standing" : Str) = "made":=by decide +kernel
theorem pfN {f:Str} {v:V}:putF f v []=[(f,v)]:=rfl
theorem pfC {f g:Str} {v x:V} {l:List (Str×V)} (h:¬ g=f):putF f v ((g,x)::l)=(g,x)::putF f v l:=if_neg h
theorem zC0 (b s x m:Addr):putF "made" (.ref m) (putF "standing" (.ref x) (putF "start" (.ref s) (putF "beam" (.ref b) [])))=zl4 b s x m:=by
 rw[pfN,pfC zH4,pfN,pfC zH5,pfC pf_ne3,pfN,pfC zH6,pfC pf_ne5,pfC zH7,pfN]
 rfl
theorem zz7 (b s x m:Addr):(zl4 b s x m).lookup ("beam" : Str)=some (.ref b):=by rw[<-zC0,zb3,if_neg zH6,zb3,if_neg zH5,zb3,if_neg zH4,zb3,if_pos rfl]
theorem zh4 (b s x m:Addr):(zl4 b s x m).lookup ("standing" : Str)=some (.ref x):=by rw[<-zC0,zb3,if_neg zH7,zb3,if_pos rfl]
theorem pf_made (b s x m:Addr):(zl4 b s x m).lookup ("made" : Str)=some (.ref m):=by rw[<-zC0,zb3,if_pos rfl]
theorem zF3 (b s x m:Addr) (f:Str) (h1:¬ f = "made") (h2:¬ f = "standing") (h3:¬ f = "start") (h4:¬ f = "beam"):(zl4 b s x m).lookup f=none:=by rw[<-zC0,zb3,if_neg h1,zb3,if_neg h2,zb3,if_neg h3,zb3,if_neg h4];rfl
theorem pf_trail (b s x m:Addr):(zl4 b s x m).lookup ("trail" : Str)=none:=zF3 _ _ _ _ _ (by decide +kernel) (by decide +kernel) (by decide +kernel) (by decide +kernel)
theorem pf_fewest (b s x m:Addr):(zl4 b s x m).lookup ("fewest" : Str)=none:=zF3 _ _ _ _ _ (by decide +kernel) (by decide +kernel) (by decide +kernel) (by decide +kernel)
theorem pf_next (b s x m:Addr):(zl4 b s x m).lookup ("next_move" : Str)=none:=zF3 _ _ _ _ _ (by decide +kernel) (by decide +kernel) (by decide +kernel) (by decide +kernel)
theorem pf_least (b s x m:Addr):(zl4 b s x m).lookup ("least" : Str)=none:=zF3 _ _ _ _ _ (by decide +kernel) (by decide +kernel) (by decide +kernel) (by decide +kernel)
structure zm1 (t:Adr) (H:Hp) (p b s x m:Addr) (n r:Int) (hs:List Int) (lim:Int) (a c:List Int) (ys:List V) (ms:List (List Int)):Prop where
 bm:zf8 t H b n r hs lim
 nb:b≠p
 hp:∃ dx,H p=some (.ins t.c_Play dx (zl4 b s x m))
 hs:H s=some (.tup (a.map V.int))
 hx:H x=some (.tup (c.map V.int))
 hm:H m=some (.lst ys)
 tm:Tups H ys ms
theorem zm1.same {t:Adr} {H H':Hp} {p b s x m:Addr} {n r lim:Int} {hs a c:List Int} {ys:List V} {ms:List (List Int)} (h:zm1 t H p b s x m n r hs lim a c ys ms) (e:Same H H'):zm1 t H' p b s x m n r hs lim a c ys ms :=
 ⟨h.bm.same e,h.nb,let ⟨dx,z⟩:=h.hp;⟨dx,e _ _ z⟩,e _ _ h.hs,e _ _ h.hx,e _ _ h.hm,e.tups h.tm⟩
noncomputable def zl1 (K:PySem.W.Frag) (t:Adr):Sp:=fun vs H Q E=>∃ (p b a dx:Addr) (n r lim:Int) (hs xs:List Int),vs=[.ref p,.ref b,.ref a]/\H p=some (.ins t.c_Play dx [])/\b≠p/\zf8 t H b n r hs lim/\SeqA K H a xs ∧
 (ze1 n r hs.length xs->absI (zv1 hs xs)<=lim/\∀ H' s m,zi6 p H H'->H m=none->zm1 t H' p b s s m n r hs lim xs xs [] []->Q .non H')/\(¬ ze1 n r hs.length xs->BS t H E)
theorem zq4 (T:Txt K mg t):FnOk P w K mg base (CXD P w) 7 t.a_Play_init t.d_Play_init ["self","beam","start"] (zl1 K t):=by
 have G_as_standing:FnOk P w K mg base (CXD P w) 4 t.a_as_standing t.d_as_standing ["beam","standing"] (zc0 K t):=zc2 T
 have G_keeps:FnOk P w K mg base (CXD P w) 6 t.a_keeps t.d_keeps ["beam","standing"] (zv2 K t):=zB8 T
 refine T.F_Play_init.d.okD (CX:=CX0) zp0 (fun vs H Q E h=>?_) (fun cdv A outer s H vs Q E hr h=>?_)
 . obtain ⟨p,b,a,dx,n,r,lim,hs,xs,rfl,hp,nb,B,hS,q,qe⟩:=h
   rfl
 . obtain ⟨p,b,a,dx,n,r,lim,hs,xs,rfl,hp,nb,B,hS,q,qe⟩:=h
   have hr_as_standing:Room 4 _:=hr.mono (by decide)
   have hr_keeps:Room 6 _:=hr.mono (by decide)
   refine⟨_,(za1 (zb8 (i:=3) zp0.nd rfl (Or.inl rfl) (za9 G_as_standing hr_as_standing rfl T.m_as_standing T.k_as_standing T.b_as_standing .nil za8 (za0 (pv 1) (za0 (pv 2) za4))))
     (za1 (zc6 (zq6 (zg6 (za9 G_keeps hr_keeps rfl T.m_keeps T.k_keeps T.b_keeps .nil za8 (za0 (pv 1) (za0 (pv 3) za4))))) zd6 zb4)
     (za1 (zl5 (pv 0) (pv 1) rfl)
     (za1 (zl5 (pv 0) (pv 3) rfl)
     (za1 (zl5 (pv 0) (pv 3) rfl)
     (za6 (zl5 (pv 0) (zf7 za4) rfl))))))),?_⟩
   refine⟨_,rfl,_,rfl,b,a,n,r,lim,hs,xs,rfl,B,hS,fun V0 l H1 s1 hl=>?_,qe⟩
   obtain ⟨k0,q⟩:=q V0
   refine⟨_,rfl,_,rfl,b,l,n,r,lim,hs,xs,rfl,B.same s1,.inr hl,fun _ H2 s2=>⟨_,rfl,?_⟩,fun z=>absurd V0 z⟩
   rw[decide_eq_true k0]
   refine iteF ?_
   have s02:=s1.trans s2
   have hl2:=s2 _ _ hl
   have nl:l≠p:=fun z=>by rw[z,s02 _ _ hp] at hl2;cases hl2
   refine⟨_,rfl,_,rfl,p,_,dx,_,rfl,s02 _ _ hp,T.cl_Play,T.na_Play_beam,by decide,?_⟩
   refine⟨_,rfl,_,rfl,p,_,dx,_,rfl,za3,T.cl_Play,T.na_Play_start,zl6 fl0,?_⟩
   refine⟨_,rfl,_,rfl,p,_,dx,_,rfl,za3,T.cl_Play,T.na_Play_standing,zl6 (flS fl0),?_⟩
   rw[zh0,zh0]
   refine⟨Nat.zero_le _,fun m fm=>?_⟩
   have nm:m≠p:=fun z=>by rw[z,za3] at fm;cases fm
   refine⟨_,rfl,p,_,dx,_,rfl,by rw[za7 nm.symm];exact za3,T.cl_Play,T.na_Play_made,zl6 (flS (flS fl0)),?_⟩
   rw[zC0]
   rw[za7 nm] at fm
   have s3:zi6 p H (upd (upd (upd H2 p (.ins t.c_Play dx (putF "standing" (.ref l) (putF "start" (.ref l) (putF "beam" (.ref b) []))))) m (.lst [])) p (.ins t.c_Play dx (zl4 b l l m))):=fun c o e hc=>by
     rw[za7 hc,za7 (zb1 (s02 _ _ e) fm),za7 hc]
     exact s02 _ _ e
   have hl3:(upd (upd (upd H2 p (.ins t.c_Play dx (putF "standing" (.ref l) (putF "start" (.ref l) (putF "beam" (.ref b) []))))) m (.lst [])) p (.ins t.c_Play dx (zl4 b l l m))) l=some (.tup (xs.map V.int)):=by
     rw[za7 nl,za7 (zb1 hl2 fm),za7 nl]
     exact hl2
   refine q _ l m s3 (s02.free fm) ⟨?_,nb,⟨dx,za3⟩,hl3,hl3,by rw[za7 nm];exact za3,.nil⟩
   obtain ⟨ok,dx',h,hb,hh⟩:=B
   exact⟨ok,dx',h,s3 _ _ hb nb,s3 _ _ hh (fun z=>by rw[z,hp] at hh;cases hh)⟩
noncomputable def zn8 (K:PySem.W.Frag) (t:Adr):Sp:=fun vs H Q _=>∃ (p b s x m:Addr) (n r lim:Int) (hs a c:List Int) (ys:List V) (ms:List (List Int)),vs=[.ref p]/\zm1 t H p b s x m n r hs lim a c ys ms/\∀ l,H l=none->Q (.ref l) (upd H l (.lst ys))
theorem ok_Play_trail (T:Txt K mg t):FnOk P w K mg base CX0 1 t.a_Play_trail t.d_Play_trail ["self"] (zn8 K t):=by
 refine T.F_Play_trail.ok sc_Play_trail (fun vs H Q E h=>?_) (fun cdv A outer s H vs Q E hr h=>?_)
 . obtain ⟨p,b,s,x,m,n,r,lim,hs,a,c,ys,ms,rfl,P0,q⟩:=h
   rfl
 . obtain ⟨p,b,s,x,m,n,r,lim,hs,a,c,ys,ms,rfl,P0,q⟩:=h
   refine⟨_,(za6 (zb6 (zf9 zh9 rfl T.n_list PyProof.Rows.boot_list (za0 (zf6 (pv 0) rfl) za4)))),?_⟩
   obtain ⟨dx,hp⟩:=P0.hp
   exact⟨_,rfl,p,_,dx,_,_,rfl,hp,T.cl_Play,T.na_Play_made,pf_made _ _ _ _,m,_,rfl,.inl (SqL.of P0.hm),fun l fl=>q l fl⟩
noncomputable def zH8 (K:PySem.W.Frag) (t:Adr):Sp:=fun vs H _ E=>∃ (p b a s x m:Addr) (n r lim:Int) (hs xs c gs:List Int) (ys:List V) (ms:List (List Int)),vs=[.ref p,.ref a]/\zm1 t H p b s x m n r hs lim xs c ys ms/\SeqA K H a gs/\¬ ze1 n r hs.length gs/\BS t H E
noncomputable def zm2 (K:PySem.W.Frag) (t:Adr):Sp:=zH8 K t
noncomputable def zj7 (K:PySem.W.Frag) (t:Adr):Sp:=zH8 K t
noncomputable def zn9 (K:PySem.W.Frag) (t:Adr):Sp:=zH8 K t
theorem ok_Play_fewest (T:Txt K mg t):FnOk P w K mg base (CXD P w) 6 t.a_Play_fewest t.d_Play_fewest ["self","goal"] (zm2 K t):=by
 have G_fewest:FnOk P w K mg base (CXD P w) 5 t.a_fewest t.d_fewest ["beam","start","goal"] (zn2 K t):=zr8 T
 refine T.F_Play_fewest.d.okD (CX:=CX0) sc_Play_fewest (fun vs H Q E h=>?_) (fun cdv A outer s H vs Q E hr h=>?_)
 . obtain ⟨p,b,a,s,x,m,n,r,lim,hs,xs,c,gs,ys,ms,rfl,P0,hS,nv,bs⟩:=h
   rfl
 . obtain ⟨p,b,a,s,x,m,n,r,lim,hs,xs,c,gs,ys,ms,rfl,P0,hS,nv,bs⟩:=h
   have hr_fewest:Room 5 _:=hr.mono (by decide)
   refine⟨_,(za6 (zb6 (za9 G_fewest hr_fewest rfl T.m_fewest_layers T.k_fewest T.b_fewest .nil za8 (za0 (zf6 (pv 0) rfl) (za0 (zf6 (pv 0) rfl) (za0 (pv 1) za4)))))),?_⟩
   obtain ⟨dx,hp⟩:=P0.hp
   exact⟨_,rfl,p,_,dx,_,_,rfl,hp,T.cl_Play,T.na_Play_beam,zz7 _ _ _ _,_,rfl,p,_,dx,_,_,rfl,hp,T.cl_Play,T.na_Play_standing,zh4 _ _ _ _,_,rfl,b,x,a,n,r,lim,hs,c,gs,rfl,P0.bm,.inr P0.hx,hS,.inr nv,bs⟩
theorem ok_Play_next_move (T:Txt K mg t):FnOk P w K mg base (CXD P w) 7 t.a_Play_next_move t.d_Play_next_move ["self","goal"] (zj7 K t):=by
 have G_next_move:FnOk P w K mg base (CXD P w) 6 t.a_next_move t.d_next_move ["beam","start","goal"] (zl0 K t):=zq3 T
 refine T.F_Play_next_move.d.okD (CX:=CX0) sc_Play_next_move (fun vs H Q E h=>?_) (fun cdv A outer s H vs Q E hr h=>?_)
 . obtain ⟨p,b,a,s,x,m,n,r,lim,hs,xs,c,gs,ys,ms,rfl,P0,hS,nv,bs⟩:=h
   rfl
 . obtain ⟨p,b,a,s,x,m,n,r,lim,hs,xs,c,gs,ys,ms,rfl,P0,hS,nv,bs⟩:=h
   have hr_next_move:Room 6 _:=hr.mono (by decide)
   refine⟨_,(za6 (zb6 (za9 G_next_move hr_next_move rfl T.m_next_move_layers T.k_next_move T.b_next_move .nil za8 (za0 (zf6 (pv 0) rfl) (za0 (zf6 (pv 0) rfl) (za0 (pv 1) za4)))))),?_⟩
   obtain ⟨dx,hp⟩:=P0.hp
   exact⟨_,rfl,p,_,dx,_,_,rfl,hp,T.cl_Play,T.na_Play_beam,zz7 _ _ _ _,_,rfl,p,_,dx,_,_,rfl,hp,T.cl_Play,T.na_Play_standing,zh4 _ _ _ _,_,rfl,b,x,a,n,r,lim,hs,c,gs,rfl,P0.bm,.inr P0.hx,hS,.inr nv,bs⟩
theorem ok_Play_least (T:Txt K mg t):FnOk P w K mg base (CXD P w) 6 t.a_Play_least t.d_Play_least ["self","goal"] (zn9 K t):=by
 have G_least:FnOk P w K mg base (CXD P w) 5 t.a_least t.d_least ["beam","start","goal"] (zv5 K t):=zB9 T
 refine T.F_Play_least.d.okD (CX:=CX0) sc_Play_least (fun vs H Q E h=>?_) (fun cdv A outer s H vs Q E hr h=>?_)
 . obtain ⟨p,b,a,s,x,m,n,r,lim,hs,xs,c,gs,ys,ms,rfl,P0,hS,nv,bs⟩:=h
   rfl
 . obtain ⟨p,b,a,s,x,m,n,r,lim,hs,xs,c,gs,ys,ms,rfl,P0,hS,nv,bs⟩:=h
   have hr_least:Room 5 _:=hr.mono (by decide)
   refine⟨_,(za6 (zb6 (za9 G_least hr_least rfl T.m_least_limits T.k_least T.b_least .nil za8 (za0 (zf6 (pv 0) rfl) (za0 (zf6 (pv 0) rfl) (za0 (pv 1) za4)))))),?_⟩
   obtain ⟨dx,hp⟩:=P0.hp
   exact⟨_,rfl,p,_,dx,_,_,rfl,hp,T.cl_Play,T.na_Play_beam,zz7 _ _ _ _,_,rfl,p,_,dx,_,_,rfl,hp,T.cl_Play,T.na_Play_standing,zh4 _ _ _ _,_,rfl,b,x,a,n,r,lim,hs,c,gs,rfl,P0.bm,.inr P0.hx,hS,.inr nv,bs⟩
end
end Bt
namespace Bt
open PySem L2
section
variable {P:Program} {w:World} {K:PySem.W.Frag} {mg:Str->Option Value} {base:Heap} {t:Adr}
theorem zz8 (T:Txt K mg t):FnOk P w K mg base CX0 1 t.a_w_at t.d_w_at ["_law_script","_law_k"] (zs8 K t):=by
 refine T.F_w_at.ok sc_w_at (fun vs H Q E h=>?_) (fun cdv A outer s H vs Q E hr h=>?_)
 . obtain ⟨a,ns,k,rfl,hS,q⟩:=h
   rfl
 . obtain ⟨a,ns,k,rfl,hS,q⟩:=h
   refine⟨_,(za1 (zc6 (zb7 zG3 (pv 1) (zd0 zc8 rfl T.n_len PySem.boot_len (za0 (pv 0) za4)) (zb9 _)) (za6 (zb6 (zk1 zg5 (pv 0) (pv 1) (fun _ _=>rfl)))) zb4)
     (za6 (zb6 za5))),?_⟩
   refine⟨_,rfl,_,rfl,a,_,rfl,.inl hS,_,_,rfl,rfl,_,rfl,?_⟩
   rw[List.length_map]
   refine ite2 (fun h1=>?_) (fun h1=>?_)
   . have hk:k<ns.length:=by have:=of_decide_eq_true h1;omega
     have e:ns.getD k 0=ns[k]:=by simp[hk]
     rw[e] at q
     exact⟨_,rfl,_,rfl,a,_,_,_,rfl,rfl,hS,zs6 (by simp[hk]),q⟩
   . have hk:¬ k<ns.length:=fun z=>h1 (decide_eq_true (by omega))
     have e:ns.getD k 0=0:=by simp[hk]
     rw[e] at q
     exact q
theorem ok_w_whole (T:Txt K mg t):FnOk P w K mg base CX0 1 t.a_w_whole t.d_w_whole ["_law_found"] (zu9 K t):=by
 refine T.F_w_whole.ok sc_w_whole (fun vs H Q E h=>?_) (fun cdv A outer s H vs Q E hr h=>?_)
 . obtain ⟨i,rfl,q⟩:=h
   rfl
 . obtain ⟨i,rfl,q⟩:=h
   refine⟨_,(za6 (zb6 (pe_and (zd0 zu1 rfl T.n_isinstance PyProof.Rows.boot_isinstance (za0 (pv 0) (za0 (zx9 (v:=.ty "int") rfl T.n_int PyProof.Rows.boot_int rfl) za4))) (zF5 (zF6 (zd0 zu1 rfl T.n_isinstance PyProof.Rows.boot_isinstance (za0 (pv 0) (za0 (zx9 (v:=.ty "bool") rfl T.n_bool PyProof.Rows.boot_bool rfl) za4)))))))),?_⟩
   refine⟨_,rfl,_,_,_,_,_,rfl,.ty _,.int _,rfl,_,rfl,iteT ?_⟩
   exact⟨_,rfl,_,_,_,_,_,rfl,.ty _,.int _,rfl,_,rfl,q⟩
theorem zx6 (T:Txt K mg t):FnOk P w K mg base CX0 1 t.a_w_figs t.d_w_figs ["_law_cell","_law_count","_law_base","_law_mix"] (zr7 K t):=by
 refine T.F_w_figs.ok zg9 (fun vs H Q E h=>?_) (fun cdv A outer s H vs Q E hr h=>?_)
 . obtain ⟨cell,base0,n,mix,rfl,⟨hn,hb,hb2⟩,q⟩:=h
   rfl
 . obtain ⟨cell,base0,n,mix,rfl,⟨hn,hb,hb2⟩,q⟩:=h
   refine⟨_,(za1 (zb8 (i:=4) zg9.nd rfl (Or.inl rfl) (zf7 za4))
     (za1 (zb8 (i:=5) zg9.nd rfl (Or.inl rfl) (pv 0))
     (za1 (zc6 (zg6 (pv 3)) (za6 (zb8 (i:=5) zg9.nd rfl (Or.inl rfl) (zc1 ze0 (zc1 zq8 (pv 0) za5) za5))) zb4)
     (za1 (zo0 PassesOwn.never rfl (zm3 rfl T.n_range (za0 (pv 1) za4)) (zd8 (i:=6) zg9.nd rfl (Or.inl rfl)) (za6 (zc6 (zg6 (pv 3)) (za1 (zb8 (i:=5) zg9.nd rfl (Or.inl rfl) (zc1 ze0 (zc1 zq8 (zc1 zg7 (zc1 zg7 (pv 5) (pv 6)) za5) za5) za5))
     (za6 (zh8 (zD8 PySem.F.plainAttrs_list PySem.F.slot_list_append PySem.F.type_list_append zq9 (pv 4) (za0 (zc1 ze0 (zc1 zj1 (pv 5) za5) (pv 2)) za4))))) (za1 (zh8 (zD8 PySem.F.plainAttrs_list PySem.F.slot_list_append PySem.F.type_list_append zq9 (pv 4) (za0 (zc1 ze0 (pv 5) (pv 2)) za4)))
     (za6 (zb8 (i:=5) zg9.nd rfl (Or.inl rfl) (zc1 zj1 (pv 5) (pv 2))))))))
     (za6 (zb6 (pv 4))))))),?_⟩
   refine⟨Nat.zero_le _,fun l hl=>?_⟩
   refine⟨_,rfl,_,rfl,_,rfl,?_⟩
   have e0:(zh6 cell base0 mix 0).2=[]:=rfl
   cases mix
   . refine iteF ?_
     refine⟨_,rfl,_,rfl,by omega,by omega,zj9 (n:=(n:Int).toNat) (fun i σ H'=>∃ v,σ=[some (.int cell),some (.int n),some (.int base0),some (.bl false),some (.ref l),some (.int (zh6 cell base0 false i).1),v]/\H'=upd H l (.lst ((zh6 cell base0 false i).2.map V.int))/\(zh6 cell base0 false i).2.length=i) ⟨none,rfl,rfl,rfl⟩ ?_ ?_⟩
     . rintro i σ H' hi ⟨v,rfl,rfl,hlen⟩
       refine⟨_,rfl,_,rfl,iteF ?_⟩
       refine⟨_,rfl,.inl ⟨rfl,_,SqL.of za3⟩,_,rfl,_,rfl,_,_,rfl,rfl,hb,l,_,_,rfl,rfl,za3,zd1 (by rw[List.length_map];omega),?_⟩
       refine⟨_,rfl,_,rfl,_,_,rfl,rfl,⟨hb,by omega⟩,_,rfl,?_,?_⟩
       . rw[zh0]
         show upd H l (.lst (_++[V.int _]))=upd H l (.lst ((_++[_]).map V.int))
         rw[List.map_append]
         rfl
       . show (_++[_]).length=i+1
         rw[List.length_append,hlen]
         rfl
     . rintro σ H' ⟨v,rfl,rfl,hlen⟩
       exact⟨_,rfl,q l hl⟩
   . refine iteT ?_
     refine⟨_,rfl,_,_,rfl,rfl,.inr ⟨by decide,by decide⟩,_,_,rfl,rfl,(by show (0:Int)<2147483647;decide),?_⟩
     refine⟨_,rfl,_,rfl,by omega,by omega,zj9 (n:=(n:Int).toNat) (fun i σ H'=>∃ v,σ=[some (.int cell),some (.int n),some (.int base0),some (.bl true),some (.ref l),some (.int (zh6 cell base0 true i).1),v]/\H'=upd H l (.lst ((zh6 cell base0 true i).2.map V.int))/\(zh6 cell base0 true i).2.length=i) ⟨none,rfl,rfl,rfl⟩ ?_ ?_⟩
     . rintro i σ H' hi ⟨v,rfl,rfl,hlen⟩
       refine⟨_,rfl,_,rfl,iteT ?_⟩
       refine⟨_,rfl,_,rfl,_,_,rfl,rfl,_,_,rfl,rfl,_,_,rfl,rfl,.inr ⟨by decide,by decide⟩,_,_,rfl,rfl,(by show (0:Int)<2147483647;decide),?_⟩
       refine⟨_,rfl,.inl ⟨rfl,_,SqL.of za3⟩,_,rfl,_,_,rfl,rfl,⟨by decide,by decide⟩,_,rfl,_,_,rfl,rfl,hb,l,_,_,rfl,rfl,za3,zd1 (by rw[List.length_map];omega),?_⟩
       refine⟨_,rfl,?_,?_⟩
       . rw[zh0]
         show upd H l (.lst (_++[V.int _]))=upd H l (.lst ((_++[_]).map V.int))
         rw[List.map_append]
         rfl
       . show (_++[_]).length=i+1
         rw[List.length_append,hlen]
         rfl
     . rintro σ H' ⟨v,rfl,rfl,hlen⟩
       exact⟨_,rfl,q l hl⟩
theorem ok_w_same (T:Txt K mg t):FnOk P w K mg base CX0 2 t.a_w_same t.d_w_same ["_law_found","_law_due"] (zx4 K t):=by
 have G_w_whole:FnOk P w K mg base CX0 1 t.a_w_whole t.d_w_whole ["_law_found"] (zu9 K t):=ok_w_whole T
 refine T.F_w_same.ok zx1 (fun vs H Q E h=>?_) (fun cdv A outer s H vs Q E hr h=>?_)
 . obtain ⟨a,b,xs,ys,rfl,hA,hB,hl,q⟩:=h
   rfl
 . obtain ⟨a,b,xs,ys,rfl,hA,hB,hl,q⟩:=h
   have hr_w_whole:Room 1 _:=hr.mono (by decide)
   refine⟨_,(za1 (zc6 (zb7 zA0 (zd0 zc8 rfl T.n_len PySem.boot_len (za0 (pv 0) za4)) (zd0 zc8 rfl T.n_len PySem.boot_len (za0 (pv 1) za4)) (zb9 _)) (za6 (zb6 zt2)) zb4)
     (za1 (zo0 PassesOwn.never rfl (zm3 rfl T.n_range (za0 (zd0 zc8 rfl T.n_len PySem.boot_len (za0 (pv 1) za4)) za4)) (zd8 (i:=2) zx1.nd rfl (Or.inl rfl)) (za6 (zc6 (PW.pt (zF4 (zq6 (zg6 (za9 G_w_whole hr_w_whole rfl T.m_w_whole T.k_w_whole T.b_w_whole .nil zd3 (za0 (zk1 zC8 (pv 0) (pv 2) (fun _ _=>rfl)) za4)))) (zC4 (zb7 zA0 (zk1 zC8 (pv 0) (pv 2) (fun _ _=>rfl)) (zk1 zC8 (pv 1) (pv 2) (fun _ _=>rfl)) (zb9 _))))) (za6 (zb6 zt2)) zb4)))
     (za6 (zb6 zt2)))),?_⟩
   refine⟨_,rfl,a,_,rfl,hA,_,rfl,b,_,rfl,hB,rfl,_,rfl,?_⟩
   rw[List.length_map,List.length_map]
   refine ite2 (fun h1=>?_) (fun h1=>?_)
   . have ne:xs≠ys:=by
       intro e
       subst e
       simp at h1
     rw[decide_eq_false ne] at q
     exact q
   . have hlen:xs.length=ys.length:=by
       simp at h1
       omega
     refine⟨_,rfl,b,_,rfl,hB,_,rfl,by omega,by rw[List.length_map];omega,zj9 (n:=((ys.map V.int).length:Int).toNat) (fun i σ H'=>∃ v,σ=[some (.ref a),some (.ref b),v]/\H'=H/\xs.take i=ys.take i) ⟨none,rfl,rfl,rfl⟩ ?_ ?_⟩
     . rintro i σ H' hi ⟨v,rfl,rfl,ht⟩
       have hiy:i<ys.length:=by simpa using hi
       have hix:i<xs.length:=by omega
       have ex:xs[i]?=some xs[i]:=by simp[hix]
       have ey:ys[i]?=some ys[i]:=by simp[hiy]
       have e0:(0:Int)+(i:Int)=(i:Int):=by omega
       have ax:atI (xs.map V.int) (0+(i:Int))=some (.int xs[i]):=by rw[e0];exact zs6 ex
       have ay:atI (ys.map V.int) (0+(i:Int))=some (.int ys[i]):=by rw[e0];exact zs6 ey
       have ixA:∀ (Q':VK),Q' (.int xs[i]) H'->rIx K (.ref a) (.int (0+(i:Int))) H' Q':=fun Q' h=>by
         rcases hA with hA | hA
         . exact .inl ⟨a,_,_,_,rfl,rfl,hA,ax,h⟩
         . exact .inr (.inl ⟨a,_,_,_,rfl,rfl,hA,ax,h⟩)
       have ixB:∀ (Q':VK),Q' (.int ys[i]) H'->rIx K (.ref b) (.int (0+(i:Int))) H' Q':=fun Q' h=>by
         rcases hB with hB | hB
         . exact .inl ⟨b,_,_,_,rfl,rfl,hB,ay,h⟩
         . exact .inr (.inl ⟨b,_,_,_,rfl,rfl,hB,ay,h⟩)
       refine⟨_,rfl,_,rfl,ixA _ ⟨_,rfl,_,rfl,iteF ?_⟩⟩
       refine⟨_,rfl,_,rfl,ixA _ ⟨_,rfl,_,rfl,ixB _ ⟨rfl,_,rfl,?_⟩⟩⟩
       refine ite2 (fun h2=>?_) (fun h2=>?_)
       . have ne:xs≠ys:=by
           intro e
           subst e
           simp at h2
         rw[decide_eq_false ne] at q
         exact q
       . refine⟨_,rfl,rfl,?_⟩
         have e2:xs[i]=ys[i]:=by
           simp at h2
           exact h2
         rw[List.take_succ,List.take_succ,ht,ex,ey,e2]
     . rintro σ H' ⟨v,rfl,rfl,ht⟩
       have e:xs=ys:=by
         have e1:((ys.map V.int).length:Int).toNat=ys.length:=by simp
         rw[e1] at ht
         rw[<-List.take_length (l:=ys),<-ht,<-hlen,List.take_length]
       rw[decide_eq_true e] at q
       exact q
theorem ok_w_shape (T:Txt K mg t):FnOk P w K mg base CX0 2 t.a_w_shape t.d_w_shape ["_law_script"] (zv0 K t):=by
 have G_w_at:FnOk P w K mg base CX0 1 t.a_w_at t.d_w_at ["_law_script","_law_k"] (zs8 K t):=zz8 T
 have G_w_figs:FnOk P w K mg base CX0 1 t.a_w_figs t.d_w_figs ["_law_cell","_law_count","_law_base","_law_mix"] (zr7 K t):=zx6 T
 refine T.F_w_shape.ok ze5 (fun vs H Q E h=>?_) (fun cdv A outer s H vs Q E hr h=>?_)
 . obtain ⟨a,ns,rfl,hS,q⟩:=h
   rfl
 . obtain ⟨a,ns,rfl,hS,q⟩:=h
   have hr_w_at:Room 1 _:=hr.mono (by decide)
   have hr_w_figs:Room 1 _:=hr.mono (by decide)
   refine⟨_,(za1 (zb8 (i:=1) ze5.nd rfl (Or.inl rfl) (za9 G_w_at hr_w_at rfl T.m_w_at T.k_w_at T.b_w_at .nil zd3 (za0 (pv 0) (za0 za5 za4))))
     (za1 (zb8 (i:=2) ze5.nd rfl (Or.inl rfl) (zk1 zg5 (zf7 (za0 za5 (za0 za5 (za0 za5 (za0 za5 za4))))) (zc1 ze0 (pv 1) za5) (fun _ _=>rfl)))
     (za1 (zb8 (i:=3) ze5.nd rfl (Or.inl rfl) (zd0 (call_min2 rfl) rfl T.n_min PyProof.Rows.boot_min (za0 (zk1 zg5 (zf7 (za0 za5 (za0 za5 (za0 za5 (za0 za5 za4))))) (zc1 zC7 (pv 2) za5) (fun _ _=>rfl)) (za0 (zk1 zg5 (zf7 (za0 za5 (za0 za5 (za0 za5 (za0 za5 (za0 za5 (za0 za5 za4))))))) (zc1 ze0 (zc1 zj1 (pv 1) za5) za5) (fun _ _=>rfl)) za4))))
     (za1 (zb8 (i:=4) ze5.nd rfl (Or.inl rfl) (zc1 zg7 za5 (zc1 ze0 (zc1 zj1 (pv 1) za5) za5)))
     (za1 (zb8 (i:=5) ze5.nd rfl (Or.inl rfl) (za9 G_w_at hr_w_at rfl T.m_w_at T.k_w_at T.b_w_at .nil zd3 (za0 (pv 0) (za0 za5 za4))))
     (za1 (ps_comp (i:=6) rfl zp6 (zD1 (za9 G_w_figs hr_w_figs rfl T.m_w_figs T.k_w_figs T.b_w_figs .nil zd3 (za0 (za9 G_w_at hr_w_at rfl T.m_w_at T.k_w_at T.b_w_at .nil zd3 (za0 (pv 0) (za0 za5 za4))) (za0 (pv 3) (za0 za5 (za0 (zm4 zd9 (zc1 ze0 (pv 5) za5) za5 (zb9 _)) za4)))))) (fun _ _ _ _ _=>(zd8 (i:=0) zp6.nd rfl (Or.inl rfl))) (fun _ _ _ _ _=>zt9) (fun _ _ _ _ _=>(zc1 zg7 za5 (pv 0))) ze5.nd rfl rfl)
     (za1 (zc6 (zb7 zd9 (zc1 ze0 (zc1 zj1 (pv 5) za5) za5) za5 (zb9 _)) (za6 (zb8 (i:=6) ze5.nd rfl (Or.inl rfl) (zc1 zz0 (zt7 zy8 (pv 6) zy5 (zy6 za5)) (pv 3)))) zb4)
     (za1 (zc6 (zb7 zd9 (zc1 ze0 (zc1 zj1 (pv 5) za5) za5) za5 (zb9 _)) (za6 (zb8 (i:=6) ze5.nd rfl (Or.inl rfl) (zc1 zz0 (zf7 (za0 za5 za4)) (pv 3)))) zb4)
     (za6 (zb6 (zf7 (za0 (pv 2) (za0 (pv 4) (za0 (pv 6) za4)))))))))))))),?_⟩
   have hm1:0<=at0 ns 1 % 4:=Int.emod_nonneg _ (by decide)
   have hm2:at0 ns 1 % 4<4:=Int.emod_lt_of_pos _ (by decide)
   have hm3:0<=at0 ns 1 / 4 % 6:=Int.emod_nonneg _ (by decide)
   have hm4:at0 ns 1 / 4 % 6<6:=Int.emod_lt_of_pos _ (by decide)
   have hN:=zr6 ns
   obtain ⟨hW0,hW5⟩:=zH2 ns
   have h5:(if shN ns=1 then (5:Int) else if shN ns=2 then 4 else 3)<=5:=by repeat (first | decide | split)
   refine⟨_,rfl,a,ns,1,rfl,hS,?_⟩
   refine⟨by decide,fun l1 f1=>⟨_,rfl,_,_,rfl,rfl,(by show (0:Int)<4;decide),l1,_,_,_,rfl,rfl,SqL.of za3,zu4 (xs:=[2,3,1,4]) hm1 hm2,?_⟩⟩
   have s1:Same H (upd H l1 (.lst [.int 2,.int 3,.int 1,.int 4])):=Same.upd f1
   generalize upd H l1 (.lst [.int 2,.int 3,.int 1,.int 4])=H1 at s1 ⊢
   refine⟨by decide,fun l2 f2=>⟨_,rfl,_,_,rfl,rfl,l2,_,_,_,rfl,rfl,SqL.of za3,zu4 (xs:=[5,4,3,3]) (by show 0<=shN ns-1;omega) (by show shN ns-1<4;omega),?_⟩⟩
   have s2:Same H (upd H1 l2 (.lst [.int 5,.int 4,.int 3,.int 3])):=s1.updT f2
   generalize upd H1 l2 (.lst [.int 5,.int 4,.int 3,.int 3])=H2 at s2 ⊢
   refine⟨by decide,fun l3 f3=>⟨_,rfl,_,_,rfl,rfl,⟨by decide,by decide⟩,_,_,rfl,rfl,(by show (0:Int)<6;decide),l3,_,_,_,rfl,rfl,SqL.of za3,zu4 (xs:=[3,2,4,1,5,0]) hm3 hm4,_,_,rfl,?_⟩⟩
   have s3:Same H (upd H2 l3 (.lst [.int 3,.int 2,.int 4,.int 1,.int 5,.int 0])):=s2.updT f3
   generalize upd H2 l3 (.lst [.int 3,.int 2,.int 4,.int 1,.int 5,.int 0])=H3 at s3 ⊢
   refine⟨_,rfl,_,_,rfl,rfl,⟨by decide,by decide⟩,_,_,rfl,rfl,(by show (0:Int)<3;decide),_,_,rfl,rfl,?_⟩
   refine⟨_,rfl,a,ns,0,rfl,s3.seq hS,?_⟩
   have eW:(((shW ns).toNat:Nat):Int)=shW ns:=by omega
   refine⟨_,rfl,a,ns,2,rfl,s3.seq hS,_,rfl,_,rfl,_,_,rfl,rfl,(by show (0:Int)<2;decide),rfl,at0 ns 2,20,(shW ns).toNat,zj4 ns,?_,⟨by omega,by decide,by decide⟩,fun l4 f4=>⟨l4,rfl,⟨_,SqL.of za3⟩,fun D hD=>?_⟩⟩
   . rw[eW];rfl
   have s4:Same H (upd H3 l4 (.lst ((figs (at0 ns 2) (shW ns).toNat 20 (zj4 ns)).map V.int))):=s3.updT f4
   refine comp_list (f:=fun v=>match v with | .int z=>V.int (1+z) | v=>v) (SqL.of za3) hD (Nat.le_of_lt (zd1 (by rw[List.length_map,zp8];omega))) (fun x acc R hx h=>?_) ?_
   . obtain ⟨z,hz,rfl⟩:=List.mem_map.mp hx
     exact⟨_,rfl,_,_,rfl,rfl,h⟩
   have em:((figs (at0 ns 2) (shW ns).toNat 20 (zj4 ns)).map V.int).map (fun v=>match v with | .int z=>V.int (1+z) | v=>v)=(shH0 ns).map V.int:=by
     unfold shH0
     rw[List.map_map,List.map_map];rfl
   rw[em]
   have s5:=s4.updT (o:=.lst ((shH0 ns).map V.int)) hD
   have fD:H D=none:=s4.free hD
   have hHD:(upd (upd H3 l4 (.lst ((figs (at0 ns 2) (shW ns).toNat 20 (zj4 ns)).map V.int))) D (.lst ((shH0 ns).map V.int))) D=some (.lst ((shH0 ns).map V.int)):=za3
   clear em
   revert s5 hHD
   generalize upd (upd H3 l4 (.lst ((figs (at0 ns 2) (shW ns).toNat 20 (zj4 ns)).map V.int))) D (.lst ((shH0 ns).map V.int))=H5
   intro s5 hHD
   have hl0:=zB0 ns
   refine⟨_,rfl,_,_,rfl,rfl,⟨by decide,by decide⟩,_,_,rfl,rfl,(by show (0:Int)<5;decide),rfl,_,rfl,?_⟩
   show (if decide (V.int (at0 ns 0 / 2 % 5)=V.int 1)=true then _ else _)
   rw[zi7]
   by_cases m1:at0 ns 0 / 2 % 5=1
   . rw[decide_eq_true m1]
     refine iteT ?_
     refine⟨_,rfl,1,rfl,D,_,rfl,SqL.of hHD,fun l6 f6=>⟨_,rfl,l6,_,_,rfl,rfl,za3,(by show -(2 ^ 63)<=shW ns;omega),(by show shW ns<2 ^ 63;omega),?_,fun l7 f7=>?_⟩⟩
     . refine Nat.le_of_lt (zd1 ?_)
       have h1:(cutV ((shH0 ns).map V.int) none (some 1)).length<=(shW ns).toNat:=by rw[<-hl0,<-List.length_map (f:=V.int)];exact zs0 _ _ _
       have h2:(shW ns).toNat<=5:=by omega
       exact Nat.le_trans (Nat.mul_le_mul (Nat.le_trans h1 h2) h2) (by decide)
     have s6:=(s5.updT (o:=.lst (cutV ((shH0 ns).map V.int) none (some 1))) f6).updT (o:=.lst (List.replicate (shW ns).toNat (cutV ((shH0 ns).map V.int) none (some 1))).flatten) f7
     have f7':H l7=none:=(s5.updT (o:=.lst (cutV ((shH0 ns).map V.int) none (some 1))) f6).free f7
     refine⟨_,rfl,_,_,rfl,rfl,⟨by decide,by decide⟩,_,_,rfl,rfl,(by show (0:Int)<5;decide),rfl,_,rfl,?_⟩
     show (if decide (V.int (at0 ns 0 / 2 % 5)=V.int 2)=true then _ else _)
     rw[zi7,decide_eq_false (by omega)]
     refine iteF ?_
     refine⟨_,rfl,_,rfl,_,rfl,(by show 3<=sizeLine;decide),fun l8 f8=>?_⟩
     refine q l8 l7 _ (s6.updT f8) (s6.free f8) f7' ?_ za3
     rw[za7 (fun e=>by rw[<-e] at f8;rw[za3] at f8;cases f8),za3]
     have ec:cutV ((shH0 ns).map V.int) none (some 1)=((shH0 ns).take 1).map V.int:=by
       unfold cutV
       rw[HT.sIx_none,show (some (1:Int))=some ((1:Nat):Int) from rfl,HT.sIx_nat,List.drop_zero,Nat.sub_zero,List.map_take,List.length_map]
       by_cases h:1<=(shH0 ns).length
       . rw[Nat.min_eq_left h]
       . have:shH0 ns=[]:=List.eq_nil_of_length_eq_zero (by omega)
         rw[this];rfl
     have ef:(List.replicate (shW ns).toNat (((shH0 ns).take 1).map V.int)).flatten=(shH ns).map V.int:=by
       unfold shH
       rw[if_pos m1,List.map_flatten,List.map_replicate]
     show some (HO.lst (List.replicate (shW ns).toNat (cutV ((shH0 ns).map V.int) none (some 1))).flatten)=_
     rw[ec,ef]
   . rw[decide_eq_false m1]
     refine iteF ?_
     refine⟨_,rfl,_,_,rfl,rfl,⟨by decide,by decide⟩,_,_,rfl,rfl,(by show (0:Int)<5;decide),rfl,_,rfl,?_⟩
     show (if decide (V.int (at0 ns 0 / 2 % 5)=V.int 2)=true then _ else _)
     rw[zi7]
     by_cases m2:at0 ns 0 / 2 % 5=2
     . rw[decide_eq_true m2]
       refine iteT ?_
       refine⟨by decide,fun l6 f6=>⟨_,rfl,l6,_,_,rfl,rfl,za3,(by show -(2 ^ 63)<=shW ns;omega),(by show shW ns<2 ^ 63;omega),?_,fun l7 f7=>?_⟩⟩
       . refine Nat.le_of_lt (zd1 ?_)
         show 1*(shW ns).toNat<=1000
         omega
       have s6:=(s5.updT (o:=.lst [.int 20]) f6).updT (o:=.lst (List.replicate (shW ns).toNat [V.int 20]).flatten) f7
       have f7':H l7=none:=(s5.updT (o:=.lst [.int 20]) f6).free f7
       refine⟨_,rfl,_,rfl,_,rfl,(by show 3<=sizeLine;decide),fun l8 f8=>?_⟩
       refine q l8 l7 _ (s6.updT f8) (s6.free f8) f7' ?_ za3
       rw[za7 (fun e=>by rw[<-e] at f8;rw[za3] at f8;cases f8),za3]
       have ef:(List.replicate (shW ns).toNat [V.int 20]).flatten=(shH ns).map V.int:=by
         unfold shH
         rw[if_neg m1,if_pos m2,List.map_flatten,List.map_replicate]
         rfl
       show some (HO.lst (List.replicate (shW ns).toNat [V.int 20]).flatten)=_
       rw[ef]
     . rw[decide_eq_false m2]
       refine iteF ?_
       refine⟨_,rfl,_,rfl,_,rfl,(by show 3<=sizeLine;decide),fun l8 f8=>?_⟩
       refine q l8 D _ (s5.updT f8) (s5.free f8) fD ?_ za3
       rw[za7 (fun e=>by rw[<-e] at f8;rw[hHD] at f8;cases f8),hHD]
       have ef:shH ns=shH0 ns:=by
         unfold shH
         rw[if_neg m1,if_neg m2]
       rw[ef]
theorem ok_w_put (T:Txt K mg t):FnOk P w K mg base CX0 2 t.a_w_put t.d_w_put ["_law_script","_law_k","_law_more","_law_shape_here"] (zB2 K t):=by
 have G_w_figs:FnOk P w K mg base CX0 1 t.a_w_figs t.d_w_figs ["_law_cell","_law_count","_law_base","_law_mix"] (zr7 K t):=zx6 T
 have G_w_at:FnOk P w K mg base CX0 1 t.a_w_at t.d_w_at ["_law_script","_law_k"] (zs8 K t):=zz8 T
 refine T.F_w_put.ok zf1 (fun vs H Q E h=>?_) (fun cdv A outer s H vs Q E hr h=>?_)
 . obtain ⟨a,sh,h,ns,k,more,n,r,hs,rfl,hS,hsh,hh,⟨n1,n2,r1,hw⟩,q⟩:=h
   rfl
 . obtain ⟨a,sh,h,ns,k,more,n,r,hs,rfl,hS,hsh,hh,⟨n1,n2,r1,hw⟩,q⟩:=h
   have hr_w_figs:Room 1 _:=hr.mono (by decide)
   have hr_w_at:Room 1 _:=hr.mono (by decide)
   refine⟨_,(za1 (zC6 (pv 3) (zG7 rfl (zh2 (zd8 (i:=4) zf1.nd rfl (Or.inl rfl)) (zh2 (zd8 (i:=5) zf1.nd rfl (Or.inl rfl)) (zh2 (zd8 (i:=6) zf1.nd rfl (Or.inl rfl)) zy1)))))
     (za1 (zb8 (i:=7) zf1.nd rfl (Or.inl rfl) (zm4 zd9 (zc1 ze0 (za9 G_w_at hr_w_at rfl T.m_w_at T.k_w_at T.b_w_at .nil zd3 (za0 (pv 0) (za0 za5 za4))) za5) za5 (zb9 _)))
     (za1 (zb8 (i:=8) zf1.nd rfl (Or.inl rfl) (zc1 zg7 (za9 G_w_at hr_w_at rfl T.m_w_at T.k_w_at T.b_w_at .nil zd3 (za0 (pv 0) (za0 (pv 1) za4))) (pv 2)))
     (za1 (zb8 (i:=9) zf1.nd rfl (Or.inl rfl) (zf7 za4))
     (za1 (zo0 PassesOwn.never rfl (zD1 (za9 G_w_figs hr_w_figs rfl T.m_w_figs T.k_w_figs T.b_w_figs .nil zd3 (za0 (pv 8) (za0 (zd0 zc8 rfl T.n_len PySem.boot_len (za0 (pv 6) za4)) (za0 (zc1 zg7 (zc1 zq8 za5 (pv 4)) za5) (za0 (pv 7) za4)))))) (zd8 (i:=10) zf1.nd rfl (Or.inl rfl)) (za1 (zb8 (i:=11) zf1.nd rfl (Or.inl rfl) (zc1 zC7 (pv 10) (pv 4)))
     (za1 (zc6 (zb7 zd9 (zc1 ze0 (pv 8) za5) za5 (zb9 _)) (za6 (zb8 (i:=11) zf1.nd rfl (Or.inl rfl) (pv 4))) zb4)
     (za1 (zc6 (PW.pt (zC5 (zb7 zA0 (pv 11) za5 (zb9 _)) (zy0 (zb7 op_ge (zD8 PySem.F.plainAttrs_list PySem.F.slot_list_count PySem.F.type_list_count mt_countL (pv 9) (za0 (pv 11) za4)) (pv 5) (zb9 _))))) (za6 (zb8 (i:=11) zf1.nd rfl (Or.inl rfl) za5)) zb4)
     (za6 (zh8 (zD8 PySem.F.plainAttrs_list PySem.F.slot_list_append PySem.F.type_list_append zq9 (pv 9) (za0 (pv 11) za4))))))))
     (za6 (zb6 (pv 9)))))))),?_⟩
   refine⟨_,rfl,sh,_,rfl,SqL.of hsh,rfl,_,_,rfl,_,_,rfl,_,_,rfl,rfl,?_⟩
   refine⟨_,rfl,a,ns,0,rfl,hS,_,_,rfl,rfl,(by show (0:Int)<2;decide),rfl,?_⟩
   refine⟨_,rfl,_,rfl,a,ns,k,rfl,hS,_,rfl,_,_,rfl,rfl,?_⟩
   refine⟨Nat.zero_le _,fun m fm=>?_⟩
   have s1:Same H (upd H m (.lst [])):=Same.upd fm
   refine⟨_,rfl,_,rfl,h,_,rfl,.inl (s1.seq hh),_,rfl,_,_,rfl,rfl,.inl ⟨by decide,by decide⟩,_,_,rfl,rfl,_,rfl,at0 ns k+more,2*n+1,hs.length,zj4 ns,?_,⟨by omega,by omega,by omega⟩,fun f ff=>⟨f,rfl,⟨_,SqL.of za3⟩,?_⟩⟩
   . rw[List.length_map];rfl
   have hfm:f≠m:=fun e=>by rw[e,za3] at ff;cases ff
   have ff0:H f=none:=s1.free ff
   have hlen:(figs (at0 ns k+more) hs.length (2*n+1) (zj4 ns)).length=hs.length:=zp8 _ _ _ _
   have hin:=zz4 (cell:=at0 ns k+more) (mix:=zj4 ns) (show (0:Int)<2*n+1 by omega) hs.length
   have hq:∀ H',Same H H'->H' m=some (.lst ((putL n r (decide (V.int ((at0 ns k+more) % 13)=V.int 12)) (figs (at0 ns k+more) hs.length (2*n+1) (zj4 ns))).map V.int))->Q (.ref m) H':=fun H' s' e=>q m H' s' fm e
   generalize figs (at0 ns k+more) hs.length (2*n+1) (zj4 ns)=fs at hlen hin hq ⊢
   have hput:∀ i,(putL n r (decide (V.int ((at0 ns k+more) % 13)=V.int 12)) (fs.take i)).length<=5:=fun i=>by
     rw[(zE9 _ (by omega) r1 (fs.take i) fun x hx=>hin x (List.mem_of_mem_take hx)).1,List.length_take];omega
   refine zz9 (K:=K) (a:=f) (xs:=fs.map V.int) (fun i σ H'=>∃ v10 v11,σ=[some (.ref a),some (.int k),some (.int more),some (.ref sh),some (.int n),some (.int r),some (.ref h),some (.bl (zj4 ns)),some (.int (at0 ns k+more)),some (.ref m),v10,v11] ∧
     H'=upd (upd (upd H m (.lst [])) f (.lst (fs.map V.int))) m (.lst ((putL n r (decide (V.int ((at0 ns k+more) % 13)=V.int 12)) (fs.take i)).map V.int))) ⟨none,none,rfl,?_⟩ ?_ ?_ ?_
   . exact (upd_id (by rw[za7 (Ne.symm hfm),za3];rfl)).symm
   . rintro i σ H' _ ⟨_,_,_,rfl⟩
     exact SqL.of (by rw[za7 hfm,za3])
   . rintro i x σ H' hi ⟨v10,v11,rfl,rfl⟩
     obtain ⟨z,rfl,hz⟩:=zu3 hi
     have etk:fs.take (i+1)=fs.take i++[z]:=by rw[List.take_succ,hz];rfl
     have hpi:=hput i
     generalize hlast:decide (V.int ((at0 ns k+more) % 13)=V.int 12)=last at hput hpi hq ⊢
     generalize hmade:putL n r last (fs.take i)=made at hpi
     have enext:putL n r last (fs.take (i+1))=zi0 n r last made z:=by rw[etk,zx2,hmade]
     have tail:∀ (p:Int),p=(if last=true then n else z-n)->True:=fun _ _=>trivial
     refine⟨_,rfl,_,rfl,_,_,rfl,rfl,?_⟩
     refine⟨_,rfl,_,_,rfl,rfl,(by show (0:Int)<13;decide),rfl,_,rfl,?_⟩
     show (if decide (V.int ((at0 ns k+more) % 13)=V.int 12)=true then _ else _)
     rw[hlast]
     cases last
     . refine iteF ?_
       refine⟨_,rfl,rfl,_,rfl,?_⟩
       refine ite2 (fun h1=>?_) (fun h1=>?_)
       . have hp0:z-n≠0:=fun e=>by
           have h1':(!decide (V.int (z-n)=V.int 0))=true:=h1
           rw[e] at h1';simp at h1'
         refine⟨_,rfl,.inl ⟨rfl,_,SqL.of za3⟩,_,rfl,m,made,z-n,rfl,rfl,SqL.of za3,_,rfl,_,_,rfl,rfl,_,rfl,?_⟩
         refine ite2 (fun h2=>?_) (fun h2=>?_)
         . have h2':r<=(made.count (z-n):Int):=of_decide_eq_true h2
           refine⟨_,rfl,.inl ⟨rfl,_,SqL.of za3⟩,_,rfl,m,_,_,rfl,rfl,za3,zd1 (by rw[List.length_map];omega),_,_,rfl,?_⟩
           rw[zh0,enext]
           unfold zi0
           rw[if_neg (show ¬ (false=true) by decide),if_pos ⟨hp0,h2'⟩,List.map_append]
           rfl
         . have h2':¬ r<=(made.count (z-n):Int):=fun e=>h2 (decide_eq_true e)
           refine⟨_,rfl,.inl ⟨rfl,_,SqL.of za3⟩,_,rfl,m,_,_,rfl,rfl,za3,zd1 (by rw[List.length_map];omega),_,_,rfl,?_⟩
           rw[zh0,enext]
           unfold zi0
           rw[if_neg (show ¬ (false=true) by decide),if_neg (fun e=>h2' e.2),List.map_append]
           rfl
       . have hp0:z-n=0:=by
           have h1':¬ (!decide (V.int (z-n)=V.int 0))=true:=h1
           rw[zi7] at h1'
           simpa using h1'
         refine iteF ?_
         refine⟨_,rfl,.inl ⟨rfl,_,SqL.of za3⟩,_,rfl,m,_,_,rfl,rfl,za3,zd1 (by rw[List.length_map];omega),_,_,rfl,?_⟩
         rw[zh0,enext]
         unfold zi0
         rw[if_neg (show ¬ (false=true) by decide),if_neg (fun e=>e.1 hp0),List.map_append]
         rfl
     . refine iteT ?_
       refine⟨_,rfl,?_⟩
       refine⟨_,rfl,rfl,_,rfl,?_⟩
       have hn0:n≠0:=by omega
       refine iteA (by show (!decide (V.int n=V.int 0))=true;rw[zi7];simpa using hn0) ?_
       refine⟨_,rfl,.inl ⟨rfl,_,SqL.of za3⟩,_,rfl,m,made,n,rfl,rfl,SqL.of za3,_,rfl,_,_,rfl,rfl,_,rfl,?_⟩
       refine ite2 (fun h2=>?_) (fun h2=>?_)
       . have h2':r<=(made.count n:Int):=of_decide_eq_true h2
         refine⟨_,rfl,.inl ⟨rfl,_,SqL.of za3⟩,_,rfl,m,_,_,rfl,rfl,za3,zd1 (by rw[List.length_map];omega),_,_,rfl,?_⟩
         rw[zh0,enext]
         unfold zi0
         rw[if_pos rfl,if_pos ⟨hn0,h2'⟩,List.map_append]
         rfl
       . have h2':¬ r<=(made.count n:Int):=fun e=>h2 (decide_eq_true e)
         refine⟨_,rfl,.inl ⟨rfl,_,SqL.of za3⟩,_,rfl,m,_,_,rfl,rfl,za3,zd1 (by rw[List.length_map];omega),_,_,rfl,?_⟩
         rw[zh0,enext]
         unfold zi0
         rw[if_pos rfl,if_neg (fun e=>h2' e.2),List.map_append]
         rfl
   . rintro σ H' ⟨v10,v11,rfl,rfl⟩
     rw[List.length_map,List.take_length]
     refine⟨_,rfl,hq _ ?_ za3⟩
     exact ((s1.updT ff).put fm)
end
end Bt
namespace Bt
open PySem L2
section
variable {P:Program} {w:World} {K:PySem.W.Frag} {mg:Str->Option Value} {base:Heap} {t:Adr}
noncomputable def zs4 (K:PySem.W.Frag) (t:Adr):Sp:=fun vs H _ E=>∃ (d:Int) (b a:Addr) (n r lim:Int) (hs xs:List Int),vs=[.int d,.ref b,.ref a]/\zf8 t H b n r hs lim/\SeqA K H a xs/\¬ ze1 n r hs.length xs/\BS t H E
theorem ok_w_looked (T:Txt K mg t):FnOk P w K mg base (CXD P w) 7 t.a_w_looked t.d_w_looked ["_law_door","_law_beam","_law_bad_here"] (zs4 K t):=by
 have G_write_beam:FnOk P w K mg base (CXD P w) 5 t.a_write_beam t.d_write_beam ["beam","standing"] (zn7 K t):=ok_write_beam T
 have G_as_standing:FnOk P w K mg base (CXD P w) 4 t.a_as_standing t.d_as_standing ["beam","standing"] (zc0 K t):=zc2 T
 have G_mirrored:FnOk P w K mg base (CXD P w) 5 t.a_mirrored t.d_mirrored ["beam","standing"] (zs3 K t):=ok_mirrored T
 have G_tilt:FnOk P w K mg base (CXD P w) 5 t.a_tilt t.d_tilt ["beam","standing"] (zs9 K t):=zz6 T
 have G_side:FnOk P w K mg base (CXD P w) 6 t.a_side t.d_side ["beam","standing"] (zF1 K t):=ok_side T
 have G_keeps:FnOk P w K mg base (CXD P w) 6 t.a_keeps t.d_keeps ["beam","standing"] (zv2 K t):=zB8 T
 have G_in_hand:FnOk P w K mg base (CXD P w) 5 t.a_in_hand t.d_in_hand ["beam","standing","weight"] (zv3 K t):=ok_in_hand T
 have G_loads:FnOk P w K mg base (CXD P w) 5 t.a_loads t.d_loads ["beam","standing"] (zB5 K t):=ok_loads T
 have G_refusal:FnOk P w K mg base (CXD P w) 5 t.a_refusal t.d_refusal ["beam","standing","move"] (zv4 K t):=ok_refusal T
 have G_moved:FnOk P w K mg base (CXD P w) 5 t.a_moved t.d_moved ["beam","standing","move"] (zB7 K t):=ok_moved T
 have G_moves:FnOk P w K mg base (CXD P w) 5 t.a_moves t.d_moves ["beam","standing"] (zB6 K t):=ok_moves T
 have G_write_standing:FnOk P w K mg base (CXD P w) 5 t.a_write_standing t.d_write_standing ["beam","standing"] (zj6 K t):=ok_write_standing T
 refine T.F_w_looked.d.okD (CX:=CX0) sc_w_looked (fun vs H Q E h=>?_) (fun cdv A outer s H vs Q E hr h=>?_)
 . obtain ⟨d,b,a,n,r,lim,hs,xs,rfl,B,hS,nv,bs⟩:=h
   rfl
 . obtain ⟨d,b,a,n,r,lim,hs,xs,rfl,B,hS,nv,bs⟩:=h
   have hr_write_beam:Room 5 _:=hr.mono (by decide)
   have hr_as_standing:Room 4 _:=hr.mono (by decide)
   have hr_mirrored:Room 5 _:=hr.mono (by decide)
   have hr_tilt:Room 5 _:=hr.mono (by decide)
   have hr_side:Room 6 _:=hr.mono (by decide)
   have hr_keeps:Room 6 _:=hr.mono (by decide)
   have hr_in_hand:Room 5 _:=hr.mono (by decide)
   have hr_loads:Room 5 _:=hr.mono (by decide)
   have hr_refusal:Room 5 _:=hr.mono (by decide)
   have hr_moved:Room 5 _:=hr.mono (by decide)
   have hr_moves:Room 5 _:=hr.mono (by decide)
   have hr_write_standing:Room 5 _:=hr.mono (by decide)
   refine⟨_,(za1 (zc6 (zb7 zd9 (pv 0) za5 (zb9 _)) (za6 (zb6 (za9 G_as_standing hr_as_standing rfl T.m_as_standing T.k_as_standing T.b_as_standing .nil za8 (za0 (pv 1) (za0 (pv 2) za4))))) zb4)
     (za1 (zc6 (zb7 zd9 (pv 0) za5 (zb9 _)) (za6 (zb6 (za9 G_mirrored hr_mirrored rfl T.m_mirrored T.k_mirrored T.b_mirrored .nil za8 (za0 (pv 1) (za0 (pv 2) za4))))) zb4)
     (za1 (zc6 (zb7 zd9 (pv 0) za5 (zb9 _)) (za6 (zb6 (za9 G_tilt hr_tilt rfl T.m_tilt T.k_tilt T.b_tilt .nil za8 (za0 (pv 1) (za0 (pv 2) za4))))) zb4)
     (za1 (zc6 (zb7 zd9 (pv 0) za5 (zb9 _)) (za6 (zb6 (za9 G_side hr_side rfl T.m_side T.k_side T.b_side .nil za8 (za0 (pv 1) (za0 (pv 2) za4))))) zb4)
     (za1 (zc6 (zb7 zd9 (pv 0) za5 (zb9 _)) (za6 (zb6 (za9 G_keeps hr_keeps rfl T.m_keeps T.k_keeps T.b_keeps .nil za8 (za0 (pv 1) (za0 (pv 2) za4))))) zb4)
     (za1 (zc6 (zb7 zd9 (pv 0) za5 (zb9 _)) (za6 (zb6 (za9 G_in_hand hr_in_hand rfl T.m_in_hand T.k_in_hand T.b_in_hand .nil za8 (za0 (pv 1) (za0 (pv 2) (za0 za5 za4)))))) zb4)
     (za1 (zc6 (zb7 zd9 (pv 0) za5 (zb9 _)) (za6 (zb6 (za9 G_loads hr_loads rfl T.m_loads T.k_loads T.b_loads .nil za8 (za0 (pv 1) (za0 (pv 2) za4))))) zb4)
     (za1 (zc6 (zb7 zd9 (pv 0) za5 (zb9 _)) (za6 (zb6 (za9 G_refusal hr_refusal rfl T.m_refusal T.k_refusal T.b_refusal .nil za8 (za0 (pv 1) (za0 (pv 2) (za0 (zG4 (za0 za5 (za0 za5 (za0 za5 za4)))) za4)))))) zb4)
     (za1 (zc6 (zb7 zd9 (pv 0) za5 (zb9 _)) (za6 (zb6 (za9 G_moved hr_moved rfl T.m_moved T.k_moved T.b_moved .nil za8 (za0 (pv 1) (za0 (pv 2) (za0 (zG4 (za0 za5 (za0 za5 (za0 za5 za4)))) za4)))))) zb4)
     (za1 (zc6 (zb7 zd9 (pv 0) za5 (zb9 _)) (za6 (zb6 (za9 G_moves hr_moves rfl T.m_moves T.k_moves T.b_moves .nil za8 (za0 (pv 1) (za0 (pv 2) za4))))) zb4)
     (za1 (zc6 (zb7 zd9 (pv 0) za5 (zb9 _)) (za6 (zb6 (za9 G_write_standing hr_write_standing rfl T.m_write_standing T.k_write_standing T.b_write_standing .nil za8 (za0 (pv 1) (za0 (pv 2) za4))))) zb4)
     (za6 (zb6 (za9 G_write_beam hr_write_beam rfl T.m_write_beam T.k_write_beam T.b_write_beam .nil za8 (za0 (pv 1) (za0 (pv 2) za4)))))))))))))))),?_⟩
   refine⟨_,rfl,rfl,_,rfl,ite2 (fun _=>⟨_,rfl,_,rfl,b,a,n,r,lim,hs,xs,rfl,B,hS,fun v=>absurd v nv,fun _=>bs⟩) fun _=>?_⟩
   refine⟨_,rfl,rfl,_,rfl,ite2 (fun _=>⟨_,rfl,_,rfl,b,a,n,r,lim,hs,xs,rfl,B,hS,nv,bs⟩) fun _=>?_⟩
   refine⟨_,rfl,rfl,_,rfl,ite2 (fun _=>⟨_,rfl,_,rfl,b,a,n,r,lim,hs,xs,rfl,B,hS,fun v=>absurd v nv,fun _=>bs⟩) fun _=>?_⟩
   refine⟨_,rfl,rfl,_,rfl,ite2 (fun _=>⟨_,rfl,_,rfl,b,a,n,r,lim,hs,xs,rfl,B,hS,nv,bs⟩) fun _=>?_⟩
   refine⟨_,rfl,rfl,_,rfl,ite2 (fun _=>⟨_,rfl,_,rfl,b,a,n,r,lim,hs,xs,rfl,B,hS,fun v=>absurd v nv,fun _=>bs⟩) fun _=>?_⟩
   refine⟨_,rfl,rfl,_,rfl,ite2 (fun _=>⟨_,rfl,_,rfl,_,b,a,n,r,lim,hs,xs,rfl,B,hS,nv,bs⟩) fun _=>?_⟩
   refine⟨_,rfl,rfl,_,rfl,ite2 (fun _=>⟨_,rfl,_,rfl,b,a,n,r,lim,hs,xs,rfl,B,hS,nv,bs⟩) fun _=>?_⟩
   refine⟨_,rfl,rfl,_,rfl,ite2 (fun _=>⟨_,rfl,_,rfl,(by show 3<=sizeLine;decide),fun l f=>⟨_,b,a,n,r,lim,hs,xs,rfl,B.same (Same.upd f),hS.same (Same.upd f),nv,bs.same (Same.upd f)⟩⟩) fun _=>?_⟩
   refine⟨_,rfl,rfl,_,rfl,ite2 (fun _=>⟨_,rfl,_,rfl,(by show 3<=sizeLine;decide),fun l f=>⟨_,b,a,n,r,lim,hs,xs,rfl,B.same (Same.upd f),hS.same (Same.upd f),nv,bs.same (Same.upd f)⟩⟩) fun _=>?_⟩
   refine⟨_,rfl,rfl,_,rfl,ite2 (fun _=>⟨_,rfl,_,rfl,b,a,n,r,lim,hs,xs,rfl,B,hS,nv,bs⟩) fun _=>?_⟩
   refine⟨_,rfl,rfl,_,rfl,ite2 (fun _=>⟨_,rfl,_,rfl,b,a,n,r,lim,hs,xs,rfl,B,hS,nv,bs⟩) fun _=>?_⟩
   exact⟨_,rfl,_,rfl,b,a,n,r,lim,hs,xs,rfl,B,hS,nv,bs⟩
noncomputable def zv6 (K:PySem.W.Frag) (t:Adr):Sp:=fun vs H _ E=>∃ (d:Int) (b p a f s x m:Addr) (n r lim:Int) (hs xs gs s9 c:List Int) (ys:List V) (ms:List (List Int)),vs=[.int d,.ref b,.ref p,.ref a,.ref f]/\zf8 t H b n r hs lim/\zm1 t H p b s x m n r hs lim s9 c ys ms/\SeqA K H a xs/\¬ ze1 n r hs.length xs/\SeqA K H f gs/\BS t H E
theorem ok_w_asked (T:Txt K mg t):FnOk P w K mg base (CXD P w) 9 t.a_w_asked t.d_w_asked ["_law_door","_law_beam","_law_play","_law_bad_here","_law_fine"] (zv6 K t):=by
 have G_fewest:FnOk P w K mg base (CXD P w) 5 t.a_fewest t.d_fewest ["beam","start","goal"] (zn2 K t):=zr8 T
 have G_next_move:FnOk P w K mg base (CXD P w) 6 t.a_next_move t.d_next_move ["beam","start","goal"] (zl0 K t):=zq3 T
 have G_least:FnOk P w K mg base (CXD P w) 5 t.a_least t.d_least ["beam","start","goal"] (zv5 K t):=zB9 T
 have G_Play_init:FnOk P w K mg base (CXD P w) 7 t.a_Play_init t.d_Play_init ["self","beam","start"] (zl1 K t):=zq4 T
 have G_Play_fewest:FnOk P w K mg base (CXD P w) 6 t.a_Play_fewest t.d_Play_fewest ["self","goal"] (zm2 K t):=ok_Play_fewest T
 have G_Play_next_move:FnOk P w K mg base (CXD P w) 7 t.a_Play_next_move t.d_Play_next_move ["self","goal"] (zj7 K t):=ok_Play_next_move T
 have G_Play_least:FnOk P w K mg base (CXD P w) 6 t.a_Play_least t.d_Play_least ["self","goal"] (zn9 K t):=ok_Play_least T
 refine T.F_w_asked.d.okD (CX:=CX0) sc_w_asked (fun vs H Q E h=>?_) (fun cdv A outer s H vs Q E hr h=>?_)
 . obtain ⟨d,b,p,a,f,s,x,m,n,r,lim,hs,xs,gs,s9,c,ys,ms,rfl,B,P0,hS,nv,hf,bs⟩:=h
   rfl
 . obtain ⟨d,b,p,a,f,s,x,m,n,r,lim,hs,xs,gs,s9,c,ys,ms,rfl,B,P0,hS,nv,hf,bs⟩:=h
   have hr_fewest:Room 5 _:=hr.mono (by decide)
   have hr_next_move:Room 6 _:=hr.mono (by decide)
   have hr_least:Room 5 _:=hr.mono (by decide)
   have hr_Play:Room 8 _:=hr.mono (by decide)
   have hr_Play_fewest:Room 6 _:=hr.mono (by decide)
   have hr_Play_next_move:Room 7 _:=hr.mono (by decide)
   have hr_Play_least:Room 6 _:=hr.mono (by decide)
   refine⟨_,(za1 (zc6 (zb7 zd9 (pv 0) za5 (zb9 _)) (za6 (zb6 (za9 G_fewest hr_fewest rfl T.m_fewest_layers T.k_fewest T.b_fewest .nil za8 (za0 (pv 1) (za0 (pv 3) (za0 (pv 4) za4)))))) zb4)
     (za1 (zc6 (zb7 zd9 (pv 0) za5 (zb9 _)) (za6 (zb6 (za9 G_fewest hr_fewest rfl T.m_fewest_layers T.k_fewest T.b_fewest .nil za8 (za0 (pv 1) (za0 (pv 4) (za0 (pv 3) za4)))))) zb4)
     (za1 (zc6 (zb7 zd9 (pv 0) za5 (zb9 _)) (za6 (zb6 (za9 G_next_move hr_next_move rfl T.m_next_move_layers T.k_next_move T.b_next_move .nil za8 (za0 (pv 1) (za0 (pv 3) (za0 (pv 4) za4)))))) zb4)
     (za1 (zc6 (zb7 zd9 (pv 0) za5 (zb9 _)) (za6 (zb6 (za9 G_next_move hr_next_move rfl T.m_next_move_layers T.k_next_move T.b_next_move .nil za8 (za0 (pv 1) (za0 (pv 4) (za0 (pv 3) za4)))))) zb4)
     (za1 (zc6 (zb7 zd9 (pv 0) za5 (zb9 _)) (za6 (zb6 (za9 G_least hr_least rfl T.m_least_limits T.k_least T.b_least .nil za8 (za0 (pv 1) (za0 (pv 3) (za0 (pv 4) za4)))))) zb4)
     (za1 (zc6 (zb7 zd9 (pv 0) za5 (zb9 _)) (za6 (zb6 (za9 G_least hr_least rfl T.m_least_limits T.k_least T.b_least .nil za8 (za0 (pv 1) (za0 (pv 4) (za0 (pv 3) za4)))))) zb4)
     (za1 (zc6 (zb7 zd9 (pv 0) za5 (zb9 _)) (za6 (zb6 (zy4 T.mk_Play G_Play_init hr_Play rfl T.m_Play T.b_Play_init .nil za8 (za0 (pv 1) (za0 (pv 3) za4))))) zb4)
     (za1 (zc6 (zb7 zd9 (pv 0) za5 (zb9 _)) (za6 (zb6 (zy3 (pv 2) T.cl_Play T.me_Play_fewest G_Play_fewest hr_Play_fewest T.b_Play_fewest .nil za8 (za0 (pv 3) za4)))) zb4)
     (za1 (zc6 (zb7 zd9 (pv 0) za5 (zb9 _)) (za6 (zb6 (zy3 (pv 2) T.cl_Play T.me_Play_next_move G_Play_next_move hr_Play_next_move T.b_Play_next_move .nil za8 (za0 (pv 3) za4)))) zb4)
     (za1 (zc6 (zb7 zd9 (pv 0) za5 (zb9 _)) (za6 (zb6 (zy3 (pv 2) T.cl_Play T.me_Play_least G_Play_least hr_Play_least T.b_Play_least .nil za8 (za0 (pv 3) za4)))) zb4)
     (za6 (zb6 (za9 G_fewest hr_fewest rfl T.m_fewest_layers T.k_fewest T.b_fewest .nil za8 (za0 (pv 1) (za0 (pv 3) (za0 (pv 3) za4)))))))))))))))),?_⟩
   obtain ⟨dx,hp⟩:=P0.hp
   refine⟨_,rfl,rfl,_,rfl,ite2 (fun _=>⟨_,rfl,_,rfl,_,rfl,b,a,f,n,r,lim,hs,xs,gs,rfl,B,hS,hf,.inl nv,bs⟩) fun _=>?_⟩
   refine⟨_,rfl,rfl,_,rfl,ite2 (fun _=>⟨_,rfl,_,rfl,_,rfl,b,f,a,n,r,lim,hs,gs,xs,rfl,B,hf,hS,.inr nv,bs⟩) fun _=>?_⟩
   refine⟨_,rfl,rfl,_,rfl,ite2 (fun _=>⟨_,rfl,_,rfl,_,rfl,b,a,f,n,r,lim,hs,xs,gs,rfl,B,hS,hf,.inl nv,bs⟩) fun _=>?_⟩
   refine⟨_,rfl,rfl,_,rfl,ite2 (fun _=>⟨_,rfl,_,rfl,_,rfl,b,f,a,n,r,lim,hs,gs,xs,rfl,B,hf,hS,.inr nv,bs⟩) fun _=>?_⟩
   refine⟨_,rfl,rfl,_,rfl,ite2 (fun _=>⟨_,rfl,_,rfl,_,rfl,b,a,f,n,r,lim,hs,xs,gs,rfl,B,hS,hf,.inl nv,bs⟩) fun _=>?_⟩
   refine⟨_,rfl,rfl,_,rfl,ite2 (fun _=>⟨_,rfl,_,rfl,_,rfl,b,f,a,n,r,lim,hs,gs,xs,rfl,B,hf,hS,.inr nv,bs⟩) fun _=>?_⟩
   refine⟨_,rfl,rfl,_,rfl,ite2 (fun _=>⟨_,rfl,_,rfl,fun q dq fq fdq ndq=>?_⟩) fun _=>?_⟩
   . have sq:Same H (upd (upd H dq (.own q)) q (.ins t.c_Play dq [])):=(Same.upd fdq).updT (by rw[za7 (Ne.symm ndq)];exact fq)
     have nbq:b≠q:=fun z=>by obtain ⟨_,_,_,hb,_⟩:=B;rw[z,fq] at hb;cases hb
     exact⟨q,b,a,dq,n,r,lim,hs,xs,rfl,za3,nbq,B.same sq,hS.same sq,fun v=>absurd v nv,fun _=>bs.same sq⟩
   refine⟨_,rfl,rfl,_,rfl,ite2 (fun _=>⟨_,rfl,p,dx,_,rfl,hp,pf_fewest _ _ _ _,_,rfl,p,b,a,s,x,m,n,r,lim,hs,s9,c,xs,ys,ms,rfl,P0,hS,nv,bs⟩) fun _=>?_⟩
   refine⟨_,rfl,rfl,_,rfl,ite2 (fun _=>⟨_,rfl,p,dx,_,rfl,hp,pf_next _ _ _ _,_,rfl,p,b,a,s,x,m,n,r,lim,hs,s9,c,xs,ys,ms,rfl,P0,hS,nv,bs⟩) fun _=>?_⟩
   refine⟨_,rfl,rfl,_,rfl,ite2 (fun _=>⟨_,rfl,p,dx,_,rfl,hp,pf_least _ _ _ _,_,rfl,p,b,a,s,x,m,n,r,lim,hs,s9,c,xs,ys,ms,rfl,P0,hS,nv,bs⟩) fun _=>?_⟩
   exact⟨_,rfl,_,rfl,_,rfl,b,a,a,n,r,lim,hs,xs,xs,rfl,B,hS,hS,.inl nv,bs⟩
noncomputable def zq5 (K:PySem.W.Frag) (t:Adr):Sp:=fun vs H Q _=>∃ (d:Int) (b p a f s x m:Addr) (n r lim:Int) (hs xs gs s9 c:List Int) (ys:List V) (ms:List (List Int)),vs=[.int d,.ref b,.ref p,.ref a,.ref f]/\zf8 t H b n r hs lim/\zm1 t H p b s x m n r hs lim s9 c ys ms/\SeqA K H a xs/\¬ ze1 n r hs.length xs/\SeqA K H f gs/\∀ H',Same H H'->Q (.bl true) H'
theorem ok_w_refused (T:Txt K mg t):FnOk P w K mg base CX0 10 t.a_w_refused t.d_w_refused ["_law_door","_law_beam","_law_play","_law_bad_here","_law_fine"] (zq5 K t):=by
 have G_w_looked:FnOk P w K mg base (CXD P w) 7 t.a_w_looked t.d_w_looked ["_law_door","_law_beam","_law_bad_here"] (zs4 K t):=ok_w_looked T
 have G_w_asked:FnOk P w K mg base (CXD P w) 9 t.a_w_asked t.d_w_asked ["_law_door","_law_beam","_law_play","_law_bad_here","_law_fine"] (zv6 K t):=ok_w_asked T
 refine T.F_w_refused.ok zp7 (fun vs H Q E h=>?_) (fun cdv A outer s H vs Q E hr h=>?_)
 . obtain ⟨d,b,p,a,f,s,x,m,n,r,lim,hs,xs,gs,s9,c,ys,ms,rfl,B,P0,hS,nv,hf,q⟩:=h
   rfl
 . obtain ⟨d,b,p,a,f,s,x,m,n,r,lim,hs,xs,gs,s9,c,ys,ms,rfl,B,P0,hS,nv,hf,q⟩:=h
   have hr_w_looked:Room 7 _:=hr.mono (by decide)
   have hr_w_asked:Room 9 _:=hr.mono (by decide)
   refine⟨_,(za1 (ps_tryD (Ex:=fun σ9 cls od H9=>σ9=[some (.int d),some (.ref b),some (.ref p),some (.ref a),some (.ref f),none]/\cls = .ref t.c_BadStanding/\Told H H9 od "bad standing") (i:=5) ⟨rfl,rfl⟩ rfl T.m_BeamError zp7.nd rfl rfl (fun _=>(za6 (zc6 (zb7 zG3 (pv 0) za5 (zb9 _)) (za6 (zh8 (zA4 G_w_looked hr_w_looked rfl T.m_w_looked T.k_w_looked T.b_w_looked .nil zs2 (za0 (pv 0) (za0 (pv 1) (za0 (pv 3) za4)))))) (za6 (zh8 (zA4 G_w_asked hr_w_asked rfl T.m_w_asked T.k_w_asked T.b_w_asked .nil zs2 (za0 (pv 0) (za0 (pv 1) (za0 (pv 2) (za0 (pv 3) (za0 (pv 4) za4))))))))))) (fun _=>(za6 (zb6 (zd0 (call_isXK K rfl) rfl T.n_isinstance PyProof.Rows.boot_isinstance (za0 (pv 5) (za0 (zk6 (v:=.ref t.c_BadStanding) rfl T.m_BadStanding rfl) za4)))))))
     (za6 (zb6 zt2))),?_⟩
   refine⟨?_,fun σ' cls od H' a' hE fa=>?_⟩
   . refine⟨_,rfl,_,_,rfl,rfl,_,rfl,ite2 (fun _=>?_) fun _=>?_⟩
     . exact⟨_,rfl,_,rfl,_,rfl,d,b,a,n,r,lim,hs,xs,rfl,B,hS,nv,fun od H' tl=>⟨rfl,rfl,tl⟩⟩
     . exact⟨_,rfl,_,rfl,_,rfl,_,rfl,_,rfl,d,b,p,a,f,s,x,m,n,r,lim,hs,xs,gs,s9,c,ys,ms,rfl,B,P0,hS,nv,hf,fun od H' tl=>⟨rfl,rfl,tl⟩⟩
   . obtain ⟨rfl,rfl,tl⟩:=hE
     obtain ⟨sH,dx,fs,rfl,hdx,hw⟩:=tl
     have ne:dx≠a':=fun z=>by rw[z,fa] at hdx;cases hdx
     refine⟨T.xm_BadStanding_BeamError,?_⟩
     have s5:=sH.updT (o:=zo8 (.ref t.c_BadStanding) a' (some dx)) fa
     have HA:(upd H' a' (zo8 (.ref t.c_BadStanding) a' (some dx))) a'=_:=za3
     have HD:(upd H' a' (zo8 (.ref t.c_BadStanding) a' (some dx))) dx=_:=(za7 ne).trans hdx
     revert s5 HA HD
     generalize upd H' a' (zo8 (.ref t.c_BadStanding) a' (some dx))=H5
     intro s5 HA HD
     exact⟨_,rfl,a',_,dx,fs,_,_,_,rfl,.own _,HA,HD,T.xa_BadStanding,T.xw,T.kt_BadStanding_BadStanding,q H5 s5⟩
theorem zv7 {H H1:Hp} (s:Same H H1) (p:Addr):zi6 p H H1:=fun b u e _=>s b u e
theorem zi6.put {H H1:Hp} {p:Addr} {o:HO} (s:Same H H1):zi6 p H (upd H1 p o):=fun b u e hb=>by rw[za7 hb];exact s b u e
theorem zC1 {R:Hp->Prop} {S:Hp->Prop} {G:Prop} (main:(∀ o,S o->R o)->G) (fin:∀ o,S o->R o):G:=main fin
theorem zC2 (xs:List Int) (k:Nat):cutV (xs.map V.int) (some (k:Int)) none=(xs.drop k).map V.int:=by
 unfold cutV
 rw[HT.sIx_nat,HT.sIx_none,List.take_of_length_le (by rw[List.length_drop];omega),List.map_drop]
 by_cases h:k<=(xs.map V.int).length
 . rw[Nat.min_eq_left h]
 . rw[Nat.min_eq_right (by omega),List.drop_of_length_le (Nat.le_refl _),List.drop_of_length_le (by omega)]
theorem ze1.no_len {n r:Int} {w:Nat} {xs:List Int} (h:xs.length≠w):¬ ze1 n r w xs:=fun v=>h v.len
noncomputable def zC3 (K:PySem.W.Frag) (t:Adr):Sp:=fun vs H Q _=>∃ (sl sh h:Addr) (cell n r:Int) (hs xs:List Int),vs=[.ref sl,.ref sh,.int cell]/\H sl=some (.lst (xs.map V.int))/\H sh=some (.lst [.int n,.int r,.ref h])/\SqL K H h (hs.map V.int)/\(1<=n/\n<=4/\1<=r/\r<=3/\hs.length<=5)/\xs.length=hs.length ∧
 ∀ l ys H',zi6 sl H H'->H' l=some (.lst (ys.map V.int))->ys.length<=6->¬ ze1 n r hs.length ys->Q (.ref l) H'
theorem ok_w_bad (T:Txt K mg t):FnOk P w K mg base CX0 1 t.a_w_bad t.d_w_bad ["_law_spots","_law_shape_here","_law_cell"] (zC3 K t):=by
 refine T.F_w_bad.ok zi9 (fun vs H Q E h=>?_) (fun cdv A outer s H vs Q E hr h=>?_)
 . obtain ⟨sl,sh,h,cell,n,r,hs,xs,rfl,hsl,hsh,hh,⟨n1,n2,r1,r2,hw⟩,hlen,q⟩:=h
   rfl
 . obtain ⟨sl,sh,h,cell,n,r,hs,xs,rfl,hsl,hsh,hh,⟨n1,n2,r1,r2,hw⟩,hlen,q⟩:=h
   refine⟨_,(za1 (zC6 (pv 1) (zG7 rfl (zh2 (zd8 (i:=3) zi9.nd rfl (Or.inl rfl)) (zh2 (zd8 (i:=4) zi9.nd rfl (Or.inl rfl)) (zh2 (zd8 (i:=5) zi9.nd rfl (Or.inl rfl)) zy1)))))
     (za1 (zb8 (i:=6) zi9.nd rfl (Or.inl rfl) (zc1 zj1 (pv 2) za5))
     (za1 (zc6 (PW.pt (zF4 (zb7 zd9 (zc1 ze0 (pv 2) za5) za5 (zb9 _)) (zC4 (zb7 (zH1 (Nat.lt_of_succ_lt (zI3 hr))) (pv 0) (zf7 za4) (zb9 _))))) (za6 (zb6 (zc1 zG6 (pv 0) (zf7 (za0 za5 za4))))) zb4)
     (za1 (zc6 (zb7 zd9 (zc1 ze0 (pv 2) za5) za5 (zb9 _)) (za6 (zb6 (zt7 zy8 (pv 0) (zy6 za5) zy5))) zb4)
     (za1 (zc6 (PW.pt (zC5 (zb7 zd9 (zc1 ze0 (pv 2) za5) za5 (zb9 _)) (zy0 (zb7 zw0 (zd0 zc8 rfl T.n_len PySem.boot_len (za0 (pv 5) za4)) (pv 4) (zb9 _))))) (za6 (zb6 (zc1 zG6 (zc1 zz0 (zf7 (za0 (zc1 zg7 za5 (zc1 ze0 (pv 6) (pv 3))) za4)) (zc1 zg7 (pv 4) za5)) (zt7 zy8 (pv 0) (zy6 (zc1 zg7 (pv 4) za5)) zy5)))) zb4)
     (za1 (zb8 (i:=7) zi9.nd rfl (Or.inl rfl) (zc1 zg7 (zc1 zg7 (pv 3) za5) (zc1 ze0 (pv 6) za5)))
     (za1 (zb8 (i:=8) zi9.nd rfl (Or.inl rfl) (zc1 ze0 (zc1 zj1 (pv 6) za5) (zd0 zc8 rfl T.n_len PySem.boot_len (za0 (pv 0) za4))))
     (za1 (zC6 (zk1 zg5 (zf7 (za0 (pv 7) (za0 (zc1 zC7 za5 (pv 7)) za4))) (zc1 ze0 (pv 2) za5) (fun _ _=>rfl)) (pg_sub (pv 0) (pv 8) set_list))
     (za6 (zb6 (pv 0))))))))))),?_⟩
   refine⟨_,rfl,sh,_,rfl,SqL.of hsh,rfl,_,_,rfl,_,_,rfl,_,_,rfl,rfl,?_⟩
   refine⟨_,rfl,_,_,rfl,rfl,⟨by decide,by decide⟩,?_⟩
   refine⟨_,rfl,_,_,rfl,rfl,(by show (0:Int)<5;decide),rfl,_,rfl,?_⟩
   refine zC1 (R:=?Rt) (S:=fun H'=>Same H H') (fun fin=>?maint) ?fint
   case maint =>
     refine ite2 (fun h1=>?ca) (fun h1=>?cb)
     case cb =>
       refine⟨_,rfl,Nat.zero_le _,fun e fe=>⟨sl,e,_,rfl,rfl,(Same.upd fe).seq (SqL.of hsl),SqL.of za3,_,rfl,?_⟩⟩
       have s1:Same H (upd H e (.lst [])):=Same.upd fe
       revert s1
       generalize upd H e (.lst [])=H1
       intro s1
       refine ite2 (fun h2=>?ct) (fun h2=>?_)
       case ct=>exact fin H1 s1
       have hpos:0<xs.length:=by
         cases xs with
         | nil=>exact absurd rfl h2
         | cons _ _=>simp
       have hsl1:=s1 _ _ hsl
       refine⟨_,rfl,_,_,rfl,rfl,(by show (0:Int)<5;decide),rfl,_,rfl,ite2 (fun h3=>?_) (fun h3=>?_)⟩
       . refine⟨_,rfl,_,rfl,sl,_,rfl,SqL.of hsl1,fun l fl=>?_⟩
         have ec:cutV (xs.map V.int) (some 1) none=(xs.drop 1).map V.int:=zC2 xs 1
         rw[ec]
         exact q l (xs.drop 1) _ (zv7 (s1.updT fl) sl) za3 (by rw[List.length_drop];omega) (ze1.no_len (by rw[List.length_drop];omega))
       refine⟨_,rfl,_,_,rfl,rfl,(by show (0:Int)<5;decide),rfl,_,rfl,?_⟩
       refine zC1 (R:=?Rc) (S:=fun H'=>H'=H1) (fun fin2=>?mainc) ?finc
       case mainc =>
         refine ite2 (fun h4=>?c4) (fun h4=>?d4)
         case c4 =>
           refine⟨_,rfl,h,_,rfl,.inl (s1.seq hh),_,rfl,_,_,rfl,rfl,_,rfl,?_⟩
           rw[List.length_map]
           refine ite2 (fun h5=>?c5) (fun h5=>?d5)
           case d5=>exact fin2 H1 rfl
           have h5':r<(hs.length:Int):=of_decide_eq_true h5
           refine⟨_,rfl,_,rfl,_,_,rfl,rfl,(by show (0:Int)<n;omega),_,_,rfl,rfl,(by show 1<=sizeLine;decide),fun g fg=>?_⟩
           dsimp only
           have y1:1<=1+cell / 5 % n:=by have:=Int.emod_nonneg (cell / 5) (show n≠0 by omega);omega
           revert y1
           generalize 1+cell / 5 % n=y
           intro y1
           have s2:Same H1 (upd H1 g (.lst [.int y])):=Same.upd fg
           have hg:(upd H1 g (.lst [.int y])) g=some (.lst [.int y]):=za3
           revert s2 hg
           generalize upd H1 g (.lst [.int y])=H2
           intro s2 hg
           refine⟨_,rfl,_,_,rfl,rfl,g,_,_,rfl,rfl,hg,by omega,by omega,(by show 1*(r+1).toNat<=sizeLine;exact Nat.le_of_lt (zd1 (by omega))),fun g2 fg2=>?_⟩
           have ef:(List.replicate (r+1).toNat [V.int y]).flatten=(List.replicate (r+1).toNat y).map V.int:=by rw[List.flatten_replicate_singleton,List.map_replicate]
           rw[ef]
           have s3:Same H2 (upd H2 g2 (.lst ((List.replicate (r+1).toNat y).map V.int))):=Same.upd fg2
           have hg2:(upd H2 g2 (.lst ((List.replicate (r+1).toNat y).map V.int))) g2=some (.lst ((List.replicate (r+1).toNat y).map V.int)):=za3
           revert s3 hg2
           generalize upd H2 g2 (.lst ((List.replicate (r+1).toNat y).map V.int))=H3
           intro s3 hg2
           have s23:=s2.trans s3
           refine⟨_,rfl,_,rfl,_,_,rfl,rfl,_,rfl,sl,_,rfl,SqL.of (s23 _ _ hsl1),fun l fl=>?_⟩
           have er:r+1=((r+1).toNat:Int):=by omega
           have ec:cutV (xs.map V.int) (some (r+1)) none=(xs.drop (r+1).toNat).map V.int:=by
             have:=zC2 xs (r+1).toNat
             rw[<-er] at this
             exact this
           rw[ec]
           refine⟨g2,l,_,_,rfl,rfl,Same.upd fl _ _ hg2,za3,Nat.le_of_lt (zd1 (by rw[List.length_map,List.length_map,List.length_replicate,List.length_drop];omega)),fun l2 fl2=>?_⟩
           rw[<-List.map_append]
           refine q l2 _ _ (zv7 ((s1.trans s23).trans ((Same.upd fl).updT fl2)) sl) za3 (by rw[List.length_append,List.length_replicate,List.length_drop];omega) fun v=>?_
           have hm:y∈List.replicate (r+1).toNat y++xs.drop (r+1).toNat:=List.mem_append_left _ (List.mem_replicate.mpr ⟨by omega,rfl⟩)
           have hc:=v.room y hm (by omega)
           rw[List.count_append,List.count_replicate_self] at hc
           omega
         case d4=>exact iteF (fin2 H1 rfl)
       rintro H1 rfl
       refine⟨_,rfl,_,_,rfl,rfl,_,rfl,_,_,rfl,rfl,(by show (0:Int)<9;decide),_,_,rfl,rfl,?_⟩
       dsimp only
       have y1:n+1<=n+1+cell / 5 % 9:=by omega
       revert y1
       generalize n+1+cell / 5 % 9=y
       intro y1
       refine⟨_,rfl,_,_,rfl,rfl,⟨by decide,by decide⟩,_,rfl,sl,_,rfl,.inl (SqL.of hsl1),?_⟩
       rw[List.length_map]
       refine⟨_,_,rfl,rfl,(by show (0:Int)<(xs.length:Int);omega),?_⟩
       dsimp only
       have i1:0<=cell / 5 / 9 % (xs.length:Int):=Int.emod_nonneg _ (by omega)
       have i2:cell / 5 / 9 % (xs.length:Int)<xs.length:=Int.emod_lt_of_pos _ (by omega)
       revert i1 i2
       generalize cell / 5 / 9 % (xs.length:Int)=th
       intro i1 i2
       refine⟨_,rfl,_,rfl,_,_,rfl,rfl,(by show 2<=sizeLine;decide),fun g fg=>?_⟩
       have s2:Same H1 (upd H1 g (.lst [.int y,.int (0-y)])):=Same.upd fg
       have hg:(upd H1 g (.lst [.int y,.int (0-y)])) g=some (.lst [.int y,.int (0-y)]):=za3
       revert s2 hg
       generalize upd H1 g (.lst [.int y,.int (0-y)])=H2
       intro s2 hg
       obtain ⟨z,hz,hzy⟩:∃ z:Int,atI [V.int y,V.int (0-y)] (cell % 2)=some (.int z)/\(z=y\/z=0-y):=by
         have:cell % 2=0\/cell % 2=1:=by omega
         rcases this with e | e<;>rw[e]
         . exact⟨y,rfl,.inl rfl⟩
         . exact⟨0-y,rfl,.inr rfl⟩
       have hsl2:=s2 _ _ hsl1
       refine⟨_,rfl,_,_,rfl,rfl,(by show (0:Int)<2;decide),g,_,_,_,rfl,rfl,SqL.of hg,hz,?_⟩
       refine⟨_,rfl,_,rfl,sl,_,_,th.toNat,rfl,rfl,hsl2,?_,?_⟩
       . unfold ixN
         rw[List.length_map,if_pos i1,if_pos i2]
       rw[<-List.map_set]
       refine⟨_,rfl,q sl (xs.set th.toNat z) _ (zi6.put (s1.trans s2)) za3 (by rw[List.length_set];omega) fun v=>?_⟩
       have hm:z∈xs.set th.toNat z:=List.mem_set (by omega) _
       have:=v.on z hm
       rcases hzy with rfl | rfl<;>omega
     case ca=>exact iteT (fin H (Same.refl _))
   rintro H1 s1
   refine⟨_,rfl,(by show 1<=sizeLine;decide),fun g fg=>⟨sl,g,_,_,rfl,rfl,Same.upd fg _ _ (s1 _ _ hsl),za3,Nat.le_of_lt (zd1 (by rw[List.length_map];show _+1<=_;omega)),fun l fl=>?_⟩⟩
   exact q l (xs++[0]) _ (zv7 (s1.trans ((Same.upd fg).updT fl)) sl) (by rw[List.map_append];exact za3) (by rw[List.length_append,List.length_singleton];omega) (ze1.no_len (by rw[List.length_append,List.length_singleton];omega))
end
end Bt
namespace Bt
open PySem L2
section
variable {P:Program} {w:World} {K:PySem.W.Frag} {mg:Str->Option Value} {base:Heap} {t:Adr}
theorem zx7:∀ (hs:List Int) (w:Nat),zv1 hs (List.replicate w 0)=0
 | [],_=>rfl
 | h::hs,0=>rfl
 | h::hs,w+1=>by
   have:=zx7 hs w
   show h*0+zv1 hs (List.replicate w 0)=0
   rw[this,Int.mul_zero];rfl
theorem valid_zero {n r:Int} (w:Nat) (h:1<=n):ze1 n r w (List.replicate w 0):=⟨List.length_replicate,fun x hx=>by rw[List.eq_of_mem_replicate hx];omega,fun x hx h0=>absurd (List.eq_of_mem_replicate hx) h0⟩
theorem ok_law (T:Txt K mg t):FnOk P w K mg base CX0 11 t.a_law t.d_law ["_law_script"] (sp_law K t):=by
 have G_w_shape:FnOk P w K mg base CX0 2 t.a_w_shape t.d_w_shape ["_law_script"] (zv0 K t):=ok_w_shape T
 have G_w_bad:FnOk P w K mg base CX0 1 t.a_w_bad t.d_w_bad ["_law_spots","_law_shape_here","_law_cell"] (zC3 K t):=ok_w_bad T
 have G_w_put:FnOk P w K mg base CX0 2 t.a_w_put t.d_w_put ["_law_script","_law_k","_law_more","_law_shape_here"] (zB2 K t):=ok_w_put T
 have G_Beam_init:FnOk P w K mg base CX0 3 t.a_Beam_init t.d_Beam_init ["self","notches","room","hefts","limit"] (zq0 K t):=ok_Beam_init T
 have G_Play_init:FnOk P w K mg base (CXD P w) 7 t.a_Play_init t.d_Play_init ["self","beam","start"] (zl1 K t):=zq4 T
 have G_w_at:FnOk P w K mg base CX0 1 t.a_w_at t.d_w_at ["_law_script","_law_k"] (zs8 K t):=zz8 T
 have G_Play_trail:FnOk P w K mg base CX0 1 t.a_Play_trail t.d_Play_trail ["self"] (zn8 K t):=ok_Play_trail T
 have G_w_refused:FnOk P w K mg base CX0 10 t.a_w_refused t.d_w_refused ["_law_door","_law_beam","_law_play","_law_bad_here","_law_fine"] (zq5 K t):=ok_w_refused T
 have G_w_same:FnOk P w K mg base CX0 2 t.a_w_same t.d_w_same ["_law_found","_law_due"] (zx4 K t):=ok_w_same T
 refine T.F_law.ok zk8 (fun vs H Q E h=>?_) (fun cdv A outer s H vs Q E hr h=>?_)
 . obtain ⟨a,ns,rfl,hS,hlen,q⟩:=h
   rfl
 . obtain ⟨a,ns,rfl,hS,hlen,q⟩:=h
   have hr_w_shape:Room 2 _:=hr.mono (by decide)
   have hr_w_bad:Room 1 _:=hr.mono (by decide)
   have hr_w_put:Room 2 _:=hr.mono (by decide)
   have hr_Beam:Room 4 _:=hr.mono (by decide)
   have hr_Play:Room 8 _:=hr.mono (by decide)
   have hr_w_at:Room 1 _:=hr.mono (by decide)
   have hr_Play_trail:Room 1 _:=hr.mono (by decide)
   have hr_w_refused:Room 10 _:=hr.mono (by decide)
   have hr_w_same:Room 2 _:=hr.mono (by decide)
   refine⟨_,(za1 (zb8 (i:=1) zk8.nd rfl (Or.inl rfl) (za9 G_w_shape hr_w_shape rfl T.m_w_shape T.k_w_shape T.b_w_shape .nil zd3 (za0 (pv 0) za4)))
     (za1 (zb8 (i:=2) zk8.nd rfl (Or.inl rfl) (za9 G_w_bad hr_w_bad rfl T.m_w_bad T.k_w_bad T.b_w_bad .nil zd3 (za0 (za9 G_w_put hr_w_put rfl T.m_w_put T.k_w_put T.b_w_put .nil zd3 (za0 (pv 0) (za0 za5 (za0 za5 (za0 (pv 1) za4))))) (za0 (pv 1) (za0 (za9 G_w_at hr_w_at rfl T.m_w_at T.k_w_at T.b_w_at .nil zd3 (za0 (pv 0) (za0 za5 za4))) za4)))))
     (za1 (zb8 (i:=3) zk8.nd rfl (Or.inl rfl) (za9 G_w_put hr_w_put rfl T.m_w_put T.k_w_put T.b_w_put .nil zd3 (za0 (pv 0) (za0 za5 (za0 za5 (za0 (pv 1) za4))))))
     (za1 (zb8 (i:=4) zk8.nd rfl (Or.inl rfl) (zy4 T.mk_Beam G_Beam_init hr_Beam rfl T.m_Beam T.b_Beam_init .nil zd3 (za0 (zk1 zg5 (pv 1) za5 (fun _ _=>rfl)) (za0 (zk1 zg5 (pv 1) za5 (fun _ _=>rfl)) (za0 (zf9 zh9 rfl T.n_list PyProof.Rows.boot_list (za0 (zk1 zg5 (pv 1) za5 (fun _ _=>rfl)) za4)) (za0 (zc1 ze0 (za9 G_w_at hr_w_at rfl T.m_w_at T.k_w_at T.b_w_at .nil zd3 (za0 (pv 0) (za0 za5 za4))) za5) za4))))))
     (za1 (zb8 (i:=5) zk8.nd rfl (Or.inl rfl) (zc1 zz0 (zf7 (za0 za5 za4)) (zd0 zc8 rfl T.n_len PySem.boot_len (za0 (zk1 zg5 (pv 1) za5 (fun _ _=>rfl)) za4))))
     (za1 (zb8 (i:=6) zk8.nd rfl (Or.inl rfl) (zy4 T.mk_Play G_Play_init hr_Play rfl T.m_Play T.b_Play_init .nil passesND (za0 (pv 4) (za0 (pv 5) za4))))
     (za1 (zo0 PassesOwn.never rfl (zm3 rfl T.n_range (za0 za5 za4)) (zd8 (i:=7) zk8.nd rfl (Or.inl rfl)) (za1 (zb8 (i:=8) zk8.nd rfl (Or.inl rfl) (zk1 zg5 (zf7 (za0 (zf9 zh9 rfl T.n_list PyProof.Rows.boot_list (za0 (pv 2) za4)) (za0 (zf9 zh1 rfl T.n_tuple PyProof.Rows.boot_tuple (za0 (pv 2) za4)) za4))) (zc1 ze0 (zc1 zg7 (pv 7) (za9 G_w_at hr_w_at rfl T.m_w_at T.k_w_at T.b_w_at .nil zd3 (za0 (pv 0) (za0 za5 za4)))) za5) (fun _ _=>rfl)))
     (za1 (zc6 (zq6 (zg6 (za9 G_w_refused hr_w_refused rfl T.m_w_refused T.k_w_refused T.b_w_refused .nil zd3 (za0 (pv 7) (za0 (pv 4) (za0 (pv 6) (za0 (pv 8) (za0 (zf9 zh9 rfl T.n_list PyProof.Rows.boot_list (za0 (pv 3) za4)) za4)))))))) (za6 (zb6 zt2)) zb4)
     (za6 (zc6 (zq6 (zg6 (za9 G_w_same hr_w_same rfl T.m_w_same T.k_w_same T.b_w_same .nil zd3 (za0 (pv 8) (za0 (pv 2) za4))))) (za6 (zb6 zt2)) zb4)))))
     (za1 (zc6 (PW.pt (zF4 (zq6 (zg6 (zd0 zu1 rfl T.n_isinstance PyProof.Rows.boot_isinstance (za0 (zf6 (pv 6) rfl) (za0 (zx9 (v:=.ty "tuple") rfl T.n_tuple PyProof.Rows.boot_tuple rfl) za4))))) (zC4 (zq6 (zg6 (za9 G_w_same hr_w_same rfl T.m_w_same T.k_w_same T.b_w_same .nil zd3 (za0 (zf6 (pv 6) rfl) (za0 (pv 5) za4)))))))) (za6 (zb6 zt2)) zb4)
     (za6 (zb6 (zm4 (zH1 (Nat.lt_of_succ_lt (zI3 hr))) (pe_meth0 (pv 6) T.cl_Play T.me_Play_trail G_Play_trail hr_Play_trail T.b_Play_trail .nil zd3) (zf7 za4) (zb9 _)))))))))))),?_⟩
   refine⟨_,rfl,a,ns,rfl,hS,fun sh h H1 s1 fsh fh hh hsh=>?_⟩
   have hl1:0<=at0 ns 5 % 401:=Int.emod_nonneg _ (by decide)
   have hl2:at0 ns 5 % 401<401:=Int.emod_lt_of_pos _ (by decide)
   have ok:=sh_ok ns (lim:=at0 ns 5 % 401) hl1 (by omega)
   have hw5:=ok.w
   refine⟨_,rfl,_,rfl,a,sh,h,ns,3,0,shN ns,shR ns,shH ns,rfl,s1.seq hS,hsh,SqL.of hh,⟨ok.n1,ok.n2,ok.r1,ok.w⟩,fun sp H2 s2 fsp hsp=>?_⟩
   have V0:=put_ok ns 3 0 (shH ns).length ok.n1 ok.r1
   generalize zB1 ns 3 0 (shN ns) (shR ns) (shH ns).length=xs at V0 hsp
   have haS1:SqL K H1 a (ns.map V.int):=s1.seq hS
   refine⟨_,rfl,_,rfl,a,ns,6,rfl,s2.seq haS1,sp,sh,h,at0 ns 6,shN ns,shR ns,shH ns,xs,rfl,hsp,s2 _ _ hsh,SqL.of (s2 _ _ hh),⟨ok.n1,ok.n2,ok.r1,ok.r2,ok.w⟩,V0.len,fun bl ys H3 x3 hbl hyl nv=>?_⟩
   have s13:Same H1 H3:=fun b o e=>x3 b o (s2 b o e) (zb1 e fsp)
   have haS3:=s13.seq haS1
   have hsh3:=s13 _ _ hsh
   refine⟨_,rfl,_,rfl,a,sh,h,ns,4,1000003,shN ns,shR ns,shH ns,rfl,haS3,hsh3,SqL.of (s13 _ _ hh),⟨ok.n1,ok.n2,ok.r1,ok.w⟩,fun fi H4 s4 ffi hfi=>?_⟩
   generalize zB1 ns 4 1000003 (shN ns) (shR ns) (shH ns).length=fs at hfi
   have hbl4:=s4 _ _ hbl
   have s14:=s13.trans s4
   have hsh4:=s14 _ _ hsh
   have hh4:=s14 _ _ hh
   have haS4:=s4.seq haS3
   clear x3 hsp V0
   refine⟨_,rfl,sh,_,_,_,rfl,rfl,SqL.of hsh4,rfl,_,rfl,sh,_,_,_,rfl,rfl,SqL.of hsh4,rfl,_,rfl,sh,_,_,_,rfl,rfl,SqL.of hsh4,rfl,h,_,rfl,.inl (SqL.of hh4),fun l5 f5=>?_⟩
   have s5:Same H4 (upd H4 l5 (.lst ((shH ns).map V.int))):=Same.upd f5
   refine⟨_,rfl,a,ns,5,rfl,s5.seq haS4,_,_,rfl,rfl,(by show (0:Int)<401;decide),fun b dx fb fdx ndx=>?_⟩
   have s6:Same H4 (upd (upd (upd H4 l5 (.lst ((shH ns).map V.int))) dx (.own b)) b (.ins t.c_Beam dx [])):=(s5.updT fdx).updT (by rw[za7 (Ne.symm ndx)];exact fb)
   have e3b:l5≠b:=fun e=>by rw[<-e,za3] at fb;cases fb
   have e3d:l5≠dx:=fun e=>by rw[<-e,za3] at fdx;cases fdx
   refine⟨b,dx,l5,shN ns,shR ns,at0 ns 5 % 401,shH ns,rfl,za3,.inl (SqL.of (by rw[za7 e3b,za7 e3d,za3])),ok,fun H6 B6 x6=>⟨rfl,?_⟩⟩
   have fb2:H4 b=none:=s5.free fb
   have s46:Same H4 H6:=fun c o e=>x6 c o (s6 c o e) (zb1 e fb2)
   have hsh6:=s46 _ _ hsh4
   refine⟨(by show 1<=sizeLine;decide),fun g fg=>?_⟩
   have s7:Same H6 (upd H6 g (.lst [.int 0])):=Same.upd fg
   refine⟨_,rfl,sh,_,_,_,rfl,rfl,SqL.of (s7 _ _ hsh6),rfl,h,_,rfl,.inl (SqL.of (s7 _ _ (s46 _ _ hh4))),?_⟩
   rw[List.length_map]
   refine⟨g,_,_,rfl,rfl,za3,by omega,by omega,(by show 1*(((shH ns).length:Int)).toNat<=sizeLine;exact Nat.le_of_lt (zd1 (by omega))),fun og fog=>?_⟩
   have ef:(List.replicate (((shH ns).length:Int)).toNat [V.int 0]).flatten=(List.replicate (shH ns).length 0).map V.int:=by rw[List.flatten_replicate_singleton,List.map_replicate,Int.toNat_natCast]
   rw[ef]
   have s8:Same H6 (upd (upd H6 g (.lst [.int 0])) og (.lst ((List.replicate (shH ns).length 0).map V.int))):=s7.updT fog
   have hog:(upd (upd H6 g (.lst [.int 0])) og (.lst ((List.replicate (shH ns).length 0).map V.int))) og=some (.lst ((List.replicate (shH ns).length 0).map V.int)):=za3
   revert s8 hog
   generalize upd (upd H6 g (.lst [.int 0])) og (.lst ((List.replicate (shH ns).length 0).map V.int))=H8
   intro s8 hog
   have B8:=B6.same s8
   have V8:ze1 (shN ns) (shR ns) (shH ns).length (List.replicate (shH ns).length 0):=valid_zero _ ok.n1
   refine⟨_,rfl,_,rfl,fun p dxp fp fdxp ndxp=>?_⟩
   have s9:Same H8 (upd (upd H8 dxp (.own p)) p (.ins t.c_Play dxp [])):=(Same.upd fdxp).updT (by rw[za7 (Ne.symm ndxp)];exact fp)
   have nbp:b≠p:=fun z=>by obtain ⟨_,_,_,hb,_⟩:=B8;rw[z,fp] at hb;cases hb
   refine⟨p,b,og,dxp,shN ns,shR ns,at0 ns 5 % 401,shH ns,_,rfl,za3,nbp,B8.same s9,.inl (SqL.of (s9 _ _ hog)),fun _=>⟨by rw[zx7];exact hl1,fun H10 s0 m x10 fm P10=>⟨rfl,?_⟩⟩,fun z=>absurd V8 z⟩
   have s80:Same H8 H10:=fun c o e=>x10 c o (s9 _ _ e) (zb1 e fp)
   have s40:=s46.trans (s8.trans s80)
   have B10:=B8.same s80
   have hog10:=s80 _ _ hog
   have hbl10:=s40 _ _ hbl4
   have hfi10:=s40 _ _ hfi
   have haS10:=s40.seq haS4
   refine⟨_,rfl,by decide,by decide,zj9 (n:=23) (fun i σ H'=>∃ v7 v8,σ=[some (.ref a),some (.ref sh),some (.ref bl),some (.ref fi),some (.ref b),some (.ref og),some (.ref p),v7,v8]/\Same H10 H') ⟨none,none,rfl,Same.refl _⟩ ?_ ?_⟩
   . rintro i σ H11 hi ⟨v7,v8,rfl,s11⟩
     have hbl11:=s11 _ _ hbl10
     refine⟨_,rfl,bl,_,rfl,.inl (SqL.of hbl11),fun l1 f1=>⟨_,rfl,bl,_,rfl,.inl ⟨SqL.of (Same.upd f1 _ _ hbl11),fun l2 f2=>⟨(by show 2<=sizeLine;decide),fun l3 f3=>?_⟩⟩⟩⟩
     have s12:=((Same.upd (o:=.lst (ys.map V.int)) f1).updT (o:=.tup (ys.map V.int)) f2).updT (o:=.lst [.ref l1,.ref l2]) f3
     have h1:(upd (upd (upd H11 l1 (.lst (ys.map V.int))) l2 (.tup (ys.map V.int))) l3 (.lst [.ref l1,.ref l2])) l1=some (.lst (ys.map V.int)):=Same.upd f3 _ _ (Same.upd f2 _ _ za3)
     have h2:(upd (upd (upd H11 l1 (.lst (ys.map V.int))) l2 (.tup (ys.map V.int))) l3 (.lst [.ref l1,.ref l2])) l2=some (.tup (ys.map V.int)):=Same.upd f3 _ _ za3
     have h3:(upd (upd (upd H11 l1 (.lst (ys.map V.int))) l2 (.tup (ys.map V.int))) l3 (.lst [.ref l1,.ref l2])) l3=some (.lst [.ref l1,.ref l2]):=za3
     dsimp only
     revert s12 h1 h2 h3
     generalize upd (upd (upd H11 l1 (.lst (ys.map V.int))) l2 (.tup (ys.map V.int))) l3 (.lst [.ref l1,.ref l2])=H12
     intro s12 h1 h2 h3
     have s02:=s11.trans s12
     obtain ⟨hd,ehd,hA⟩:∃ hd,atI [V.ref l1,V.ref l2] ((0+(i:Int)+at0 ns 6) % 2)=some (.ref hd)/\SeqA K H12 hd ys:=by
       have:(0+(i:Int)+at0 ns 6) % 2=0\/(0+(i:Int)+at0 ns 6) % 2=1:=by omega
       rcases this with e | e<;>rw[e]
       . exact⟨l1,rfl,.inl (SqL.of h1)⟩
       . exact⟨l2,rfl,.inr h2⟩
     refine⟨_,rfl,_,rfl,a,ns,6,rfl,s02.seq haS10,_,_,rfl,rfl,_,_,rfl,rfl,(by show (0:Int)<2;decide),l3,_,_,_,rfl,rfl,SqL.of h3,ehd,?_⟩
     have hfi12:=s02 _ _ hfi10
     refine⟨_,rfl,_,rfl,_,rfl,_,rfl,_,rfl,fi,_,rfl,.inl (SqL.of hfi12),fun l9 f9=>?_⟩
     have s13':Same H12 (upd H12 l9 (.lst (fs.map V.int))):=Same.upd f9
     have h9:(upd H12 l9 (.lst (fs.map V.int))) l9=some (.lst (fs.map V.int)):=za3
     revert s13' h9
     generalize upd H12 l9 (.lst (fs.map V.int))=H13
     intro s13' h9
     have s03:=s02.trans s13'
     refine⟨_,b,p,hd,l9,s0,s0,m,shN ns,shR ns,at0 ns 5 % 401,shH ns,ys,fs,_,_,_,_,rfl,B10.same s03,P10.same s03,hA.same s13',nv,.inl (SqL.of h9),fun H14 s14'=>⟨_,rfl,iteF ?_⟩⟩
     have s04:=s03.trans s14'
     refine⟨_,rfl,_,rfl,hd,bl,ys,ys,rfl,((hA.same s13').same s14').imp id SqT.of,.inl (SqL.of (s04 _ _ hbl10)),by omega,_,rfl,iteB (by rw[decide_eq_true rfl];rfl) ?_⟩
     exact⟨_,_,rfl,s04⟩
   . rintro σ H11 ⟨v7,v8,rfl,s11⟩
     have P:=P10.same s11
     obtain ⟨dx,hp⟩:=P.hp
     refine⟨_,rfl,p,_,dx,_,_,rfl,hp,T.cl_Play,T.na_Play_standing,zh4 _ _ _ _,_,_,_,_,_,rfl,.ty _,.tup P.hx,rfl,_,rfl,iteF ?_⟩
     refine⟨_,rfl,p,_,dx,_,_,rfl,hp,T.cl_Play,T.na_Play_standing,zh4 _ _ _ _,_,rfl,s0,og,_,_,rfl,.inr (SqT.of P.hx),.inl (SqL.of (s11 _ _ hog10)),by rw[List.length_replicate];omega,_,rfl,iteB (by rw[decide_eq_true rfl];rfl) ?_⟩
     refine⟨_,rfl,p,dx,_,rfl,hp,pf_trail _ _ _ _,p,b,s0,s0,m,_,_,_,_,_,_,_,_,rfl,P,fun l5 f5=>⟨Nat.zero_le _,fun l6 f6=>?_⟩⟩
     exact⟨l5,l6,_,rfl,rfl,SqL.of (Same.upd f6 _ _ za3),SqL.of za3,q _⟩
end
end Bt
namespace Bt
open PySem L2
theorem ar1 {us:List Value} (h:us.length=1):∃ x0,us=[x0]:=by
 match us,h with
 | [a0],_=>exact⟨a0,rfl⟩
theorem ar2 {us:List Value} (h:us.length=2):∃ x0 x1,us=[x0,x1]:=by
 match us,h with
 | [a0,a1],_=>exact⟨a0,a1,rfl⟩
theorem ar3 {us:List Value} (h:us.length=3):∃ x0 x1 x2,us=[x0,x1,x2]:=by
 match us,h with
 | [a0,a1,a2],_=>exact⟨a0,a1,a2,rfl⟩
theorem ar4 {us:List Value} (h:us.length=4):∃ x0 x1 x2 x3,us=[x0,x1,x2,x3]:=by
 match us,h with
 | [a0,a1,a2,a3],_=>exact⟨a0,a1,a2,a3,rfl⟩
theorem ar5 {us:List Value} (h:us.length=5):∃ x0 x1 x2 x3 x4,us=[x0,x1,x2,x3,x4]:=by
 match us,h with
 | [a0,a1,a2,a3,a4],_=>exact⟨a0,a1,a2,a3,a4,rfl⟩
theorem all_mk {l:PySem.W.OpenLaw} {w:World} {K:PySem.W.Frag} {h:Heap} {mg:Str->Option Value} {fa:Addr} (X:K.In h) (G:h.Ns mainGlobals mg) (hfa:mg "law" = some (.ref fa))
   {oc_BeamError_init kV_BeamError_init dc_BeamError_init pm_BeamError_init cd_BeamError_init ct_BeamError_init:Value} {od_BeamError_init an_BeamError_init:Option Addr} {sl_BeamError_init:Array (Option Value)} {f_BeamError_init:Addr}
   {T_BeamError_init:Addr} {tc_BeamError_init:Value} {td_BeamError_init:Option Addr} {tn_BeamError_init:Nat} {ts_BeamError_init:Array (Option Value)} {e0_BeamError_init e1_BeamError_init:Value}
   {oc_BadStanding_init kV_BadStanding_init dc_BadStanding_init pm_BadStanding_init cd_BadStanding_init ct_BadStanding_init:Value} {od_BadStanding_init an_BadStanding_init:Option Addr} {sl_BadStanding_init:Array (Option Value)} {f_BadStanding_init:Addr}
   {T_BadStanding_init:Addr} {tc_BadStanding_init:Value} {td_BadStanding_init:Option Addr} {tn_BadStanding_init:Nat} {ts_BadStanding_init:Array (Option Value)} {e0_BadStanding_init:Value}
   {oc_Beam_init kV_Beam_init dc_Beam_init pm_Beam_init cd_Beam_init ct_Beam_init:Value} {od_Beam_init an_Beam_init:Option Addr} {sl_Beam_init:Array (Option Value)} {f_Beam_init:Addr}
   {oc_outside kV_outside dc_outside pm_outside cd_outside ct_outside:Value} {od_outside an_outside:Option Addr} {sl_outside:Array (Option Value)} {f_outside:Addr}
   {oc_check_bounds kV_check_bounds dc_check_bounds pm_check_bounds cd_check_bounds ct_check_bounds:Value} {od_check_bounds an_check_bounds:Option Addr} {sl_check_bounds:Array (Option Value)} {f_check_bounds:Addr}
   {oc_check_hefts kV_check_hefts dc_check_hefts pm_check_hefts cd_check_hefts ct_check_hefts:Value} {od_check_hefts an_check_hefts:Option Addr} {sl_check_hefts:Array (Option Value)} {f_check_hefts:Addr}
   {oc_check_standings kV_check_standings dc_check_standings pm_check_standings cd_check_standings ct_check_standings:Value} {od_check_standings an_check_standings:Option Addr} {sl_check_standings:Array (Option Value)} {f_check_standings:Addr}
   {oc_as_standing kV_as_standing dc_as_standing pm_as_standing cd_as_standing ct_as_standing:Value} {od_as_standing an_as_standing:Option Addr} {sl_as_standing:Array (Option Value)} {f_as_standing:Addr}
   {oc_mirrored kV_mirrored dc_mirrored pm_mirrored cd_mirrored ct_mirrored:Value} {od_mirrored an_mirrored:Option Addr} {sl_mirrored:Array (Option Value)} {f_mirrored:Addr}
   {oc_tilt kV_tilt dc_tilt pm_tilt cd_tilt ct_tilt:Value} {od_tilt an_tilt:Option Addr} {sl_tilt:Array (Option Value)} {f_tilt:Addr}
   {oc_side kV_side dc_side pm_side cd_side ct_side:Value} {od_side an_side:Option Addr} {sl_side:Array (Option Value)} {f_side:Addr}
   {oc_past kV_past dc_past pm_past cd_past ct_past:Value} {od_past an_past:Option Addr} {sl_past:Array (Option Value)} {f_past:Addr}
   {oc_keeps kV_keeps dc_keeps pm_keeps cd_keeps ct_keeps:Value} {od_keeps an_keeps:Option Addr} {sl_keeps:Array (Option Value)} {f_keeps:Addr}
   {oc_in_hand kV_in_hand dc_in_hand pm_in_hand cd_in_hand ct_in_hand:Value} {od_in_hand an_in_hand:Option Addr} {sl_in_hand:Array (Option Value)} {f_in_hand:Addr}
   {oc_loads kV_loads dc_loads pm_loads cd_loads ct_loads:Value} {od_loads an_loads:Option Addr} {sl_loads:Array (Option Value)} {f_loads:Addr}
   {oc_refusal kV_refusal dc_refusal pm_refusal cd_refusal ct_refusal:Value} {od_refusal an_refusal:Option Addr} {sl_refusal:Array (Option Value)} {f_refusal:Addr}
   {oc_moved kV_moved dc_moved pm_moved cd_moved ct_moved:Value} {od_moved an_moved:Option Addr} {sl_moved:Array (Option Value)} {f_moved:Addr}
   {oc_moves kV_moves dc_moves pm_moves cd_moves ct_moves:Value} {od_moves an_moves:Option Addr} {sl_moves:Array (Option Value)} {f_moves:Addr}
   {oc_fewest kV_fewest dc_fewest pm_fewest cd_fewest ct_fewest:Value} {od_fewest an_fewest:Option Addr} {sl_fewest:Array (Option Value)} {f_fewest:Addr}
   {oc_next_move kV_next_move dc_next_move pm_next_move cd_next_move ct_next_move:Value} {od_next_move an_next_move:Option Addr} {sl_next_move:Array (Option Value)} {f_next_move:Addr}
   {oc_least kV_least dc_least pm_least cd_least ct_least:Value} {od_least an_least:Option Addr} {sl_least:Array (Option Value)} {f_least:Addr}
   {oc_Play_init kV_Play_init dc_Play_init pm_Play_init cd_Play_init ct_Play_init:Value} {od_Play_init an_Play_init:Option Addr} {sl_Play_init:Array (Option Value)} {f_Play_init:Addr}
   {oc_Play_trail kV_Play_trail dc_Play_trail pm_Play_trail cd_Play_trail ct_Play_trail:Value} {od_Play_trail an_Play_trail:Option Addr} {sl_Play_trail:Array (Option Value)} {f_Play_trail:Addr}
   {oc_Play_fewest kV_Play_fewest dc_Play_fewest pm_Play_fewest cd_Play_fewest ct_Play_fewest:Value} {od_Play_fewest an_Play_fewest:Option Addr} {sl_Play_fewest:Array (Option Value)} {f_Play_fewest:Addr}
   {oc_Play_next_move kV_Play_next_move dc_Play_next_move pm_Play_next_move cd_Play_next_move ct_Play_next_move:Value} {od_Play_next_move an_Play_next_move:Option Addr} {sl_Play_next_move:Array (Option Value)} {f_Play_next_move:Addr}
   {oc_Play_least kV_Play_least dc_Play_least pm_Play_least cd_Play_least ct_Play_least:Value} {od_Play_least an_Play_least:Option Addr} {sl_Play_least:Array (Option Value)} {f_Play_least:Addr}
   {oc_write_standing kV_write_standing dc_write_standing pm_write_standing cd_write_standing ct_write_standing:Value} {od_write_standing an_write_standing:Option Addr} {sl_write_standing:Array (Option Value)} {f_write_standing:Addr}
   {oc_write_beam kV_write_beam dc_write_beam pm_write_beam cd_write_beam ct_write_beam:Value} {od_write_beam an_write_beam:Option Addr} {sl_write_beam:Array (Option Value)} {f_write_beam:Addr}
   {oc_w_at kV_w_at dc_w_at pm_w_at cd_w_at ct_w_at:Value} {od_w_at an_w_at:Option Addr} {sl_w_at:Array (Option Value)} {f_w_at:Addr}
   {oc_w_whole kV_w_whole dc_w_whole pm_w_whole cd_w_whole ct_w_whole:Value} {od_w_whole an_w_whole:Option Addr} {sl_w_whole:Array (Option Value)} {f_w_whole:Addr}
   {oc_w_figs kV_w_figs dc_w_figs pm_w_figs cd_w_figs ct_w_figs:Value} {od_w_figs an_w_figs:Option Addr} {sl_w_figs:Array (Option Value)} {f_w_figs:Addr}
   {oc_w_shape kV_w_shape dc_w_shape pm_w_shape cd_w_shape ct_w_shape:Value} {od_w_shape an_w_shape:Option Addr} {sl_w_shape:Array (Option Value)} {f_w_shape:Addr}
   {oc_w_put kV_w_put dc_w_put pm_w_put cd_w_put ct_w_put:Value} {od_w_put an_w_put:Option Addr} {sl_w_put:Array (Option Value)} {f_w_put:Addr}
   {oc_w_same kV_w_same dc_w_same pm_w_same cd_w_same ct_w_same:Value} {od_w_same an_w_same:Option Addr} {sl_w_same:Array (Option Value)} {f_w_same:Addr}
   {oc_w_looked kV_w_looked dc_w_looked pm_w_looked cd_w_looked ct_w_looked:Value} {od_w_looked an_w_looked:Option Addr} {sl_w_looked:Array (Option Value)} {f_w_looked:Addr}
   {oc_w_asked kV_w_asked dc_w_asked pm_w_asked cd_w_asked ct_w_asked:Value} {od_w_asked an_w_asked:Option Addr} {sl_w_asked:Array (Option Value)} {f_w_asked:Addr}
   {oc_w_refused kV_w_refused dc_w_refused pm_w_refused cd_w_refused ct_w_refused:Value} {od_w_refused an_w_refused:Option Addr} {sl_w_refused:Array (Option Value)} {f_w_refused:Addr}
   {oc_w_bad kV_w_bad dc_w_bad pm_w_bad cd_w_bad ct_w_bad:Value} {od_w_bad an_w_bad:Option Addr} {sl_w_bad:Array (Option Value)} {f_w_bad:Addr}
   {oc_law kV_law dc_law pm_law cd_law ct_law:Value} {od_law an_law:Option Addr} {sl_law:Array (Option Value)} {f_law:Addr}
   {C_Beam:Addr}
   {C_Play:Addr}
   {C_BadStanding:Addr}
   {C_BeamError:Addr}
   {nm_BadStanding qn_BadStanding:Str} {N_BadStanding:Addr} {bs_BadStanding bm_BadStanding:List Value} {sn_BadStanding:List Str} {sub_BadStanding:List Value} {ab_BadStanding:Bool} {col_BadStanding:Option Bool} {dd_BadStanding:Option Addr} {k0_BadStanding k1_BadStanding k2_BadStanding k3_BadStanding k5_BadStanding:Option Value}
   {cdx_BeamError:ClassData}
   {cdx_BadStanding:ClassData}
   {q_MOST_NOTCHES:Tok}
   {q_MOST_ROOM:Tok}
   {q_MOST_LIMIT:Tok}
   {q_MOST_WEIGHTS:Tok}
   {q_MOST_HEFT:Tok}
   {q_MOST_STANDINGS:Tok}
   (a_Beam:PySem.W.nsIn K mainGlobals "Beam" = some (some (.ref C_Beam)))
   (a_Play:PySem.W.nsIn K mainGlobals "Play" = some (some (.ref C_Play)))
   (a_BadStanding:PySem.W.nsIn K mainGlobals "BadStanding" = some (some (.ref C_BadStanding)))
   (a_BeamError:PySem.W.nsIn K mainGlobals "BeamError" = some (some (.ref C_BeamError)))
   (a_BeamError_init:PySem.W.findIn K (.ref C_BeamError) "__init__" = some (some (.ref f_BeamError_init)))
   (i_BeamError_init:PySem.W.isFn K (.ref f_BeamError_init)=true)
   (l_BeamError_init:K.lookup f_BeamError_init=some ⟨oc_BeamError_init,od_BeamError_init,.func (PySem.W.fnOf "__init__" "BeamError.__init__" (zb2 zc7) (zb0 zc7) (za2 zc7) (.ref T_BeamError_init) kV_BeamError_init dc_BeamError_init pm_BeamError_init an_BeamError_init cd_BeamError_init ct_BeamError_init),sl_BeamError_init⟩)
   (c_BeamError_init:PySem.W.codeIn K cd_BeamError_init "BeamError.__init__" = true) (k_BeamError_init:PySem.W.keepIn K (.ref f_BeamError_init)=true)
   (dt_BeamError_init:K.lookup T_BeamError_init=some ⟨tc_BeamError_init,td_BeamError_init,.seq #[e0_BeamError_init,e1_BeamError_init] tn_BeamError_init,ts_BeamError_init⟩)
   (a_BadStanding_init:PySem.W.findIn K (.ref C_BadStanding) "__init__" = some (some (.ref f_BadStanding_init)))
   (i_BadStanding_init:PySem.W.isFn K (.ref f_BadStanding_init)=true)
   (l_BadStanding_init:K.lookup f_BadStanding_init=some ⟨oc_BadStanding_init,od_BadStanding_init,.func (PySem.W.fnOf "__init__" "BadStanding.__init__" (zb2 zc4) (zb0 zc4) (za2 zc4) (.ref T_BadStanding_init) kV_BadStanding_init dc_BadStanding_init pm_BadStanding_init an_BadStanding_init cd_BadStanding_init ct_BadStanding_init),sl_BadStanding_init⟩)
   (c_BadStanding_init:PySem.W.codeIn K cd_BadStanding_init "BadStanding.__init__" = true) (k_BadStanding_init:PySem.W.keepIn K (.ref f_BadStanding_init)=true)
   (dt_BadStanding_init:K.lookup T_BadStanding_init=some ⟨tc_BadStanding_init,td_BadStanding_init,.seq #[e0_BadStanding_init] tn_BadStanding_init,ts_BadStanding_init⟩)
   (a_Beam_init:PySem.W.findIn K (.ref C_Beam) "__init__" = some (some (.ref f_Beam_init)))
   (i_Beam_init:PySem.W.isFn K (.ref f_Beam_init)=true)
   (l_Beam_init:K.lookup f_Beam_init=some ⟨oc_Beam_init,od_Beam_init,.func (PySem.W.fnOf "__init__" "Beam.__init__" (zb2 zg0) (zb0 zg0) (za2 zg0) .none kV_Beam_init dc_Beam_init pm_Beam_init an_Beam_init cd_Beam_init ct_Beam_init),sl_Beam_init⟩)
   (c_Beam_init:PySem.W.codeIn K cd_Beam_init "Beam.__init__" = true) (k_Beam_init:PySem.W.keepIn K (.ref f_Beam_init)=true)
   (a_outside:PySem.W.nsIn K mainGlobals "outside" = some (some (.ref f_outside)))
   (l_outside:K.lookup f_outside=some ⟨oc_outside,od_outside,.func (PySem.W.fnOf "outside" "outside" (zb2 zi1) (zb0 zi1) (za2 zi1) .none kV_outside dc_outside pm_outside an_outside cd_outside ct_outside),sl_outside⟩)
   (c_outside:PySem.W.codeIn K cd_outside "outside" = true) (k_outside:PySem.W.keepIn K (.ref f_outside)=true)
   (a_check_bounds:PySem.W.nsIn K mainGlobals "check_bounds" = some (some (.ref f_check_bounds)))
   (l_check_bounds:K.lookup f_check_bounds=some ⟨oc_check_bounds,od_check_bounds,.func (PySem.W.fnOf "check_bounds" "check_bounds" (zb2 ze3) (zb0 ze3) (za2 ze3) .none kV_check_bounds dc_check_bounds pm_check_bounds an_check_bounds cd_check_bounds ct_check_bounds),sl_check_bounds⟩)
   (c_check_bounds:PySem.W.codeIn K cd_check_bounds "check_bounds" = true) (k_check_bounds:PySem.W.keepIn K (.ref f_check_bounds)=true)
   (a_check_hefts:PySem.W.nsIn K mainGlobals "check_hefts" = some (some (.ref f_check_hefts)))
   (l_check_hefts:K.lookup f_check_hefts=some ⟨oc_check_hefts,od_check_hefts,.func (PySem.W.fnOf "check_hefts" "check_hefts" (zb2 ze7) (zb0 ze7) (za2 ze7) .none kV_check_hefts dc_check_hefts pm_check_hefts an_check_hefts cd_check_hefts ct_check_hefts),sl_check_hefts⟩)
   (c_check_hefts:PySem.W.codeIn K cd_check_hefts "check_hefts" = true) (k_check_hefts:PySem.W.keepIn K (.ref f_check_hefts)=true)
   (a_check_standings:PySem.W.nsIn K mainGlobals "check_standings" = some (some (.ref f_check_standings)))
   (l_check_standings:K.lookup f_check_standings=some ⟨oc_check_standings,od_check_standings,.func (PySem.W.fnOf "check_standings" "check_standings" (zb2 zd2) (zb0 zd2) (za2 zd2) .none kV_check_standings dc_check_standings pm_check_standings an_check_standings cd_check_standings ct_check_standings),sl_check_standings⟩)
   (c_check_standings:PySem.W.codeIn K cd_check_standings "check_standings" = true) (k_check_standings:PySem.W.keepIn K (.ref f_check_standings)=true)
   (a_as_standing:PySem.W.nsIn K mainGlobals "as_standing" = some (some (.ref f_as_standing)))
   (l_as_standing:K.lookup f_as_standing=some ⟨oc_as_standing,od_as_standing,.func (PySem.W.fnOf "as_standing" "as_standing" (zb2 ze8) (zb0 ze8) (za2 ze8) .none kV_as_standing dc_as_standing pm_as_standing an_as_standing cd_as_standing ct_as_standing),sl_as_standing⟩)
   (c_as_standing:PySem.W.codeIn K cd_as_standing "as_standing" = true) (k_as_standing:PySem.W.keepIn K (.ref f_as_standing)=true)
   (a_mirrored:PySem.W.nsIn K mainGlobals "mirrored" = some (some (.ref f_mirrored)))
   (l_mirrored:K.lookup f_mirrored=some ⟨oc_mirrored,od_mirrored,.func (PySem.W.fnOf "mirrored" "mirrored" (zb2 zf0) (zb0 zf0) (za2 zf0) .none kV_mirrored dc_mirrored pm_mirrored an_mirrored cd_mirrored ct_mirrored),sl_mirrored⟩)
   (c_mirrored:PySem.W.codeIn K cd_mirrored "mirrored" = true) (k_mirrored:PySem.W.keepIn K (.ref f_mirrored)=true)
   (a_tilt:PySem.W.nsIn K mainGlobals "tilt" = some (some (.ref f_tilt)))
   (l_tilt:K.lookup f_tilt=some ⟨oc_tilt,od_tilt,.func (PySem.W.fnOf "tilt" "tilt" (zb2 zl8) (zb0 zl8) (za2 zl8) .none kV_tilt dc_tilt pm_tilt an_tilt cd_tilt ct_tilt),sl_tilt⟩)
   (c_tilt:PySem.W.codeIn K cd_tilt "tilt" = true) (k_tilt:PySem.W.keepIn K (.ref f_tilt)=true)
   (a_side:PySem.W.nsIn K mainGlobals "side" = some (some (.ref f_side)))
   (l_side:K.lookup f_side=some ⟨oc_side,od_side,.func (PySem.W.fnOf "side" "side" (zb2 zr1) (zb0 zr1) (za2 zr1) .none kV_side dc_side pm_side an_side cd_side ct_side),sl_side⟩)
   (c_side:PySem.W.codeIn K cd_side "side" = true) (k_side:PySem.W.keepIn K (.ref f_side)=true)
   (a_past:PySem.W.nsIn K mainGlobals "past" = some (some (.ref f_past)))
   (l_past:K.lookup f_past=some ⟨oc_past,od_past,.func (PySem.W.fnOf "past" "past" (zb2 zr2) (zb0 zr2) (za2 zr2) .none kV_past dc_past pm_past an_past cd_past ct_past),sl_past⟩)
   (c_past:PySem.W.codeIn K cd_past "past" = true) (k_past:PySem.W.keepIn K (.ref f_past)=true)
   (a_keeps:PySem.W.nsIn K mainGlobals "keeps" = some (some (.ref f_keeps)))
   (l_keeps:K.lookup f_keeps=some ⟨oc_keeps,od_keeps,.func (PySem.W.fnOf "keeps" "keeps" (zb2 zm5) (zb0 zm5) (za2 zm5) .none kV_keeps dc_keeps pm_keeps an_keeps cd_keeps ct_keeps),sl_keeps⟩)
   (c_keeps:PySem.W.codeIn K cd_keeps "keeps" = true) (k_keeps:PySem.W.keepIn K (.ref f_keeps)=true)
   (a_in_hand:PySem.W.nsIn K mainGlobals "in_hand" = some (some (.ref f_in_hand)))
   (l_in_hand:K.lookup f_in_hand=some ⟨oc_in_hand,od_in_hand,.func (PySem.W.fnOf "in_hand" "in_hand" (zb2 zi2) (zb0 zi2) (za2 zi2) .none kV_in_hand dc_in_hand pm_in_hand an_in_hand cd_in_hand ct_in_hand),sl_in_hand⟩)
   (c_in_hand:PySem.W.codeIn K cd_in_hand "in_hand" = true) (k_in_hand:PySem.W.keepIn K (.ref f_in_hand)=true)
   (a_loads:PySem.W.nsIn K mainGlobals "loads" = some (some (.ref f_loads)))
   (l_loads:K.lookup f_loads=some ⟨oc_loads,od_loads,.func (PySem.W.fnOf "loads" "loads" (zb2 zm6) (zb0 zm6) (za2 zm6) .none kV_loads dc_loads pm_loads an_loads cd_loads ct_loads),sl_loads⟩)
   (c_loads:PySem.W.codeIn K cd_loads "loads" = true) (k_loads:PySem.W.keepIn K (.ref f_loads)=true)
   (a_refusal:PySem.W.nsIn K mainGlobals "refusal" = some (some (.ref f_refusal)))
   (l_refusal:K.lookup f_refusal=some ⟨oc_refusal,od_refusal,.func (PySem.W.fnOf "refusal" "refusal" (zb2 zi3) (zb0 zi3) (za2 zi3) .none kV_refusal dc_refusal pm_refusal an_refusal cd_refusal ct_refusal),sl_refusal⟩)
   (c_refusal:PySem.W.codeIn K cd_refusal "refusal" = true) (k_refusal:PySem.W.keepIn K (.ref f_refusal)=true)
   (a_moved:PySem.W.nsIn K mainGlobals "moved" = some (some (.ref f_moved)))
   (l_moved:K.lookup f_moved=some ⟨oc_moved,od_moved,.func (PySem.W.fnOf "moved" "moved" (zb2 zm7) (zb0 zm7) (za2 zm7) .none kV_moved dc_moved pm_moved an_moved cd_moved ct_moved),sl_moved⟩)
   (c_moved:PySem.W.codeIn K cd_moved "moved" = true) (k_moved:PySem.W.keepIn K (.ref f_moved)=true)
   (a_moves:PySem.W.nsIn K mainGlobals "moves" = some (some (.ref f_moves)))
   (l_moves:K.lookup f_moves=some ⟨oc_moves,od_moves,.func (PySem.W.fnOf "moves" "moves" (zb2 zm8) (zb0 zm8) (za2 zm8) .none kV_moves dc_moves pm_moves an_moves cd_moves ct_moves),sl_moves⟩)
   (c_moves:PySem.W.codeIn K cd_moves "moves" = true) (k_moves:PySem.W.keepIn K (.ref f_moves)=true)
   (a_fewest:PySem.W.nsIn K mainGlobals "fewest" = some (some (.ref f_fewest)))
   (l_fewest:K.lookup f_fewest=some ⟨oc_fewest,od_fewest,.func (PySem.W.fnOf "fewest" "fewest" (zb2 zk2) (zb0 zk2) (za2 zk2) .none kV_fewest dc_fewest pm_fewest an_fewest cd_fewest ct_fewest),sl_fewest⟩)
   (c_fewest:PySem.W.codeIn K cd_fewest "fewest" = true) (k_fewest:PySem.W.keepIn K (.ref f_fewest)=true)
   (a_next_move:PySem.W.nsIn K mainGlobals "next_move" = some (some (.ref f_next_move)))
   (l_next_move:K.lookup f_next_move=some ⟨oc_next_move,od_next_move,.func (PySem.W.fnOf "next_move" "next_move" (zb2 zg1) (zb0 zg1) (za2 zg1) .none kV_next_move dc_next_move pm_next_move an_next_move cd_next_move ct_next_move),sl_next_move⟩)
   (c_next_move:PySem.W.codeIn K cd_next_move "next_move" = true) (k_next_move:PySem.W.keepIn K (.ref f_next_move)=true)
   (a_least:PySem.W.nsIn K mainGlobals "least" = some (some (.ref f_least)))
   (l_least:K.lookup f_least=some ⟨oc_least,od_least,.func (PySem.W.fnOf "least" "least" (zb2 zm9) (zb0 zm9) (za2 zm9) .none kV_least dc_least pm_least an_least cd_least ct_least),sl_least⟩)
   (c_least:PySem.W.codeIn K cd_least "least" = true) (k_least:PySem.W.keepIn K (.ref f_least)=true)
   (a_Play_init:PySem.W.findIn K (.ref C_Play) "__init__" = some (some (.ref f_Play_init)))
   (i_Play_init:PySem.W.isFn K (.ref f_Play_init)=true)
   (l_Play_init:K.lookup f_Play_init=some ⟨oc_Play_init,od_Play_init,.func (PySem.W.fnOf "__init__" "Play.__init__" (zb2 zg2) (zb0 zg2) (za2 zg2) .none kV_Play_init dc_Play_init pm_Play_init an_Play_init cd_Play_init ct_Play_init),sl_Play_init⟩)
   (c_Play_init:PySem.W.codeIn K cd_Play_init "Play.__init__" = true) (k_Play_init:PySem.W.keepIn K (.ref f_Play_init)=true)
   (a_Play_trail:PySem.W.findIn K (.ref C_Play) "trail" = some (some (.ref f_Play_trail)))
   (i_Play_trail:PySem.W.isFn K (.ref f_Play_trail)=true)
   (l_Play_trail:K.lookup f_Play_trail=some ⟨oc_Play_trail,od_Play_trail,.func (PySem.W.fnOf "trail" "Play.trail" (zb2 zf3) (zb0 zf3) (za2 zf3) .none kV_Play_trail dc_Play_trail pm_Play_trail an_Play_trail cd_Play_trail ct_Play_trail),sl_Play_trail⟩)
   (c_Play_trail:PySem.W.codeIn K cd_Play_trail "Play.trail" = true) (k_Play_trail:PySem.W.keepIn K (.ref f_Play_trail)=true)
   (a_Play_fewest:PySem.W.findIn K (.ref C_Play) "fewest" = some (some (.ref f_Play_fewest)))
   (i_Play_fewest:PySem.W.isFn K (.ref f_Play_fewest)=true)
   (l_Play_fewest:K.lookup f_Play_fewest=some ⟨oc_Play_fewest,od_Play_fewest,.func (PySem.W.fnOf "fewest" "Play.fewest" (zb2 ze9) (zb0 ze9) (za2 ze9) .none kV_Play_fewest dc_Play_fewest pm_Play_fewest an_Play_fewest cd_Play_fewest ct_Play_fewest),sl_Play_fewest⟩)
   (c_Play_fewest:PySem.W.codeIn K cd_Play_fewest "Play.fewest" = true) (k_Play_fewest:PySem.W.keepIn K (.ref f_Play_fewest)=true)
   (a_Play_next_move:PySem.W.findIn K (.ref C_Play) "next_move" = some (some (.ref f_Play_next_move)))
   (i_Play_next_move:PySem.W.isFn K (.ref f_Play_next_move)=true)
   (l_Play_next_move:K.lookup f_Play_next_move=some ⟨oc_Play_next_move,od_Play_next_move,.func (PySem.W.fnOf "next_move" "Play.next_move" (zb2 zd4) (zb0 zd4) (za2 zd4) .none kV_Play_next_move dc_Play_next_move pm_Play_next_move an_Play_next_move cd_Play_next_move ct_Play_next_move),sl_Play_next_move⟩)
   (c_Play_next_move:PySem.W.codeIn K cd_Play_next_move "Play.next_move" = true) (k_Play_next_move:PySem.W.keepIn K (.ref f_Play_next_move)=true)
   (a_Play_least:PySem.W.findIn K (.ref C_Play) "least" = some (some (.ref f_Play_least)))
   (i_Play_least:PySem.W.isFn K (.ref f_Play_least)=true)
   (l_Play_least:K.lookup f_Play_least=some ⟨oc_Play_least,od_Play_least,.func (PySem.W.fnOf "least" "Play.least" (zb2 zf4) (zb0 zf4) (za2 zf4) .none kV_Play_least dc_Play_least pm_Play_least an_Play_least cd_Play_least ct_Play_least),sl_Play_least⟩)
   (c_Play_least:PySem.W.codeIn K cd_Play_least "Play.least" = true) (k_Play_least:PySem.W.keepIn K (.ref f_Play_least)=true)
   (a_write_standing:PySem.W.nsIn K mainGlobals "write_standing" = some (some (.ref f_write_standing)))
   (l_write_standing:K.lookup f_write_standing=some ⟨oc_write_standing,od_write_standing,.func (PySem.W.fnOf "write_standing" "write_standing" (zb2 zd5) (zb0 zd5) (za2 zd5) .none kV_write_standing dc_write_standing pm_write_standing an_write_standing cd_write_standing ct_write_standing),sl_write_standing⟩)
   (c_write_standing:PySem.W.codeIn K cd_write_standing "write_standing" = true) (k_write_standing:PySem.W.keepIn K (.ref f_write_standing)=true)
   (a_write_beam:PySem.W.nsIn K mainGlobals "write_beam" = some (some (.ref f_write_beam)))
   (l_write_beam:K.lookup f_write_beam=some ⟨oc_write_beam,od_write_beam,.func (PySem.W.fnOf "write_beam" "write_beam" (zb2 zf5) (zb0 zf5) (za2 zf5) .none kV_write_beam dc_write_beam pm_write_beam an_write_beam cd_write_beam ct_write_beam),sl_write_beam⟩)
   (c_write_beam:PySem.W.codeIn K cd_write_beam "write_beam" = true) (k_write_beam:PySem.W.keepIn K (.ref f_write_beam)=true)
   (a_w_at:PySem.W.nsIn K mainGlobals "_law_at" = some (some (.ref f_w_at)))
   (l_w_at:K.lookup f_w_at=some ⟨oc_w_at,od_w_at,.func (PySem.W.fnOf "_law_at" "_law_at" (zb2 zr3) (zb0 zr3) (za2 zr3) .none kV_w_at dc_w_at pm_w_at an_w_at cd_w_at ct_w_at),sl_w_at⟩)
   (c_w_at:PySem.W.codeIn K cd_w_at "_law_at" = true) (k_w_at:PySem.W.keepIn K (.ref f_w_at)=true)
   (a_w_whole:PySem.W.nsIn K mainGlobals "_law_whole" = some (some (.ref f_w_whole)))
   (l_w_whole:K.lookup f_w_whole=some ⟨oc_w_whole,od_w_whole,.func (PySem.W.fnOf "_law_whole" "_law_whole" (zb2 zi4) (zb0 zi4) (za2 zi4) .none kV_w_whole dc_w_whole pm_w_whole an_w_whole cd_w_whole ct_w_whole),sl_w_whole⟩)
   (c_w_whole:PySem.W.codeIn K cd_w_whole "_law_whole" = true) (k_w_whole:PySem.W.keepIn K (.ref f_w_whole)=true)
   (a_w_figs:PySem.W.nsIn K mainGlobals "_law_figs" = some (some (.ref f_w_figs)))
   (l_w_figs:K.lookup f_w_figs=some ⟨oc_w_figs,od_w_figs,.func (PySem.W.fnOf "_law_figs" "_law_figs" (zb2 zk3) (zb0 zk3) (za2 zk3) .none kV_w_figs dc_w_figs pm_w_figs an_w_figs cd_w_figs ct_w_figs),sl_w_figs⟩)
   (c_w_figs:PySem.W.codeIn K cd_w_figs "_law_figs" = true) (k_w_figs:PySem.W.keepIn K (.ref f_w_figs)=true)
   (a_w_shape:PySem.W.nsIn K mainGlobals "_law_shape" = some (some (.ref f_w_shape)))
   (l_w_shape:K.lookup f_w_shape=some ⟨oc_w_shape,od_w_shape,.func (PySem.W.fnOf "_law_shape" "_law_shape" (zb2 zg3) (zb0 zg3) (za2 zg3) .none kV_w_shape dc_w_shape pm_w_shape an_w_shape cd_w_shape ct_w_shape),sl_w_shape⟩)
   (c_w_shape:PySem.W.codeIn K cd_w_shape "_law_shape" = true) (k_w_shape:PySem.W.keepIn K (.ref f_w_shape)=true)
   (a_w_put:PySem.W.nsIn K mainGlobals "_law_put" = some (some (.ref f_w_put)))
   (l_w_put:K.lookup f_w_put=some ⟨oc_w_put,od_w_put,.func (PySem.W.fnOf "_law_put" "_law_put" (zb2 zn0) (zb0 zn0) (za2 zn0) .none kV_w_put dc_w_put pm_w_put an_w_put cd_w_put ct_w_put),sl_w_put⟩)
   (c_w_put:PySem.W.codeIn K cd_w_put "_law_put" = true) (k_w_put:PySem.W.keepIn K (.ref f_w_put)=true)
   (a_w_same:PySem.W.nsIn K mainGlobals "_law_same" = some (some (.ref f_w_same)))
   (l_w_same:K.lookup f_w_same=some ⟨oc_w_same,od_w_same,.func (PySem.W.fnOf "_law_same" "_law_same" (zb2 zk4) (zb0 zk4) (za2 zk4) .none kV_w_same dc_w_same pm_w_same an_w_same cd_w_same ct_w_same),sl_w_same⟩)
   (c_w_same:PySem.W.codeIn K cd_w_same "_law_same" = true) (k_w_same:PySem.W.keepIn K (.ref f_w_same)=true)
   (a_w_looked:PySem.W.nsIn K mainGlobals "_law_looked" = some (some (.ref f_w_looked)))
   (l_w_looked:K.lookup f_w_looked=some ⟨oc_w_looked,od_w_looked,.func (PySem.W.fnOf "_law_looked" "_law_looked" (zb2 zg8) (zb0 zg8) (za2 zg8) .none kV_w_looked dc_w_looked pm_w_looked an_w_looked cd_w_looked ct_w_looked),sl_w_looked⟩)
   (c_w_looked:PySem.W.codeIn K cd_w_looked "_law_looked" = true) (k_w_looked:PySem.W.keepIn K (.ref f_w_looked)=true)
   (a_w_asked:PySem.W.nsIn K mainGlobals "_law_asked" = some (some (.ref f_w_asked)))
   (l_w_asked:K.lookup f_w_asked=some ⟨oc_w_asked,od_w_asked,.func (PySem.W.fnOf "_law_asked" "_law_asked" (zb2 zi5) (zb0 zi5) (za2 zi5) .none kV_w_asked dc_w_asked pm_w_asked an_w_asked cd_w_asked ct_w_asked),sl_w_asked⟩)
   (c_w_asked:PySem.W.codeIn K cd_w_asked "_law_asked" = true) (k_w_asked:PySem.W.keepIn K (.ref f_w_asked)=true)
   (a_w_refused:PySem.W.nsIn K mainGlobals "_law_refused" = some (some (.ref f_w_refused)))
   (l_w_refused:K.lookup f_w_refused=some ⟨oc_w_refused,od_w_refused,.func (PySem.W.fnOf "_law_refused" "_law_refused" (zb2 zg4) (zb0 zg4) (za2 zg4) .none kV_w_refused dc_w_refused pm_w_refused an_w_refused cd_w_refused ct_w_refused),sl_w_refused⟩)
   (c_w_refused:PySem.W.codeIn K cd_w_refused "_law_refused" = true) (k_w_refused:PySem.W.keepIn K (.ref f_w_refused)=true)
   (a_w_bad:PySem.W.nsIn K mainGlobals "_law_bad" = some (some (.ref f_w_bad)))
   (l_w_bad:K.lookup f_w_bad=some ⟨oc_w_bad,od_w_bad,.func (PySem.W.fnOf "_law_bad" "_law_bad" (zb2 zn1) (zb0 zn1) (za2 zn1) .none kV_w_bad dc_w_bad pm_w_bad an_w_bad cd_w_bad ct_w_bad),sl_w_bad⟩)
   (c_w_bad:PySem.W.codeIn K cd_w_bad "_law_bad" = true) (k_w_bad:PySem.W.keepIn K (.ref f_w_bad)=true)
   (a_law:PySem.W.nsIn K mainGlobals "law" = some (some (.ref f_law)))
   (l_law:K.lookup f_law=some ⟨oc_law,od_law,.func (PySem.W.fnOf "law" "law" (zb2 zx0) (zb0 zx0) (za2 zx0) .none kV_law dc_law pm_law an_law cd_law ct_law),sl_law⟩)
   (c_law:PySem.W.codeIn K cd_law "law" = true) (k_law:PySem.W.keepIn K (.ref f_law)=true)
   (pg_Beam:PySem.W.plainGet K C_Beam Str.empty=true) (hd_Beam:PySem.W.hasDictIn K C_Beam=true) (po_Beam:PySem.W.plainOver K C_Beam=true) (sa_Beam:PySem.W.findIn K (.ref C_Beam) "__setattr__" = some (some (.builtin "object.__setattr__"))) (mk_Beam:PySem.W.makesIn K C_Beam=true) (kc_Beam:PySem.W.keepIn K (.ref C_Beam)=true)
   (na_Beam_notches:PySem.W.findIn K (.ref C_Beam) "notches" = some none)
   (na_Beam_room:PySem.W.findIn K (.ref C_Beam) "room" = some none)
   (na_Beam_hefts:PySem.W.findIn K (.ref C_Beam) "hefts" = some none)
   (na_Beam_limit:PySem.W.findIn K (.ref C_Beam) "limit" = some none)
   (pg_Play:PySem.W.plainGet K C_Play Str.empty=true) (hd_Play:PySem.W.hasDictIn K C_Play=true) (po_Play:PySem.W.plainOver K C_Play=true) (sa_Play:PySem.W.findIn K (.ref C_Play) "__setattr__" = some (some (.builtin "object.__setattr__"))) (mk_Play:PySem.W.makesIn K C_Play=true) (kc_Play:PySem.W.keepIn K (.ref C_Play)=true)
   (na_Play_beam:PySem.W.findIn K (.ref C_Play) "beam" = some none)
   (na_Play_start:PySem.W.findIn K (.ref C_Play) "start" = some none)
   (na_Play_standing:PySem.W.findIn K (.ref C_Play) "standing" = some none)
   (na_Play_made:PySem.W.findIn K (.ref C_Play) "made" = some none)
   (ob_BadStanding:K.lookup C_BadStanding=some (excClassObj nm_BadStanding qn_BadStanding C_BadStanding N_BadStanding bs_BadStanding bm_BadStanding true sn_BadStanding sub_BadStanding ab_BadStanding col_BadStanding dd_BadStanding k0_BadStanding k1_BadStanding k2_BadStanding k3_BadStanding k5_BadStanding "ValueError.__new__")) (mv_BadStanding:MroV bm_BadStanding) (sa_BadStanding:PySem.W.findIn K (.ref C_BadStanding) "__setattr__" = some (some (.builtin "object.__setattr__"))) (kc_BadStanding:PySem.W.keepIn K (.ref C_BadStanding)=true)
   (na_BadStanding_reason:PySem.W.findIn K (.ref C_BadStanding) "reason" = some none)
   (na_BadStanding_word:PySem.W.findIn K (.ref C_BadStanding) "word" = some none)
   (xw1:PySem.W.specialIn K (.builtin "object.__class__") "__get__" = some (some (.builtin "getset_descriptor.__get__")))
   (xw2:PySem.W.takesIn K (.builtin "object.__class__")=some true)
   (cx_BeamError:PySem.W.clsIn K C_BeamError=some cdx_BeamError) (ty_BeamError:PySem.W.typeIn K (.ref C_BeamError)=some (.type "type"))
   (cx_BadStanding:PySem.W.clsIn K C_BadStanding=some cdx_BadStanding) (ty_BadStanding:PySem.W.typeIn K (.ref C_BadStanding)=some (.type "type"))
   (be_BeamError:PySem.W.subIn K (.ref C_BeamError) (.type "BaseException")=some true)
   (xp_BadStanding:PySem.W.findIn K (.ref C_BadStanding) "__getattribute__" = some (some (.builtin "BaseException.__getattribute__"))) (xq_BadStanding:PySem.W.findIn K (.ref C_BadStanding) "__getattr__" = some none) (xr_BadStanding:PySem.W.mroIn K C_BadStanding (.type "BaseException")=some true) (xh_BadStanding:PySem.W.hasDictIn K C_BadStanding=true) (xk_BadStanding:PySem.W.findIn K (.ref C_BadStanding) "__class__" = some (some (.builtin "object.__class__"))) (xo_BadStanding:PySem.W.mroIn K C_BadStanding (.type "object")=some true)
   (sb_BadStanding_BeamError:PySem.W.subIn K (.ref C_BadStanding) (.ref C_BeamError)=some true)
   (ga_BeamError:PySem.W.specialIn K (.ref C_BeamError) "__getattribute__" = some (some (.builtin "type.__getattribute__"))) (rd_BeamError:PySem.W.readsIn K C_BeamError (.type "type")=true) (fd_BeamError:PySem.W.findCls K (.ref C_BeamError) (.type "type") "__init__" = some (.val (.ref f_BeamError_init)))
   (a_fewest_layers:PySem.W.nsIn K mainGlobals "fewest_layers" = some (some (.ref f_fewest)))
   (a_next_move_layers:PySem.W.nsIn K mainGlobals "next_move_layers" = some (some (.ref f_next_move)))
   (a_least_limits:PySem.W.nsIn K mainGlobals "least_limits" = some (some (.ref f_least)))
   (n_tuple:PySem.W.nsIn K mainGlobals "tuple" = some none)
   (n_len:PySem.W.nsIn K mainGlobals "len" = some none)
   (n_range:PySem.W.nsIn K mainGlobals "range" = some none)
   (n_sum:PySem.W.nsIn K mainGlobals "sum" = some none)
   (n_zip:PySem.W.nsIn K mainGlobals "zip" = some none)
   (n_abs:PySem.W.nsIn K mainGlobals "abs" = some none)
   (n_list:PySem.W.nsIn K mainGlobals "list" = some none)
   (n_isinstance:PySem.W.nsIn K mainGlobals "isinstance" = some none)
   (n_int:PySem.W.nsIn K mainGlobals "int" = some none)
   (n_bool:PySem.W.nsIn K mainGlobals "bool" = some none)
   (n_min:PySem.W.nsIn K mainGlobals "min" = some none)
   (g_MOST_NOTCHES:PySem.W.nsIn K mainGlobals "MOST_NOTCHES" = some (some (.int 4 q_MOST_NOTCHES)))
   (g_MOST_ROOM:PySem.W.nsIn K mainGlobals "MOST_ROOM" = some (some (.int 3 q_MOST_ROOM)))
   (g_MOST_LIMIT:PySem.W.nsIn K mainGlobals "MOST_LIMIT" = some (some (.int 400 q_MOST_LIMIT)))
   (g_MOST_WEIGHTS:PySem.W.nsIn K mainGlobals "MOST_WEIGHTS" = some (some (.int 5 q_MOST_WEIGHTS)))
   (g_MOST_HEFT:PySem.W.nsIn K mainGlobals "MOST_HEFT" = some (some (.int 20 q_MOST_HEFT)))
   (g_MOST_STANDINGS:PySem.W.nsIn K mainGlobals "MOST_STANDINGS" = some (some (.int 1000 q_MOST_STANDINGS))) :
   ∃ fd:FuncData,(∀ (s:Shared) (v:Value),BindsTo s fd ⟨[v],[]⟩ [("_law_script",v)])/\∀ base:Heap,K.In base->base.Ns mainGlobals mg->FnOk l.prog w K mg base CX0 11 fa fd ["_law_script"] (zB3 K):=by
 have e:=hfa.symm.trans (PySem.W.mg_of X G a_law)
 cases e
 have F_BeamError_init:=zE2 (st:=zc7) l_BeamError_init c_BeamError_init k_BeamError_init
 have b_BeamError_init:zc3 K _ ["self","reason","word"] []:=fun s us X hl=>by
   rw[List.append_nil] at hl ⊢
   match us,hl with
   | [_,_,_],_=>exact BindsTo.of_defaults (fd:=PySem.W.fnOf "__init__" "BeamError.__init__" (zb2 zc7) (zb0 zc7) (za2 zc7) (.ref T_BeamError_init) kV_BeamError_init dc_BeamError_init pm_BeamError_init an_BeamError_init cd_BeamError_init ct_BeamError_init) rfl (X _ _ dt_BeamError_init) rfl rfl rfl
 have F_BadStanding_init:=zE2 (st:=zc4) l_BadStanding_init c_BadStanding_init k_BadStanding_init
 have b_BadStanding_init:zc3 K _ ["self","reason"] []:=fun s us X hl=>by
   rw[List.append_nil] at hl ⊢
   match us,hl with
   | [_,_],_=>exact BindsTo.of_defaults (fd:=PySem.W.fnOf "__init__" "BadStanding.__init__" (zb2 zc4) (zb0 zc4) (za2 zc4) (.ref T_BadStanding_init) kV_BadStanding_init dc_BadStanding_init pm_BadStanding_init an_BadStanding_init cd_BadStanding_init ct_BadStanding_init) rfl (X _ _ dt_BadStanding_init) rfl rfl rfl
 have F_Beam_init:=zc5 (st:=zg0) l_Beam_init c_Beam_init k_Beam_init
 have b_Beam_init:=F_Beam_init.binds (ps:=["self","notches","room","hefts","limit"]) fun _ _ _ _ _ _ us hl=>by obtain ⟨x0,x1,x2,x3,x4,rfl⟩:=ar5 hl;rfl
 have F_outside:=zc5 (st:=zi1) l_outside c_outside k_outside
 have b_outside:=F_outside.binds (ps:=["number","low","high"]) fun _ _ _ _ _ _ us hl=>by obtain ⟨x0,x1,x2,rfl⟩:=ar3 hl;rfl
 have F_check_bounds:=zc5 (st:=ze3) l_check_bounds c_check_bounds k_check_bounds
 have b_check_bounds:=F_check_bounds.binds (ps:=["notches","room","limit"]) fun _ _ _ _ _ _ us hl=>by obtain ⟨x0,x1,x2,rfl⟩:=ar3 hl;rfl
 have F_check_hefts:=zc5 (st:=ze7) l_check_hefts c_check_hefts k_check_hefts
 have b_check_hefts:=F_check_hefts.binds (ps:=["hefts"]) fun _ _ _ _ _ _ us hl=>by obtain ⟨x0,rfl⟩:=ar1 hl;rfl
 have F_check_standings:=zc5 (st:=zd2) l_check_standings c_check_standings k_check_standings
 have b_check_standings:=F_check_standings.binds (ps:=["notches","weights"]) fun _ _ _ _ _ _ us hl=>by obtain ⟨x0,x1,rfl⟩:=ar2 hl;rfl
 have F_as_standing:=zc5 (st:=ze8) l_as_standing c_as_standing k_as_standing
 have b_as_standing:=F_as_standing.binds (ps:=["beam","standing"]) fun _ _ _ _ _ _ us hl=>by obtain ⟨x0,x1,rfl⟩:=ar2 hl;rfl
 have F_mirrored:=zc5 (st:=zf0) l_mirrored c_mirrored k_mirrored
 have b_mirrored:=F_mirrored.binds (ps:=["beam","standing"]) fun _ _ _ _ _ _ us hl=>by obtain ⟨x0,x1,rfl⟩:=ar2 hl;rfl
 have F_tilt:=zc5 (st:=zl8) l_tilt c_tilt k_tilt
 have b_tilt:=F_tilt.binds (ps:=["beam","standing"]) fun _ _ _ _ _ _ us hl=>by obtain ⟨x0,x1,rfl⟩:=ar2 hl;rfl
 have F_side:=zc5 (st:=zr1) l_side c_side k_side
 have b_side:=F_side.binds (ps:=["beam","standing"]) fun _ _ _ _ _ _ us hl=>by obtain ⟨x0,x1,rfl⟩:=ar2 hl;rfl
 have F_past:=zc5 (st:=zr2) l_past c_past k_past
 have b_past:=F_past.binds (ps:=["beam","tipped"]) fun _ _ _ _ _ _ us hl=>by obtain ⟨x0,x1,rfl⟩:=ar2 hl;rfl
 have F_keeps:=zc5 (st:=zm5) l_keeps c_keeps k_keeps
 have b_keeps:=F_keeps.binds (ps:=["beam","standing"]) fun _ _ _ _ _ _ us hl=>by obtain ⟨x0,x1,rfl⟩:=ar2 hl;rfl
 have F_in_hand:=zc5 (st:=zi2) l_in_hand c_in_hand k_in_hand
 have b_in_hand:=F_in_hand.binds (ps:=["beam","standing","weight"]) fun _ _ _ _ _ _ us hl=>by obtain ⟨x0,x1,x2,rfl⟩:=ar3 hl;rfl
 have F_loads:=zc5 (st:=zm6) l_loads c_loads k_loads
 have b_loads:=F_loads.binds (ps:=["beam","standing"]) fun _ _ _ _ _ _ us hl=>by obtain ⟨x0,x1,rfl⟩:=ar2 hl;rfl
 have F_refusal:=zc5 (st:=zi3) l_refusal c_refusal k_refusal
 have b_refusal:=F_refusal.binds (ps:=["beam","standing","move"]) fun _ _ _ _ _ _ us hl=>by obtain ⟨x0,x1,x2,rfl⟩:=ar3 hl;rfl
 have F_moved:=zc5 (st:=zm7) l_moved c_moved k_moved
 have b_moved:=F_moved.binds (ps:=["beam","standing","move"]) fun _ _ _ _ _ _ us hl=>by obtain ⟨x0,x1,x2,rfl⟩:=ar3 hl;rfl
 have F_moves:=zc5 (st:=zm8) l_moves c_moves k_moves
 have b_moves:=F_moves.binds (ps:=["beam","standing"]) fun _ _ _ _ _ _ us hl=>by obtain ⟨x0,x1,rfl⟩:=ar2 hl;rfl
 have F_fewest:=zc5 (st:=zk2) l_fewest c_fewest k_fewest
 have b_fewest:=F_fewest.binds (ps:=["beam","start","goal"]) fun _ _ _ _ _ _ us hl=>by obtain ⟨x0,x1,x2,rfl⟩:=ar3 hl;rfl
 have F_next_move:=zc5 (st:=zg1) l_next_move c_next_move k_next_move
 have b_next_move:=F_next_move.binds (ps:=["beam","start","goal"]) fun _ _ _ _ _ _ us hl=>by obtain ⟨x0,x1,x2,rfl⟩:=ar3 hl;rfl
 have F_least:=zc5 (st:=zm9) l_least c_least k_least
 have b_least:=F_least.binds (ps:=["beam","start","goal"]) fun _ _ _ _ _ _ us hl=>by obtain ⟨x0,x1,x2,rfl⟩:=ar3 hl;rfl
 have F_Play_init:=zc5 (st:=zg2) l_Play_init c_Play_init k_Play_init
 have b_Play_init:=F_Play_init.binds (ps:=["self","beam","start"]) fun _ _ _ _ _ _ us hl=>by obtain ⟨x0,x1,x2,rfl⟩:=ar3 hl;rfl
 have F_Play_trail:=zc5 (st:=zf3) l_Play_trail c_Play_trail k_Play_trail
 have b_Play_trail:=F_Play_trail.binds (ps:=["self"]) fun _ _ _ _ _ _ us hl=>by obtain ⟨x0,rfl⟩:=ar1 hl;rfl
 have F_Play_fewest:=zc5 (st:=ze9) l_Play_fewest c_Play_fewest k_Play_fewest
 have b_Play_fewest:=F_Play_fewest.binds (ps:=["self","goal"]) fun _ _ _ _ _ _ us hl=>by obtain ⟨x0,x1,rfl⟩:=ar2 hl;rfl
 have F_Play_next_move:=zc5 (st:=zd4) l_Play_next_move c_Play_next_move k_Play_next_move
 have b_Play_next_move:=F_Play_next_move.binds (ps:=["self","goal"]) fun _ _ _ _ _ _ us hl=>by obtain ⟨x0,x1,rfl⟩:=ar2 hl;rfl
 have F_Play_least:=zc5 (st:=zf4) l_Play_least c_Play_least k_Play_least
 have b_Play_least:=F_Play_least.binds (ps:=["self","goal"]) fun _ _ _ _ _ _ us hl=>by obtain ⟨x0,x1,rfl⟩:=ar2 hl;rfl
 have F_write_standing:=zc5 (st:=zd5) l_write_standing c_write_standing k_write_standing
 have b_write_standing:=F_write_standing.binds (ps:=["beam","standing"]) fun _ _ _ _ _ _ us hl=>by obtain ⟨x0,x1,rfl⟩:=ar2 hl;rfl
 have F_write_beam:=zc5 (st:=zf5) l_write_beam c_write_beam k_write_beam
 have b_write_beam:=F_write_beam.binds (ps:=["beam","standing"]) fun _ _ _ _ _ _ us hl=>by obtain ⟨x0,x1,rfl⟩:=ar2 hl;rfl
 have F_w_at:=zc5 (st:=zr3) l_w_at c_w_at k_w_at
 have b_w_at:=F_w_at.binds (ps:=["_law_script","_law_k"]) fun _ _ _ _ _ _ us hl=>by obtain ⟨x0,x1,rfl⟩:=ar2 hl;rfl
 have F_w_whole:=zc5 (st:=zi4) l_w_whole c_w_whole k_w_whole
 have b_w_whole:=F_w_whole.binds (ps:=["_law_found"]) fun _ _ _ _ _ _ us hl=>by obtain ⟨x0,rfl⟩:=ar1 hl;rfl
 have F_w_figs:=zc5 (st:=zk3) l_w_figs c_w_figs k_w_figs
 have b_w_figs:=F_w_figs.binds (ps:=["_law_cell","_law_count","_law_base","_law_mix"]) fun _ _ _ _ _ _ us hl=>by obtain ⟨x0,x1,x2,x3,rfl⟩:=ar4 hl;rfl
 have F_w_shape:=zc5 (st:=zg3) l_w_shape c_w_shape k_w_shape
 have b_w_shape:=F_w_shape.binds (ps:=["_law_script"]) fun _ _ _ _ _ _ us hl=>by obtain ⟨x0,rfl⟩:=ar1 hl;rfl
 have F_w_put:=zc5 (st:=zn0) l_w_put c_w_put k_w_put
 have b_w_put:=F_w_put.binds (ps:=["_law_script","_law_k","_law_more","_law_shape_here"]) fun _ _ _ _ _ _ us hl=>by obtain ⟨x0,x1,x2,x3,rfl⟩:=ar4 hl;rfl
 have F_w_same:=zc5 (st:=zk4) l_w_same c_w_same k_w_same
 have b_w_same:=F_w_same.binds (ps:=["_law_found","_law_due"]) fun _ _ _ _ _ _ us hl=>by obtain ⟨x0,x1,rfl⟩:=ar2 hl;rfl
 have F_w_looked:=zc5 (st:=zg8) l_w_looked c_w_looked k_w_looked
 have b_w_looked:=F_w_looked.binds (ps:=["_law_door","_law_beam","_law_bad_here"]) fun _ _ _ _ _ _ us hl=>by obtain ⟨x0,x1,x2,rfl⟩:=ar3 hl;rfl
 have F_w_asked:=zc5 (st:=zi5) l_w_asked c_w_asked k_w_asked
 have b_w_asked:=F_w_asked.binds (ps:=["_law_door","_law_beam","_law_play","_law_bad_here","_law_fine"]) fun _ _ _ _ _ _ us hl=>by obtain ⟨x0,x1,x2,x3,x4,rfl⟩:=ar5 hl;rfl
 have F_w_refused:=zc5 (st:=zg4) l_w_refused c_w_refused k_w_refused
 have b_w_refused:=F_w_refused.binds (ps:=["_law_door","_law_beam","_law_play","_law_bad_here","_law_fine"]) fun _ _ _ _ _ _ us hl=>by obtain ⟨x0,x1,x2,x3,x4,rfl⟩:=ar5 hl;rfl
 have F_w_bad:=zc5 (st:=zn1) l_w_bad c_w_bad k_w_bad
 have b_w_bad:=F_w_bad.binds (ps:=["_law_spots","_law_shape_here","_law_cell"]) fun _ _ _ _ _ _ us hl=>by obtain ⟨x0,x1,x2,rfl⟩:=ar3 hl;rfl
 have F_law:=zc5 (st:=zx0) l_law c_law k_law
 have b_law:=F_law.binds (ps:=["_law_script"]) fun _ _ _ _ _ _ us hl=>by obtain ⟨x0,rfl⟩:=ar1 hl;rfl
 have T:Txt K mg { a_BeamError_init:=f_BeamError_init,d_BeamError_init:=_,a_BadStanding_init:=f_BadStanding_init,d_BadStanding_init:=_,a_Beam_init:=f_Beam_init,d_Beam_init:=_,a_outside:=f_outside,d_outside:=_,a_check_bounds:=f_check_bounds,d_check_bounds:=_,a_check_hefts:=f_check_hefts,d_check_hefts:=_,a_check_standings:=f_check_standings,d_check_standings:=_,a_as_standing:=f_as_standing,d_as_standing:=_,a_mirrored:=f_mirrored,d_mirrored:=_,a_tilt:=f_tilt,d_tilt:=_,a_side:=f_side,d_side:=_,a_past:=f_past,d_past:=_,a_keeps:=f_keeps,d_keeps:=_,a_in_hand:=f_in_hand,d_in_hand:=_,a_loads:=f_loads,d_loads:=_,a_refusal:=f_refusal,d_refusal:=_,a_moved:=f_moved,d_moved:=_,a_moves:=f_moves,d_moves:=_,a_fewest:=f_fewest,d_fewest:=_,a_next_move:=f_next_move,d_next_move:=_,a_least:=f_least,d_least:=_,a_Play_init:=f_Play_init,d_Play_init:=_,a_Play_trail:=f_Play_trail,d_Play_trail:=_,a_Play_fewest:=f_Play_fewest,d_Play_fewest:=_,a_Play_next_move:=f_Play_next_move,d_Play_next_move:=_,a_Play_least:=f_Play_least,d_Play_least:=_,a_write_standing:=f_write_standing,d_write_standing:=_,a_write_beam:=f_write_beam,d_write_beam:=_,a_w_at:=f_w_at,d_w_at:=_,a_w_whole:=f_w_whole,d_w_whole:=_,a_w_figs:=f_w_figs,d_w_figs:=_,a_w_shape:=f_w_shape,d_w_shape:=_,a_w_put:=f_w_put,d_w_put:=_,a_w_same:=f_w_same,d_w_same:=_,a_w_looked:=f_w_looked,d_w_looked:=_,a_w_asked:=f_w_asked,d_w_asked:=_,a_w_refused:=f_w_refused,d_w_refused:=_,a_w_bad:=f_w_bad,d_w_bad:=_,a_law:=fa,d_law:=_,c_Beam:=C_Beam,c_Play:=C_Play,c_BadStanding:=C_BadStanding,c_BeamError:=C_BeamError,q_MOST_NOTCHES:=q_MOST_NOTCHES,q_MOST_ROOM:=q_MOST_ROOM,q_MOST_LIMIT:=q_MOST_LIMIT,q_MOST_WEIGHTS:=q_MOST_WEIGHTS,q_MOST_HEFT:=q_MOST_HEFT,q_MOST_STANDINGS:=q_MOST_STANDINGS }:={ F_BeamError_init:=F_BeamError_init,b_BeamError_init:=b_BeamError_init,k_BeamError_init:=k_BeamError_init,F_BadStanding_init:=F_BadStanding_init,b_BadStanding_init:=b_BadStanding_init,k_BadStanding_init:=k_BadStanding_init,F_Beam_init:=F_Beam_init,b_Beam_init:=b_Beam_init,k_Beam_init:=k_Beam_init,F_outside:=F_outside,b_outside:=b_outside,m_outside:=PySem.W.mg_of X G a_outside,k_outside:=k_outside,F_check_bounds:=F_check_bounds,b_check_bounds:=b_check_bounds,m_check_bounds:=PySem.W.mg_of X G a_check_bounds,k_check_bounds:=k_check_bounds,F_check_hefts:=F_check_hefts,b_check_hefts:=b_check_hefts,m_check_hefts:=PySem.W.mg_of X G a_check_hefts,k_check_hefts:=k_check_hefts,F_check_standings:=F_check_standings,b_check_standings:=b_check_standings,m_check_standings:=PySem.W.mg_of X G a_check_standings,k_check_standings:=k_check_standings,F_as_standing:=F_as_standing,b_as_standing:=b_as_standing,m_as_standing:=PySem.W.mg_of X G a_as_standing,k_as_standing:=k_as_standing,F_mirrored:=F_mirrored,b_mirrored:=b_mirrored,m_mirrored:=PySem.W.mg_of X G a_mirrored,k_mirrored:=k_mirrored,F_tilt:=F_tilt,b_tilt:=b_tilt,m_tilt:=PySem.W.mg_of X G a_tilt,k_tilt:=k_tilt,F_side:=F_side,b_side:=b_side,m_side:=PySem.W.mg_of X G a_side,k_side:=k_side,F_past:=F_past,b_past:=b_past,m_past:=PySem.W.mg_of X G a_past,k_past:=k_past,F_keeps:=F_keeps,b_keeps:=b_keeps,m_keeps:=PySem.W.mg_of X G a_keeps,k_keeps:=k_keeps,F_in_hand:=F_in_hand,b_in_hand:=b_in_hand,m_in_hand:=PySem.W.mg_of X G a_in_hand,k_in_hand:=k_in_hand,F_loads:=F_loads,b_loads:=b_loads,m_loads:=PySem.W.mg_of X G a_loads,k_loads:=k_loads,F_refusal:=F_refusal,b_refusal:=b_refusal,m_refusal:=PySem.W.mg_of X G a_refusal,k_refusal:=k_refusal,F_moved:=F_moved,b_moved:=b_moved,m_moved:=PySem.W.mg_of X G a_moved,k_moved:=k_moved,F_moves:=F_moves,b_moves:=b_moves,m_moves:=PySem.W.mg_of X G a_moves,k_moves:=k_moves,F_fewest:=F_fewest,b_fewest:=b_fewest,m_fewest:=PySem.W.mg_of X G a_fewest,k_fewest:=k_fewest,F_next_move:=F_next_move,b_next_move:=b_next_move,m_next_move:=PySem.W.mg_of X G a_next_move,k_next_move:=k_next_move,F_least:=F_least,b_least:=b_least,m_least:=PySem.W.mg_of X G a_least,k_least:=k_least,F_Play_init:=F_Play_init,b_Play_init:=b_Play_init,k_Play_init:=k_Play_init,F_Play_trail:=F_Play_trail,b_Play_trail:=b_Play_trail,k_Play_trail:=k_Play_trail,F_Play_fewest:=F_Play_fewest,b_Play_fewest:=b_Play_fewest,k_Play_fewest:=k_Play_fewest,F_Play_next_move:=F_Play_next_move,b_Play_next_move:=b_Play_next_move,k_Play_next_move:=k_Play_next_move,F_Play_least:=F_Play_least,b_Play_least:=b_Play_least,k_Play_least:=k_Play_least,F_write_standing:=F_write_standing,b_write_standing:=b_write_standing,m_write_standing:=PySem.W.mg_of X G a_write_standing,k_write_standing:=k_write_standing,F_write_beam:=F_write_beam,b_write_beam:=b_write_beam,m_write_beam:=PySem.W.mg_of X G a_write_beam,k_write_beam:=k_write_beam,F_w_at:=F_w_at,b_w_at:=b_w_at,m_w_at:=PySem.W.mg_of X G a_w_at,k_w_at:=k_w_at,F_w_whole:=F_w_whole,b_w_whole:=b_w_whole,m_w_whole:=PySem.W.mg_of X G a_w_whole,k_w_whole:=k_w_whole,F_w_figs:=F_w_figs,b_w_figs:=b_w_figs,m_w_figs:=PySem.W.mg_of X G a_w_figs,k_w_figs:=k_w_figs,F_w_shape:=F_w_shape,b_w_shape:=b_w_shape,m_w_shape:=PySem.W.mg_of X G a_w_shape,k_w_shape:=k_w_shape,F_w_put:=F_w_put,b_w_put:=b_w_put,m_w_put:=PySem.W.mg_of X G a_w_put,k_w_put:=k_w_put,F_w_same:=F_w_same,b_w_same:=b_w_same,m_w_same:=PySem.W.mg_of X G a_w_same,k_w_same:=k_w_same,F_w_looked:=F_w_looked,b_w_looked:=b_w_looked,m_w_looked:=PySem.W.mg_of X G a_w_looked,k_w_looked:=k_w_looked,F_w_asked:=F_w_asked,b_w_asked:=b_w_asked,m_w_asked:=PySem.W.mg_of X G a_w_asked,k_w_asked:=k_w_asked,F_w_refused:=F_w_refused,b_w_refused:=b_w_refused,m_w_refused:=PySem.W.mg_of X G a_w_refused,k_w_refused:=k_w_refused,F_w_bad:=F_w_bad,b_w_bad:=b_w_bad,m_w_bad:=PySem.W.mg_of X G a_w_bad,k_w_bad:=k_w_bad,F_law:=F_law,b_law:=b_law,m_law:=PySem.W.mg_of X G a_law,k_law:=k_law,cl_Beam:=⟨pg_Beam,hd_Beam,po_Beam,sa_Beam⟩,m_Beam:=PySem.W.mg_of X G a_Beam,mk_Beam:=⟨mk_Beam,a_Beam_init,i_Beam_init,kc_Beam⟩,na_Beam_notches:=na_Beam_notches,na_Beam_room:=na_Beam_room,na_Beam_hefts:=na_Beam_hefts,na_Beam_limit:=na_Beam_limit,cl_Play:=⟨pg_Play,hd_Play,po_Play,sa_Play⟩,m_Play:=PySem.W.mg_of X G a_Play,mk_Play:=⟨mk_Play,a_Play_init,i_Play_init,kc_Play⟩,na_Play_beam:=na_Play_beam,na_Play_start:=na_Play_start,na_Play_standing:=na_Play_standing,na_Play_made:=na_Play_made,m_fewest_layers:=PySem.W.mg_of X G a_fewest_layers,m_next_move_layers:=PySem.W.mg_of X G a_next_move_layers,m_least_limits:=PySem.W.mg_of X G a_least_limits,me_Play_trail:=⟨a_Play_trail,i_Play_trail,k_Play_trail⟩,me_Play_fewest:=⟨a_Play_fewest,i_Play_fewest,k_Play_fewest⟩,me_Play_next_move:=⟨a_Play_next_move,i_Play_next_move,k_Play_next_move⟩,me_Play_least:=⟨a_Play_least,i_Play_least,k_Play_least⟩,m_BadStanding:=PySem.W.mg_of X G a_BadStanding,m_BeamError:=PySem.W.mg_of X G a_BeamError,x_BadStanding:=⟨⟨_,_,_,_,_,_,_,_,_,_,_,_,_,_,_,ob_BadStanding,mv_BadStanding⟩,sa_BadStanding,kc_BadStanding⟩,i_BadStanding:=a_BadStanding_init,if_BadStanding:=i_BadStanding_init,na_BadStanding_reason:=na_BadStanding_reason,na_BadStanding_word:=na_BadStanding_word,xw:=⟨xw1,xw2⟩,xa_BadStanding:=⟨xp_BadStanding,xq_BadStanding,xr_BadStanding,xh_BadStanding,xk_BadStanding,xo_BadStanding⟩,xm_BadStanding_BeamError:=exm_of be_BeamError (by rw[cx_BeamError];rfl) ty_BeamError sb_BadStanding_BeamError,kt_BadStanding_BadStanding:=kit_self,cm_BeamError:=⟨ga_BeamError,rd_BeamError,fd_BeamError,k_BeamError_init⟩,n_tuple:=PySem.W.mg_none_of X G n_tuple,n_len:=PySem.W.mg_none_of X G n_len,n_range:=PySem.W.mg_none_of X G n_range,n_sum:=PySem.W.mg_none_of X G n_sum,n_zip:=PySem.W.mg_none_of X G n_zip,n_abs:=PySem.W.mg_none_of X G n_abs,n_list:=PySem.W.mg_none_of X G n_list,n_isinstance:=PySem.W.mg_none_of X G n_isinstance,n_int:=PySem.W.mg_none_of X G n_int,n_bool:=PySem.W.mg_none_of X G n_bool,n_min:=PySem.W.mg_none_of X G n_min,g_MOST_NOTCHES:=PySem.W.mg_of X G g_MOST_NOTCHES,g_MOST_ROOM:=PySem.W.mg_of X G g_MOST_ROOM,g_MOST_LIMIT:=PySem.W.mg_of X G g_MOST_LIMIT,g_MOST_WEIGHTS:=PySem.W.mg_of X G g_MOST_WEIGHTS,g_MOST_HEFT:=PySem.W.mg_of X G g_MOST_HEFT,g_MOST_STANDINGS:=PySem.W.mg_of X G g_MOST_STANDINGS }
 exact⟨_,fun s v=>.of_eq rfl,fun base _ _=>ok_law T⟩
theorem walk {l:PySem.W.OpenLaw} {q:Program} {loose:List Str} {XP:(Str->Option Value)->Heap->Prop} {YP:World->Heap->Prop} {d:DefRec} {K:Params->PySem.W.Frag} (hn:l.most=some 63) (hdf:d.params.defaults=[])
   (hY:∀ (w:World) (h:Heap),YP w h->(K w.params).In h)
   (F:∀ (w:World) (mg:Str->Option Value) (fa:Addr) (h:Heap),(K w.params).In h->h.Ns mainGlobals mg->mg d.name=some (.ref fa) →
     ∃ fd:FuncData,(∀ (s:Shared) (u:Value),BindsTo s fd ⟨[u],[]⟩ [("_law_script",u)])/\∀ base:Heap,(K w.params).In base->base.Ns mainGlobals mg->FnOk l.prog w (K w.params) mg base CX0 11 fa fd ["_law_script"] (zB3 (K w.params))) :
   PySem.W.WalkO q loose XP YP l.row.toRowW d [] (fun f vs=>PySem.call f vs) :=
 L2.walk_of (n:=63) (k:=11) (x:="_law_script") (CX:=fun _=>CX0) (sp:=fun w=>zB3 (K w.params)) hn (by decide) hdf ⟨rfl,by decide,by decide⟩ hY F (fun _ _ a ns hl _ hS=>⟨a,ns,rfl,hS,hl,fun _=>rfl⟩) fun _ _ _ _ _ z=>z
theorem walkZ {l:PySem.W.OpenLaw} {q:Program} {loose:List Str} {XP:(Str->Option Value)->Heap->Prop} {d:DefRec} {K:Params->PySem.W.Frag} (hn:l.most=some 63) (hdf:d.params.defaults=[])
 (F:∀ (w:World) (mg:Str->Option Value) (fa:Addr) (h:Heap),(K w.params).In h->h.Ns mainGlobals mg->mg d.name=some (.ref fa) →
   ∃ fd:FuncData,(∀ (s:Shared) (u:Value),BindsTo s fd ⟨[u],[]⟩ [("_law_script",u)])/\∀ base:Heap,(K w.params).In base->base.Ns mainGlobals mg->FnOk l.prog w (K w.params) mg base CX0 11 fa fd ["_law_script"] (zB3 (K w.params))) :
 PySem.W.WalkO q loose XP (fun w h=>(K w.params).In h) l.row.toRowW d [] (fun f vs=>PySem.call f vs):=walk hn hdf (fun _ _ Y=>Y) F
end Bt
namespace PySem.W.Fast
noncomputable def tw17598153732071758138:Unit:=()
noncomputable def tw983070777994716145:Unit:=()
noncomputable def tw10303939957771331584:Unit:=()
noncomputable def tw15216679504379454190:Unit:=()
noncomputable def tw9518393397425997360:Unit:=()
noncomputable def tw14205192644474928308:Unit:=()
noncomputable def tw3221020413575412610:Unit:=()
noncomputable def tw15063018995991832369:Unit:=()
noncomputable def tw12253399642722625621:Unit:=()
noncomputable def tw3171952142789926389:Unit:=()
noncomputable def tw13154909410470707841:Unit:=()
noncomputable def tw7776356343756745628:Unit:=()
noncomputable def tw10809986599034252505:Unit:=()
noncomputable def tw6073477941604772108:Unit:=()
noncomputable def tw16548778170937433313:Unit:=()
noncomputable def tw17236341906573539273:Unit:=()
noncomputable def tw14225511736222004859:Unit:=()
noncomputable def tw7649075988470698850:Unit:=()
noncomputable def tw6585742805086420215:Unit:=()
noncomputable def tw16508540198102816245:Unit:=()
noncomputable def tw1216162684298283051:Unit:=()
noncomputable def tw1619194596629471574:Unit:=()
noncomputable def tw8814203860942876300:Unit:=()
noncomputable def tw3526976154397207376:Unit:=()
noncomputable def tw15990527747715943194:Unit:=()
noncomputable def tw8369882821202440616:Unit:=()
noncomputable def tw1991436297635696671:Unit:=()
noncomputable def tw14836074604646073459:Unit:=()
noncomputable def tw14877134280049852543:Unit:=()
noncomputable def tw8617288126527377900:Unit:=()
noncomputable def tw10635912577303164915:Unit:=()
noncomputable def tw8616248585167491843:Unit:=()
noncomputable def tw4533161637918111599:Unit:=()
noncomputable def tw16093860801446291802:Unit:=()
noncomputable def tw4916462076225943464:Unit:=()
noncomputable def tw11205765488957636852:Unit:=()
noncomputable def tw8893606282822394024:Unit:=()
noncomputable def tw4216918525387468259:Unit:=()
noncomputable def tw15286477374323830178:Unit:=()
noncomputable def tw11493403073428668389:Unit:=()
noncomputable def tw1166093448193093468:Unit:=()
noncomputable def tw2960408296641450391:Unit:=()
noncomputable def tw14171739958970603516:Unit:=()
noncomputable def tw3184896936251477496:Unit:=()
noncomputable def tw9340351484782735930:Unit:=()
noncomputable def tw6266978570932309078:Unit:=()
noncomputable def tw10915268292991314256:Unit:=()
noncomputable def tw7631651180511582112:Unit:=()
noncomputable def tw9601375652274258614:Unit:=()
noncomputable def tw6271220248490771999:Unit:=()
noncomputable def tw13767097219719543273:Unit:=()
noncomputable def tw11299842235431289099:Unit:=()
noncomputable def tw16378204965483428081:Unit:=()
noncomputable def tw17644800680504241816:Unit:=()
noncomputable def tw13532451879409620574:Unit:=()
noncomputable def tw9647581169703105944:Unit:=()
noncomputable def tw6787940926751318603:Unit:=()
noncomputable def tw229633763145138765:Unit:=()
noncomputable def tw1975962718867096063:Unit:=()
noncomputable def tw5355620738819612354:Unit:=()
noncomputable def tw17937998846250111544:Unit:=()
noncomputable def tw7449264022929577073:Unit:=()
noncomputable def tw6232745045944527841:Unit:=()
noncomputable def tw16464678611443901391:Unit:=()
noncomputable def tw5463752058724134206:Unit:=()
noncomputable def tw9959676506541583143:Unit:=()
noncomputable def tw8383007710877865622:Unit:=()
noncomputable def tw4613592259079360800:Unit:=()
noncomputable def tw8324271127966479098:Unit:=()
noncomputable def tw15183519896676755843:Unit:=()
noncomputable def tw14869962096537250941:Unit:=()
noncomputable def tw7384355238528193301:Unit:=()
noncomputable def tw9303343171502924201:Unit:=()
noncomputable def tw16109834241380899498:Unit:=()
noncomputable def tw8365908302584559762:Unit:=()
noncomputable def tw4945450837131590722:Unit:=()
noncomputable def tw7794903620718835767:Unit:=()
noncomputable def tw7355578776319115448:Unit:=()
noncomputable def tw3512926414876861554:Unit:=()
noncomputable def tw3706765951436145110:Unit:=()
noncomputable def tw9965944803324411047:Unit:=()
noncomputable def tw10718441438536617437:Unit:=()
noncomputable def tw5858434637223679802:Unit:=()
noncomputable def tw2162315384877685876:Unit:=()
noncomputable def tw9851342015352715989:Unit:=()
noncomputable def tw16965915225302773985:Unit:=()
noncomputable def tw16787857935956181712:Unit:=()
noncomputable def tw456488599110110321:Unit:=()
noncomputable def tw17327069450026142755:Unit:=()
noncomputable def tw66146402062051455:Unit:=()
noncomputable def tw5842465962689642736:Unit:=()
noncomputable def tw6699333129815593640:Unit:=()
noncomputable def tw8784884120410809470:Unit:=()
noncomputable def tw5632279954327944568:Unit:=()
noncomputable def tw2086067152746692851:Unit:=()
noncomputable def tw4579351776057566098:Unit:=()
noncomputable def tw147244565353945527:Unit:=()
noncomputable def tw17749320830024544009:Unit:=()
noncomputable def tw8630948772548079111:Unit:=()
noncomputable def tw11694527155930476743:Unit:=()
noncomputable def tw5786841888752513580:Unit:=()
noncomputable def tw11327166322862202644:Unit:=()
noncomputable def tw8139991916398910247:Unit:=()
noncomputable def tw3607757869398739371:Unit:=()
noncomputable def tw13086508577278976033:Unit:=()
noncomputable def tw2994243679671084127:Unit:=()
noncomputable def tw7664837116306893394:Unit:=()
noncomputable def tw13553777324962894638:Unit:=()
noncomputable def tw18244693831236405441:Unit:=()
noncomputable def tw12568719594650215072:Unit:=()
noncomputable def tw12195845004457538812:Unit:=()
noncomputable def tw450566293111596601:Unit:=()
noncomputable def tw1086730040118203359:Unit:=()
noncomputable def tw11971060810190870211:Unit:=()
noncomputable def tw14265886115741676714:Unit:=()
noncomputable def tw15814978954242197090:Unit:=()
noncomputable def tw14049617743648569354:Unit:=()
noncomputable def tw8365940954090837062:Unit:=()
noncomputable def tw3010010125442715928:Unit:=()
noncomputable def tw12153119462592123140:Unit:=()
noncomputable def tw18060378747003327808:Unit:=()
noncomputable def tw17663401476462749924:Unit:=()
noncomputable def tw13580637085821806342:Unit:=()
noncomputable def tw17397868773041539420:Unit:=()
noncomputable def tw6998724175866264563:Unit:=()
noncomputable def tw15431509759338673329:Unit:=()
noncomputable def tw586660009103545074:Unit:=()
noncomputable def tw13288247312464782948:Unit:=()
noncomputable def tw6229127843755305460:Unit:=()
noncomputable def tw15933669522763427100:Unit:=()
noncomputable def tw17086831067594837041:Unit:=()
noncomputable def tw17817672843972443802:Unit:=()
noncomputable def tw2450731623478586017:Unit:=()
noncomputable def tw6070843844151641835:Unit:=()
noncomputable def tw6570754329121461074:Unit:=()
noncomputable def tw14256858335036991762:Unit:=()
noncomputable def tw2297278467346979442:Unit:=()
noncomputable def tw14021506704021407329:Unit:=()
noncomputable def tw12033325592493382631:Unit:=()
noncomputable def tw5957981330778373241:Unit:=()
noncomputable def tw3854507430772221703:Unit:=()
noncomputable def tw15717578419825537414:Unit:=()
noncomputable def tw11130635591316919351:Unit:=()
noncomputable def tw3768632325163163290:Unit:=()
noncomputable def tw16114997541717176945:Unit:=()
noncomputable def tw5713134025957819911:Unit:=()
noncomputable def tw5832529224080968223:Unit:=()
noncomputable def tw15496339003444846995:Unit:=()
noncomputable def tw8649641536452940429:Unit:=()
noncomputable def tw12181880506331252539:Unit:=()
noncomputable def tw8913490652308779330:Unit:=()
noncomputable def tw15042913808044779731:Unit:=()
noncomputable def tw6796280187500169620:Unit:=()
noncomputable def tw13281185973263831231:Unit:=()
noncomputable def tw4167873732102046002:Unit:=()
noncomputable def tw9644700992709213867:Unit:=()
noncomputable def tw10171888534071045977:Unit:=()
noncomputable def tw11665937589692095166:Unit:=()
noncomputable def tw2790209615863734683:Unit:=()
noncomputable def tw858624779577603493:Unit:=()
noncomputable def tw9787894713971214335:Unit:=()
noncomputable def tw506260006558688306:Unit:=()
noncomputable def tw3618792668085338323:Unit:=()
noncomputable def tw1529929094772012680:Unit:=()
noncomputable def tw17112410055669918829:Unit:=()
noncomputable def tw9650376670541672395:Unit:=()
noncomputable def tw15129045094033958076:Unit:=()
noncomputable def tw9988091171469972317:Unit:=()
noncomputable def tw14825972623772277822:Unit:=()
noncomputable def tw5257190409283996845:Unit:=()
noncomputable def tw9110788911209049125:Unit:=()
noncomputable def tw1860071984516061292:Unit:=()
noncomputable def tw17907985078291743053:Unit:=()
noncomputable def tw13632929332889061614:Unit:=()
noncomputable def tw12458932404577731194:Unit:=()
noncomputable def tw11253007290062326450:Unit:=()
noncomputable def tw4943662768989129479:Unit:=()
noncomputable def tw15144564331087935590:Unit:=()
noncomputable def tw6953837140495925483:Unit:=()
noncomputable def tw5142340377108044016:Unit:=()
noncomputable def tw12845530577703772682:Unit:=()
noncomputable def tw9251653663141349365:Unit:=()
noncomputable def tw2708242338977404596:Unit:=()
noncomputable def tw4537091472121460432:Unit:=()
noncomputable def tw14475336112670798154:Unit:=()
noncomputable def tw6681475475374718564:Unit:=()
noncomputable def tw15642061354960184956:Unit:=()
noncomputable def tw3109580303389470036:Unit:=()
noncomputable def tw8348670129241066278:Unit:=()
noncomputable def tw9202038233954141389:Unit:=()
noncomputable def tw17990578333583325575:Unit:=()
noncomputable def tw15651217188394554712:Unit:=()
noncomputable def tw13500984788753645946:Unit:=()
noncomputable def tw14604978384666944664:Unit:=()
noncomputable def tw6051175706957667467:Unit:=()
noncomputable def tw11583949306014229388:Unit:=()
noncomputable def tw13812649335078456718:Unit:=()
noncomputable def tw18175395463231441849:Unit:=()
noncomputable def tw13600345282538254599:Unit:=()
noncomputable def tw6825298911270655418:Unit:=()
noncomputable def tw16359146874195061359:Unit:=()
noncomputable def tw7374054090948998381:Unit:=()
noncomputable def tw9309044252546290414:Unit:=()
noncomputable def tw4435102477737431281:Unit:=()
noncomputable def tw14185616783569778018:Unit:=()
noncomputable def tw6194182178128151096:Unit:=()
noncomputable def tw14657720415984289487:Unit:=()
noncomputable def tw7741712601818425065:Unit:=()
noncomputable def tw14696819563185545092:Unit:=()
noncomputable def tw1630692200159696103:Unit:=()
noncomputable def tw12223826999441342688:Unit:=()
noncomputable def tw14386443537312851053:Unit:=()
noncomputable def tw13199911013385424982:Unit:=()
noncomputable def tw1161466916885492986:Unit:=()
noncomputable def tw5109578607405692868:Unit:=()
noncomputable def tw17005695329154071549:Unit:=()
noncomputable def tw8664948487073840263:Unit:=()
noncomputable def tw15424085804661707102:Unit:=()
noncomputable def tw15357657124057342891:Unit:=()
noncomputable def tw15364101038502045731:Unit:=()
noncomputable def tw10047234175416431952:Unit:=()
noncomputable def tw4060103346417199824:Unit:=()
noncomputable def tw14284104826563878630:Unit:=()
noncomputable def tw17991538741959973892:Unit:=()
noncomputable def tw18349063219886954597:Unit:=()
noncomputable def tw4935442185875798020:Unit:=()
noncomputable def tw6307182211489166629:Unit:=()
noncomputable def tw17254276661164901235:Unit:=()
noncomputable def tw17717969045205608000:Unit:=()
noncomputable def tw15255531437479463856:Unit:=()
noncomputable def tw5272120515744764266:Unit:=()
noncomputable def tw1607324520425315666:Unit:=()
noncomputable def tw9803459153496301608:Unit:=()
noncomputable def tw9221092248311835334:Unit:=()
noncomputable def tw9256836125235277154:Unit:=()
noncomputable def tw5236193268056845723:Unit:=()
noncomputable def tw16713223460916486858:Unit:=()
noncomputable def tw7659772853672727329:Unit:=()
noncomputable def tw6557704072405714478:Unit:=()
noncomputable def tw1170816229519232131:Unit:=()
noncomputable def tw13168300667561795003:Unit:=()
noncomputable def tw17410932085169027749:Unit:=()
noncomputable def tw18036259968518254001:Unit:=()
noncomputable def tw9201019379050049917:Unit:=()
noncomputable def tw2584775279409197836:Unit:=()
noncomputable def tw5578359700353393542:Unit:=()
noncomputable def tw11286824506290955187:Unit:=()
noncomputable def tw3108275850965741979:Unit:=()
noncomputable def tw1563342592343864396:Unit:=()
noncomputable def tw11312204343094833317:Unit:=()
noncomputable def tw16344935098759040196:Unit:=()
noncomputable def tw1214955250228728169:Unit:=()
noncomputable def tw17197575095000023758:Unit:=()
noncomputable def tw15811523262615508665:Unit:=()
noncomputable def tw5244362726480435663:Unit:=()
noncomputable def tw16631816217956898124:Unit:=()
noncomputable def tw13802213658615849536:Unit:=()
noncomputable def tw14850338756554628130:Unit:=()
noncomputable def tw15846442862009770482:Unit:=()
noncomputable def tw6122141055029354334:Unit:=()
noncomputable def tw9065390443140651243:Unit:=()
noncomputable def tw103438380741098650:Unit:=()
noncomputable def tw10010381242698409496:Unit:=()
noncomputable def tw16635229707471898436:Unit:=()
noncomputable def tw16403607943795840447:Unit:=()
noncomputable def tw2327814059200444192:Unit:=()
noncomputable def tw14430206991035417261:Unit:=()
noncomputable def tw7623799953728650702:Unit:=()
noncomputable def tw15403469638989990133:Unit:=()
noncomputable def tw13050855943481253443:Unit:=()
noncomputable def tw14278821175805531194:Unit:=()
noncomputable def tw18160067324840572074:Unit:=()
noncomputable def tw14350255125630319068:Unit:=()
noncomputable def tw8357180800316186929:Unit:=()
noncomputable def tw7820056569542269403:Unit:=()
noncomputable def tw17227643006441422316:Unit:=()
noncomputable def tw12744608996160878114:Unit:=()
noncomputable def tw16279779318503257094:Unit:=()
noncomputable def tw1089203608125165245:Unit:=()
noncomputable def tw10374334011083903370:Unit:=()
noncomputable def tw371373985212516622:Unit:=()
noncomputable def tw3633855246386670086:Unit:=()
noncomputable def tw11356122662342934088:Unit:=()
noncomputable def tw14143442566856285631:Unit:=()
noncomputable def tw16842942274725564665:Unit:=()
noncomputable def tw1571365935585932802:Unit:=()
noncomputable def tw17648242317482072747:Unit:=()
noncomputable def tw6551145743264851178:Unit:=()
noncomputable def tw3937519098633994878:Unit:=()
noncomputable def tw18101698570325179797:Unit:=()
noncomputable def tw17013584865608615477:Unit:=()
noncomputable def tw5207999639561217385:Unit:=()
noncomputable def tw498212787085756448:Unit:=()
noncomputable def tw16603764573354806917:Unit:=()
noncomputable def tw10872373090462077821:Unit:=()
noncomputable def tw1243877010921368496:Unit:=()
noncomputable def tw168105323487944722:Unit:=()
noncomputable def tw7636767388721985923:Unit:=()
noncomputable def tw5243454856620469738:Unit:=()
noncomputable def tw1158746263177362064:Unit:=()
noncomputable def tw9083143559182262529:Unit:=()
noncomputable def tw15448491126154301355:Unit:=()
noncomputable def tw9111283731663052246:Unit:=()
noncomputable def tw12192622604150566038:Unit:=()
noncomputable def tw7886229429649672473:Unit:=()
noncomputable def tw2015405985903855714:Unit:=()
noncomputable def tw14141332812634816319:Unit:=()
noncomputable def tw17467198571929806991:Unit:=()
noncomputable def tw5975635700836180867:Unit:=()
noncomputable def tw7494950699155996996:Unit:=()
noncomputable def tw13009994255694372840:Unit:=()
noncomputable def tw14737416628271926022:Unit:=()
noncomputable def tw6102407773278954359:Unit:=()
noncomputable def tw16358624882676546157:Unit:=()
noncomputable def tw51643239025721338:Unit:=()
noncomputable def tw12185263431496547258:Unit:=()
noncomputable def tw6389830694825391578:Unit:=()
noncomputable def tw11878075304287429354:Unit:=()
noncomputable def tw16716696374818598830:Unit:=()
noncomputable def tw15695385928093804860:Unit:=()
noncomputable def tw10646434524678199338:Unit:=()
noncomputable def tw18373970604067451916:Unit:=()
noncomputable def tw15270057435569183676:Unit:=()
noncomputable def tw352381432290573343:Unit:=()
noncomputable def tw1802543042131348310:Unit:=()
noncomputable def tw5858756329053810534:Unit:=()
noncomputable def tw5292390123827083669:Unit:=()
noncomputable def tw10247579022828249221:Unit:=()
noncomputable def tw10303092733775572852:Unit:=()
noncomputable def tw18178086635563749238:Unit:=()
noncomputable def tw15232761756142691842:Unit:=()
noncomputable def tw15329718611416116228:Unit:=()
noncomputable def tw8922373609554533689:Unit:=()
noncomputable def tw14273902795769540415:Unit:=()
noncomputable def tw12061896904154927040:Unit:=()
noncomputable def tw9487576764920006755:Unit:=()
noncomputable def tw12536181025991958201:Unit:=()
noncomputable def tw18445194307281622792:Unit:=()
noncomputable def tw17356728909577642954:Unit:=()
noncomputable def tw12969060722582135873:Unit:=()
noncomputable def tw11581423473797401265:Unit:=()
noncomputable def tw1838175002891641234:Unit:=()
noncomputable def tw14656004419047834434:Unit:=()
noncomputable def tw7668371964656339648:Unit:=()
noncomputable def tw13439352470742129891:Unit:=()
noncomputable def tw16955273121204203131:Unit:=()
noncomputable def tw3142886874077562050:Unit:=()
noncomputable def tw13777316177683611041:Unit:=()
noncomputable def tw15584303431290877559:Unit:=()
noncomputable def tw17554859565892659196:Unit:=()
noncomputable def tw6624092704595989486:Unit:=()
noncomputable def tw2479359597421464205:Unit:=()
noncomputable def tw8559442646275340333:Unit:=()
noncomputable def tw5332913602216169409:Unit:=()
noncomputable def tw9251406451398115118:Unit:=()
noncomputable def tw14183524311178808315:Unit:=()
noncomputable def tw10955293967616216184:Unit:=()
noncomputable def tw5473779903697229597:Unit:=()
noncomputable def tw7749035697569813187:Unit:=()
noncomputable def tw315138935631973480:Unit:=()
noncomputable def tw16846513968043273324:Unit:=()
noncomputable def tw7054647165426726540:Unit:=()
noncomputable def tw520209093151301352:Unit:=()
noncomputable def tw8069378437530158527:Unit:=()
noncomputable def tw376828026024927265:Unit:=()
noncomputable def tw5107424814285175097:Unit:=()
noncomputable def tw3969841883252998645:Unit:=()
noncomputable def tw11151313170470546816:Unit:=()
noncomputable def tw1732164613521262050:Unit:=()
noncomputable def tw6514208255243868135:Unit:=()
noncomputable def tw16321640109939548872:Unit:=()
noncomputable def tw11985986194655036346:Unit:=()
noncomputable def tw9256254586232377275:Unit:=()
noncomputable def tw5787294709739119360:Unit:=()
noncomputable def tw13822398941160973351:Unit:=()
noncomputable def tw17929773191953503675:Unit:=()
noncomputable def tw14184811906609926365:Unit:=()
noncomputable def tw18296071483036204091:Unit:=()
noncomputable def tw4841204739918398566:Unit:=()
noncomputable def tw18300617588182677510:Unit:=()
noncomputable def tw9020286408774134652:Unit:=()
noncomputable def tw7325033733254566081:Unit:=()
noncomputable def tw4324487808941953161:Unit:=()
noncomputable def tw13477649488815024457:Unit:=()
noncomputable def tw3513565023180951720:Unit:=()
noncomputable def tw6441533967743408767:Unit:=()
noncomputable def tw10080663846899537280:Unit:=()
noncomputable def tw15130941775225963148:Unit:=()
noncomputable def tw16424901291127543682:Unit:=()
noncomputable def tw17547985792907726287:Unit:=()
noncomputable def tw11484951710729844754:Unit:=()
noncomputable def tw12810009344941437231:Unit:=()
noncomputable def tw17890549563735939355:Unit:=()
noncomputable def tw11570140564298819331:Unit:=()
noncomputable def tw9272536310830129488:Unit:=()
noncomputable def tw6083710526588745283:Unit:=()
noncomputable def tw3040464036053918986:Unit:=()
noncomputable def tw4435352505721680528:Unit:=()
noncomputable def tw12842387230316112416:Unit:=()
noncomputable def tw15110971780236383181:Unit:=()
noncomputable def tw5836622741725941323:Unit:=()
noncomputable def tw591424340902333440:Unit:=()
noncomputable def tw10253860136735540166:Unit:=()
noncomputable def tw15930048776472842419:Unit:=()
noncomputable def tw8582799434710396515:Unit:=()
noncomputable def tw17050649367285636962:Unit:=()
noncomputable def tw17555883786851672577:Unit:=()
noncomputable def tw12254601027926579283:Unit:=()
noncomputable def tw12557058844140114799:Unit:=()
noncomputable def tw16650041138977549065:Unit:=()
noncomputable def tw3990569927411390612:Unit:=()
noncomputable def tw203739685240731318:Unit:=()
noncomputable def tw16030034889827976721:Unit:=()
noncomputable def tw694319082295385588:Unit:=()
noncomputable def tw6206805233142032422:Unit:=()
noncomputable def tw4888576229048532776:Unit:=()
noncomputable def tw9426874796233898873:Unit:=()
noncomputable def tw5550225904221038712:Unit:=()
noncomputable def tw3712559950079315827:Unit:=()
noncomputable def tw8422144901391324327:Unit:=()
noncomputable def tw14672677653136647950:Unit:=()
noncomputable def tw1246354634474728704:Unit:=()
noncomputable def tw18065072400506799070:Unit:=()
noncomputable def tw14619121206365788787:Unit:=()
noncomputable def tw11403623132595970824:Unit:=()
noncomputable def tw12057735398705557241:Unit:=()
noncomputable def tw9150493108725957175:Unit:=()
noncomputable def tw7178394409821870456:Unit:=()
noncomputable def tw18238907829002714696:Unit:=()
noncomputable def tw7562927071290212217:Unit:=()
noncomputable def tw5716053625836393614:Unit:=()
noncomputable def tw3968478586661254052:Unit:=()
noncomputable def tw8685951467477699410:Unit:=()
noncomputable def tw4550431395630184647:Unit:=()
noncomputable def tw10607968411401338490:Unit:=()
noncomputable def tw6077472387439818974:Unit:=()
noncomputable def tw6665599005214378296:Unit:=()
noncomputable def tw15795051633924262645:Unit:=()
noncomputable def tw4662606924615416204:Unit:=()
noncomputable def tw3634773502745749046:Unit:=()
noncomputable def tw6988588671532233604:Unit:=()
noncomputable def tw11043312417753894541:Unit:=()
noncomputable def tw5570481120811934549:Unit:=()
noncomputable def tw12828104176545691370:Unit:=()
noncomputable def tw8973672898923798940:Unit:=()
noncomputable def tw17072717694014814283:Unit:=()
noncomputable def tw12261559034789950801:Unit:=()
noncomputable def tw5360939367586084299:Unit:=()
noncomputable def tw768473498292100475:Unit:=()
noncomputable def tw2547695691881775613:Unit:=()
noncomputable def tw12844316621140100949:Unit:=()
noncomputable def tw3121874703883193160:Unit:=()
noncomputable def tw3440742255226426012:Unit:=()
noncomputable def tw13921601535410214317:Unit:=()
noncomputable def tw6075856496343425581:Unit:=()
noncomputable def tw10679941436952835342:Unit:=()
noncomputable def tw2363207110246197796:Unit:=()
noncomputable def tw12767559985122987055:Unit:=()
noncomputable def tw8647924389827450233:Unit:=()
noncomputable def tw10309904958962395642:Unit:=()
noncomputable def tw8786530385440474298:Unit:=()
noncomputable def tw18243863948387645137:Unit:=()
noncomputable def tw3194267922211027519:Unit:=()
noncomputable def tw15510877246470986507:Unit:=()
noncomputable def tw6787933980813351170:Unit:=()
noncomputable def tw5183290840361389243:Unit:=()
noncomputable def tw4548846075095714646:Unit:=()
noncomputable def tw3334241386835922919:Unit:=()
noncomputable def tw15747091560154151347:Unit:=()
noncomputable def tw2732845732819790240:Unit:=()
noncomputable def tw9320470727340063635:Unit:=()
noncomputable def tw2206812239360062760:Unit:=()
noncomputable def tw17671345509242387743:Unit:=()
noncomputable def tw14162531368609859389:Unit:=()
noncomputable def tw1734027770686345054:Unit:=()
noncomputable def tw5662157663446931166:Unit:=()
noncomputable def tw15748004084934609398:Unit:=()
noncomputable def tw8689677414372038444:Unit:=()
noncomputable def tw5906104801141522922:Unit:=()
noncomputable def tw659749533465352966:Unit:=()
noncomputable def tw12238826684756483089:Unit:=()
noncomputable def tw18031158474308785565:Unit:=()
noncomputable def tw3529972613464442390:Unit:=()
noncomputable def tw17225471818850462785:Unit:=()
noncomputable def tw3466990400386410178:Unit:=()
noncomputable def tw12964868507252345014:Unit:=()
noncomputable def tw1305478335086669314:Unit:=()
noncomputable def tw3976746346012725438:Unit:=()
noncomputable def tw12198758120180916565:Unit:=()
noncomputable def tw8471306555298418077:Unit:=()
noncomputable def tw17443877281131276238:Unit:=()
end PySem.W.Fast
open PySem PySem.W PyProof.Rows
set_option maxRecDepth 100000 in
set_option maxHeartbeats 0 in
theorem PySem.Challenge.cw_beamtender_k08_every_door_holds : PySem.Challenge.rw_beamtender_k08_every_door.Holds := by
  w_on; o_law; z_head; (case hw => w_witness2)
  k_fill
  intro w0 s0 s1 mg0 mb0 G0 y0 fa0 o0 pm0 cd0 doc0 dV0 kV0 ho0 hd0 hcd0 hD0 hmg0 hg0 args0 vals0 as0 L0 hpre0 hlay0 hrd0 hwl0 hlo0
  z_open y0 L0 KX0 ZH0 ZN0 ZT0
  clear ZH0 ZN0 ZT0
  refine Bt.walkZ (l := PySem.Challenge.rw_beamtender_k08_every_door) rfl rfl ?F w0 s0 s1 mg0 mb0 G0 KX0 fa0 o0 pm0 cd0 doc0 dV0 kV0 ho0 hd0 hcd0 hD0 hmg0 hg0 args0 vals0 as0 hpre0 hlay0 hrd0 hwl0 hlo0
  case F =>
    clear y0 L0 KX0 G0 ho0 hd0 hcd0 hD0 hmg0 hg0 hpre0 hlay0 hrd0 hwl0 hlo0
    intro w mg fa h KX G hmg
    refine' Bt.all_mk KX G hmg ?a_Beam ?a_Play ?a_BadStanding ?a_BeamError ?a_BeamError_init ?i_BeamError_init ?l_BeamError_init ?c_BeamError_init ?k_BeamError_init ?dt_BeamError_init ?a_BadStanding_init ?i_BadStanding_init ?l_BadStanding_init ?c_BadStanding_init ?k_BadStanding_init ?dt_BadStanding_init ?a_Beam_init ?i_Beam_init ?l_Beam_init ?c_Beam_init ?k_Beam_init ?a_outside ?l_outside ?c_outside ?k_outside ?a_check_bounds ?l_check_bounds ?c_check_bounds ?k_check_bounds ?a_check_hefts ?l_check_hefts ?c_check_hefts ?k_check_hefts ?a_check_standings ?l_check_standings ?c_check_standings ?k_check_standings ?a_as_standing ?l_as_standing ?c_as_standing ?k_as_standing ?a_mirrored ?l_mirrored ?c_mirrored ?k_mirrored ?a_tilt ?l_tilt ?c_tilt ?k_tilt ?a_side ?l_side ?c_side ?k_side ?a_past ?l_past ?c_past ?k_past ?a_keeps ?l_keeps ?c_keeps ?k_keeps ?a_in_hand ?l_in_hand ?c_in_hand ?k_in_hand ?a_loads ?l_loads ?c_loads ?k_loads ?a_refusal ?l_refusal ?c_refusal ?k_refusal ?a_moved ?l_moved ?c_moved ?k_moved ?a_moves ?l_moves ?c_moves ?k_moves ?a_fewest ?l_fewest ?c_fewest ?k_fewest ?a_next_move ?l_next_move ?c_next_move ?k_next_move ?a_least ?l_least ?c_least ?k_least ?a_Play_init ?i_Play_init ?l_Play_init ?c_Play_init ?k_Play_init ?a_Play_trail ?i_Play_trail ?l_Play_trail ?c_Play_trail ?k_Play_trail ?a_Play_fewest ?i_Play_fewest ?l_Play_fewest ?c_Play_fewest ?k_Play_fewest ?a_Play_next_move ?i_Play_next_move ?l_Play_next_move ?c_Play_next_move ?k_Play_next_move ?a_Play_least ?i_Play_least ?l_Play_least ?c_Play_least ?k_Play_least ?a_write_standing ?l_write_standing ?c_write_standing ?k_write_standing ?a_write_beam ?l_write_beam ?c_write_beam ?k_write_beam ?a_w_at ?l_w_at ?c_w_at ?k_w_at ?a_w_whole ?l_w_whole ?c_w_whole ?k_w_whole ?a_w_figs ?l_w_figs ?c_w_figs ?k_w_figs ?a_w_shape ?l_w_shape ?c_w_shape ?k_w_shape ?a_w_put ?l_w_put ?c_w_put ?k_w_put ?a_w_same ?l_w_same ?c_w_same ?k_w_same ?a_w_looked ?l_w_looked ?c_w_looked ?k_w_looked ?a_w_asked ?l_w_asked ?c_w_asked ?k_w_asked ?a_w_refused ?l_w_refused ?c_w_refused ?k_w_refused ?a_w_bad ?l_w_bad ?c_w_bad ?k_w_bad ?a_law ?l_law ?c_law ?k_law ?pg_Beam ?hd_Beam ?po_Beam ?sa_Beam ?mk_Beam ?kc_Beam ?na_Beam_notches ?na_Beam_room ?na_Beam_hefts ?na_Beam_limit ?pg_Play ?hd_Play ?po_Play ?sa_Play ?mk_Play ?kc_Play ?na_Play_beam ?na_Play_start ?na_Play_standing ?na_Play_made ?ob_BadStanding ?mv_BadStanding ?sa_BadStanding ?kc_BadStanding ?na_BadStanding_reason ?na_BadStanding_word ?xw1 ?xw2 ?cx_BeamError ?ty_BeamError ?cx_BadStanding ?ty_BadStanding ?be_BeamError ?xp_BadStanding ?xq_BadStanding ?xr_BadStanding ?xh_BadStanding ?xk_BadStanding ?xo_BadStanding ?sb_BadStanding_BeamError ?ga_BeamError ?rd_BeamError ?fd_BeamError ?a_fewest_layers ?a_next_move_layers ?a_least_limits ?n_tuple ?n_len ?n_range ?n_sum ?n_zip ?n_abs ?n_list ?n_isinstance ?n_int ?n_bool ?n_min ?g_MOST_NOTCHES ?g_MOST_ROOM ?g_MOST_LIMIT ?g_MOST_WEIGHTS ?g_MOST_HEFT ?g_MOST_STANDINGS
    (case a_Beam => k_is)
    (case a_Play => k_is)
    (case a_BadStanding => k_is)
    (case a_BeamError => k_is)
    (case a_BeamError_init => k_is)
    (case i_BeamError_init => k_is)
    (case l_BeamError_init => k_is)
    (case c_BeamError_init => k_is)
    (case k_BeamError_init => k_is)
    (case dt_BeamError_init => k_is)
    (case a_BadStanding_init => k_is)
    (case i_BadStanding_init => k_is)
    (case l_BadStanding_init => k_is)
    (case c_BadStanding_init => k_is)
    (case k_BadStanding_init => k_is)
    (case dt_BadStanding_init => k_is)
    (case a_Beam_init => k_is)
    (case i_Beam_init => k_is)
    (case l_Beam_init => k_is)
    (case c_Beam_init => k_is)
    (case k_Beam_init => k_is)
    (case a_outside => k_is)
    (case l_outside => k_is)
    (case c_outside => k_is)
    (case k_outside => k_is)
    (case a_check_bounds => k_is)
    (case l_check_bounds => k_is)
    (case c_check_bounds => k_is)
    (case k_check_bounds => k_is)
    (case a_check_hefts => k_is)
    (case l_check_hefts => k_is)
    (case c_check_hefts => k_is)
    (case k_check_hefts => k_is)
    (case a_check_standings => k_is)
    (case l_check_standings => k_is)
    (case c_check_standings => k_is)
    (case k_check_standings => k_is)
    (case a_as_standing => k_is)
    (case l_as_standing => k_is)
    (case c_as_standing => k_is)
    (case k_as_standing => k_is)
    (case a_mirrored => k_is)
    (case l_mirrored => k_is)
    (case c_mirrored => k_is)
    (case k_mirrored => k_is)
    (case a_tilt => k_is)
    (case l_tilt => k_is)
    (case c_tilt => k_is)
    (case k_tilt => k_is)
    (case a_side => k_is)
    (case l_side => k_is)
    (case c_side => k_is)
    (case k_side => k_is)
    (case a_past => k_is)
    (case l_past => k_is)
    (case c_past => k_is)
    (case k_past => k_is)
    (case a_keeps => k_is)
    (case l_keeps => k_is)
    (case c_keeps => k_is)
    (case k_keeps => k_is)
    (case a_in_hand => k_is)
    (case l_in_hand => k_is)
    (case c_in_hand => k_is)
    (case k_in_hand => k_is)
    (case a_loads => k_is)
    (case l_loads => k_is)
    (case c_loads => k_is)
    (case k_loads => k_is)
    (case a_refusal => k_is)
    (case l_refusal => k_is)
    (case c_refusal => k_is)
    (case k_refusal => k_is)
    (case a_moved => k_is)
    (case l_moved => k_is)
    (case c_moved => k_is)
    (case k_moved => k_is)
    (case a_moves => k_is)
    (case l_moves => k_is)
    (case c_moves => k_is)
    (case k_moves => k_is)
    (case a_fewest => k_is)
    (case l_fewest => k_is)
    (case c_fewest => k_is)
    (case k_fewest => k_is)
    (case a_next_move => k_is)
    (case l_next_move => k_is)
    (case c_next_move => k_is)
    (case k_next_move => k_is)
    (case a_least => k_is)
    (case l_least => k_is)
    (case c_least => k_is)
    (case k_least => k_is)
    (case a_Play_init => k_is)
    (case i_Play_init => k_is)
    (case l_Play_init => k_is)
    (case c_Play_init => k_is)
    (case k_Play_init => k_is)
    (case a_Play_trail => k_is)
    (case i_Play_trail => k_is)
    (case l_Play_trail => k_is)
    (case c_Play_trail => k_is)
    (case k_Play_trail => k_is)
    (case a_Play_fewest => k_is)
    (case i_Play_fewest => k_is)
    (case l_Play_fewest => k_is)
    (case c_Play_fewest => k_is)
    (case k_Play_fewest => k_is)
    (case a_Play_next_move => k_is)
    (case i_Play_next_move => k_is)
    (case l_Play_next_move => k_is)
    (case c_Play_next_move => k_is)
    (case k_Play_next_move => k_is)
    (case a_Play_least => k_is)
    (case i_Play_least => k_is)
    (case l_Play_least => k_is)
    (case c_Play_least => k_is)
    (case k_Play_least => k_is)
    (case a_write_standing => k_is)
    (case l_write_standing => k_is)
    (case c_write_standing => k_is)
    (case k_write_standing => k_is)
    (case a_write_beam => k_is)
    (case l_write_beam => k_is)
    (case c_write_beam => k_is)
    (case k_write_beam => k_is)
    (case a_w_at => k_is)
    (case l_w_at => k_is)
    (case c_w_at => k_is)
    (case k_w_at => k_is)
    (case a_w_whole => k_is)
    (case l_w_whole => k_is)
    (case c_w_whole => k_is)
    (case k_w_whole => k_is)
    (case a_w_figs => k_is)
    (case l_w_figs => k_is)
    (case c_w_figs => k_is)
    (case k_w_figs => k_is)
    (case a_w_shape => k_is)
    (case l_w_shape => k_is)
    (case c_w_shape => k_is)
    (case k_w_shape => k_is)
    (case a_w_put => k_is)
    (case l_w_put => k_is)
    (case c_w_put => k_is)
    (case k_w_put => k_is)
    (case a_w_same => k_is)
    (case l_w_same => k_is)
    (case c_w_same => k_is)
    (case k_w_same => k_is)
    (case a_w_looked => k_is)
    (case l_w_looked => k_is)
    (case c_w_looked => k_is)
    (case k_w_looked => k_is)
    (case a_w_asked => k_is)
    (case l_w_asked => k_is)
    (case c_w_asked => k_is)
    (case k_w_asked => k_is)
    (case a_w_refused => k_is)
    (case l_w_refused => k_is)
    (case c_w_refused => k_is)
    (case k_w_refused => k_is)
    (case a_w_bad => k_is)
    (case l_w_bad => k_is)
    (case c_w_bad => k_is)
    (case k_w_bad => k_is)
    (case a_law => k_is)
    (case l_law => k_is)
    (case c_law => k_is)
    (case k_law => k_is)
    (case pg_Beam => k_is)
    (case hd_Beam => k_is)
    (case po_Beam => k_is)
    (case sa_Beam => k_is)
    (case mk_Beam => k_is)
    (case kc_Beam => k_is)
    (case na_Beam_notches => k_is)
    (case na_Beam_room => k_is)
    (case na_Beam_hefts => k_is)
    (case na_Beam_limit => k_is)
    (case pg_Play => k_is)
    (case hd_Play => k_is)
    (case po_Play => k_is)
    (case sa_Play => k_is)
    (case mk_Play => k_is)
    (case kc_Play => k_is)
    (case na_Play_beam => k_is)
    (case na_Play_start => k_is)
    (case na_Play_standing => k_is)
    (case na_Play_made => k_is)
    (case ob_BadStanding => k_is)
    (case mv_BadStanding => first | exact Or.inl rfl | exact Or.inr ⟨_, rfl⟩)
    (case sa_BadStanding => k_is)
    (case kc_BadStanding => k_is)
    (case na_BadStanding_reason => k_is)
    (case na_BadStanding_word => k_is)
    (case xw1 => k_is)
    (case xw2 => k_is)
    (case cx_BeamError => k_is)
    (case ty_BeamError => k_is)
    (case cx_BadStanding => k_is)
    (case ty_BadStanding => k_is)
    (case be_BeamError => k_is)
    (case xp_BadStanding => k_is)
    (case xq_BadStanding => k_is)
    (case xr_BadStanding => k_is)
    (case xh_BadStanding => k_is)
    (case xk_BadStanding => k_is)
    (case xo_BadStanding => k_is)
    (case sb_BadStanding_BeamError => k_is)
    (case ga_BeamError => k_is)
    (case rd_BeamError => k_is)
    (case fd_BeamError => k_is)
    (case a_fewest_layers => k_is)
    (case a_next_move_layers => k_is)
    (case a_least_limits => k_is)
    (case n_tuple => k_is)
    (case n_len => k_is)
    (case n_range => k_is)
    (case n_sum => k_is)
    (case n_zip => k_is)
    (case n_abs => k_is)
    (case n_list => k_is)
    (case n_isinstance => k_is)
    (case n_int => k_is)
    (case n_bool => k_is)
    (case n_min => k_is)
    (case g_MOST_NOTCHES => k_is)
    (case g_MOST_ROOM => k_is)
    (case g_MOST_LIMIT => k_is)
    (case g_MOST_WEIGHTS => k_is)
    (case g_MOST_HEFT => k_is)
    (case g_MOST_STANDINGS => k_is)
