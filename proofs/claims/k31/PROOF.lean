import PyProof.Rows.All
import Wide.All
import OpenK.AllK
import Wide.FinOn
import Lean
import PyProof.EqAt
import PyProof.EqKinds
import PyProof.TupleCall
import PyProof.ExcInit
import PyProof.ExcClass3
import PyProof.ExcBaseAll.ValueError
import PyProof.InstStoreFacts
import KE.KTryMore
import PyProof.RulesAs
import PyProof.NsDelKeeps
import PyProof.Rows.SortRuns
import KE.KDictSum
import KE.KSortTup
import PyProof.Rows.SetFrom
import PyProof.Rows.MinMaxN
import KE.KDictOf
import PySem.Challenge.RW_beamtender_k31_whole_play
set_option genSizeOf false
set_option bootstrap.genMatcherCode false
set_option Elab.async false
set_option linter.all false
set_option maxRecDepth 100000
set_option maxHeartbeats 4000000
/-! THE HAND LAYER,for ints,bools,texts,own classes,LISTS and tuples (index,slices,in,append,pop ..),calls,loops. Paste it whole ahead of your own text;what your proof does not reach may be deleted. -/
namespace L2
open PySem PySem.Spec PyProof.Rows
noncomputable abbrev Key:=Sum Int Str
noncomputable def zU3:Key->Value->Bool
 | .inl k,v=>Value.isInt k v
 | .inr x,v=>Value.isStrOf x v
noncomputable def keyH (w:World):Key->Int
 | .inl k=>hashInt k
 | .inr x=>hashStr w x
theorem zg5:∀ {k:Key} {v:Value},zU3 k v=true->(∃ i t,k=Sum.inl i/\v=Value.int i t)\/(∃ x t,k=Sum.inr x/\v=Value.str x t)
 | .inl i,v,h=>by
   obtain ⟨t,e⟩:=Value.isInt_shape (k:=i) (v:=v) h
   exact .inl ⟨i,t,rfl,e⟩
 | .inr x,v,h=>by
   obtain ⟨t,e⟩:=Value.isStrOf_shape (x:=x) (v:=v) h
   exact .inr ⟨x,t,rfl,e⟩
theorem key_ll (a b:Int):decide ((Sum.inl a:Key)=Sum.inl b)=(a == b):=by
 by_cases e:a=b
 . subst e;simp
 . have h:¬ (Sum.inl a:Key)=Sum.inl b:=fun q=>e (Sum.inl.inj q)
   rw[decide_eq_false h]
   exact (beq_eq_false_iff_ne.mpr e).symm
theorem key_rr (a b:Str):decide ((Sum.inr a:Key)=Sum.inr b)=decide (a=b):=by
 by_cases e:a=b
 . subst e;simp
 . have h:¬ (Sum.inr a:Key)=Sum.inr b:=fun q=>e (Sum.inr.inj q)
   rw[decide_eq_false h,decide_eq_false e]
theorem key_lr (a:Int) (b:Str):decide ((Sum.inl a:Key)=Sum.inr b)=false:=decide_eq_false (fun q=>nomatch q)
theorem key_rl (a:Str) (b:Int):decide ((Sum.inr a:Key)=Sum.inl b)=false:=decide_eq_false (fun q=>nomatch q)
noncomputable def zO8 (prog:Program) (w:World):PySem.KeyKind prog w Key where
 is:=zU3
 hash:=keyH w
 inj:=fun v a b ha hb=>by
   rcases zg5 ha with ⟨i,t,rfl,rfl⟩ | ⟨x,t,rfl,rfl⟩
   . rcases zg5 hb with ⟨j,u,rfl,e⟩ | ⟨y,u,rfl,e⟩
     . injection e with e1 _;rw[e1]
     . exact nomatch e
   . rcases zg5 hb with ⟨j,u,rfl,e⟩ | ⟨y,u,rfl,e⟩
     . exact nomatch e
     . injection e with e1 _;rw[e1]
 byValue:=fun k v h=>by
   rcases zg5 h with ⟨i,t,rfl,rfl⟩ | ⟨x,t,rfl,rfl⟩<;>rfl
 pyHash:=fun hv h=>by
   rcases zg5 hv with ⟨i,t,rfl,rfl⟩ | ⟨x,t,rfl,rfl⟩
   . exact wpAny_pyHash_int h
   . exact wpAny_pyHash_str h
 eqBool:=fun hu hv h=>by
   rcases zg5 hu with ⟨i,t,rfl,rfl⟩ | ⟨x,t,rfl,rfl⟩
   . rcases zg5 hv with ⟨j,u,rfl,rfl⟩ | ⟨y,u,rfl,rfl⟩
     . rw[key_ll] at h;exact wpAny_eqBool_int h
     . rw[key_lr] at h;exact SeqAt.EqAt.int_str i t y u _ _ _ _ h
   . rcases zg5 hv with ⟨j,u,rfl,rfl⟩ | ⟨y,u,rfl,rfl⟩
     . rw[key_rl] at h;exact SeqAt.EqAt.str_int x t j u _ _ _ _ h
     . rw[key_rr] at h;exact wpAny_eqBool_str h
 «strs»:=fun k x t v h=>by
   rcases zg5 h with ⟨i,u,rfl,e⟩ | ⟨y,u,rfl,e⟩
   . exact nomatch e
   . injection e with e1 _
     subst e1
     cases v<;>rfl
end L2
namespace L2
open PySem PySem.Spec PyProof.Rows
inductive V where
 | non | bl (b:Bool) | int (i:Int) | str (x:Str) | byt (b:Array UInt8) | flt (b:UInt64) | ref (a:Addr) | ty (n:String)
 deriving DecidableEq
noncomputable def RelV:V->Value->Prop
 | .non,u=>u=Value.none
 | .bl b,u=>u=Value.bool b
 | .int i,u=>∃ t,u=Value.int i t
 | .str x,u=>∃ t,u=Value.str x t
 | .byt b,u=>∃ t,u=Value.bytes b t
 | .flt b,u=>∃ t,u=Value.float b t
 | .ref a,u=>u=Value.ref a
 | .ty n,u=>u=Value.type n
noncomputable abbrev Vals:List V->List Value->Prop:=Paired RelV
theorem Vals.length {xs:List V} {us:List Value} (r:Vals xs us):xs.length=us.length:=Paired.length r
theorem Vals.get:∀ {xs:List V} {us:List Value} {i:Nat} {x:V},Vals xs us->xs[i]?=some x->∃ u,us[i]?=some u/\RelV x u
 | _,_,_,_,.nil,e=>by simp at e
 | _,_,0,_,.cons r _,e=>by simp at e;subst e;exact⟨_,rfl,r⟩
 | _,_,i+1,x,.cons _ t,e=>by
   obtain ⟨u,h1,h2⟩:=Vals.get (i:=i) (x:=x) t (by simpa using e)
   exact⟨u,by simpa using h1,h2⟩
theorem Vals.set {x:V} {u:Value} (r:RelV x u):∀ {xs:List V} {us:List Value} (i:Nat),Vals xs us->Vals (xs.set i x) (us.set i u)
 | _,_,_,.nil=>.nil
 | _,_,0,.cons _ t=>.cons r t
 | _,_,i+1,.cons q t=>.cons q (Vals.set r i t)
theorem Vals.append:∀ {xs ys:List V} {us ws:List Value},Vals xs us->Vals ys ws->Vals (xs++ys) (us++ws)
 | _,_,_,_,.nil,s=>s
 | _,_,_,_,.cons r t,s=>.cons r (Vals.append t s)
theorem Vals.take:∀ {xs:List V} {us:List Value} (n:Nat),Vals xs us->Vals (xs.take n) (us.take n)
 | _,_,0,_=>.nil
 | _,_,_+1,.nil=>.nil
 | _,_,n+1,.cons r t=>.cons r (Vals.take n t)
theorem Vals.drop:∀ {xs:List V} {us:List Value} (n:Nat),Vals xs us->Vals (xs.drop n) (us.drop n)
 | _,_,0,r=>r
 | _,_,_+1,.nil=>.nil
 | _,_,n+1,.cons _ t=>Vals.drop n t
noncomputable def RelO:Option V->Option Value->Prop
 | some v,some u=>RelV v u
 | none,none=>True
 | _,_=>False
noncomputable def KV {κ:Type}:List (κ×V)->List (κ×Value)->Prop:=Paired fun (p:κ×V) (q:κ×Value)=>p.1=q.1/\RelV p.2 q.2
noncomputable def kV:Key->V
 | .inl i=>.int i
 | .inr x=>.str x
inductive HO where
 | lst (xs:List V)
 | tup (xs:List V)
 | dK (kvs:List (Key×V)) | dT (kvs:List (List Key×V))
 | set (S:Int->Bool) (n:Nat)
 | ins (C dx:Addr) (fs:List (Str×V))
 | own (x:Addr)
 | xd (fs:List (Str×V))
 | met (f x:Addr)
 | rng (lo hi:Int)
 | frz (o:Obj) (u:HO)
 | tbl (ps:Array Value)
 | ext (φ:Heap->Prop)
noncomputable abbrev Hp:=Addr->Option HO
noncomputable def upd (H:Hp) (a:Addr) (o:HO):Hp:=fun b=>if b=a then some o else H b
theorem za2 {H:Hp} {a:Addr} {o:HO}:upd H a o a=some o:=by unfold upd;rw[if_pos rfl]
theorem za7 {H:Hp} {a b:Addr} {o:HO} (h:b≠a):upd H a o b=H b:=by unfold upd;rw[if_neg h]
theorem zk7 {H:Hp} {a:Addr} {o u:HO}:upd (upd H a o) a u=upd H a u:=by
 funext b;unfold upd;split<;>rfl
theorem zD7 {H:Hp} {a b:Addr} {o u:HO} (h:H a=some o) (h':H b=some u) (d:o≠u):a≠b:=by
 intro e;subst e;rw[h] at h';exact d (Option.some.inj h')
theorem zb0 {H:Hp} {a b:Addr} {o:HO} (h:H a=some o) (h':H b=none):a≠b:=by
 intro e;subst e;rw[h] at h';cases h'
noncomputable def TupD (h:Heap) (a:Addr) (items:Array Value):Prop:=∃ o,h.get? a=some o/\o.cls = .type "tuple"/\o.dict=none/\∃ n,o.data = .seq items n
theorem TupD.isTup {h:Heap} {a:Addr} {items:Array Value} (x:TupD h a items):IsTup h a items:=let ⟨o,e,c,_,n,d⟩:=x;⟨o,e,c,n,d⟩
theorem TupD.new (h:Heap) (items:Array Value):TupD (h.push { cls:=.type "tuple",data:=.seq items }) h.objs.size items:=⟨_,Heap.get?_push_size _ rfl,rfl,rfl,_,rfl⟩
section
variable (P:Program) (w:World)
noncomputable def zi0 (H:Hp) (h:Heap) (a:Addr):HO->Prop
 | .lst xs=>xs.length<=sizeLine/\∃ (its:List Value) (n:Nat),Vals xs its/\h.get? a=some { cls:=.type "list",data:=.seq its.toArray n }
 | .tup xs=>xs.length<=sizeLine/\∃ its:List Value,Vals xs its/\TupD h a its.toArray
 | .dK kvs=>kvs.length<=sizeLine/\(a == sysModules)=false/\∃ vs,KV kvs vs/\h.DictOf (zO8 P w) a vs
 | .dT kvs=>kvs.length<=sizeLine/\(a == sysModules)=false/\∃ xs:List (List Key×Addr×Value),
     Paired (fun (p:List Key×V) (q:List Key×Addr×Value)=>p.1=q.1/\H q.2.1=some (.tup (p.1.map kV))/\RelV p.2 q.2.2) kvs xs ∧
     ∃ o es ep,h.get? a=some o/\o.ExactDict/\o.data = .dict es ep/\es.toList=xs.map (entryOfKey (tupleKind (zO8 P w)))/\(xs.map (·.1)).Nodup
 | .set S n=>h.SetOf (intKind P w) a S n
 | .ins C dx fs=>H dx=some (.own a)/\fs.length<=1000/\dx≠a/\h.get? a=some (PySem.W.instObj C dx) ∧
     ∃ mA,h.Ns1 dx mA/\(∀ f,RelO (fs.lookup f) (mA f))/\PySem.Within mA (fs.map (·.1))
 | .own _=>∃ o,h.get? a=some o
 | .xd fs=>fs.length<=1000/\∃ mA,h.Ns1 a mA/\(∀ f,RelO (fs.lookup f) (mA f))/\PySem.Within mA (fs.map (·.1))
 | .rng lo hi=>∃ t u v,h.get? a=some { cls:=.type "range",data:=.fields #[.int lo t,.int hi u,.int 1 v] }
 | .frz o u=>h.get? a=some o/\zi0 H h a u
 | .tbl ps=>h.get? a=some { cls:=.none,data:=.fields ps }
 | .met f x=>h.get? a=some (PySem.W.methodObj (.ref f) (.ref x))
 | .ext φ=>φ h/\(∃ o,h.get? a=some o)/\∀ h1 h2:Heap,φ h1->(∀ o,h1.get? a=some o->h2.get? a=some o)->φ h2
noncomputable def HOk (H:Hp) (h:Heap):Prop:=∀ a o,H a=some o->zi0 P w H h a o
end
section
variable {P:Program} {w:World} {H H':Hp} {h h':Heap} {a:Addr} {o:HO}
theorem zi0.lt (x:zi0 P w H h a o):a<h.objs.size:=by
 cases o with
 | lst xs=>obtain ⟨_,_,_,_,e⟩:=x;exact Heap.lt_size e
 | tup xs=>obtain ⟨_,_,_,_,e,_⟩:=x;exact Heap.lt_size e
 | dK kvs=>obtain ⟨_,_,_,_,o,_,_,e,_⟩:=x;exact Heap.lt_size e
 | dT kvs=>obtain ⟨_,_,_,_,o,_,_,e,_⟩:=x;exact Heap.lt_size e
 | set S n=>obtain ⟨o,_,_,_,e,_⟩:=x;exact Heap.lt_size e
 | ins C dx fs=>obtain ⟨_,_,_,e,_⟩:=x;exact Heap.lt_size e
 | own y=>obtain ⟨_,e⟩:=x;exact Heap.lt_size e
 | xd fs=>obtain ⟨_,_,⟨_,_,_,e,_⟩,_⟩:=x;exact Heap.lt_size e
 | rng lo hi=>obtain ⟨_,_,_,e⟩:=x;exact Heap.lt_size e
 | frz ob u=>obtain ⟨e,_⟩:=x;exact Heap.lt_size e
 | tbl ps=>exact Heap.lt_size (show h.get? a=some _ from x)
 | met f y=>exact Heap.lt_size (show h.get? a=some _ from x)
 | ext φ=>obtain ⟨_,⟨_,e⟩,_⟩:=x;exact Heap.lt_size e
theorem Paired.mapP {α β:Type} {F G:α->β->Prop}:∀ {l₁:List α} {l₂:List β},Paired F l₁ l₂->(∀ a b,F a b->G a b)->Paired G l₁ l₂
 | _,_,.nil,_=>.nil
 | _,_,.cons r t,f=>.cons (f _ _ r) (Paired.mapP t f)
theorem zi0.stay (x:zi0 P w H h a o) (k:∀ b u,(b=a\/H b=some (.own a))->h.get? b=some u->h'.get? b=some u)
   (ho:∀ b,H b=some (.own a)->H' b=some (.own a)) (ht:∀ b xs,H b=some (.tup xs)->H' b=some (.tup xs)):zi0 P w H' h' a o:=by
 induction o with
 | lst xs=>obtain ⟨z,its,n,r,e⟩:=x;exact⟨z,its,n,r,k _ _ (.inl rfl) e⟩
 | tup xs=>obtain ⟨z,its,r,ob,e,c⟩:=x;exact⟨z,its,r,ob,k _ _ (.inl rfl) e,c⟩
 | dK kvs=>obtain ⟨z,y,vs,r,ob,es,ep,e,c⟩:=x;exact⟨z,y,vs,r,ob,es,ep,k _ _ (.inl rfl) e,c⟩
 | dT kvs =>
   obtain ⟨z,y,xs,r,ob,es,ep,e,c⟩:=x
   exact⟨z,y,xs,Paired.mapP r fun p q z=>⟨z.1,ht _ _ z.2.1,z.2.2⟩,ob,es,ep,k _ _ (.inl rfl) e,c⟩
 | set S n=>obtain ⟨ob,es,ep,t,e,c⟩:=x;exact⟨ob,es,ep,t,k _ _ (.inl rfl) e,c⟩
 | ins C dx fs =>
   obtain ⟨d,z,ne,e,mA,⟨od,es,ep,e2,c⟩,r⟩:=x
   exact⟨ho _ d,z,ne,k _ _ (.inl rfl) e,mA,⟨od,es,ep,k _ _ (.inr d) e2,c⟩,r⟩
 | own y=>obtain ⟨ob,e⟩:=x;exact⟨ob,k _ _ (.inl rfl) e⟩
 | xd fs=>obtain ⟨z,mA,⟨od,es,ep,e,c⟩,r⟩:=x;exact⟨z,mA,⟨od,es,ep,k _ _ (.inl rfl) e,c⟩,r⟩
 | rng lo hi=>obtain ⟨t,u,v,e⟩:=x;exact⟨t,u,v,k _ _ (.inl rfl) e⟩
 | frz ob u ih=>obtain ⟨e,q⟩:=x;exact⟨k _ _ (.inl rfl) e,ih q⟩
 | tbl ps =>
   have e:h.get? a=some { cls:=.none,data:=.fields ps }:=x
   show h'.get? a=some { cls:=.none,data:=.fields ps }
   exact k a _ (.inl rfl) e
 | met f y =>
   have e:h.get? a=some (PySem.W.methodObj (.ref f) (.ref y)):=x
   show h'.get? a=some (PySem.W.methodObj (.ref f) (.ref y))
   exact k a _ (.inl rfl) e
 | ext φ=>obtain ⟨p,⟨o,e⟩,st⟩:=x;exact⟨st _ _ p fun o q=>k _ _ (.inl rfl) q,⟨o,k _ _ (.inl rfl) e⟩,st⟩
theorem HOk.lt (x:HOk P w H h) (e:H a=some o):a<h.objs.size:=(x a o e).lt
theorem HOk.fresh (x:HOk P w H h) (e:h.objs.size<=a):H a=none:=by
 cases q:H a with
 | none=>rfl
 | some u=>exact absurd (Nat.lt_of_lt_of_le (x.lt q) e) (Nat.lt_irrefl _)
theorem HOk.kept (x:HOk P w H h) (k:∀ b u,h.get? b=some u->h'.get? b=some u):HOk P w H h':=fun a o e =>
 (x a o e).stay (fun b u _ q=>k b u q) (fun _ q=>q) fun _ _ q=>q
theorem HOk.laid (x:HOk P w H h) (k:∀ b u,h.get? b=some u->h'.get? b=some u) (hp:h.objs.size<=a) (new:zi0 P w (upd H a o) h' a o):HOk P w (upd H a o) h':=fun b u e=>by
 have hn:=x.fresh hp
 by_cases hb:b=a
 . subst hb;rw[za2] at e;cases e;exact new
 . rw[za7 hb] at e
   exact (x b u e).stay (fun c v _ q=>k c v q) (fun c q=>by rw[za7 (zb0 q hn)];exact q) fun c xs q=>by rw[za7 (zb0 q hn)];exact q
end
noncomputable def Rd (H:Hp) (a:Addr) (u:HO):Prop:=H a=some u\/∃ o,H a=some (.frz o u)
theorem Rd.ok {P:Program} {w:World} {H:Hp} {h:Heap} {a:Addr} {u:HO} (r:Rd H a u) (x:HOk P w H h):zi0 P w H h a u:=by
 rcases r with r | ⟨o,r⟩
 . exact x a u r
 . obtain ⟨_,q⟩:=x a _ r
   exact q
noncomputable def Mut:Option HO->Prop
 | some (.lst _)=>True
 | some (.dK _)=>True
 | some (.dT _)=>True
 | some (.set _ _)=>True
 | some (.ins _ _ _)=>True
 | some (.ext _)=>True
 | some (.xd _)=>True
 | _=>False
section
variable {P:Program} {w:World} {H:Hp} {h h':Heap} {x e:Addr} {o':HO}
theorem HOk.write (ok:HOk P w H h) (mu:Mut (H x)) (he:e=x\/H e=some (.own x)) (k:∀ b u,b≠e->h.get? b=some u->h'.get? b=some u) (heo:∃ u,h'.get? e=some u)
   (new:zi0 P w (upd H x o') h' x o'):HOk P w (upd H x o') h':=fun b u q=>by
 have nown:∀ c y,H c=some (.own y)->c≠x:=fun c y r z=>by subst z;rw[r] at mu;exact mu
 have ntup:∀ c xs,H c=some (.tup xs)->c≠x:=fun c xs r z=>by subst z;rw[r] at mu;exact mu
 by_cases hb:b=x
 . subst hb;rw[za2] at q;cases q;exact new
 . rw[za7 hb] at q
   by_cases hbe:b=e
   . have q':H b=some (.own x):=by
       rcases he with z | z
       . exact absurd (hbe.trans z) hb
       . rw[hbe];exact z
     rw[q] at q';cases q'
     obtain ⟨v,hv⟩:=heo
     exact⟨v,by rw[hbe];exact hv⟩
   . refine (ok b u q).stay (fun c v hc r=>k c v ?_ r) (fun c r=>by rw[za7 (nown c b r)];exact r) fun c xs r=>by rw[za7 (ntup c xs r)];exact r
     rcases hc with rfl | hc
     . exact hbe
     . rintro rfl
       rcases he with z | z
       . exact nown c b hc z
       . rw[hc] at z;cases z;exact hb rfl
end
/-! ### kept unless tracked;of the frames at fs (the callers') the slots may change (an exception that passes writes there);of the records at ex (iterators) nothing is said -/
structure Un (fs ex:List Addr) (H H':Hp) (h h':Heap):Prop where
 keep:∀ b o,h.get? b=some o->H b=none->b∉fs->b∉ex->h'.get? b=some o
 slot:∀ b o,h.get? b=some o->H b=none->b∈fs->b∉ex->∃ sl,h'.get? b=some { o with slots:=sl }
 free:∀ b o,h.get? b=some o->H b=none->b∉ex->H' b=none
 there:∀ b o,h.get? b=some o->b∉ex->∃ o',h'.get? b=some o'
 tups:∀ b xs,H b=some (.tup xs)->H' b=some (.tup xs)
 frzs:∀ b o u,H b=some (.frz o u)->H' b=some (.frz o u)
 tbls:∀ b ps,H b=some (.tbl ps)->∃ more,H' b=some (.tbl (ps++more))
section
variable {fs fs' ex ex':List Addr} {H H1 H2:Hp} {h h1 h2 h':Heap} {a x e:Addr} {o:HO}
theorem Un.any (u:Un fs ex H H1 h h1) {b:Addr} {ob:Obj} (q:h.get? b=some ob) (n:H b=none) (hx:b∉ex):∃ sl,h1.get? b=some { ob with slots:=sl }:=by
 by_cases hb:b∈fs
 . exact u.slot b ob q n hb hx
 . exact⟨ob.slots,u.keep b ob q n hb hx⟩
theorem Un.kept (k:∀ b u,h.get? b=some u->h'.get? b=some u):Un fs ex H H h h' :=
 ⟨fun b ob q _ _ _=>k b ob q,fun b ob q _ _ _=>⟨ob.slots,k b ob q⟩,fun _ _ _ n _=>n,fun b ob q _=>⟨ob,k b ob q⟩,fun _ _ q=>q,fun _ _ _ q=>q,fun _ ps q=>⟨#[],by rw[q];simp⟩⟩
theorem Un.refl:Un fs ex H H h h:=Un.kept fun _ _ q=>q
theorem Un.laid (k:∀ b u,h.get? b=some u->h'.get? b=some u) (hp:h.objs.size<=a) (hn:H a=none):Un fs ex H (upd H a o) h h' where
 keep:=fun b u q _ _ _=>k b u q
 slot:=fun b u q _ _ _=>⟨u.slots,k b u q⟩
 free:=fun b u q n _=>by rw[za7 (Nat.ne_of_lt (Nat.lt_of_lt_of_le (Heap.lt_size q) hp))];exact n
 there:=fun b u q _=>⟨u,k b u q⟩
 tups:=fun b xs q=>by rw[za7 (zb0 q hn)];exact q
 frzs:=fun b u xs q=>by rw[za7 (zb0 q hn)];exact q
 tbls:=fun b ps q=>⟨#[],by rw[za7 (zb0 q hn),q];simp⟩
theorem Un.write (mu:Mut (H x)) (he:e=x\/H e=some (.own x)) (k:∀ b u,b≠e->h.get? b=some u->h'.get? b=some u) (heo:∃ u,h'.get? e=some u):Un fs ex H (upd H x o) h h':=by
 have hx:∀ b,H b=none->b≠x:=fun b n z=>by subst z;rw[n] at mu;exact mu
 have hb:∀ b,H b=none->b≠e:=fun b n z=>by
   subst z
   rcases he with r | r
   . exact hx b n r
   . rw[n] at r;cases r
 have hm:∀ b u,H b=some u->¬ Mut (some u)->b≠x:=fun b u q nm z=>by subst z;rw[q] at mu;exact nm mu
 refine⟨fun b u q n _ _=>k b u (hb b n) q,fun b u q n _ _=>⟨u.slots,k b u (hb b n) q⟩,fun b u q n _=>by rw[za7 (hx b n)];exact n,fun b u q _=>?_,
   fun b xs q=>by rw[za7 (hm b _ q fun z=>z)];exact q,fun b u xs q=>by rw[za7 (hm b _ q fun z=>z)];exact q,fun b ps q=>⟨#[],by rw[za7 (hm b _ q fun z=>z),q];simp⟩⟩
 by_cases hbe:b=e
 . subst hbe;exact heo
 . exact⟨u,k b u hbe q⟩
end
/-! ### the heap without what is tracked -/
noncomputable def trk (h:Heap) (H:Hp):List Addr:=(List.range h.objs.size).filter fun a=>(H a).isSome
noncomputable def hidT (h:Heap) (H:Hp):Heap:=PySem.W.hideAll h (trk h H)
theorem hidT_size (h:Heap) (H:Hp):(hidT h H).objs.size=h.objs.size:=PySem.W.hideAll_size _ _
theorem hidT_get {h:Heap} {H:Hp} {b:Addr} {o:Obj} (e:h.get? b=some o) (n:H b=none):(hidT h H).get? b=some o :=
 PySem.W.hideAll_get _ e fun hm=>by
   have q:(H b).isSome=true:=(List.mem_filter.mp hm).2
   rw[n] at q;simp at q
theorem of_hidT {h:Heap} {H:Hp} {b:Addr} {o:Obj} (e:(hidT h H).get? b=some o):h.get? b=some o/\H b=none:=by
 have e':h.get? b=some o:=PySem.W.of_hideAll (trk h H) e
 refine⟨e',?_⟩
 cases q:H b with
 | none=>rfl
 | some x =>
   have hm:b∈trk h H:=List.mem_filter.mpr ⟨List.mem_range.mpr (Heap.lt_size e'),by simp[q]⟩
   have z:(hidT h H).get? b=none:=PySem.W.hideAll_none (trk h H) hm
   rw[z] at e;cases e
/-! ### OpenK's ledger,filled with every new object but one -/
end L2
namespace L2
open PySem PySem.Spec PyProof.Rows
structure Mod (K:PySem.W.Frag) (mg:Str->Option Value) (base:Heap):Prop where
 kin:K.In base
 glob:base.Ns mainGlobals mg
 blt:∃ mb,base.Ns builtinsNs mb/\∀ x:Str,x≠"__name__"->mb x=bootBuiltins x
 nolimit:base.NoLimit
structure Cx where
 prog:Program
 w:World
 K:PySem.W.Frag
 mg:Str->Option Value
 base:Heap
 A:Around
 N:List Str
 s₀:Shared
 H₀:Hp
 env:Env
 outer:List Env
 stack:List Env
 ex:List Addr
 fn:Str->Bool
 calm:Bool
 pn:List (Addr×Obj)
 xe:Value->Shared->Prop
noncomputable def frs (l:List Env):List Addr:=l.filterMap (·.frame)
noncomputable abbrev Cx.fs (X:Cx):List Addr:=frs X.outer
noncomputable def Vis (sc:Scope) (x:Str):Prop:=sc.names.lookup x=some .local\/sc.names.lookup x=some .cell\/sc.names.lookup x=some .free
noncomputable def Loc (sc:Scope) (x:Str):Prop:=sc.names.lookup x=some .local\/sc.names.lookup x=some .cell
noncomputable def Look (env:Env) (h:Heap) (m:Str->Option Value) (x:Str) (u:Value):Prop :=
 (env.kindOf x=some .local/\m x=some u)\/((env.kindOf x=some .cell\/env.kindOf x=some .free)/\∃ c,env.cells.lookup x=some c/\h.IsCell c (some u))
structure Cx.Ok (X:Cx):Prop where
 mod:Mod X.K X.mg X.base
 kind:X.env.scope.kind = .function
 glob:X.env.globals=mainGlobals
 blt:X.env.builtins=builtinsNs
 above:X.s₀.heap.objs.size<=X.env.locals
 inj:∀ x y c,X.env.cells.lookup x=some c->X.env.cells.lookup y=some c->x=y
 has:∀ x,(X.env.kindOf x=some .cell\/X.env.kindOf x=some .free)->∃ c,X.env.cells.lookup x=some c
 cab:∀ x c,X.fn x=true->X.env.cells.lookup x=some c->X.s₀.heap.objs.size<=c
 hd:X.calm=true->X.A.handled=none
 frames:X.A.frames=some X.stack
 stk:X.stack=X.outer\/(X.stack=X.env::X.outer/\X.env.frame=some X.env.locals)
 exf:∀ b∈X.ex,b≠X.env.locals/\∀ x c,X.env.cells.lookup x=some c->c≠b
 bs:∀ b o,X.base.get? b=some o->X.s₀.heap.get? b=some o/\X.H₀ b=none
 bsz:X.base.objs.size<=X.s₀.heap.objs.size
 noex:∀ b o,X.base.get? b=some o->b∉X.ex
 exfs:∀ b∈X.ex,b∉X.fs
 funs:X.s₀.heap.FunFrames X.base X.outer
 frf:∀ b∈X.fs,X.H₀ b=none
structure Inv (X:Cx) (pins:List (Addr×Obj)) (σ:List (Option V)) (H:Hp) (s:Shared):Prop where
 ok:X.Ok
 os:s.os=X.s₀.os
 bare:AllBare s.gens
 base:Un X.fs X.ex X.H₀ H X.s₀.heap s.heap
 loc:∃ m,s.heap.Ns X.env.locals m/\∀ (i:Nat) (x:Str) (v:V),X.N[i]?=some x->σ[i]?=some (some v)->Vis X.env.scope x->∃ u,RelV v u/\Look X.env s.heap m x u
 cell:∀ x c,X.env.cells.lookup x=some c->∃ v,s.heap.IsCell c v
 free:H X.env.locals=none
 freeC:∀ x c,X.env.cells.lookup x=some c->H c=none
 pin:∀ p∈X.pn++pins,s.heap.get? p.1=some p.2/\H p.1=none/\p.1≠X.env.locals/\p.1∉X.fs/\∀ v,p.2.data≠.cell v
 hok:HOk X.prog X.w H s.heap
 len:σ.length=X.N.length
section
variable {X:Cx} {pins:List (Addr×Obj)} {σ:List (Option V)} {H H':Hp} {s:Shared} {h':Heap}
theorem Cx.Ok.nofr (ok:X.Ok) {b:Addr} {o:Obj} (e:X.base.get? b=some o):b∉X.fs:=fun hb=>by
 have:=(ok.funs.mem hb).1
 rw[e] at this;cases this
theorem Inv.bs (I:Inv X pins σ H s):∀ b o,X.base.get? b=some o->s.heap.get? b=some o/\H b=none:=fun b o e =>
 ⟨I.base.keep b o (I.ok.bs b o e).1 (I.ok.bs b o e).2 (I.ok.nofr e) (I.ok.noex b o e),I.base.free b o (I.ok.bs b o e).1 (I.ok.bs b o e).2 (I.ok.noex b o e)⟩
theorem Inv.bk (I:Inv X pins σ H s):∀ b o,X.base.get? b=some o->s.heap.get? b=some o:=fun b o e=>(I.bs b o e).1
theorem Inv.mod (I:Inv X pins σ H s):Mod X.K X.mg X.base:=I.ok.mod
theorem Inv.kIn (I:Inv X pins σ H s):X.K.In s.heap:=I.ok.mod.kin.keeps I.bk
theorem Inv.lt (I:Inv X pins σ H s):X.env.locals<s.heap.objs.size:=let ⟨_,hn,_⟩:=I.loc;hn.lt
theorem Inv.sz (I:Inv X pins σ H s):X.s₀.heap.objs.size<=s.heap.objs.size:=Nat.le_trans I.ok.above (Nat.le_of_lt I.lt)
theorem Inv.nofs (I:Inv X pins σ H s) {a:Addr} (h:s.heap.objs.size<=a):a∉X.fs:=fun hb=>by
 obtain ⟨_,o,ho,_⟩:=I.ok.funs.mem hb
 exact absurd (Nat.lt_of_lt_of_le (Heap.lt_size ho) (Nat.le_trans I.sz h)) (Nat.lt_irrefl _)
theorem Inv.cne (I:Inv X pins σ H s):∀ x c,X.env.cells.lookup x=some c->c≠X.env.locals:=fun x c e z=>by
 obtain ⟨v,o,ho,hd⟩:=I.cell x c e
 obtain ⟨m,⟨o',es,ep,ho',hd',_⟩,_⟩:=I.loc
 rw[z,ho'] at ho;cases ho;rw[hd'] at hd;cases hd
theorem Inv.funs (I:Inv X pins σ H s):s.heap.FunFrames X.base X.outer:=by
 have all:∀ (l:List Env),(∀ b∈frs l,b∈X.fs)->X.s₀.heap.FunFrames X.base l->s.heap.FunFrames X.base l:=by
   intro l
   induction l with
   | nil=>intro _ _;trivial
   | cons env r ih =>
     intro hs hl
     obtain ⟨hk,⟨L,o,hf,hn,ho,hd⟩,hr⟩:=hl
     have hL:L∈X.fs:=hs L (by unfold frs;rw[List.filterMap_cons,hf];exact List.mem_cons_self)
     obtain ⟨sl,e⟩:=I.base.slot L o ho (I.ok.frf L hL) hL fun z=>I.ok.exfs L z hL
     exact⟨hk,⟨L,_,hf,hn,e,hd⟩,ih (fun b hb=>hs b (by unfold frs;rw[List.filterMap_cons,hf];exact List.mem_cons_of_mem _ hb)) hr⟩
 exact all X.outer (fun _ hb=>hb) I.ok.funs
theorem Inv.stack (I:Inv X pins σ H s):s.heap.FunFrames X.base X.stack:=by
 rcases I.ok.stk with e | ⟨e,hf⟩
 . rw[e];exact I.funs
 . rw[e]
   obtain ⟨m,hn,_⟩:=I.loc
   refine .cons (by rw[I.ok.kind];decide) hf hn ?_ I.funs
   exact Heap.get?_none_of_le (Nat.le_trans I.ok.bsz I.ok.above)
theorem Inv.stkSub (I:Inv X pins σ H s):∀ b∈frs X.stack,b∈X.env.locals::X.fs:=fun b hb=>by
 rcases I.ok.stk with e | ⟨e,hf⟩
 . rw[e] at hb;exact List.mem_cons_of_mem _ hb
 . rw[e] at hb
   unfold frs at hb
   rw[List.filterMap_cons,hf] at hb
   exact hb
theorem Inv.stkFree (I:Inv X pins σ H s):∀ b∈frs X.stack,H b=none:=fun b hb=>by
 rcases List.mem_cons.mp (I.stkSub b hb) with e | hb
 . rw[e];exact I.free
 . obtain ⟨_,o,ho,_⟩:=I.ok.funs.mem hb
   exact I.base.free b o ho (I.ok.frf b hb) fun z=>I.ok.exfs b z hb
theorem Inv.step {g':Array GenState} {t':Nat} {d':Drawn} {ch:List Addr} (I:Inv X pins σ H s)
   (hch:∀ b∈ch,(b∈X.ex\/X.s₀.heap.objs.size<=b)/\b≠X.env.locals/\(∀ x c,X.env.cells.lookup x=some c->c≠b)/\∀ p∈X.pn++pins,p.1≠b)
   (keep:∀ b o,b≠X.env.locals->b∉X.fs->b∉ch->s.heap.get? b=some o->H b=none->h'.get? b=some o)
   (slot:∀ b o,b≠X.env.locals->b∈X.fs->b∉ch->s.heap.get? b=some o->H b=none->∃ sl,h'.get? b=some { o with slots:=sl }) (free:∀ b o,b∉ch->s.heap.get? b=some o->H b=none->H' b=none)
   (there:∀ b o,b∉ch->s.heap.get? b=some o->∃ o',h'.get? b=some o')
   (tups:∀ b xs,H b=some (.tup xs)->H' b=some (.tup xs)) (frzs:∀ b o u,H b=some (.frz o u)->H' b=some (.frz o u)) (tbls:∀ b ps,H b=some (.tbl ps)->∃ more,H' b=some (.tbl (ps++more)))
   (ns:∀ m,s.heap.Ns X.env.locals m->h'.Ns X.env.locals m) (hok:HOk X.prog X.w H' h') (hg:AllBare g') :
   Inv X pins σ H' { s with heap:=h',gens:=g',drawn:=d',toks:=t' }:=by
 have neL:∀ b o,X.s₀.heap.get? b=some o->b≠X.env.locals:=fun b o e=>Nat.ne_of_lt (Nat.lt_of_lt_of_le (Heap.lt_size e) I.ok.above)
 have neC:∀ b o,X.s₀.heap.get? b=some o->b∉X.ex->b∉ch:=fun b o e hx hb=>by
   rcases (hch b hb).1 with z | z
   . exact hx z
   . exact absurd (Nat.lt_of_lt_of_le (Heap.lt_size e) z) (Nat.lt_irrefl _)
 have cellK:∀ x c,X.env.cells.lookup x=some c->∀ v,s.heap.IsCell c v->h'.IsCell c v:=fun x c e v ⟨o,ho,hd⟩=>by
   have nch:c∉ch:=fun z=>(hch c z).2.2.1 x c e rfl
   by_cases hc:c∈X.fs
   . obtain ⟨sl,q⟩:=slot c o (I.cne x c e) hc nch ho (I.freeC x c e)
     exact⟨_,q,hd⟩
   . exact⟨o,keep c o (I.cne x c e) hc nch ho (I.freeC x c e),hd⟩
 refine⟨I.ok,I.os,hg,⟨fun b o e n hb hx=>?_,fun b o e n hb hx=>?_,fun b o e n hx=>?_,fun b o e hx=>?_,fun b xs e=>tups b xs (I.base.tups b xs e),fun b o xs e=>frzs b o xs (I.base.frzs b o xs e),fun b ps e=>?_⟩,?_,fun x c e=>?_,?_,fun x c e=>?_,fun p hp=>?_,hok,I.len⟩
 . exact keep b o (neL b o e) hb (neC b o e hx) (I.base.keep b o e n hb hx) (I.base.free b o e n hx)
 . obtain ⟨sl,e1⟩:=I.base.slot b o e n hb hx
   obtain ⟨sl',e2⟩:=slot b _ (neL b o e) hb (neC b o e hx) e1 (I.base.free b o e n hx)
   exact⟨sl',e2⟩
 . obtain ⟨o',e1⟩:=I.base.there b o e hx
   exact free b o' (neC b o e hx) e1 (I.base.free b o e n hx)
 . obtain ⟨o',e1⟩:=I.base.there b o e hx
   exact there b o' (neC b o e hx) e1
 . obtain ⟨m1,e1⟩:=I.base.tbls b ps e
   obtain ⟨m2,e2⟩:=tbls b _ e1
   exact⟨m1++m2,by rw[e2,Array.append_assoc]⟩
 . obtain ⟨m,hn,hl⟩:=I.loc
   refine⟨m,ns m hn,fun i x v e1 e2 e3=>?_⟩
   obtain ⟨u,r,l⟩:=hl i x v e1 e2 e3
   refine⟨u,r,?_⟩
   rcases l with l | ⟨k,c,e,z⟩
   . exact .inl l
   . exact .inr ⟨k,c,e,cellK x c e _ z⟩
 . obtain ⟨v,z⟩:=I.cell x c e
   exact⟨v,cellK x c e v z⟩
 . obtain ⟨m,⟨o,_,_,ho,_⟩,_⟩:=I.loc
   exact free _ o (fun z=>(hch _ z).2.1 rfl) ho I.free
 . obtain ⟨v,o,ho,hd⟩:=I.cell x c e
   exact free c o (fun z=>(hch c z).2.2.1 x c e rfl) ho (I.freeC x c e)
 . obtain ⟨e,n,ne,nf,d⟩:=I.pin p hp
   have nch:p.1∉ch:=fun z=>(hch p.1 z).2.2.2 p hp rfl
   exact⟨keep p.1 p.2 ne nf nch e n,free p.1 p.2 nch e n,ne,nf,d⟩
theorem Inv.un {t':Nat} (I:Inv X pins σ H s) (u:Un X.fs [] H H' s.heap h') (hok:HOk X.prog X.w H' h'):Inv X pins σ H' { s with heap:=h',toks:=t' }:=by
 obtain ⟨m,⟨o,es,ep,ho,r⟩,_⟩:=id I.loc
 obtain ⟨sl,hL⟩:=u.any ho I.free (by simp)
 exact I.step (g':=s.gens) (d':=s.drawn) (ch:=[]) (fun _ z=>nomatch z) (fun b o _ hb _ e n=>u.keep b o e n hb (by simp)) (fun b o _ hb _ e n=>u.slot b o e n hb (by simp)) (fun b o _ e n=>u.free b o e n (by simp)) (fun b o _ e=>u.there b o e (by simp)) u.tups u.frzs u.tbls (fun m' hm=>by
   obtain ⟨o',es',ep',ho',r'⟩:=hm
   rw[ho] at ho';cases ho'
   exact⟨_,es',ep',hL,r'⟩) hok I.bare
theorem Inv.call {g':Array GenState} {t':Nat} {d':Drawn} {ch:List Addr} (I:Inv X pins σ H s) (u:Un (frs X.stack) ch H H' s.heap h') (hok:HOk X.prog X.w H' h') (hg:AllBare g')
   (hch:∀ b∈ch,(b∈X.ex\/X.s₀.heap.objs.size<=b)/\b≠X.env.locals/\(∀ x c,X.env.cells.lookup x=some c->c≠b)/\∀ p∈X.pn++pins,p.1≠b) :
   Inv X pins σ H' { s with heap:=h',gens:=g',drawn:=d',toks:=t' }:=by
 obtain ⟨m,⟨o,es,ep,ho,r⟩,_⟩:=id I.loc
 obtain ⟨sl,hL⟩:=u.any ho I.free fun z=>(hch _ z).2.1 rfl
 exact I.step (ch:=ch) hch (fun b o hL hb hc e n=>u.keep b o e n (fun z=>(List.mem_cons.mp (I.stkSub b z)).elim hL hb) hc) (fun b o _ _ hc e n=>u.any e n hc) (fun b o hc e n=>u.free b o e n hc) (fun b o hc e=>u.there b o e hc) u.tups u.frzs u.tbls (fun m' hm=>by
   obtain ⟨o',es',ep',ho',r'⟩:=hm
   rw[ho] at ho';cases ho'
   exact⟨_,es',ep',hL,r'⟩) hok hg
theorem Inv.turned {t':Nat} {it:Addr} (I:Inv X pins σ H s) (k:∀ b o,b≠it->s.heap.get? b=some o->h'.get? b=some o) (hn:H it=none) (hL:it≠X.env.locals)
   (h1:it∈X.ex\/X.s₀.heap.objs.size<=it) (h2:∀ x c,X.env.cells.lookup x=some c->c≠it) (h3:∀ p∈X.pn++pins,p.1≠it):Inv X pins σ H { s with heap:=h',toks:=t' }:=by
 have nit:∀ b u,H b=some u->b≠it:=fun b u e z=>by rw[z,hn] at e;cases e
 refine I.step (g':=s.gens) (d':=s.drawn) (ch:=[it]) (fun b hb=>?_) (fun b o _ _ hc e _=>k b o (fun z=>hc (by simp[z])) e) (fun b o _ _ hc e _=>⟨o.slots,k b o (fun z=>hc (by simp[z])) e⟩) (fun _ _ _ _ n=>n)
   (fun b o hc e=>⟨o,k b o (fun z=>hc (by simp[z])) e⟩) (fun _ _ e=>e) (fun _ _ _ e=>e) (fun b ps e=>⟨#[],by rw[e];simp⟩) (fun m hm=>?_) (fun b u e=>?_) I.bare
 . have e:b=it:=by simpa using hb
   subst e
   exact⟨h1,hL,h2,h3⟩
 . obtain ⟨o,es,ep,ho,r⟩:=hm
   exact⟨o,es,ep,k _ o (Ne.symm hL) ho,r⟩
 . refine (I.hok b u e).stay (fun c v hc q=>k c v ?_ q) (fun _ q=>q) fun _ _ q=>q
   rcases hc with z | z
   . rw[z];exact nit b u e
   . exact nit c _ z
theorem Inv.tok (I:Inv X pins σ H s) (t:Nat):Inv X pins σ H { s with toks:=t }:=I.un (h':=s.heap) (t':=t) Un.refl I.hok
theorem Inv.kept {t':Nat} (I:Inv X pins σ H s) (k:∀ b u,s.heap.get? b=some u->h'.get? b=some u):Inv X pins σ H { s with heap:=h',toks:=t' }:=I.un (Un.kept k) (I.hok.kept k)
theorem Inv.laid {a:Addr} {o:HO} {t':Nat} (I:Inv X pins σ H s) (k:∀ b u,s.heap.get? b=some u->h'.get? b=some u) (hp:s.heap.objs.size<=a) (new:zi0 X.prog X.w (upd H a o) h' a o) :
 Inv X pins σ (upd H a o) { s with heap:=h',toks:=t' }:=I.un (Un.laid k hp (I.hok.fresh hp)) (I.hok.laid k hp new)
theorem Inv.write {x e:Addr} {o:HO} {t':Nat} (I:Inv X pins σ H s) (mu:Mut (H x)) (he:e=x\/H e=some (.own x)) (k:∀ b u,b≠e->s.heap.get? b=some u->h'.get? b=some u) (heo:∃ u,h'.get? e=some u)
 (new:zi0 X.prog X.w (upd H x o) h' x o):Inv X pins σ (upd H x o) { s with heap:=h',toks:=t' }:=I.un (Un.write mu he k heo) (I.hok.write mu he k heo new)
theorem Inv.pins_of {pins':List (Addr×Obj)} (I:Inv X pins σ H s) (h:∀ p∈pins',s.heap.get? p.1=some p.2/\H p.1=none/\p.1≠X.env.locals/\p.1∉X.fs/\∀ v,p.2.data≠.cell v):Inv X pins' σ H s :=
 ⟨I.ok,I.os,I.bare,I.base,I.loc,I.cell,I.free,I.freeC,fun p hp=>(List.mem_append.mp hp).elim (fun z=>I.pin p (List.mem_append_left _ z)) (h p),I.hok,I.len⟩
theorem zF1 {N:List Str} (hN:N.Nodup) {i j:Nat} {x:Str} (a:N[i]?=some x) (b:N[j]?=some x):i=j:=by
 obtain ⟨h1,e1⟩:=List.getElem?_eq_some_iff.mp a
 obtain ⟨h2,e2⟩:=List.getElem?_eq_some_iff.mp b
 exact (List.getElem_inj hN).mp (e1.trans e2.symm)
theorem zH0 {M:Model} {A:Around} {E:Value->Shared->Prop} {i:Nat} {x:Str} {v:V} {u:Value} {Q:Unit->Shared->Prop} (I:Inv X pins σ H s) (hN:X.N.Nodup) (hi:X.N[i]?=some x) (hx:Loc X.env.scope x) (r:RelV v u)
   (h:∀ s',Inv X pins (σ.set i (some v)) H s'->(∃ a,Heap.SameBut a s.heap s'.heap/\(a=X.env.locals\/X.env.cells.lookup x=some a))->Q () s') (hf:X.fn x=true\/X.env.scope.names.lookup x=some .local:=by first | exact .inl rfl | exact .inr rfl | assumption):wpAny M A (storeName X.env x u) Q E s:=by
 obtain ⟨m,hn,hl⟩:=id I.loc
 have hcls:(X.env.scope.kind == .class || (X.env.scope.kind == .module && X.env.locals != X.env.globals))=false:=by rw[I.ok.kind];rfl
 have hiσ:i<σ.length:=by rw[I.len];exact (List.getElem?_eq_some_iff.mp hi).1
 have cne:=I.cne
 have tracked:∀ {a:Addr} {h':Heap},(∃ o,s.heap.get? a=some o/\H a=none)->Heap.SameBut a s.heap h'->HOk X.prog X.w H h':=fun {a h'} ha hs b ob e=>by
   obtain ⟨_,_,hfree⟩:=ha
   refine (I.hok b ob e).stay (fun c w' hc q=>(hs.2 c ?_).trans q) (fun _ q=>q) fun _ _ q=>q
   rintro rfl
   rcases hc with rfl | hc
   . rw[hfree] at e;cases e
   . rw[hfree] at hc;cases hc
 rcases hx with hk | hk
 . refine wpAny_storeName_local hk hn (fun h' hn' hs=>?_) hcls
   obtain ⟨oL,_,_,hoL,_⟩:=id hn
   refine h _ ⟨I.ok,I.os,I.bare,⟨fun b o e n hb hx=>?_,fun b o e n hb hx=>?_,I.base.free,fun b o e hx=>?_,I.base.tups,I.base.frzs,I.base.tbls⟩,⟨_,hn',fun j y v' e1 e2 e3=>?_⟩,fun y c e=>?_,I.free,I.freeC,fun p hp=>?_,tracked ⟨oL,hoL,I.free⟩ hs,by simpa using I.len⟩ ⟨_,hs,.inl rfl⟩
   . exact (hs.2 b (Nat.ne_of_lt (Nat.lt_of_lt_of_le (Heap.lt_size e) I.ok.above))).trans (I.base.keep b o e n hb hx)
   . obtain ⟨sl,e1⟩:=I.base.slot b o e n hb hx
     exact⟨sl,(hs.2 b (Nat.ne_of_lt (Nat.lt_of_lt_of_le (Heap.lt_size e) I.ok.above))).trans e1⟩
   . obtain ⟨o',e1⟩:=I.base.there b o e hx
     exact⟨o',(hs.2 b (Nat.ne_of_lt (Nat.lt_of_lt_of_le (Heap.lt_size e) I.ok.above))).trans e1⟩
   . by_cases hj:j=i
     . subst hj
       rw[hi] at e1;cases e1
       rw[List.getElem?_set_self hiσ] at e2
       cases e2
       exact⟨u,r,.inl ⟨hk,by simp⟩⟩
     . rw[List.getElem?_set_ne (Ne.symm hj)] at e2
       obtain ⟨u',r',q⟩:=hl j y v' e1 e2 e3
       refine⟨u',r',?_⟩
       rcases q with ⟨k,e⟩ | ⟨k,c,e,z⟩
       . refine .inl ⟨k,?_⟩
         have:y≠x:=fun e=>hj (zF1 hN e1 (e▸hi))
         simp[this,e]
       . exact .inr ⟨k,c,e,z.sameBut hs (cne y c e)⟩
   . obtain ⟨w',z⟩:=I.cell y c e
     exact⟨w',z.sameBut hs (cne y c e)⟩
   . obtain ⟨e,n,ne,nf,d⟩:=I.pin p hp
     exact⟨(hs.2 p.1 ne).trans e,n,ne,nf,d⟩
 . have hfn:X.fn x=true:=by
     rcases hf with z | z
     . exact z
     . rw[z] at hk;cases hk
   obtain ⟨c,hc⟩:=I.ok.has x (.inl hk)
   obtain ⟨w',z⟩:=I.cell x c hc
   refine wpAny_storeName_cell I.ok.kind hk hc z (fun h' hc' hs=>?_)
   obtain ⟨oc,hoc,hocd⟩:=id z
   refine h { s with heap:=h' } ⟨I.ok,I.os,I.bare,⟨fun b o e n hb hx=>?_,fun b o e n hb hx=>?_,I.base.free,fun b o e hx=>?_,I.base.tups,I.base.frzs,I.base.tbls⟩,⟨m,hn.sameBut hs (Ne.symm (cne x c hc)),fun j y v' e1 e2 e3=>?_⟩,fun y c' e=>?_,I.free,I.freeC,fun p hp=>?_,tracked ⟨oc,hoc,I.freeC x c hc⟩ hs,by simpa using I.len⟩ ⟨c,hs,.inr hc⟩
   . exact (hs.2 b (Nat.ne_of_lt (Nat.lt_of_lt_of_le (Heap.lt_size e) (I.ok.cab x c hfn hc)))).trans (I.base.keep b o e n hb hx)
   . obtain ⟨sl,e1⟩:=I.base.slot b o e n hb hx
     exact⟨sl,(hs.2 b (Nat.ne_of_lt (Nat.lt_of_lt_of_le (Heap.lt_size e) (I.ok.cab x c hfn hc)))).trans e1⟩
   . obtain ⟨o',e1⟩:=I.base.there b o e hx
     exact⟨o',(hs.2 b (Nat.ne_of_lt (Nat.lt_of_lt_of_le (Heap.lt_size e) (I.ok.cab x c hfn hc)))).trans e1⟩
   . by_cases hj:j=i
     . subst hj
       rw[hi] at e1;cases e1
       rw[List.getElem?_set_self hiσ] at e2
       cases e2
       exact⟨u,r,.inr ⟨.inl hk,c,hc,hc'⟩⟩
     . rw[List.getElem?_set_ne (Ne.symm hj)] at e2
       obtain ⟨u',r',q⟩:=hl j y v' e1 e2 e3
       refine⟨u',r',?_⟩
       rcases q with q | ⟨k,c',e,z'⟩
       . exact .inl q
       . refine .inr ⟨k,c',e,z'.sameBut hs ?_⟩
         rintro rfl
         exact hj (zF1 hN e1 (I.ok.inj _ _ _ e hc▸hi))
   . by_cases hcc:c'=c
     . subst hcc;exact⟨_,hc'⟩
     . obtain ⟨w2,z2⟩:=I.cell y c' e
       exact⟨w2,z2.sameBut hs hcc⟩
   . obtain ⟨e,n,ne,nf,d⟩:=I.pin p hp
     refine⟨(hs.2 p.1 ?_).trans e,n,ne,nf,d⟩
     intro q
     rw[q,hoc] at e
     have q':oc=p.2:=Option.some.inj e
     exact d w' (by rw[<-q'];exact hocd)
theorem zv1 {M:Model} {A:Around} {E:Value->Shared->Prop} {i:Nat} {x:Str} {v:V} {u:Value} {Q:Unit->Shared->Prop} (I:Inv X pins σ H s) (hN:X.N.Nodup) (hi:X.N[i]?=some x) (hx:Loc X.env.scope x) (r:RelV v u)
   (h:∀ s',Inv X pins (σ.set i (some v)) H s'->Q () s') (hf:X.fn x=true\/X.env.scope.names.lookup x=some .local:=by first | exact .inl rfl | exact .inr rfl | assumption):wpAny M A (storeName X.env x u) Q E s :=
 zH0 I hN hi hx r (fun s' I' _=>h s' I') hf
theorem Inv.call' {s':Shared} {ch:List Addr} (I:Inv X pins σ H s) (ho:s'.os=s.os) (u:Un (frs X.stack) ch H H' s.heap s'.heap) (hok:HOk X.prog X.w H' s'.heap) (hg:AllBare s'.gens)
   (hch:∀ b∈ch,(b∈X.ex\/X.s₀.heap.objs.size<=b)/\b≠X.env.locals/\(∀ x c,X.env.cells.lookup x=some c->c≠b)/\∀ p∈X.pn++pins,p.1≠b):Inv X pins σ H' s':=by
 obtain ⟨h',g',d',t',o'⟩:=s'
 have e:o'=s.os:=ho
 subst e
 exact I.call (g':=g') (t':=t') (d':=d') u hok hg hch
end
/-! ### the judgements -/
noncomputable abbrev XK:=Value->Option Addr->Hp->Prop
noncomputable abbrev St:=List (Option V)
noncomputable abbrev VK:=V->Hp->Prop
noncomputable abbrev TE:=St->Hp->VK->Prop
noncomputable abbrev TT:=St->Hp->(Bool->Hp->Prop)->Prop
noncomputable abbrev TA:=St->Hp->(List V->Hp->Prop)->Prop
structure Ends where
 nx:St->Hp->Prop
 rt:VK
 bk:St->Hp->Prop:=fun _ _=>False
 ct:St->Hp->Prop:=fun _ _=>False
noncomputable abbrev TS:=Ends->St->Hp->Prop
noncomputable def EP (X:Cx) (pins:List (Addr×Obj)) (σ:St) (Q:VK) (u:Value) (s':Shared):Prop:=∃ v H',Inv X pins σ H' s'/\RelV v u/\Q v H'
noncomputable def TP (X:Cx) (pins:List (Addr×Obj)) (σ:St) (Q:Bool->Hp->Prop) (b:Bool) (s':Shared):Prop:=∃ H',Inv X pins σ H' s'/\Q b H'
noncomputable def AP (X:Cx) (pins:List (Addr×Obj)) (σ:St) (Q:List V->Hp->Prop) (us:List Value) (s':Shared):Prop:=∃ vs H',Inv X pins σ H' s'/\Vals vs us/\Q vs H'
noncomputable def SP (X:Cx) (pins:List (Addr×Obj)) (D:Ends) (f:Flow) (s':Shared):Prop :=
 match f with
 | .next=>∃ σ' H',Inv X pins σ' H' s'/\D.nx σ' H'
 | .brk=>∃ σ' H',Inv X pins σ' H' s'/\D.bk σ' H'
 | .cont=>∃ σ' H',Inv X pins σ' H' s'/\D.ct σ' H'
 | .ret u=>∃ v σ' H',Inv X pins σ' H' s'/\RelV v u/\D.rt v H'
noncomputable def PE (X:Cx) (e:Expr) (t:TE):Prop :=
 ∀ (pins:List (Addr×Obj)) (s:Shared) (σ:St) (H:Hp) (Q:VK),Inv X pins σ H s->t σ H Q->wpAny (model X.prog X.w) X.A (eval e X.env) (EP X pins σ Q) X.xe s
noncomputable def PT (X:Cx) (e:Expr) (t:TT):Prop :=
 ∀ (pins:List (Addr×Obj)) (s:Shared) (σ:St) (H:Hp) (Q:Bool->Hp->Prop),Inv X pins σ H s->t σ H Q->wpAny (model X.prog X.w) X.A (isTrue e X.env (eval e X.env)) (TP X pins σ Q) X.xe s
noncomputable def PW (X:Cx) (e:Expr) (t:TT):Prop :=
 ∀ (whole:Sem Value) (pins:List (Addr×Obj)) (s:Shared) (σ:St) (H:Hp) (Q:Bool->Hp->Prop),Inv X pins σ H s->t σ H Q->wpAny (model X.prog X.w) X.A (isTrue e X.env whole) (TP X pins σ Q) X.xe s
theorem PW.pt {X:Cx} {e:Expr} {t:TT} (h:PW X e t):PT X e t:=h _
noncomputable def PA (X:Cx) (es:List Expr) (t:TA):Prop :=
 ∀ (pos:Pos) (pins:List (Addr×Obj)) (s:Shared) (σ:St) (H:Hp) (Q:List V->Hp->Prop),Inv X pins σ H s->t σ H Q->wpAny (model X.prog X.w) X.A (spliced (backTo pos (starEach es X.env))) (AP X pins σ Q) X.xe s
noncomputable def PS (X:Cx) (st:Stmt) (t:TS):Prop :=
 ∀ (pins:List (Addr×Obj)) (s:Shared) (σ:St) (H:Hp) (D:Ends),Inv X pins σ H s->t D σ H->wpAny (model X.prog X.w) X.A (exec st X.env) (SP X pins D) X.xe s
noncomputable def PSs (X:Cx) (st:List Stmt) (t:TS):Prop :=
 ∀ (pins:List (Addr×Obj)) (s:Shared) (σ:St) (H:Hp) (D:Ends),Inv X pins σ H s->t D σ H->wpAny (model X.prog X.w) X.A (execs st X.env) (SP X pins D) X.xe s
theorem thn {α:Type} {t:Sem α} {Q Q':α->Shared->Prop} {M:Model} {A:Around} {E:Value->Shared->Prop} {s:Shared} (h:wpAny M A t Q E s) (hQ:∀ a s,Q a s->Q' a s):wpAny M A t Q' E s:=wpAny_mono h hQ fun _ _ x=>x
end L2
namespace L2
open PySem PySem.Spec PyProof.Rows
section
variable {X:Cx}
/-! ### names and constants -/
noncomputable def tVar (i:Nat):TE:=fun σ H Q=>∃ v,σ[i]?=some (some v)/\Q v H
noncomputable def tC (v:V):TE:=fun _ H Q=>Q v H
theorem pe_var {i:Nat} {x:Str} {pos:Pos} (hN:X.N[i]?=some x) (hv:Vis X.env.scope x) (hd:(x == ("__debug__" : Str))=false:=by decide) (hcd:(x == ("__classdict__" : Str))=false:=by decide):PE X (.Name x pos) (tVar i):=by
 intro pins s σ H Q I h
 obtain ⟨v,e,h⟩:=h
 obtain ⟨m,hn,hl⟩:=I.loc
 obtain ⟨u,r,l⟩:=hl i x v hN e hv
 have fin:EP X pins σ Q u s:=⟨v,H,I,r,h⟩
 rcases l with ⟨hk,hm⟩ | ⟨hk,c,hc,hcell⟩
 . exact wpAny_Name (wpAny_loadName_local I.ok.kind hk hn hm fin) hd
 . rcases hk with hk | hk
   . exact wpAny_Name (wpAny_loadName_cell I.ok.kind hk hc hcell fin) hd
   . exact wpAny_Name (wpAny_loadName_free I.ok.kind hk hc hcell fin hcd) hd
theorem za1 {i j pos}:PE X (.Constant (.int i) j pos) (tC (.int i)):=fun _ _ _ H _ I h=>wpAny_Constant_int ⟨.int i,H,I.tok _,⟨_,rfl⟩,h⟩
theorem zz5 {b j pos}:PE X (.Constant (.bool b) j pos) (tC (.bl b)):=fun _ _ _ H _ I h=>Constant_bool ⟨.bl b,H,I,rfl,h⟩
theorem zv2 {j pos}:PE X (.Constant .none j pos) (tC .non):=fun _ _ _ H _ I h=>Constant_none ⟨.non,H,I,rfl,h⟩
theorem ze0 {x j pos}:PE X (.Constant (.str x) j pos) (tC (.str x)):=fun _ _ _ H _ I h=>Calls.Constant_str ⟨.str x,H,I.tok _,⟨_,rfl⟩,h⟩
noncomputable def Gl (X:Cx) (x:Str):Prop:=X.env.kindOf x=some .globalImplicit
theorem zx4 {E:Value->Shared->Prop} {pins:List (Addr×Obj)} {s:Shared} {σ:St} {H:Hp} {x:Str} {u:Value} {pos:Pos} {Q:Value->Shared->Prop} (I:Inv X pins σ H s) (hg:Gl X x) (hm:X.mg x=some u) (h:Q u s)
   (hd:(x == ("__debug__" : Str))=false:=by decide):wpAny (model X.prog X.w) X.A (eval (.Name x pos) X.env) Q E s :=
 Calls.Name_function_global I.ok.kind hg (Calls.loadGlobal_global (by rw[I.ok.glob];exact I.mod.glob.keeps I.bk) hm h) hd
theorem zy9 {E:Value->Shared->Prop} {pins:List (Addr×Obj)} {s:Shared} {σ:St} {H:Hp} {x:Str} {u:Value} {pos:Pos} {Q:Value->Shared->Prop} (I:Inv X pins σ H s) (hg:Gl X x) (hm:X.mg x=none) (hv:bootBuiltins x=some u) (h:Q u s)
   (hn:x≠"__name__":=by decide) (hd:(x == ("__debug__" : Str))=false:=by decide):wpAny (model X.prog X.w) X.A (eval (.Name x pos) X.env) Q E s:=by
 obtain ⟨mb,h1,h2⟩:=I.mod.blt
 exact Calls.Name_function_global I.ok.kind hg (Calls.loadGlobal_builtin (by rw[I.ok.glob];exact I.mod.glob.keeps I.bk) hm (by rw[I.ok.blt];exact h1.keeps I.bk) ((h2 x hn).trans hv) h) hd
theorem zh4 {x:Str} {v:V} {u:Value} {pos:Pos} (hg:Gl X x) (hm:X.mg x=some u) (r:RelV v u) (hd:(x == ("__debug__" : Str))=false:=by decide):PE X (.Name x pos) (tC v) :=
 fun _ _ _ H _ I h=>zx4 I hg hm ⟨v,H,I,r,h⟩ hd
theorem zr2 {x:Str} {v:V} {u:Value} {pos:Pos} (hg:Gl X x) (hm:X.mg x=none) (hv:bootBuiltins x=some u) (r:RelV v u) (hn:x≠"__name__":=by decide) (hd:(x == ("__debug__" : Str))=false:=by decide):PE X (.Name x pos) (tC v) :=
 fun _ _ _ H _ I h=>zy9 I hg hm hv ⟨v,H,I,r,h⟩ hn hd
/-! ### arithmetic -/
variable {a b:Expr} {ta tb:TE} {pos:Pos}
/-! ### comparisons -/
noncomputable def tB (t:TE):TT:=fun σ H Q=>t σ H fun x H1=>∃ c,x = .bl c/\Q c H1
theorem zg1 {e:Expr} {t:TE} (h:PE X e t) (he:∀ whole,isTrue e X.env whole=(do let v <-whole;standAt e.pos;holding [v] (truthy v)):=by intro _;rfl):PT X e (tB t):=by
 intro pins s σ H Q I hw
 refine isTrue_plain (thn (h pins s σ H _ I hw) fun v s1 ⟨x,H1,I1,r1,q1⟩=>?_) (he _)
 obtain ⟨d,rfl,q⟩:=q1
 cases r1
 exact wpAny_truthy_bool ⟨H1,I1,q⟩
/-! ### and,or,not -/
variable {tA tB':TT} {rest:List Expr}
noncomputable def tAnd (t u:TT):TT:=fun σ H Q=>t σ H fun c H1=>if c=true then u σ H1 Q else Q false H1
noncomputable def tOr (t u:TT):TT:=fun σ H Q=>t σ H fun c H1=>if c=true then Q true H1 else u σ H1 Q
noncomputable def tNot (t:TT):TT:=fun σ H Q=>t σ H fun c H1=>Q (!c) H1
theorem zo2 (ha:PT X a tA):PW X (.BoolOp .And [a] pos) tA:=by
 intro wh pins s σ H Q I h
 refine isTrue_and (thn (ha pins s σ H Q I h) fun c s1 e=>?_)
 cases c with
 | true=>exact isTrue_and_nil e
 | false=>exact e
theorem zu4 (ha:PT X a tA):PW X (.BoolOp .Or [a] pos) tA:=by
 intro wh pins s σ H Q I h
 refine isTrue_or (thn (ha pins s σ H Q I h) fun c s1 e=>?_)
 cases c with
 | false=>exact isTrue_or_nil e
 | true=>exact e
theorem zs1 (ha:PT X a tA) (hb:PW X (.BoolOp .And (b::rest) pos) tB'):PW X (.BoolOp .And (a::b::rest) pos) (tAnd tA tB'):=by
 intro wh pins s σ H Q I h
 refine isTrue_and (thn (ha pins s σ H _ I h) fun c s1 ⟨H1,I1,q1⟩=>?_)
 cases c with
 | true=>exact hb wh pins s1 σ H1 Q I1 q1
 | false=>exact⟨H1,I1,q1⟩
theorem zv3 (ha:PT X a tA) (hb:PW X (.BoolOp .Or (b::rest) pos) tB'):PW X (.BoolOp .Or (a::b::rest) pos) (tOr tA tB'):=by
 intro wh pins s σ H Q I h
 refine isTrue_or (thn (ha pins s σ H _ I h) fun c s1 ⟨H1,I1,q1⟩=>?_)
 cases c with
 | true=>exact⟨H1,I1,q1⟩
 | false=>exact hb wh pins s1 σ H1 Q I1 q1
theorem zs2 (ha:PT X a tA):PT X (.UnaryOp .Not a pos) (tNot tA):=by
 intro pins s σ H Q I h
 exact isTrue_not (ha pins s σ H (fun c H1=>Q (!c) H1) I h)
noncomputable def tAndV (ta tb:TE):TE:=fun σ H Q=>ta σ H fun x H1=>∃ c,x = .bl c/\if c=true then tb σ H1 Q else Q (.bl false) H1
noncomputable def tOrV (ta tb:TE):TE:=fun σ H Q=>ta σ H fun x H1=>∃ c,x = .bl c/\if c=true then Q (.bl true) H1 else tb σ H1 Q
noncomputable def tNotV (ta:TE):TE:=fun σ H Q=>ta σ H fun x H1=>∃ c,x = .bl c/\Q (.bl (!c)) H1
theorem zC2 {op} {t:TE} (h:PE X a t):PE X (.BoolOp op [a] pos) t:=fun pins s σ H Q I hw=>BoolOp_one (h pins s σ H Q I hw)
theorem zF2 (ha:PE X a ta) (hb:PE X (.BoolOp .And (b::rest) pos) tb):PE X (.BoolOp .And (a::b::rest) pos) (tAndV ta tb):=by
 intro pins s σ H Q I h
 refine BoolOp_and (thn (ha pins s σ H _ I h) fun v s1 ⟨x,H1,I1,r1,q1⟩=>?_)
 obtain ⟨c,rfl,q1⟩:=q1
 cases r1
 refine wpAny_truthy_bool ?_
 cases c with
 | true=>exact hb pins s1 σ H1 Q I1 q1
 | false=>exact⟨.bl false,H1,I1,rfl,q1⟩
theorem pe_or (ha:PE X a ta) (hb:PE X (.BoolOp .Or (b::rest) pos) tb):PE X (.BoolOp .Or (a::b::rest) pos) (tOrV ta tb):=by
 intro pins s σ H Q I h
 refine BoolOp_or (thn (ha pins s σ H _ I h) fun v s1 ⟨x,H1,I1,r1,q1⟩=>?_)
 obtain ⟨c,rfl,q1⟩:=q1
 cases r1
 refine wpAny_truthy_bool ?_
 cases c with
 | false=>exact hb pins s1 σ H1 Q I1 q1
 | true=>exact⟨.bl true,H1,I1,rfl,q1⟩
theorem zO1 (ha:PE X a ta):PE X (.UnaryOp .Not a pos) (tNotV ta):=by
 intro pins s σ H Q I h
 refine UnaryOp_ (thn (ha pins s σ H _ I h) fun v s1 ⟨x,H1,I1,r1,q1⟩=>?_)
 obtain ⟨c,rfl,q1⟩:=q1
 cases r1
 exact not_of (wpAny_truthy_bool ⟨.bl (!c),H1,I1,rfl,q1⟩)
end
end L2
namespace L2
open PySem PySem.Spec PyProof.Rows
/-! ### a list,a tuple that is read: tracked,frozen,or an object of the module -/
noncomputable def SqL (K:PySem.W.Frag) (H:Hp) (a:Addr) (xs:List V):Prop :=
 Rd H a (.lst xs) ∨
   ∃ (o:Obj) (its:Array Value) (n:Nat),K.lookup a=some o/\o.cls = .type "list"/\o.dict=none/\o.data = .seq its n/\its.size<=sizeLine/\Vals xs its.toList
noncomputable def SqT (K:PySem.W.Frag) (H:Hp) (a:Addr) (xs:List V):Prop :=
 Rd H a (.tup xs) ∨
   ∃ (o:Obj) (its:Array Value) (n:Nat),K.lookup a=some o/\o.cls = .type "tuple"/\o.data = .seq its n/\its.size<=sizeLine/\Vals xs its.toList
noncomputable def absV:Value->Option V
 | .none=>some .non
 | .bool b=>some (.bl b)
 | .int i _=>some (.int i)
 | .str x _=>some (.str x)
 | .bytes b _=>some (.byt b)
 | .float b _=>some (.flt b)
 | .ref a=>some (.ref a)
 | .type n=>some (.ty n)
 | _=>none
theorem RelV.abs {x:V} {u:Value} (r:RelV x u):absV u=some x:=by
 cases x with
 | non=>cases r;rfl
 | bl _=>cases r;rfl
 | int _=>obtain ⟨t,rfl⟩:=r;rfl
 | str _=>obtain ⟨t,rfl⟩:=r;rfl
 | byt _=>obtain ⟨t,rfl⟩:=r;rfl
 | flt _=>obtain ⟨t,rfl⟩:=r;rfl
 | ref _=>cases r;rfl
 | ty _=>cases r;rfl
theorem RelV.inj {x y:V} {u:Value} (r:RelV x u) (q:RelV y u):x=y:=Option.some.inj (r.abs.symm.trans q.abs)
theorem Vals.inj:∀ {xs ys:List V} {us:List Value},Vals xs us->Vals ys us->xs=ys
 | _,_,_,.nil,.nil=>rfl
 | _,_,_,.cons r t,.cons r' t'=>by rw[r.inj r',Vals.inj t t']
section
variable {X:Cx} {pins:List (Addr×Obj)} {σ:St} {H:Hp} {s:Shared} {a:Addr} {xs ys:List V}
theorem SqL.of {K:PySem.W.Frag} (h:H a=some (.lst xs)):SqL K H a xs:=.inl (.inl h)
theorem SqT.of {K:PySem.W.Frag} (h:H a=some (.tup xs)):SqT K H a xs:=.inl (.inl h)
theorem Inv.list (I:Inv X pins σ H s) (h:SqL X.K H a xs):∃ its:List Value,Vals xs its/\PlainL s.heap a its.toArray/\xs.length<=sizeLine:=by
 rcases h with h | ⟨o,its,n,hk,hc,hd,hs,hz,r⟩
 . obtain ⟨z,its,n,r,e⟩:=h.ok I.hok
   exact⟨its,r,⟨_,n,e,rfl,rfl,rfl⟩,z⟩
 . refine⟨its.toList,r,⟨o,n,I.kIn a o hk,hc,hd,by simpa using hs⟩,?_⟩
   have e:=r.length
   simp only[Array.length_toList] at e
   omega
theorem Inv.tuple (I:Inv X pins σ H s) (h:SqT X.K H a xs):∃ its:List Value,Vals xs its/\IsTup s.heap a its.toArray/\xs.length<=sizeLine:=by
 rcases h with h | ⟨o,its,n,hk,hc,hs,hz,r⟩
 . obtain ⟨z,its,r,p⟩:=h.ok I.hok
   exact⟨its,r,p.isTup,z⟩
 . refine⟨its.toList,r,⟨o,I.kIn a o hk,hc,n,by simpa using hs⟩,?_⟩
   have e:=r.length
   simp only[Array.length_toList] at e
   omega
theorem Inv.list_inj (I:Inv X pins σ H s) (h:SqL X.K H a xs) (h':SqL X.K H a ys):xs=ys:=by
 obtain ⟨its,r,⟨o,n,e,_,_,d⟩,_⟩:=I.list h
 obtain ⟨its',r',⟨o',n',e',_,_,d'⟩,_⟩:=I.list h'
 rw[e] at e';cases e'
 rw[d] at d'
 injection d' with d1 _
 have:its=its':=by simpa using congrArg Array.toList d1
 subst this
 exact r.inj r'
theorem Inv.tuple_inj (I:Inv X pins σ H s) (h:SqT X.K H a xs) (h':SqT X.K H a ys):xs=ys:=by
 obtain ⟨its,r,⟨o,e,_,n,d⟩,_⟩:=I.tuple h
 obtain ⟨its',r',⟨o',e',_,n',d'⟩,_⟩:=I.tuple h'
 rw[e] at e';cases e'
 rw[d] at d'
 injection d' with d1 _
 have:its=its':=by simpa using congrArg Array.toList d1
 subst this
 exact r.inj r'
end
/-! ### another wish about exceptions -/
noncomputable abbrev Cx.wish (X:Cx) (E:Value->Shared->Prop):Cx:={ X with xe:=E }
noncomputable abbrev Cx.nox (X:Cx):Cx:=X.wish fun _ _=>False
theorem Cx.Ok.wish {X:Cx} (ok:X.Ok) (E:Value->Shared->Prop):(X.wish E).Ok :=
 ⟨ok.mod,ok.kind,ok.glob,ok.blt,ok.above,ok.inj,ok.has,ok.cab,ok.hd,ok.frames,ok.stk,ok.exf,ok.bs,ok.bsz,ok.noex,ok.exfs,ok.funs,ok.frf⟩
theorem Cx.Ok.unwish {X:Cx} {E:Value->Shared->Prop} (ok:(X.wish E).Ok):X.Ok :=
 ⟨ok.mod,ok.kind,ok.glob,ok.blt,ok.above,ok.inj,ok.has,ok.cab,ok.hd,ok.frames,ok.stk,ok.exf,ok.bs,ok.bsz,ok.noex,ok.exfs,ok.funs,ok.frf⟩
section
variable {X:Cx} {pins:List (Addr×Obj)} {σ:St} {H:Hp} {s:Shared} {E:Value->Shared->Prop}
theorem Inv.wish (I:Inv X pins σ H s) (E:Value->Shared->Prop):Inv (X.wish E) pins σ H s:=⟨I.ok.wish E,I.os,I.bare,I.base,I.loc,I.cell,I.free,I.freeC,I.pin,I.hok,I.len⟩
theorem Inv.unwish (I:Inv (X.wish E) pins σ H s):Inv X pins σ H s:=⟨I.ok.unwish,I.os,I.bare,I.base,I.loc,I.cell,I.free,I.freeC,I.pin,I.hok,I.len⟩
theorem SP.unwish {D:Ends} {f:Flow} {s':Shared} (h:SP (X.wish E) pins D f s'):SP X pins D f s':=by
 cases f with
 | next=>obtain ⟨σ',H',I,q⟩:=h;exact⟨σ',H',I.unwish,q⟩
 | brk=>obtain ⟨σ',H',I,q⟩:=h;exact⟨σ',H',I.unwish,q⟩
 | cont=>obtain ⟨σ',H',I,q⟩:=h;exact⟨σ',H',I.unwish,q⟩
 | ret u=>obtain ⟨v,σ',H',I,r,q⟩:=h;exact⟨v,σ',H',I.unwish,r,q⟩
theorem PSs.nox {st:List Stmt} {t:TS} (h:PSs X.nox st t):PSs X st t:=fun pins s σ H D I hw =>
 wpAny_mono (h pins s σ H D (I.wish _) hw) (fun _ _ q=>q.unwish) fun _ _ z=>False.elim z
end
/-! ### blocks and small statements -/
section
variable {X:Cx} {st:Stmt} {rest:List Stmt} {t u:TS} {e:Expr} {te:TE} {pos:Pos}
noncomputable def zU4:TS:=fun D σ H=>D.nx σ H
noncomputable def tSeq (t u:TS):TS:=fun D σ H=>t { D with nx:=u D } σ H
theorem zb8:PSs X [] zU4:=fun _ _ σ H _ I h=>wpAny_execs_nil ⟨σ,H,I,h⟩
theorem za4 (h1:PS X st t) (h2:PSs X rest u):PSs X (st::rest) (tSeq t u):=by
 intro pins s σ H D I h
 refine wpAny_execs_cons (thn (h1 pins s σ H { D with nx:=u D } I h) fun f s1 q=>?_)
 cases f with
 | next =>
   obtain ⟨σ',H',I',q⟩:=q
   exact h2 pins s1 σ' H' D I' q
 | ret v=>exact q
 | brk=>exact q
 | cont=>exact q
theorem za6 (h1:PS X st t):PSs X [st] t:=by
 intro pins s σ H D I h
 refine wpAny_execs_cons (thn (h1 pins s σ H D I h) fun f s1 q=>?_)
 cases f with
 | next=>exact wpAny_execs_nil q
 | ret v=>exact q
 | brk=>exact q
 | cont=>exact q
theorem Inv.quiet {pins:List (Addr×Obj)} {σ:St} {H:Hp} {s:Shared} (I:Inv X pins σ H s):interactive X.env=false:=by simp[interactive,I.ok.kind]
noncomputable def tDrop (te:TE):TS:=fun D σ H=>te σ H fun _ H1=>D.nx σ H1
theorem zf4 (he:PE X e te) (hs:swapsWith e none pos.line X.env=pure false:=by rfl):PS X (.Expr e pos) (tDrop te):=by
 intro pins s σ H D I h
 exact wpAny_Expr_any (thn (he pins s σ H _ I h) fun v s1 ⟨x,H1,I1,r1,q1⟩=>⟨σ,H1,I1,q1⟩) I.quiet hs
noncomputable def tRet (te:TE):TS:=fun D σ H=>te σ H D.rt
theorem zc4 (he:PE X e te):PS X (.Return (some e) pos) (tRet te):=by
 intro pins s σ H D I h
 exact wpAny_Return_some (thn (he pins s σ H _ I h) fun v s1 ⟨x,H1,I1,r1,q1⟩=>⟨x,σ,H1,I1,r1,q1⟩)
noncomputable def tIfS (c:TT) (t u:TS):TS:=fun D σ H=>c σ H fun b H1=>if b=true then t D σ H1 else u D σ H1
theorem zd2 {c:Expr} {a b:List Stmt} {tc:TT} (hc:PT X c tc) (ha:PSs X a t) (hb:PSs X b u):PS X (.If c a b pos) (tIfS tc t u):=by
 intro pins s σ H D I h
 refine wpAny_If (thn (hc pins s σ H _ I h) fun d s1 ⟨H1,I1,q1⟩=>?_)
 cases d with
 | true=>exact ha pins s1 σ H1 D I1 q1
 | false=>exact hb pins s1 σ H1 D I1 q1
noncomputable def tNever:TS:=fun _ _ _=>False
theorem zj1:PS X st tNever:=fun _ _ _ _ _ _ h=>h.elim
end
/-! ### targets -/
noncomputable abbrev TG:=V->St->Hp->(St->Hp->Prop)->Prop
noncomputable abbrev TGs:=List V->St->Hp->(St->Hp->Prop)->Prop
noncomputable def PG (X:Cx) (target:Expr) (t:TG):Prop :=
 ∀ (pins:List (Addr×Obj)) (s:Shared) (σ:St) (H:Hp) (v:V) (u:Value) (Q:St->Hp->Prop),Inv X pins σ H s->RelV v u->t v σ H Q →
   wpAny (model X.prog X.w) X.A (assign target X.env u) (fun _ s'=>∃ σ' H',Inv X pins σ' H' s'/\Q σ' H') X.xe s
noncomputable def PGs (X:Cx) (ts:List Expr) (t:TGs):Prop :=
 ∀ (pins:List (Addr×Obj)) (s:Shared) (σ:St) (H:Hp) (vs:List V) (us:List Value) (Q:St->Hp->Prop),Inv X pins σ H s->Vals vs us->t vs σ H Q →
   wpAny (model X.prog X.w) X.A (assignInOrder ((assignEach ts X.env).map (·.2)) us) (fun _ s'=>∃ σ' H',Inv X pins σ' H' s'/\Q σ' H') X.xe s
noncomputable abbrev TSet:=V->V->V->Hp->(Hp->Prop)->Prop
noncomputable def PSet (X:Cx) (t:TSet):Prop :=
 ∀ (pins:List (Addr×Obj)) (s:Shared) (σ:St) (H:Hp) (o i v:V) (ov iv u:Value) (Q:Hp->Prop),Inv X pins σ H s->RelV o ov->RelV i iv->RelV v u->t o i v H Q →
   wpAny (model X.prog X.w) X.A (setItem ov iv u) (fun _ s'=>∃ H',Inv X pins σ H' s'/\Q H') X.xe s
section
variable {X:Cx} {pos:Pos}
noncomputable def zl6 (i:Nat):TG:=fun v σ H Q=>Q (σ.set i (some v)) H
theorem zc6 {i:Nat} {x:Str} (hN:X.N.Nodup) (hi:X.N[i]?=some x) (hx:Loc X.env.scope x) (hf:X.fn x=true\/X.env.scope.names.lookup x=some .local:=by first | exact .inl rfl | exact .inr rfl | assumption):PG X (.Name x pos) (zl6 i):=by
 intro pins s σ H v u Q I r h
 exact wpAny_assign_Name (zv1 I hN hi hx r (fun s' I'=>⟨_,H,I',h⟩) hf)
noncomputable def gNil:TGs:=fun vs σ H Q=>vs=[]/\Q σ H
noncomputable def zL9 (t:TG) (u:TGs):TGs:=fun vs σ H Q=>∃ v r,vs=v::r/\t v σ H fun σ' H'=>u r σ' H' Q
theorem zl7:PGs X [] gNil:=by
 intro pins s σ H vs us Q I r h
 obtain ⟨e,h⟩:=h
 subst e
 cases r
 exact assignInOrder_nil ⟨σ,H,I,h⟩
theorem zd1 {e:Expr} {es:List Expr} {t:TG} {u:TGs} (h1:PG X e t) (h2:PGs X es u)
   (hs:(assignEach (e::es) X.env).map (·.2)=assign e X.env::(assignEach es X.env).map (·.2):=by rfl):PGs X (e::es) (zL9 t u):=by
 intro pins s σ H vs us Q I r h
 obtain ⟨v,vr,e1,h⟩:=h
 subst e1
 cases r with
 | cons r rr =>
   rw[hs]
   refine assignInOrder_cons (thn (h1 pins s σ H _ _ _ I r h) fun _ s1 ⟨σ1,H1,I1,q1⟩=>?_)
   exact h2 pins s1 σ1 H1 _ _ Q I1 rr q1
noncomputable def gTup (K:PySem.W.Frag) (n:Nat) (t:TGs):TG:=fun v σ H Q=>∃ a xs,v = .ref a/\SqT K H a xs/\xs.length=n/\t xs σ H Q
theorem zR9 {es:List Expr} {k:Nat} {t:TGs} {n:Nat} (hc:X.calm=true) (h:PGs X es t)
   (hn:(assignEach es X.env).length=n:=by rfl) (hst:(assignEach es X.env).findIdx? (·.1)=none:=by rfl):PG X (.Tuple es k pos) (gTup X.K n t):=by
 intro pins s σ H v u Q I r hw
 obtain ⟨a,xs,e1,hq,hl,hw⟩:=hw
 subst e1
 cases r
 obtain ⟨its,rv,ht,hz⟩:=I.tuple hq
 refine assign_Tuple_tuple (I.ok.hd hc) ht (by simp[hn,<-hl,rv.length]) hst fun h' hx=>?_
 have I1:Inv X pins σ H { s with heap:=h' }:=I.kept (t':=s.toks) fun b o e=>hx b o (Nat.ne_of_lt (Heap.lt_size e)) e
 exact h pins _ σ H xs _ Q I1 (by simpa using rv) hw
noncomputable def gSub (to ti:TE) (t:TSet):TG:=fun v σ H Q=>to σ H fun o H1=>ti σ H1 fun i H2=>t o i v H2 fun H3=>Q σ H3
theorem pg_sub {o i:Expr} {to ti:TE} {t:TSet} (ho:PE X o to) (hi:PE X i ti) (hs:PSet X t)
   (ha:∀ v,assign (.Subscript o i pos) X.env v=(do
     let ov <-holding [v] (eval o X.env)
     let iv <-holding [v,ov] (eval i X.env)
     standAt pos
     holding [v,ov,iv] (setItem ov iv v)
     release [v,ov,iv] []):=by intro _;rfl):PG X (.Subscript o i pos) (gSub to ti t):=by
 intro pins s σ H v u Q I r h
 rw[ha]
 refine wpAny_bind (wpAny_holding (thn (ho pins s σ H _ I h) fun ov s1 ⟨x,H1,I1,r1,q1⟩=>?_))
 refine wpAny_bind (wpAny_holding (thn (hi pins s1 σ H1 _ I1 q1) fun iv s2 ⟨y,H2,I2,r2,q2⟩=>?_))
 refine wpAny_bind (wpAny_standAt (wpAny_bind (wpAny_holding (thn (hs pins s2 σ H2 x y v ov iv u _ I2 r1 r2 r q2) fun _ s3 ⟨H3,I3,q3⟩=>?_))))
 exact wpAny_release ⟨σ,H3,I3,q3⟩
noncomputable def tAsg (te:TE) (g:TG):TS:=fun D σ H=>te σ H fun x H1=>g x σ H1 D.nx
theorem zs3 {tg e:Expr} {te:TE} {g:TG} (he:PE X e te) (hg:PG X tg g) (hs:swapsWithSole [tg] e pos.line X.env=pure false:=by rfl) (hw:swappedStores [tg] e X.env=pure none:=by rfl)
   (h1:(assignEach [tg] X.env).map (·.2)=[assign tg X.env]:=by rfl):PS X (.Assign [tg] e pos) (tAsg te g):=by
 intro pins s σ H D I h
 refine wpAny_Assign_stores (thn (he pins s σ H _ I h) fun v s1 ⟨x,H1,I1,r1,q1⟩=>?_) hs hw
 rw[h1]
 exact thn (hg pins s1 σ H1 x v _ I1 r1 q1) fun _ s2 q=>q
theorem zb6 {i:Nat} {x:Str} {e:Expr} {te:TE} {pos':Pos} (hN:X.N.Nodup) (hi:X.N[i]?=some x) (hx:Loc X.env.scope x) (he:PE X e te) (hs:swapsWith e (some (.Name x pos')) pos.line X.env=pure false:=by rfl) (hf:X.fn x=true\/X.env.scope.names.lookup x=some .local:=by first | exact .inl rfl | exact .inr rfl | assumption) :
   PS X (.Assign [.Name x pos'] e pos) (tAsg te (zl6 i)):=by
 intro pins s σ H D I h
 refine wpAny_Assign_Name (thn (he pins s σ H _ I h) fun v s1 ⟨y,H1,I1,r1,q1⟩=>?_) hs
 exact zv1 I1 hN hi hx r1 (fun s2 I2=>⟨_,H1,I2,q1⟩) hf
noncomputable def tPar (i j:Nat) (ta:TA):TS:=fun D σ H=>ta σ H fun vs H1=>∃ v w,vs=[v,w]/\D.nx ((σ.set i (some v)).set j (some w)) H1
theorem ps_par {i j:Nat} {x y:Str} {a b:Expr} {ta:TA} {px py pt:Pos} {kt k2 pt2} (hc:X.calm=true) (hN:X.N.Nodup) (hi:X.N[i]?=some x) (hj:X.N[j]?=some y) (hij:i≠j)
   (hx:X.env.scope.names.lookup x=some .local) (hy:X.env.scope.names.lookup y=some .local) (ha:PA X [a,b] ta)
   (hw:swappedStores [.Tuple [.Name x px,.Name y py] kt pt] (.Tuple [a,b] k2 pt2) X.env=pure (some [x,y]))
   (hs:swapsWithSole [.Tuple [.Name x px,.Name y py] kt pt] (.Tuple [a,b] k2 pt2) pos.line X.env=pure false:=by rfl) :
   PS X (.Assign [.Tuple [.Name x px,.Name y py] kt pt] (.Tuple [a,b] k2 pt2) pos) (tPar i j ta):=by
 intro pins s σ H D I h
 rw[exec_Assign_arm]
 refine wpAny_bind (wpAny_standAt ?_)
 rw[hs]
 refine wpAny_bind (wpAny_pure ?_)
 rw[if_neg (by decide)]
 refine wpAny_bind (Tuple_ (thn (ha _ pins s σ H _ I h) fun us s1 ⟨vs,H1,I1,r1,q1⟩=>?_))
 obtain ⟨v,w,e1,q1⟩:=q1
 subst e1
 obtain ⟨u1,u2,rfl,rv,rw'⟩:∃ u1 u2,us=[u1,u2]/\RelV v u1/\RelV w u2:=by
   cases r1 with
   | cons p q =>
     cases q with
     | cons p' q' =>
       cases q'
       exact⟨_,_,rfl,p,p'⟩
 refine wpAny_newObj_type ?_ (by show 2<=sizeLine;decide)
 have I2:Inv X pins σ H1 { s1 with heap:=s1.heap.push { cls:=.type "tuple",data:=.seq [u1,u2].toArray } }:=I1.kept (t':=s1.toks) fun b o e=>Heap.get?_push_of_some _ e
 rw[hw]
 refine wpAny_bind (wpAny_pure ?_)
 show wpAny (model X.prog X.w) X.A (do rule "assign.swapped-stores";let items <-unpackItems (.ref s1.heap.objs.size) 2 none;assignInOrder [fun v=>bindName X.env y v,fun v=>bindName X.env x v] items.reverse;pure Flow.next) _ _ _
 refine wpAny_bind (wpAny_rule (wpAny_bind (unpackItems_tuple (items:=#[u1,u2]) (I.ok.hd hc) (IsTup.new s1.heap _) fun h' hx'=>?_)))
 have I3:=I2.kept (h':=h') (t':=s1.toks) fun b o e=>hx' b o (Nat.ne_of_lt (Heap.lt_size e)) e
 show wpAny _ _ (assignInOrder [fun v=>bindName X.env y v,fun v=>bindName X.env x v] [u2,u1] >>= fun _=>pure Flow.next) _ _ _
 refine wpAny_bind (assignInOrder_cons (wpAny_bindName (zv1 I3 hN hj (.inl hy) rw' (fun s2 I4=>?_) (.inr hy))))
 refine assignInOrder_cons (wpAny_bindName (zv1 I4 hN hi (.inl hx) rv (fun s3 I5=>assignInOrder_nil (wpAny_pure ?_)) (.inr hx)))
 rw[List.set_comm _ _ (Ne.symm hij)] at I5
 exact⟨_,H1,I5,q1⟩
end
/-! ### while -/
section
variable {X:Cx} {pos:Pos}
end
/-! ### what a loop or a comprehension walks -/
structure It where
 go:Nat->Hp->Prop
 yld:Nat->Hp->V->Hp->Prop
 stop:Nat->Hp->Prop
noncomputable def FpOk (X:Cx) (pins:List (Addr×Obj)) (H:Hp) (b:Addr):Prop :=
 H b=none/\b≠X.env.locals/\b∉X.fs/\(b∈X.ex\/X.s₀.heap.objs.size<=b)/\(∀ x c,X.env.cells.lookup x=some c->c≠b)/\∀ p∈X.pn++pins,p.1≠b
theorem Inv.fpOk {X:Cx} {pins:List (Addr×Obj)} {σ:St} {H H':Hp} {s:Shared} {b:Addr} (I:Inv X pins σ H s) (hb:s.heap.objs.size<=b) (hn:H' b=none):FpOk X pins H' b:=by
 refine⟨hn,Nat.ne_of_gt (Nat.lt_of_lt_of_le I.lt hb),I.nofs hb,.inr (Nat.le_trans I.sz hb),fun x c e z=>?_,fun p hp z=>?_⟩
 . obtain ⟨v,q⟩:=I.cell x c e
   exact absurd (Nat.lt_of_lt_of_le q.lt (by rw[z];exact hb)) (Nat.lt_irrefl _)
 . exact absurd (Nat.lt_of_lt_of_le (Heap.lt_size (I.pin p hp).1) (by rw[z];exact hb)) (Nat.lt_irrefl _)
structure Turn (P:Program) (w:World) (K:PySem.W.Frag) (tg:Expr) (J:It) (fp:List Addr) (it:Addr) (tn:Nat->Heap->Prop):Prop where
 mem:it∈fp
 obj:∀ i h,tn i h->∀ b∈fp,∃ o,h.get? b=some o/\∀ v,o.data≠.cell v
 keep:∀ i h h',tn i h->(∀ b∈fp,∀ o,h.get? b=some o->h'.get? b=some o)->tn i h'
 item:∀ (X:Cx),X.prog=P->X.w=w->X.K=K->X.calm=true->∀ (i:Nat) (pins:List (Addr×Obj)) (s:Shared) (σ:St) (H:Hp) (E:Value->Shared->Prop),Inv X pins σ H s->(∀ b∈fp,FpOk X pins H b)->tn i s.heap->J.go i H →
   wpAny (model P w) X.A (pyNext (.ref it)) (fun r s1=>∃ u,r=some u ∧
     wpAny (model P w) X.A (letOwnedTupleGo tg (.ref it) u) (fun _ s2=>∃ x H',Inv X pins σ H' s2/\RelV x u/\J.yld i H x H'/\tn (i+1) s2.heap/\∀ b∈fp,H' b=none) E s1) E s
 done:∀ (X:Cx),X.prog=P->X.w=w->X.K=K->X.calm=true->∀ (i:Nat) (pins:List (Addr×Obj)) (s:Shared) (σ:St) (H:Hp) (E:Value->Shared->Prop),Inv X pins σ H s->(∀ b∈fp,FpOk X pins H b)->tn i s.heap->J.stop i H →
   wpAny (model P w) X.A (pyNext (.ref it)) (fun r s1=>r=none/\Inv X pins σ H s1) E s
 self:∀ (A:Around) (i:Nat) (s:Shared) (Q:Value->Shared->Prop) (E:Value->Shared->Prop),tn i s.heap->Q (.ref it) s->wpAny (model P w) A (pyIter (.ref it)) Q E s
noncomputable abbrev TI:=St->Hp->(It->Hp->Prop)->Prop
noncomputable def PIE (X:Cx) (pins:List (Addr×Obj)) (σ:St) (tg:Expr) (R:It->Hp->Prop) (itv:Value) (s2:Shared):Prop :=
 ∃ (it:Addr) (fp:List Addr) (tn:Nat->Heap->Prop) (J:It) (H':Hp),itv = .ref it/\Inv X pins σ H' s2/\Turn X.prog X.w X.K tg J fp it tn/\tn 0 s2.heap/\(∀ b∈fp,FpOk X pins H' b)/\R J H'
noncomputable def PI (X:Cx) (tg iter:Expr) (wi:TI):Prop :=
 ∀ (pins:List (Addr×Obj)) (s:Shared) (σ:St) (H:Hp) (R:It->Hp->Prop),Inv X pins σ H s->wi σ H R →
   wpAny (model X.prog X.w) X.A (eval iter X.env) (fun v s1=>wpAny (model X.prog X.w) X.A (pyIter v) (PIE X pins σ tg R) X.xe s1) X.xe s
theorem zS0 {M:Model} {A:Around} {E:Value->Shared->Prop} {s:Shared} {tg:Expr} {it:Addr} {u:Value} {o:Obj} {n:String} {vs:Array Value} {Q:Unit->Shared->Prop} (ho:s.heap.get? it=some o) (hc:o.cls = .type n) (hd:o.data = .fields vs)
   (hn:["enumerate","zip","dict_itemiterator","dict_reverseitemiterator","odict_iterator","itertools.zip_longest","itertools.pairwise"].contains n=false) (hQ:Q () s):wpAny M A (letOwnedTupleGo tg (.ref it) u) Q E s:=by
 unfold letOwnedTupleGo
 cases tg<;>first
   | exact wpAny_pure hQ
   | (cases u<;>first
       | exact wpAny_pure hQ
       | (refine wpAny_bind (wpAny_load ho ?_)
          rw[hc,hd]
          show wpAny M A (if (["enumerate","zip","dict_itemiterator","dict_reverseitemiterator","odict_iterator","itertools.zip_longest","itertools.pairwise"].contains n && vs[0]? == some (rawInt _))=true then _ else _) Q E s
          rw[if_neg (by intro h;rw[hn,Bool.false_and] at h;cases h)]
          exact wpAny_pure hQ))
noncomputable def Itl (K:PySem.W.Frag) (a:Addr):It :=
 ⟨fun i H=>∃ xs x,SqL K H a xs/\xs[i]?=some x,fun i H x H'=>H'=H/\∀ xs,SqL K H a xs->xs[i]?=some x,fun i H=>∃ xs,SqL K H a xs/\xs.length<=i⟩
noncomputable def Itt (K:PySem.W.Frag) (a:Addr):It :=
 ⟨fun i H=>∃ xs x,SqT K H a xs/\xs[i]?=some x,fun i H x H'=>H'=H/\∀ xs,SqT K H a xs->xs[i]?=some x,fun i H=>∃ xs,SqT K H a xs/\xs.length<=i⟩
noncomputable def Itr (lo:Int) (n:Nat):It:=⟨fun i _=>i<n,fun i H x H'=>H'=H/\x = .int (lo+i),fun i _=>n<=i⟩
theorem zH1 {P:Program} {w:World} {K:PySem.W.Frag} {tg:Expr} (a it:Addr):Turn P w K tg (Itl K a) [it] it (fun i h=>h.IsListIter it a i) where
 mem:=by simp
 obj:=fun i h st b hb=>by
   have e:b=it:=by simpa using hb
   subst e
   obtain ⟨o,e,c,d⟩:=st
   exact⟨o,e,fun v z=>by rw[d] at z;cases z⟩
 keep:=fun i h h' st k=>st.at fun o e=>k it (by simp) o e
 item:=by
   intro X hP hw hK hc i pins s σ H E I hf st hg
   subst hP hw hK
   obtain ⟨xs,x,hq,hx⟩:=hg
   obtain ⟨its,rv,p,hz⟩:=I.list hq
   obtain ⟨u,hu,ru⟩:=rv.get hx
   obtain ⟨f0,f1,f2,f3,f4,f5⟩:=hf it (by simp)
   refine wpAny_pyNext_list_item st p.isList (x:=u) (by simpa using hu) fun h' st' sb=>?_
   have I1:Inv X pins σ H { s with heap:=h' }:=I.turned (t':=s.toks) (fun b o hb e=>(sb.2 b hb).trans e) f0 f1 f3 f4 f5
   obtain ⟨o,e,c,d⟩:=id st'
   exact⟨u,rfl,zS0 (s:={ s with heap:=h' }) e c d (by decide) ⟨x,H,I1,ru,⟨rfl,fun ys hy=>by rw[I.list_inj hy hq];exact hx⟩,st',fun b hb=>(hf b hb).1⟩⟩
 done:=by
   intro X hP hw hK hc i pins s σ H E I hf st hg
   subst hP hw hK
   obtain ⟨xs,hq,hx⟩:=hg
   obtain ⟨its,rv,p,hz⟩:=I.list hq
   obtain ⟨f0,f1,f2,f3,f4,f5⟩:=hf it (by simp)
   have hl:=rv.length
   exact wpAny_pyNext_list_end (I.ok.hd hc) st p.isList (by simp;omega) fun h' eb=>⟨rfl,I.turned (t':=s.toks) (fun b o hb e=>eb b o hb e) f0 f1 f3 f4 f5⟩
 self:=fun _ _ _ _ _ st h=>wpAny_pyIter_listiter st h
theorem zF3 {P:Program} {w:World} {K:PySem.W.Frag} {tg:Expr} (a it:Addr):Turn P w K tg (Itt K a) [it] it (fun i h=>h.IsTupleIter it a i) where
 mem:=by simp
 obj:=fun i h st b hb=>by
   have e:b=it:=by simpa using hb
   subst e
   obtain ⟨o,e,c,d⟩:=st
   exact⟨o,e,fun v z=>by rw[d] at z;cases z⟩
 keep:=fun i h h' st k=>st.at fun o e=>k it (by simp) o e
 item:=by
   intro X hP hw hK hc i pins s σ H E I hf st hg
   subst hP hw hK
   obtain ⟨xs,x,hq,hx⟩:=hg
   obtain ⟨its,rv,p,hz⟩:=I.tuple hq
   obtain ⟨u,hu,ru⟩:=rv.get hx
   obtain ⟨f0,f1,f2,f3,f4,f5⟩:=hf it (by simp)
   refine wpAny_pyNext_tuple_item st (show s.heap.IsTuple a its.toArray from p) (x:=u) (by simpa using hu) fun h' st' sb=>?_
   have I1:Inv X pins σ H { s with heap:=h' }:=I.turned (t':=s.toks) (fun b o hb e=>(sb.2 b hb).trans e) f0 f1 f3 f4 f5
   obtain ⟨o,e,c,d⟩:=id st'
   exact⟨u,rfl,zS0 (s:={ s with heap:=h' }) e c d (by decide) ⟨x,H,I1,ru,⟨rfl,fun ys hy=>by rw[I.tuple_inj hy hq];exact hx⟩,st',fun b hb=>(hf b hb).1⟩⟩
 done:=by
   intro X hP hw hK hc i pins s σ H E I hf st hg
   subst hP hw hK
   obtain ⟨xs,hq,hx⟩:=hg
   obtain ⟨its,rv,p,hz⟩:=I.tuple hq
   obtain ⟨f0,f1,f2,f3,f4,f5⟩:=hf it (by simp)
   have hl:=rv.length
   exact wpAny_pyNext_tuple_end (I.ok.hd hc) st (show s.heap.IsTuple a its.toArray from p) (by simp;omega) fun h' eb=>⟨rfl,I.turned (t':=s.toks) (fun b o hb e=>eb b o hb e) f0 f1 f3 f4 f5⟩
 self:=fun _ _ _ _ _ st h=>wpAny_pyIter_tupleiter st h
theorem turn_range {P:Program} {w:World} {K:PySem.W.Frag} {tg:Expr} (it:Addr) (lo:Int) (n:Nat):Turn P w K tg (Itr lo n) [it] it (fun i h=>IsRangeIter h it (lo+(i:Nat)*1) ((n:Int)-(i:Nat)) 1) where
 mem:=by simp
 obj:=fun i h st b hb=>by
   have e:b=it:=by simpa using hb
   subst e
   exact⟨_,st,fun v z=>by
     have z':Data.fields _=Data.cell v:=z
     cases z'⟩
 keep:=fun i h h' st k=>k it (by simp) _ st
 item:=by
   intro X hP hw hK hc i pins s σ H E I hf st hg
   subst hP hw hK
   obtain ⟨f0,f1,f2,f3,f4,f5⟩:=hf it (by simp)
   have W:=Walks.range (prog:=X.prog) (w:=X.w) (I.ok.hd hc) it lo 1 n
   refine W.item i s _ _ hg st fun v h' tk hv st' kk=>?_
   obtain ⟨t,rfl⟩:=hv
   have I1:Inv X pins σ H { s with heap:=h',toks:=tk }:=I.turned (fun b o hb e=>kk b o (by simpa using hb) e) f0 f1 f3 f4 f5
   refine⟨_,rfl,zS0 (s:={ s with heap:=h',toks:=tk }) (n:="range_iterator") st' rfl rfl (by decide) ⟨.int (lo+i),H,I1,⟨t,?_⟩,⟨rfl,rfl⟩,st',fun b hb=>(hf b hb).1⟩⟩
   rw[Int.mul_one]
 done:=by
   intro X hP hw hK hc i pins s σ H E I hf st hg
   subst hP hw hK
   obtain ⟨f0,f1,f2,f3,f4,f5⟩:=hf it (by simp)
   exact wpAny_pyNext_range_end (I.ok.hd hc) st (by have:n<=i:=hg;omega) fun h' eb=>⟨rfl,I.turned (t':=s.toks) (fun b o hb e=>eb b o hb e) f0 f1 f3 f4 f5⟩
 self:=fun _ _ _ _ _ st h=>wpAny_pyIter_rangeiter st h
end L2
namespace L2
open PySem PySem.Spec PyProof.Rows
section
variable {X:Cx} {tg:Expr}
noncomputable def iList (K:PySem.W.Frag) (tl:TE):TI:=fun σ H R=>tl σ H fun x H1=>∃ a,x = .ref a/\(∃ xs,SqL K H1 a xs)/\R (Itl K a) H1
noncomputable def iTup (K:PySem.W.Frag) (tl:TE):TI:=fun σ H R=>tl σ H fun x H1=>∃ a,x = .ref a/\(∃ xs,SqT K H1 a xs)/\R (Itt K a) H1
theorem zE4 {l:Expr} {tl:TE} (hl:PE X l tl):PI X tg l (iList X.K tl):=by
 intro pins s σ H R I h
 refine thn (hl pins s σ H _ I h) fun v s1 ⟨x,H1,I1,r1,q1⟩=>?_
 obtain ⟨a,e,⟨xs,hq⟩,q⟩:=q1
 subst e
 cases r1
 obtain ⟨its,rv,p,hz⟩:=I1.list hq
 refine wpAny_pyIter_list p.isList ?_
 refine⟨s1.heap.objs.size,[s1.heap.objs.size],_,_,H1,rfl,I1.kept (t':=s1.toks) fun b o e=>Heap.get?_push_of_some _ e,zH1 a _,⟨_,Heap.get?_push_size _ rfl,rfl,rfl⟩,fun b hb=>?_,q⟩
 have e:b=s1.heap.objs.size:=by simpa using hb
 subst e
 exact I1.fpOk (Nat.le_refl _) (I1.hok.fresh (Nat.le_refl _))
theorem pi_tup {l:Expr} {tl:TE} (hl:PE X l tl):PI X tg l (iTup X.K tl):=by
 intro pins s σ H R I h
 refine thn (hl pins s σ H _ I h) fun v s1 ⟨x,H1,I1,r1,q1⟩=>?_
 obtain ⟨a,e,⟨xs,hq⟩,q⟩:=q1
 subst e
 cases r1
 obtain ⟨its,rv,p,hz⟩:=I1.tuple hq
 refine wpAny_pyIter_tuple (show s1.heap.IsTuple a its.toArray from p) ?_
 refine⟨s1.heap.objs.size,[s1.heap.objs.size],_,_,H1,rfl,I1.kept (t':=s1.toks) fun b o e=>Heap.get?_push_of_some _ e,zF3 a _,⟨_,Heap.get?_push_size _ rfl,rfl,rfl⟩,fun b hb=>?_,q⟩
 have e:b=s1.heap.objs.size:=by simpa using hb
 subst e
 exact I1.fpOk (Nat.le_refl _) (I1.hok.fresh (Nat.le_refl _))
theorem zM0 {pins:List (Addr×Obj)} {σ:St} {H:Hp} {s:Shared} {R:It->Hp->Prop} {E:Value->Shared->Prop} {lo hi:Int} {t u v:Tok} {tk:Nat} (I:Inv X pins σ H s) (h1:-(2 ^ 62)<=lo) (h2:lo<2 ^ 62) (h3:-(2 ^ 62)<=hi) (h4:hi<2 ^ 62)
   (q:R (Itr lo (hi-lo).toNat) H):wpAny (model X.prog X.w) X.A (pyIter (.ref s.heap.objs.size)) (PIE X pins σ tg R) E { s with heap:=s.heap.push { cls:=.type "range",data:=.fields #[.int lo t,.int hi u,.int 1 v] },toks:=tk }:=by
 refine wpAny_pyIter_range (IsRange.new ..) (small_one h1 h2 h3 h4) ?_
 have I1:Inv X pins σ H { s with heap:=s.heap.push { cls:=.type "range",data:=.fields #[.int lo t,.int hi u,.int 1 v] },toks:=tk }:=I.kept fun b o e=>Heap.get?_push_of_some _ e
 refine⟨(s.heap.push { cls:=.type "range",data:=.fields #[.int lo t,.int hi u,.int 1 v] }).objs.size,[(s.heap.push { cls:=.type "range",data:=.fields #[.int lo t,.int hi u,.int 1 v] }).objs.size],_,_,H,rfl,
   I1.kept (t':=tk) fun b o e=>Heap.get?_push_of_some _ e,turn_range _ lo (hi-lo).toNat,?_,fun b hb=>?_,q⟩
 . have e1:lo+((0:Nat):Int)*1=lo:=by simp
   have e2:(((hi-lo).toNat:Nat):Int)-((0:Nat):Int)=Builtin.Range.rangeSize lo hi 1:=by rw[rangeSize_one];split<;>omega
   show IsRangeIter _ _ (lo+((0:Nat):Int)*1) ((((hi-lo).toNat:Nat):Int)-((0:Nat):Int)) 1
   rw[e1,e2]
   exact Heap.get?_push_size _ rfl
 . have e:b=(s.heap.push { cls:=.type "range",data:=.fields #[.int lo t,.int hi u,.int 1 v] }).objs.size:=by simpa using hb
   subst e
   exact I1.fpOk (Nat.le_refl _) (I1.hok.fresh (Nat.le_refl _))
noncomputable def iRng1 (ta:TA):TI:=fun σ H R=>ta σ H fun vs H1=>∃ j:Int,vs=[.int j]/\-(2 ^ 62)<=j/\j<2 ^ 62/\R (Itr 0 j.toNat) H1
noncomputable def iRng2 (ta:TA):TI:=fun σ H R=>ta σ H fun vs H1=>∃ i j:Int,vs=[.int i,.int j]/\(-(2 ^ 62)<=i/\i<2 ^ 62/\-(2 ^ 62)<=j/\j<2 ^ 62)/\R (Itr i (j-i).toNat) H1
theorem zm4 {a:Expr} {ta:TA} {p pos:Pos} (hg:Gl X "range") (hm:X.mg "range" = none) (ha:PA X [a] ta) (hs:starEach [a] X.env=[(false,eval a X.env)]:=by rfl):PI X tg (.Call (.Name "range" p) [a] [] pos) (iRng1 ta):=by
 intro pins s σ H R I h
 refine Call_ (zy9 I hg hm boot_range (PyProof.Rows.callWith_type1 (thn (ha pos pins s σ H _ I h) fun us s1 ⟨vs,H1,I1,r1,q1⟩=>?_) hs rfl))
 obtain ⟨j,e,q1,q2,q⟩:=q1
 subst e
 cases r1 with
 | cons r rr =>
   cases rr
   obtain ⟨t,rfl⟩:=r
   exact call_range_1 (zM0 I1 (by omega) (by omega) q1 q2 (by simpa using q))
theorem pi_range2 {a b:Expr} {ta:TA} {p pos:Pos} (hg:Gl X "range") (hm:X.mg "range" = none) (ha:PA X [a,b] ta) (hs:starEach [a,b] X.env=[(false,eval a X.env),(false,eval b X.env)]:=by rfl) (hs2:starEach [b] X.env=[(false,eval b X.env)]:=by rfl) :
   PI X tg (.Call (.Name "range" p) [a,b] [] pos) (iRng2 ta):=by
 intro pins s σ H R I h
 refine Call_ (zy9 I hg hm boot_range (PyProof.Rows.callWith_type1 (thn (ha pos pins s σ H _ I h) fun us s1 ⟨vs,H1,I1,r1,q1⟩=>?_) (by rw[hs,hs2]) (by rw[hs2];rfl)))
 obtain ⟨i,j,e,⟨q1,q2,q3,q4⟩,q⟩:=q1
 subst e
 cases r1 with
 | cons r rr =>
   cases rr with
   | cons r' rr =>
     cases rr
     obtain ⟨t,rfl⟩:=r
     obtain ⟨t',rfl⟩:=r'
     exact call_range_2 (zM0 I1 q1 q2 q3 q4 q)
/-! ### for -/
noncomputable def tFor (wi:TI) (g:TG) (tb:TS):TS:=fun D σ H=>wi σ H fun J H1=>∃ W:Nat->Nat->St->Hp->Prop,(∃ m,W 0 m σ H1)/\∀ i m σ H,W i m σ H →
 (J.stop i H/\D.nx σ H)\/(J.go i H/\∃ N:St->Hp->Prop,(∀ σ' H',N σ' H'->∃ m',m'<m/\W (i+1) m' σ' H')/\∀ x H',J.yld i H x H'->g x σ H' fun σ2 H2=>tb { D with nx:=N,ct:=N,bk:=D.nx } σ2 H2)
noncomputable def zC3 (fp:List Addr) (h:Heap):List (Addr×Obj):=fp.filterMap fun b=>(h.get? b).map fun o=>(b,o)
theorem zu5 {fp:List Addr} {h:Heap} {b:Addr} {o:Obj} (hb:b∈fp) (e:h.get? b=some o):(b,o)∈zC3 fp h:=List.mem_filterMap.mpr ⟨b,hb,by rw[e];rfl⟩
theorem of_pinsAt {fp:List Addr} {h:Heap} {p:Addr×Obj} (hp:p∈zC3 fp h):p.1∈fp/\h.get? p.1=some p.2:=by
 obtain ⟨b,hb,e⟩:=List.mem_filterMap.mp hp
 cases q:h.get? b with
 | none=>rw[q] at e;cases e
 | some o =>
   rw[q] at e
   have e':(b,o)=p:=Option.some.inj e
   subst e'
   exact⟨hb,q⟩
theorem Inv.pinned {pins:List (Addr×Obj)} {σ:St} {H:Hp} {s:Shared} {fp:List Addr} (I:Inv X pins σ H s) (hf:∀ b∈fp,FpOk X pins H b) (ho:∀ b∈fp,∃ o,s.heap.get? b=some o/\∀ v,o.data≠.cell v):Inv X (pins++zC3 fp s.heap) σ H s :=
 I.pins_of fun p hp=>(List.mem_append.mp hp).elim (fun z=>I.pin p (List.mem_append_right _ z)) fun z=>by
   obtain ⟨hb,e⟩:=of_pinsAt z
   obtain ⟨f0,f1,f2,_⟩:=hf p.1 hb
   obtain ⟨o,e',d⟩:=ho p.1 hb
   rw[e] at e';cases e'
   exact⟨e,f0,f1,f2,d⟩
theorem Inv.unpinned {pins pl:List (Addr×Obj)} {σ:St} {H:Hp} {s:Shared} (I:Inv X (pins++pl) σ H s):Inv X pins σ H s:=I.pins_of fun p hp=>I.pin p (List.mem_append_right _ (List.mem_append_left _ hp))
theorem zp8 {iter:Expr} {body:List Stmt} {wi:TI} {g:TG} {tb:TS} {pos:Pos} (hp:PassesOwn (model X.prog X.w) X.A X.env X.xe) (hc:X.calm=true) (hi:PI X tg iter wi) (hg:PG X tg g) (hb:PSs X body tb)
   (hs:∀ x,foldedSetIterable iter X.env x=pure x:=by intro _;rfl):PS X (.For tg iter body [] pos) (tFor wi g tb):=by
 intro pins s σ H D I h
 refine wpAny_For (thn (hi pins s σ H _ I h) fun v s1 h1=>thn h1 fun itv s2 h2=>?_) hs
 obtain ⟨it,fp,tn,J,H2,e,I2,T,st2,f2,W,⟨m0,w0⟩,turn⟩:=h2
 subst e
 have stat:∀ {H':Hp},(∀ b∈fp,H' b=none)->∀ b∈fp,FpOk X pins H' b:=fun hn b hb=>⟨hn b hb,(f2 b hb).2⟩
 refine codeAny_forLoop_any (fun n s'=>∃ i σ' H',Inv X pins σ' H' s'/\tn i s'.heap/\(∀ b∈fp,H' b=none)/\W i n σ' H') ?_ m0 ⟨0,σ,H2,I2,st2,fun b hb=>(f2 b hb).1,w0⟩
 rintro n s3 ⟨i,σ3,H3,I3,st3,fr3,w3⟩
 rcases turn i n σ3 H3 w3 with ⟨stop,qn⟩ | ⟨go,N,hN,step⟩
 . refine wpAny_passesOwn hp (thn (T.done X rfl rfl rfl hc i pins s3 σ3 H3 X.xe I3 (stat fr3) st3 stop) fun r s4 ⟨hr,I4⟩=>?_)
   subst hr
   exact wpAny_execs_nil ⟨σ3,H3,I4,qn⟩
 . refine wpAny_passesOwn hp (thn (T.item X rfl rfl rfl hc i pins s3 σ3 H3 X.xe I3 (stat fr3) st3 go) fun r s4 ⟨u,hr,h4⟩=>?_)
   subst hr
   refine wpAny_passesOwn hp (thn h4 fun _ s5 ⟨x,H5,I5,r5,y5,st5,fr5⟩=>?_)
   have I5':=I5.pinned (stat fr5) (T.obj _ _ st5)
   refine wpAny_passesOwn hp (thn (hg _ s5 σ3 H5 x u _ I5' r5 (step x H5 y5)) fun _ s6 ⟨σ6,H6,I6,q6⟩=>?_)
   refine wpAny_passesOwn hp (thn (hb _ s6 σ6 H6 _ I6 q6) fun f s7 q7=>?_)
   have again:∀ {σ7:St} {H7:Hp},Inv X (pins++zC3 fp s5.heap) σ7 H7 s7->N σ7 H7->∃ m,m<n/\∃ i σ' H',Inv X pins σ' H' s7/\tn i s7.heap/\(∀ b∈fp,H' b=none)/\W i m σ' H':=fun {σ7 H7} I7 n7=>by
     obtain ⟨m',hm,w7⟩:=hN σ7 H7 n7
     refine⟨m',hm,i+1,σ7,H7,I7.unpinned,T.keep _ _ _ st5 fun b hb o e=>(I7.pin (b,o) (List.mem_append_right _ (List.mem_append_right _ (zu5 hb e)))).1,fun b hb=>?_,w7⟩
     obtain ⟨o,e,d⟩:=T.obj _ _ st5 b hb
     exact (I7.pin (b,o) (List.mem_append_right _ (List.mem_append_right _ (zu5 hb e)))).2.1
   cases f with
   | next=>obtain ⟨σ7,H7,I7,n7⟩:=q7;exact again I7 n7
   | cont=>obtain ⟨σ7,H7,I7,n7⟩:=q7;exact again I7 n7
   | brk=>obtain ⟨σ7,H7,I7,q7⟩:=q7;exact⟨σ7,H7,I7.unpinned,q7⟩
   | ret v=>obtain ⟨x7,σ7,H7,I7,r7,q7⟩:=q7;exact⟨x7,σ7,H7,I7.unpinned,r7,q7⟩
end
/-! ### the forms one uses -/
theorem zz6 {K:PySem.W.Frag} {a:Addr} {xs:List V} {g:TG} {tb:TS} {D:Ends} {σ:St} {H:Hp} (Pv:Nat->St->Hp->Prop) (h0:Pv 0 σ H) (hl:∀ i σ H,i<=xs.length->Pv i σ H->SqL K H a xs)
   (hs:∀ i x σ H,xs[i]?=some x->Pv i σ H->g x σ H fun σ2 H2=>tb { D with nx:=Pv (i+1),ct:=Pv (i+1),bk:=D.nx } σ2 H2) (hd:∀ σ H,Pv xs.length σ H->D.nx σ H) :
   ∃ W:Nat->Nat->St->Hp->Prop,(∃ m,W 0 m σ H)/\∀ i m σ H,W i m σ H →
     ((Itl K a).stop i H/\D.nx σ H)\/((Itl K a).go i H/\∃ N:St->Hp->Prop,(∀ σ' H',N σ' H'->∃ m',m'<m/\W (i+1) m' σ' H')/\∀ x H',(Itl K a).yld i H x H'->g x σ H' fun σ2 H2=>tb { D with nx:=N,ct:=N,bk:=D.nx } σ2 H2):=by
 refine⟨fun i m σ H=>m=xs.length-i/\i<=xs.length/\Pv i σ H,⟨xs.length,by simp,Nat.zero_le _,h0⟩,?_⟩
 rintro i m σ H ⟨rfl,hi,p⟩
 have q:=hl i σ H hi p
 by_cases hlt:i<xs.length
 . refine .inr ⟨⟨xs,xs[i],q,by simp[hlt]⟩,Pv (i+1),fun σ' H' p'=>⟨xs.length-(i+1),by omega,rfl,hlt,p'⟩,fun x H' y=>?_⟩
   obtain ⟨e,y⟩:=y
   subst e
   exact hs i x σ _ (y xs q) p
 . have e:i=xs.length:=by omega
   subst e
   exact .inl ⟨⟨xs,q,Nat.le_refl _⟩,hd σ H p⟩
theorem zK4 {K:PySem.W.Frag} {a:Addr} {xs:List V} {g:TG} {tb:TS} {D:Ends} {σ:St} {H:Hp} (Pv:Nat->St->Hp->Prop) (h0:Pv 0 σ H) (hl:∀ i σ H,i<=xs.length->Pv i σ H->SqT K H a xs)
   (hs:∀ i x σ H,xs[i]?=some x->Pv i σ H->g x σ H fun σ2 H2=>tb { D with nx:=Pv (i+1),ct:=Pv (i+1),bk:=D.nx } σ2 H2) (hd:∀ σ H,Pv xs.length σ H->D.nx σ H) :
   ∃ W:Nat->Nat->St->Hp->Prop,(∃ m,W 0 m σ H)/\∀ i m σ H,W i m σ H →
     ((Itt K a).stop i H/\D.nx σ H)\/((Itt K a).go i H/\∃ N:St->Hp->Prop,(∀ σ' H',N σ' H'->∃ m',m'<m/\W (i+1) m' σ' H')/\∀ x H',(Itt K a).yld i H x H'->g x σ H' fun σ2 H2=>tb { D with nx:=N,ct:=N,bk:=D.nx } σ2 H2):=by
 refine⟨fun i m σ H=>m=xs.length-i/\i<=xs.length/\Pv i σ H,⟨xs.length,by simp,Nat.zero_le _,h0⟩,?_⟩
 rintro i m σ H ⟨rfl,hi,p⟩
 have q:=hl i σ H hi p
 by_cases hlt:i<xs.length
 . refine .inr ⟨⟨xs,xs[i],q,by simp[hlt]⟩,Pv (i+1),fun σ' H' p'=>⟨xs.length-(i+1),by omega,rfl,hlt,p'⟩,fun x H' y=>?_⟩
   obtain ⟨e,y⟩:=y
   subst e
   exact hs i x σ _ (y xs q) p
 . have e:i=xs.length:=by omega
   subst e
   exact .inl ⟨⟨xs,q,Nat.le_refl _⟩,hd σ H p⟩
theorem zm5 {lo:Int} {n:Nat} {g:TG} {tb:TS} {D:Ends} {σ:St} {H:Hp} (Pv:Nat->St->Hp->Prop) (h0:Pv 0 σ H)
   (hs:∀ i σ H,i<n->Pv i σ H->g (.int (lo+i)) σ H fun σ2 H2=>tb { D with nx:=Pv (i+1),ct:=Pv (i+1),bk:=D.nx } σ2 H2) (hd:∀ σ H,Pv n σ H->D.nx σ H) :
   ∃ W:Nat->Nat->St->Hp->Prop,(∃ m,W 0 m σ H)/\∀ i m σ H,W i m σ H →
     ((Itr lo n).stop i H/\D.nx σ H)\/((Itr lo n).go i H/\∃ N:St->Hp->Prop,(∀ σ' H',N σ' H'->∃ m',m'<m/\W (i+1) m' σ' H')/\∀ x H',(Itr lo n).yld i H x H'->g x σ H' fun σ2 H2=>tb { D with nx:=N,ct:=N,bk:=D.nx } σ2 H2):=by
 refine⟨fun i m σ H=>m=n-i/\i<=n/\Pv i σ H,⟨n,by simp,Nat.zero_le _,h0⟩,?_⟩
 rintro i m σ H ⟨rfl,hi,p⟩
 by_cases hlt:i<n
 . refine .inr ⟨hlt,Pv (i+1),fun σ' H' p'=>⟨n-(i+1),by omega,rfl,hlt,p'⟩,fun x H' y=>?_⟩
   obtain ⟨e,y⟩:=y
   subst e y
   exact hs i σ _ hlt p
 . have e:i=n:=by omega
   subst e
   exact .inl ⟨Nat.le_refl _,hd σ H p⟩
end L2
namespace L2
open PySem PySem.Spec PyProof.Rows
noncomputable abbrev R2:=V->V->Hp->VK->Prop
noncomputable def OpR (X:Cx) (f:Value->Value->Sem Value) (r:R2):Prop :=
 ∀ (pins:List (Addr×Obj)) (s:Shared) (σ:St) (H:Hp) (x y:V) (v u:Value) (Q:VK),Inv X pins σ H s->RelV x v->RelV y u->r x y H Q →
   wpAny (model X.prog X.w) X.A (f v u) (EP X pins σ Q) X.xe s
noncomputable def UnR (X:Cx) (f:Value->Sem Value) (r:V->Hp->VK->Prop):Prop :=
 ∀ (pins:List (Addr×Obj)) (s:Shared) (σ:St) (H:Hp) (x:V) (v:Value) (Q:VK),Inv X pins σ H s->RelV x v->r x H Q →
   wpAny (model X.prog X.w) X.A (f v) (EP X pins σ Q) X.xe s
noncomputable def zs7 (X:Cx) (f:Value) (r:List V->Hp->VK->Prop):Prop :=
 ∀ (pins:List (Addr×Obj)) (s:Shared) (σ:St) (H:Hp) (xs:List V) (us:List Value) (Q:VK),Inv X pins σ H s->Vals xs us->r xs H Q →
   wpAny (model X.prog X.w) X.A (call f us) (EP X pins σ Q) X.xe s
noncomputable def tOp (r:R2) (ta tb:TE):TE:=fun σ H Q=>ta σ H fun x H1=>tb σ H1 fun y H2=>r x y H2 Q
noncomputable def tUn (r:V->Hp->VK->Prop) (ta:TE):TE:=fun σ H Q=>ta σ H fun x H1=>r x H1 Q
noncomputable def rI (C:Int->Int->Prop) (g:Int->Int->V):R2:=fun x y H Q=>∃ i j,x = .int i/\y = .int j/\C i j/\Q (g i j) H
noncomputable def rI0 (g:Int->Int->V):R2:=fun x y H Q=>∃ i j,x = .int i/\y = .int j/\Q (g i j) H
noncomputable def rU (g:Int->V):V->Hp->VK->Prop:=fun x H Q=>∃ i,x = .int i/\Q (g i) H
section
variable {X:Cx} {a b c:Expr} {ta tb tc:TE} {pos:Pos}
theorem binT (ha:PE X a ta) (hb:PE X b tb) {pins:List (Addr×Obj)} {s:Shared} {σ:St} {H:Hp} {R:V->V->Hp->Prop} (I:Inv X pins σ H s)
   (h:ta σ H fun x H1=>tb σ H1 fun y H2=>R x y H2) {Q:Value->Shared->Prop} {f:Value->Value->Sem Value}
   (hf:∀ v u s2 x y H2,Inv X pins σ H2 s2->RelV x v->RelV y u->R x y H2->wpAny (model X.prog X.w) X.A (f v u) Q X.xe s2) :
   wpAny (model X.prog X.w) X.A (eval a X.env) (fun v s₁=>wpAny (model X.prog X.w) X.A (eval b X.env) (fun u s₂=>wpAny (model X.prog X.w) X.A (f v u) Q X.xe s₂) X.xe s₁) X.xe s:=by
 refine thn (ha pins s σ H _ I h) fun v s1 ⟨x,H1,I1,r1,q1⟩=>?_
 refine thn (hb pins s1 σ H1 _ I1 q1) fun u s2 ⟨y,H2,I2,r2,q2⟩=>?_
 exact hf v u s2 x y H2 I2 r1 r2 q2
theorem za9 {op:Operator} {r:R2} (ho:OpR X (binaryOp op) r) (ha:PE X a ta) (hb:PE X b tb):PE X (.BinOp a op b pos) (tOp r ta tb):=by
 intro pins s σ H Q I h
 exact wpAny_BinOp (binT ha hb I h fun v u s2 x y H2 I2 rx ry q=>ho pins s2 σ H2 x y v u Q I2 rx ry q)
theorem zk9 {op:UnaryOp} {r:V->Hp->VK->Prop} (ho:UnR X (unaryOp op) r) (ha:PE X a ta):PE X (.UnaryOp op a pos) (tUn r ta):=by
 intro pins s σ H Q I h
 exact UnaryOp_ (thn (ha pins s σ H _ I h) fun v s1 ⟨x,H1,I1,r1,q1⟩=>ho pins s1 σ H1 x v Q I1 r1 q1)
/-! ### ints -/
theorem opI {f:Value->Value->Sem Value} {C:Int->Int->Prop} {g:Int->Int->Int}
   (rule:∀ (i j:Int) (t u:Tok) (s:Shared) (Q:Value->Shared->Prop) (E:Value->Shared->Prop),C i j->Q (.int (g i j) s.toks) { s with toks:=s.toks+1 }->wpAny (model X.prog X.w) X.A (f (.int i t) (.int j u)) Q E s) :
   OpR X f (rI C fun i j=>.int (g i j)):=by
 intro pins s σ H x y v u Q I rx ry h
 obtain ⟨i,j,rfl,rfl,hc,q⟩:=h
 obtain ⟨t,rfl⟩:=rx
 obtain ⟨t',rfl⟩:=ry
 exact rule i j t t' s _ _ hc ⟨.int (g i j),H,I.tok _,⟨_,rfl⟩,q⟩
theorem opI0 {f:Value->Value->Sem Value} {g:Int->Int->Int}
   (rule:∀ (i j:Int) (t u:Tok) (s:Shared) (Q:Value->Shared->Prop) (E:Value->Shared->Prop),Q (.int (g i j) s.toks) { s with toks:=s.toks+1 }->wpAny (model X.prog X.w) X.A (f (.int i t) (.int j u)) Q E s) :
   OpR X f (rI0 fun i j=>.int (g i j)):=by
 intro pins s σ H x y v u Q I rx ry h
 obtain ⟨i,j,rfl,rfl,q⟩:=h
 obtain ⟨t,rfl⟩:=rx
 obtain ⟨t',rfl⟩:=ry
 exact rule i j t t' s _ _ ⟨.int (g i j),H,I.tok _,⟨_,rfl⟩,q⟩
theorem opB0 {f:Value->Value->Sem Value} {g:Int->Int->Bool}
   (rule:∀ (i j:Int) (t u:Tok) (s:Shared) (Q:Value->Shared->Prop) (E:Value->Shared->Prop),Q (.bool (g i j)) s->wpAny (model X.prog X.w) X.A (f (.int i t) (.int j u)) Q E s) :
   OpR X f (rI0 fun i j=>.bl (g i j)):=by
 intro pins s σ H x y v u Q I rx ry h
 obtain ⟨i,j,rfl,rfl,q⟩:=h
 obtain ⟨t,rfl⟩:=rx
 obtain ⟨t',rfl⟩:=ry
 exact rule i j t t' s _ _ ⟨.bl (g i j),H,I,rfl,q⟩
noncomputable def CDiv (i j:Int):Prop:=0<j/\j<1073741824
noncomputable def CPow (i j:Int):Prop:=0<=j/\j<=1000000/\i.natAbs<2 ^ 64
noncomputable def CMul (i j:Int):Prop:=(-(2 ^ 64)<i/\i<2 ^ 64)\/(-(2 ^ 64)<j/\j<2 ^ 64)
theorem CMul.ok {i j:Int} (h:CMul i j):IntMulOk i j:=by
 rcases h with ⟨h1,h2⟩ | ⟨h1,h2⟩
 . exact .of_left (intBits_le_64 h1 h2)
 . exact .of_right (intBits_le_64 h1 h2)
theorem zf0:OpR X (binaryOp .Add) (rI0 fun i j=>.int (i+j)):=opI0 fun _ _ _ _ _ _ _ q=>add_int q
theorem zf7:OpR X (binaryOp .Sub) (rI0 fun i j=>.int (i-j)):=opI0 fun _ _ _ _ _ _ _ q=>sub_int q
theorem zh5:OpR X (binaryOp .Mult) (rI CMul fun i j=>.int (i*j)):=opI fun _ _ _ _ _ _ _ hc q=>mul_int q hc.ok
theorem zg2:OpR X (binaryOp .FloorDiv) (rI CDiv fun i j=>.int (i / j)):=opI fun i j _ _ _ _ _ hc q=>by
 have h1:(0:Int)<j:=hc.1
 have h2:j<1073741824:=hc.2
 exact floordiv_int (by omega) (by rw[Int.fdiv_eq_ediv_of_nonneg i (by omega)];exact q) (.inl (PyProof.noPylong_small (by omega)))
theorem zd4:OpR X (binaryOp .Mod) (rI (fun _ j=>0<j) fun i j=>.int (i % j)):=opI fun i j _ _ _ _ _ hc q=>by
 have h1:(0:Int)<j:=hc
 exact mod_int' (by omega) (by rw[Int.fmod_eq_emod_of_nonneg i (by omega)];exact q)
theorem zS1:OpR X (binaryOp .Pow) (rI CPow fun i j=>.int (i ^ j.toNat)):=opI fun _ _ _ _ _ _ _ hc q=>pow_int_small hc.1 hc.2.1 hc.2.2 q
theorem unI {f:Value->Sem Value} {g:Int->Int}
   (rule:∀ (i:Int) (t:Tok) (s:Shared) (Q:Value->Shared->Prop) (E:Value->Shared->Prop),Q (.int (g i) s.toks) { s with toks:=s.toks+1 }->wpAny (model X.prog X.w) X.A (f (.int i t)) Q E s) :
   UnR X f (rU fun i=>.int (g i)):=by
 intro pins s σ H x v Q I rx h
 obtain ⟨i,rfl,q⟩:=h
 obtain ⟨t,rfl⟩:=rx
 exact rule i t s _ _ ⟨.int (g i),H,I.tok _,⟨_,rfl⟩,q⟩
theorem zg7:UnR X (unaryOp .USub) (rU fun i=>.int (-i)):=unI fun _ _ _ _ _ q=>neg_int q
/-! ### bools among ints: n += (a<b) -/
end
/-! ### comparisons -/
noncomputable def scal:V->V->Bool
 | .non,.non=>true | .non,.int _=>true | .int _,.non=>true | .non,.bl _=>true | .bl _,.non=>true | .non,.str _=>true | .str _,.non=>true
 | .int _,.int _=>true | .bl _,.bl _=>true | .str _,.str _=>true | .byt _,.byt _=>true
 | .int _,.str _=>true | .str _,.int _=>true | .bl _,.str _=>true | .str _,.bl _=>true
 | _,_=>false
noncomputable def rEq:R2:=fun x y H Q=>scal x y=true/\Q (.bl (decide (x=y))) H
noncomputable def rNe:R2:=fun x y H Q=>scal x y=true/\Q (.bl (!decide (x=y))) H
theorem zK5 {i j:Int}:decide (V.int i=V.int j)=(i == j):=by
 rw[Bool.eq_iff_iff]
 simp
theorem zO2 {i j:Bool}:decide (V.bl i=V.bl j)=(i == j):=by
 rw[Bool.eq_iff_iff]
 simp
theorem zK6 {i j:Str}:decide (V.str i=V.str j)=(i == j):=by
 rw[Bool.eq_iff_iff]
 simp
theorem zO9 {i j:Array UInt8}:decide (V.byt i=V.byt j)=(i.toList == j.toList):=by
 rw[Bool.eq_iff_iff]
 cases i
 cases j
 simp
section
variable {X:Cx} {a b c:Expr} {ta tb tc:TE} {pos:Pos}
theorem ze5 {pins:List (Addr×Obj)} {σ:St} {H:Hp} {s:Shared} {Q:VK} {k k':Bool} (I:Inv X pins σ H s) (q:Q (.bl k) H) (e:k=k'):EP X pins σ Q (.bool k') s:=by
 subst e
 exact⟨.bl k,H,I,rfl,q⟩
theorem zi1:OpR X (compareOp .Eq) rEq:=by
 intro pins s σ H x y v u Q I rx ry h
 obtain ⟨hs,q⟩:=h
 cases x with
 | non =>
   cases rx
   cases y with
   | non=>cases ry;exact PySem.EqNone.eq_none_none (ze5 I q (by simp))
   | bl j=>cases ry;exact PySem.EqNone.eq_none_bool (ze5 I q (by simp))
   | int j=>obtain ⟨t',rfl⟩:=ry;exact PySem.EqNone.eq_none_int (ze5 I q (by simp))
   | str j=>obtain ⟨t',rfl⟩:=ry;exact PySem.EqNone.eq_none_str (ze5 I q (by simp))
   | _=>exact absurd (show false=true from hs) Bool.false_ne_true
 | bl i =>
   cases rx
   cases y with
   | non=>cases ry;exact PySem.EqNone.eq_bool_none (ze5 I q (by simp))
   | bl j=>cases ry;exact eq_bool (ze5 I q zO2)
   | str j=>obtain ⟨t',rfl⟩:=ry;exact PySem.EqMixed.eq_bool_str (ze5 I q (by simp))
   | _=>exact absurd (show false=true from hs) Bool.false_ne_true
 | int i =>
   obtain ⟨t,rfl⟩:=rx
   cases y with
   | non=>cases ry;exact PySem.EqNone.eq_int_none (ze5 I q (by simp))
   | int j=>obtain ⟨t',rfl⟩:=ry;exact eq_int (ze5 I q zK5)
   | str j=>obtain ⟨t',rfl⟩:=ry;exact PySem.EqMixed.eq_int_str (ze5 I q (by simp))
   | _=>exact absurd (show false=true from hs) Bool.false_ne_true
 | str i =>
   obtain ⟨t,rfl⟩:=rx
   cases y with
   | non=>cases ry;exact PySem.EqNone.eq_str_none (ze5 I q (by simp))
   | bl j=>cases ry;exact PySem.EqMixed.eq_str_bool (ze5 I q (by simp))
   | int j=>obtain ⟨t',rfl⟩:=ry;exact PySem.EqMixed.eq_str_int (ze5 I q (by simp))
   | str j=>obtain ⟨t',rfl⟩:=ry;exact eq_str (ze5 I q zK6)
   | _=>exact absurd (show false=true from hs) Bool.false_ne_true
 | byt i =>
   obtain ⟨t,rfl⟩:=rx
   cases y with
   | byt j=>obtain ⟨t',rfl⟩:=ry;exact PySem.W.eq_bytes (ze5 I q zO9)
   | _=>exact absurd (show false=true from hs) Bool.false_ne_true
 | _=>cases y<;>exact absurd (show false=true from hs) Bool.false_ne_true
theorem zs8:OpR X (compareOp .NotEq) rNe:=by
 intro pins s σ H x y v u Q I rx ry h
 obtain ⟨hs,q⟩:=h
 cases x with
 | non =>
   cases rx
   cases y with
   | non=>cases ry;exact PySem.EqNone.ne_none_none (ze5 I q (by simp))
   | bl j=>cases ry;exact PySem.EqNone.ne_none_bool (ze5 I q (by simp))
   | int j=>obtain ⟨t',rfl⟩:=ry;exact PySem.EqNone.ne_none_int (ze5 I q (by simp))
   | str j=>obtain ⟨t',rfl⟩:=ry;exact PySem.EqNone.ne_none_str (ze5 I q (by simp))
   | _=>exact absurd (show false=true from hs) Bool.false_ne_true
 | bl i =>
   cases rx
   cases y with
   | non=>cases ry;exact PySem.EqNone.ne_bool_none (ze5 I q (by simp))
   | bl j=>cases ry;exact ne_bool (ze5 I q (congrArg not zO2))
   | str j=>obtain ⟨t',rfl⟩:=ry;exact PySem.EqMixed.ne_bool_str (ze5 I q (by simp))
   | _=>exact absurd (show false=true from hs) Bool.false_ne_true
 | int i =>
   obtain ⟨t,rfl⟩:=rx
   cases y with
   | non=>cases ry;exact PySem.EqNone.ne_int_none (ze5 I q (by simp))
   | int j=>obtain ⟨t',rfl⟩:=ry;exact ne_int (ze5 I q (congrArg not zK5))
   | str j=>obtain ⟨t',rfl⟩:=ry;exact PySem.EqMixed.ne_int_str (ze5 I q (by simp))
   | _=>exact absurd (show false=true from hs) Bool.false_ne_true
 | str i =>
   obtain ⟨t,rfl⟩:=rx
   cases y with
   | non=>cases ry;exact PySem.EqNone.ne_str_none (ze5 I q (by simp))
   | bl j=>cases ry;exact PySem.EqMixed.ne_str_bool (ze5 I q (by simp))
   | int j=>obtain ⟨t',rfl⟩:=ry;exact PySem.EqMixed.ne_str_int (ze5 I q (by simp))
   | str j=>obtain ⟨t',rfl⟩:=ry;exact ne_str (ze5 I q (congrArg not zK6))
   | _=>exact absurd (show false=true from hs) Bool.false_ne_true
 | byt i =>
   obtain ⟨t,rfl⟩:=rx
   cases y with
   | byt j=>obtain ⟨t',rfl⟩:=ry;exact PySem.W.ne_bytes (ze5 I q (congrArg not zO9))
   | _=>exact absurd (show false=true from hs) Bool.false_ne_true
 | _=>cases y<;>exact absurd (show false=true from hs) Bool.false_ne_true
theorem zM1:OpR X (compareOp .Lt) (rI0 fun i j=>.bl (decide (i<j))):=opB0 fun _ _ _ _ _ _ _ q=>lt_int q
theorem zS2:OpR X (compareOp .LtE) (rI0 fun i j=>.bl (decide (i<=j))):=opB0 fun _ _ _ _ _ _ _ q=>le_int q
theorem zp9:OpR X (compareOp .Gt) (rI0 fun i j=>.bl (decide (j<i))):=opB0 fun _ _ _ _ _ _ _ q=>gt_int q
theorem zM2:OpR X (compareOp .GtE) (rI0 fun i j=>.bl (decide (j<=i))):=opB0 fun _ _ _ _ _ _ _ q=>ge_int q
theorem zO3:OpR X (compareOp .Is) (fun x y H Q=>y = .non/\Q (.bl (decide (x = .non))) H):=by
 intro pins s σ H x y v u Q I rx ry h
 obtain ⟨rfl,q⟩:=h
 cases ry
 refine is_none_gen (ze5 I q ?_)
 cases x<;>first
   | (cases rx;rfl)
   | (obtain ⟨t,rfl⟩:=rx;rfl)
theorem zb7 (b:Expr) {op:CmpOp} (h:op≠.In:=by decide) (h2:op≠.NotIn:=by decide):behindInMarks op b=false:=by
 have e1:(op == CmpOp.In)=false:=by cases op<;>first | rfl | exact absurd rfl h
 have e2:(op == CmpOp.NotIn)=false:=by cases op<;>first | rfl | exact absurd rfl h2
 cases b<;>simp[behindInMarks,e1,e2]
theorem zn1 {op:CmpOp} {r:R2} (ho:OpR X (compareOp op) r) (ha:PE X a ta) (hb:PE X b tb) (hm:behindInMarks op b=false):PE X (.Compare a [op] [b] pos) (tOp r ta tb):=by
 intro pins s σ H Q I h
 exact wpAny_Compare1 (binT ha hb I h fun v u s2 x y H2 I2 rx ry q=>ho pins s2 σ H2 x y v u Q I2 rx ry q) hm
noncomputable def tTest (t:TE):TT:=fun σ H Q=>t σ H fun x H'=>∃ k,x = .bl k/\Q k H'
theorem zb5 {op:CmpOp} {r:R2} (ho:OpR X (compareOp op) r) (ha:PE X a ta) (hb:PE X b tb) (hm:behindInMarks op b=false):PT X (.Compare a [op] [b] pos) (tTest (tOp r ta tb)):=by
 intro pins s σ H Q I h
 refine wpAny_isTrue_Compare1 (thn (ha pins s σ H _ I h) fun v s1 ⟨x,H1,I1,r1,q1⟩=>thn (hb pins s1 σ H1 _ I1 q1) fun u s2 ⟨y,H2,I2,r2,q2⟩ =>
   thn (ho pins s2 σ H2 x y v u _ I2 r1 r2 q2) fun c s3 ⟨z,H3,I3,r3,k,e,q3⟩=>?_) hm
 subst e
 cases r3
 exact wpAny_truthy_bool ⟨H3,I3,q3⟩
/-! ### truth -/
theorem zF4:(sizeLine:Nat)<2 ^ 63:=by rw[sizeLine_eq];decide
/-! ### strs and bytes -/
/-! ### scalar builtins,by zs7 -/
theorem zM3 {x:V} {us:List Value} (r:Vals [x] us):∃ u,us=[u]/\RelV x u:=by
 cases r with
 | cons r1 r2=>cases r2;exact⟨_,rfl,r1⟩
theorem zH2 {x y:V} {us:List Value} (r:Vals [x,y] us):∃ u w',us=[u,w']/\RelV x u/\RelV y w':=by
 cases r with
 | cons r1 r2 =>
   cases r2 with
   | cons r3 r4=>cases r4;exact⟨_,_,rfl,r1,r3⟩
theorem zl8:zs7 X (.builtin "abs") (fun xs H Q=>∃ i,xs=[.int i]/\Q (.int (if i<0 then -i else i)) H):=by
 intro pins s σ H xs us Q I r h
 obtain ⟨i,rfl,q⟩:=h
 obtain ⟨u,rfl,t,rfl⟩:=zM3 r
 exact call_abs_int fun u tk=>⟨.int (if i<0 then -i else i),H,I.tok _,⟨_,rfl⟩,q⟩
theorem zH3 (hc:X.calm=true):zs7 X (.builtin "max") (fun xs H Q=>∃ i j,xs=[.int i,.int j]/\Q (.int (if j>i then j else i)) H):=by
 intro pins s σ H xs us Q I r h
 obtain ⟨i,j,rfl,q⟩:=h
 obtain ⟨u,w',rfl,⟨t,rfl⟩,⟨t',rfl⟩⟩:=zH2 r
 refine max_two_ints (I.ok.hd hc) fun h' tk k=>⟨_,H,I.kept k,?_,q⟩
 by_cases hj:j>i
 . rw[if_pos hj,if_pos hj];exact⟨_,rfl⟩
 . rw[if_neg hj,if_neg hj];exact⟨_,rfl⟩
theorem zC4 (hc:X.calm=true):zs7 X (.builtin "min") (fun xs H Q=>∃ i j,xs=[.int i,.int j]/\Q (.int (if j<i then j else i)) H):=by
 intro pins s σ H xs us Q I r h
 obtain ⟨i,j,rfl,q⟩:=h
 obtain ⟨u,w',rfl,⟨t,rfl⟩,⟨t',rfl⟩⟩:=zH2 r
 refine min_two_ints (I.ok.hd hc) fun h' tk k=>⟨_,H,I.kept k,?_,q⟩
 by_cases hj:j<i
 . rw[if_pos hj,if_pos hj];exact⟨_,rfl⟩
 . rw[if_neg hj,if_neg hj];exact⟨_,rfl⟩
end
end L2
namespace L2
open PySem PySem.Spec PyProof.Rows
/-! ### an instance,its attributes a map -/
structure ObjM (h:Heap) (x dx C:Addr) (mA:Str->Option Value):Prop where
 obj:h.get? x=some (PySem.W.instObj C dx)
 ns:h.Ns1 dx mA
 ne:dx≠x
theorem zH4 {h:Heap} {dx:Addr} {mA:Str->Option Value} (n:h.Ns1 dx mA):∃ od,h.get? dx=some od/\∀ name,PySem.W.lookIn name od=some (mA name):=by
 obtain ⟨o,es,ep,ho,hd,hk,_,hm⟩:=n
 refine⟨o,ho,fun name=>?_⟩
 have e:=hm name
 unfold nsFind findBy at e
 rw[<-Array.find?_toList] at e
 unfold PySem.W.lookIn
 rw[hd]
 dsimp only
 split
 . rename_i y q
   rw[q] at e
   exact congrArg some e
 . rename_i q
   rw[q] at e
   have a:es.toList.any (·.refKey)=false:=by
     rw[List.any_eq_false]
     intro y hy
     obtain ⟨z,t,hkey⟩:=hk y (Array.mem_toList_iff.mp hy)
     simp[DictEntry.refKey,hkey]
   have a':¬ es.toList.any (·.refKey)=true:=by rw[a];exact Bool.false_ne_true
   rw[if_neg a']
   exact congrArg some e
theorem ObjM.look {h:Heap} {x dx C:Addr} {mA:Str->Option Value} (I:ObjM h x dx C mA):∃ od,PySem.W.InstAt h x (PySem.W.instObj C dx) C (some od)/\∀ name,PySem.W.lookIn name od=some (mA name) :=
 let ⟨od,ho,hl⟩:=zH4 I.ns
 ⟨od,⟨I.obj,rfl,rfl,ho⟩,hl⟩
section
variable {prog:Program} {w:World} {A:Around} {E:Value->Shared->Prop} {s:Shared} {K:PySem.W.Frag} {x dx C f:Addr} {mA:Str->Option Value} {name:Str} {v:Value}
theorem get_map {expr:Bool} {Q:Value->Shared->Prop} (X:K.In s.heap) (I:ObjM s.heap x dx C mA) (hg:PySem.W.plainGet K C name=true) (hh:PySem.W.hasDictIn K C=true)
   (ha:PySem.W.findIn K (.ref C) name=some none) (hv:mA name=some v) (hv':PySem.W.handedIn v=true) (h:Q v { s with toks:=s.toks+1 }) :
   wpAny (model prog w) A (getAttr (.ref x) name expr) Q E s:=by
 obtain ⟨od,J,hl⟩:=I.look
 exact PySem.W.get_value X J (PySem.W.plainGet_of hg).1 (PySem.W.findObj_own hh ha rfl (by rw[hl,hv])) hv' h
theorem get_meth {pl:Sem Bool} {Q:Value×List Value->Shared->Prop} (X:K.In s.heap) (I:ObjM s.heap x dx C mA) (hg:PySem.W.plainGet K C name=true)
   (hf:PySem.W.findIn K (.ref C) name=some (some (.ref f))) (ht:PySem.W.isFn K (.ref f)=true) (hv:mA name=none) (h:Q (.ref f,[.ref x]) s) :
   wpAny (model prog w) A (getMethod (.ref x) name pl) Q E s:=by
 obtain ⟨od,J,hl⟩:=I.look
 exact PySem.W.method_fn X J (PySem.W.plainGet_of hg).1 (PySem.W.plainGet_of hg).2 hf (beq_iff_eq.mp ht) (by show (PySem.W.lookIn name od).map (·.isSome)=some false;rw[hl,hv];rfl) h
theorem set_map {ns:List Str} {Q:Unit->Shared->Prop} (X:K.In s.heap) (I:ObjM s.heap x dx C mA)
   (hs:PySem.W.findIn K (.ref C) "__setattr__" = some (some (.builtin "object.__setattr__"))) (hp:PySem.W.plainOver K C=true) (ht:PySem.W.takerIn K C name=some none) (hh:PySem.W.hasDictIn K C=true)
   (hw:PySem.Within mA ns) (hsz:ns.length<=sizeLine)
   (h:∀ h',ObjM h' x dx C (fun y=>if y=name then some v else mA y)->Heap.SameBut dx s.heap h'->Q () { s with heap:=h',toks:=s.toks+2 }) :
   wpAny (model prog w) A (setAttr (.ref x) name v) Q E s:=by
 obtain ⟨od,J,hl⟩:=I.look
 refine PySem.W.set_plain X J hs (PySem.W.osa_open (s:={ s with toks:=s.toks+1 }) (r:=none) X J hp ht fun b=>?_)
 obtain ⟨cd,hc,hd'⟩:=PySem.W.any_some hh
 have hx:s.heap.get? x=some ⟨.ref C,some dx,.plain,#[]⟩:=I.obj
 refine wpAny_bind (wpAny_pure (wpAny_bind (wpAny_bind (wpAny_loadPart hx (wpAny_bind (PySem.W.Looks.here (s:={ s with toks:=s.toks+1 }) (PySem.W.looks_clsIn X hc) ?_))))))
 rw[hd']
 refine wpAny_pure (a:=some dx) (wpAny_bind (wpAny_pure (wpAny_bind ?_)))
 refine wpAny_nsSet1 (s:={ s with toks:=s.toks+1 }) I.ns fun h' hn2 hs2=>?_
 obtain ⟨oD,esD,epD,hoD,hdD,hcD⟩:=hn2.count (PySem.Within.cons name v hw)
 refine wpAny_bind (wpAny_lookBehind hoD (by rw[hdD];exact pastItsLine_dict (Nat.le_trans hcD (by rw[List.length_cons];omega))) ?_)
 exact wpAny_pure (h _ ⟨(hs2.2 _ (Ne.symm I.ne)).trans I.obj,hn2,I.ne⟩ hs2)
theorem make_map {R:Result->Shared->Prop} {vs:List Value} {kw:List (Str×Value)} (X:K.In s.heap) (hm:PySem.W.makesIn K C=true)
   (hi:PySem.W.findIn K (.ref C) "__init__" = some (some (.ref f))) (hf:PySem.W.typeIn K (.ref f)=some (.type "function"))
   (h:codeAny (model prog w) (A.under (.builtin "type.__call__" ⟨.ref C::vs,kw⟩)) (.call (.ref f) ⟨.ref (s.heap.objs.size+1)::vs,kw⟩) (PySem.W.InitBack (s.heap.objs.size+1) R)
     { s with heap:=(s.heap.push PySem.W.emptyDict).push (PySem.W.instObj C s.heap.objs.size) }) :
   codeAny (model prog w) A (.call (.ref C) ⟨vs,kw⟩) R s:=by
 obtain ⟨hh,g,d,t,os⟩:=s
 exact PySem.W.make_core (PySem.W.makes_of X hm) (PySem.W.looks_findIn X hi) (fun self=>PySem.W.bind_fn X self hf) (.inl rfl) h
end
/-! ### the attributes as a list of pairs -/
noncomputable def putF (f:Str) (v:V):List (Str×V)->List (Str×V)
 | []=>[(f,v)]
 | (g,x)::r=>if g=f then (g,v)::r else (g,x)::putF f v r
theorem zc1 (f g:Str) (v:V):∀ fs:List (Str×V),(putF f v fs).lookup g=if g=f then some v else fs.lookup g
 | []=>by
   show List.lookup g [(f,v)]=_
   by_cases h:g=f
   . have hb:(g == f)=true:=beq_iff_eq.mpr h
     simp only[List.lookup,hb,if_pos h]
   . have hb:(g == f)=false:=beq_eq_false_iff_ne.mpr h
     simp only[List.lookup,hb,if_neg h]
 | (k,x)::r=>by
   have ih:=zc1 f g v r
   rw[show putF f v ((k,x)::r)=(if k=f then (k,v)::r else (k,x)::putF f v r) from rfl]
   by_cases hk:k=f
   . rw[if_pos hk]
     by_cases h:g=k
     . have hb:(g == k)=true:=beq_iff_eq.mpr h
       simp only[List.lookup,hb,if_pos (h.trans hk)]
     . have hb:(g == k)=false:=beq_eq_false_iff_ne.mpr h
       simp only[List.lookup,hb,if_neg (fun e:g=f=>h (e.trans hk.symm))]
   . rw[if_neg hk]
     by_cases h:g=k
     . have hb:(g == k)=true:=beq_iff_eq.mpr h
       simp only[List.lookup,hb,if_neg (fun e:g=f=>hk (h.symm.trans e))]
     . have hb:(g == k)=false:=beq_eq_false_iff_ne.mpr h
       simp only[List.lookup,hb]
       exact ih
theorem zs9 (f:Str) (v:V):∀ fs:List (Str×V),f∈(putF f v fs).map (·.1)/\∀ g,g∈fs.map (·.1)->g∈(putF f v fs).map (·.1)
 | []=>⟨by simp[putF],fun g h=>by simp at h⟩
 | (k,x)::r=>by
   obtain ⟨i1,i2⟩:=zs9 f v r
   rw[show putF f v ((k,x)::r)=(if k=f then (k,v)::r else (k,x)::putF f v r) from rfl]
   by_cases hk:k=f
   . rw[if_pos hk]
     subst hk
     exact⟨by simp,fun g h=>by simpa using h⟩
   . rw[if_neg hk]
     refine⟨?_,fun g h=>?_⟩
     . rw[List.map_cons]
       exact List.mem_cons_of_mem _ i1
     . rw[List.map_cons] at h ⊢
       rcases List.mem_cons.mp h with e | e
       . exact List.mem_cons.mpr (.inl e)
       . exact List.mem_cons_of_mem _ (i2 g e)
theorem zn2 (f:Str) (v:V):∀ fs:List (Str×V),(putF f v fs).length<=fs.length+1
 | []=>by simp[putF]
 | (k,x)::r=>by
   have ih:=zn2 f v r
   rw[show putF f v ((k,x)::r)=(if k=f then (k,v)::r else (k,x)::putF f v r) from rfl]
   by_cases hk:k=f
   . rw[if_pos hk,List.length_cons,List.length_cons];omega
   . rw[if_neg hk,List.length_cons,List.length_cons];omega
theorem RelO.some_of {v:V} {o:Option Value} (r:RelO (some v) o):∃ u,o=some u/\RelV v u:=by
 cases o with
 | none=>exact (show False from r).elim
 | some u=>exact⟨u,rfl,r⟩
theorem RelO.none_of {o:Option Value} (r:RelO none o):o=none:=by
 cases o with
 | none=>rfl
 | some u=>exact (show False from r).elim
theorem handed_of {v:V} {u:Value} (r:RelV v u):PySem.W.handedIn u=true:=by
 cases v with
 | non=>cases (show u=Value.none from r);rfl
 | bl b=>cases (show u=Value.bool b from r);rfl
 | int i=>obtain ⟨t,e⟩:=(show ∃ t,u=Value.int i t from r);cases e;rfl
 | str x=>obtain ⟨t,e⟩:=(show ∃ t,u=Value.str x t from r);cases e;rfl
 | byt b=>obtain ⟨t,e⟩:=(show ∃ t,u=Value.bytes b t from r);cases e;rfl
 | flt b=>obtain ⟨t,e⟩:=(show ∃ t,u=Value.float b t from r);cases e;rfl
 | ref a=>cases (show u=Value.ref a from r);rfl
 | ty n=>cases (show u=Value.type n from r);rfl
section
variable {P:Program} {w:World} {H H':Hp} {h h':Heap} {a C dx:Addr} {fs fs':List (Str×V)}
theorem zE5 (hok:HOk P w H h) (e:H a=some (.ins C dx fs)):∃ mA,ObjM h a dx C mA/\(∀ f,RelO (fs.lookup f) (mA f))/\PySem.Within mA (fs.map (·.1))/\fs.length<=1000/\H dx=some (.own a):=by
 obtain ⟨d,z,ne,ob,mA,n,r,q⟩:=(show zi0 P w H h a (.ins C dx fs) from hok a _ e)
 exact⟨mA,⟨ob,n,ne⟩,r,q,z,d⟩
end
/-! ### what of the text a class must have -/
structure Cls (K:PySem.W.Frag) (C:Addr):Prop where
 pg:PySem.W.plainGet K C Str.empty=true
 hd:PySem.W.hasDictIn K C=true
 po:PySem.W.plainOver K C=true
 sa:PySem.W.findIn K (.ref C) "__setattr__" = some (some (.builtin "object.__setattr__"))
theorem Cls.get {K:PySem.W.Frag} {C:Addr} (c:Cls K C) (f:Str):PySem.W.plainGet K C f=true:=c.pg
noncomputable def ze2 (K:PySem.W.Frag) (C:Addr) (f:Str):Prop:=PySem.W.findIn K (.ref C) f=some none
theorem ze2.taker {K:PySem.W.Frag} {C:Addr} {f:Str} (n:ze2 K C f):PySem.W.takerIn K C f=some none:=by
 unfold PySem.W.takerIn
 rw[show PySem.W.findIn K (.ref C) f=some none from n]
 rfl
structure Meth (K:PySem.W.Frag) (C:Addr) (m:Str) (f:Addr):Prop where
 at_:PySem.W.findIn K (.ref C) m=some (some (.ref f))
 fn:PySem.W.isFn K (.ref f)=true
 kp:PySem.W.keepIn K (.ref f)=true
section
variable {X:Cx} {pins:List (Addr×Obj)} {σ:St} {H:Hp} {s:Shared} {a C dx:Addr} {fs:List (Str×V)} {f:Str} {v:V} {A:Around} {E:Value->Shared->Prop}
theorem getattr_ok {b:Bool} {Q:Value->Shared->Prop} (I:Inv X pins σ H s) (e:H a=some (.ins C dx fs)) (c:Cls X.K C) (n:ze2 X.K C f) (l:fs.lookup f=some v)
   (h:∀ u s',Inv X pins σ H s'->RelV v u->Q u s'):wpAny (model X.prog X.w) A (getAttr (.ref a) f b) Q E s:=by
 obtain ⟨mA,O,r,_,_,_⟩:=zE5 I.hok e
 obtain ⟨u,hu,ru⟩:=RelO.some_of (v:=v) (o:=mA f) (by rw[<-l];exact r f)
 exact get_map I.kIn O (c.get f) c.hd n hu (handed_of ru) (h u _ (I.tok _) ru)
theorem zz0 {m:Str} {g:Addr} {pl:Sem Bool} {Q:Value×List Value->Shared->Prop} (I:Inv X pins σ H s) (e:H a=some (.ins C dx fs)) (c:Cls X.K C) (k:Meth X.K C m g) (l:fs.lookup m=none)
   (h:Q (.ref g,[.ref a]) s):wpAny (model X.prog X.w) A (getMethod (.ref a) m pl) Q E s:=by
 obtain ⟨mA,O,r,_,_,_⟩:=zE5 I.hok e
 have hn:mA m=none:=RelO.none_of (by rw[<-l];exact r m)
 exact get_meth I.kIn O (c.get m) k.at_ k.fn hn h
theorem setattr_ok {y:V} {u:Value} {Q:Unit->Shared->Prop} (I:Inv X pins σ H s) (e:H a=some (.ins C dx fs)) (c:Cls X.K C) (n:ze2 X.K C f) (hl:fs.length<1000) (ry:RelV y u)
   (h:∀ s',Inv X pins σ (upd H a (.ins C dx (putF f y fs))) s'->Q () s'):wpAny (model X.prog X.w) A (setAttr (.ref a) f u) Q E s:=by
 obtain ⟨mA,O,r,wi,_,ho⟩:=zE5 I.hok e
 have hz:(fs.map (·.1)).length<=sizeLine:=by rw[List.length_map,sizeLine_eq];omega
 refine set_map I.kIn O c.sa c.po n.taker c.hd wi hz fun h' O' sb=>h _ ?_
 have hd:∃ o,h'.get? dx=some o:=let ⟨o,_,_,e',_⟩:=O'.ns;⟨o,e'⟩
 refine I.write (x:=a) (e:=dx) (by rw[e];exact True.intro) (.inr ho) (fun b q hb z=>(sb.2 b hb).trans z) hd ?_
 refine⟨by rw[za7 O.ne];exact ho,?_,O.ne,O'.obj,_,O'.ns,fun g=>?_,fun g hg=>?_⟩
 . have:=zn2 f y fs;omega
 . show RelO ((putF f y fs).lookup g) (if g=f then some u else mA g)
   rw[zc1]
   by_cases q:g=f
   . rw[if_pos q,if_pos q];exact ry
   . rw[if_neg q,if_neg q];exact r g
 . by_cases q:g=f
   . rw[q];exact (zs9 f y fs).1
   . refine (zs9 f y fs).2 g (wi g fun z=>hg ?_)
     show (if g=f then some u else mA g)=none
     rw[if_neg q];exact z
theorem Inv.made (I:Inv X pins σ H s):Inv X pins σ (upd (upd H s.heap.objs.size (.own (s.heap.objs.size+1))) (s.heap.objs.size+1) (.ins C s.heap.objs.size []))
   { s with heap:=(s.heap.push PySem.W.emptyDict).push (PySem.W.instObj C s.heap.objs.size) }:=by
 have e1:(s.heap.push PySem.W.emptyDict).get? s.heap.objs.size=some PySem.W.emptyDict:=Heap.get?_push_size s.heap rfl
 have e2:((s.heap.push PySem.W.emptyDict).push (PySem.W.instObj C s.heap.objs.size)).get? (s.heap.objs.size+1)=some (PySem.W.instObj C s.heap.objs.size):=by
   have:=Heap.get?_push_size (s.heap.push PySem.W.emptyDict) (o:=PySem.W.instObj C s.heap.objs.size) rfl
   rwa [Heap.size_push] at this
 have e3:(s.heap.push PySem.W.emptyDict).Ns s.heap.objs.size (fun _=>none):=⟨PySem.W.emptyDict,#[],_,e1,rfl,(fun e he=>absurd he (by simp)),fun _=>rfl⟩
 have I1:=I.laid (a:=s.heap.objs.size) (o:=.own (s.heap.objs.size+1)) (h':=s.heap.push PySem.W.emptyDict) (t':=s.toks) (fun b u q=>Heap.get?_push_of_some _ q) (Nat.le_refl _) ⟨_,e1⟩
 refine I1.laid (a:=s.heap.objs.size+1) (o:=.ins C s.heap.objs.size []) (t':=s.toks) (fun b u q=>Heap.get?_push_of_some _ q) (Nat.le_of_eq (Heap.size_push _ _)) ?_
 have ne:s.heap.objs.size≠s.heap.objs.size+1:=Nat.ne_of_lt (Nat.lt_succ_self _)
 refine⟨by rw[za7 ne,za2],Nat.zero_le _,ne,e2,fun _=>none,(Heap.Ns1.of_empty e3).at fun o q=>Heap.get?_push_of_some _ q,fun _=>True.intro,fun y hy=>absurd rfl hy⟩
theorem attr_of {prog:Program} {w:World} {env:Env} {e:Expr} {f:Str} {pos:Pos} {s:Shared} {Q:Value->Shared->Prop} (hb:attributeBase e f env (eval e env)=eval e env)
   (h:wpAny (model prog w) A (eval e env) (fun o s₁=>wpAny (model prog w) A (getAttr o f true) Q E s₁) E s):wpAny (model prog w) A (eval (.Attribute e f pos) env) Q E s :=
 Attribute_any_ h (by rw[arm_eval_Attribute,hb])
end
/-! ### readings and rules -/
noncomputable def tFld (K:PySem.W.Frag) (ta:TE) (f:Str):TE:=fun σ H Q=>ta σ H fun x H1=>∃ a C dx fs v,x = .ref a/\H1 a=some (.ins C dx fs)/\Cls K C/\ze2 K C f/\fs.lookup f=some v/\Q v H1
noncomputable def sFld (K:PySem.W.Frag) (ta tv:TE) (f:Str):TS:=fun D σ H=>tv σ H fun y H1=>ta σ H1 fun x H2=>∃ a C dx fs,x = .ref a/\H2 a=some (.ins C dx fs)/\Cls K C/\ze2 K C f/\fs.length<1000 ∧
 D.nx σ (upd H2 a (.ins C dx (putF f y fs)))
section
variable {X:Cx} {o e value:Expr} {f:Str} {pos pos' tpos:Pos} {ta tv:TE}
theorem zg3 (he:PE X e ta) (hb:attributeBase e f X.env (eval e X.env)=eval e X.env):PE X (.Attribute e f pos) (tFld X.K ta f):=by
 intro pins s σ H Q I h
 refine attr_of hb (thn (he pins s σ H _ I h) fun u s1 ⟨x,H1,I1,rx,a,C,dx,fs,v,ex,ea,c,n,l,q⟩=>?_)
 subst ex
 obtain rfl:u=Value.ref a:=rx
 exact getattr_ok I1 ea c n l fun u' s2 I2 ru=>⟨v,H1,I2,ru,q⟩
theorem zs4 (ha:PE X o ta) (hv:PE X value tv) (hs:swapsWith value (some (.Attribute o f pos')) pos.line X.env=pure false):PS X (.Assign [.Attribute o f pos'] value pos) (sFld X.K ta tv f):=by
 intro pins s σ H D I h
 refine plainObj_wpAny_Assign_Attribute (thn (hv pins s σ H _ I h) fun u s1 ⟨y,H1,I1,ry,q⟩=>thn (ha pins s1 σ H1 _ I1 q) fun ov s2 ⟨x,H2,I2,rx,a,C,dx,fs,ex,ea,c,n,l,q2⟩=>?_) hs
 subst ex
 obtain rfl:ov=Value.ref a:=rx
 exact setattr_ok I2 ea c n l ry fun s3 I3=>⟨σ,_,I3,q2⟩
end
/-! ### isinstance -/
section
variable {X:Cx} {pins:List (Addr×Obj)} {σ:St} {H:Hp} {s:Shared} {A:Around} {E:Value->Shared->Prop} {Q:Value->Shared->Prop} {c:Value} {b:Bool}
inductive TyOf (K:PySem.W.Frag) (H:Hp):V->Value->Prop where
 | non:TyOf K H .non (.type "NoneType")
 | bl (x:Bool):TyOf K H (.bl x) (.type "bool")
 | int (i:Int):TyOf K H (.int i) (.type "int")
 | str (x:Str):TyOf K H (.str x) (.type "str")
 | flt (x:UInt64):TyOf K H (.flt x) (.type "float")
 | lst {a:Addr} {xs:List V} (e:H a=some (.lst xs)):TyOf K H (.ref a) (.type "list")
 | frz {a:Addr} {o:Obj} {xs:List V} (e:H a=some (.frz o (.lst xs))):TyOf K H (.ref a) (.type "list")
 | tup {a:Addr} {xs:List V} (e:H a=some (.tup xs)):TyOf K H (.ref a) (.type "tuple")
 | dK {a:Addr} {kvs:List (Key×V)} (e:H a=some (.dK kvs)):TyOf K H (.ref a) (.type "dict")
 | dT {a:Addr} {kvs:List (List Key×V)} (e:H a=some (.dT kvs)):TyOf K H (.ref a) (.type "dict")
 | ins {a C dx:Addr} {fs:List (Str×V)} (e:H a=some (.ins C dx fs)) (cl:Cls K C) (ha:PySem.W.findIn K (.ref C) "__class__" = some (some (.builtin "object.__class__")))
     (hn:PySem.W.specialIn K (.builtin "object.__class__") "__get__" = some (some (.builtin "getset_descriptor.__get__"))) (htk:PySem.W.takesIn K (.builtin "object.__class__")=some true)
     (hm:PySem.W.mroIn K C (.type "object")=some true):TyOf K H (.ref a) (.ref C)
theorem isinst_ok {x:V} {u t:Value} (I:Inv X pins σ H s) (rx:RelV x u) (ty:TyOf X.K H x t) (e:PySem.W.kitOne X.K t c=some b) (h:∀ tk,Q (.bool b) { s with toks:=tk }) :
   wpAny (model X.prog X.w) A (call (.builtin "isinstance") [u,c]) Q E s:=by
 cases ty with
 | non=>cases (show u=Value.none from rx);exact PySem.W.kia_one PySem.W.kitx_none I.kIn True.intro e (fun z=>nomatch z) h
 | bl y=>cases (show u=Value.bool y from rx);exact PySem.W.kia_one PySem.W.kitx_bool I.kIn True.intro e (fun z=>nomatch z) h
 | int i=>obtain ⟨t,q⟩:=(show ∃ t,u=Value.int i t from rx);cases q;exact PySem.W.kia_one PySem.W.kitx_int I.kIn True.intro e (fun z=>nomatch z) h
 | str y=>obtain ⟨t,q⟩:=(show ∃ t,u=Value.str y t from rx);cases q;exact PySem.W.kia_one PySem.W.kitx_str I.kIn True.intro e (fun z=>nomatch z) h
 | flt y=>obtain ⟨t,q⟩:=(show ∃ t,u=Value.float y t from rx);cases q;exact PySem.W.kia_one PySem.W.kitx_float I.kIn True.intro e (fun z=>nomatch z) h
 | @lst a xs ea =>
   cases (show u=Value.ref a from rx)
   obtain ⟨_,_,n,_,h1⟩:=(show zi0 X.prog X.w H s.heap a (.lst xs) from I.hok a _ ea)
   exact PySem.W.kia_one PySem.W.kitx_list I.kIn ⟨_,h1,rfl⟩ e (fun z=>nomatch z) h
 | @frz a ob xs ea =>
   cases (show u=Value.ref a from rx)
   obtain ⟨_,_,_,n,_,h1⟩:=(show zi0 X.prog X.w H s.heap a (.frz ob (.lst xs)) from I.hok a _ ea)
   exact PySem.W.kia_one PySem.W.kitx_list I.kIn ⟨_,h1,rfl⟩ e (fun z=>nomatch z) h
 | @tup a xs ea =>
   cases (show u=Value.ref a from rx)
   obtain ⟨_,_,_,p⟩:=(show zi0 X.prog X.w H s.heap a (.tup xs) from I.hok a _ ea)
   obtain ⟨o,h1,h2,_⟩:=p
   exact PySem.W.kia_one PySem.W.kitx_tuple I.kIn ⟨o,h1,h2⟩ e (fun z=>nomatch z) h
 | @dK a kvs ea =>
   cases (show u=Value.ref a from rx)
   obtain ⟨_,_,vs,_,p⟩:=(show zi0 X.prog X.w H s.heap a (.dK kvs) from I.hok a _ ea)
   obtain ⟨o,es,ep,h1,h2,_⟩:=p
   exact PySem.W.kia_one PySem.W.kitx_dict I.kIn ⟨o,h1,h2.1⟩ e (fun z=>nomatch z) h
 | @dT a kvs ea =>
   cases (show u=Value.ref a from rx)
   obtain ⟨_,_,xs,_,o,es,ep,h1,h2,_⟩:=(show zi0 X.prog X.w H s.heap a (.dT kvs) from I.hok a _ ea)
   exact PySem.W.kia_one PySem.W.kitx_dict I.kIn ⟨o,h1,h2.1⟩ e (fun z=>nomatch z) h
 | @ins a C dx fs ea cl ha hn htk hm =>
   cases (show u=Value.ref a from rx)
   obtain ⟨mA,O,_⟩:=zE5 I.hok ea
   obtain ⟨od,J,_⟩:=O.look
   exact PySem.W.kia_one (PySem.W.kitx_own (cl.get _) cl.hd ha hn htk hm) I.kIn J e (fun z=>nomatch z) h
end
end L2
namespace L2
open PySem PySem.Spec PyProof.Rows
/-! ### room -/
structure Room (k:Nat) (A:Around):Prop where
 hd:A.handled=none
 dp:A.depth+3*k+5<recursionLimit
 un:A.units+16*k+200<cLine
theorem Room.mono {j k:Nat} {A:Around} (r:Room k A) (h:j<=k):Room j A:=⟨r.hd,by have:=r.dp;omega,by have:=r.un;omega⟩
theorem Room.deeper {k:Nat} {A:Around} (r:Room (k+1) A) (env:Env):Room k (A.deeper env) :=
 ⟨r.hd,by have:=r.dp;show A.depth+1+3*k+5<_;omega,by have:=r.un;show A.units+3+16*k+200<_;omega⟩
theorem make_depth {A:Around} {C:Addr} {us:List Value} {kw:List (Str×Value)}:(A.under (.builtin "type.__call__" ⟨.ref C::us,kw⟩)).depth=A.depth+1:=by
 first | rfl | simp[Around.under,Code.weight,Code.isCreation,Code.isGuard,Code.isCaller,Code.frames,Code.isFrame,guardIds]
theorem make_units {A:Around} {C:Addr} {us:List Value} {kw:List (Str×Value)}:(A.under (.builtin "type.__call__" ⟨.ref C::us,kw⟩)).units=A.units+1:=by
 first | rfl | simp[Around.under,Code.cUnits,Code.frames,Code.isFrame]
theorem Room.make {k:Nat} {A:Around} (r:Room (k+1) A) (C:Addr) (us:List Value) (kw:List (Str×Value)):Room k (A.under (.builtin "type.__call__" ⟨.ref C::us,kw⟩)) :=
 ⟨r.hd,by have:=r.dp;rw[make_depth];omega,by have:=r.un;rw[make_units];omega⟩
theorem Room.depth {k:Nat} {A:Around} (r:Room k A):A.depth<recursionLimit:=by have:=r.dp;omega
theorem Room.units {k:Nat} {A:Around} (r:Room k A):A.units+64<cLine:=by have:=r.un;omega
/-! ### argument lists and displays -/
noncomputable def tNil:TA:=fun _ H Q=>Q [] H
noncomputable def zS3 (ta:TE) (tr:TA):TA:=fun σ H Q=>ta σ H fun x H1=>tr σ H1 fun xs H2=>Q (x::xs) H2
section
variable {X:Cx} {e:Expr} {es:List Expr} {te:TE} {t:TA} {pos:Pos}
theorem za3:PA X [] tNil:=fun _ _ _ _ H Q I h=>Calls.spliced_nil ⟨[],H,I,.nil,h⟩
theorem za0 (ha:PE X e te) (hr:PA X es t) (hs:starEach (e::es) X.env=(false,eval e X.env)::starEach es X.env:=by rfl):PA X (e::es) (zS3 te t):=by
 intro pos pins s σ H Q I h
 rw[hs]
 show wpAny _ _ (spliced ((false,eval e X.env)::backTo pos (starEach es X.env))) _ _ s
 refine Calls.spliced_cons (thn (ha pins s σ H _ I h) fun u s1 ⟨x,H1,I1,r1,q1⟩=>?_)
 exact thn (hr pos pins s1 σ H1 _ I1 q1) fun us s2 ⟨xs,H2,I2,r2,q2⟩=>⟨x::xs,H2,I2,.cons r1 r2,q2⟩
noncomputable def tTup (t:TA):TE:=fun σ H Q=>t σ H fun xs H1=>xs.length<=sizeLine/\∀ p,H1 p=none->Q (.ref p) (upd H1 p (.tup xs))
noncomputable def tLst (t:TA):TE:=fun σ H Q=>t σ H fun xs H1=>xs.length<=sizeLine/\∀ p,H1 p=none->Q (.ref p) (upd H1 p (.lst xs))
theorem zu6 {x1} (h:PA X es t):PE X (.Tuple es x1 pos) (tTup t):=by
 intro pins s σ H Q I hq
 refine wpAny_Tuple_spliced (thn (h pos pins s σ H _ I hq) fun us s1 ⟨xs,H1,I1,r,z,q⟩=>⟨by rw[<-r.length];exact z,?_⟩)
 have hf:H1 s1.heap.objs.size=none:=I1.hok.fresh (Nat.le_refl _)
 refine⟨.ref s1.heap.objs.size,upd H1 s1.heap.objs.size (.tup xs),I1.laid (t':=s1.toks) (fun b u e=>Heap.get?_push_of_some _ e) (Nat.le_refl _) ?_,rfl,q _ hf⟩
 exact⟨z,us,r,⟨_,Heap.get?_push_size _ rfl,rfl,rfl,_,rfl⟩⟩
theorem ze1 (h:PA X es t):PE X (.List es pos) (tLst t):=by
 intro pins s σ H Q I hq
 refine wpAny_List_spliced (thn (h pos pins s σ H _ I hq) fun us s1 ⟨xs,H1,I1,r,z,q⟩=>⟨by rw[<-r.length];exact z,?_⟩)
 have hf:H1 s1.heap.objs.size=none:=I1.hok.fresh (Nat.le_refl _)
 refine⟨.ref s1.heap.objs.size,upd H1 s1.heap.objs.size (.lst xs),I1.laid (t':=s1.toks) (fun b u e=>Heap.get?_push_of_some _ e) (Nat.le_refl _) ?_,rfl,q _ hf⟩
 exact⟨z,us,0,r,Heap.get?_push_size _ rfl⟩
end
/-! ### what a def promises -/
noncomputable abbrev Sp:=List V->Hp->VK->XK->Prop
noncomputable abbrev CXT:=List Env->Hp->Shared->XK->Value->Shared->Prop
structure Env0 (P:Program) (w:World) (K:PySem.W.Frag) (mg:Str->Option Value) (base:Heap) (A:Around) (outer:List Env) (s:Shared) (H:Hp):Prop where
 frames:A.frames=some outer
 mod:Mod K mg base
 bs:∀ b o,base.get? b=some o->s.heap.get? b=some o/\H b=none
 bsz:base.objs.size<=s.heap.objs.size
 funs:s.heap.FunFrames base outer
 frf:∀ b∈frs outer,H b=none
 hok:HOk P w H s.heap
 bare:AllBare s.gens
noncomputable def CE (outer:List Env) (P:Program) (w:World) (H:Hp) (s:Shared) (Q:VK) (u:Value) (s':Shared):Prop :=
 ∃ v H',s'.os=s.os/\AllBare s'.gens/\Un (frs outer) [] H H' s.heap s'.heap/\HOk P w H' s'.heap/\RelV v u/\Q v H'
noncomputable def CR (CX:CXT) (outer:List Env) (P:Program) (w:World) (H:Hp) (s:Shared) (Q:VK) (E:XK) (r:Result) (s':Shared):Prop :=
 match r with
 | .ok (.ret u)=>CE outer P w H s Q u s'
 | .ok _=>False
 | .error e=>CX outer H s E e s'
structure FnOk (P:Program) (w:World) (K:PySem.W.Frag) (mg:Str->Option Value) (base:Heap) (CX:CXT) (k:Nat) (f:Addr) (fd:FuncData) (ps:List Str) (sp:Sp):Prop where
 len:∀ vs H Q E,sp vs H Q E->vs.length=ps.length
 run:∀ (A:Around) (outer:List Env) (s:Shared) (H:Hp) (args:Args) (us:List Value) (vs:List V) (Q:VK) (E:XK),Room k A->Env0 P w K mg base A outer s H->BindsTo s fd args (ps.zip us)->Vals vs us->sp vs H Q E →
   codeAny (model P w) A (.call (.ref f) args) (CR CX outer P w H s Q E) s
theorem Env0.make {P:Program} {w:World} {K:PySem.W.Frag} {mg:Str->Option Value} {base:Heap} {A:Around} {outer:List Env} {s:Shared} {H:Hp} (e:Env0 P w K mg base A outer s H) (C:Addr) (us:List Value) (kw:List (Str×Value)) :
 Env0 P w K mg base (A.under (.builtin "type.__call__" ⟨.ref C::us,kw⟩)) outer s H:=⟨by first | exact e.frames | (simpa [Around.under,Code.envs,Code.isFrame,pushEnvs] using e.frames),e.mod,e.bs,e.bsz,e.funs,e.frf,e.hok,e.bare⟩
section
variable {X:Cx} {pins:List (Addr×Obj)} {σ:St} {H:Hp} {s s':Shared}
theorem Inv.env0 (I:Inv X pins σ H s):Env0 X.prog X.w X.K X.mg X.base X.A X.stack s H :=
 ⟨I.ok.frames,I.ok.mod,I.bs,Nat.le_trans I.ok.bsz I.sz,I.stack,I.stkFree,I.hok,I.bare⟩
theorem Inv.after {Q:VK} {u:Value} (I:Inv X pins σ H s) (h:CE X.stack X.prog X.w H s Q u s'):EP X pins σ Q u s':=by
 obtain ⟨v,H',os,bare,un,hok,r,q⟩:=h
 obtain ⟨hh,g,d,t,os'⟩:=s'
 obtain rfl:os'=s.os:=os
 exact⟨v,H',I.call (h':=hh) (g':=g) (d':=d) (t':=t) (ch:=[]) un hok bare (fun b z=>absurd z (by simp)),r,q⟩
end
/-! ### calls -/
noncomputable def zU5 (sp:Sp) (dvs:List V) (E:XK) (t:TA):TE:=fun σ H Q=>t σ H fun vs H1=>sp (vs++dvs) H1 Q E
noncomputable def tMeth (C:Addr) (m:Str) (sp:Sp) (dvs:List V) (E:XK) (ta:TE) (t:TA):TE:=fun σ H Q=>ta σ H fun x H1=>∃ a dx fs,x = .ref a/\H1 a=some (.ins C dx fs)/\fs.lookup m=none ∧
 t σ H1 fun vs H2=>sp (x::(vs++dvs)) H2 Q E
noncomputable def tMake (C:Addr) (sp:Sp) (dvs:List V) (E:XK) (t:TA):TE:=fun σ H Q=>t σ H fun vs H1=>∀ x dx,H1 x=none->H1 dx=none->dx≠x →
 sp (.ref x::(vs++dvs)) (upd (upd H1 dx (.own x)) x (.ins C dx [])) (fun v H2=>v = .non/\Q (.ref x) H2) E
noncomputable def zc7 (K:PySem.W.Frag) (fd:FuncData) (ps:List Str) (ds:List Value):Prop :=
 ∀ (s:Shared) (us:List Value),K.In s.heap->(us++ds).length=ps.length->BindsTo s fd ⟨us,[]⟩ (ps.zip (us++ds))
theorem zc7.all {K:PySem.W.Frag} {fd:FuncData} {ps:List Str} (h:∀ us:List Value,us.length=ps.length->bindArgs fd ⟨us,[]⟩=pure (ps.zip us)):zc7 K fd ps []:=fun s us _ hl=>by
 rw[List.append_nil] at hl ⊢
 exact .of_eq (h us hl)
noncomputable def zs5 (CX:CXT) (X:Cx) (E:XK):Prop:=∀ (pins:List (Addr×Obj)) (σ:St) (H:Hp) (s:Shared) (e:Value) (s':Shared),Inv X pins σ H s->CX X.stack H s E e s'->X.xe e s'
section
variable {X:Cx} {CX:CXT} {k:Nat} {f C:Addr} {fd:FuncData} {ps:List Str} {sp:Sp} {dvs:List V} {ds:List Value} {E:XK} {x m:Str} {p pos apos:Pos} {e o:Expr} {es:List Expr} {ta:TE} {t:TA}
theorem zO4 {pins:List (Addr×Obj)} {σ:St} {H:Hp} {s:Shared} {Q:VK} {us:List Value} {vs:List V} (F:FnOk X.prog X.w X.K X.mg X.base CX k f fd ps sp) (hr:Room k X.A) (hb:zc7 X.K fd ps ds) (hd:Vals dvs ds) (hx:zs5 CX X E)
   (I:Inv X pins σ H s) (r:Vals vs us) (h:sp (vs++dvs) H Q E):wpAny (model X.prog X.w) X.A (call (.ref f) us) (EP X pins σ Q) X.xe s:=by
 have r2:Vals (vs++dvs) (us++ds):=r.append hd
 have hl:(us++ds).length=ps.length:=by rw[<-r2.length];exact F.len _ _ _ _ h
 refine wpAny_call (codeAny_mono (F.run X.A X.stack s H ⟨us,[]⟩ (us++ds) (vs++dvs) Q E hr I.env0 (hb s us I.kIn hl) r2 h) fun r s' hq=>?_)
 cases r with
 | error e=>exact hx pins σ H s e s' I hq
 | ok fl =>
   cases fl with
   | ret u=>exact I.after hq
   | next=>exact False.elim hq
   | brk=>exact False.elim hq
   | cont=>exact False.elim hq
theorem zb3 (F:FnOk X.prog X.w X.K X.mg X.base CX k f fd ps sp) (hr:Room k X.A) (hg:Gl X x) (hm:X.mg x=some (.ref f)) (hk:PySem.W.keepIn X.K (.ref f)=true) (hb:zc7 X.K fd ps ds) (hd:Vals dvs ds) (hx:zs5 CX X E)
   (ha:PA X (e::es) t) (hdb:(x == ("__debug__" : Str))=false:=by decide) (he:starEach (e::es) X.env=(false,eval e X.env)::starEach es X.env:=by rfl) (hpl:(backTo pos (starEach es X.env)).any (·.1)=false:=by rfl) :
   PE X (.Call (.Name x p) (e::es) [] pos) (zU5 sp dvs E t):=by
 intro pins s σ H Q I h
 refine wpAny_Call_Name_kw (zx4 I hg hm ?_ hdb)
 refine PySem.W.callWith_K (h₀:=X.base) I.ok.mod.kin hk (thn (ha pos pins s σ H _ I h) fun us s1 ⟨vs,H1,I1,r,q⟩=>⟨I1.kIn,?_⟩) he hpl
 exact zO4 F hr hb hd hx I1 r q
theorem pe_meth0 {pl:Sem Bool} (he:PE X o ta) (c:Cls X.K C) (hm:Meth X.K C m f) (F:FnOk X.prog X.w X.K X.mg X.base CX k f fd ps sp) (hr:Room k X.A) (hb:zc7 X.K fd ps ds) (hd:Vals dvs ds) (hx:zs5 CX X E)
   (ht:eval (.Call (.Attribute o m apos) [] [] pos) X.env=(do
     let ov <-eval o X.env
     standAt apos.atName
     let (f,first) <-holding [ov] (getMethod ov m pl)
     callWith pos f first (backTo pos (starEach [] X.env)) (backToKw pos (keywordEach [] X.env))):=by rfl) :
   PE X (.Call (.Attribute o m apos) [] [] pos) (tMeth C m sp dvs E ta tNil):=by
 intro pins s σ H Q I h
 refine PySem.W.methodCall_KW (pl:=pl) (thn (he pins s σ H _ I h) fun u s1 ⟨x,H1,I1,rx,a,dx,fs,ex,ea,l,q⟩=>?_) ht
 subst ex
 obtain rfl:u=Value.ref a:=rx
 refine zz0 I1 ea c hm l ?_
 exact PySem.W.callWith_K0 (first:=[.ref a]) I1.kIn hm.kp (zO4 (us:=[.ref a]) (vs:=[.ref a]) F hr hb hd hx I1 (.cons rfl .nil) q)
structure Mk (K:PySem.W.Frag) (C f:Addr):Prop where
 makes:PySem.W.makesIn K C=true
 init:PySem.W.findIn K (.ref C) "__init__" = some (some (.ref f))
 fn:PySem.W.isFn K (.ref f)=true
 kp:PySem.W.keepIn K (.ref C)=true
theorem run_make {pins:List (Addr×Obj)} {σ:St} {H:Hp} {s:Shared} {Q:VK} {us:List Value} {vs:List V} (M:Mk X.K C f) (F:FnOk X.prog X.w X.K X.mg X.base CX k f fd ps sp) (hr:Room (k+1) X.A) (hb:zc7 X.K fd ps ds) (hd:Vals dvs ds)
   (hx:zs5 CX X E) (I:Inv X pins σ H s) (r:Vals vs us)
   (h:∀ x dx,H x=none->H dx=none->dx≠x->sp (.ref x::(vs++dvs)) (upd (upd H dx (.own x)) x (.ins C dx [])) (fun v H2=>v = .non/\Q (.ref x) H2) E) :
   wpAny (model X.prog X.w) X.A (call (.ref C) us) (EP X pins σ Q) X.xe s:=by
 have hq:=h (s.heap.objs.size+1) s.heap.objs.size (I.hok.fresh (Nat.le_succ _)) (I.hok.fresh (Nat.le_refl _)) (Nat.ne_of_lt (Nat.lt_succ_self _))
 have I2:=Inv.made (C:=C) I
 have r2:Vals (V.ref (s.heap.objs.size+1)::(vs++dvs)) (Value.ref (s.heap.objs.size+1)::(us++ds)):=.cons rfl (r.append hd)
 have hl:(Value.ref (s.heap.objs.size+1)::us++ds).length=ps.length:=by
   have e:=r2.length
   rw[F.len _ _ _ _ hq] at e
   exact e.symm
 refine wpAny_call (make_map (f:=f) I.kIn M.makes M.init (beq_iff_eq.mp M.fn) (codeAny_mono (F.run _ X.stack _ _ ⟨Value.ref (s.heap.objs.size+1)::us,[]⟩ (Value.ref (s.heap.objs.size+1)::(us++ds)) _ _ E (hr.make C us [])
   (I2.env0.make C us []) (hb _ (Value.ref (s.heap.objs.size+1)::us) I2.kIn hl) r2 hq) fun r s' hq'=>?_))
 cases r with
 | error e=>exact hx pins σ _ _ e s' I2 hq'
 | ok fl =>
   cases fl with
   | ret u =>
     obtain ⟨v,H',I3,rv,ev,q3⟩:=I2.after hq'
     subst ev
     exact⟨rv,⟨V.ref (s.heap.objs.size+1),H',I3,rfl,q3⟩⟩
   | next=>exact False.elim hq'
   | brk=>exact False.elim hq'
   | cont=>exact False.elim hq'
theorem zP0 (M:Mk X.K C f) (F:FnOk X.prog X.w X.K X.mg X.base CX k f fd ps sp) (hr:Room (k+1) X.A) (hg:Gl X x) (hm:X.mg x=some (.ref C)) (hb:zc7 X.K fd ps ds) (hd:Vals dvs ds) (hx:zs5 CX X E)
   (ha:PA X (e::es) t) (hdb:(x == ("__debug__" : Str))=false:=by decide) (he:starEach (e::es) X.env=(false,eval e X.env)::starEach es X.env:=by rfl) (hpl:(backTo pos (starEach es X.env)).any (·.1)=false:=by rfl) :
   PE X (.Call (.Name x p) (e::es) [] pos) (tMake C sp dvs E t):=by
 intro pins s σ H Q I h
 refine wpAny_Call_Name_kw (zx4 I hg hm ?_ hdb)
 refine PySem.W.callWith_K (h₀:=X.base) I.ok.mod.kin M.kp (thn (ha pos pins s σ H _ I h) fun us s1 ⟨vs,H1,I1,r,q⟩=>⟨I1.kIn,?_⟩) he hpl
 exact run_make M F hr hb hd hx I1 r q
end
/-! ### keywords -/
section
variable {X:Cx} {CX:CXT} {k:Nat} {f C:Addr} {fd:FuncData} {ps ks:List Str} {sp:Sp} {E:XK} {x m:Str} {p pos apos kpos:Pos} {e o:Expr} {es:List Expr} {kws:List Keyword} {te ta:TE} {t tk:TA} {nm:Option Str}
variable {g:List Value->List Value->List Value} {gV:List V->List V->List V}
end
/-! ### a def's body keeps its promise -/
structure zc0 (N P:List Str) (sc:Scope):Prop where
 kind:sc.kind = .function
 co:sc.isCoroutine=false
 gen:sc.isGenerator=false
 nd:N.Nodup
 pre:N.take P.length=P
 par:∀ x∈P,sc.names.lookup x=some .local\/sc.names.lookup x=some .cell
 nofree:∀ y∈sc.names,y.2≠.free
theorem zH5 {kindOf:Str->Option NameKind} {x:Str}:∀ {binds:List (Str×Value)} {m:Str->Option Value},(∀ v,(x,v)∉binds)->bindL kindOf binds m x=m x
 | [],_,_=>rfl
 | (n,v)::r,m,h=>by
   unfold bindL
   rw[zH5 fun w hw=>h w (List.mem_cons_of_mem _ hw)]
   split
   . have:x≠n:=by rintro rfl;exact h v List.mem_cons_self
     simp[this]
   . rfl
theorem zH6 {kindOf:Str->Option NameKind} {x:Str}:∀ {binds:List (Str×Value)} {m:Str->Option Value},(∀ v,(x,v)∉binds)->bindC kindOf binds m x=m x
 | [],_,_=>rfl
 | (n,v)::r,m,h=>by
   unfold bindC
   rw[zH6 fun w hw=>h w (List.mem_cons_of_mem _ hw)]
   split
   . rfl
   . have:x≠n:=by rintro rfl;exact h v List.mem_cons_self
     simp[this]
theorem zH7 {kindOf:Str->Option NameKind} {x:Str} {v:Value}:∀ {P:List Str} {vs:List Value} {i:Nat} {m:Str->Option Value},P.Nodup->P[i]?=some x->vs[i]?=some v->kindOf x=some .local →
   bindL kindOf (P.zip vs) m x=some v
 | [],_,_,_,_,h,_,_=>by simp at h
 | _::_,[],_,_,_,_,h,_=>by simp at h
 | p::P,w::vs,0,m,nd,h1,h2,hk=>by
   simp at h1 h2;subst h1;subst h2
   show bindL kindOf ((p,w)::P.zip vs) m p=_
   unfold bindL
   rw[zH5 fun v hv=>(List.nodup_cons.mp nd).1 (List.of_mem_zip hv).1,if_pos hk]
   simp
 | p::P,w::vs,i+1,m,nd,h1,h2,hk=>by
   show bindL kindOf ((p,w)::P.zip vs) m x=_
   unfold bindL
   exact zH7 (i:=i) (List.nodup_cons.mp nd).2 (by simpa using h1) (by simpa using h2) hk
theorem zH8 {kindOf:Str->Option NameKind} {x:Str} {v:Value}:∀ {P:List Str} {vs:List Value} {i:Nat} {m:Str->Option Value},P.Nodup->P[i]?=some x->vs[i]?=some v->kindOf x≠some .local →
   bindC kindOf (P.zip vs) m x=some v
 | [],_,_,_,_,h,_,_=>by simp at h
 | _::_,[],_,_,_,_,h,_=>by simp at h
 | p::P,w::vs,0,m,nd,h1,h2,hk=>by
   simp at h1 h2;subst h1;subst h2
   show bindC kindOf ((p,w)::P.zip vs) m p=_
   unfold bindC
   rw[zH6 fun v hv=>(List.nodup_cons.mp nd).1 (List.of_mem_zip hv).1,if_neg hk]
   simp
 | p::P,w::vs,i+1,m,nd,h1,h2,hk=>by
   show bindC kindOf ((p,w)::P.zip vs) m x=_
   unfold bindC
   exact zH8 (i:=i) (List.nodup_cons.mp nd).2 (by simpa using h1) (by simpa using h2) hk
noncomputable def start (N:List Str) (vs:List V):St:=vs.map some++List.replicate (N.length-vs.length) none
noncomputable def cxOf (CX:CXT) (P:Program) (w:World) (K:PySem.W.Frag) (mg:Str->Option Value) (base:Heap) (N:List Str) (qual:Str) (scope:Scope) (f:Addr) (cd:Value) (A:Around) (outer:List Env) (s:Shared) (H:Hp) (E:XK):Cx where
 prog:=P
 w:=w
 K:=K
 mg:=mg
 base:=base
 A:=A.deeper (envOfC qual scope s.heap.objs.size f cd)
 N:=N
 s₀:=s
 H₀:=H
 env:=envOfC qual scope s.heap.objs.size f cd
 outer:=outer
 stack:=envOfC qual scope s.heap.objs.size f cd::outer
 ex:=[]
 calm:=true
 fn:=fun _=>true
 pn:=[]
 xe:=fun e s'=>wpAny (model P w) (A.deeper (envOfC qual scope s.heap.objs.size f cd)) (leaving (envOfC qual scope s.heap.objs.size f cd) e) (fun _ s''=>CX outer H s E e s'') (fun e' s''=>CX outer H s E e' s'') s'
theorem zM4 {sc:Scope} {n:Nat} {x:Str} (h:sc.names.lookup x=some .cell):∃ c,(cellsFrom n sc.names []).lookup x=some c:=by
 have q:=PySem.W.cellsFrom_some sc.names n [] (.inl h)
 exact Option.isSome_iff_exists.mp q
theorem inv_start {CX:CXT} {P:Program} {w:World} {K:PySem.W.Frag} {mg:Str->Option Value} {base:Heap} {N ps:List Str} {qual:Str} {scope:Scope} {f:Addr} {cd:Value} {A:Around} {outer:List Env} {s s1:Shared} {H:Hp} {E:XK} {us:List Value} {vs:List V}
   (S:zc0 N ps scope) (hd:A.handled=none) (e0:Env0 P w K mg base A outer s H) (hl:vs.length=ps.length) (r:Vals vs us)
   (x:InCallC s s.heap.objs.size (bindL (envOfC qual scope s.heap.objs.size f cd).kindOf (ps.zip us) fun _=>none) (cellsFrom (s.heap.objs.size+1) scope.names []) (bindC (envOfC qual scope s.heap.objs.size f cd).kindOf (ps.zip us) fun _=>none) s1) :
   Inv (cxOf CX P w K mg base N qual scope f cd A outer s H E) [] (start N vs) H s1:=by
 have hpl:ps.length<=N.length:=by have:=congrArg List.length S.pre;rw[List.length_take] at this;omega
 obtain ⟨h1,tk,rfl,hk⟩:=x.done
 have noA:∀ b:Addr,b∉(cxOf CX P w K mg base N qual scope f cd A outer s H E).ex:=fun b z=>absurd (show b∈([]:List Addr) from z) (by simp)
 refine⟨⟨e0.mod,S.kind,rfl,rfl,Nat.le_refl _,fun y z c h1 h2=>?_,fun y hy=>?_,fun y c _ h=>?_,fun _=>hd,Around.frames_deeper e0.frames,.inr ⟨rfl,rfl⟩,fun b z=>absurd z (noA b),e0.bs,e0.bsz,fun b _ _=>noA b,fun b z=>absurd z (noA b),e0.funs,e0.frf⟩,
   rfl,e0.bare,Un.kept hk,⟨_,x.toInCall.ns,fun i y v h1 h2 h3=>?_⟩,fun y c h=>⟨_,x.cell y c h⟩,e0.hok.fresh (Nat.le_refl _),fun y c h=>?_,fun p hp=>absurd (show p∈([]:List (Addr×Obj)) from hp) (by simp),e0.hok.kept hk,?_⟩
 . exact name_of_addr x.apart (PySem.mem_of_lookup h1) (PySem.mem_of_lookup h2)
 . have hy:scope.names.lookup y=some .cell\/scope.names.lookup y=some .free:=hy
   rcases hy with hy | hy
   . exact zM4 hy
   . exact absurd rfl (S.nofree _ (PySem.mem_of_lookup hy))
 . exact Nat.le_of_lt (x.above y c (PySem.mem_of_lookup h))
 . have hi:i<vs.length:=by
     unfold start at h2
     by_cases hi:i<vs.length
     . exact hi
     . rw[List.getElem?_append_right (by simpa using hi)] at h2
       rw[List.getElem?_replicate] at h2
       split at h2<;>cases h2
   have ha:vs[i]?=some v:=by
     unfold start at h2
     rw[List.getElem?_append_left (by simpa using hi),List.getElem?_map] at h2
     cases e:vs[i]? with
     | none=>rw[e] at h2;cases h2
     | some a=>rw[e] at h2;cases h2;rfl
   obtain ⟨u,hu,rv⟩:=r.get ha
   have hp:ps[i]?=some y:=by
     rw[<-S.pre,List.getElem?_take_of_lt (by omega)];exact h1
   have ndP:ps.Nodup:=by rw[<-S.pre];exact S.nd.sublist (List.take_sublist _ _)
   refine⟨u,rv,?_⟩
   rcases S.par y (List.mem_of_getElem? hp) with k | k
   . exact .inl ⟨k,zH7 ndP hp hu k⟩
   . obtain ⟨c,e⟩:=zM4 (n:=s.heap.objs.size+1) k
     refine .inr ⟨.inl k,c,e,?_⟩
     have q:=x.cell y c e
     rw[zH8 ndP hp hu (by show scope.names.lookup y≠_;rw[k];decide)] at q
     exact q
 . exact e0.hok.fresh (Nat.le_of_lt (x.above y c (PySem.mem_of_lookup h)))
 . unfold start
   show _=N.length
   rw[List.length_append,List.length_map,List.length_replicate]
   omega
theorem zS4 {CX:CXT} {P:Program} {w:World} {K:PySem.W.Frag} {mg:Str->Option Value} {base:Heap} {k:Nat} {f:Addr} {name qual:Str} {params:Arguments} {body:List Stmt} {scope:Scope} {dV kV doc pm cdv ct oc:Value} {an od:Option Addr}
   {osl:Array (Option Value)} {N ps:List Str} {sp:Sp} (lk:K.lookup f=some ⟨oc,od,.func (PySem.W.fnOf name qual params body scope dV kV doc pm an cdv ct),osl⟩) (hcd:PySem.W.codeIn K cdv qual=true) (S:zc0 N ps scope)
   (len:∀ vs H Q E,sp vs H Q E->vs.length=ps.length)
   (hbody:∀ (A:Around) (outer:List Env) (s:Shared) (H:Hp) (vs:List V) (Q:VK) (E:XK),Room k (A.deeper (envOfC qual scope s.heap.objs.size f cdv))->sp vs H Q E →
     ∃ t,PSs (cxOf CX P w K mg base N qual scope f cdv A outer s H E) body t/\t { nx:=fun _ H'=>Q .non H',rt:=Q } (start N vs) H) :
   FnOk P w K mg base CX (k+1) f (PySem.W.fnOf name qual params body scope dV kV doc pm an cdv ct) ps sp:=by
 refine⟨len,fun A outer s H args us vs Q E hr e0 hb r hsp=>?_⟩
 have hl:=len _ _ _ _ hsp
 have KX:K.In s.heap:=e0.mod.kin.keeps fun b o e=>(e0.bs b o e).1
 have lim:s.heap.NoLimit:=e0.mod.nolimit.keeps fun b o e=>(e0.bs b o e).1
 have hkind:∀ y∈ps.zip us,scope.names.lookup y.1=some .local\/(scope.names.lookup y.1=some .cell/\((cellsFrom (s.heap.objs.size+1) scope.names []).lookup y.1).isSome=true):=fun ⟨n,v⟩ hy=>by
   rcases S.par n (List.of_mem_zip hy).1 with q | q
   . exact .inl q
   . exact .inr ⟨q,PySem.W.cellsFrom_some _ _ _ (.inl q)⟩
 refine codeAny_call_function hr.depth (KX _ _ lk) rfl S.co S.gen rfl (PySem.W.codeRec_of KX hcd) (hb _ _ _ _ ?_)
 refine wpAny_newFunctionEnv_cells S.kind hkind fun env he s1 x=>?_
 subst he
 refine⟨lim.keeps x.toInCall.keep,codeAny_func ?_⟩
 obtain ⟨t,ht,hq⟩:=hbody A outer s H vs Q E (hr.deeper _) hsp
 have I:Inv (cxOf CX P w K mg base N qual scope f cdv A outer s H E) [] (start N vs) H s1:=inv_start S hr.hd e0 hl r x
 refine wpAny_mono (ht [] s1 (start N vs) H _ I hq) (fun fl s' hs=>?_) fun e s' hs=>hs
 have fin:∀ {σ':St} {H':Hp} {v:V} {u:Value},Inv (cxOf CX P w K mg base N qual scope f cdv A outer s H E) [] σ' H' s'->RelV v u->Q v H'->CE outer P w H s Q u s' :=
   fun {σ' H' v u} J rv q=>⟨v,H',J.os,J.bare,J.base,J.hok,rv,q⟩
 cases fl with
 | ret u =>
   obtain ⟨v,σ',H',J,rv,q⟩:=hs
   exact fin J rv q
 | next =>
   obtain ⟨σ',H',J,q⟩:=hs
   exact fin (v:=V.non) (u:=Value.none) J rfl q
 | brk =>
   obtain ⟨_,_,_,q⟩:=hs
   exact False.elim q
 | cont =>
   obtain ⟨_,_,_,q⟩:=hs
   exact False.elim q
end L2
namespace L2
open PySem PySem.Spec PyProof.Rows
section
variable {X:Cx} {x:Str} {p pos:Pos} {e:Expr} {es:List Expr} {t:TA} {id T:String} {r:List V->Hp->VK->Prop}
noncomputable def tCB (r:List V->Hp->VK->Prop) (t:TA):TE:=fun σ H Q=>t σ H fun vs H1=>r vs H1 Q
theorem zb2 (hc:zs7 X (.builtin id) r) (hg:Gl X x) (hm:X.mg x=none) (hv:bootBuiltins x=some (.builtin id)) (ha:PA X (e::es) t) (hn:x≠"__name__":=by decide) (hdb:(x == ("__debug__" : Str))=false:=by decide)
   (he:starEach (e::es) X.env=(false,eval e X.env)::starEach es X.env:=by rfl) (hpl:(backTo pos (starEach es X.env)).any (·.1)=false:=by rfl):PE X (.Call (.Name x p) (e::es) [] pos) (tCB r t):=by
 intro pins s σ H Q I h
 refine wpAny_Call_Name_kw (zy9 I hg hm hv ?_ hn hdb)
 exact PyProof.Rows.callWith_builtin1 (thn (ha pos pins s σ H _ I h) fun us s1 ⟨vs,H1,I1,r1,q1⟩=>hc pins s1 σ H1 vs us Q I1 r1 q1) he hpl
theorem zj5 (hc:zs7 X (.type T) r) (hg:Gl X x) (hm:X.mg x=none) (hv:bootBuiltins x=some (.type T)) (ha:PA X (e::es) t) (hn:x≠"__name__":=by decide) (hdb:(x == ("__debug__" : Str))=false:=by decide)
   (he:starEach (e::es) X.env=(false,eval e X.env)::starEach es X.env:=by rfl) (hpl:(backTo pos (starEach es X.env)).any (·.1)=false:=by rfl):PE X (.Call (.Name x p) (e::es) [] pos) (tCB r t):=by
 intro pins s σ H Q I h
 refine wpAny_Call_Name_kw (zy9 I hg hm hv ?_ hn hdb)
 exact PyProof.Rows.callWith_type1 (thn (ha pos pins s σ H _ I h) fun us s1 ⟨vs,H1,I1,r1,q1⟩=>hc pins s1 σ H1 vs us Q I1 r1 q1) he hpl
end
end L2
namespace HT
open PySem PyProof.Rows
section
open PySem.SeqAt
open PySem.AutoSeq1 (wpAny_loadPart')
open PySem.MeetsSeq PySem.MeetsSeq2 PySem.MeetsSeq3
end
section
variable {prog:Program} {w:World} {A:Around} {E:Value->Shared->Prop} {s:Shared}
theorem cat_tup {t b:Addr} {vs ws:List Value} {Q:Value->Shared->Prop} (ht:IsTup s.heap t vs.toArray) (hb:IsTup s.heap b ws.toArray) (hv:vs≠[])
   (h1:ws=[]->Q (.ref t) s) (h2:ws≠[]->Q (.ref s.heap.objs.size) { s with heap:=s.heap.push { cls:=.type "tuple",data:=.seq (vs++ws).toArray } })
   (hsz:vs.length+ws.length<=sizeLine):wpAny (model prog w) A (binaryOp .Add (.ref t) (.ref b)) Q E s:=by
 obtain ⟨⟨cls,dd,data,sl⟩,ho,hc,n,hd⟩:=id ht
 obtain ⟨⟨cls2,dd2,data2,sl2⟩,ho2,hc2,n2,hd2⟩:=id hb
 simp only at hc hd hc2 hd2
 subst hc hd hc2 hd2
 have e:vs.toArray++ws.toArray=(vs++ws).toArray:=by simp
 by_cases hw:ws=[]
 . exact concat_meets ⟨_,ho,rfl⟩ ⟨_,ho2,rfl⟩ noFill_tuple_add seq_tuple_add PySem.F.slot_tuple_add PySem.F.entry_tuple_add (PySem.F.args_tuple_add_2 _ _)
     (tuple_addW1 t b vs.toArray ws.toArray n n2 dd dd2 sl sl2 (by simpa using hv) (by simp[hw])) ⟨ho,ho2,h1 hw⟩
 . refine concat_meets ⟨_,ho,rfl⟩ ⟨_,ho2,rfl⟩ noFill_tuple_add seq_tuple_add PySem.F.slot_tuple_add PySem.F.entry_tuple_add (PySem.F.args_tuple_add_2 _ _)
     (tuple_addW2 t b vs.toArray ws.toArray n n2 dd dd2 sl sl2 (by simpa using hv) (by simpa using hw) (by rw[List.size_toArray,List.size_toArray];exact hsz)) ⟨ho,ho2,?_⟩
   rw[e]
   exact h2 hw
/-! ### t[a:b],not the whole -/
noncomputable def sIx (n d:Nat):Option Int->Nat
 | none=>d
 | some v=>if v<0 then (v+(n:Int)).toNat else min v.toNat n
theorem sIx_none (n d:Nat):sIx n d none=d:=rfl
theorem sIx_nat (n d k:Nat):sIx n d (some (k:Int))=min k n:=by
 show (if (k:Int)<0 then ((k:Int)+(n:Int)).toNat else min (k:Int).toNat n)=min k n
 rw[if_neg (by omega),Int.toNat_natCast]
theorem sIx_le (n d:Nat) (hd:d<=n) (o:Option Int):sIx n d o<=n:=by
 cases o with
 | none=>exact hd
 | some v =>
   show (if v<0 then (v+(n:Int)).toNat else min v.toNat n)<=n
   by_cases hv:v<0
   . rw[if_pos hv];omega
   . rw[if_neg hv];exact Nat.min_le_right _ _
theorem zP1 (v:Int) (n d:Nat):(if v<0 then max (v+(n:Int)) 0 else min v (n:Int))=((sIx n d (some v):Nat):Int):=by
 show (if v<0 then max (v+(n:Int)) 0 else min v (n:Int))=(((if v<0 then (v+(n:Int)).toNat else min v.toNat n):Nat):Int)
 by_cases hv:v<0
 . simp only[if_pos hv];omega
 . simp only[if_neg hv];omega
theorem adjust_gen (lo hi:Option Int) (n:Nat):Builtin.Slice.sliceAdjust lo hi 1 (n:Int)=(((sIx n 0 lo:Nat):Int),((sIx n n hi:Nat):Int)):=by
 have h1:¬ ((1:Int)<0):=by omega
 unfold Builtin.Slice.sliceAdjust
 simp only[h1,if_false]
 refine Prod.ext ?_ ?_
 . cases lo with
   | none=>rfl
   | some v=>exact zP1 v n 0
 . cases hi with
   | none=>rfl
   | some v=>exact zP1 v n n
theorem places_gen (i j:Nat):Builtin.Slice.slicePlaces (i:Int) (j:Int) 1=j-i:=by
 unfold Builtin.Slice.slicePlaces
 have h1:(1:Int)>0:=by omega
 simp only[h1,if_true,Int.ediv_one]
 split<;>omega
theorem zF5 {v:Value} {o:Option Int} {Q:Option Int->Shared->Prop} (p:IsPart v o) (h:Q o s):wpAny (model prog w) A (Builtin.Slice.slicePartIndex v) Q E s:=by
 cases p with
 | none=>exact slicePart_none h
 | int i t=>exact slicePart_int h
theorem sliceApplied_gen {sl:Addr} {vl vu:Value} {lo hi:Option Int} {n:Nat} {Q:Int×Int×Nat->Shared->Prop} (hs:s.heap.IsSliceOf sl vl vu .none) (pl:IsPart vl lo) (pu:IsPart vu hi)
   (h:Q (((sIx n 0 lo:Nat):Int),1,sIx n n hi-sIx n 0 lo) s):wpAny (model prog w) A (Builtin.Slice.sliceApplied (.ref sl) (pure (n:Int))) Q E s:=by
 obtain ⟨os,hos,hcs,hds⟩:=id hs
 unfold Builtin.Slice.sliceApplied Builtin.Slice.sliceFields
 refine wpAny_bind (wpAny_bind (wpAny_field hos hds (x:=vl) rfl (wpAny_bind (wpAny_field hos hds (x:=vu) rfl (wpAny_bind (wpAny_field hos hds (x:=.none) rfl (wpAny_pure ?_)))))))
 refine wpAny_bind (slicePart_none ?_)
 show wpAny _ _ (if ((1:Int) == 0)=true then _ else _) _ _ s
 rw[if_neg (by decide)]
 refine wpAny_bind (zF5 pl (wpAny_bind (zF5 pu (wpAny_bind (wpAny_pure ?_)))))
 show wpAny _ _ (match Builtin.Slice.sliceAdjust lo hi 1 (n:Int) with | (lo,hi)=>pure (lo,(1:Int),Builtin.Slice.slicePlaces lo hi 1)) _ _ s
 rw[adjust_gen lo hi n]
 show wpAny _ _ (pure (((sIx n 0 lo:Nat):Int),(1:Int),Builtin.Slice.slicePlaces ((sIx n 0 lo:Nat):Int) ((sIx n n hi:Nat):Int) 1)) _ _ s
 rw[places_gen]
 exact wpAny_pure h
theorem pick_gen (xs:Array Value) (i k:Nat):((List.range k).filterMap fun (m:Nat)=>xs[((i:Int)+(m:Int)*1).toNat]?).toArray=((xs.toList.drop i).take k).toArray:=by
 have e:(fun (m:Nat)=>xs[((i:Int)+(m:Int)*1).toNat]?)=fun m=>xs[i+m]?:=by
   funext m
   have:((i:Int)+(m:Int)*1).toNat=i+m:=by omega
   rw[this]
 rw[e]
 have:=pick_run xs i k
 rw[List.filterMap_map] at this
 have e2:((fun x=>xs[x]?) ∘ fun x=>i+x)=fun m=>xs[i+m]?:=rfl
 rw[e2] at this
 rw[this]
theorem getItem_tuple_cut {t sl:Addr} {items:Array Value} {vl vu:Value} {lo hi:Option Int} {Q:Value->Shared->Prop} (ht:IsTup s.heap t items) (hs:s.heap.IsSliceOf sl vl vu .none) (pl:IsPart vl lo) (pu:IsPart vu hi)
   (hw:¬ (sIx items.size 0 lo=0/\sIx items.size items.size hi=items.size))
   (h:Q (.ref s.heap.objs.size) { s with heap:=s.heap.push { cls:=.type "tuple",data:=.seq ((items.toList.drop (sIx items.size 0 lo)).take (sIx items.size items.size hi-sIx items.size 0 lo)).toArray } })
   (hsz:items.size<=sizeLine):wpAny (model prog w) A (getItem (.ref t) (.ref sl)) Q E s:=by
 have htake:sizeOk (.seq ((items.toList.drop (sIx items.size 0 lo)).take (sIx items.size items.size hi-sIx items.size 0 lo)).toArray):=by
   show ((items.toList.drop (sIx items.size 0 lo)).take (sIx items.size items.size hi-sIx items.size 0 lo)).toArray.size<=sizeLine
   rw[List.size_toArray,List.length_take,List.length_drop,Array.length_toList]
   omega
 have hj:sIx items.size items.size hi<=items.size:=sIx_le _ _ (Nat.le_refl _) hi
 obtain ⟨os,hos,hcs,hds⟩:=id hs
 have hTs:s.TypeIs (.ref sl) "slice":=⟨os,hos,hcs⟩
 unfold getItem
 try with_reducible refine wpAny_holding ?_
 first | refine wpAny_bind (wpAny_pure ?_) | skip
 refine wpAny_bind (wpAny_sequenceKey ht.typeIs (by decide) ?_)
 refine wpAny_bind (wpAny_callSpecial?_slot (name:=Str.ofString "__getitem__") ht.typeIs PyProof.Rows.slot_tuple_getitem
   (wpAny_call_entry PyProof.Rows.slot_tuple_getitem ht.typeIs entry_tuple_getitem ?_ (args_tuple_getitem _ _)))
 show wpAny _ _ (Builtin.Tuple.tupleItemsOf (.ref t) >>= _) _ _ s
 refine wpAny_bind (tupleItemsOf_ ht ?_)
 refine wpAny_bind (wpAny_typeOf hTs ?_)
 rw[if_pos (by decide)]
 refine wpAny_bind (sliceApplied_gen hs pl pu ?_)
 have hno:¬ ((((sIx items.size 0 lo:Nat):Int) == 0 && (1:Int) == 1 && (sIx items.size items.size hi-sIx items.size 0 lo) == items.size)=true):=by
   intro q
   rw[Bool.and_eq_true,Bool.and_eq_true] at q
   have q1:((sIx items.size 0 lo:Nat):Int)=0:=eq_of_beq q.1.1
   have q2:sIx items.size items.size hi-sIx items.size 0 lo=items.size:=eq_of_beq q.2
   exact hw ⟨by omega,by omega⟩
 show wpAny _ _ (if (((sIx items.size 0 lo:Nat):Int) == 0 && (1:Int) == 1 && (sIx items.size items.size hi-sIx items.size 0 lo) == items.size)=true then _ else _) _ _ s
 rw[if_neg hno,pick_gen]
 first
   | exact wpAny_bind (m:=Builtin.Tuple.tupleExact _) (wpAny_newObj_type (wpAny_pure ⟨_,rfl,wpAny_pure h⟩) htake)
   | exact wpAny_bind (m:=Builtin.Tuple.tupleExact _) (wpAny_newObj_type (wpAny_bind (wpAny_pure (wpAny_pure ⟨_,rfl,wpAny_pure h⟩))) htake)
   | exact wpAny_bind (wpAny_bind (m:=Builtin.Tuple.tupleExact _) (wpAny_newObj_type (wpAny_pure (wpAny_pure ⟨_,rfl,wpAny_pure h⟩)) htake))
   | exact wpAny_bind (wpAny_bind (m:=Builtin.Tuple.tupleExact _) (wpAny_newObj_type (wpAny_pure ⟨_,rfl,wpAny_pure h⟩) htake))
end
end HT
namespace L2
open PySem PySem.Spec PyProof.Rows
/-! ### the parts of a slice -/
noncomputable abbrev TO:=St->Hp->(Option Int->Hp->Prop)->Prop
noncomputable def PO (X:Cx) (e:Option Expr) (t:TO):Prop :=
 ∀ (pins:List (Addr×Obj)) (s:Shared) (σ:St) (H:Hp) (Q:Option Int->Hp->Prop),Inv X pins σ H s->t σ H Q →
   wpAny (model X.prog X.w) X.A (evalPart e X.env) (fun u s'=>∃ o H',Inv X pins σ H' s'/\IsPart u o/\Q o H') X.xe s
noncomputable def tNoPart:TO:=fun _ H Q=>Q none H
noncomputable def tPart (t:TE):TO:=fun σ H Q=>t σ H fun x H1=>∃ i,x = .int i/\Q (some i) H1
theorem zz1 {ns:List Int}:∀ {us:List Value},Vals (ns.map V.int) us->IntsAre us ns:=by
 induction ns with
 | nil=>intro us r;rw[List.map_nil] at r;cases r;exact .nil
 | cons n ns ih =>
   intro us r
   rw[List.map_cons] at r
   cases r with
   | cons r1 r2 =>
     obtain ⟨t,e⟩:=r1
     subst e
     exact .cons n t (ih r2)
section
variable {X:Cx} {e:Expr} {te:TE} {lo hi:Option Expr} {tl th:TO} {pos p2:Pos}
theorem zo3:PO X none tNoPart:=by
 intro pins s σ H Q I h
 rw[evalPart_none]
 exact wpAny_pure ⟨none,H,I,.none,h⟩
theorem zl9 (h:PE X e te):PO X (some e) (tPart te):=by
 intro pins s σ H Q I hw
 rw[evalPart_some]
 refine thn (h pins s σ H _ I hw) fun u s1 ⟨x,H1,I1,r1,q1⟩=>?_
 obtain ⟨i,rfl,q⟩:=q1
 obtain ⟨t,rfl⟩:=r1
 exact⟨some i,H1,I1,.int i t,q⟩
noncomputable def SlR (X:Cx) (r:V->Option Int->Option Int->Hp->VK->Prop):Prop :=
 ∀ (pins:List (Addr×Obj)) (s:Shared) (σ:St) (H:Hp) (x:V) (v vl vu:Value) (lo hi:Option Int) (sl:Addr) (Q:VK),Inv X pins σ H s->RelV x v->s.heap.IsSliceOf sl vl vu .none->IsPart vl lo->IsPart vu hi->r x lo hi H Q →
   ∃ T id,typeLookup (.type T) "__getitem__" = pure (some (.builtin id))/\s.TypeIs v T/\wpAny (model X.prog X.w) X.A (getItem v (.ref sl)) (EP X pins σ Q) X.xe s
noncomputable def tSl (r:V->Option Int->Option Int->Hp->VK->Prop) (te:TE) (tl th:TO):TE:=fun σ H Q=>te σ H fun x H1=>tl σ H1 fun l H2=>th σ H2 fun u H3=>r x l u H3 Q
theorem zk5 {r:V->Option Int->Option Int->Hp->VK->Prop} (hr:SlR X r) (he:PE X e te) (hl:PO X lo tl) (hu:PO X hi th):PE X (.Subscript e (.Slice lo hi none p2) pos) (tSl r te tl th):=by
 intro pins s σ H Q I h
 refine Subscript_ (thn (he pins s σ H _ I h) fun v s1 ⟨x,H1,I1,r1,q1⟩=>?_)
 refine wpAny_Slice (thn (hl pins s1 σ H1 _ I1 q1) fun vl s2 ⟨l,H2,I2,pl,q2⟩=>thn (hu pins s2 σ H2 _ I2 q2) fun vu s3 ⟨u,H3,I3,pu,q3⟩=>?_)
 rw[evalPart_none]
 refine wpAny_pure ?_
 have I4:Inv X pins σ H3 { s3 with heap:=s3.heap.push { cls:=.type "slice",data:=.fields #[vl,vu,.none] } }:=I3.kept (t':=s3.toks) fun b ob q=>Heap.get?_push_of_some _ q
 obtain ⟨T,id,hT,ht,hg⟩:=hr pins { s3 with heap:=s3.heap.push { cls:=.type "slice",data:=.fields #[vl,vu,.none] } } σ H3 x v vl vu l u s3.heap.objs.size Q I4 r1 (Heap.IsSliceOf.new ..) pl pu q3
 show wpAny (model X.prog X.w) X.A (subscriptTail e (.Slice lo hi none p2) v (.ref s3.heap.objs.size)) (EP X pins σ Q) X.xe { s3 with heap:=s3.heap.push { cls:=.type "slice",data:=.fields #[vl,vu,.none] } }
 exact tail_any (ops:=[.ref s3.heap.objs.size,v]) ht hT hg (by with_unfolding_all rfl)
noncomputable def cutV (xs:List V) (lo hi:Option Int):List V:=(xs.drop (HT.sIx xs.length 0 lo)).take (HT.sIx xs.length xs.length hi-HT.sIx xs.length 0 lo)
theorem zj2 (xs:List V) (lo hi:Option Int):(cutV xs lo hi).length<=xs.length:=by
 unfold cutV
 rw[List.length_take,List.length_drop]
 omega
noncomputable def rSlT (K:PySem.W.Frag):V->Option Int->Option Int->Hp->VK->Prop:=fun x lo hi H Q=>∃ a xs,x = .ref a/\SqT K H a xs ∧
 ¬ (HT.sIx xs.length 0 lo=0/\HT.sIx xs.length xs.length hi=xs.length)/\∀ p,H p=none->Q (.ref p) (upd H p (.tup (cutV xs lo hi)))
theorem zv4:SlR X (rSlT X.K):=by
 intro pins s σ H x v vl vu lo hi sl Q I rx hs pl pu h
 obtain ⟨a,xs,rfl,hx,hw,q⟩:=h
 cases rx
 obtain ⟨its,r,ht,hz⟩:=I.tuple hx
 have hlen:its.toArray.size=xs.length:=by rw[List.size_toArray];exact r.length.symm
 refine⟨"tuple",_,PyProof.Rows.slot_tuple_getitem.lookup,ht.typeIs,?_⟩
 refine HT.getItem_tuple_cut ht hs pl pu (by rw[hlen];exact hw) ?_ (by rw[hlen];exact hz)
 rw[hlen]
 refine⟨.ref s.heap.objs.size,_,I.laid (t':=s.toks) (o:=.tup (cutV xs lo hi)) (fun b ob q=>Heap.get?_push_of_some _ q) (Nat.le_refl _) ?_,rfl,q _ (I.hok.fresh (Nat.le_refl _))⟩
 exact⟨Nat.le_trans (zj2 xs lo hi) hz,_,(r.drop (HT.sIx xs.length 0 lo)).take (HT.sIx xs.length xs.length hi-HT.sIx xs.length 0 lo),TupD.new _ _⟩
/-! ### t<u,t+u -/
noncomputable def rCatT (K:PySem.W.Frag):R2:=fun x y H Q=>∃ a b xs ys,x = .ref a/\y = .ref b/\SqT K H a xs/\SqT K H b ys/\xs≠[]/\xs.length+ys.length<=sizeLine ∧
 (ys=[]->Q (.ref a) H)/\(ys≠[]->∀ p,H p=none->Q (.ref p) (upd H p (.tup (xs++ys))))
theorem Vals.nil_iff {xs:List V} {us:List Value} (r:Vals xs us):us=[]↔xs=[]:=by
 cases r with
 | nil=>simp
 | cons _ _=>simp
theorem op_catT:OpR X (binaryOp .Add) (rCatT X.K):=by
 intro pins s σ H x y v u Q I rx ry h
 obtain ⟨a,b,xs,ys,rfl,rfl,ha,hb,hx,hz,q1,q2⟩:=h
 cases rx
 cases ry
 obtain ⟨its,r1,p1,_⟩:=I.tuple ha
 obtain ⟨its2,r2,p2,_⟩:=I.tuple hb
 refine HT.cat_tup p1 p2 (fun z=>hx (r1.nil_iff.mp z)) (fun z=>⟨.ref a,H,I,rfl,q1 (r2.nil_iff.mp z)⟩) (fun z=>?_) (by rw[<-r1.length,<-r2.length];exact hz)
 refine⟨.ref s.heap.objs.size,_,I.laid (t':=s.toks) (o:=.tup (xs++ys)) (fun b ob q=>Heap.get?_push_of_some _ q) (Nat.le_refl _) ?_,rfl,q2 (fun w=>z (r2.nil_iff.mpr w)) _ (I.hok.fresh (Nat.le_refl _))⟩
 exact⟨by rw[List.length_append];exact hz,_,r1.append r2,TupD.new _ _⟩
end
end L2
namespace L2
open PySem PySem.Spec PyProof.Rows
/-! ### places -/
noncomputable def ixN (n:Nat) (i:Int):Option Nat:=if 0<=i then (if i<n then some i.toNat else none) else if -(n:Int)<=i then some (i+n).toNat else none
noncomputable def atI {α:Type} (xs:List α) (i:Int):Option α:=(ixN xs.length i).bind fun j=>xs[j]?
theorem zP2 {n:Nat} {i:Int} {j:Nat} (h:ixN n i=some j):seqIndex? i n=some j/\j<n/\-(n:Int)<=i/\i<n:=by
 unfold ixN at h
 by_cases h0:0<=i
 . rw[if_pos h0] at h
   by_cases h1:i<n
   . rw[if_pos h1] at h
     have e:i.toNat=j:=Option.some.inj h
     exact⟨by rw[seqIndex_of h0 h1,e],by omega,by omega,h1⟩
   . rw[if_neg h1] at h;cases h
 . rw[if_neg h0] at h
   by_cases h1:-(n:Int)<=i
   . rw[if_pos h1] at h
     have e:(i+n).toNat=j:=Option.some.inj h
     exact⟨by rw[seqIndex_neg (by omega) h1,e],by omega,h1,by omega⟩
   . rw[if_neg h1] at h;cases h
theorem zK7 {α:Type} {xs:List α} {i:Int} {v:α} (h:atI xs i=some v):∃ j,seqIndex? i xs.length=some j/\xs[j]?=some v/\j<xs.length/\-(xs.length:Int)<=i/\i<xs.length:=by
 unfold atI at h
 cases e:ixN xs.length i with
 | none=>rw[e] at h;cases h
 | some j =>
   rw[e] at h
   obtain ⟨h1,h2,h3,h4⟩:=zP2 e
   exact⟨j,h1,h,h2,h3,h4⟩
theorem zz7 {α:Type} {xs:List α} {j:Nat} {v:α} (h:xs[j]?=some v):atI xs (j:Int)=some v:=by
 have hj:j<xs.length:=(List.getElem?_eq_some_iff.mp h).1
 have e:ixN xs.length (j:Int)=some j:=by
   unfold ixN
   rw[if_pos (by omega),if_pos (by omega)];simp
 unfold atI;rw[e];exact h
/-! ### what may be subscripted -/
noncomputable def zP3 (b:Expr):Prop:=∀ o i,subscripted b false o i=operate [o,i] (getItem o i)
noncomputable def IxR (X:Cx) (r:R2):Prop :=
 ∀ (value slice:Expr) (pins:List (Addr×Obj)) (s:Shared) (σ:St) (H:Hp) (x y:V) (v u:Value) (Q:VK),Inv X pins σ H s->RelV x v->RelV y u->r x y H Q →
   subscripted slice false v u=operate [v,u] (getItem v u)->wpAny (model X.prog X.w) X.A (subscriptTail value slice v u) (EP X pins σ Q) X.xe s
noncomputable def MtR (X:Cx) (id:String) (r:V->List V->Hp->VK->Prop):Prop :=
 ∀ (pins:List (Addr×Obj)) (s:Shared) (σ:St) (H:Hp) (x:V) (xs:List V) (v:Value) (us:List Value) (Q:VK),Inv X pins σ H s->RelV x v->Vals xs us->r x xs H Q →
   wpAny (model X.prog X.w) X.A (call (.builtin id) (v::us)) (EP X pins σ Q) X.xe s
section
variable {X:Cx} {a b:Expr} {ta tb:TE} {pos:Pos}
theorem IxR.or {r r':R2} (h:IxR X r) (h':IxR X r'):IxR X (fun x y H Q=>r x y H Q\/r' x y H Q):=by
 intro value slice pins s σ H x y v u Q I rx ry q hs
 rcases q with q | q
 . exact h value slice pins s σ H x y v u Q I rx ry q hs
 . exact h' value slice pins s σ H x y v u Q I rx ry q hs
theorem zd0 {r:R2} (hr:IxR X r) (ha:PE X a ta) (hb:PE X b tb) (hs:zP3 b):PE X (.Subscript a b pos) (tOp r ta tb):=by
 intro pins s σ H Q I h
 exact Subscript_ (binT ha hb I h fun v u s2 x y H2 I2 rx ry q=>hr a b pins s2 σ H2 x y v u Q I2 rx ry q (hs _ _))
noncomputable def rIxL (K:PySem.W.Frag):R2:=fun x y H Q=>∃ p xs i v,x = .ref p/\y = .int i/\SqL K H p xs/\atI xs i=some v/\Q v H
noncomputable def rIxT (K:PySem.W.Frag):R2:=fun x y H Q=>∃ p xs i v,x = .ref p/\y = .int i/\SqT K H p xs/\atI xs i=some v/\Q v H
noncomputable def rIxS:R2:=fun x y H Q=>∃ z i c,x = .str z/\y = .int i/\z.length<=sizeLine/\atI z.cps.toList i=some c/\Q (.str ⟨#[c]⟩) H
theorem zd5:IxR X (rIxL X.K):=by
 intro value slice pins s σ H x y v u Q I rx ry h hs
 obtain ⟨p,xs,i,z,rfl,rfl,hq,he,q⟩:=h
 cases rx
 obtain ⟨t,rfl⟩:=ry
 obtain ⟨its,r,pl,hz⟩:=I.list hq
 obtain ⟨j,h1,h2,h3,h4,h5⟩:=zK7 he
 obtain ⟨w,ew,rw'⟩:=r.get h2
 have hl:=r.length
 have hn:=zF4
 have fin:EP X pins σ Q w s:=⟨z,H,I,rw',q⟩
 by_cases h0:0<=i
 . have hj:i.toNat=j:=by
     rw[seqIndex_of h0 h5] at h1
     exact Option.some.inj h1
   exact item_listR pl.isList h0 (by omega) (by rw[hj];simpa using ew) fin hs
 . have hj:(i+(its.toArray.size:Int)).toNat=j:=by
     rw[seqIndex_neg (by omega) h4] at h1
     rw[List.size_toArray,<-hl]
     exact Option.some.inj h1
   exact subscriptTail_builtinR (x:=w) pl.isList.typeIs slot_list_getitem.lookup
     (wpAny_getItem_list_neg (Q:=fun r s'=>r=w/\EP X pins σ Q r s') pl.isList (by omega) (by rw[List.size_toArray]<;>omega) (by omega) (by rw[hj];simpa using ew) ⟨rfl,fin⟩) hs
theorem zh6:IxR X (rIxT X.K):=by
 intro value slice pins s σ H x y v u Q I rx ry h hs
 obtain ⟨p,xs,i,z,rfl,rfl,hq,he,q⟩:=h
 cases rx
 obtain ⟨t,rfl⟩:=ry
 obtain ⟨its,r,pl,hz⟩:=I.tuple hq
 obtain ⟨j,h1,h2,h3,h4,h5⟩:=zK7 he
 obtain ⟨w,ew,rw'⟩:=r.get h2
 have hl:=r.length
 have hn:=zF4
 have fin:EP X pins σ Q w s:=⟨z,H,I,rw',q⟩
 exact subscriptTail_builtinR (x:=w) pl.typeIs slot_tuple_getitem.lookup
   (getItem_tuple (j:=j) (Q:=fun r s'=>r=w/\EP X pins σ Q r s') pl (by omega) (by omega) (by rw[List.size_toArray,<-hl];exact h1) (by simpa using ew) ⟨rfl,fin⟩) hs
theorem ix_str:IxR X rIxS:=by
 intro value slice pins s σ H x y v u Q I rx ry h hs
 obtain ⟨z,i,c,rfl,rfl,hz,he,q⟩:=h
 obtain ⟨t,rfl⟩:=rx
 obtain ⟨t',rfl⟩:=ry
 obtain ⟨j,h1,h2,h3,h4,h5⟩:=zK7 he
 have hl:z.cps.toList.length=z.length:=by simp[Str.length]
 rw[hl] at h1 h4 h5
 have hn:=zF4
 exact tail_any (typeIs_str s z t) slot_str_getitem.lookup (getItem_str (c:=c) (by
   have e1:decide (i < -(2 ^ 63:Int))=false:=decide_eq_false (by omega)
   have e2:decide (i≥2 ^ 63)=false:=decide_eq_false (by omega)
   rw[e1,e2,Bool.or_false]) (by rw[h1];simpa using h2) ⟨.str ⟨#[c]⟩,H,I.tok _,⟨_,rfl⟩,q⟩) hs
noncomputable def rIx (K:PySem.W.Frag):R2:=fun x y H Q=>rIxL K x y H Q\/rIxT K x y H Q\/rIxS x y H Q
theorem zm6:IxR X (rIx X.K):=zd5.or (zh6.or ix_str)
/-! ### xs[i]=v,any sign -/
theorem mapSeq_set (its:List Value) (n j:Nat) (u:Value):Obj.mapSeq (·.setIfInBounds j u) { cls:=.type "list",data:=.seq its.toArray n } = { cls:=.type "list",data:=.seq (its.set j u).toArray n }:=by
 simp[Obj.mapSeq]
theorem Inv.lst {pins:List (Addr×Obj)} {σ:St} {H:Hp} {s:Shared} {p:Addr} {xs:List V} (I:Inv X pins σ H s) (h:H p=some (.lst xs)) :
   ∃ (its:List Value) (n:Nat),Vals xs its/\s.heap.get? p=some { cls:=.type "list",data:=.seq its.toArray n }/\xs.length<=sizeLine:=by
 obtain ⟨z,its,n,r,e⟩:=I.hok p _ h
 exact⟨its,n,r,e,z⟩
theorem Inv.lstUpd {pins:List (Addr×Obj)} {σ:St} {H:Hp} {s:Shared} {p:Addr} {xs ys:List V} {its its':List Value} {n n':Nat} {f:Obj->Obj} (I:Inv X pins σ H s) (h:H p=some (.lst xs))
   (ho:s.heap.get? p=some { cls:=.type "list",data:=.seq its.toArray n }) (hf:f { cls:=.type "list",data:=.seq its.toArray n } = { cls:=.type "list",data:=.seq its'.toArray n' }) (r:Vals ys its') (hz:ys.length<=sizeLine) (t:Nat) :
   Inv X pins σ (upd H p (.lst ys)) { s with heap:=s.heap.update p f,toks:=t }:=by
 have e:(s.heap.update p f).get? p=some { cls:=.type "list",data:=.seq its'.toArray n' }:=by
   rw[Heap.get?_update_self f ho (by rw[hf]<;>rfl),hf]
 refine I.write (x:=p) (e:=p) (by rw[h];trivial) (.inl rfl) (fun b u hb q=>(Heap.get?_update_other _ _ (Ne.symm hb)).trans q) ⟨_,e⟩ ?_
 exact⟨hz,its',n',r,e⟩
noncomputable def rSetL:V->V->V->Hp->(Hp->Prop)->Prop:=fun o i v H Q=>∃ p xs k j,o = .ref p/\i = .int k/\H p=some (.lst xs)/\ixN xs.length k=some j/\Q (upd H p (.lst (xs.set j v)))
theorem set_list:PSet X rSetL:=by
 intro pins s σ H o i v ov iv u Q I ro ri rv h
 obtain ⟨p,xs,k,j,rfl,rfl,hp,hj,q⟩:=h
 cases ro
 obtain ⟨t,rfl⟩:=ri
 obtain ⟨its,n,r,ho,hz⟩:=I.lst hp
 obtain ⟨h1,h2,h3,h4⟩:=zP2 hj
 have hl:=r.length
 have hn:=zF4
 have I':Inv X pins σ (upd H p (.lst (xs.set j v))) { s with heap:=s.heap.update p (Obj.mapSeq (·.setIfInBounds j u)) } :=
   I.lstUpd hp ho (mapSeq_set its n j u) (r.set rv j) (by rw[List.length_set];exact hz) s.toks
 by_cases h0:0<=k
 . have hk:k.toNat=j:=by
     rw[seqIndex_of h0 h4] at h1
     exact Option.some.inj h1
   exact PySem.W.ki_setAt ho h0 (by omega) (by rw[List.size_toArray,<-hl];exact h4) (by rw[hk];exact⟨_,I',q⟩)
 . have hk:(k+(its.toArray.size:Int)).toNat=j:=by
     rw[seqIndex_neg (by omega) h3] at h1
     rw[List.size_toArray,<-hl]
     exact Option.some.inj h1
   exact PySem.W.ki_setBack ho (by omega) (by rw[List.size_toArray,<-hl];exact h3) (by omega) (by rw[hk];exact⟨_,I',q⟩)
/-! ### slices -/
theorem slice_bounds (lo hi:Option Int) (n:Nat):(sliceBounds lo hi none n).1=((HT.sIx n 0 lo:Nat):Int)/\(sliceBounds lo hi none n).2.1=((HT.sIx n n hi:Nat):Int)/\(sliceBounds lo hi none n).2.2=1:=by
 refine⟨?_,?_,rfl⟩
 . cases lo with
   | none=>simp[sliceBounds,HT.sIx]
   | some i =>
     simp only[sliceBounds,HT.sIx,Option.getD_none,show (1:Int)>0 by decide,if_true]
     by_cases h:i<0
     . simp only[h,if_true]<;>omega
     . simp only[h,if_false]<;>omega
 . cases hi with
   | none=>simp[sliceBounds,HT.sIx]
   | some i =>
     simp only[sliceBounds,HT.sIx,Option.getD_none,show (1:Int)>0 by decide,if_true]
     by_cases h:i<0
     . simp only[h,if_true]<;>omega
     . simp only[h,if_false]<;>omega
theorem slicePick_cut (its:List Value) (lo hi:Option Int):slicePick its.toArray lo hi none=((its.drop (HT.sIx its.length 0 lo)).take (HT.sIx its.length its.length hi-HT.sIx its.length 0 lo)).toArray:=by
 obtain ⟨h1,h2,h3⟩:=slice_bounds lo hi its.toArray.size
 unfold slicePick
 rw[h1,h2,h3]
 simp only[sliceRange_one,pick_run,List.size_toArray]<;>rfl
noncomputable def rSlL (K:PySem.W.Frag):V->Option Int->Option Int->Hp->VK->Prop:=fun x lo hi H Q=>∃ a xs,x = .ref a/\SqL K H a xs/\∀ p,H p=none->Q (.ref p) (upd H p (.lst (cutV xs lo hi)))
theorem zP4:SlR X (rSlL X.K):=by
 intro pins s σ H x v vl vu lo hi sl Q I rx hs pl pu h
 obtain ⟨a,xs,rfl,hx,q⟩:=h
 cases rx
 obtain ⟨its,r,ht,hz⟩:=I.list hx
 have hlen:=r.length
 refine⟨"list",_,slot_list_getitem.lookup,ht.isList.typeIs,?_⟩
 refine wpAny_getItem_list_slice ht.isList hs pl pu .none (by simp) ?_ (by rw[List.size_toArray]<;>omega)
 rw[slicePick_cut,<-hlen]
 refine⟨.ref s.heap.objs.size,_,I.laid (t':=s.toks) (o:=.lst (cutV xs lo hi)) (fun b ob q=>Heap.get?_push_of_some _ q) (Nat.le_refl _) ?_,rfl,q _ (I.hok.fresh (Nat.le_refl _))⟩
 exact⟨Nat.le_trans (zj2 xs lo hi) hz,_,0,(r.drop (HT.sIx xs.length 0 lo)).take (HT.sIx xs.length xs.length hi-HT.sIx xs.length 0 lo),Heap.get?_push_size _ rfl⟩
/-! ### in,not in: flat items -/
/-! ### len,list(x),tuple(x) of any list or tuple that is read -/
theorem zb9:zs7 X (.builtin "len") (fun xs H Q=>∃ p ys,xs=[.ref p]/\(SqL X.K H p ys\/SqT X.K H p ys)/\Q (.int ys.length) H):=by
 intro pins s σ H xs us Q I r h
 obtain ⟨p,ys,rfl,hq,q⟩:=h
 obtain ⟨u,rfl,rx⟩:=zM3 r
 cases rx
 have hn:=zF4
 rcases hq with hq | hq
 . obtain ⟨its,r',pl,hz⟩:=I.list hq
   have hlen:=r'.length
   exact Calls.call_len_list pl.isList (by simp only[List.size_toArray]<;>omega) ⟨.int ys.length,H,I.tok _,⟨s.toks+1,by rw[List.size_toArray,hlen]⟩,q⟩
 . obtain ⟨its,r',pl,hz⟩:=I.tuple hq
   have hlen:=r'.length
   exact len_tuple pl (by simp only[List.size_toArray]<;>omega) ⟨.int ys.length,H,I.tok _,⟨s.toks+1,by rw[List.size_toArray,hlen]⟩,q⟩
theorem zo4:zs7 X (.type "list") (fun xs H Q=>∃ p ys,xs=[.ref p]/\(SqL X.K H p ys\/SqT X.K H p ys)/\∀ l,H l=none->Q (.ref l) (upd H l (.lst ys))):=by
 intro pins s σ H xs us Q I r h
 obtain ⟨p,ys,rfl,hq,q⟩:=h
 obtain ⟨u,rfl,rx⟩:=zM3 r
 cases rx
 have fin:∀ (its:List Value),Vals ys its->ys.length<=sizeLine->∀ (h':Heap) (c':Nat),(∀ b o',s.heap.get? b=some o'->h'.get? b=some o') →
     h'.get? s.heap.objs.size=some { cls:=.type "list",dict:=none,data:=.seq its.toArray c',slots:=#[] }->EP X pins σ Q (.ref s.heap.objs.size) { s with heap:=h' }:=fun its r' hz h' c' kp e =>
   ⟨.ref s.heap.objs.size,_,I.laid (t':=s.toks) kp (Nat.le_refl _) (show zi0 X.prog X.w _ h' _ (.lst ys) from ⟨hz,its,c',r',e⟩),rfl,q _ (I.hok.fresh (Nat.le_refl _))⟩
 rcases hq with hq | hq
 . obtain ⟨its,r',pl,hz⟩:=I.list hq
   have hlen:=r'.length
   obtain ⟨o,ho,hc,n,hd⟩:=pl.isList
   exact call_list_seq p (.inl rfl) ho hc hd (fun h' c' kp e=>fin its r' hz h' c' kp e) (by simp only[List.size_toArray]<;>omega)
 . obtain ⟨its,r',pl,hz⟩:=I.tuple hq
   have hlen:=r'.length
   obtain ⟨o,ho,hc,n,hd⟩:=pl
   exact call_list_seq p (.inr rfl) ho hc hd (fun h' c' kp e=>fin its r' hz h' c' kp e) (by simp only[List.size_toArray]<;>omega)
theorem zk6:zs7 X (.type "tuple") (fun xs H Q=>∃ p ys,xs=[.ref p]/\((SqL X.K H p ys/\∀ l,H l=none->Q (.ref l) (upd H l (.tup ys)))\/(SqT X.K H p ys/\Q (.ref p) H))):=by
 intro pins s σ H xs us Q I r h
 obtain ⟨p,ys,rfl,h⟩:=h
 obtain ⟨u,rfl,rx⟩:=zM3 r
 cases rx
 rcases h with ⟨hq,q⟩ | ⟨hq,q⟩
 . obtain ⟨its,r',pl,hz⟩:=I.list hq
   have hlen:=r'.length
   refine call_tuple_list pl.isList (fun h' kp=>?_) (by simp only[List.size_toArray]<;>omega)
   have I1:Inv X pins σ H { s with heap:=h' }:=I.kept (t':=s.toks) kp
   have I2:Inv X pins σ (upd H h'.objs.size (.tup ys)) { s with heap:=h'.push { cls:=.type "tuple",data:=.seq its.toArray } } :=
     I1.laid (t':=s.toks) (fun b o e=>Heap.get?_push_of_some _ e) (Nat.le_refl _) (show zi0 X.prog X.w _ _ _ (.tup ys) from ⟨hz,its,r',TupD.new _ _⟩)
   exact⟨.ref h'.objs.size,_,I2,rfl,q _ (I1.hok.fresh (Nat.le_refl _))⟩
 . obtain ⟨its,r',pl,hz⟩:=I.tuple hq
   exact call_tuple_same pl ⟨.ref p,H,I,rfl,q⟩
/-! ### the call of a builtin's method: o.m(..) -/
noncomputable def tyV (K:PySem.W.Frag) (T:String) (x:V) (H:Hp):Prop:=match x with
 | .str _=>T = "str"
 | .int _=>T = "int"
 | .ref p=>(T = "list"/\∃ xs,SqL K H p xs)\/(T = "tuple"/\∃ o,K.lookup p=some o/\o.cls = .type "tuple"/\o.dict=none) ∨
     (T = "dict"/\((∃ kvs,H p=some (.dK kvs))\/∃ kvs,H p=some (.dT kvs)))\/(T = "set"/\∃ S n,H p=some (.set S n))
 | _=>False
theorem zS5 {pins:List (Addr×Obj)} {σ:St} {H:Hp} {s:Shared} {T:String} {x:V} {v:Value} (I:Inv X pins σ H s) (r:RelV x v) (ty:tyV X.K T x H) :
   s.TypeIs v T/\∀ a,v = .ref a->∃ ob,s.heap.get? a=some ob/\ob.dict=none:=by
 cases x with
 | str z =>
   obtain ⟨t,rfl⟩:=r
   cases (show T = "str" from ty)
   exact⟨typeIs_str s z t,fun _ e=>nomatch e⟩
 | int i =>
   obtain ⟨t,rfl⟩:=r
   cases (show T = "int" from ty)
   exact⟨typeIs_int s i t,fun _ e=>nomatch e⟩
 | ref p =>
   cases r
   rcases ty with ⟨rfl,xs,hq⟩ | ⟨rfl,o,hk,hc,hd⟩ | ⟨rfl,hk⟩ | ⟨rfl,S,n,hk⟩
   . obtain ⟨its,_,pl,_⟩:=I.list hq
     refine⟨pl.isList.typeIs,fun a e=>?_⟩
     cases e
     obtain ⟨o,n,e,c,hd,_⟩:=pl
     exact⟨o,e,hd⟩
   . refine⟨⟨o,I.kIn p o hk,hc⟩,fun a e=>?_⟩
     cases e
     exact⟨o,I.kIn _ o hk,hd⟩
   . have z:∃ o,s.heap.get? p=some o/\o.ExactDict:=by
       rcases hk with ⟨kvs,hk⟩ | ⟨kvs,hk⟩
       . obtain ⟨_,_,_,_,o,_,_,e,ex,_⟩:=I.hok p _ hk
         exact⟨o,e,ex⟩
       . obtain ⟨_,_,_,_,o,_,_,e,ex,_⟩:=I.hok p _ hk
         exact⟨o,e,ex⟩
     obtain ⟨o,e,ex⟩:=z
     refine⟨⟨o,e,ex.1⟩,fun a e2=>?_⟩
     cases e2
     exact⟨o,e,ex.2.1⟩
   . obtain ⟨o,_,_,_,e,ex,_⟩:=I.hok p _ hk
     refine⟨⟨o,e,ex.1⟩,fun a e2=>?_⟩
     cases e2
     exact⟨o,e,ex.2.1⟩
 | _=>exact False.elim ty
noncomputable def tBM0 (K:PySem.W.Frag) (T:String) (r:V->List V->Hp->VK->Prop) (to:TE):TE:=fun σ H Q=>to σ H fun x H1=>tyV K T x H1/\r x [] H1 Q
noncomputable def tBM (K:PySem.W.Frag) (T:String) (r:V->List V->Hp->VK->Prop) (to:TE) (t:TA):TE:=fun σ H Q=>to σ H fun x H1=>tyV K T x H1/\t σ H1 fun xs H2=>r x xs H2 Q
variable {o e:Expr} {es:List Expr} {to:TE} {t:TA} {name:Str} {apos cpos:Pos} {T id:String} {r:V->List V->Hp->VK->Prop}
theorem zS6 (pa:PlainAttrs T) (slot:Slot T name id) (hty:typeOf (.builtin id)=pure (.type "method_descriptor")) (hm:MtR X id r) (ho:PE X o to)
   (hbase:attributeBase o name X.env (eval o X.env)=eval o X.env:=by rfl) (hline:(apos.endLine == cpos.line)=true:=by rfl):PE X (.Call (.Attribute o name apos) [] [] cpos) (tBM0 X.K T r to):=by
 intro pins s σ H Q I h
 refine wpAny_Call_method0_late hbase hline (thn (ho pins s σ H _ I h) fun v s1 ⟨x,H1,I1,r1,ty,q1⟩=>?_)
 obtain ⟨h1,h2⟩:=zS5 I1 r1 ty
 exact⟨T,id,pa,slot,hty,h1,h2,Calls.callWith_builtin rfl (PySem.evalArgs_none (hm pins s1 σ H1 x [] v [] Q I1 r1 .nil q1))⟩
theorem zz8 (pa:PlainAttrs T) (slot:Slot T name id) (hty:typeOf (.builtin id)=pure (.type "method_descriptor")) (hm:MtR X id r) (ho:PE X o to) (ha:PA X (e::es) t)
   (hbase:attributeBase o name X.env (eval o X.env)=eval o X.env:=by rfl)
   (hfew:((backTo cpos (starEach (e::es) X.env)).all (fun x=>!x.1) && (backToKw cpos (keywordEach [] X.env)).all (fun x=>x.1.isSome)
     && decide ((e::es).length+([]:List Keyword).length+(if ([]:List Keyword).isEmpty then 0 else 1)<30))=true:=by rfl)
   (hline:(apos.endLine == cpos.line)=true:=by rfl) (hs:starEach (e::es) X.env=(false,eval e X.env)::starEach es X.env:=by rfl) (hplain:(backTo cpos (starEach es X.env)).any (·.1)=false:=by rfl) :
   PE X (.Call (.Attribute o name apos) (e::es) [] cpos) (tBM X.K T r to t):=by
 intro pins s σ H Q I h
 refine wpAny_Call_method_late hbase hfew hline rfl (thn (ho pins s σ H _ I h) fun v s1 ⟨x,H1,I1,r1,ty,q1⟩=>?_)
 obtain ⟨h1,h2⟩:=zS5 I1 r1 ty
 refine⟨T,id,pa,slot,hty,h1,h2,?_⟩
 have hA:=ha cpos pins s1 σ H1 _ I1 q1
 rw[hs] at hA ⊢
 refine Calls.callWith_builtin (by show (false || (backTo cpos (starEach es X.env)).any (·.1))=false;rw[hplain]<;>rfl) (Calls.evalArgs_plain ?_)
 exact thn hA fun us s2 ⟨vs,H2,I2,r2,q2⟩=>hm pins s2 σ H2 x vs v us Q I2 r1 r2 q2
/- xs.append(e),list.index on a module's tuple .. are MtR facts of 06m -/
end
end L2
namespace L2
open PySem PySem.Spec PyProof.Rows
noncomputable def MtM (X:Cx) (id:String) (r:V->List V->Hp->VK->Prop):Prop :=
 ∀ (pins:List (Addr×Obj)) (s:Shared) (σ:St) (H:Hp) (x:V) (xs:List V) (v:Value) (us:List Value) (Q:VK),Inv X pins σ H s->RelV x v->Vals xs us->r x xs H Q →
   wpAny (model X.prog X.w) X.A (call (.builtin id) (v::us)) (EP X pins σ Q) X.xe s
/-! ### lists of values -/
theorem Vals.one:∀ {x:V} {us:List Value},Vals [x] us->∃ u,us=[u]/\RelV x u
 | _,_,.cons r .nil=>⟨_,rfl,r⟩
theorem Vals.zero:∀ {us:List Value},Vals [] us->us=[]
 | _,.nil=>rfl
theorem Vals.dropLast {xs:List V} {us:List Value} (h:Vals xs us):Vals xs.dropLast us.dropLast:=by
 induction h with
 | nil=>exact .nil
 | cons r t ih =>
   cases t with
   | nil=>exact .nil
   | cons q t'=>exact .cons r ih
theorem Vals.rep {xs:List V} {us:List Value} (h:Vals xs us):∀ k:Nat,Vals (List.replicate k xs).flatten (List.replicate k us).flatten
 | 0=>.nil
 | k+1=>by
   rw[List.replicate_succ,List.replicate_succ,List.flatten_cons,List.flatten_cons]
   exact Vals.append h (Vals.rep h k)
theorem erase_last {α:Type} (l:List α):l.eraseIdx (l.length-1)=l.dropLast:=by
 induction l with
 | nil=>rfl
 | cons a r ih =>
   cases r with
   | nil=>rfl
   | cons b r =>
     have e:(a::b::r).length-1=((b::r).length-1)+1:=by
       have h1:(a::b::r).length=r.length+2:=rfl
       have h2:(b::r).length=r.length+1:=rfl
       omega
     rw[e,List.eraseIdx_cons_succ,ih]
     all_goals rfl
theorem zH9 (its:List Value):∀ (k:Nat) (acc:List Value),
   List.foldl (fun x1 x2=>x1++x2) acc.toArray (List.replicate k its.toArray)=(acc++(List.replicate k its).flatten).toArray
 | 0,acc=>by simp
 | k+1,acc=>by
   have e:acc.toArray++its.toArray=(acc++its).toArray:=by simp
   have e2:(acc++its)++(List.replicate k its).flatten=acc++(List.replicate (k+1) its).flatten:=by
     rw[List.replicate_succ,List.flatten_cons,List.append_assoc]
   rw[<-e2,<-zH9 its k (acc++its),<-e,List.replicate_succ,List.foldl_cons]
section
variable {X:Cx} {pins:List (Addr×Obj)} {σ:St} {H:Hp} {s:Shared} {l b:Addr} {xs ys zs:List V}
/-! ### the two steps: a tracked list is rewritten,a new list is laid -/
theorem Inv.lset {its its':List Value} {n:Nat} {f:Array Value->Array Value} {t':Nat} (I:Inv X pins σ H s) (hH:H l=some (.lst xs))
   (e:s.heap.get? l=some { cls:=.type "list",data:=.seq its.toArray n }) (hf:f its.toArray=its'.toArray) (hv:Vals ys its') (hz:ys.length<=sizeLine) :
   Inv X pins σ (upd H l (.lst ys)) { s with heap:=s.heap.update l (Obj.mapSeq f),toks:=t' }:=by
 have q:=PySem.IsL.update e f
 rw[hf] at q
 refine I.write (x:=l) (e:=l) (by rw[hH];exact trivial) (.inl rfl) (fun b' u hb hu=>(Heap.get?_update_other s.heap (Obj.mapSeq f) (Ne.symm hb)).trans hu) ⟨_,q⟩ ?_
 exact⟨hz,its',_,hv,q⟩
theorem Inv.lnew {its:List Value} {t':Nat} (I:Inv X pins σ H s) (hv:Vals ys its) (hz:ys.length<=sizeLine) :
   Inv X pins σ (upd H s.heap.objs.size (.lst ys)) { s with heap:=s.heap.push { cls:=.type "list",data:=.seq its.toArray },toks:=t' } :=
 I.laid (fun _ _ q=>Heap.get?_push_of_some _ q) (Nat.le_refl _) ⟨hz,its,0,hv,Heap.get?_push_size _ rfl⟩
theorem Inv.fresh (I:Inv X pins σ H s):H s.heap.objs.size=none:=I.hok.fresh (Nat.le_refl _)
theorem Inv.lstM (I:Inv X pins σ H s) (hH:H l=some (.lst xs)):xs.length<=sizeLine/\∃ (its:List Value) (n:Nat),Vals xs its/\xs.length=its.length/\s.heap.get? l=some { cls:=.type "list",data:=.seq its.toArray n }:=by
 obtain ⟨z,its,n,r,e⟩:=I.hok l _ hH
 exact⟨z,its,n,r,r.length,e⟩
theorem notLongL {n:Nat} (h:n<=sizeLine):Builtin.List.listTooLong n=false:=by
 unfold Builtin.List.listTooLong
 exact decide_eq_false (by omega)
end
section
variable {X:Cx}
/-! ### methods -/
noncomputable def rAppend:V->List V->Hp->VK->Prop:=fun x vs H Q=>∃ l xs y,x = .ref l/\vs=[y]/\H l=some (.lst xs)/\xs.length<sizeLine/\Q .non (upd H l (.lst (xs++[y])))
theorem zm7:MtM X "list.append" rAppend:=by
 intro pins s σ H x vs v us Q I rx rv h
 obtain ⟨l,xs,y,rfl,rfl,hH,hz,q⟩:=h
 cases rx
 obtain ⟨u,rfl,ru⟩:=rv.one
 obtain ⟨z,its,n,r,hl,e⟩:=I.lstM hH
 refine call_meets F.slot_list_append ⟨_,e,rfl⟩ F.entry_list_append (F.args_list_append_2 _ _) (PySem.list_append l its.toArray n u (by rw[List.size_toArray];omega)) ⟨e,?_⟩
 refine⟨.non,_,I.lset (its':=its++[u]) hH e (by simp) (r.append (.cons ru .nil)) ?_,rfl,q⟩
 rw[List.length_append,List.length_singleton]
 omega
noncomputable def rPop:V->List V->Hp->VK->Prop:=fun x vs H Q=>∃ l xs y,x = .ref l/\vs=[]/\H l=some (.lst xs)/\xs[xs.length-1]?=some y/\Q y (upd H l (.lst xs.dropLast))
theorem zS7:MtM X "list.pop" rPop:=by
 intro pins s σ H x vs v us Q I rx rv h
 obtain ⟨l,xs,y,rfl,rfl,hH,hy,q⟩:=h
 cases rx
 have hus:=rv.zero
 subst hus
 obtain ⟨z,its,n,r,hl,e⟩:=I.lstM hH
 obtain ⟨u,hu,ru⟩:=r.get hy
 have hy':its.toArray[its.toArray.size-1]?=some u:=by
   show its.toArray[its.length-1]?=some u
   rw[<-Array.getElem?_toList,<-hl]
   exact hu
 refine call_meets F.slot_list_pop ⟨_,e,rfl⟩ F.entry_list_pop (F.args_list_pop_1 _) (MeetsSeq.list_pop_last l its.toArray n u hy' (by rw[List.size_toArray];omega)) ⟨e,?_⟩
 refine⟨y,_,I.lset (its':=its.dropLast) hH e ?_ r.dropLast ?_,ru,q⟩
 . show its.toArray.eraseIdxIfInBounds (its.toArray.size-1)=its.dropLast.toArray
   rw[List.size_toArray,List.eraseIdxIfInBounds_toArray,erase_last]
 . rw[List.length_dropLast]
   omega
/-! ### list+list,list += list,list*int -/
noncomputable def rCat:R2:=fun x y H Q=>∃ l b xs zs,x = .ref l/\y = .ref b/\H l=some (.lst xs)/\H b=some (.lst zs)/\xs.length+zs.length<=sizeLine/\∀ p,H p=none->Q (.ref p) (upd H p (.lst (xs++zs)))
theorem zF6:OpR X (binaryOp .Add) rCat:=by
 intro pins s σ H x y v u Q I rx ry h
 obtain ⟨l,b,xs,zs,rfl,rfl,hH,hB,hz,q⟩:=h
 cases rx
 cases ry
 obtain ⟨z,its,n,r,hl,e⟩:=I.lstM hH
 obtain ⟨z2,its2,n2,r2,hl2,e2⟩:=I.lstM hB
 refine PySem.P.add_list e e2 ?_ (by rw[List.size_toArray,List.size_toArray];omega)
 have ea:its.toArray++its2.toArray=(its++its2).toArray:=by simp
 rw[ea]
 exact⟨.ref _,_,I.lnew (t':=s.toks) (r.append r2) (by rw[List.length_append];omega),rfl,q _ I.fresh⟩
noncomputable def rRep:R2:=fun x y H Q=>∃ l k xs,x = .ref l/\y = .int k/\H l=some (.lst xs)/\-(2 ^ 63)<=k/\k<2 ^ 63/\xs.length*k.toNat<=sizeLine ∧
 ∀ p,H p=none->Q (.ref p) (upd H p (.lst (List.replicate k.toNat xs).flatten))
theorem zK8 {α:Type} (xs:List α) (k:Nat):(List.replicate k xs).flatten.length=k*xs.length:=by
 induction k with
 | zero=>simp
 | succ k ih=>rw[List.replicate_succ,List.flatten_cons,List.length_append,ih,Nat.succ_mul,Nat.add_comm]
theorem zK9:OpR X (binaryOp .Mult) rRep:=by
 intro pins s σ H x y v u Q I rx ry h
 obtain ⟨l,k,xs,rfl,rfl,hH,h1,h2,hz,q⟩:=h
 cases rx
 obtain ⟨t,rfl⟩:=ry
 obtain ⟨z,its,n,r,hl,e⟩:=I.lstM hH
 have hlen:its.toArray.size*k.toNat<=sizeLine:=by rw[List.size_toArray,<-hl];exact hz
 have hcap:¬ its.toArray.size*k.toNat>(2 ^ 63-1) / 8:=by
   have:(sizeLine:Nat)<=(2 ^ 63-1) / 8:=by decide
   omega
 have hfit:¬ (!Builtin.List.listFitsIndex k)=true:=by
   rw[fitsIndex_both h1 h2]
   exact Bool.false_ne_true
 have hlong:¬ Builtin.List.listTooLong (its.toArray.size*k.toNat)=true:=by
   rw[notLongL hlen]
   exact Bool.false_ne_true
 have hnew:List.foldl (fun x1 x2=>x1++x2) #[] (List.replicate (if its.toArray.isEmpty=true then 0 else k.toNat) its.toArray)=(List.replicate k.toNat its).flatten.toArray:=by
   have f0:∀ m:Nat,List.foldl (fun x1 x2=>x1++x2) #[] (List.replicate m its.toArray)=(List.replicate m its).flatten.toArray:=fun m=>by
     have:=zH9 its m []
     rw[List.nil_append] at this
     exact this
   rw[f0]
   cases its with
   | nil=>simp
   | cons a r'=>rw[if_neg (by simp)]
 refine wpAny_binaryOp_repeat_ref (T:="list") (U:="int") (by decide) ⟨_,e,rfl⟩ (fun s'=>typeIs_int s' k t) noFill_list_mul F.fills_int_mul F.slot_int_rmul repeat_list F.slot_int_index.lookup
   (call_meets F.slot_int_rmul (typeIs_int s k t) F.entry_int_rmul (F.args_int_rmul_2 _ _) (int___rmul___int_list k t l its.toArray n)
     ⟨e,rfl,⟨_,e,rfl⟩,call_meets F.slot_list_mul ⟨_,e,rfl⟩ F.entry_list_mul (F.args_list_mul_2 _ _) (AutoListH.list___mul___list_int_3 l its.toArray n k t hfit hcap hlong) ⟨e,?_⟩⟩)
 rw[hnew]
 exact⟨.ref _,_,I.lnew (t':=s.toks) (r.rep k.toNat) (by rw[zK8,Nat.mul_comm];exact hz),rfl,q _ I.fresh⟩
/-! ### del xs[i] -/
end
/-! ### xs[a:b]=ys -/
section
variable {prog:Program} {w:World} {A:Around} {E:Value->Shared->Prop} {s:Shared}
end
section
variable {X:Cx}
end
end L2
namespace Att
open PySem PySem.W PySem.Calls PyProof.Rows
/-! ### the script -/
theorem ints_of_wellAll {P:Params} {h:Heap}:∀ (ns:List Int) (vs:List Value),WellAll P h vs (ns.map WData.int)->IntsAre vs ns:=by
 intro ns
 induction ns with
 | nil =>
   intro vs w
   rw[List.map_nil] at w
   cases w
   exact .nil
 | cons n ns ih =>
   intro vs w
   rw[List.map_cons] at w
   cases w with
   | cons a b =>
     cases a
     exact .cons _ _ (ih _ b)
theorem script_of {l:OpenLaw} {n:Nat} (hn:l.most=some n) {P:Params} {h:Heap} {args:List WData} {vals:List Value}
   (hpre:l.row.toRowW.claim.pre args=true) (hwl:WellAll P h vals args) :
   ∃ a vs ns,vals=[Value.ref a]/\args=[WData.list (ns.map WData.int)]/\h.get? a=some { cls:=.type "list",data:=.seq vs.toArray }/\IntsAre vs ns/\ns.length<=n:=by
 have hsh:WShape.hasAll [] args [.list .int]=true:=(pre_splitW hpre).1
 have hc:l.pre.holds [] { args:=args }=true:=(pre_splitW hpre).2
 obtain ⟨d,r,rfl,h1,h2⟩:=hasAllW_cons hsh
 obtain rfl:=hasAllW_nil h2
 obtain ⟨xs,rfl,h3⟩:=hasW_list h1
 obtain ⟨ns,rfl⟩:=items_int h3
 have hlen:ns.length<=n:=by
   unfold OpenLaw.pre at hc
   have h4:(WTm.not (.lt (.lit (.int (n:Int))) (.len (.arg 0)))).holds [] { args:=[.list (ns.map .int)] }=true:=by
     have h4:=(holds_andW hc).1
     rw[hn] at h4
     exact h4
   have h5:=condW_of h4 (w_not (w_lt w_lit (w_len_list (w_arg rfl))))
   rw[List.length_map] at h5
   refine Nat.le_of_not_lt fun q=>?_
   have q':(n:Int)<((ns.length:Nat):Int):=by omega
   first
     | (rw[decide_eq_true q'] at h5;exact absurd h5 (by decide))
     | (simp at h5;omega)
 cases hwl with
 | cons w1 w2 =>
   cases w2
   cases w1 with
   | list ho hall=>exact⟨_,_,ns,rfl,rfl,ho,ints_of_wellAll ns _ hall,hlen⟩
theorem post_true (l:OpenLaw) (args:List WData):l.row.toRowW.claim.post args (.bool true) args=true :=
 postW_of (r:=l.row.toRowW) (X:=(true == true))
   (show WShape.has [] (.bool true) .bool=true by first | rfl | decide | simp[WShape.has,WShape.arms,WShape.armsAll])
   (show (WTm.eq .res (.lit (.bool true))).value [] { args:=args,res:=some (.bool true),after:=args }=some (.bool (true == true)) from w_eq_bool (w_res rfl) w_lit) rfl
/-! ### the attachment: holds_open's last premise (the goal 'hc' behind k_head) from a wpAny of the law's body -/
theorem attach_call {l:OpenLaw} {n:Nat} {q:Program} {loose:List Str} {XP:(Str->Option Value)->Heap->Prop} {YP:World->Heap->Prop} {d:DefRec}
   (hn:l.most=some n) (hdf:d.params.defaults=[])
   (call:∀ (w:World) (s₀ s₁:Shared) (mg mb:Str->Option Value) (fa:Addr) (o:Obj) (pm cd doc:Value) (a:Addr) (vs:List Value) (ns:List Int),
     Ground q loose [] XP w s₀ mg mb s₁.heap->YP w s₁.heap →
     s₁.heap.get? fa=some o->o.data = .func (docDef d.name d.params d.body d.scope pm cd doc)->s₁.heap.CodeRec cd d.name->mg d.name=some (.ref fa) →
     s₁.heap.get? a=some { cls:=.type "list",data:=.seq vs.toArray }->IntsAre vs ns->ns.length<=n->s₁.gens = #[] →
     codeAny (model l.prog w) callerA (.call (.ref fa) ⟨[.ref a],[]⟩) (fun r s'=>r = .ok (.ret (.bool true))/\OldK s₁.heap s'.heap/\s'.os=s₁.os/\AllBare s'.gens) s₁) :
   WalkO q loose XP YP l.row.toRowW d [] (fun f vs=>PySem.call f vs):=by
 intro w s₀ s₁ mg mb G Y fa o pm cd doc dV kV ho hd hcd hD hmg hg args vals as hpre hlay hrd hwl hlo
 obtain rfl:dV = .none:=Dflts.none hD hdf
 obtain rfl:kV = .none:=Dflts.noKw hD
 obtain ⟨a,vs,ns,rfl,rfl,hobj,hints,hlen⟩:=script_of hn hpre hwl
 refine enter_call (codeAny_mono (call w s₀ s₁ mg mb fa o pm cd doc a vs ns G Y ho (fd_plain hd) hcd hmg hobj hints hlen hg) fun r s' hq=>?_)
 obtain ⟨rfl,h2,h3,h4⟩:=hq
 exact⟨.inl ⟨.bool true,.bool true,[],rfl,fun _=>rfl,.bool true,post_true l _,fun _=>⟨List.Pairwise.nil,fun _ hm=>(nomatch hm)⟩⟩,h2,h3,h4⟩
/-! ### rules over ANY heap (no ledger) from facts about the written part K: the library's own take a ledger (News) for what they write -/
section
variable {prog:Program} {w:World} {A:Around} {E:Value->Shared->Prop} {s:Shared} {K:Frag}
/-! the whole heap as the ledger: makes every rule that writes through a ledger a rule over any heap -/
end
end Att
namespace L2
open PySem PySem.Spec PyProof.Rows
theorem zI0:∀ {vs:List Value} {ns:List Int},IntsAre vs ns->Vals (ns.map V.int) vs
 | _,_,.nil=>.nil
 | _,_,.cons n t h=>.cons ⟨t,rfl⟩ (zI0 h)
noncomputable def Only (H:Hp):Prop:=∀ b,H b=none\/∃ o xs,H b=some (.frz o (.lst xs))
theorem law_call {P:Program} {w:World} {K:PySem.W.Frag} {mg mb:Str->Option Value} {CX:CXT} {k:Nat} {fa a:Addr} {fd:FuncData} {x:Str} {sp:Sp} {s₁:Shared} {vs:List Value} {ns:List Int}
   (KX:K.In s₁.heap) (hns:s₁.heap.Ns mainGlobals mg) (hb:s₁.heap.Ns builtinsNs mb) (hbb:∀ x:Str,x≠"__name__"->mb x=bootBuiltins x) (hlim:s₁.heap.NoLimit) (hg:s₁.gens = #[])
   (ha:s₁.heap.get? a=some { cls:=.type "list",data:=.seq vs.toArray }) (hi:IntsAre vs ns) (hl:ns.length<=sizeLine) (hr:Room k callerA)
   (F:∀ base:Heap,K.In base->base.Ns mainGlobals mg->FnOk P w K mg base CX k fa fd [x] sp) (hbind:∀ (s:Shared) (u:Value),BindsTo s fd ⟨[u],[]⟩ [(x,u)])
   (hsp:∀ H:Hp,Only H->SqL K H a (ns.map V.int)->sp [.ref a] H (fun v _=>v = .bl true) fun _ _ _=>False)
   (hCX:∀ H e s',CX [] H s₁ (fun _ _ _=>False) e s'->False) :
   codeAny (model P w) callerA (.call (.ref fa) ⟨[.ref a],[]⟩) (fun r s'=>r = .ok (.ret (.bool true))/\OldK s₁.heap s'.heap/\s'.os=s₁.os/\AllBare s'.gens) s₁:=by
 have rv:=zI0 hi
 have lenV:=hi.length
 have core:∀ H:Hp,Only H->SqL K H a (ns.map V.int)->HOk P w H s₁.heap->(∀ b,H b≠none->b=a)->(H a≠none->K.lookup a=none) →
     codeAny (model P w) callerA (.call (.ref fa) ⟨[.ref a],[]⟩) (fun r s'=>r = .ok (.ret (.bool true))/\OldK s₁.heap s'.heap/\s'.os=s₁.os/\AllBare s'.gens) s₁:=by
   intro H hO hS hok hA hK
   have base_of:∀ {b:Addr} {o:Obj},s₁.heap.get? b=some o->H b=none->(hidT s₁.heap H).get? b=some o:=fun e n=>hidT_get e n
   have noA:∀ {b:Addr} {o:Obj} {es:Array DictEntry} {ep:Nat},s₁.heap.get? b=some o->o.data = .dict es ep->H b=none:=fun {b o es ep} e d=>by
     cases q:H b with
     | none=>rfl
     | some u =>
       have e':b=a:=hA b (by rw[q];simp)
       subst e'
       rw[ha] at e;cases e
       have d':Data.seq vs.toArray _=Data.dict es ep:=d
       cases d'
   have nsK:∀ {b:Addr} {m:Str->Option Value},s₁.heap.Ns b m->(hidT s₁.heap H).Ns b m:=fun {b m} ⟨o,es,ep,e,d,r⟩=>⟨o,es,ep,base_of e (noA e d),d,r⟩
   have hKb:K.In (hidT s₁.heap H):=fun b o e=>base_of (KX b o e) (by
     cases q:H b with
     | none=>rfl
     | some u =>
       have e':b=a:=hA b (by rw[q];simp)
       subst e'
       rw[hK (by rw[q];simp)] at e;cases e)
   have hM:Mod K mg (hidT s₁.heap H):=⟨hKb,nsK hns,⟨mb,nsK hb,hbb⟩,let ⟨mc,h1,h2⟩:=hlim;⟨mc,nsK h1,h2⟩⟩
   have e0:Env0 P w K mg (hidT s₁.heap H) callerA [] s₁ H:=⟨rfl,hM,fun b o e=>of_hidT e,Nat.le_of_eq (hidT_size _ _),trivial,fun b hb=>absurd (show b∈([]:List Addr) from hb) (by simp),hok,.of_eq hg⟩
   refine codeAny_mono ((F _ hKb (nsK hns)).run callerA [] s₁ H ⟨[.ref a],[]⟩ [.ref a] [.ref a] _ _ hr e0 (hbind s₁ (.ref a)) (.cons rfl .nil) (hsp H hO hS)) fun r s' h=>?_
   cases r with
   | error e=>exact (hCX H e s' h).elim
   | ok fl =>
     cases fl with
     | next=>exact False.elim h
     | brk=>exact False.elim h
     | cont=>exact False.elim h
     | ret u =>
       obtain ⟨v,H',os,bare,un,hok',r',q⟩:=h
       have q':v = .bl true:=q
       subst q'
       obtain rfl:u=Value.bool true:=r'
       refine⟨rfl,OldK.of_keep fun b o e=>?_,os,bare⟩
       cases q:H b with
       | none=>exact un.keep b o e q (by intro z;exact absurd (show b∈([]:List Addr) from z) (by simp)) (by simp)
       | some u =>
         rcases hO b with z | ⟨ob,xs,z⟩
         . rw[q] at z;cases z
         . have z2:=un.frzs b ob _ z
           obtain ⟨e1,_⟩:=hok b _ z
           obtain ⟨e2,_⟩:=hok' b _ z2
           rw[e] at e1;cases e1
           exact e2
 cases hk:K.lookup a with
 | some o =>
   have e:=KX a o hk
   rw[ha] at e
   cases e
   refine core (fun _=>none) (fun _=>.inl rfl) (.inr ⟨_,vs.toArray,_,hk,rfl,rfl,rfl,by rw[List.size_toArray,lenV];exact hl,by simpa using rv⟩) (fun b u z=>by have z':(none:Option HO)=some u:=z;cases z') (fun b z=>absurd rfl z) fun z=>absurd rfl z
 | none =>
   refine core (fun b=>if b=a then some (.frz { cls:=.type "list",data:=.seq vs.toArray } (.lst (ns.map V.int))) else none) (fun b=>?_) (.inl (.inr ⟨{ cls:=.type "list",data:=.seq vs.toArray },if_pos rfl⟩)) (fun b u z=>?_) (fun b z=>?_) fun _=>hk
   . by_cases hb:b=a
     . exact .inr ⟨_,_,if_pos hb⟩
     . exact .inl (if_neg hb)
   . by_cases hb:b=a
     . have z':=(if_pos hb).symm.trans z
       cases z'
       subst hb
       exact⟨ha,by rw[List.length_map];exact hl,vs,_,rv,ha⟩
     . have z':=(if_neg hb).symm.trans z
       cases z'
   . by_cases hb:b=a
     . exact hb
     . exact absurd (if_neg hb) z
end L2
namespace L2
open PySem PySem.Spec PyProof.Rows
theorem walk_of {l:PySem.W.OpenLaw} {n k:Nat} {q:Program} {loose:List Str} {XP:(Str->Option Value)->Heap->Prop} {YP:World->Heap->Prop} {d:DefRec} {K:Params->PySem.W.Frag} {CX:World->CXT} {sp:World->Sp} {x:Str}
   (hn:l.most=some n) (hn2:n<=sizeLine) (hdf:d.params.defaults=[]) (hr:Room k callerA)
   (hY:∀ (w:World) (h:Heap),YP w h->(K w.params).In h)
   (F:∀ (w:World) (mg:Str->Option Value) (fa:Addr) (h:Heap),(K w.params).In h->h.Ns mainGlobals mg->mg d.name=some (.ref fa) →
     ∃ fd:FuncData,(∀ (s:Shared) (u:Value),BindsTo s fd ⟨[u],[]⟩ [(x,u)]) ∧
       ∀ base:Heap,(K w.params).In base->base.Ns mainGlobals mg->FnOk l.prog w (K w.params) mg base (CX w) k fa fd [x] (sp w))
   (hsp:∀ (w:World) (H:Hp) (a:Addr) (ns:List Int),ns.length<=n->Only H->SqL (K w.params) H a (ns.map V.int)->sp w [.ref a] H (fun v _=>v = .bl true) fun _ _ _=>False)
   (hCX:∀ (w:World) (H:Hp) (s:Shared) (e:Value) (s':Shared),CX w [] H s (fun _ _ _=>False) e s'->False) :
   PySem.W.WalkO q loose XP YP l.row.toRowW d [] (fun f vs=>PySem.call f vs):=by
 refine Att.attach_call hn hdf fun w s₀ s₁ mg mb fa o pm cd doc a vs ns G Y ho hd hcd hmg hobj hints hlen hg=>?_
 have KX:=hY w _ Y
 obtain ⟨fd,hb,hF⟩:=F w mg fa _ KX G.T.g hmg
 exact law_call KX G.T.g G.T.b G.T.builtins G.T.nolimit hg hobj hints (Nat.le_trans hlen hn2) hr hF hb (fun H hO hS=>hsp w H a ns hlen hO hS) fun H e s'=>hCX w H s₁ e s'
end L2
/-! SHORT WORDS over the layer: a def of the text,its body,what a loop and a test want. -/
namespace L2
open PySem PySem.Spec PyProof.Rows
/-! ### the text by places -/
noncomputable def zi9 (s:Stmt) (j:Nat):Stmt:=match s with
 | .ClassDef _ _ _ body _ _ _ _ _ _ _=>body.getD j (.Pass ⟨0,0,0,0⟩)
 | _=>.Pass ⟨0,0,0,0⟩
noncomputable def zb4 (s:Stmt):Arguments:=match s with
 | .FunctionDef _ a _ _ _ _ _ _ _ _=>a
 | _=>{ posonlyargs:=[],args:=[],vararg:=none,kwonlyargs:=[],kw_defaults:=[],kwarg:=none,defaults:=[] }
noncomputable def zb1 (s:Stmt):List Stmt:=match s with
 | .FunctionDef _ _ b _ _ _ _ _ _ _=>b
 | _=>[]
noncomputable def za5 (s:Stmt):Scope:=match s with
 | .FunctionDef _ _ _ _ _ _ sc _ _ _=>sc
 | _=>{ kind:=.function,names:=[],isGenerator:=false,isCoroutine:=false }
/-! ### no exception leaves a def -/
noncomputable abbrev CX0:CXT:=fun _ _ _ _ _ _=>False
noncomputable abbrev E0:XK:=fun _ _ _=>False
theorem zc2 {X:Cx}:zs5 CX0 X E0:=fun _ _ _ _ _ _ _ h=>h.elim
/-! ### a def (or method) of the text as it stands behind the top -/
structure Fun (K:PySem.W.Frag) (x qual:Str) (st:Stmt) (f:Addr) (fd:FuncData):Prop where
 ex:∃ (oc:Value) (od:Option Addr) (kV doc pm:Value) (an:Option Addr) (cdv ct:Value) (osl:Array (Option Value)),
   fd=PySem.W.fnOf x qual (zb4 st) (zb1 st) (za5 st) .none kV doc pm an cdv ct/\K.lookup f=some ⟨oc,od,.func fd,osl⟩/\PySem.W.codeIn K cdv qual=true
 kp:PySem.W.keepIn K (.ref f)=true
section
variable {P:Program} {w:World} {K:PySem.W.Frag} {mg:Str->Option Value} {base:Heap}
theorem Fun.ok {x qual:Str} {st:Stmt} {f:Addr} {fd:FuncData} {N ps:List Str} {k:Nat} {sp:Sp} (F:Fun K x qual st f fd) (S:zc0 N ps (za5 st)) (len:∀ vs H Q E,sp vs H Q E->vs.length=ps.length)
   (hbody:∀ (cdv:Value) (A:Around) (outer:List Env) (s:Shared) (H:Hp) (vs:List V) (Q:VK) (E:XK),Room k (A.deeper (envOfC qual (za5 st) s.heap.objs.size f cdv))->sp vs H Q E →
     ∃ t,PSs (cxOf CX0 P w K mg base N qual (za5 st) f cdv A outer s H E).nox (zb1 st) t/\t { nx:=fun _ H'=>Q .non H',rt:=Q } (start N vs) H):FnOk P w K mg base CX0 (k+1) f fd ps sp:=by
 obtain ⟨oc,od,kV,doc,pm,an,cdv,ct,osl,rfl,lk,hcd⟩:=F.ex
 refine zS4 lk hcd S len fun A outer s H vs Q E hr hsp=>?_
 obtain ⟨t,h,q⟩:=hbody cdv A outer s H vs Q E hr hsp
 exact⟨t,h.nox,q⟩
theorem Fun.binds {x qual:Str} {st:Stmt} {f:Addr} {fd:FuncData} {ps:List Str} (F:Fun K x qual st f fd)
   (h:∀ (kV doc pm:Value) (an:Option Addr) (cdv ct:Value) (us:List Value),us.length=ps.length->bindArgs (PySem.W.fnOf x qual (zb4 st) (zb1 st) (za5 st) .none kV doc pm an cdv ct) ⟨us,[]⟩=pure (ps.zip us)):zc7 K fd ps []:=by
 obtain ⟨oc,od,kV,doc,pm,an,cdv,ct,osl,rfl,lk,hcd⟩:=F.ex
 exact .all (h kV doc pm an cdv ct)
theorem zd3 {x qual:Str} {st:Stmt} {f:Addr} {oc:Value} {od an:Option Addr} {osl:Array (Option Value)} {kV doc pm cdv ct:Value} (l:K.lookup f=some ⟨oc,od,.func (PySem.W.fnOf x qual (zb4 st) (zb1 st) (za5 st) .none kV doc pm an cdv ct),osl⟩)
 (c:PySem.W.codeIn K cdv qual=true) (k:PySem.W.keepIn K (.ref f)=true):Fun K x qual st f (PySem.W.fnOf x qual (zb4 st) (zb1 st) (za5 st) .none kV doc pm an cdv ct):=⟨⟨oc,od,kV,doc,pm,an,cdv,ct,osl,rfl,l,c⟩,k⟩
end
theorem zP5 {A:Around} {k:Nat} (hr:Room k A):A.units+1<cLine:=Nat.lt_of_le_of_lt (Nat.add_le_add_left (by decide:1<=64) _) hr.units
theorem zc9 {n:Nat} (h:n<=1000):n<sizeLine:=Nat.lt_of_le_of_lt h (by decide)
/-! ### expressions in short: the name that stands in the i-th slot -/
section
variable {X:Cx}
theorem pv (i:Nat) {x:Str} {pos:Pos} (hN:X.N[i]?=some x:=by rfl) (hv:Vis X.env.scope x:=by first | exact Or.inl rfl | exact Or.inr (Or.inl rfl) | exact Or.inr (Or.inr rfl)) (hd:(x == ("__debug__" : Str))=false:=by decide)
 (hcd:(x == ("__classdict__" : Str))=false:=by decide):PE X (.Name x pos) (tVar i):=pe_var hN hv hd hcd
end
/-! ### tests -/
theorem iteF {A B:Prop} (h:B):if false=true then A else B:=by
 rw[if_neg Bool.false_ne_true]
 exact h
theorem iteT {A B:Prop} (h:A):if true=true then A else B:=by
 rw[if_pos rfl]
 exact h
theorem ite2 {c A B:Prop} [Decidable c] (h1:c->A) (h2:¬ c->B):if c then A else B:=by
 by_cases h:c
 . rw[if_pos h]
   exact h1 h
 . rw[if_neg h]
   exact h2 h
/-! ### heaps -/
noncomputable def Same (H H':Hp):Prop:=∀ b o,H b=some o->H' b=some o
theorem Same.refl (H:Hp):Same H H:=fun _ _ h=>h
theorem Same.trans {H H1 H2:Hp} (a:Same H H1) (b:Same H1 H2):Same H H2:=fun c o h=>b c o (a c o h)
theorem Same.free {H H':Hp} (e:Same H H') {l:Addr} (h:H' l=Option.none):H l=Option.none:=by
 cases q:H l with
 | none=>rfl
 | some o =>
   rw[e l o q] at h
   cases h
theorem Same.seq {K:PySem.W.Frag} {H H':Hp} {a:Addr} {xs:List V} (e:Same H H') (h:SqL K H a xs):SqL K H' a xs:=by
 rcases h with (h | ⟨o,h⟩) | h
 . exact .inl (.inl (e _ _ h))
 . exact .inl (.inr ⟨o,e _ _ h⟩)
 . exact .inr h
end L2
/-! COMPREHENSIONS over the layer: a list comprehension of one clause,whose block raises nothing -/
namespace L2
open PySem PySem.Spec PyProof.Rows
section
variable {prog:Program} {w:World} {A:Around} {R:Result->Shared->Prop} {s:Shared}
theorem compLoop_go {elt target iter:Expr} {ifs:List Expr} {scope:Scope} {pos:Pos} {it acc:Value} {env:Env} (I:Nat->Shared->Prop)
   (turn:∀ n s,I n s->wpAny (model prog w) A (pyNext it) (fun r s1=>match r with
     | none=>R (.ok .next) s1
     | some v=>wpAny (model prog w) A (letOwnedTupleGo target it v) (fun _ s1'=>wpAny (model prog w) A (assign target env v) (fun _ s2 =>
         wpAny (model prog w) A (forIn ifs true fun c r=>if r=true then do let ok <-isTrue c env (eval c env);pure (ForInStep.yield ok) else pure (ForInStep.yield r)) (fun ok s3 =>
           if ok=true then wpAny (model prog w) A (eval elt env) (fun x s4 =>
             wpAny (model prog w) A (call (.builtin "list.append") [acc,x]) (fun _ s5=>∃ m,m<n/\I m s5) (fun _ _=>False) s4) (fun _ _=>False) s3
           else ∃ m,m<n/\I m s3) (fun _ _=>False) s2) (fun _ _=>False) s1') (fun _ _=>False) s1) (fun _ _=>False) s)
   (n:Nat) (h:I n s) :
   codeAny (model prog w) A (.compLoop (.ListComp elt [⟨target,iter,ifs,0⟩] scope pos) 0 it acc env) R s:=by
 refine codeAny_loop rfl I (fun n s hI=>?_) n h
 show wpAny _ A ((compTurn (.ListComp elt [⟨target,iter,ifs,0⟩] scope pos) 0 it acc env).onRaise (fun x=>do noteFrame x env;theTreesLotGoes x)) _ _ s
 refine wpAny_noted ?_
 rw[compTurn_list]
 refine wpAny_bind (wpAny_standAt (wpAny_bind (wpAny_mono (turn n s hI) (fun r s1 h1=>?_) fun _ _ h'=>h'.elim)))
 cases r with
 | none=>exact wpAny_pure h1
 | some v =>
   refine wpAny_bind (wpAny_mono h1 (fun _ s1' h1'=>?_) fun _ _ h'=>h'.elim)
   refine wpAny_bind (wpAny_mono h1' (fun _ s2 h2=>wpAny_bind (wpAny_mono h2 (fun ok s3 h3=>?_) fun _ _ h'=>h'.elim)) fun _ _ h'=>h'.elim)
   cases ok with
   | false=>exact wpAny_pure ⟨rfl,h3⟩
   | true=>exact wpAny_bind (wpAny_bind (wpAny_mono h3 (fun x s4 h4=>wpAny_bind (wpAny_mono h4 (fun _ s5 h5=>wpAny_pure (wpAny_pure ⟨rfl,h5⟩)) fun _ _ h'=>h'.elim)) fun _ _ h'=>h'.elim))
end
theorem zF7 {scope:Scope} {env:Env} (h:∀ y∈scope.names,y.2 = .free->∃ c,env.cells.lookup y.1=some c) :
   ∃ cl,closureFor scope env=pure cl/\(∀ x c,cl.lookup x=some c->env.cells.lookup x=some c)/\∀ y∈scope.names,y.2 = .free->∃ c,cl.lookup y.1=some c:=by
 have all:∀ (names:List (Str×NameKind)) (acc:List (Str×Addr)) (f:Str×NameKind->List (Str×Addr)->Sem (ForInStep (List (Str×Addr)))),
     (∀ n k c,f (n,k) c=if k == .free then (do let a <-cellOf env n;pure (.yield ((n,a)::c))) else pure (.yield c)) →
     (∀ y∈names,y.2 = .free->∃ c,env.cells.lookup y.1=some c)->(∀ x c,acc.lookup x=some c->env.cells.lookup x=some c) →
     ∃ cl,forIn names acc f=pure cl/\(∀ x c,cl.lookup x=some c->env.cells.lookup x=some c)/\(∀ x c,acc.lookup x=some c->∃ c',cl.lookup x=some c')/\∀ y∈names,y.2 = .free->∃ c,cl.lookup y.1=some c:=by
   intro names
   induction names with
   | nil=>intro acc f _ _ ha;exact⟨acc,by rw[List.forIn_nil],ha,fun x c e=>⟨c,e⟩,fun y hy=>nomatch hy⟩
   | cons y r ih =>
     intro acc f hf hy ha
     obtain ⟨n,k⟩:=y
     rw[List.forIn_cons,hf]
     by_cases hk:k = .free
     . subst hk
       obtain ⟨c,hc⟩:=hy (n,.free) List.mem_cons_self rfl
       have hc':env.cells.lookup n=some c:=hc
       have ec:cellOf env n=pure c:=by unfold cellOf;rw[hc']
       rw[if_pos (by decide),ec,pure_bind,pure_bind]
       obtain ⟨cl,e,h1,h2,h3⟩:=ih ((n,c)::acc) f hf (fun y hy'=>hy y (List.mem_cons_of_mem _ hy')) (fun x c' e=>by
         rw[List.lookup_cons] at e
         cases hx:x == n with
         | true=>rw[hx] at e;cases e;rw[eq_of_beq hx];exact hc'
         | false=>rw[hx] at e;exact ha x c' e)
       refine⟨cl,e,h1,fun x c' e'=>?_,fun y hy' hk'=>?_⟩
       . cases hx:x == n with
         | true=>exact h2 x c (by rw[List.lookup_cons,hx])
         | false=>exact h2 x c' (by rw[List.lookup_cons,hx];exact e')
       . rcases List.mem_cons.mp hy' with z | z
         . subst z;exact h2 n c (by rw[List.lookup_cons];simp)
         . exact h3 y z hk'
     . have hb:(k == NameKind.free)=false:=by simpa using hk
       rw[hb]
       rw[if_neg (by decide),pure_bind]
       obtain ⟨cl,e,h1,h2,h3⟩:=ih acc f hf (fun y hy'=>hy y (List.mem_cons_of_mem _ hy')) ha
       refine⟨cl,e,h1,h2,fun y hy' hk'=>?_⟩
       rcases List.mem_cons.mp hy' with z | z
       . subst z;exact absurd hk' hk
       . exact h3 y z hk'
 have fin:∀ f:Str×NameKind->List (Str×Addr)->Sem (ForInStep (List (Str×Addr))),
     (∀ n k c,f (n,k) c=if k == .free then (do let a <-cellOf env n;pure (.yield ((n,a)::c))) else pure (.yield c)) →
     ∃ cl,(forIn scope.names [] f >>= fun r=>pure r)=pure cl/\(∀ x c,cl.lookup x=some c->env.cells.lookup x=some c)/\∀ y∈scope.names,y.2 = .free->∃ c,cl.lookup y.1=some c:=fun f hf=>by
   obtain ⟨cl,e,h1,_,h3⟩:=all scope.names [] f hf h (fun x c e=>by cases e)
   exact⟨cl,by rw[e,pure_bind],h1,h3⟩
 unfold closureFor
 exact fin _ (fun n k c=>by cases hk:k == NameKind.free<;>simp[hk])
noncomputable def Cx.comp (X:Cx) (scope:Scope) (cl:List (Str×Addr)) (C:Addr) (N':List Str) (s0:Shared) (H0:Hp) (fp:List Addr):Cx :=
 { X with N:=N',s₀:=s0,H₀:=H0,env:=compEnvC scope cl C X.env,outer:=X.stack,ex:=fp,fn:=fun _=>false,pn:=[],xe:=fun _ _=>False }
noncomputable def selS (ix:List (Option Nat)) (σ:St):St:=ix.map fun o=>o.bind fun j=>(σ[j]?).join
structure zg8 (ON:List Str) (osc scope:Scope) (N':List Str) (ix:List (Option Nat)):Prop where
 kind:scope.kind = .function
 nocell:∀ y∈scope.names,y.2≠.cell
 names:∀ y∈scope.names,y.2 = .local->scope.names.lookup y.1=some .local
 frees:∀ y∈scope.names,y.2 = .free->osc.names.lookup y.1=some .cell
 len:ix.length=N'.length
 nd:N'.Nodup
 chk:((ix.zip N').all fun p=>match p.1 with | none=>true | some j=>decide (ON[j]?=some p.2) && decide (scope.names.lookup p.2=some .free))=true
theorem zg8.sel {ON:List Str} {osc scope:Scope} {N':List Str} {ix:List (Option Nat)} (S:zg8 ON osc scope N' ix) (i j:Nat) (x:Str) (h1:ix[i]?=some (some j)) (h2:N'[i]?=some x):ON[j]?=some x/\scope.names.lookup x=some .free:=by
 have hz:(ix.zip N')[i]?=some (some j,x):=by rw[List.getElem?_zip_eq_some];exact⟨h1,h2⟩
 have:=List.all_eq_true.mp S.chk _ (List.mem_of_getElem? hz)
 simp only[Bool.and_eq_true,decide_eq_true_eq] at this
 exact this
theorem zz9 {env:Env}:∀ {names:List (Str×NameKind)} {x:Str},names.lookup x=some .free →
   ((names.map fun (n,k)=>if (k == NameKind.free && env.scope.kind == .function && env.kindOf n == some .cell) then (n,NameKind.cell) else (n,k)).lookup x=some .cell ∨
    (names.map fun (n,k)=>if (k == NameKind.free && env.scope.kind == .function && env.kindOf n == some .cell) then (n,NameKind.cell) else (n,k)).lookup x=some .free)
 | [],_,h=>by simp at h
 | (n,k)::r,x,h=>by
   have ih:=@zz9 env r x
   rw[List.map_cons]
   cases hx:x == n with
   | true =>
     rw[List.lookup_cons,hx] at h
     cases h
     by_cases hc:(NameKind.free == NameKind.free && env.scope.kind == .function && env.kindOf n == some .cell)=true
     . left;simp only[hc,if_true,List.lookup_cons,hx]
     . right
       have hc':(NameKind.free == NameKind.free && env.scope.kind == .function && env.kindOf n == some .cell)=false:=by simpa using hc
       simp only[hc',Bool.false_eq_true,if_false,List.lookup_cons,hx]
   | false =>
     rw[List.lookup_cons,hx] at h
     have ih':=ih h
     by_cases hc:(k == NameKind.free && env.scope.kind == .function && env.kindOf n == some .cell)=true
     . simp only[hc,if_true,List.lookup_cons,hx];exact ih'
     . have hc':(k == NameKind.free && env.scope.kind == .function && env.kindOf n == some .cell)=false:=by simpa using hc
       simp only[hc',Bool.false_eq_true,if_false,List.lookup_cons,hx];exact ih'
theorem zA0 {env:Env}:∀ {names:List (Str×NameKind)} {x:Str},(∀ y∈names,y.2≠.cell) →
   ((names.map fun (n,k)=>if (k == NameKind.free && env.scope.kind == .function && env.kindOf n == some .cell) then (n,NameKind.cell) else (n,k)).lookup x=some .cell ∨
    (names.map fun (n,k)=>if (k == NameKind.free && env.scope.kind == .function && env.kindOf n == some .cell) then (n,NameKind.cell) else (n,k)).lookup x=some .free)->(x,NameKind.free)∈names
 | [],_,_,h=>by simp at h
 | (n,k)::r,x,hn,h=>by
   have ih:=@zA0 env r x fun y hy=>hn y (List.mem_cons_of_mem _ hy)
   rw[List.map_cons] at h
   cases hx:x == n with
   | true =>
     have e:=eq_of_beq hx
     subst e
     by_cases hc:(k == NameKind.free && env.scope.kind == .function && env.kindOf x == some .cell)=true
     . have hk:k = .free:=by
         have:=(Bool.and_eq_true_iff.mp (Bool.and_eq_true_iff.mp hc).1).1
         exact eq_of_beq this
       subst hk;exact List.mem_cons_self
     . have hc':(k == NameKind.free && env.scope.kind == .function && env.kindOf x == some .cell)=false:=by simpa using hc
       simp only[hc',Bool.false_eq_true,if_false,List.lookup_cons,beq_self_eq_true] at h
       rcases h with h | h
       . have hk:k = .cell:=Option.some.inj h
         exact absurd hk (hn (x,k) List.mem_cons_self)
       . have hk:k = .free:=Option.some.inj h
         subst hk;exact List.mem_cons_self
   | false =>
     refine List.mem_cons_of_mem _ (ih ?_)
     by_cases hc:(k == NameKind.free && env.scope.kind == .function && env.kindOf n == some .cell)=true
     . simp only[hc,if_true,List.lookup_cons,hx] at h;exact h
     . have hc':(k == NameKind.free && env.scope.kind == .function && env.kindOf n == some .cell)=false:=by simpa using hc
       simp only[hc',Bool.false_eq_true,if_false,List.lookup_cons,hx] at h;exact h
section
variable {X:Cx} {pins:List (Addr×Obj)} {σ:St} {H:Hp} {s:Shared}
theorem Inv.comp {scope:Scope} {N':List Str} {ix:List (Option Nat)} {cl:List (Str×Addr)} {fp:List Addr} {h':Heap} {t':Nat} (I:Inv X pins σ H s) (S:zg8 X.N X.env.scope scope N' ix) (hfp:∀ b∈fp,FpOk X pins H b) (hlt:∀ b∈fp,b<s.heap.objs.size)
   (c1:∀ x c,cl.lookup x=some c->X.env.cells.lookup x=some c) (c2:∀ y∈scope.names,y.2 = .free->∃ c,cl.lookup y.1=some c)
   (ns:h'.Ns s.heap.objs.size fun _=>none) (sb:∀ b o,s.heap.get? b=some o->h'.get? b=some o) :
   Inv (X.comp scope cl s.heap.objs.size N' s H fp) [] (selS ix σ) H { s with heap:=h',toks:=t' }:=by
 have fpne:∀ b∈fp,b≠s.heap.objs.size:=fun b hb=>Nat.ne_of_lt (hlt b hb)
 have cin:∀ x c,cl.lookup x=some c->∃ v,s.heap.IsCell c v:=fun x c e=>I.cell x c (c1 x c e)
 refine⟨⟨I.ok.mod,S.kind,I.ok.glob,I.ok.blt,Nat.le_refl _,fun x y c e1 e2=>I.ok.inj x y c (c1 x c e1) (c1 y c e2),fun x hx=>?_,fun x c z=>(by cases z),I.ok.hd,I.ok.frames,.inl rfl,fun b hb=>⟨fpne b hb,fun x c e=>?_⟩,I.bs,Nat.le_trans I.ok.bsz I.sz,fun b o e hb=>?_,fun b hb hf=>?_,I.stack,I.stkFree⟩,
   rfl,I.bare,Un.kept sb,⟨_,ns,fun i x v e1 e2 e3=>?_⟩,fun x c e=>?_,I.hok.fresh (Nat.le_refl _),fun x c e=>I.freeC x c (c1 x c e),fun p hp=>(by cases hp),I.hok.kept sb,?_⟩
 . obtain ⟨c,e⟩:=c2 (x,.free) (zA0 S.nocell hx) rfl
   exact⟨c,e⟩
 . exact (hfp b hb).2.2.2.2.1 x c (c1 x c e)
 . rcases (hfp b hb).2.2.2.1 with z | z
   . exact I.ok.noex b o e z
   . exact absurd (Nat.lt_of_lt_of_le (Heap.lt_size (I.ok.bs b o e).1) z) (Nat.lt_irrefl _)
 . rcases List.mem_cons.mp (I.stkSub b hf) with z | z
   . exact (hfp b hb).2.1 z
   . exact (hfp b hb).2.2.1 z
 . -- what the block sees
   have e2':ix[i]?.map (fun o=>o.bind fun j=>(σ[j]?).join)=some (some v):=by
     have:=e2
     unfold selS at this
     rwa [List.getElem?_map] at this
   cases hi:ix[i]? with
   | none=>rw[hi] at e2';cases e2'
   | some o =>
     rw[hi] at e2'
     cases o with
     | none=>cases e2'
     | some j =>
       have e4:(σ[j]?).join=some v:=Option.some.inj e2'
       have e5:σ[j]?=some (some v):=by
         cases q:σ[j]? with
         | none=>rw[q] at e4;cases e4
         | some z=>rw[q] at e4;have:z=some v:=e4;rw[this]
       obtain ⟨hN,hfr⟩:=S.sel i j x hi e1
       have hk:=S.frees (x,.free) (PySem.mem_of_lookup hfr) rfl
       obtain ⟨m,_,hl⟩:=I.loc
       obtain ⟨u,r,lk⟩:=hl j x v hN e5 (.inr (.inl hk))
       refine⟨u,r,.inr ?_⟩
       rcases lk with ⟨k1,_⟩ | ⟨_,c,ec,hc⟩
       . exact absurd (k1.symm.trans hk) (by decide)
       . obtain ⟨c',ec'⟩:=c2 (x,.free) (PySem.mem_of_lookup hfr) rfl
         have:=c1 x c' ec'
         rw[ec] at this
         cases this
         refine⟨zz9 hfr,c,ec',?_⟩
         obtain ⟨o,ho,hd⟩:=hc
         exact⟨o,sb c o ho,hd⟩
 . obtain ⟨v,o,ho,hd⟩:=cin x c e
   exact⟨v,o,sb c o ho,hd⟩
 . show (selS ix σ).length=N'.length
   unfold selS
   rw[List.length_map]
   exact S.len
theorem Inv.uncomp {scope:Scope} {N':List Str} {cl:List (Str×Addr)} {fp:List Addr} {C:Addr} {σ':St} {H':Hp} {s':Shared} (I:Inv X pins σ H s) (hfp:∀ b∈fp,FpOk X pins H b) (hC:s.heap.objs.size<=C)
   (J:Inv (X.comp scope cl C N' s H fp) [] σ' H' s'):Inv X pins σ H' s' :=
 I.call' (ch:=fp) J.os J.base J.hok J.bare fun b hb=>by
   obtain ⟨f0,f1,f2,f3,f4,f5⟩:=hfp b hb
   exact⟨f3,f1,f4,f5⟩
end
/-! ### readings -/
noncomputable def zr3 (D:Addr) (telt:TE) (N:St->Hp->Prop):St->Hp->Prop:=fun σ H=>telt σ H fun v H1=>∃ acc,H1 D=some (.lst acc)/\acc.length<sizeLine/\N σ (upd H1 D (.lst (acc++[v])))
noncomputable def zU6 (wi:TI) (ix:List (Option Nat)) (g:TG) (tif:TT) (telt:TE):TE:=fun σ H Q=>wi σ H fun J H1=>∀ D,H1 D=none->∃ W:Nat->Nat->St->Hp->Prop,(∃ m,W 0 m (selS ix σ) (upd H1 D (.lst []))) ∧
 ∀ i m σ' H',W i m σ' H'->(J.stop i H'/\Q (.ref D) H')\/(J.go i H'/\∃ N:St->Hp->Prop,(∀ σ2 H2,N σ2 H2->∃ m',m'<m/\W (i+1) m' σ2 H2) ∧
   ∀ x H2,J.yld i H' x H2->g x σ' H2 fun σ3 H3=>tif σ3 H3 fun b H4=>if b=true then zr3 D telt N σ3 H4 else N σ3 H4)
noncomputable def PIfs (X:Cx) (ifs:List Expr) (t:TT):Prop :=
 ∀ (pins:List (Addr×Obj)) (s:Shared) (σ:St) (H:Hp) (Q:Bool->Hp->Prop),Inv X pins σ H s->t σ H Q →
   wpAny (model X.prog X.w) X.A (forIn ifs true fun c r=>if r=true then do let ok <-isTrue c X.env (eval c X.env);pure (ForInStep.yield ok) else pure (ForInStep.yield r)) (TP X pins σ Q) X.xe s
noncomputable def zI1:TT:=fun _ H Q=>Q true H
theorem zM5 {X:Cx}:PIfs X [] zI1:=fun _ _ _ H _ I h=>wpAny_tests_nil ⟨H,I,h⟩
theorem zF8 {X:Cx} {c:Expr} {t:TT} (hc:PT X c t):PIfs X [c] t:=fun pins s σ H Q I h=>wpAny_tests_one (hc pins s σ H Q I h)
section
variable {X:Cx} {scope:Scope} {N':List Str} {ix:List (Option Nat)} {tg iter elt:Expr} {ifs:List Expr} {pos:Pos} {wi:TI} {g:TG} {tif:TT} {telt:TE}
theorem zF9 {RR:Value->Addr->Result->Shared->Prop} {pins:List (Addr×Obj)} {σ:St} {s2:Shared} {H2:Hp} {it:Addr} {fp:List Addr} {tn:Nat->Heap->Prop} {J:It} {cl:List (Str×Addr)} {Q:VK} {E:Value->Shared->Prop}
   (hc:X.calm=true) (S:zg8 X.N X.env.scope scope N' ix)
   (c1:∀ x c,cl.lookup x=some c->X.env.cells.lookup x=some c) (c2:∀ y∈scope.names,y.2 = .free->∃ c,cl.lookup y.1=some c)
   (hg:∀ cl C s0 H0 fp,PG (X.comp scope cl C N' s0 H0 fp) tg g) (hif:∀ cl C s0 H0 fp,PIfs (X.comp scope cl C N' s0 H0 fp) ifs tif) (he:∀ cl C s0 H0 fp,PE (X.comp scope cl C N' s0 H0 fp) elt telt)
   (I2:Inv X pins σ H2 s2) (T:Turn X.prog X.w X.K tg J fp it tn) (st2:tn 0 s2.heap) (f2:∀ b∈fp,FpOk X pins H2 b)
   (body:∀ D,H2 D=none->∃ W:Nat->Nat->St->Hp->Prop,(∃ m,W 0 m (selS ix σ) (upd H2 D (.lst []))) ∧
     ∀ i m σ' H',W i m σ' H'->(J.stop i H'/\Q (.ref D) H')\/(J.go i H'/\∃ N:St->Hp->Prop,(∀ σ2 H2,N σ2 H2->∃ m',m'<m/\W (i+1) m' σ2 H2) ∧
       ∀ x H2,J.yld i H' x H2->g x σ' H2 fun σ3 H3=>tif σ3 H3 fun b H4=>if b=true then zr3 D telt N σ3 H4 else N σ3 H4))
   (hRR:∀ D C s3 s' H' m,Inv X pins σ H' s'->s2.heap.objs.size<=s3->s3<=C->s'.heap.Ns C m->FpOk X pins H' C->HOk X.prog X.w H' s'.heap->Q (.ref D) H'->RR (.ref D) C (.ok .next) s') :
   wpAny (model X.prog X.w) X.A (newList []) (fun acc s3=>wpAny (model X.prog X.w) X.A (newFunctionEnv scope X.env.globals cl [] X.env.qual none .none (some X.env)) (fun cenv s4 =>
     codeAny (model X.prog X.w) X.A (.compStart (.ListComp elt [⟨tg,iter,ifs,0⟩] scope pos) 0 (.ref it) acc { cenv with scope:=relabel scope X.env }) (RR acc cenv.locals) s4) E s3) E s2:=by
 have hlt2:∀ b∈fp,b<s2.heap.objs.size:=fun b hb=>by
   obtain ⟨o,e,_⟩:=T.obj _ _ st2 b hb
   exact Heap.lt_size e
 obtain ⟨W,⟨m0,w0⟩,turn⟩:=body s2.heap.objs.size I2.fresh
 refine wpAny_newObj_type (wpAny_newFunctionEnv S.nocell (by intro y hy;simp at hy) (fun h1 hns1 hsb1=>?_) S.kind)
 dsimp only at hns1 hsb1 ⊢
 have I3:Inv X pins σ (upd H2 s2.heap.objs.size (.lst [])) { s2 with heap:=s2.heap.push { cls:=.type "list",dict:=none,data:=.seq ([]:List Value).toArray } } :=
   Inv.lnew (its:=[]) (t':=s2.toks) I2 .nil (Nat.zero_le _)
 generalize hs3:({ s2 with heap:=s2.heap.push { cls:=.type "list",dict:=none,data:=.seq ([]:List Value).toArray } }:Shared)=s3 at I3
 have hh3:s3.heap=s2.heap.push { cls:=.type "list",dict:=none,data:=.seq ([]:List Value).toArray }:=by rw[<-hs3]
 have hsz3:s3.heap.objs.size=s2.heap.objs.size+1:=by rw[hh3,Heap.size_push]
 have hsh:({ s2 with heap:=h1,toks:=s2.toks+([]:List (Str×Value)).length }:Shared) = { s3 with heap:=h1,toks:=s2.toks+([]:List (Str×Value)).length }:=by rw[<-hs3]
 rw[<-hh3] at hns1 hsb1 ⊢
 have fpD:∀ b∈fp,b≠s2.heap.objs.size:=fun b hb=>Nat.ne_of_lt (hlt2 b hb)
 have f3:∀ b∈fp,FpOk X pins (upd H2 s2.heap.objs.size (.lst [])) b:=fun b hb=>⟨by rw[za7 (fpD b hb)];exact (f2 b hb).1,(f2 b hb).2⟩
 have old:∀ b o,s3.heap.get? b=some o->h1.get? b=some o:=fun b o e=>hsb1.extBut b o (Nat.ne_of_lt (Heap.lt_size e)) (Heap.get?_push_of_some _ e)
 have J4:Inv (X.comp scope cl s3.heap.objs.size N' s3 (upd H2 s2.heap.objs.size (.lst [])) fp) [] (selS ix σ) (upd H2 s2.heap.objs.size (.lst [])) { s3 with heap:=h1,toks:=s2.toks+([]:List (Str×Value)).length } :=
   I3.comp S f3 (fun b hb=>Nat.lt_of_lt_of_le (hlt2 b hb) (by rw[hsz3];exact Nat.le_succ _)) c1 c2 hns1 old
 have st4:tn 0 h1:=T.keep _ _ _ st2 fun b hb o e=>old b o (by rw[hh3];exact Heap.get?_push_of_some _ e)
 generalize hCC:s3.heap.objs.size=C at *
 generalize hX':X.comp scope cl C N' s3 (upd H2 s2.heap.objs.size (.lst [])) fp=X' at J4
 have stat:∀ {H':Hp},(∀ b∈fp,H' b=none)->∀ b∈fp,FpOk X' [] H' b:=fun {H'} hn b hb=>by
   subst hX'
   refine⟨hn b hb,(J4.ok.exf b hb).1,J4.ok.exfs b hb,.inl hb,(J4.ok.exf b hb).2,fun p hp=>(by cases hp)⟩
 rw[hsh]
 have loop:codeAny (model X.prog X.w) X.A (.compLoop (.ListComp elt [⟨tg,iter,ifs,0⟩] scope pos) 0 (.ref it) (.ref s2.heap.objs.size) (compEnvC scope cl C X.env)) (RR (.ref s2.heap.objs.size) C) { s3 with heap:=h1,toks:=s2.toks+([]:List (Str×Value)).length }:=by
   refine compLoop_go (fun n s'=>∃ i σ' H',Inv X' [] σ' H' s'/\tn i s'.heap/\(∀ b∈fp,H' b=none)/\W i n σ' H') ?_ m0 ⟨0,_,_,J4,st4,fun b hb=>(f3 b hb).1,w0⟩
   rintro n s5 ⟨i,σ5,H5,I5,st5,fr5,w5⟩
   rcases turn i n σ5 H5 w5 with ⟨stop,qn⟩ | ⟨go,N,hN,step⟩
   . have td:=T.done X' (by subst hX';rfl) (by subst hX';rfl) (by subst hX';rfl) (by subst hX';exact hc) i [] s5 σ5 H5 (fun _ _=>False) I5 (stat fr5) st5 stop
     have eA:X'.A=X.A:=by subst hX';rfl
     rw[eA] at td
     refine thn td fun r s6 ⟨hr,I6⟩=>?_
     subst hr
     subst hX'
     obtain ⟨m,hnm,_⟩:=I6.loc
     have I7:Inv X pins σ H5 s6:=I3.uncomp f3 (Nat.le_of_eq hCC) I6
     refine hRR s2.heap.objs.size C s3.heap.objs.size s6 H5 m I7 (by omega) (by omega) hnm ?_ I6.hok qn
     have q:=I3.fpOk (H':=H5) (b:=C) (by omega) I6.free
     exact q
   . have ti:=T.item X' (by subst hX';rfl) (by subst hX';rfl) (by subst hX';rfl) (by subst hX';exact hc) i [] s5 σ5 H5 (fun _ _=>False) I5 (stat fr5) st5 go
     have eA:X'.A=X.A:=by subst hX';rfl
     rw[eA] at ti
     refine thn ti fun r s6 ⟨u,hr,h6⟩=>?_
     subst hr
     refine thn h6 fun _ s7 ⟨x,H7,I7,r7,y7,st7,fr7⟩=>?_
     have I7':=I7.pinned (stat fr7) (T.obj _ _ st7)
     have again:∀ {pl:List (Addr×Obj)} {σ8:St} {H8:Hp} {s8:Shared},Inv X' ([]++zC3 fp s7.heap) σ8 H8 s8->N σ8 H8->∃ m,m<n/\∃ i σ' H',Inv X' [] σ' H' s8/\tn i s8.heap/\(∀ b∈fp,H' b=none)/\W i m σ' H':=fun {pl σ8 H8 s8} I8 n8=>by
       obtain ⟨m',hm,w8⟩:=hN σ8 H8 n8
       refine⟨m',hm,i+1,σ8,H8,I8.unpinned,T.keep _ _ _ st7 fun b hb o e=>(I8.pin (b,o) (List.mem_append_right _ (List.mem_append_right _ (zu5 hb e)))).1,fun b hb=>?_,w8⟩
       obtain ⟨o,e,d⟩:=T.obj _ _ st7 b hb
       exact (I8.pin (b,o) (List.mem_append_right _ (List.mem_append_right _ (zu5 hb e)))).2.1
     have eE:X'.env=compEnvC scope cl C X.env:=by subst hX';rfl
     have eP:X'.prog=X.prog:=by subst hX';rfl
     have eW:X'.w=X.w:=by subst hX';rfl
     have eX:X'.xe=fun _ _=>False:=by subst hX';rfl
     have hg':PG X' tg g:=by subst hX';exact hg _ _ _ _ _
     have hif':PIfs X' ifs tif:=by subst hX';exact hif _ _ _ _ _
     have he':PE X' elt telt:=by subst hX';exact he _ _ _ _ _
     have a1:=hg' _ s7 σ5 H7 x u _ I7' r7 (step x H7 y7)
     rw[eE,eP,eW,eA,eX] at a1
     refine thn a1 fun _ s8 ⟨σ8,H8,I8,q8⟩=>?_
     have a2:=hif' _ s8 σ8 H8 _ I8 q8
     rw[eE,eP,eW,eA,eX] at a2
     refine thn a2 fun ok s9 ⟨H9,I9,q9⟩=>?_
     cases ok with
     | false=>exact again (pl:=[]) I9 q9
     | true =>
       have q9':zr3 s2.heap.objs.size telt N σ8 H9:=q9
       have a3:=he' _ s9 σ8 H9 _ I9 q9'
       rw[eE,eP,eW,eA,eX] at a3
       show wpAny _ _ _ _ _ _
       refine thn a3 fun y s10 ⟨v,H10,I10,r10,acc,hD,hl,n10⟩=>?_
       obtain ⟨hz,its,k,rv,hgD⟩:=I10.hok s2.heap.objs.size _ hD
       have hlen:=rv.length
       refine wpAny_list_append_plain (hsz:=by rw[List.size_toArray,<-hlen];exact Nat.le_of_lt hl) ⟨k,hgD⟩ fun h11 hl11 hs11=>?_
       obtain ⟨k',hk'⟩:=hl11
       have ep:(its.toArray.push y)=(its++[y]).toArray:=by simp
       rw[ep] at hk'
       have I11:Inv X' ([]++zC3 fp s7.heap) σ8 (upd H10 s2.heap.objs.size (.lst (acc++[v]))) { s10 with heap:=h11 } :=
         I10.write (x:=s2.heap.objs.size) (e:=s2.heap.objs.size) (t':=s10.toks) (by rw[hD];exact trivial) (.inl rfl) (fun b o hb e=>hs11.extBut b o hb e) ⟨_,hk'⟩ ⟨by rw[List.length_append];exact hl,its++[y],k',rv.append (.cons r10 .nil),hk'⟩
       exact again (pl:=[]) I11 n10
 exact codeAny_compStart_list loop (T.self _ 0 _ _ _ st4 loop)
theorem zL0 (hc:X.calm=true) (S:zg8 X.N X.env.scope scope N' ix) (hi:PI X tg iter wi)
   (hg:∀ cl C s0 H0 fp,PG (X.comp scope cl C N' s0 H0 fp) tg g) (hif:∀ cl C s0 H0 fp,PIfs (X.comp scope cl C N' s0 H0 fp) ifs tif) (he:∀ cl C s0 H0 fp,PE (X.comp scope cl C N' s0 H0 fp) elt telt)
   (hs:∀ x,foldedSetIterable iter X.env x=pure x:=by intro _;rfl):PE X (.ListComp elt [⟨tg,iter,ifs,0⟩] scope pos) (zU6 wi ix g tif telt):=by
 intro pins s σ H Q I h
 obtain ⟨cl,hcl,c1,c2⟩:=zF7 (scope:=scope) (env:=X.env) fun y hy hk=>I.ok.has y.1 (.inl (S.frees y hy hk))
 rw[eval_ListComp]
 refine wpAny_comprehension_free (use:=none) rfl hs hcl S.kind S.names (thn (hi pins s σ H _ I h) fun xv s1 h1=>thn h1 fun itv s2 h2=>?_)
 obtain ⟨it,fp,tn,J,H2,e,I2,T,st2,f2,body⟩:=h2
 subst e
 refine zF9 (RR:=fun acc C=>compPost (model X.prog X.w) X.A X.xe none (EP X pins σ Q) acc C) (Q:=Q) hc S c1 c2 hg hif he I2 T st2 f2 body ?_
 intro D C s3 s' H' m I' h1 h2 hm hf hok q
 obtain ⟨f0,f1,f2',f3,f4,f5⟩:=hf
 refine⟨m,hm,fun h' sb=>⟨.ref D,H',?_,rfl,q⟩⟩
 exact I'.turned (t':=s'.toks) (fun b o hb e=>sb.extBut b o hb e) f0 f1 f3 f4 f5
theorem zP6 {i:Nat} {y:Str} {py spos:Pos} (hc:X.calm=true) (S:zg8 X.N X.env.scope scope N' ix) (hi:PI X tg iter wi)
   (hg:∀ cl C s0 H0 fp,PG (X.comp scope cl C N' s0 H0 fp) tg g) (hif:∀ cl C s0 H0 fp,PIfs (X.comp scope cl C N' s0 H0 fp) ifs tif) (he:∀ cl C s0 H0 fp,PE (X.comp scope cl C N' s0 H0 fp) elt telt)
   (hN:X.N.Nodup) (hy:X.N[i]?=some y) (hx:X.env.scope.names.lookup y=some .local)
   (hsw:swapsWith (.ListComp elt [⟨tg,iter,ifs,0⟩] scope pos) (some (.Name y py)) spos.line X.env=pure true:=by rfl)
   (hs:∀ x,foldedSetIterable iter X.env x=pure x:=by intro _;rfl):PS X (.Assign [.Name y py] (.ListComp elt [⟨tg,iter,ifs,0⟩] scope pos) spos) (tAsg (zU6 wi ix g tif telt) (zl6 i)):=by
 intro pins s σ H D0 I h
 obtain ⟨cl,hcl,c1,c2⟩:=zF7 (scope:=scope) (env:=X.env) fun y hy hk=>I.ok.has y.1 (.inl (S.frees y hy hk))
 rw[exec_Assign_Name_used _ _ _ _ hsw]
 refine wpAny_bind (wpAny_standAt (wpAny_bind ?_))
 show wpAny _ _ (do let _ <-comprehension (.ListComp elt [⟨tg,iter,ifs,0⟩] scope pos) scope X.env _ (newList []) false (eval iter X.env) (some (assign (.Name y py) X.env))) _ _ s
 refine wpAny_bind (wpAny_mono (wpAny_comprehension_free (use:=some (assign (.Name y py) X.env)) (Q:=fun _ s'=>SP X pins D0 .next s') rfl hs hcl S.kind S.names
   (thn (hi pins s σ H _ I h) fun xv s1 h1=>thn h1 fun itv s2 h2=>?_)) (fun _ s' hq=>wpAny_pure (wpAny_pure hq)) fun _ _ e=>e)
 obtain ⟨it,fp,tn,J,H2,e,I2,T,st2,f2,body⟩:=h2
 subst e
 refine zF9 (RR:=fun acc C=>compPost (model X.prog X.w) X.A X.xe (some (assign (.Name y py) X.env)) (fun _ s'=>SP X pins D0 .next s') acc C) (Q:=fun v H1=>zl6 i v σ H1 D0.nx) hc S c1 c2 hg hif he I2 T st2 f2 body ?_
 intro D C s3 s' H' m I' h1 h2 hm hf hok q
 obtain ⟨f0,f1,f2',f3,f4,f5⟩:=hf
 show wpAny _ _ (assign (.Name y py) X.env (.ref D)) _ _ _
 refine wpAny_assign_Name (zH0 I' hN hy (.inl hx) (v:=.ref D) rfl (fun s4 I4 ⟨a,sb,ha⟩=>?_) (.inr hx))
 have hCa:C≠a:=by
   rcases ha with z | z
   . rw[z];exact f1
   . exact Ne.symm (f4 y a z)
 refine⟨m,hm.sameBut sb hCa,fun h' sb'=>⟨_,H',?_,q⟩⟩
 exact I4.turned (t':=s4.toks) (fun b o hb e=>sb'.extBut b o hb e) f0 f1 f3 f4 f5
end
end L2
/-! MORE RULES: count,isinstance,sum,a list unpacked,a tuple's methods -/
namespace L2
open PySem PySem.Spec PyProof.Rows
section
variable {X:Cx}
/-! ### count of ints -/
noncomputable def rCountL (K:PySem.W.Frag):V->List V->Hp->VK->Prop:=fun x vs H Q=>∃ (l:Addr) (ns:List Int) (k:Int),x = .ref l/\vs=[.int k]/\SqL K H l (ns.map V.int)/\Q (.int (ns.count k:Nat)) H
theorem mt_countL:MtR X "list.count" (rCountL X.K):=by
 intro pins s σ H x vs v us Q I rx rv h
 obtain ⟨l,ns,k,rfl,rfl,hS,q⟩:=h
 cases rx
 obtain ⟨u,rfl,t,rfl⟩:=rv.one
 obtain ⟨its,r,p,hz⟩:=I.list hS
 exact count_list_ints p.isList (zz1 r) ⟨.int (ns.count k:Nat),H,I.tok _,⟨_,rfl⟩,q⟩
noncomputable def zP7 (K:PySem.W.Frag):V->List V->Hp->VK->Prop:=fun x vs H Q=>∃ (l:Addr) (ns:List Int) (k:Int),x = .ref l/\vs=[.int k]/\SqT K H l (ns.map V.int)/\Q (.int (ns.count k:Nat)) H
theorem zx5:MtR X "tuple.count" (zP7 X.K):=by
 intro pins s σ H x vs v us Q I rx rv h
 obtain ⟨l,ns,k,rfl,rfl,hS,q⟩:=h
 cases rx
 obtain ⟨u,rfl,t,rfl⟩:=rv.one
 obtain ⟨its,r,⟨⟨cls,dd,data,sl⟩,ho,hc,n,hd⟩,hz⟩:=I.tuple hS
 simp only at hc hd
 subst hc hd
 have hi:=zz1 r
 refine call_meets PySem.F.slot_tuple_count ⟨_,ho,rfl⟩ PySem.F.entry_tuple_count (PySem.F.args_tuple_count_2 _ _) (SeqAt.tuple_countAt l its.toArray n dd sl (.int k t) (isInt k)) ⟨ho,fun y hy=>(eq_isInt k t hi y (by simpa using hy)).at _ _,?_⟩
 rw[show its.toArray.toList=its from rfl,countP_isInt k hi]
 exact⟨.int (ns.count k:Nat),H,I.tok _,⟨_,rfl⟩,q⟩
noncomputable def tTM (r:V->List V->Hp->VK->Prop) (to:TE) (t:TA):TE:=fun σ H Q=>to σ H fun x H1=>(∃ p ys,x = .ref p/\H1 p=some (.tup ys))/\t σ H1 fun xs H2=>r x xs H2 Q
variable {o e:Expr} {es:List Expr} {to:TE} {t:TA} {name:Str} {apos cpos:Pos} {id:String} {r:V->List V->Hp->VK->Prop}
theorem zP8 (slot:Slot "tuple" name id) (hty:typeOf (.builtin id)=pure (.type "method_descriptor")) (hm:MtR X id r) (ho:PE X o to) (ha:PA X (e::es) t)
   (hbase:attributeBase o name X.env (eval o X.env)=eval o X.env:=by rfl)
   (hfew:((backTo cpos (starEach (e::es) X.env)).all (fun x=>!x.1) && (backToKw cpos (keywordEach [] X.env)).all (fun x=>x.1.isSome)
     && decide ((e::es).length+([]:List Keyword).length+(if ([]:List Keyword).isEmpty then 0 else 1)<30))=true:=by rfl)
   (hline:(apos.endLine == cpos.line)=true:=by rfl) (hs:starEach (e::es) X.env=(false,eval e X.env)::starEach es X.env:=by rfl) (hplain:(backTo cpos (starEach es X.env)).any (·.1)=false:=by rfl) :
   PE X (.Call (.Attribute o name apos) (e::es) [] cpos) (tTM r to t):=by
 intro pins s σ H Q I h
 refine wpAny_Call_method_late hbase hfew hline rfl (thn (ho pins s σ H _ I h) fun v s1 ⟨x,H1,I1,r1,⟨p,ys,ex,hp⟩,q1⟩=>?_)
 subst ex
 cases r1
 obtain ⟨_,its,_,ob,eo,ec,ed,_⟩:=I1.hok p _ hp
 refine⟨"tuple",id,PySem.F.plainAttrs_tuple,slot,hty,⟨ob,eo,ec⟩,fun a ea=>by cases ea;exact⟨ob,eo,ed⟩,?_⟩
 have hA:=ha cpos pins s1 σ H1 _ I1 q1
 rw[hs] at hA ⊢
 refine Calls.callWith_builtin (by show (false || (backTo cpos (starEach es X.env)).any (·.1))=false;rw[hplain]<;>rfl) (Calls.evalArgs_plain ?_)
 exact thn hA fun us s2 ⟨vs,H2,I2,r2,q2⟩=>hm pins s2 σ H2 (.ref p) vs _ us Q I2 rfl r2 q2
/-! ### isinstance -/
inductive ClsV:V->Value->Prop where
 | ty (n:String):ClsV (.ty n) (.type n)
 | own (C:Addr):ClsV (.ref C) (.ref C)
noncomputable def rIsi (K:PySem.W.Frag):List V->Hp->VK->Prop:=fun xs H Q=>∃ x cv t c b,xs=[x,cv]/\ClsV cv c/\TyOf K H x t/\PySem.W.kitOne K t c=some b/\Q (.bl b) H
theorem zq0:zs7 X (.builtin "isinstance") (rIsi X.K):=by
 intro pins s σ H xs us Q I r h
 obtain ⟨x,cv,t,c,b,rfl,hc,ty,e,q⟩:=h
 obtain ⟨u,w',rfl,ru,rw'⟩:=zH2 r
 have ew:w'=c:=by
   cases hc with
   | ty n=>exact rw'
   | own C=>exact rw'
 subst ew
 exact isinst_ok I ru ty e fun tk=>⟨.bl b,H,I.tok tk,rfl,q⟩
/-! ### a list unpacked -/
theorem zI2 {prog:Program} {w:World} {A:Around} {E:Value->Shared->Prop} {it t:Addr} {items:Array Value} (hne:t≠it):∀ (n i:Nat) (s:Shared) (Q:List Value->Shared->Prop),s.heap.IsListIter it t i->s.heap.IsList t items->i+n<=items.size →
   (∀ h',h'.IsListIter it t (i+n)->Heap.SameBut it s.heap h'->Q ((items.toList.drop i).take n) { s with heap:=h' })->wpAny (model prog w) A (draw (.ref it) n) Q E s
 | 0,i,s,Q,hit,_,_,hQ=>by
   show wpAny _ _ (pure []) Q E s
   exact wpAny_pure (by simpa using hQ s.heap hit (Heap.SameBut.refl ..))
 | n+1,i,s,Q,hit,ht,hle,hQ=>by
   have hlt:i<items.size:=by omega
   show wpAny _ _ (pyNext (.ref it) >>= _) Q E s
   refine wpAny_bind (wpAny_pyNext_list_item hit ht (x:=items[i]) (by simp[hlt]) fun h1 hit1 hs1=>?_)
   refine wpAny_bind (wpAny_holding (zI2 hne n (i+1) _ _ hit1 (ht.extBut hs1.extBut hne) (by omega) fun h2 hit2 hs2=>wpAny_pure ?_))
   have hd:items.toList.drop i=items[i]::items.toList.drop (i+1):=by simp[List.drop_eq_getElem_cons,hlt]
   have:=hQ h2 (by rw[show i+(n+1)=i+1+n by omega];exact hit2) (hs1.trans hs2)
   rw[hd,List.take_succ_cons] at this
   exact this
theorem unpackItems_list {prog:Program} {w:World} {A:Around} {E:Value->Shared->Prop} {s:Shared} {t:Addr} {items:Array Value} {Q:List Value->Shared->Prop} (hh:A.handled=none) (ht:s.heap.IsList t items)
   (hQ:∀ h',Heap.ExtBut s.heap.objs.size s.heap h'->Q items.toList { s with heap:=h' }):wpAny (model prog w) A (unpackItems (.ref t) items.size none) Q E s:=by
 have hlt:t≠s.heap.objs.size:=by obtain ⟨o,ho,_⟩:=ht;exact Nat.ne_of_lt (Heap.lt_size ho)
 unfold unpackItems
 refine wpAny_bind ?_
 . unfold notIterableAtAll
   refine wpAny_bind (wpAny_specialOf ht.typeIs slot_list_iter.lookup ?_)
   refine wpAny_pure ?_
   simp only[Bool.false_eq_true,if_false]
   refine wpAny_bind (wpAny_holding (wpAny_pyIter_list ht ?_))
   refine wpAny_bind (wpAny_holding (zI2 hlt items.size 0 _ _ ⟨_,Heap.get?_push_size _ rfl,rfl,rfl⟩ (ht.push _) (by omega) fun h1 hit1 hs1=>?_))
   have hall:List.take items.size (List.drop 0 items.toList)=items.toList:=by
     rw[List.drop_zero];exact List.take_of_length_le (by simp)
   rw[hall]
   rw[if_neg (by simp)]
   have ht1:h1.IsList t items:=(ht.push _).extBut hs1.extBut hlt
   refine wpAny_bind (wpAny_holding (wpAny_pyNext_list_end hh hit1 ht1 (by simp) fun h2 he2=>?_))
   simp only[Option.isSome_none,Bool.false_eq_true,if_false]
   refine wpAny_pure (hQ h2 fun b o hb e=>he2 b o hb (hs1.extBut b o hb (Heap.get?_push_of_some _ e)))
noncomputable def gLst (K:PySem.W.Frag) (n:Nat) (t:TGs):TG:=fun v σ H Q=>∃ a xs,v = .ref a/\SqL K H a xs/\xs.length=n/\t xs σ H Q
theorem zv5 {es:List Expr} {k:Nat} {t:TGs} {n:Nat} {pos:Pos} (hc:X.calm=true) (h:PGs X es t)
   (hn:(assignEach es X.env).length=n:=by rfl) (hst:(assignEach es X.env).findIdx? (·.1)=none:=by rfl):PG X (.Tuple es k pos) (gLst X.K n t):=by
 intro pins s σ H v u Q I r hw
 obtain ⟨a,xs,e1,hq,hl,hw⟩:=hw
 subst e1
 cases r
 obtain ⟨its,rv,ht,hz⟩:=I.list hq
 have hln:=rv.length
 rw[assign_Tuple]
 refine wpAny_bind (wpAny_standAt ?_)
 unfold unpack
 have esz:(assignEach es X.env).length=its.toArray.size:=by rw[hn,<-hl,hln,List.size_toArray]
 rw[esz,hst]
 refine wpAny_bind (wpAny_holding (unpackItems_list (I.ok.hd hc) ht.isList fun h' hx=>?_))
 have I1:Inv X pins σ H { s with heap:=h' }:=I.kept (t':=s.toks) fun b o e=>hx b o (Nat.ne_of_lt (Heap.lt_size e)) e
 exact h pins _ σ H xs _ Q I1 (by simpa using rv) hw
/-! ### sum of a list of ints -/
theorem zy5:∀ {us:List Value} {ns:List Int},IntsAre us ns->∃ ps:List (Int×Tok),us=ps.map (fun p=>Value.int p.1 p.2)/\ps.map (·.1)=ns
 | _,_,.nil=>⟨[],rfl,rfl⟩
 | _,_,.cons n t h=>by
   obtain ⟨ps,e1,e2⟩:=zy5 h
   exact⟨(n,t)::ps,by rw[List.map_cons,e1],by rw[List.map_cons,e2]⟩
/-! ### a list or a tuple walked -/
noncomputable def iSeq (K:PySem.W.Frag) (tl:TE):TI:=fun σ H R=>tl σ H fun x H1=>∃ a,x = .ref a/\(((∃ xs,SqL K H1 a xs)/\R (Itl K a) H1)\/((∃ xs,SqT K H1 a xs)/\R (Itt K a) H1))
theorem pi_seq {tg l:Expr} {tl:TE} (hl:PE X l tl):PI X tg l (iSeq X.K tl):=by
 intro pins s σ H R I h
 refine thn (hl pins s σ H _ I h) fun v s1 ⟨x,H1,I1,r1,q1⟩=>?_
 obtain ⟨a,e,q⟩:=q1
 subst e
 cases r1
 rcases q with ⟨⟨xs,hq⟩,q⟩ | ⟨⟨xs,hq⟩,q⟩
 . obtain ⟨its,rv,p,hz⟩:=I1.list hq
   refine wpAny_pyIter_list p.isList ?_
   refine⟨s1.heap.objs.size,[s1.heap.objs.size],_,_,H1,rfl,I1.kept (t':=s1.toks) fun b o e=>Heap.get?_push_of_some _ e,zH1 a _,⟨_,Heap.get?_push_size _ rfl,rfl,rfl⟩,fun b hb=>?_,q⟩
   have e:b=s1.heap.objs.size:=by simpa using hb
   subst e
   exact I1.fpOk (Nat.le_refl _) (I1.hok.fresh (Nat.le_refl _))
 . obtain ⟨its,rv,p,hz⟩:=I1.tuple hq
   refine wpAny_pyIter_tuple (show s1.heap.IsTuple a its.toArray from p) ?_
   refine⟨s1.heap.objs.size,[s1.heap.objs.size],_,_,H1,rfl,I1.kept (t':=s1.toks) fun b o e=>Heap.get?_push_of_some _ e,zF3 a _,⟨_,Heap.get?_push_size _ rfl,rfl,rfl⟩,fun b hb=>?_,q⟩
   have e:b=s1.heap.objs.size:=by simpa using hb
   subst e
   exact I1.fpOk (Nat.le_refl _) (I1.hok.fresh (Nat.le_refl _))
/-! ### the text by places -/
noncomputable def stE:Stmt->Expr
 | .Assign _ v _=>v
 | .Return (some v) _=>v
 | .Expr v _=>v
 | _=>.Constant .none 0 ⟨0,0,0,0⟩
noncomputable def zU7 (e:Expr) (j:Nat):Expr:=match e with
 | .Call _ as _ _=>as.getD j (.Constant .none 0 ⟨0,0,0,0⟩)
 | _=>.Constant .none 0 ⟨0,0,0,0⟩
noncomputable def zA1:Expr->Scope
 | .ListComp _ _ sc _=>sc
 | _=>{ kind:=.function,names:=[],isGenerator:=false,isCoroutine:=false }
noncomputable def stAt (l:List Stmt) (i:Nat):Stmt:=l.getD i (.Pass ⟨0,0,0,0⟩)
end
end L2
/-! SMALL WORDS for readings -/
namespace L2
open PySem PySem.Spec PyProof.Rows
theorem iteB {c:Bool} {A B:Prop} (e:c=false) (h:B):if c=true then A else B:=by
 subst e;exact iteF h
theorem iteA {c:Bool} {A B:Prop} (e:c=true) (h:A):if c=true then A else B:=by
 subst e;exact iteT h
theorem zv6 {a lo hi:Int} (h1:lo<=a) (h2:a<=hi):(decide (a<lo) || decide (hi<a))=false:=by
 rw[decide_eq_false (by omega),decide_eq_false (by omega)];rfl
theorem zL1 {a b:Int} (h:b<=a):decide (a<b)=false:=decide_eq_false (by omega)
theorem fl0 {f:Str} {v:V}:(putF f v []).length<=1:=zn2 f v []
theorem flS {f:Str} {v:V} {fs:List (Str×V)} {k:Nat} (h:fs.length<=k):(putF f v fs).length<=k+1:=Nat.le_trans (zn2 f v fs) (Nat.succ_le_succ h)
theorem zv7 {fs:List (Str×V)} {k:Nat} (h:fs.length<=k) (hk:k<1000:=by decide):fs.length<1000:=Nat.lt_of_le_of_lt h hk
noncomputable def zt0 (p:Addr) (H H':Hp):Prop:=∀ b o,H b=some o->b≠p->H' b=some o
theorem Same.upd {H:Hp} {l:Addr} {o:HO} (h:H l=none):Same H (upd H l o):=fun b u e=>by
 rw[za7 (zb0 e h)];exact e
theorem Same.updT {H H1:Hp} {l:Addr} {o:HO} (s:Same H H1) (h:H1 l=none):Same H (L2.upd H1 l o):=s.trans (Same.upd h)
theorem Same.put {H H1:Hp} {l:Addr} {o:HO} (s:Same H H1) (h:H l=none):Same H (L2.upd H1 l o):=fun b u e=>by
 rw[za7 (zb0 e h)];exact s b u e
theorem upd_id {H:Hp} {m:Addr} {o:HO} (h:H m=some o):L2.upd H m o=H:=by
 funext b
 by_cases hb:b=m
 . subst hb;rw[za2,h]
 . rw[za7 hb]
/-! ### rules whose reading names the written part: for a comprehension's block -/
theorem mt_countTK {X:Cx} (K:PySem.W.Frag) (h:X.K=K):MtR X "tuple.count" (zP7 K):=h▸zx5
theorem zP9 {X:Cx} (K:PySem.W.Frag) (h:X.K=K):IxR X (rIxT K):=h▸zh6
/-! ### ints in a list -/
theorem zv8 {xs:List Int} {i:Nat} {v:V} (h:(xs.map V.int)[i]?=some v):∃ z,v = .int z/\xs[i]?=some z:=by
 rw[List.getElem?_map] at h
 cases e:xs[i]? with
 | none=>rw[e] at h;cases h
 | some z=>rw[e] at h;exact⟨z,(Option.some.inj h).symm,rfl⟩
theorem zE6 {xs:List Int} {j:Nat} {z:Int} (h:xs[j]?=some z):atI (xs.map V.int) (j:Int)=some (V.int z):=zz7 (by rw[List.getElem?_map,h];rfl)
theorem zf1 {xs:List Int} {i:Int} (h0:0<=i) (h1:i<xs.length):atI (xs.map V.int) i=some (.int (xs.getD i.toNat 0)):=by
 obtain ⟨j,rfl⟩:∃ j:Nat,i=j:=⟨i.toNat,by omega⟩
 have hj:j<xs.length:=by omega
 rw[zE6 (z:=xs[j]) (by simp[hj])]
 simp[hj]
theorem ze7 {a b:Int}:decide (V.int a=V.int b)=decide (a=b):=by
 by_cases h:a=b
 . subst h;simp
 . rw[decide_eq_false h,decide_eq_false];intro e;cases e;exact h rfl
/-! ### comprehensions that map -/
theorem comp_map {J:It} {H1:Hp} {D:Addr} {n:Nat} {x:Nat->V} {f:Nat->V} {j:Nat} {σc:St} {telt:TE} {Q:Hp->Prop} (hn:n<=sizeLine)
   (go:∀ i acc,i<n->J.go i (upd H1 D (.lst acc))) (st:∀ acc,J.stop n (upd H1 D (.lst acc))) (yl:∀ i acc v H',i<n->J.yld i (upd H1 D (.lst acc)) v H'->H'=upd H1 D (.lst acc)/\v=x i)
   (el:∀ i acc R,i<n->R (f i) (upd H1 D (.lst acc))->telt (σc.set j (some (x i))) (upd H1 D (.lst acc)) R) (q:Q (upd H1 D (.lst ((List.range n).map f)))) :
   ∃ W:Nat->Nat->St->Hp->Prop,(∃ m,W 0 m σc (upd H1 D (.lst []))) ∧
     ∀ i m σ' H',W i m σ' H'->(J.stop i H'/\Q H')\/(J.go i H'/\∃ N:St->Hp->Prop,(∀ σ2 H2,N σ2 H2->∃ m',m'<m/\W (i+1) m' σ2 H2) ∧
       ∀ v H2,J.yld i H' v H2->zl6 j v σ' H2 fun σ3 H3=>zI1 σ3 H3 fun b H4=>if b=true then zr3 D telt N σ3 H4 else N σ3 H4):=by
 refine⟨fun i m σ' H'=>m=n-i/\i<=n/\(∀ v,σ'.set j (some v)=σc.set j (some v))/\H'=upd H1 D (.lst ((List.range i).map f)),⟨n,by simp,Nat.zero_le _,fun _=>rfl,rfl⟩,?_⟩
 rintro i m σ' H' ⟨rfl,hi,hσ,rfl⟩
 by_cases hlt:i<n
 . refine .inr ⟨go i _ hlt,fun σ2 H2=>(∀ v,σ2.set j (some v)=σc.set j (some v))/\H2=upd H1 D (.lst ((List.range (i+1)).map f)),fun σ2 H2 ⟨h1,h2⟩=>⟨n-(i+1),by omega,rfl,hlt,h1,h2⟩,fun v H2 y=>?_⟩
   obtain ⟨rfl,rfl⟩:=yl i _ v H2 hlt y
   dsimp only[zl6,zI1]
   refine iteT ?_
   dsimp only[zr3]
   rw[hσ]
   refine el i _ _ hlt ⟨_,za2,?_,?_,?_⟩
   . rw[List.length_map,List.length_range];omega
   . intro v;simp
   . rw[zk7,List.range_succ,List.map_append];rfl
 . have e:i=n:=by omega
   subst e
   exact .inl ⟨st _,q⟩
theorem zL2 {K:PySem.W.Frag} {H:Hp} {a D:Addr} {xs:List V} {o:HO} (h:SqL K H a xs) (n:H D=none):SqL K (upd H D o) a xs:=(Same.upd n).seq h
theorem map_range_get {α β:Type} (xs:List α) (d:α) (f:α->β):(List.range xs.length).map (fun i=>f (xs.getD i d))=xs.map f:=by
 apply List.ext_getElem
 . simp
 . intro i h1 h2
   simp at h1 h2
   simp[h1]
theorem comp_list {K:PySem.W.Frag} {H1:Hp} {a D:Addr} {xs:List V} {f:V->V} {j:Nat} {σc:St} {telt:TE} {Q:Hp->Prop} (h:SqL K H1 a xs) (hD:H1 D=none) (hn:xs.length<=sizeLine)
   (el:∀ x acc R,x∈xs->R (f x) (upd H1 D (.lst acc))->telt (σc.set j (some x)) (upd H1 D (.lst acc)) R) (q:Q (upd H1 D (.lst (xs.map f)))) :
   ∃ W:Nat->Nat->St->Hp->Prop,(∃ m,W 0 m σc (upd H1 D (.lst []))) ∧
     ∀ i m σ' H',W i m σ' H'->((Itl K a).stop i H'/\Q H')\/((Itl K a).go i H'/\∃ N:St->Hp->Prop,(∀ σ2 H2,N σ2 H2->∃ m',m'<m/\W (i+1) m' σ2 H2) ∧
       ∀ v H2,(Itl K a).yld i H' v H2->zl6 j v σ' H2 fun σ3 H3=>zI1 σ3 H3 fun b H4=>if b=true then zr3 D telt N σ3 H4 else N σ3 H4):=by
 refine comp_map (J:=Itl K a) (n:=xs.length) (x:=fun i=>xs.getD i .non) (f:=fun i=>f (xs.getD i .non)) hn (fun i acc hi=>⟨xs,xs[i],zL2 h hD,by simp[hi]⟩) (fun acc=>⟨xs,zL2 h hD,Nat.le_refl _⟩) (fun i acc v H' hi y=>?_) (fun i acc R hi r=>?_) ?_
 . obtain ⟨e,y⟩:=y
   have:=y xs (zL2 h hD)
   exact⟨e,by rw[List.getD_eq_getElem?_getD,this];rfl⟩
 . refine el _ acc R ?_ r
   rw[List.getD_eq_getElem?_getD,List.getElem?_eq_getElem hi]
   exact List.getElem_mem hi
 . rw[map_range_get];exact q
end L2
/-! ZIP of two tuples,SUM of a list of ints -/
namespace L2
open PySem PySem.Spec PyProof.Rows
section
variable {prog:Program} {w:World} {A:Around} {E:Value->Shared->Prop} {s:Shared}
theorem zG0 {it l:Addr} {i:Nat} {its:Array Value} {x:Value} {Q:Value->Shared->Prop} (hit:s.heap.IsTupleIter it l i) (hl:s.heap.IsTuple l its) (hx:its[i]?=some x)
   (hQ:∀ h',h'.IsTupleIter it l (i+1)->Heap.SameBut it s.heap h'->Q x { s with heap:=h' }):wpAny (model prog w) A (Builtin.SmallTypes.nextOf (.ref it)) Q E s:=by
 obtain ⟨oi,hoi,hci,hdi⟩:=id hit
 obtain ⟨os,hos,_,ns,hds⟩:=hl
 unfold Builtin.SmallTypes.nextOf
 refine wpAny_bind (wpAny_callSpecial?_slot (name:=Str.ofString "__next__") hit.typeIs F.slot_tuple_iterator_next (wpAny_call_entry F.slot_tuple_iterator_next hit.typeIs F.entry_tuple_iterator_next ?_ (F.args_tuple_iterator_next_1 _)))
 show wpAny _ _ (field (.ref it) 0 >>= _) _ _ s
 refine wpAny_bind (wpAny_field hoi hdi (x:=.ref l) rfl ?_);show wpAny _ _ (if (Value.ref l == Value.none)=true then _ else _) _ _ s
 rw[if_neg (show ¬ ((Value.ref l == Value.none)=true) from Bool.false_ne_true)];show wpAny _ _ (field (.ref it) 1 >>= _) _ _ s
 refine wpAny_bind (wpAny_field hoi hdi (x:=.int i 0) rfl ?_);show wpAny _ _ (seqItems? (.ref l) >>= _) _ _ s
 refine wpAny_bind (wpAny_seqItems hos hds ?_);simp only[Int.toNat_natCast,hx]
 refine wpAny_bind (wpAny_setField hoi hdi (by simp) (wpAny_pure ⟨x,rfl,wpAny_pure (hQ _ ?_ (Heap.SameBut.update ..))⟩))
 refine⟨_,Heap.get?_update_self _ hoi (Obj.isFreed_of_fields (Obj.data_mapFields hdi _)),(Obj.cls_mapFields ..).trans hci,?_⟩;rw[Obj.data_mapFields hdi];simp[rawInt]
theorem nextOf_tup_end {it l:Addr} {i:Nat} {its:Array Value} {Q:Value->Shared->Prop} (hh:A.handled=none) (hit:s.heap.IsTupleIter it l i) (hl:s.heap.IsTuple l its) (hx:its[i]?=none)
   (hE:∀ h' e,Heap.ExtBut it s.heap h'->(∃ o,h'.get? e=some o/\o.cls = .type "StopIteration")->E (.ref e) { s with heap:=h' }):wpAny (model prog w) A (Builtin.SmallTypes.nextOf (.ref it)) Q E s:=by
 obtain ⟨oi,hoi,hci,hdi⟩:=id hit
 obtain ⟨os,hos,_,ns,hds⟩:=hl
 unfold Builtin.SmallTypes.nextOf
 refine wpAny_bind (wpAny_callSpecial?_slot (name:=Str.ofString "__next__") hit.typeIs F.slot_tuple_iterator_next (wpAny_call_entry F.slot_tuple_iterator_next hit.typeIs F.entry_tuple_iterator_next ?_ (F.args_tuple_iterator_next_1 _)))
 show wpAny _ _ (field (.ref it) 0 >>= _) _ _ s
 refine wpAny_bind (wpAny_field hoi hdi (x:=.ref l) rfl ?_);show wpAny _ _ (if (Value.ref l == Value.none)=true then _ else _) _ _ s
 rw[if_neg (show ¬ ((Value.ref l == Value.none)=true) from Bool.false_ne_true)];show wpAny _ _ (field (.ref it) 1 >>= _) _ _ s
 refine wpAny_bind (wpAny_field hoi hdi (x:=.int i 0) rfl ?_);show wpAny _ _ (seqItems? (.ref l) >>= _) _ _ s
 refine wpAny_bind (wpAny_seqItems hos hds ?_);simp only[Int.toNat_natCast,hx]
 refine wpAny_bind (wpAny_rule (wpAny_bind (wpAny_setField hoi hdi (by simp) ?_)));show wpAny _ _ (newExc (.type "StopIteration") [] >>= _) _ _ _
 refine wpAny_bind ?_;simp only[newExc,newTuple]
 refine wpAny_bind (wpAny_newObj_type ?_ (by size_fits))
 refine wpAny_bind (m:=firstArgMember _ _) (wpAny_of_eq (a:=Value.none) (by first | rfl | (simp only[firstArgMember];rfl)) ?_)
 refine wpAny_newObj_type ?_ (by size_fits);simp only[raiseNew]
 refine wpAny_bind (wpAny_handled ?_);first | rw[show A.in1.handled=none from hh] | rw[hh]
 refine wpAny_bind (wpAny_pure (wpAny_throw ?_))
 exact hE _ _ (((Heap.SameBut.update ..).extBut.push _).push _) ⟨_,Heap.get?_push_size _ rfl,rfl⟩
structure zz2 (z TI TO i1 i2:Addr):Prop where
 TIz:TI≠z
 TOz:TO≠z
 i1z:i1≠z
 i2z:i2≠z
 TITO:TI≠TO
 TIi1:TI≠i1
 TIi2:TI≠i2
 TOi1:TO≠i1
 TOi2:TO≠i2
 i12:i1≠i2
structure ZAt (h:Heap) (z TI TO i1 i2 l1 l2:Addr) (f0:Value) (i:Nat):Prop where
 hz:IsZip h z TI TO f0
 hTI:IsPair h TI (.ref i1) (.ref i2)
 hTO:∃ a b,IsPair h TO a b
 h1:h.IsTupleIter i1 l1 i
 h2:h.IsTupleIter i2 l2 i
theorem zip_item {z TI TO i1 i2 l1 l2:Addr} {k:Nat} {xs ys:Array Value} {x y:Value} {Q:Option Value->Shared->Prop} (D:zz2 z TI TO i1 i2) (L:∀ l,l=l1\/l=l2->l≠z/\l≠TO/\l≠i1/\l≠i2) (Z:ZAt s.heap z TI TO i1 i2 l1 l2 .none k)
   (hl1:s.heap.IsTuple l1 xs) (hl2:s.heap.IsTuple l2 ys) (hx:xs[k]?=some x) (hy:ys[k]?=some y)
   (hQ:∀ h',ZAt h' z TI TO i1 i2 l1 l2 (rawInt s.heap.objs.size) (k+1)->IsPair h' s.heap.objs.size x y →
     (∀ c o,c≠z->c≠TO->c≠i1->c≠i2->s.heap.get? c=some o->h'.get? c=some o)->Q (some (.ref s.heap.objs.size)) { s with heap:=h' }) :
   wpAny (model prog w) A (pyNext (.ref z)) Q E s:=by
 obtain ⟨hz,hTI,⟨a,b,hTO⟩,h1,h2⟩:=Z
 obtain ⟨l1z,l1TO,l1i1,l1i2⟩:=L l1 (.inl rfl)
 obtain ⟨l2z,l2TO,l2i1,l2i2⟩:=L l2 (.inr rfl)
 have hT:s.TypeIs (.ref z) "zip":=⟨_,hz,rfl⟩
 unfold pyNext
 refine wpAny_bind (wpAny_attempt (wpAny_callSpecial?_slot (name:=Str.ofString "__next__") hT F.slot_zip_next (wpAny_call_entry F.slot_zip_next hT F.entry_zip_next ?_ (F.args_zip_next_1 _))))
 show wpAny _ _ (field (.ref z) 2 >>= _) _ _ _
 refine wpAny_bind (wpAny_field hz rfl (x:=.bool false) rfl ?_);show wpAny _ _ (field (.ref z) 3 >>= _) _ _ _
 refine wpAny_bind (wpAny_field hz rfl (x:=.ref TI) rfl ?_)
 refine wpAny_bind (wpAny_seqItems hTI rfl ?_);show wpAny _ _ (Builtin.SmallTypes.ownedTupleIsFree (.ref z) >>= _) _ _ _
 refine wpAny_bind ?_;unfold Builtin.SmallTypes.ownedTupleIsFree
 refine wpAny_bind (wpAny_field hz rfl (x:=.none) rfl (wpAny_pure ?_));simp only[if_true]
 refine wpAny_bind (wpAny_rule (wpAny_bind (wpAny_field hz rfl (x:=.ref TO) rfl ?_)))
 refine wpAny_bind (wpAny_setField_rec hz (by simp) fun g1 z1 e1=>?_)
 replace z1:IsZip g1 z TI TO .ellipsis:=z1
 refine wpAny_bind ?_;simp only[List.zipIdx_cons,List.zipIdx_nil,List.forIn_cons,List.forIn_nil]
 refine wpAny_bind (wpAny_bind (wpAny_onRaise ?_));show wpAny _ _ (Builtin.SmallTypes.nextOf (.ref i1) >>= _) _ _ _
 refine wpAny_bind (zG0 (h1.extBut e1.extBut D.i1z) (hl1.extBut e1.extBut l1z) hx fun g2 j1 e2=>wpAny_pure ?_)
 have t2:IsPair g2 TO a b:=e2.extBut _ _ D.TOi1 (e1.extBut _ _ D.TOz hTO)
 refine wpAny_bind (wpAny_seqItems t2 rfl (wpAny_bind (wpAny_updateSeq_pair t2 fun g3 t3 e3=>?_)))
 replace t3:IsPair g3 TO x b:=t3
 refine wpAny_bind (wpAny_letGo (wpAny_pure ?_))
 refine wpAny_bind (wpAny_bind (wpAny_onRaise ?_));show wpAny _ _ (Builtin.SmallTypes.nextOf (.ref i2) >>= _) _ _ _
 refine wpAny_bind (zG0 (((h2.extBut e1.extBut D.i2z).extBut e2.extBut D.i12.symm).extBut e3.extBut D.TOi2.symm) (((hl2.extBut e1.extBut l2z).extBut e2.extBut l2i1).extBut e3.extBut l2TO) hy fun g4 j2 e4=>wpAny_pure ?_)
 have t4:IsPair g4 TO x b:=e4.extBut _ _ D.TOi2 t3
 refine wpAny_bind (wpAny_seqItems t4 rfl (wpAny_bind (wpAny_updateSeq_pair t4 fun g5 t5 e5=>?_)))
 replace t5:IsPair g5 TO x y:=t5
 refine wpAny_bind (wpAny_letGo (wpAny_pure (wpAny_pure ?_)))
 refine wpAny_bind (wpAny_seqItems t5 rfl (wpAny_bind (wpAny_newTuple ?_)))
 have sz:g5.objs.size=s.heap.objs.size:=by rw[e5.1,e4.1,e3.1,e2.1,e1.1]
 have z5:IsZip g5 z TI TO .ellipsis:=e5.extBut _ _ D.TOz.symm (e4.extBut _ _ D.i2z.symm (e3.extBut _ _ D.TOz.symm (e2.extBut _ _ D.i1z.symm z1)))
 have k5:∀ c o,c≠z->c≠TO->c≠i1->c≠i2->s.heap.get? c=some o->g5.get? c=some o:=fun c o c1 c2 c3 c4 e=>e5.extBut _ _ c2 (e4.extBut _ _ c4 (e3.extBut _ _ c2 (e2.extBut _ _ c3 (e1.extBut _ _ c1 e))))
 have m1:g5.IsTupleIter i1 l1 (k+1):=((j1.extBut e3.extBut D.TOi1.symm).extBut e4.extBut D.i12).extBut e5.extBut D.TOi1.symm
 have m2:g5.IsTupleIter i2 l2 (k+1):=j2.extBut e5.extBut D.TOi2.symm
 have zl:z<g5.objs.size:=Heap.lt_size z5
 show wpAny _ _ (Builtin.SmallTypes.ownedTupleHandOut (.ref z) (.ref g5.objs.size) >>= _) _ _ _
 refine wpAny_bind ?_;unfold Builtin.SmallTypes.ownedTupleHandOut
 have z6:IsZip (g5.push { cls:=.type "tuple",data:=.seq #[x,y] }) z TI TO .ellipsis:=Heap.get?_push_of_some _ z5
 refine wpAny_bind (wpAny_setField_rec z6 (by simp) fun g7 z7 e7=>?_)
 replace z7:IsZip g7 z TI TO (rawInt g5.objs.size):=z7
 refine wpAny_setField_rec z7 (by simp) fun g8 z8 e8=>?_
 replace z8:IsZip g8 z TI TO (rawInt g5.objs.size):=z8
 have up:∀ c o,c≠z->g5.get? c=some o->g8.get? c=some o:=fun c o c1 e=>e8.extBut _ _ c1 (e7.extBut _ _ c1 (Heap.get?_push_of_some _ e))
 have t8:IsPair g8 g5.objs.size x y:=e8.extBut _ _ (Nat.ne_of_gt zl) (e7.extBut _ _ (Nat.ne_of_gt zl) (Heap.get?_push_size _ rfl))
 rw[sz] at z8 t8
 refine wpAny_pure ⟨_,rfl,wpAny_pure ?_⟩
 show Q (some (.ref g5.objs.size)) _
 rw[sz]
 have at1:∀ {it l:Addr} {i:Nat},g5.IsTupleIter it l i->it≠z->g8.IsTupleIter it l i:=fun q ne=>let ⟨o,ho,r⟩:=q;⟨o,up _ o ne ho,r⟩
 exact hQ g8 ⟨z8,up _ _ D.TIz (k5 _ _ D.TIz D.TITO D.TIi1 D.TIi2 hTI),⟨x,y,up _ _ D.TOz t5⟩,at1 m1 D.i1z,at1 m2 D.i2z⟩ t8 fun c o c1 c2 c3 c4 e=>up c o c1 (k5 c o c1 c2 c3 c4 e)
theorem zip_end {z TI TO i1 i2 l1 l2:Addr} {k:Nat} {xs:Array Value} {Q:Option Value->Shared->Prop} (hh:A.handled=none) (D:zz2 z TI TO i1 i2) (L:l1≠z) (Z:ZAt s.heap z TI TO i1 i2 l1 l2 .none k)
   (hl1:s.heap.IsTuple l1 xs) (hx:xs[k]?=none)
   (hQ:∀ h',(∀ c o,c≠z->c≠TO->c≠i1->c≠i2->s.heap.get? c=some o->h'.get? c=some o)->Q none { s with heap:=h' }):wpAny (model prog w) A (pyNext (.ref z)) Q E s:=by
 obtain ⟨hz,hTI,⟨a,b,hTO⟩,h1,h2⟩:=Z
 have hT:s.TypeIs (.ref z) "zip":=⟨_,hz,rfl⟩
 unfold pyNext
 refine wpAny_bind (wpAny_attempt (wpAny_callSpecial?_slot (name:=Str.ofString "__next__") hT F.slot_zip_next (wpAny_call_entry F.slot_zip_next hT F.entry_zip_next ?_ (F.args_zip_next_1 _))))
 show wpAny _ _ (field (.ref z) 2 >>= _) _ _ _
 refine wpAny_bind (wpAny_field hz rfl (x:=.bool false) rfl ?_);show wpAny _ _ (field (.ref z) 3 >>= _) _ _ _
 refine wpAny_bind (wpAny_field hz rfl (x:=.ref TI) rfl ?_)
 refine wpAny_bind (wpAny_seqItems hTI rfl ?_);show wpAny _ _ (Builtin.SmallTypes.ownedTupleIsFree (.ref z) >>= _) _ _ _
 refine wpAny_bind ?_;unfold Builtin.SmallTypes.ownedTupleIsFree
 refine wpAny_bind (wpAny_field hz rfl (x:=.none) rfl (wpAny_pure ?_));simp only[if_true]
 refine wpAny_bind (wpAny_rule (wpAny_bind (wpAny_field hz rfl (x:=.ref TO) rfl ?_)))
 refine wpAny_bind (wpAny_setField_rec hz (by simp) fun g1 z1 e1=>?_)
 replace z1:IsZip g1 z TI TO .ellipsis:=z1
 refine wpAny_bind ?_;simp only[List.zipIdx_cons,List.zipIdx_nil,List.forIn_cons,List.forIn_nil]
 refine wpAny_bind (wpAny_bind (wpAny_onRaise ?_));show wpAny _ _ (Builtin.SmallTypes.nextOf (.ref i1) >>= _) _ _ _
 refine wpAny_bind (nextOf_tup_end hh (h1.extBut e1.extBut D.i1z) (hl1.extBut e1.extBut L) hx fun g2 e e2 he=>?_)
 obtain ⟨oe,hoe,hce⟩:=he
 have z2:IsZip g2 z TI TO .ellipsis:=e2 _ _ D.i1z.symm z1
 have nez:e≠z:=fun q=>by subst q;rw[z2] at hoe;cases hoe;simp at hce
 refine wpAny_setField_rec z2 (by simp) fun g3 _ e3=>?_
 refine wpAny_bind (wpAny_isInstance (T:="StopIteration") (b:=true) ⟨oe,e3.extBut _ _ nez hoe,hce⟩ isSubtype_stop ?_)
 exact wpAny_pure (hQ _ fun c o c1 _ c3 _ q=>e3.extBut _ _ c1 (e2 _ _ c3 (e1.extBut _ _ c1 q)))
noncomputable abbrev zp1 (h:Heap) (l1:Addr):Heap:=h.push { cls:=.type "tuple_iterator",data:=.fields #[.ref l1,.int 0 0] }
noncomputable abbrev zp2 (h:Heap) (l1 l2:Addr):Heap:=(zp1 h l1).push { cls:=.type "tuple_iterator",data:=.fields #[.ref l2,.int 0 0] }
noncomputable abbrev zp3 (h:Heap) (l1 l2:Addr):Heap:=(zp2 h l1 l2).push { cls:=.type "tuple",data:=.seq #[.ref h.objs.size,.ref (zp1 h l1).objs.size] }
noncomputable abbrev zp4 (h:Heap) (l1 l2:Addr):Heap:=(zp3 h l1 l2).push { cls:=.type "tuple",data:=.seq #[.none,.none] }
noncomputable abbrev zp5 (h:Heap) (l1 l2:Addr):Heap:=(zp4 h l1 l2).push { cls:=.type "zip",data:=.fields #[.none,.bool false,.bool false,.ref (zp2 h l1 l2).objs.size,.ref (zp3 h l1 l2).objs.size] }
theorem zip_made (l1 l2:Addr) (xs ys:Array Value) :
   Meets (Builtin.«zip.__new__» ⟨[.type "zip",.ref l1,.ref l2],[]⟩) (fun _ R s=>s.heap.IsTuple l1 xs/\s.heap.IsTuple l2 ys/\R (.ok (.ret (.ref (zp4 s.heap l1 l2).objs.size))) { s with heap:=zp5 s.heap l1 l2 }) :=
 .of_wp fun prog w A R s h=>by
   obtain ⟨hp,g,d,tk,os⟩:=s
   obtain ⟨hl1,hl2,h⟩:=h
   have hsub:=sub_zip
   have q1:Heap.IsTuple (Shared.heap ⟨hp,g,d,tk,os⟩) l1 xs:=hl1
   have q2:Heap.IsTuple (Shared.heap ⟨hp.push { cls:=.type "tuple_iterator",data:=.fields #[.ref l1,.int 0 0] },g,d,tk,os⟩) l2 ys:=Heap.IsTuple.push hl2 _
   wp_walk using wpAny_pyIter_tuple q1,wpAny_pyIter_tuple q2
   exact⟨_,rfl,h⟩
theorem zip_call {l1 l2:Addr} {xs ys:Array Value} {Q:Value->Shared->Prop} (hl1:s.heap.IsTuple l1 xs) (hl2:s.heap.IsTuple l2 ys)
   (h:∀ h',ZAt h' (s.heap.objs.size+4) (s.heap.objs.size+2) (s.heap.objs.size+3) s.heap.objs.size (s.heap.objs.size+1) l1 l2 .none 0 →
     (∀ c o,s.heap.get? c=some o->h'.get? c=some o)->Q (.ref (s.heap.objs.size+4)) { s with heap:=h' }):wpAny (model prog w) A (call (.type "zip") [.ref l1,.ref l2]) Q E s:=by
 refine callType_new F.called_zip (by decide) (F.typeCall_zip_2 _ _) (F.newCall_zip_2 _ _) (fun obj=>F.args_object_init_3 obj _ _) F.entry_zip_new (zip_made l1 l2 xs ys) ⟨hl1,hl2,?_⟩
 have n1:(zp1 s.heap l1).objs.size=s.heap.objs.size+1:=Heap.size_push ..
 have n2:(zp2 s.heap l1 l2).objs.size=s.heap.objs.size+2:=by rw[Heap.size_push,n1]
 have n3:(zp3 s.heap l1 l2).objs.size=s.heap.objs.size+3:=by rw[Heap.size_push,n2]
 have n4:(zp4 s.heap l1 l2).objs.size=s.heap.objs.size+4:=by rw[Heap.size_push,n3]
 have p5:(zp5 s.heap l1 l2).get? (zp4 s.heap l1 l2).objs.size=some _:=Heap.get?_push_size _ rfl
 have p4:(zp5 s.heap l1 l2).get? (zp3 s.heap l1 l2).objs.size=some _:=Heap.get?_push_of_some _ (Heap.get?_push_size _ rfl)
 have p3:(zp5 s.heap l1 l2).get? (zp2 s.heap l1 l2).objs.size=some _:=Heap.get?_push_of_some _ (Heap.get?_push_of_some _ (Heap.get?_push_size _ rfl))
 have p2:(zp5 s.heap l1 l2).get? (zp1 s.heap l1).objs.size=some _:=Heap.get?_push_of_some _ (Heap.get?_push_of_some _ (Heap.get?_push_of_some _ (Heap.get?_push_size _ rfl)))
 have p1:(zp5 s.heap l1 l2).get? s.heap.objs.size=some _:=Heap.get?_push_of_some _ (Heap.get?_push_of_some _ (Heap.get?_push_of_some _ (Heap.get?_push_of_some _ (Heap.get?_push_size _ rfl))))
 show _/\_
 rw[n2,n3,n4] at p5
 rw[n1,n2] at p3
 rw[n3] at p4
 rw[n1] at p2
 rw[n4]
 refine⟨⟨_,p5,rfl⟩,h _ ⟨p5,p3,⟨_,_,p4⟩,⟨_,p1,rfl,rfl⟩,⟨_,p2,rfl,rfl⟩⟩ fun c o x=>?_⟩
 exact Heap.get?_push_of_some _ (Heap.get?_push_of_some _ (Heap.get?_push_of_some _ (Heap.get?_push_of_some _ (Heap.get?_push_of_some _ x))))
end
/-! ### a zip walked -/
noncomputable def Itz (l1 l2:Addr):It :=
 ⟨fun i H=>∃ xs ys x y,H l1=some (.tup xs)/\H l2=some (.tup ys)/\xs[i]?=some x/\ys[i]?=some y,
  fun i H v H'=>∃ p xs ys x y,H p=none/\v = .ref p/\H l1=some (.tup xs)/\H l2=some (.tup ys)/\xs[i]?=some x/\ys[i]?=some y/\H'=upd H p (.tup [x,y]),
  fun i H=>∃ xs ys,H l1=some (.tup xs)/\H l2=some (.tup ys)/\xs.length<=i⟩
theorem turn_zip {P:Program} {w:World} {K:PySem.W.Frag} {es:List Expr} {k0:Nat} {tp:Pos} {l1 l2 z TI TO i1 i2:Addr} (D:zz2 z TI TO i1 i2) :
   Turn P w K (.Tuple es k0 tp) (Itz l1 l2) [z,TI,TO,i1,i2] z (fun i h=>ZAt h z TI TO i1 i2 l1 l2 .none i) where
 mem:=by simp
 obj:=fun i h Z b hb=>by
   obtain ⟨hz,hTI,⟨a,c,hTO⟩,⟨o1,e1,c1,d1⟩,⟨o2,e2,c2,d2⟩⟩:=Z
   simp only[List.mem_cons,List.not_mem_nil,or_false] at hb
   rcases hb with rfl | rfl | rfl | rfl | rfl
   . exact⟨_,hz,fun v q=>by cases (show Data.fields _=Data.cell v from q)⟩
   . exact⟨_,hTI,fun v q=>by cases (show Data.seq _ _=Data.cell v from q)⟩
   . exact⟨_,hTO,fun v q=>by cases (show Data.seq _ _=Data.cell v from q)⟩
   . exact⟨o1,e1,fun v q=>by rw[d1] at q;cases q⟩
   . exact⟨o2,e2,fun v q=>by rw[d2] at q;cases q⟩
 keep:=fun i h h' Z k=>by
   obtain ⟨hz,hTI,⟨a,c,hTO⟩,⟨o1,e1,r1⟩,⟨o2,e2,r2⟩⟩:=Z
   exact⟨k z (by simp) _ hz,k TI (by simp) _ hTI,⟨a,c,k TO (by simp) _ hTO⟩,⟨o1,k i1 (by simp) _ e1,r1⟩,⟨o2,k i2 (by simp) _ e2,r2⟩⟩
 item:=by
   intro X hP hw hK hc i pins s σ H E I hf Z hg
   subst hP hw hK
   obtain ⟨xs,ys,x,y,hx,hy,ex,ey⟩:=hg
   obtain ⟨_,vx,rx,tx⟩:=I.hok l1 _ hx
   obtain ⟨_,vy,ry,ty⟩:=I.hok l2 _ hy
   obtain ⟨u,hu,ru⟩:=rx.get ex
   obtain ⟨v,hv,rv⟩:=ry.get ey
   have hfree:∀ b∈[z,TI,TO,i1,i2],H b=none:=fun b hb=>(hf b hb).1
   have L:∀ l,l=l1\/l=l2->l≠z/\l≠TO/\l≠i1/\l≠i2:=fun l hl=>by
     have hs:∃ o,H l=some o:=by
       rcases hl with e | e
       . exact⟨_,by rw[e];exact hx⟩
       . exact⟨_,by rw[e];exact hy⟩
     obtain ⟨o,ho⟩:=hs
     exact⟨zb0 ho (hfree z (by simp)),zb0 ho (hfree TO (by simp)),zb0 ho (hfree i1 (by simp)),zb0 ho (hfree i2 (by simp))⟩
   refine zip_item D L Z (show s.heap.IsTuple l1 vx.toArray from tx.isTup) (show s.heap.IsTuple l2 vy.toArray from ty.isTup) (x:=u) (y:=v) (by simpa using hu) (by simpa using hv) fun h' Z' hp kk=>?_
   refine⟨_,rfl,wpAny_letOwnedTupleGo_zip Z'.hz fun h2 hz2 sb=>?_⟩
   have kk2:∀ c o,c∉[z,TO,i1,i2]->s.heap.get? c=some o->h2.get? c=some o:=fun c o hc e=>sb.extBut _ _ (fun q=>hc (by simp[q])) (kk c o (fun q=>hc (by simp[q])) (fun q=>hc (by simp[q])) (fun q=>hc (by simp[q])) (fun q=>hc (by simp[q])) e)
   have nb:∀ c o,H c=some o->c∉[z,TO,i1,i2]:=fun c o e hm=>by
     have:H c=none:=hfree c (by simp only[List.mem_cons,List.not_mem_nil,or_false] at hm ⊢;rcases hm with q | q | q | q<;>simp[q])
     rw[this] at e;cases e
   have zlt:z<s.heap.objs.size:=Heap.lt_size Z.hz
   have hp2:IsPair h2 s.heap.objs.size u v:=sb.extBut _ _ (Nat.ne_of_gt zlt) hp
   have fr:H s.heap.objs.size=none:=I.fresh
   have I2:Inv X pins σ (upd H s.heap.objs.size (.tup [x,y])) { s with heap:=h2 }:=by
     refine I.step (g':=s.gens) (d':=s.drawn) (t':=s.toks) (ch:=[z,TO,i1,i2]) (fun b hb=>?_) (fun b o _ _ hc e _=>kk2 b o hc e) (fun b o _ _ hc e _=>⟨o.slots,kk2 b o hc e⟩)
       (fun b o _ e n=>by rw[za7 (Nat.ne_of_lt (Heap.lt_size e))];exact n)
       (fun b o hc e=>⟨o,kk2 b o hc e⟩) (fun b zs e=>by rw[za7 (zb0 e fr)];exact e) (fun b o zs e=>by rw[za7 (zb0 e fr)];exact e) (fun b ps e=>⟨#[],by rw[za7 (zb0 e fr),e];simp⟩) (fun m hm=>?_) (fun b o e=>?_) I.bare
     . obtain ⟨f0,f1,f2,f3,f4,f5⟩:=hf b (by simp only[List.mem_cons,List.not_mem_nil,or_false] at hb ⊢;rcases hb with q | q | q | q<;>simp[q])
       exact⟨f3,f1,f4,f5⟩
     . obtain ⟨o,es',ep,ho,r⟩:=hm
       refine⟨o,es',ep,kk2 _ o (fun hm=>?_) ho,r⟩
       exact (hf X.env.locals (by simp only[List.mem_cons,List.not_mem_nil,or_false] at hm ⊢;rcases hm with q | q | q | q<;>simp[q])).2.1 rfl
     . by_cases hb:b=s.heap.objs.size
       . subst hb
         rw[za2] at e
         cases e
         exact⟨(by show 2<=sizeLine;decide),[u,v],.cons ru (.cons rv .nil),⟨_,hp2,rfl,rfl,_,rfl⟩⟩
       . rw[za7 hb] at e
         refine (I.hok b o e).stay (fun c v hc q=>kk2 c v ?_ q) (fun c q=>by rw[za7 (zb0 q fr)];exact q) fun c zs q=>by rw[za7 (zb0 q fr)];exact q
         rcases hc with rfl | hc
         . exact nb _ _ e
         . exact nb _ _ hc
   exact⟨.ref s.heap.objs.size,_,I2,rfl,⟨_,xs,ys,x,y,fr,rfl,hx,hy,ex,ey,rfl⟩,⟨hz2,sb.extBut _ _ D.TIz Z'.hTI,(let ⟨a,c,q⟩:=Z'.hTO;⟨a,c,sb.extBut _ _ D.TOz q⟩),Z'.h1.extBut sb.extBut D.i1z,Z'.h2.extBut sb.extBut D.i2z⟩,fun b hb=>by
     rw[za7]
     . exact hfree b hb
     . obtain ⟨o,e,_⟩:∃ o,s.heap.get? b=some o/\True:=by
         simp only[List.mem_cons,List.not_mem_nil,or_false] at hb
         obtain ⟨hz,hTI,⟨a,c,hTO⟩,⟨o1,e1,_⟩,⟨o2,e2,_⟩⟩:=Z
         rcases hb with rfl | rfl | rfl | rfl | rfl
         . exact⟨_,hz,trivial⟩
         . exact⟨_,hTI,trivial⟩
         . exact⟨_,hTO,trivial⟩
         . exact⟨_,e1,trivial⟩
         . exact⟨_,e2,trivial⟩
       exact Nat.ne_of_lt (Heap.lt_size e)⟩
 done:=by
   intro X hP hw hK hc i pins s σ H E I hf Z hg
   subst hP hw hK
   obtain ⟨xs,ys,hx,hy,hle⟩:=hg
   obtain ⟨_,vx,rx,tx⟩:=I.hok l1 _ hx
   have hln:=rx.length
   have hfree:∀ b∈[z,TI,TO,i1,i2],H b=none:=fun b hb=>(hf b hb).1
   refine zip_end (I.ok.hd hc) D (zb0 hx (hfree z (by simp))) Z (show s.heap.IsTuple l1 vx.toArray from tx.isTup) (by simp;omega) fun h' kk=>⟨rfl,?_⟩
   have kk2:∀ c o,c∉[z,TO,i1,i2]->s.heap.get? c=some o->h'.get? c=some o:=fun c o hc e=>kk c o (fun q=>hc (by simp[q])) (fun q=>hc (by simp[q])) (fun q=>hc (by simp[q])) (fun q=>hc (by simp[q])) e
   have nb:∀ c o,H c=some o->c∉[z,TO,i1,i2]:=fun c o e hm=>by
     have:H c=none:=hfree c (by simp only[List.mem_cons,List.not_mem_nil,or_false] at hm ⊢;rcases hm with q | q | q | q<;>simp[q])
     rw[this] at e;cases e
   refine I.step (g':=s.gens) (d':=s.drawn) (t':=s.toks) (ch:=[z,TO,i1,i2]) (fun b hb=>?_) (fun b o _ _ hc e _=>kk2 b o hc e) (fun b o _ _ hc e _=>⟨o.slots,kk2 b o hc e⟩) (fun _ _ _ _ n=>n)
     (fun b o hc e=>⟨o,kk2 b o hc e⟩) (fun _ _ e=>e) (fun _ _ _ e=>e) (fun b ps e=>⟨#[],by rw[e];simp⟩) (fun m hm=>?_) (fun b o e=>?_) I.bare
   . obtain ⟨f0,f1,f2,f3,f4,f5⟩:=hf b (by simp only[List.mem_cons,List.not_mem_nil,or_false] at hb ⊢;rcases hb with q | q | q | q<;>simp[q])
     exact⟨f3,f1,f4,f5⟩
   . obtain ⟨o,es',ep,ho,r⟩:=hm
     refine⟨o,es',ep,kk2 _ o (fun hm=>?_) ho,r⟩
     exact (hf X.env.locals (by simp only[List.mem_cons,List.not_mem_nil,or_false] at hm ⊢;rcases hm with q | q | q | q<;>simp[q])).2.1 rfl
   . refine (I.hok b o e).stay (fun c v hc q=>kk2 c v ?_ q) (fun _ q=>q) fun _ _ q=>q
     rcases hc with rfl | hc
     . exact nb _ _ e
     . exact nb _ _ hc
 self:=fun _ _ _ _ _ Z h=>wpAny_pyIter_zip Z.hz h
section
variable {X:Cx} {es:List Expr} {k0:Nat} {tp:Pos}
noncomputable def iZip (ta:TA):TI:=fun σ H R=>ta σ H fun vs H1=>∃ l1 l2 xs ys,vs=[.ref l1,.ref l2]/\H1 l1=some (.tup xs)/\H1 l2=some (.tup ys)/\R (Itz l1 l2) H1
theorem pi_zip {a b:Expr} {ta:TA} {p pos:Pos} (hg:Gl X "zip") (hm:X.mg "zip" = none) (ha:PA X [a,b] ta) (hs:starEach [a,b] X.env=[(false,eval a X.env),(false,eval b X.env)]:=by rfl) (hs2:starEach [b] X.env=[(false,eval b X.env)]:=by rfl) :
   PI X (.Tuple es k0 tp) (.Call (.Name "zip" p) [a,b] [] pos) (iZip ta):=by
 intro pins s σ H R I h
 refine Call_ (zy9 I hg hm boot_zip (PyProof.Rows.callWith_type1 (thn (ha pos pins s σ H _ I h) fun us s1 ⟨vs,H1,I1,r1,q1⟩=>?_) (by rw[hs,hs2]) (by rw[hs2];rfl)))
 obtain ⟨l1,l2,xs,ys,e,hx,hy,q⟩:=q1
 subst e
 obtain ⟨u1,u2,rfl,r1',r2'⟩:=zH2 r1
 cases r1'
 cases r2'
 obtain ⟨_,vx,rx,tx⟩:=I1.hok l1 _ hx
 obtain ⟨_,vy,ry,ty⟩:=I1.hok l2 _ hy
 refine zip_call (show s1.heap.IsTuple l1 vx.toArray from tx.isTup) (show s1.heap.IsTuple l2 vy.toArray from ty.isTup) fun h' Z kk=>?_
 refine wpAny_pyIter_zip Z.hz ?_
 have I2:Inv X pins σ H1 { s1 with heap:=h' }:=I1.kept (t':=s1.toks) kk
 have ne:∀ i j:Nat,i≠j->s1.heap.objs.size+i≠s1.heap.objs.size+j:=fun i j hij=>by omega
 refine⟨_,_,_,_,H1,rfl,I2,turn_zip (es:=es) (k0:=k0) (tp:=tp) (TI:=s1.heap.objs.size+2) (TO:=s1.heap.objs.size+3) (i1:=s1.heap.objs.size) (i2:=s1.heap.objs.size+1) ⟨ne 2 4 (by decide),ne 3 4 (by decide),ne 0 4 (by decide),ne 1 4 (by decide),ne 2 3 (by decide),ne 2 0 (by decide),ne 2 1 (by decide),ne 3 0 (by decide),ne 3 1 (by decide),ne 0 1 (by decide)⟩,Z,fun b hb=>?_,q⟩
 have hge:s1.heap.objs.size<=b:=by
   simp only[List.mem_cons,List.not_mem_nil,or_false] at hb
   rcases hb with rfl | rfl | rfl | rfl | rfl<;>first | exact Nat.le_add_right _ _ | exact Nat.le_refl _
 exact I1.fpOk hge (I1.hok.fresh hge)
/-! ### sum -/
theorem call_sum (hc:X.calm=true):zs7 X (.builtin "sum") (fun xs H Q=>∃ l ns,xs=[.ref l]/\SqL X.K H l (ns.map V.int)/\PySem.SumFits ns/\Q (.int ns.sum) H):=by
 intro pins s σ H xs us Q I r h
 obtain ⟨l,ns,rfl,hS,hfit,q⟩:=h
 obtain ⟨u,rfl,ru⟩:=zM3 r
 cases ru
 obtain ⟨its,rv,p,hz⟩:=I.list hS
 obtain ⟨ps,e1,e2⟩:=zy5 (zz1 rv)
 have ei:its.toArray=intItems ps.toArray:=by
   unfold intItems
   rw[e1]
   simp
 have hl:=p.isList
 rw[ei] at hl
 have num:∀ j,numAt ps.toArray j=ns.getD j 0:=fun j=>by
   unfold numAt
   rw[<-e2]
   simp[List.getD_eq_getElem?_getD,List.getElem?_map]
 have pre:∀ j,j<=ns.length->preSum (numAt ps.toArray) j=(ns.take j).sum:=by
   intro j
   induction j with
   | zero=>intro _;rfl
   | succ j ih =>
     intro hj
     show preSum (numAt ps.toArray) j+numAt ps.toArray j=_
     rw[ih (by omega),num,List.take_succ,List.sum_append]
     have:ns[j]?=some (ns[j]'(by omega)):=by simp
     rw[List.getD_eq_getElem?_getD,this]
     simp
 have hlen:ps.toArray.size=ns.length:=by rw[<-e2];simp
 refine sum_intList (I.ok.hd hc) hl (fun j hj=>?_) fun h' tk t' kk=>?_
 . have hj':j<ns.length:=by omega
   obtain ⟨f1,f2⟩:=hfit j hj'
   rw[num,pre (j+1) (by omega)]
   exact⟨f1,f2⟩
 . rw[hlen,pre ns.length (Nat.le_refl _),List.take_length]
   exact⟨.int ns.sum,H,I.kept kk,⟨_,rfl⟩,q⟩
theorem zQ0 {es:List Expr} {k:Nat} {t:TGs} {n:Nat} {pos:Pos} (K:PySem.W.Frag) (hK:X.K=K) (hc:X.calm=true) (h:PGs X es t)
 (hn:(assignEach es X.env).length=n:=by rfl) (hst:(assignEach es X.env).findIdx? (·.1)=none:=by rfl):PG X (.Tuple es k pos) (gTup K n t):=hK▸zR9 hc h hn hst
end
theorem comp_zip {K:PySem.W.Frag} {H1:Hp} {l1 l2 D:Addr} {xs ys:List V} {f:V->V->V} {rest:St} {telt:TE} {Q:Hp->Prop} (hx:H1 l1=some (.tup xs)) (hy:H1 l2=some (.tup ys)) (hl:xs.length=ys.length) (hD:H1 D=none) (hn:xs.length<=sizeLine)
   (el:∀ (i:Nat) x y H' R,xs[i]?=some x->ys[i]?=some y->Same H1 H'->R (f x y) H'->telt (some x::some y::rest) H' R) (q:∀ H',Same H1 H'->H' D=some (.lst (List.zipWith f xs ys))->Q H') :
   ∃ W:Nat->Nat->St->Hp->Prop,(∃ m,W 0 m (none::none::rest) (upd H1 D (.lst []))) ∧
     ∀ i m σ' H',W i m σ' H'->((Itz l1 l2).stop i H'/\Q H')\/((Itz l1 l2).go i H'/\∃ N:St->Hp->Prop,(∀ σ2 H2,N σ2 H2->∃ m',m'<m/\W (i+1) m' σ2 H2) ∧
       ∀ v H2,(Itz l1 l2).yld i H' v H2->gTup K 2 (zL9 (zl6 0) (zL9 (zl6 1) gNil)) v σ' H2 fun σ3 H3=>zI1 σ3 H3 fun b H4=>if b=true then zr3 D telt N σ3 H4 else N σ3 H4):=by
 have hz:(List.zipWith f xs ys).length=xs.length:=by rw[List.length_zipWith,hl,Nat.min_self]
 refine⟨fun i m σ' H'=>m=xs.length-i/\i<=xs.length/\(∃ a b,σ'=a::b::rest)/\Same H1 H'/\H' D=some (.lst ((List.zipWith f xs ys).take i)),⟨xs.length,by simp,Nat.zero_le _,⟨_,_,rfl⟩,Same.upd hD,by rw[za2];rfl⟩,?_⟩
 rintro i m σ' H' ⟨rfl,hi,⟨a,b,rfl⟩,s,hd⟩
 by_cases hlt:i<xs.length
 . have ex:xs[i]?=some xs[i]:=by simp[hlt]
   have ey:ys[i]?=some (ys[i]'(by omega)):=by simp
   refine .inr ⟨⟨xs,ys,_,_,s _ _ hx,s _ _ hy,ex,ey⟩,fun σ2 H2=>(∃ a b,σ2=a::b::rest)/\Same H1 H2/\H2 D=some (.lst ((List.zipWith f xs ys).take (i+1))),fun σ2 H2 h=>⟨xs.length-(i+1),by omega,rfl,hlt,h.1,h.2.1,h.2.2⟩,?_⟩
   rintro v H2 ⟨p,xs',ys',x',y',fp,rfl,hx',hy',ex',ey',rfl⟩
   have e1:xs'=xs:=by have:=(s _ _ hx).symm.trans hx';cases this;rfl
   have e2:ys'=ys:=by have:=(s _ _ hy).symm.trans hy';cases this;rfl
   subst e1 e2
   have nDp:D≠p:=fun z=>by rw[z,fp] at hd;cases hd
   refine⟨p,_,rfl,SqT.of za2,rfl,_,_,rfl,_,_,rfl,rfl,?_⟩
   dsimp only[zI1]
   refine iteT ?_
   show zr3 D telt _ (some x'::some y'::rest) _
   refine el i x' y' _ _ ex' ey' (s.updT fp) ⟨_,by rw[za7 nDp];exact hd,?_,⟨_,_,rfl⟩,(s.updT fp).put hD,?_⟩
   . rw[List.length_take];omega
   . rw[za2,List.take_succ,List.getElem?_zipWith,ex',ey']
     rfl
 . have e:i=xs.length:=by omega
   subst e
   refine .inl ⟨⟨xs,ys,s _ _ hx,s _ _ hy,Nat.le_refl _⟩,q H' s ?_⟩
   rw[hd,<-hz,List.take_length]
end L2
/-! EXCEPTIONS,1: an own exception class (under ValueError,or under an own class under it) is called;its __init__ stores attributes -/
namespace L2
open PySem PySem.Spec PyProof.Rows
noncomputable abbrev bmV:List Value:=[.type "ValueError",.type "Exception",.type "BaseException",.type "object"]
noncomputable def MroV (bm:List Value):Prop:=bm=bmV\/∃ D:Addr,bm = .ref D::bmV
theorem MroV.has {bm:List Value} (m:MroV bm) {T:String} {b:Bool} (h:bmV.contains (.type T)=b):bm.contains (.type T)=b:=by
 rcases m with rfl | ⟨D,rfl⟩
 . exact h
 . rw[List.contains_cons,h];rfl
theorem MroV.self {bm:List Value} (m:MroV bm) (C:Addr) {T:String} {b:Bool} (h:bmV.contains (.type T)=b):(Value.ref C::bm).contains (.type T)=b:=by
 rw[List.contains_cons,m.has h];rfl
theorem MroV.passes {bm:List Value} (m:MroV bm) (v:Value):refuseLoop v "__setattr__" bm=pure ():=by
 rcases m with rfl | ⟨D,rfl⟩
 . exact PySem.F.store_ValueError.passes v
 . rw[refuseLoop_ref];exact PySem.F.store_ValueError.passes v
section
variable {prog:Program} {w:World} {A:Around} {E:Value->Shared->Prop} {R:Result->Shared->Prop} {h:Heap} {g:Array GenState} {d:Drawn} {t:Nat} {os:OsState}
variable {nm q:Str} {C N:Addr} {bs bm:List Value} {hdct:Bool} {sn:List Str} {sub:List Value} {ab:Bool} {col:Option Bool} {dd:Option Addr} {k0 k1 k2 k3 k5:Option Value}
theorem xnew_check {M:Model} (m:MroV bm) {rest:List Value} {Q:Unit->Shared->Prop} (hC:h.get? C=some (excClassObj nm q C N bs bm hdct sn sub ab col dd k0 k1 k2 k3 k5 "ValueError.__new__"))
   (hq:Q () ⟨h,g,d,t,os⟩):wpAny M A (checkBuiltinCall "ValueError.__new__" ⟨.ref C::rest,[]⟩) Q E ⟨h,g,d,t,os⟩:=by
 have hin:=m.self C PySem.F.excBase_ValueError.hasB
 have hst:=PySem.F.excBase_ValueError.noStar
 simp only[checkBuiltinCall,PySem.F.excBase_ValueError.newKind,PySem.F.excBase_ValueError.newSplit,PySem.F.excBase_ValueError.newRow]
 repeat (first | refine wpAny_loadPart_at hC ?_ | (refine wpAny_isSubtype_exc hC ?_;rw[hin]) | refine wpAny_staticBase_exc hC ?_ | refine wpAny_madeBy_exc hC ?_ | simp only[bne_self_eq_false,Bool.false_eq_true,if_false] | wp_step)
 exact hq
theorem xnew_code (m:MroV bm) {rest:List Value} (hC:h.get? C=some (excClassObj nm q C N bs bm hdct sn sub ab col dd k0 k1 k2 k3 k5 "ValueError.__new__"))
   (hq:R (.ok (.ret (.ref (h.objs.size+1)))) ⟨(h.push { cls:=.type "tuple",data:=.seq rest.toArray }).push { cls:=.ref C,data:=.fields #[.ref h.objs.size,.none,.none,.none,.bool false,.none] },g,d,t,os⟩)
   (hrest:rest.length<=sizeLine):codeAny (model prog w) A (.builtin "ValueError.__new__" ⟨.ref C::rest,[]⟩) R ⟨h,g,d,t,os⟩:=by
 have hends:=PySem.F.excBase_ValueError.ends
 have c1:=m.self C PySem.F.excBase_ValueError.hasB
 have c2:=m.self C PySem.F.excBase_ValueError.noAttr
 have c3:=m.self C PySem.F.excBase_ValueError.noName
 refine codeAny_builtinAt PySem.F.excBase_ValueError.entry ?_;unfold Builtin.«BaseException.__new__»
 refine PySem.wpAt_bind ?_;show PySem.wpAt _ _ _ (stack >>= _) _ _ _
 refine PySem.wpAt_bind (PySem.wpAt_stack fun p below=>PySem.wpAt_of_wpAny ?_);wp_walk
 refine PySem.wpAt_of_wpAny ?_;rw[PySem.F.excBase_ValueError.owner]
 repeat (first | with_reducible refine wpAny_madeHere_exc PySem.F.excBase_ValueError.canon hC ?_ | with_reducible refine wpAny_loadPart_at hC ?_ | (with_reducible refine wpAny_isSubtype_exc hC ?_;first | rw[c1] | rw[c2] | rw[c3]) | wp_step)
 show R _ _;rw[Heap.size_push];exact hq
theorem xcall {K:PySem.W.Frag} (X:K.In h) (m:MroV bm) {rest:List Value} {fI:Addr} {Q:Value->Shared->Prop} (hC:h.get? C=some (excClassObj nm q C N bs bm hdct sn sub ab col dd k0 k1 k2 k3 k5 "ValueError.__new__"))
   (hi:PySem.W.findIn K (.ref C) "__init__" = some (some (.ref fI))) (hf:PySem.W.isFn K (.ref fI)=true) (hrest:rest.length<=sizeLine)
   (hq:wpAny (model prog w) (A.under (.builtin "type.__call__" ⟨.ref C::rest,[]⟩)) (call (.ref fI) (.ref (h.objs.size+1)::rest)) (fun r s'=>r = .none/\Q (.ref (h.objs.size+1)) s') E
     ⟨(h.push { cls:=.type "tuple",data:=.seq rest.toArray }).push { cls:=.ref C,data:=.fields #[.ref h.objs.size,.none,.none,.none,.bool false,.none] },g,d,t,os⟩) :
   wpAny (model prog w) A (call (.ref C) rest) Q E ⟨h,g,d,t,os⟩:=by
 have f1:=tc_lookup
 have f2:=tc_bind (.ref C)
 have hT:(⟨h,g,d,t,os⟩:Shared).TypeIs (.ref C) "type":=⟨_,hC,rfl⟩
 refine wpAny_call (codeAny_of_tree ?_);show wpAny _ _ (callAny (.ref C) _) _ _ _
 repeat (any_goals (first | assumption | with_reducible refine wpAny_loadPart_at hC ?_ | wp_step))
 refine⟨rfl,?_⟩
 refine codeAny_call_builtin_at (Code.quiet_builtin _ (by decide +kernel)) entry_typeCall (wpAny_check_type_call_sub hC ?_)
 repeat (first | with_reducible refine wpAny_loadPart_at hC ?_ | with_reducible refine wpAny_madeBy_exc hC ?_ | wp_step)
 refine codeAny_call_builtin_code (Code.quiet_builtin _ PySem.F.excBase_ValueError.quiet) (xnew_check m hC (xnew_code m hC ?_ hrest))
 show wpAny _ _ _ _ _ _
 have kp:∀ b o,h.get? b=some o->((h.push { cls:=.type "tuple",data:=.seq rest.toArray }).push { cls:=.ref C,data:=.fields #[.ref h.objs.size,.none,.none,.none,.bool false,.none] }).get? b=some o:=fun b o e=>Heap.get?_push_of_some _ (Heap.get?_push_of_some _ e)
 have hC1:=kp _ _ hC
 have X1:K.In ((h.push { cls:=.type "tuple",data:=.seq rest.toArray }).push { cls:=.ref C,data:=.fields #[.ref h.objs.size,.none,.none,.none,.bool false,.none] }):=X.keeps kp
 have hg:((h.push { cls:=.type "tuple",data:=.seq rest.toArray }).push { cls:=.ref C,data:=.fields #[.ref h.objs.size,.none,.none,.none,.bool false,.none] }).get? (h.objs.size+1)=some { cls:=.ref C,data:=.fields #[.ref h.objs.size,.none,.none,.none,.bool false,.none] }:=by heap_get
 have hcc:(Value.ref C::bm).contains (.ref C)=true:=by simp
 unfold isInstance
 repeat (first | with_reducible refine wpAny_loadPart_at hg ?_ | wp_step)
 refine wpAny_isSubtype_exc hC1 ?_;rw[hcc]
 repeat (first | with_reducible refine wpAny_loadPart_at hg ?_ | wp_step)
 show wpAny _ _ (typeLookup (.ref C) _) _ _ _
 refine PySem.W.looks_findIn X1 hi _ _ _ _ (fun _ _ e=>e) ?_
 refine wpAny_holding (wpAny_bind ?_);unfold bindSpecial
 refine wpAny_bind (PySem.W.looks_typeIn X1 (beq_iff_eq.mp hf) _ _ _ _ (fun _ _ e=>e) ?_)
 rw[if_pos (by decide)]
 refine wpAny_pure (wpAny_bind (wpAny_mono hq (fun r s' hr=>?_) fun _ _ x=>x))
 obtain ⟨rfl,hQ⟩:=hr
 wp_walk
 exact hQ
end
end L2
/-! EXCEPTIONS,2: an attribute stored on an exception -/
namespace L2
open PySem PySem.Spec PyProof.Rows
open PySem.Builtin PySem.Builtin.ObjectAttr
section
variable {prog:Program} {w:World} {A:Around} {E:Value->Shared->Prop} {h:Heap} {g:Array GenState} {d:Drawn} {t:Nat} {os:OsState}
variable {nm q:Str} {C N x:Addr} {bs bm:List Value} {sn:List Str} {sub:List Value} {ab:Bool} {col:Option Bool} {dd:Option Addr} {k0 k1 k2 k3 k5:Option Value} {newId:String} {mA:Str->Option Value} {name:Str} {v:Value} {K:PySem.W.Frag}
theorem xsa_check {M:Model} (m:MroV bm) {o:Obj} {nv:Value} {Q:Unit->Shared->Prop} (hC:h.get? C=some (excClassObj nm q C N bs bm true sn sub ab col dd k0 k1 k2 k3 k5 newId)) (hx:h.get? x=some o) (hc:o.cls = .ref C) (hq:Q () ⟨h,g,d,t,os⟩) :
   wpAny M A (checkBuiltinCall "object.__setattr__" ⟨[.ref x,nv,v],[]⟩) Q E ⟨h,g,d,t,os⟩:=by
 have hin:=m.self C PySem.F.store_ValueError.hasOwner
 have ha:=PySem.F.store_ValueError.args (.ref x) nv v
 simp only[checkBuiltinCall,PySem.F.store_ValueError.kind,PySem.F.store_ValueError.split]
 refine wpAny_bind ?_;unfold isInstance
 repeat (first | (with_reducible refine wpAny_loadPart_at hx ?_;rw[hc]) | (with_reducible refine wpAny_isSubtype_exc hC ?_;rw[hin]) | wp_step)
 exact hq
theorem xsa_entry (X:K.In h) (m:MroV bm) {tk:Tok} {Q:PySem.Fin->Shared->Prop} {ns:List Str} (hC:h.get? C=some (excClassObj nm q C N bs bm true sn sub ab col dd k0 k1 k2 k3 k5 newId)) (hna:PySem.W.findIn K (.ref C) name=some none) (hxC:x≠C) (I:h.Inst x C mA)
   (hq:∀ h' tk',h'.Inst x C (fun y=>if y=name then some v else mA y) →
     (∀ b o,b≠x->(∀ o0 dx,h.get? x=some o0->o0.dict=some dx->b≠dx)->h.get? b=some o->h'.get? b=some o) →
     (∀ o0,h.get? x=some o0->∃ o1,h'.get? x=some o1/\o1.cls=o0.cls/\o1.data=o0.data/\o1.slots=o0.slots/\(∀ dx,o0.dict=some dx->o1.dict=some dx)/\(o0.dict=none->o1.dict=some h.objs.size))->Q (.done (.ret .none)) ⟨h',g,d,tk',os⟩) (hw:Within mA ns) (hsz:ns.length<=sizeLine) :
   wpAny (model prog w) A (Builtin.«object.__setattr__» ⟨[.ref x,.str name tk,v],[]⟩) Q E ⟨h,g,d,t,os⟩:=by
 obtain ⟨o,hx,hc,hnc,hd⟩:=I
 have hpass:=m.passes (.ref x)
 have lk:∀ (A:Around) (Q:Option Value->Shared->Prop) (E:Value->Shared->Prop),Q none ⟨h,g,d,t,os⟩->wpAny (model prog w) A (typeLookup (.ref C) name) Q E ⟨h,g,d,t,os⟩:=fun A Q E q=>PySem.W.looks_findIn X hna A Q E _ (fun _ _ e=>e) q
 unfold Builtin.«object.__setattr__»
 repeat (first | rw[refuse_eq] | (rw[refuseLoop_ref,hpass]) | (with_reducible refine wpAny_loadPart_at hx ?_;rw[hc]) | with_reducible refine wpAny_mroOf_exc hC ?_ | with_reducible refine lk _ _ _ ?_ | wp_step)
 rcases hd with ⟨hdn,hmA⟩ | ⟨dx,hdx,hne,hns⟩
 . rw[hdn,if_neg (by simp[typeHasDict])]
   split
   . rename_i hcd
     cases hcd
   split
   . rename_i c hcd
     exact absurd hcd (hnc c)
   . have hx1:(h.push { cls:=.type "dict",data:=.dict #[] }).get? x=some o:=Heap.get?_push_of_some _ hx
     have hxs:x≠h.objs.size:=Nat.ne_of_lt (Heap.lt_size hx)
     refine wpAny_bind (wpAny_alloc' (wpAny_bind (wpAny_update' hx1 (wpAny_pure ?_))))
     have hgd:((h.push { cls:=.type "dict",data:=.dict #[] }).update x fun o=>{ cls:=o.cls,dict:=some h.objs.size,data:=o.data,slots:=o.slots }).get? h.objs.size=some { cls:=.type "dict",data:=.dict #[] }:=(Heap.get?_update_ne _ _ _ _ hxs.symm).trans (Heap.get?_push_at rfl rfl)
     have hnd:((h.push { cls:=.type "dict",data:=.dict #[] }).update x fun o=>{ cls:=o.cls,dict:=some h.objs.size,data:=o.data,slots:=o.slots }).Ns h.objs.size (fun _=>none):=⟨_,#[],_,hgd,rfl,fun e he=>absurd he (by simp),fun _=>rfl⟩
     show wpAny _ _ (storeInDict h.objs.size (.str name tk) name v) _ _ _
     unfold storeInDict newKeyGuard
     refine wpAny_bind (wpAny_pure (wpAny_bind (wpAny_nsSet1 (Heap.Ns1.of_empty hnd) fun h' hn' hs=>?_)))
     obtain ⟨oD,esD,epD,hoD,hdD,hcD⟩:=hn'.count (Within.cons name v Within.nil)
     refine wpAny_bind (wpAny_lookBehind hoD (by rw[hdD];exact pastItsLine_dict (Nat.le_trans hcD (by rw[List.length_cons,List.length_nil,sizeLine_eq];omega))) ?_)
     wp_walk
     have hx':h'.get? x=some { cls:=o.cls,dict:=some h.objs.size,data:=o.data,slots:=o.slots }:=by
       refine (hs.2 x hxs).trans (Heap.get?_update_self _ hx1 ?_)
       have hfr:=(Heap.get?_some_iff.mp hx).2
       obtain ⟨oc,od,odt,osl⟩:=o
       cases odt<;>first | rfl | exact hfr
     refine hq h' _ ⟨_,hx',hc,hnc,.inr ⟨h.objs.size,rfl,hxs.symm,?_⟩⟩ (fun b ob hbx _ hb=>?_) (fun o0 h0=>?_)
     . obtain ⟨o',es,ep,e1,e2,e3,eu,e4⟩:=hn'
       exact⟨o',es,ep,e1,e2,e3,eu,fun y=>by rw[e4 y];by_cases hy:y=name<;>simp[hy,hmA]⟩
     . exact (hs.2 b (Nat.ne_of_lt (Heap.lt_size hb))).trans ((Heap.get?_update_ne _ _ _ _ hbx).trans (Heap.get?_push_of_some _ hb))
     . obtain rfl:o=o0:=Option.some.inj (hx.symm.trans h0)
       exact⟨_,hx',rfl,rfl,rfl,fun dx e=>(by rw[hdn] at e;cases e),fun _=>rfl⟩
 . rw[hdx]
   refine wpAny_pure ?_
   show wpAny _ _ (storeInDict dx (.str name tk) name v) _ _ _
   unfold storeInDict newKeyGuard
   refine wpAny_bind (wpAny_pure (wpAny_bind (wpAny_nsSet1 hns fun h' hn' hs=>?_)))
   obtain ⟨oD,esD,epD,hoD,hdD,hcD⟩:=hn'.count (Within.cons name v hw)
   refine wpAny_bind (wpAny_lookBehind hoD (by rw[hdD];exact pastItsLine_dict (Nat.le_trans hcD (by rw[List.length_cons];omega))) ?_)
   wp_walk
   refine hq h' _ ⟨o,(hs.2 x hne.symm).trans hx,hc,hnc,.inr ⟨dx,hdx,hne,hn'⟩⟩ (fun b ob _ hbd hb=>(hs.2 b (hbd o dx hx hdx)).trans hb) (fun o0 h0=>?_)
   obtain rfl:o=o0:=Option.some.inj (hx.symm.trans h0)
   exact⟨o,(hs.2 x hne.symm).trans hx,rfl,rfl,rfl,fun _ e=>e,fun e=>(by rw[hdx] at e;cases e)⟩
theorem zS8 (X:K.In h) (m:MroV bm) {Q:Unit->Shared->Prop} {ns:List Str} (hC:h.get? C=some (excClassObj nm q C N bs bm true sn sub ab col dd k0 k1 k2 k3 k5 newId)) (hsa:PySem.W.findIn K (.ref C) "__setattr__" = some (some (.builtin "object.__setattr__")))
   (hna:PySem.W.findIn K (.ref C) name=some none) (hxC:x≠C) (I:h.Inst x C mA)
   (hq:∀ h' tk',h'.Inst x C (fun y=>if y=name then some v else mA y) →
     (∀ b o,b≠x->(∀ o0 dx,h.get? x=some o0->o0.dict=some dx->b≠dx)->h.get? b=some o->h'.get? b=some o) →
     (∀ o0,h.get? x=some o0->∃ o1,h'.get? x=some o1/\o1.cls=o0.cls/\o1.data=o0.data/\o1.slots=o0.slots/\(∀ dx,o0.dict=some dx->o1.dict=some dx)/\(o0.dict=none->o1.dict=some h.objs.size))->Q () ⟨h',g,d,tk',os⟩) (hw:Within mA ns) (hsz:ns.length<=sizeLine) :
   wpAny (model prog w) A (setAttr (.ref x) name v) Q E ⟨h,g,d,t,os⟩:=by
 obtain ⟨o,hx,hc,_⟩:=id I
 have f3:=PySem.F.store_ValueError.slot.bind (.ref x)
 have lk:∀ (A:Around) (Q:Option Value->Shared->Prop) (E:Value->Shared->Prop) (t:Nat),Q (some (.builtin "object.__setattr__")) ⟨h,g,d,t,os⟩->wpAny (model prog w) A (typeLookup (.ref C) "__setattr__") Q E ⟨h,g,d,t,os⟩:=fun A Q E t q=>PySem.W.looks_findIn X hsa A Q E _ (fun _ _ e=>e) q
 unfold setAttr callSpecial? specialOf
 repeat (any_goals (first | assumption | (with_reducible refine wpAny_loadPart_at hx ?_;rw[hc]) | refine lk _ _ _ _ ?_ | wp_step))
 refine codeAny_call_builtin PySem.F.store_ValueError.slot.plain PySem.F.store_ValueError.entry (xsa_check m hC hx hc (xsa_entry X m hC hna hxC I (fun h' tk' I' hk hsame=>?_) hw hsz))
 repeat (any_goals (first | assumption | wp_step))
 exact hq h' tk' I' hk hsame
end
end L2
/-! EXCEPTIONS,3: the layer's rules -/
namespace L2
open PySem PySem.Spec PyProof.Rows
noncomputable def ExcO (C e:Addr) (od:Option Addr):HO:=.ext fun h=>∃ t:Addr,h.get? e=some { cls:=.ref C,dict:=od,data:=.fields #[.ref t,.none,.none,.none,.bool false,.none] }
structure XCls (K:PySem.W.Frag) (C:Addr):Prop where
 ob:∃ nm q N bs bm sn sub ab col dd k0 k1 k2 k3 k5,K.lookup C=some (excClassObj nm q C N bs bm true sn sub ab col dd k0 k1 k2 k3 k5 "ValueError.__new__")/\MroV bm
 sa:PySem.W.findIn K (.ref C) "__setattr__" = some (some (.builtin "object.__setattr__"))
 kp:PySem.W.keepIn K (.ref C)=true
section
variable {X:Cx} {pins:List (Addr×Obj)} {σ:St} {H:Hp} {s:Shared} {C x:Addr} {od:Option Addr}
theorem zL3 (I:Inv X pins σ H s) (e:H x=some (ExcO C x od)):∃ t:Addr,s.heap.get? x=some { cls:=.ref C,dict:=od,data:=.fields #[.ref t,.none,.none,.none,.bool false,.none] }:=(I.hok x _ e).1
theorem zQ1 {P:Program} {w:World} {H:Hp} {h:Heap} {t:Addr} (e:h.get? x=some { cls:=.ref C,dict:=od,data:=.fields #[.ref t,.none,.none,.none,.bool false,.none] }):zi0 P w H h x (ExcO C x od) :=
 ⟨⟨t,e⟩,⟨_,e⟩,fun h1 h2 ⟨t,e1⟩ k=>⟨t,k _ e1⟩⟩
theorem cls_ne (I:Inv X pins σ H s) {o:HO} {ob:Obj} (hC:X.K.lookup C=some ob) (e:H x=some o):x≠C:=fun z=>by
 have hb:=I.ok.mod.kin _ _ hC
 have:=(I.bs _ _ hb).2
 rw[z,this] at e;cases e
noncomputable def XPut (D:St->Hp->Prop) (σ:St) (H:Hp) (a C:Addr) (od:Option Addr) (f:Str) (y:V):Prop:=match od with
 | none=>∀ dx,H dx=none->dx≠a->D σ (upd (upd H dx (.xd (putF f y []))) a (ExcO C a (some dx)))
 | some dx=>∃ fs,H dx=some (.xd fs)/\fs.length<1000/\D σ (upd H dx (.xd (putF f y fs)))
theorem zS9 {P:Program} {w:World} {H:Hp} {h:Heap} {dx:Addr} {mA:Str->Option Value} {f:Str} {y:V} {u:Value} {fs:List (Str×V)} (hl:fs.length<1000) (hn:h.Ns1 dx fun g=>if g=f then some u else mA g) (r:∀ g,RelO (fs.lookup g) (mA g)) (wi:PySem.Within mA (fs.map (·.1))) (ry:RelV y u) :
   zi0 P w H h dx (.xd (putF f y fs)):=by
 refine⟨by have:=zn2 f y fs;omega,_,hn,fun g=>?_,fun g hg=>?_⟩
 . rw[zc1]
   by_cases q:g=f
   . rw[if_pos q];simp only[q,if_true];exact ry
   . rw[if_neg q];simp only[q,if_false];exact r g
 . by_cases q:g=f
   . rw[q];exact (zs9 f y fs).1
   . refine (zs9 f y fs).2 g (wi g fun z=>hg ?_)
     simp only[q,if_false];exact z
theorem xsetattr_ok {f:Str} {y:V} {u:Value} {D:St->Hp->Prop} {A:Around} {E:Value->Shared->Prop} (I:Inv X pins σ H s) (c:XCls X.K C) (na:ze2 X.K C f) (e:H x=some (ExcO C x od)) (ry:RelV y u) (q:XPut D σ H x C od f y) :
   wpAny (model X.prog X.w) A (setAttr (.ref x) f u) (fun _ s'=>∃ H',Inv X pins σ H' s'/\D σ H') E s:=by
 obtain ⟨nm,qn,N,bs,bm,sn,sub,ab,col,dd,k0,k1,k2,k3,k5,hK,m⟩:=c.ob
 have hC:=I.kIn _ _ hK
 obtain ⟨t,hx⟩:=zL3 I e
 have hxC:=cls_ne I hK e
 cases od with
 | none =>
   have hI:s.heap.Inst x C (fun _=>none):=⟨_,hx,rfl,fun c z=>(by cases z),.inl ⟨rfl,fun _=>rfl⟩⟩
   obtain ⟨hp,g,d,tk,os⟩:=s
   refine zS8 (ns:=[]) I.kIn m hC c.sa na hxC hI (fun h' tk' I' hk hs=>?_) PySem.Within.nil (Nat.zero_le _)
   obtain ⟨o1,e1,e2,e3,e4,_,e5⟩:=hs _ hx
   have ed:=e5 rfl
   have eo:h'.get? x=some { cls:=.ref C,dict:=some hp.objs.size,data:=.fields #[.ref t,.none,.none,.none,.bool false,.none] }:=by
     rw[e1]
     obtain ⟨c1,d1,dt1,sl1⟩:=o1
     simp only at e2 e3 e4 ed
     subst e2 e3 e4 ed
     rfl
   have hkk:∀ b o,b≠x->hp.get? b=some o->h'.get? b=some o:=fun b o hb ho=>hk b o hb (fun o0 dx h0 hd=>by rw[hx] at h0;cases h0;cases hd) ho
   have fr:H hp.objs.size=none:=I.fresh
   have hxs:hp.objs.size≠x:=fun z=>by rw[<-z,fr] at e;cases e
   obtain ⟨oI,hoI,_,_,hdI⟩:=I'
   have hn1:h'.Ns1 hp.objs.size (fun g=>if g=f then some u else none):=by
     rw[eo] at hoI
     cases hoI
     rcases hdI with ⟨z,_⟩ | ⟨d',hd',_,hn⟩
     . cases z
     . cases hd';exact hn
   refine⟨_,?_,q _ fr hxs⟩
   refine I.un (t':=tk') (h':=h') ⟨fun b o ho n _ _=>?_,fun b o ho n _ _=>⟨o.slots,?_⟩,fun b o ho n _=>?_,fun b o ho _=>?_,fun b xs z=>?_,fun b o xs z=>?_,fun b ps z=>⟨#[],?_⟩⟩ fun b o z=>?_
   . exact hkk b o (fun z=>by rw[z,e] at n;cases n) ho
   . exact hkk b o (fun z=>by rw[z,e] at n;cases n) ho
   . rw[za7 (fun z=>by rw[z,e] at n;cases n),za7 (Nat.ne_of_lt (Heap.lt_size ho))];exact n
   . by_cases hb:b=x
     . subst hb;exact⟨_,eo⟩
     . exact⟨o,hkk b o hb ho⟩
   . rw[za7 (zD7 z e (by intro w;cases w)),za7 (zb0 z fr)];exact z
   . rw[za7 (zD7 z e (by intro w;cases w)),za7 (zb0 z fr)];exact z
   . rw[za7 (zD7 z e (by intro w;cases w)),za7 (zb0 z fr),z];simp
   . by_cases hb:b=x
     . subst hb
       rw[za2] at z;cases z
       exact zQ1 eo
     . rw[za7 hb] at z
       by_cases hb2:b=hp.objs.size
       . subst hb2
         rw[za2] at z;cases z
         exact zS9 (mA:=fun _=>none) (by decide) hn1 (fun g=>True.intro) PySem.Within.nil ry
       . rw[za7 hb2] at z
         refine (I.hok b o z).stay (fun c v hc qv=>hkk c v ?_ qv) (fun c qc=>?_) fun c xs qc=>?_
         . rcases hc with rfl | hc
           . exact hb
           . exact zD7 hc e (by intro w;cases w)
         . rw[za7 (zD7 qc e (by intro w;cases w)),za7 (zb0 qc fr)];exact qc
         . rw[za7 (zD7 qc e (by intro w;cases w)),za7 (zb0 qc fr)];exact qc
 | some dx =>
   obtain ⟨fs,hd,hl,q⟩:=q
   obtain ⟨hl2,mA,hn,r,wi⟩:=I.hok dx _ hd
   have hdx:dx≠x:=zD7 hd e (by intro w;cases w)
   have hI:s.heap.Inst x C mA:=⟨_,hx,rfl,fun c z=>(by cases z),.inr ⟨dx,rfl,hdx,hn⟩⟩
   have hz:(fs.map (·.1)).length<=sizeLine:=by rw[List.length_map,sizeLine_eq];omega
   obtain ⟨hp,g,d,tk,os⟩:=s
   refine zS8 (ns:=fs.map (·.1)) I.kIn m hC c.sa na hxC hI (fun h' tk' I' hk hs=>?_) wi hz
   obtain ⟨o1,e1,e2,e3,e4,e5,_⟩:=hs _ hx
   have ed:=e5 dx rfl
   have eo:h'.get? x=some { cls:=.ref C,dict:=some dx,data:=.fields #[.ref t,.none,.none,.none,.bool false,.none] }:=by
     rw[e1]
     obtain ⟨c1,d1,dt1,sl1⟩:=o1
     simp only at e2 e3 e4 ed
     subst e2 e3 e4 ed
     rfl
   obtain ⟨oI,hoI,_,_,hdI⟩:=I'
   have hn1:h'.Ns1 dx (fun g=>if g=f then some u else mA g):=by
     rw[eo] at hoI
     cases hoI
     rcases hdI with ⟨z,_⟩ | ⟨d',hd',_,hn⟩
     . cases z
     . cases hd';exact hn
   refine⟨_,I.write (t':=tk') (h':=h') (x:=dx) (e:=dx) (by rw[hd];exact True.intro) (.inl rfl) (fun b o hb ho=>?_) (let ⟨o,_,_,e',_⟩:=hn1;⟨o,e'⟩) (zS9 hl hn1 r wi ry),q⟩
   by_cases hbx:b=x
   . subst hbx
     rw[show hp.get? b=_ from hx] at ho
     cases ho
     exact eo
   . exact hk b o hbx (fun o0 d0 h0 hd0=>by rw[show hp.get? x=_ from hx] at h0;cases h0;cases hd0;exact hb) ho
end
section
variable {X:Cx} {o value:Expr} {f:Str} {pos pos':Pos} {ta tv:TE}
noncomputable def sXFld (K:PySem.W.Frag) (ta tv:TE) (f:Str):TS:=fun D σ H=>tv σ H fun y H1=>ta σ H1 fun x H2=>∃ a C od,x = .ref a/\H2 a=some (ExcO C a od)/\XCls K C/\ze2 K C f/\XPut D.nx σ H2 a C od f y
theorem zQ2 (ha:PE X o ta) (hv:PE X value tv) (hs:swapsWith value (some (.Attribute o f pos')) pos.line X.env=pure false):PS X (.Assign [.Attribute o f pos'] value pos) (sXFld X.K ta tv f):=by
 intro pins s σ H D I h
 refine plainObj_wpAny_Assign_Attribute (thn (hv pins s σ H _ I h) fun u s1 ⟨y,H1,I1,ry,q⟩=>thn (ha pins s1 σ H1 _ I1 q) fun ov s2 ⟨x,H2,I2,rx,a,C,od,ex,ea,c,n,q2⟩=>?_) hs
 subst ex
 obtain rfl:ov=Value.ref a:=rx
 exact thn (xsetattr_ok I2 c n ea ry q2) fun _ s3 ⟨H3,I3,q3⟩=>⟨σ,H3,I3,q3⟩
end
/-! ### C.m(..),C a class of the text -/
structure zU8 (K:PySem.W.Frag) (C:Addr) (m:Str) (f:Addr):Prop where
 ga:PySem.W.specialIn K (.ref C) "__getattribute__" = some (some (.builtin "type.__getattribute__"))
 rd:PySem.W.readsIn K C (.type "type")=true
 fd:PySem.W.findCls K (.ref C) (.type "type") m=some (.val (.ref f))
 kp:PySem.W.keepIn K (.ref f)=true
section
variable {X:Cx} {CX:CXT} {k:Nat} {f C:Addr} {fd:FuncData} {ps:List Str} {sp:Sp} {dvs:List V} {ds:List Value} {E:XK} {x m:Str} {p pos apos:Pos} {e:Expr} {es:List Expr} {t:TA}
theorem zn3 {pl:Sem Bool} (M:zU8 X.K C m f) (hg:Gl X x) (hm:X.mg x=some (.ref C)) (F:FnOk X.prog X.w X.K X.mg X.base CX k f fd ps sp) (hr:Room k X.A) (hb:zc7 X.K fd ps ds) (hd:Vals dvs ds) (hx:zs5 CX X E) (ha:PA X (e::es) t)
   (hdb:(x == ("__debug__" : Str))=false:=by decide)
   (hst:starEach (e::es) X.env=(false,eval e X.env)::starEach es X.env:=by rfl) (hpl:(backTo pos (starEach es X.env)).any (·.1)=false:=by rfl)
   (ht:eval (.Call (.Attribute (.Name x p) m apos) (e::es) [] pos) X.env=(do
     let ov <-eval (.Name x p) X.env
     standAt apos.atName
     let (f,first) <-holding [ov] (getMethod ov m pl)
     callWith pos f first (backTo pos (starEach (e::es) X.env)) (backToKw pos (keywordEach [] X.env))):=by rfl) :
   PE X (.Call (.Attribute (.Name x p) m apos) (e::es) [] pos) (zU5 sp dvs E t):=by
 intro pins s σ H Q I h
 refine PySem.W.methodCall_KW (pl:=pl) (zx4 I hg hm ?_ hdb) ht
 refine PySem.W.method_cls I.kIn M.ga (PySem.W.cls_value I.kIn M.rd M.fd (by rfl) ?_)
 refine PySem.W.callWith_K (first:=[]) (h₀:=X.base) I.ok.mod.kin M.kp (thn (ha pos pins _ σ H _ (I.tok _) h) fun us s2 ⟨vs,H2,I2,r,q2⟩=>⟨I2.kIn,?_⟩) hst hpl
 exact zO4 F hr hb hd hx I2 r q2
/-! ### an exception is made -/
end
end L2
/-! EXCEPTIONS,4: raised,passing frames,caught -/
namespace L2
open PySem PySem.Spec PyProof.Rows
noncomputable def del (H:Hp) (a:Addr):Hp:=fun b=>if b=a then none else H b
theorem zM6 (H:Hp) (a:Addr):del H a a=none:=if_pos rfl
theorem zv9 {H:Hp} {a b:Addr} (h:b≠a):del H a b=H b:=if_neg h
theorem zi0.got {P:Program} {w:World} {H:Hp} {h:Heap} {a:Addr} {o:HO} (x:zi0 P w H h a o):∃ ob,h.get? a=some ob:=by
 cases o with
 | lst xs=>obtain ⟨_,_,_,_,e⟩:=x;exact⟨_,e⟩
 | tup xs=>obtain ⟨_,_,_,_,e,_⟩:=x;exact⟨_,e⟩
 | dK kvs=>obtain ⟨_,_,_,_,o,_,_,e,_⟩:=x;exact⟨_,e⟩
 | dT kvs=>obtain ⟨_,_,_,_,o,_,_,e,_⟩:=x;exact⟨_,e⟩
 | set S n=>obtain ⟨o,_,_,_,e,_⟩:=x;exact⟨_,e⟩
 | ins C dx fs=>obtain ⟨_,_,_,e,_⟩:=x;exact⟨_,e⟩
 | own y=>obtain ⟨_,e⟩:=x;exact⟨_,e⟩
 | xd fs=>obtain ⟨_,_,⟨_,_,_,e,_⟩,_⟩:=x;exact⟨_,e⟩
 | rng lo hi=>obtain ⟨_,_,_,e⟩:=x;exact⟨_,e⟩
 | frz ob u=>obtain ⟨e,_⟩:=x;exact⟨_,e⟩
 | tbl ps=>exact⟨_,show h.get? a=some _ from x⟩
 | met f y=>exact⟨_,show h.get? a=some _ from x⟩
 | ext φ=>obtain ⟨_,⟨_,e⟩,_⟩:=x;exact⟨_,e⟩
section
variable {X:Cx} {pins:List (Addr×Obj)} {σ:St} {H H':Hp} {s s':Shared} {C x a:Addr} {od:Option Addr} {cls a0:Value}
theorem Inv.del (I:Inv X pins σ H s) (e:H x=some (ExcO C x od)):Inv X pins σ (L2.del H x) s:=by
 have ne:∀ b u,H b=some u->(∀ φ,u≠.ext φ)->b≠x:=fun b u q n z=>by rw[z,e] at q;cases q;exact n _ rfl
 have:=I.un (t':=s.toks) (h':=s.heap) (H':=L2.del H x) ⟨fun b o ho n _ _=>ho,fun b o ho n _ _=>⟨o.slots,ho⟩,fun b o ho n _=>?_,fun b o ho _=>⟨o,ho⟩,fun b xs z=>?_,fun b o xs z=>?_,fun b ps z=>⟨#[],?_⟩⟩ fun b o z=>?_
 . exact this
 . unfold L2.del;split
   . rfl
   . exact n
 . rw[zv9 (ne b _ z fun φ w=>by cases w)];exact z
 . rw[zv9 (ne b _ z fun φ w=>by cases w)];exact z
 . rw[zv9 (ne b _ z fun φ w=>by cases w),z];simp
 . have hb:b≠x:=fun q=>by rw[q,zM6] at z;cases z
   rw[zv9 hb] at z
   exact (I.hok b o z).stay (fun _ _ _ q=>q) (fun c q=>by rw[zv9 (ne c _ q fun φ w=>by cases w)];exact q) fun c xs q=>by rw[zv9 (ne c _ q fun φ w=>by cases w)];exact q
end
section
variable {P:Program} {w:World} {K:PySem.W.Frag} {mg:Str->Option Value} {base:Heap} {N:List Str} {qual:Str} {scope:Scope} {f:Addr} {cd:Value} {A:Around} {outer:List Env} {s:Shared} {H:Hp} {E:XK}
end
end L2
/-! EXCEPTIONS,5: the statements raise and try;defs that raise -/
namespace L2
open PySem PySem.Spec PyProof.Rows
section
variable {M:Model} {A:Around} {E:Value->Shared->Prop} {env:Env}
variable {nm q:Str} {C N:Addr} {bs bm:List Value} {hdct:Bool} {sn:List Str} {sub:List Value} {ab:Bool} {col:Option Bool} {dd:Option Addr} {k0 k1 k2 k3 k5:Option Value} {newId:String}
theorem xraise {s:Shared} {x:Sem Value} {Q:Flow->Shared->Prop} (m:MroV bm) (hh:A.handled=none)
   (h:wpAny M A x (fun v s₁=>∃ e od t,v = .ref e/\s₁.heap.get? C=some (excClassObj nm q C N bs bm hdct sn sub ab col dd k0 k1 k2 k3 k5 newId)/\s₁.heap.get? e=some { cls:=.ref C,dict:=od,data:=.fields #[.ref t,.none,.none,.none,.bool false,.none] }/\E (.ref e) s₁) E s) :
   wpAny M A (raiseStmt env (some x) none) Q E s:=by
 have hcB:(Value.ref C::bm).contains (.type "BaseException")=true:=m.self C (by decide)
 unfold raiseStmt
 refine wpAny_bind (wpAny_mono h (fun v s₁ h₁=>?_) fun _ _ x=>x)
 obtain ⟨e,od,t,rfl,hC,he,hE⟩:=h₁
 obtain ⟨hp,g,d,tk,os⟩:=s₁
 repeat (first | with_reducible refine wpAny_loadPart_at he ?_ | with_reducible refine wpAny_loadPart_at hC ?_ | (with_reducible refine wpAny_isSubtype_exc hC ?_;rw[hcB]) | wp_step)
 exact wpAny_raiseNew_none hh hE
end
section
variable {X:Cx} {CX:CXT} {k:Nat} {f C:Addr} {fd:FuncData} {ps:List Str} {sp:Sp} {dvs:List V} {ds:List Value} {E Ei:XK} {x m:Str} {p pos cpos apos:Pos} {e:Expr} {es:List Expr} {t:TA}
theorem run_xmake2 {pins:List (Addr×Obj)} {σ:St} {H:Hp} {s:Shared} {Q:Addr->Hp->Prop} {us:List Value} {vs:List V} (c:XCls X.K C) (hi:PySem.W.findIn X.K (.ref C) "__init__" = some (some (.ref f))) (hf:PySem.W.isFn X.K (.ref f)=true) (F:FnOk X.prog X.w X.K X.mg X.base CX k f fd ps sp) (hr:Room (k+1) X.A) (hb:zc7 X.K fd ps ds) (hd:Vals dvs ds)
   (hx:zs5 CX X E) (I:Inv X pins σ H s) (r:Vals vs us) (hv:vs.length<=sizeLine)
   (h:∀ x,H x=none->sp (.ref x::(vs++dvs)) (upd H x (ExcO C x none)) (fun v H2=>v = .non/\Q x H2) E) :
   wpAny (model X.prog X.w) X.A (call (.ref C) us) (fun v s'=>v = .ref (s.heap.objs.size+1)/\∃ H',Inv X pins σ H' s'/\Q (s.heap.objs.size+1) H') X.xe s:=by
 obtain ⟨nm,qn,N,bs,bm,sn,sub,ab,col,dd,k0,k1,k2,k3,k5,hK,m⟩:=c.ob
 have hC:=I.kIn _ _ hK
 have hq:=h (s.heap.objs.size+1) (I.hok.fresh (Nat.le_succ _))
 have I1:Inv X pins σ H { s with heap:=s.heap.push { cls:=.type "tuple",data:=.seq us.toArray } }:=I.kept (t':=s.toks) fun b o e=>Heap.get?_push_of_some _ e
 have sz1:(s.heap.push { cls:=.type "tuple",data:=.seq us.toArray }).objs.size=s.heap.objs.size+1:=Heap.size_push ..
 have I2:Inv X pins σ (upd H (s.heap.objs.size+1) (ExcO C (s.heap.objs.size+1) none)) { s with heap:=(s.heap.push { cls:=.type "tuple",data:=.seq us.toArray }).push { cls:=.ref C,data:=.fields #[.ref s.heap.objs.size,.none,.none,.none,.bool false,.none] } }:=by
   refine I1.laid (t':=s.toks) (fun b o e=>Heap.get?_push_of_some _ e) (Nat.le_of_eq sz1) (zQ1 (t:=s.heap.objs.size) ?_)
   rw[<-sz1];exact Heap.get?_push_size _ rfl
 have r2:Vals (V.ref (s.heap.objs.size+1)::(vs++dvs)) (Value.ref (s.heap.objs.size+1)::(us++ds)):=.cons rfl (r.append hd)
 have hl:(Value.ref (s.heap.objs.size+1)::us++ds).length=ps.length:=by
   have e:=r2.length
   rw[F.len _ _ _ _ hq] at e
   exact e.symm
 obtain ⟨hp,g,d,tk,os⟩:=s
 refine xcall I.kIn m hC hi hf (by rw[<-r.length];exact hv) ?_
 refine wpAny_call (codeAny_mono (F.run _ X.stack _ _ ⟨Value.ref (hp.objs.size+1)::us,[]⟩ (Value.ref (hp.objs.size+1)::(us++ds)) _ _ E (hr.make C us []) (I2.env0.make C us []) (hb _ (Value.ref (hp.objs.size+1)::us) I2.kIn hl) r2 hq) fun r s' hq'=>?_)
 cases r with
 | error e=>exact hx pins σ _ _ e s' I2 hq'
 | ok fl =>
   cases fl with
   | ret u =>
     obtain ⟨v,H',I3,rv,ev,q3⟩:=I2.after hq'
     subst ev
     exact⟨rv,rfl,H',I3,q3⟩
   | next=>exact False.elim hq'
   | brk=>exact False.elim hq'
   | cont=>exact False.elim hq'
end
/-! ### try -/
noncomputable def Cx.caught (X:Cx) (e:Value):Cx:={ X with A:=X.A.mark (some e),calm:=false,xe:=fun _ _=>False }
section
variable {X:Cx} {pins pins':List (Addr×Obj)} {σ:St} {H:Hp} {s:Shared} {E:XK} {e:Value} {D:Ends} {f:Flow}
theorem Inv.caught (I:Inv X pins σ H s) (e:Value):Inv (X.caught e) pins σ H s :=
 let ok:=I.ok
 ⟨⟨ok.mod,ok.kind,ok.glob,ok.blt,ok.above,ok.inj,ok.has,ok.cab,(fun z=>nomatch z),ok.frames,ok.stk,ok.exf,ok.bs,ok.bsz,ok.noex,ok.exfs,ok.funs,ok.frf⟩,I.os,I.bare,I.base,I.loc,I.cell,I.free,I.freeC,I.pin,I.hok,I.len⟩
theorem Inv.uncaught (hd:X.calm=true->X.A.handled=none) (I:Inv (X.caught e) pins σ H s):Inv X pins σ H s :=
 let ok:=I.ok
 ⟨⟨ok.mod,ok.kind,ok.glob,ok.blt,ok.above,ok.inj,ok.has,ok.cab,hd,ok.frames,ok.stk,ok.exf,ok.bs,ok.bsz,ok.noex,ok.exfs,ok.funs,ok.frf⟩,I.os,I.bare,I.base,I.loc,I.cell,I.free,I.freeC,I.pin,I.hok,I.len⟩
theorem SP.uncaught (hd:X.calm=true->X.A.handled=none) (h:SP (X.caught e) pins D f s):SP X pins D f s:=by
 cases f with
 | next=>obtain ⟨σ',H',I,q⟩:=h;exact⟨σ',H',I.uncaught hd,q⟩
 | brk=>obtain ⟨σ',H',I,q⟩:=h;exact⟨σ',H',I.uncaught hd,q⟩
 | cont=>obtain ⟨σ',H',I,q⟩:=h;exact⟨σ',H',I.uncaught hd,q⟩
 | ret u=>obtain ⟨v,σ',H',I,r,q⟩:=h;exact⟨v,σ',H',I.uncaught hd,r,q⟩
end
section
variable {X:Cx} {C:Addr} {E:XK} {x:Str} {p pos hpos:Pos} {body suite:List Stmt} {b₀:Stmt} {tb th:TS}
end
/-! ### a def (or method) of the text whose defaults are any -/
structure FunD (K:PySem.W.Frag) (x qual:Str) (st:Stmt) (f:Addr) (fd:FuncData):Prop where
 ex:∃ (oc:Value) (od:Option Addr) (dV kV doc pm:Value) (an:Option Addr) (cdv ct:Value) (osl:Array (Option Value)),
   fd=PySem.W.fnOf x qual (zb4 st) (zb1 st) (za5 st) dV kV doc pm an cdv ct/\K.lookup f=some ⟨oc,od,.func fd,osl⟩/\PySem.W.codeIn K cdv qual=true
 kp:PySem.W.keepIn K (.ref f)=true
section
variable {P:Program} {w:World} {K:PySem.W.Frag} {mg:Str->Option Value} {base:Heap} {CX:CXT}
theorem Fun.d {x qual:Str} {st:Stmt} {f:Addr} {fd:FuncData} (F:Fun K x qual st f fd):FunD K x qual st f fd:=by
 obtain ⟨oc,od,kV,doc,pm,an,cdv,ct,osl,h⟩:=F.ex
 exact⟨⟨oc,od,.none,kV,doc,pm,an,cdv,ct,osl,h⟩,F.kp⟩
theorem FunD.ok {x qual:Str} {st:Stmt} {f:Addr} {fd:FuncData} {N ps:List Str} {k:Nat} {sp:Sp} (F:FunD K x qual st f fd) (S:zc0 N ps (za5 st)) (len:∀ vs H Q E,sp vs H Q E->vs.length=ps.length)
   (hbody:∀ (cdv:Value) (A:Around) (outer:List Env) (s:Shared) (H:Hp) (vs:List V) (Q:VK) (E:XK),Room k (A.deeper (envOfC qual (za5 st) s.heap.objs.size f cdv))->sp vs H Q E →
     ∃ t,PSs (cxOf CX0 P w K mg base N qual (za5 st) f cdv A outer s H E).nox (zb1 st) t/\t { nx:=fun _ H'=>Q .non H',rt:=Q } (start N vs) H):FnOk P w K mg base CX0 (k+1) f fd ps sp:=by
 obtain ⟨oc,od,dV,kV,doc,pm,an,cdv,ct,osl,rfl,lk,hcd⟩:=F.ex
 refine zS4 lk hcd S len fun A outer s H vs Q E hr hsp=>?_
 obtain ⟨t,h,q⟩:=hbody cdv A outer s H vs Q E hr hsp
 exact⟨t,h.nox,q⟩
theorem zo5 {x qual:Str} {st:Stmt} {f:Addr} {oc:Value} {od an:Option Addr} {osl:Array (Option Value)} {dV kV doc pm cdv ct:Value} (l:K.lookup f=some ⟨oc,od,.func (PySem.W.fnOf x qual (zb4 st) (zb1 st) (za5 st) dV kV doc pm an cdv ct),osl⟩)
 (c:PySem.W.codeIn K cdv qual=true) (k:PySem.W.keepIn K (.ref f)=true):FunD K x qual st f (PySem.W.fnOf x qual (zb4 st) (zb1 st) (za5 st) dV kV doc pm an cdv ct):=⟨⟨oc,od,dV,kV,doc,pm,an,cdv,ct,osl,rfl,l,c⟩,k⟩
end
end L2
namespace L2
open PySem PySem.Spec PyProof.Rows
/-! ### within try: readings that name K itself -/
end L2
/-! EXCEPTIONS,6: loops in a def that raises;a list against the empty list -/
namespace L2
open PySem PySem.Spec PyProof.Rows
noncomputable def rNeE (K:PySem.W.Frag):R2:=fun x y H Q=>∃ a b xs,x = .ref a/\y = .ref b/\SqL K H a xs/\SqL K H b []/\Q (.bl (!xs.isEmpty)) H
theorem op_neE {X:Cx} (hu:X.A.units<cLine):OpR X (compareOp .NotEq) (rNeE X.K):=by
 intro pins s σ H x y v u Q I rx ry h
 obtain ⟨a,b,xs,rfl,rfl,ha,hb,q⟩:=h
 cases rx
 cases ry
 obtain ⟨its,r,⟨o1,n1,g1,g2,_,g3⟩,hz⟩:=I.list ha
 obtain ⟨its2,r2,⟨o2,n2,g4,g5,_,g6⟩,hz2⟩:=I.list hb
 have ht:s.heap.IsList a its.toArray:=⟨o1,g1,g2,n1,g3⟩
 have ht2:s.heap.IsList b its2.toArray:=⟨o2,g4,g5,n2,g6⟩
 obtain rfl:its2=[]:=by cases r2;rfl
 cases xs with
 | nil =>
   obtain rfl:its=[]:=by cases r;rfl
   exact (PySem.SeqAt.RcNeAt.lists (e:=fun _=>true) ht ht2 rfl hu (fun i hi=>absurd hi (by simp))) _ _ _ _ ⟨.bl false,H,I,rfl,q⟩
 | cons x xs =>
   have hl:=r.length
   refine (PySem.SeqAt.RcNeAt.lists_lengths ht ht2 ?_ hu) _ _ _ _ ⟨.bl true,H,I,rfl,q⟩
   simp only[List.size_toArray,List.length_nil,<-hl,List.length_cons]
   simp
end L2
/-! EXCEPTIONS,7: try whose handler knows the names' values;the class named by except may be a base -/
namespace L2
open PySem PySem.Spec PyProof.Rows
noncomputable def zE7 (CX:CXT) (X:Cx) (Ex:St->XK):Prop:=∀ (pins:List (Addr×Obj)) (σ:St) (H:Hp) (s:Shared) (e:Value) (s':Shared),Inv X pins σ H s->CX X.stack H s (Ex σ) e s'->X.xe e s'
section
variable {X:Cx} {pins pins':List (Addr×Obj)} {σ:St} {H:Hp} {s:Shared} {Ex:St->XK} {D:Ends} {fl:Flow}
end
section
variable {X:Cx} {CX:CXT} {k:Nat} {f C:Addr} {fd:FuncData} {ps:List Str} {sp:Sp} {dvs:List V} {ds:List Value} {Ex:St->XK} {x m:Str} {p pos apos:Pos} {e o:Expr} {es:List Expr} {ta:TE} {t:TA}
end
section
variable {X:Cx} {D:Addr} {Ex:St->XK} {x:Str} {p pos hpos:Pos} {body suite:List Stmt} {b₀:Stmt} {tb th:TS}
end
end L2
/-! EXCEPTIONS,8: except D as n -/
namespace L2
open PySem PySem.Spec PyProof.Rows
section
variable {X:Cx} {pins:List (Addr×Obj)} {σ:St} {H:Hp} {s:Shared}
theorem zE8 {M:Model} {A:Around} {E:Value->Shared->Prop} {i:Nat} {x:Str} {pos:Pos} {Q:Unit->Shared->Prop} (I:Inv X pins σ H s) (hN:X.N.Nodup) (hi:X.N[i]?=some x) (hk:X.env.scope.names.lookup x=some .local)
   (h:∀ s',Inv X pins (σ.set i none) H s'->Q () s'):wpAny M A (do bindName X.env x .none;unbindBehindTheSuite X.env x pos) Q E s:=by
 obtain ⟨m,hn,hl⟩:=id I.loc
 have hcls:(X.env.scope.kind == .class || (X.env.scope.kind == .module && X.env.locals != X.env.globals))=false:=by rw[I.ok.kind];rfl
 have hiσ:i<σ.length:=by rw[I.len];exact (List.getElem?_eq_some_iff.mp hi).1
 have cne:=I.cne
 refine wpAny_nameGoes_keeps hk hn hcls fun h' v hn' hs=>?_
 refine h _ ⟨I.ok,I.os,I.bare,⟨fun b o e n hb hx=>?_,fun b o e n hb hx=>?_,I.base.free,fun b o e hx=>?_,I.base.tups,I.base.frzs,I.base.tbls⟩,⟨_,hn',fun j y v' e1 e2 e3=>?_⟩,fun y c e=>?_,I.free,I.freeC,fun p hp=>?_,fun b ob e=>?_,by simpa using I.len⟩
 . exact (hs.2 b (Nat.ne_of_lt (Nat.lt_of_lt_of_le (Heap.lt_size e) I.ok.above))).trans (I.base.keep b o e n hb hx)
 . obtain ⟨sl,e1⟩:=I.base.slot b o e n hb hx
   exact⟨sl,(hs.2 b (Nat.ne_of_lt (Nat.lt_of_lt_of_le (Heap.lt_size e) I.ok.above))).trans e1⟩
 . obtain ⟨o',e1⟩:=I.base.there b o e hx
   exact⟨o',(hs.2 b (Nat.ne_of_lt (Nat.lt_of_lt_of_le (Heap.lt_size e) I.ok.above))).trans e1⟩
 . by_cases hj:j=i
   . subst hj
     rw[List.getElem?_set_self hiσ] at e2
     cases e2
   . rw[List.getElem?_set_ne (Ne.symm hj)] at e2
     obtain ⟨u',r',q⟩:=hl j y v' e1 e2 e3
     refine⟨u',r',?_⟩
     rcases q with ⟨k,e⟩ | ⟨k,c,e,z⟩
     . refine .inl ⟨k,?_⟩
       have:y≠x:=fun e=>hj (zF1 hN e1 (e▸hi))
       simp[this,e]
     . exact .inr ⟨k,c,e,z.sameBut hs (cne y c e)⟩
 . obtain ⟨w',z⟩:=I.cell y c e
   exact⟨w',z.sameBut hs (cne y c e)⟩
 . obtain ⟨e,n,ne,nf,d⟩:=I.pin p hp
   exact⟨(hs.2 p.1 ne).trans e,n,ne,nf,d⟩
 . refine (I.hok b ob e).stay (fun c w' hc q=>(hs.2 c ?_).trans q) (fun _ q=>q) fun _ _ q=>q
   rintro rfl
   rcases hc with rfl | hc
   . rw[I.free] at e;cases e
   . rw[I.free] at hc;cases hc
end
section
variable {X:Cx} {D:Addr} {Ex:St->XK} {x n:Str} {i:Nat} {p pos hpos:Pos} {body suite:List Stmt} {b₀:Stmt} {tb th:TS}
noncomputable def Ends.forget (D:Ends) (i:Nat):Ends:={ nx:=fun σ H=>D.nx (σ.set i none) H,rt:=D.rt,bk:=fun σ H=>D.bk (σ.set i none) H,ct:=fun σ H=>D.ct (σ.set i none) H }
end
end L2
namespace L2
open PySem PySem.Spec PyProof.Rows
theorem zw0 {K:PySem.W.Frag} {c:Value} {D:Addr} {b:Bool} (h1:PySem.W.subIn K (.ref D) (.type "BaseException")=some true) (h2:(PySem.W.clsIn K D).isSome=true) (h3:PySem.W.typeIn K (.ref D)=some (.type "type")) (h4:PySem.W.subIn K c (.ref D)=some b) :
   PySem.W.exmOne K c (.ref D)=some b:=by
 unfold PySem.W.exmOne PySem.W.kitCls
 simp[h1,h2,h3,h4]
theorem zc5 {K:PySem.W.Frag} {c:Value} {D:Addr} {b:Bool} (hne:(c == .ref D)=false) (h2:(PySem.W.clsIn K D).isSome=true) (h3:PySem.W.typeIn K (.ref D)=some (.type "type")) (h4:PySem.W.subIn K c (.ref D)=some b) :
   PySem.W.kitOne K c (.ref D)=some b:=by
 unfold PySem.W.kitOne PySem.W.kitCls
 rw[hne]
 simp[h2,h3,h4]
end L2
namespace L2
open PySem PySem.Spec PyProof.Rows
section
variable {X:Cx}
noncomputable def rCatU:R2:=fun x y H Q=>∃ a b xs ys,x = .ref a/\y = .ref b/\H a=some (.tup xs)/\H b=some (.tup ys)/\xs.length+ys.length<=sizeLine/\∀ p H',Same H H'->H' p=some (.tup (xs++ys))->Q (.ref p) H'
theorem zr4:OpR X (binaryOp .Add) rCatU:=by
 intro pins s σ H x y v u Q I rx ry h
 obtain ⟨a,b,xs,ys,rfl,rfl,ha,hb,hz,q⟩:=h
 by_cases hx:xs=[]
 . subst hx
   cases rx
   cases ry
   obtain ⟨its,r1,p1,_⟩:=I.tuple (SqT.of ha)
   obtain ⟨its2,r2,p2,_⟩:=I.tuple (SqT.of hb)
   have e0:its=[]:=r1.nil_iff.mpr rfl
   subst e0
   obtain ⟨⟨cls,dd,data,sl⟩,ho,hc,n,hd⟩:=id p1
   obtain ⟨⟨cls2,dd2,data2,sl2⟩,ho2,hc2,n2,hd2⟩:=id p2
   simp only at hc hd hc2 hd2
   subst hc hd hc2 hd2
   exact concat_meets ⟨_,ho,rfl⟩ ⟨_,ho2,rfl⟩ noFill_tuple_add seq_tuple_add PySem.F.slot_tuple_add PySem.F.entry_tuple_add (PySem.F.args_tuple_add_2 _ _)
     (tuple_addW0 _ _ _ _ _ _ _ _ _ _ (by simp)) ⟨ho,ho2,.ref b,H,I,rfl,q b H (Same.refl _) hb⟩
 . refine op_catT pins s σ H _ _ v u Q I rx ry ⟨a,b,xs,ys,rfl,rfl,SqT.of ha,SqT.of hb,hx,hz,fun e=>?_,fun _ p hp=>q p _ (Same.upd hp) za2⟩
   subst e
   exact q a H (Same.refl _) (by rw[List.append_nil];exact ha)
end
end L2
namespace L2
open PySem PySem.Spec PyProof.Rows
theorem comp_inv {J:It} {H1:Hp} {D:Addr} {n:Nat} {x:Nat->V} {j:Nat} {σc:St} {tif:TT} {telt:TE} {Q:Hp->Prop} (Iv:Nat->Hp->Prop) (h0:Iv 0 (upd H1 D (.lst [])))
   (go:∀ i H',i<n->Iv i H'->J.go i H') (st:∀ H',Iv n H'->J.stop n H') (yl:∀ i v H' H2,i<n->Iv i H'->J.yld i H' v H2->H2=H'/\v=x i)
   (step:∀ i H' (N:St->Hp->Prop),i<n->Iv i H'->(∀ H2,Iv (i+1) H2->N (σc.set j (some (x i))) H2)->tif (σc.set j (some (x i))) H' fun b H4=>if b=true then zr3 D telt N (σc.set j (some (x i))) H4 else N (σc.set j (some (x i))) H4)
   (q:∀ H',Iv n H'->Q H') :
   ∃ W:Nat->Nat->St->Hp->Prop,(∃ m,W 0 m σc (upd H1 D (.lst []))) ∧
     ∀ i m σ' H',W i m σ' H'->(J.stop i H'/\Q H')\/(J.go i H'/\∃ N:St->Hp->Prop,(∀ σ2 H2,N σ2 H2->∃ m',m'<m/\W (i+1) m' σ2 H2) ∧
       ∀ v H2,J.yld i H' v H2->zl6 j v σ' H2 fun σ3 H3=>tif σ3 H3 fun b H4=>if b=true then zr3 D telt N σ3 H4 else N σ3 H4):=by
 refine⟨fun i m σ' H'=>m=n-i/\i<=n/\(∀ v,σ'.set j (some v)=σc.set j (some v))/\Iv i H',⟨n,by simp,Nat.zero_le _,fun _=>rfl,h0⟩,?_⟩
 rintro i m σ' H' ⟨rfl,hi,hσ,iv⟩
 by_cases hlt:i<n
 . refine .inr ⟨go i _ hlt iv,fun σ2 H2=>(∀ v,σ2.set j (some v)=σc.set j (some v))/\Iv (i+1) H2,fun σ2 H2 ⟨h1,h2⟩=>⟨n-(i+1),by omega,rfl,hlt,h1,h2⟩,fun v H2 y=>?_⟩
   obtain ⟨rfl,rfl⟩:=yl i v _ H2 hlt iv y
   dsimp only[zl6]
   rw[hσ]
   exact step i _ _ hlt iv fun H2 h2=>⟨fun v=>by simp,h2⟩
 . have e:i=n:=by omega
   subst e
   exact .inl ⟨st _ iv,q _ iv⟩
theorem zD8 {H1:Hp} {D:Addr} {lo:Int} {n:Nat} {j:Nat} {σc:St} {tif:TT} {telt:TE} {Q:Hp->Prop} (Iv:Nat->Hp->Prop) (h0:Iv 0 (upd H1 D (.lst [])))
   (step:∀ i H' (N:St->Hp->Prop),i<n->Iv i H'->(∀ H2,Iv (i+1) H2->N (σc.set j (some (.int (lo+i)))) H2)->tif (σc.set j (some (.int (lo+i)))) H' fun b H4=>if b=true then zr3 D telt N (σc.set j (some (.int (lo+i)))) H4 else N (σc.set j (some (.int (lo+i)))) H4)
   (q:∀ H',Iv n H'->Q H') :
   ∃ W:Nat->Nat->St->Hp->Prop,(∃ m,W 0 m σc (upd H1 D (.lst []))) ∧
     ∀ i m σ' H',W i m σ' H'->((Itr lo n).stop i H'/\Q H')\/((Itr lo n).go i H'/\∃ N:St->Hp->Prop,(∀ σ2 H2,N σ2 H2->∃ m',m'<m/\W (i+1) m' σ2 H2) ∧
       ∀ v H2,(Itr lo n).yld i H' v H2->zl6 j v σ' H2 fun σ3 H3=>tif σ3 H3 fun b H4=>if b=true then zr3 D telt N σ3 H4 else N σ3 H4) :=
 comp_inv (J:=Itr lo n) (x:=fun i=>.int (lo+i)) Iv h0 (fun i H' hi _=>hi) (fun H' _=>Nat.le_refl _) (fun i v H' H2 hi _ y=>y) step q
end L2
/-! EXCEPTIONS WITH THEIR DICT,1: the flight -/
namespace L2
open PySem PySem.Spec PyProof.Rows
theorem dict_mapF (g:Array Value->Array Value) (o:Obj):(Obj.mapFields g o).dict=o.dict:=by
 obtain ⟨c,d,dt,sl⟩:=o
 cases dt<;>rfl
noncomputable def TrD (h base:Heap) (e:Addr) (cls:Value) (od:Option Addr) (fl:Value):Prop :=
 ∃ ob fs T ot tf,h.get? e=some ob/\(ob.cls=cls/\ob.dict=od)/\ob.data = .fields fs/\fs[1]?=some (.ref T)/\base.get? T=none/\T≠e/\h.get? T=some ot/\ot.data = .fields tf/\tf[3]?=some fl
noncomputable def FlD (base:Heap) (l:List Env) (e:Addr) (cls:Value) (od:Option Addr) (fl:Value) (h:Heap):Prop:=base.StaysIn h/\base.get? e=none/\h.FunFrames base l/\TrD h base e cls od fl
theorem FlD.there {base h:Heap} {l:List Env} {e:Addr} {cls fl:Value} {od:Option Addr} (x:FlD base l e cls od fl h):∃ ob,h.get? e=some ob/\(ob.cls=cls/\ob.dict=od)/\∃ vs,ob.data = .fields vs:=by
 obtain ⟨_,_,_,ob,fs,_,_,_,e1,e2,e3,_⟩:=x
 exact⟨ob,e1,e2,fs,e3⟩
section
variable {M:Model} {A:Around} {E:Value->Shared->Prop} {s:Shared} {base:Heap} {env:Env} {outer l:List Env} {L e:Addr} {cls fl:Value} {od:Option Addr} {Q:Unit->Shared->Prop}
theorem zA2 (x:FlD base l e cls od fl s.heap) (k:∀ h',FlD base l e cls od .none h'->s.heap.UpToSlots h'->Q () { s with heap:=h' }):wpAny M A (setFlight (.ref e) none) Q E s:=by
 obtain ⟨st,ne,ff,ob,fs,T,ot,tf,g1,gc,g2,g3,g4,g5,g6,g7,g8⟩:=x
 have sz3:3<tf.size:=(Array.getElem?_eq_some_iff.mp g8).1
 let U:Heap:=s.heap.update T (Obj.mapFields (·.setIfInBounds 3 ((none:Option Addr).elim Value.none fun f=>rawInt f)))
 have oth:∀ b,b≠T->U.get? b=s.heap.get? b:=fun b hb=>Heap.get?_update_other _ _ (Ne.symm hb)
 have noT:∀ b o,s.heap.get? b=some o->(∀ vs,o.data≠.fields vs)->b≠T:=fun b o hb hn z=>by
   rw[z,g6] at hb
   cases hb
   exact hn tf g7
 unfold setFlight
 refine wpAny_bind (wpAny_field g1 g2 g3 ?_)
 rw[if_pos (show (Value.ref T != Value.none)=true by simp)]
 refine wpAny_setField g6 g7 sz3 (k U ⟨fun b o hb=>(oth b fun z=>by rw[z,g4] at hb;cases hb).trans (st b o hb),ne,ff.of_keeps fun b o hb hn=>⟨o,(oth b (noT b o hb hn)).trans hb,rfl⟩,?_⟩ fun b o hb hn=>⟨o.slots,(oth b (noT b o hb hn)).trans hb⟩)
 exact⟨ob,fs,T,_,_,(oth e (Ne.symm g5)).trans g1,gc,g2,g3,g4,g5,Heap.get?_update_self _ g6 (Obj.isFreed_of_fields (Obj.data_mapFields g7 _)),Obj.data_mapFields g7 _,by simp[sz3]⟩
theorem zM7 {ob:Obj} {fs:Array Value} {head:Value} {nx:Bool} (fr:A.frames=some (env::outer)) (ff:s.heap.FunFrames base (env::outer)) (lf:env.frame=some L) (g1:s.heap.get? e=some ob) (st:base.StaysIn s.heap) (ne:base.get? e=none) (g2:ob.data = .fields fs) (sz:1<fs.size)
   (k:∀ h',FlD base (env::outer) e ob.cls ob.dict (rawInt L) h'->s.heap.UpToSlots h'->Q () { s with heap:=h' }) :
   wpAny M A (do let a <-frameOf env;let pl <-entryPlaceOf L nx;let b <-EntryCells.newEntry head a .none (rawInt L) .none pl;setField (.ref e) 1 b) Q E s:=by
 have nfr:e∉(env::outer).filterMap (·.frame):=fun hm=>by
   obtain ⟨_,o,ho,hn⟩:=ff.mem hm
   rw[g1] at ho
   cases ho
   exact hn fs g2
 refine wpAny_bind (wpAny_frameOf_fun fr ff lf fun h1 q1=>?_)
 refine wpAny_bind (wpAny_entryPlaceOf fun pl hpl=>?_)
 unfold EntryCells.newEntry newFields
 refine wpAny_bind (wpAny_newObj_type ?_ (hpl.sizeOk5 _ _ _ _ _))
 have e1:h1.get? e=some ob:=(q1.2.1 e nfr).trans g1
 have st1:base.StaysIn h1:=fun b o hb=>(q1.2.1 b fun hm=>by rw[(ff.mem hm).1] at hb;cases hb).trans (st b o hb)
 generalize htb:(([head,.ref L,.none,rawInt L,.none]++(if pl.isEmpty then List.replicate 6 Value.none else pl)).toArray:Array Value)=tb
 have tb3:tb[3]?=some (rawInt L):=by rw[<-htb];rcases hpl with rfl | ⟨_,_,_,_,_,_,_,rfl⟩<;>simp
 have e2:=Heap.get?_push_of_some (h:=h1) { cls:=.type "traceback",dict:=none,data:=.fields tb } e1
 refine wpAny_setField e2 g2 sz (k _ ?_ ?_)
 all_goals
   have neT:h1.objs.size≠e:=Nat.ne_of_gt (Heap.lt_size e1)
   have keep:∀ b o,b≠e->h1.get? b=some o->((h1.push { cls:=.type "traceback",dict:=none,data:=.fields tb }).update e (Obj.mapFields (·.setIfInBounds 1 (Value.ref h1.objs.size)))).get? b=some o:=fun b o hb hg=>by
     rw[Heap.get?_update_other _ _ (Ne.symm hb)]
     exact Heap.get?_push_of_some _ hg
   have noE:∀ b o,s.heap.get? b=some o->(∀ vs,o.data≠.fields vs)->b≠e:=fun b o hb hn z=>by
     rw[z,g1] at hb
     cases hb
     exact hn fs g2
 . have d3:=Obj.data_mapFields g2 (·.setIfInBounds 1 (Value.ref h1.objs.size))
   have e3:=Heap.get?_update_self (Obj.mapFields (·.setIfInBounds 1 (Value.ref h1.objs.size))) e2 (Obj.isFreed_of_fields d3)
   have t3:=(Heap.get?_update_other (h1.push { cls:=.type "traceback",dict:=none,data:=.fields tb }) (Obj.mapFields (·.setIfInBounds 1 (Value.ref h1.objs.size))) (Ne.symm neT)).trans (Heap.get?_push_size h1 rfl)
   refine⟨fun b o hb=>keep b o (fun z=>by rw[z,ne] at hb;cases hb) (st1 b o hb),ne,ff.of_keeps fun b o hb hn=>?_,?_⟩
   . obtain ⟨sl,z⟩:=q1.2.2 b o hb
     exact⟨_,keep b _ (noE b o hb hn) z,rfl⟩
   . exact⟨_,_,h1.objs.size,_,_,e3,⟨Obj.cls_mapFields _ _,dict_mapF _ _⟩,d3,by simp[sz],st1.fresh,neT,t3,rfl,tb3⟩
 . intro b o hb hn
   obtain ⟨sl,z⟩:=q1.2.2 b o hb
   exact⟨sl,keep b _ (noE b o hb hn) z⟩
theorem leave_first {ob:Obj} {fs:Array Value} (fr:A.frames=some (env::outer)) (ff:s.heap.FunFrames base (env::outer)) (lf:env.frame=some L) (g1:s.heap.get? e=some ob) (st:base.StaysIn s.heap) (ne:base.get? e=none) (g2:ob.data = .fields fs) (g3:fs[1]?=some .none)
   (k:∀ h',FlD base (env::outer) e ob.cls ob.dict .none h'->s.heap.UpToSlots h'->Q () { s with heap:=h' }):wpAny M A (leaving env (.ref e)) Q E s:=by
 unfold leaving noteFrame
 simp only[lf]
 refine wpAny_bind (wpAny_bind (wpAny_field g1 g2 g3 ?_))
 rw[if_neg (by decide)]
 exact zM7 fr ff lf g1 st ne g2 (Array.getElem?_eq_some_iff.mp g3).1 fun h' x up=>zA2 (s:={ s with heap:=h' }) x fun h2 x2 up2=>k h2 x2 (up.trans up2)
theorem zQ3 (fr:A.frames=some (env::outer)) (lf:env.frame=some L) (x:FlD base (env::outer) e cls od .none s.heap)
   (k:∀ h',FlD base (env::outer) e cls od (rawInt L) h'->s.heap.UpToSlots h'->Q () { s with heap:=h' }):wpAny M A (noteFrame (.ref e) env) Q E s:=by
 obtain ⟨st,ne,ff,ob,fs,T,ot,tf,g1,⟨gc,gd⟩,g2,g3,g4,g5,g6,g7,g8⟩:=x
 subst gc gd
 unfold noteFrame
 simp only[lf]
 refine wpAny_bind (wpAny_field g1 g2 g3 ?_)
 rw[if_pos (show (Value.ref T != Value.none)=true by simp)]
 refine wpAny_bind (wpAny_field g6 g7 g8 ?_)
 rw[if_neg (show ¬ ((Value.none == rawInt L)=true) by simp[rawInt])]
 refine wpAny_bind (wpAny_setField g6 g7 (Array.getElem?_eq_some_iff.mp g8).1 ?_)
 have oth:∀ b,b≠T->(s.heap.update T (Obj.mapFields (·.setIfInBounds 3 Value.none))).get? b=s.heap.get? b:=fun b hb=>Heap.get?_update_other _ _ (Ne.symm hb)
 have noT:∀ b o,s.heap.get? b=some o->(∀ vs,o.data≠.fields vs)->b≠T:=fun b o hb hn z=>by
   rw[z,g6] at hb
   cases hb
   exact hn tf g7
 refine zM7 fr (ff.of_keeps fun b o hb hn=>⟨o,(oth b (noT b o hb hn)).trans hb,rfl⟩) lf ((oth e (Ne.symm g5)).trans g1) (fun b o hb=>(oth b fun z=>by rw[z,g4] at hb;cases hb).trans (st b o hb)) ne g2 (Array.getElem?_eq_some_iff.mp g3).1 fun h' x up=>k h' x fun b o hb hn=>up b o ((oth b (noT b o hb hn)).trans hb) hn
theorem leave_on (fr:A.frames=some (env::outer)) (lf:env.frame=some L) (x:FlD base (env::outer) e cls od .none s.heap)
   (k:∀ h',FlD base outer e cls od .none h'->s.heap.UpToSlots h'->Q () { s with heap:=h' }):wpAny M A (leaving env (.ref e)) Q E s:=by
 unfold leaving
 refine wpAny_bind (zQ3 fr lf x fun h1 x1 up1=>zA2 (s:={ s with heap:=h1 }) x1 fun h2 x2 up2=>?_)
 obtain ⟨k1,k2,⟨_,_,k3⟩,k4⟩:=x2
 exact k h2 ⟨k1,k2,k3,k4⟩ (up1.trans up2)
end
end L2
/-! EXCEPTIONS WITH THEIR DICT,2: raised,passing frames,caught -/
namespace L2
open PySem PySem.Spec PyProof.Rows
noncomputable def FlyD (h:Heap) (H:Hp) (h0:Heap) (a:Addr) (cls:Value) (od:Option Addr):Prop :=
 (H a=none/\h0.get? a=none)/\∃ T,(H T=none/\h0.get? T=none)/\∃ oe vs oT ts,h.get? a=some oe/\(oe.cls=cls/\oe.dict=od)/\oe.data = .fields vs/\vs[1]?=some (.ref T)/\T≠a/\h.get? T=some oT/\oT.data = .fields ts/\ts[3]?=some Value.none
theorem FlyD.from {h:Heap} {H:Hp} {h0 h1:Heap} {a:Addr} {cls:Value} {od:Option Addr} (x:FlyD h H h0 a cls od) (k:∀ b o,h1.get? b=some o->∃ o',h0.get? b=some o'):FlyD h H h1 a cls od:=by
 have g:∀ b,h0.get? b=none->h1.get? b=none:=fun b e=>by
   cases q:h1.get? b with
   | none=>rfl
   | some o=>obtain ⟨o',z⟩:=k b o q;rw[e] at z;cases z
 obtain ⟨⟨x1,x2⟩,T,⟨x3,x4⟩,r⟩:=x
 exact⟨⟨x1,g _ x2⟩,T,⟨x3,g _ x4⟩,r⟩
theorem FlyD.flying {h:Heap} {H:Hp} {h0 B:Heap} {a:Addr} {cls:Value} {od:Option Addr} {l:List Env} (x:FlyD h H h0 a cls od) (ff:h.FunFrames B l) :
   ∃ T,(H T=none/\h0.get? T=none)/\FlD (PySem.W.hideAll h (a::([T]++frs l))) l a cls od .none h:=by
 obtain ⟨_,T,z,oe,vs,oT,ts,e1,e2,e3,e4,e5,e6,e7,e8⟩:=x
 refine⟨T,z,fun b o e=>PySem.W.of_hideAll _ e,PySem.W.hideAll_none _ List.mem_cons_self,PySem.W.funFrames_hide ff fun env he b hb=>?_,oe,vs,T,oT,ts,e1,e2,e3,e4,PySem.W.hideAll_none _ (by simp),e5,e6,e7,e8⟩
 exact List.mem_cons_of_mem _ (List.mem_cons_of_mem _ (List.mem_filterMap.mpr ⟨env,he,hb⟩))
theorem zM8 {P:Program} {w:World} {fs ts:List Addr} {l l':List Env} {H0 H:Hp} {h0 h1 h2 B:Heap} {a:Addr} {cls:Value} {od:Option Addr} (u:Un fs [] H0 H h0 h1) (ok:HOk P w H h1) (ff:h1.FunFrames B l)
   (hl:∀ b∈frs l,(b∈fs\/h0.get? b=none)/\H b=none) (ha:H a=none/\h0.get? a=none) (hts:∀ T∈ts,H T=none/\h0.get? T=none)
   (x:FlD (PySem.W.hideAll h1 (a::(ts++frs l))) l' a cls od .none h2) (up:h1.UpToSlots h2):Un fs [] H0 H h0 h2/\HOk P w H h2/\FlyD h2 H h0 a cls od:=by
 obtain ⟨st,_,_,oe,vs,T,oT,tv,e1,e2,e3,e4,e5,e6,e7,e8,e9⟩:=x
 have keep:∀ b o,b∉a::(ts++frs l)->h1.get? b=some o->h2.get? b=some o:=fun b o hb e=>st b o (PySem.W.hideAll_get _ e hb)
 have out:∀ b,b∈a::(ts++frs l)->H b=none/\(b∈frs l\/h0.get? b=none):=fun b hb=>by
   rcases List.mem_cons.mp hb with rfl | hb
   . exact⟨ha.1,.inr ha.2⟩
   . rcases List.mem_append.mp hb with hb | hb
     . exact⟨(hts b hb).1,.inr (hts b hb).2⟩
     . exact⟨(hl b hb).2,.inl hb⟩
 have slot:∀ b o,h0.get? b≠none->h1.get? b=some o->∃ sl,h2.get? b=some { o with slots:=sl }:=fun b o n e=>by
   by_cases hb:b∈a::(ts++frs l)
   . rcases (out b hb).2 with q | q
     . obtain ⟨_,o',ho,hn⟩:=ff.mem q
       rw[e] at ho;cases ho
       exact up b o e hn
     . exact absurd q n
   . exact⟨o.slots,keep b o hb e⟩
 refine⟨⟨fun b o e n hf hx=>?_,fun b o e n hf hx=>?_,u.free,fun b o e hx=>?_,u.tups,u.frzs,u.tbls⟩,fun b o q=>?_,ha,T,?_,oe,vs,oT,tv,e1,e2,e3,e4,e6,e7,e8,e9⟩
 . refine keep b o (fun hb=>?_) (u.keep b o e n hf hx)
   rcases (out b hb).2 with q | q
   . rcases (hl b q).1 with q | q
     . exact hf q
     . rw[e] at q;cases q
   . rw[e] at q;cases q
 . obtain ⟨sl,q⟩:=u.slot b o e n hf hx
   obtain ⟨sl',q'⟩:=slot b _ (by rw[e];simp) q
   exact⟨sl',q'⟩
 . obtain ⟨o',q⟩:=u.there b o e hx
   obtain ⟨sl',q'⟩:=slot b _ (by rw[e];simp) q
   exact⟨_,q'⟩
 . refine (ok b o q).stay (fun c v hc qv=>keep c v (fun hm=>?_) qv) (fun _ z=>z) fun _ _ z=>z
   have n:=(out c hm).1
   rcases hc with rfl | hc
   . rw[q] at n;cases n
   . rw[hc] at n;cases n
 . by_cases hm:T∈a::(ts++frs l)
   . rcases List.mem_cons.mp hm with z | hm
     . exact absurd z e6
     . rcases List.mem_append.mp hm with hm | hm
       . exact hts T hm
       . obtain ⟨_,o',ho,hn⟩:=ff.mem hm
         obtain ⟨sl,z⟩:=up T o' ho hn
         rw[e7] at z;cases z
         exact absurd e8 (hn tv)
   . have n1:h1.get? T=none:=by
       cases q:h1.get? T with
       | none=>rfl
       | some o=>rw[PySem.W.hideAll_get _ q hm] at e5;cases e5
     refine⟨?_,?_⟩
     . cases q:H T with
       | none=>rfl
       | some o=>obtain ⟨ob,z⟩:=(ok T o q).got;rw[n1] at z;cases z
     . cases q:h0.get? T with
       | none=>rfl
       | some o=>obtain ⟨ob,z⟩:=u.there T o q (by simp);rw[n1] at z;cases z
noncomputable def CXD (P:Program) (w:World):CXT:=fun outer H s E e s'=>∃ a cls od H',e = .ref a/\s'.os=s.os/\AllBare s'.gens/\Un (frs outer) [] H H' s.heap s'.heap/\HOk P w H' s'.heap/\FlyD s'.heap H' s.heap a cls od/\E cls od H'
noncomputable def zQ4 (X:Cx) (E:XK):Prop:=∀ (pins:List (Addr×Obj)) (σ:St) (H:Hp) (s:Shared) (x C:Addr) (od:Option Addr),Inv X pins σ H s->H x=some (ExcO C x od)->X.s₀.heap.get? x=none->E (.ref C) od (del H x)->X.xe (.ref x) s
theorem Inv.leftD {X:Cx} {pins:List (Addr×Obj)} {σ:St} {H:Hp} {s:Shared} {a:Addr} {od:Option Addr} {cls:Value} {ts:List Addr} {h2:Heap} {l':List Env} (I:Inv X pins σ H s) (hex:X.ex=[]) (ha:H a=none/\X.s₀.heap.get? a=none) (hts:∀ T∈ts,H T=none/\X.s₀.heap.get? T=none)
   (x:FlD (PySem.W.hideAll s.heap (a::(ts++frs X.stack))) l' a cls od .none h2) (up:s.heap.UpToSlots h2):Un X.fs [] X.H₀ H X.s₀.heap h2/\HOk X.prog X.w H h2/\FlyD h2 H X.s₀.heap a cls od:=by
 have u:=I.base
 rw[hex] at u
 refine zM8 u I.hok I.stack (fun b hb=>⟨?_,I.stkFree b hb⟩) ha hts x up
 rcases List.mem_cons.mp (I.stkSub b hb) with z | z
 . right;rw[z];exact Heap.get?_none_of_le I.ok.above
 . exact .inl z
section
variable {P:Program} {w:World} {K:PySem.W.Frag} {mg:Str->Option Value} {base:Heap} {N:List Str} {qual:Str} {scope:Scope} {f:Addr} {cd:Value} {A:Around} {outer:List Env} {s:Shared} {H:Hp} {E:XK}
theorem zh7:zQ4 (cxOf (CXD P w) P w K mg base N qual scope f cd A outer s H E) E:=by
 intro pins σ H1 s1 x C od I e n q
 obtain ⟨t,hx⟩:=zL3 I e
 have J:=I.del e
 have hd:del H1 x x=none:=zM6 _ _
 refine leave_first (base:=PySem.W.hideAll s1.heap (x::([]++frs (cxOf (CXD P w) P w K mg base N qual scope f cd A outer s H E).stack))) (outer:=outer) (L:=s.heap.objs.size) I.ok.frames ?_ rfl hx (fun b o z=>PySem.W.of_hideAll _ z) (PySem.W.hideAll_none _ List.mem_cons_self) rfl rfl fun h' hL up=>?_
 . exact PySem.W.funFrames_hide I.stack fun env he b hb=>List.mem_cons_of_mem _ (List.mem_filterMap.mpr ⟨env,he,hb⟩)
 . obtain ⟨u,ok,fl⟩:=J.leftD (ts:=[]) rfl ⟨hd,n⟩ (fun _ z=>nomatch z) hL up
   exact⟨x,.ref C,od,_,rfl,I.os,I.bare,u,ok,fl,q⟩
theorem zq6:zs5 (CXD P w) (cxOf (CXD P w) P w K mg base N qual scope f cd A outer s H E) E:=by
 intro pins σ H1 s1 e s2 I q
 obtain ⟨a,cls,od,H',rfl,os,bare,un,ok,fl,q⟩:=q
 have J:=I.call' (ch:=[]) os un ok bare fun b z=>nomatch z
 have fl':FlyD s2.heap H' s.heap a cls od:=fl.from fun b o z=>I.base.there b o z (fun z=>nomatch z)
 obtain ⟨T,z,fw⟩:=fl'.flying J.stack
 refine leave_on J.ok.frames rfl fw fun h' fw' up=>?_
 obtain ⟨u,ok',f2⟩:=J.leftD (ts:=[T]) rfl fl'.1 (fun b hb=>by rw[List.mem_singleton.mp hb];exact z) fw' up
 exact⟨a,cls,od,H',rfl,J.os,J.bare,u,ok',f2,q⟩
theorem FunD.okD {CX:CXT} {x qual:Str} {st:Stmt} {fd:FuncData} {N ps:List Str} {k:Nat} {sp:Sp} (F:FunD K x qual st f fd) (S:zc0 N ps (za5 st)) (len:∀ vs H Q E,sp vs H Q E->vs.length=ps.length)
   (hbody:∀ (cdv:Value) (A:Around) (outer:List Env) (s:Shared) (H:Hp) (vs:List V) (Q:VK) (E:XK),Room k (A.deeper (envOfC qual (za5 st) s.heap.objs.size f cdv))->sp vs H Q E →
     ∃ t,PSs (cxOf (CXD P w) P w K mg base N qual (za5 st) f cdv A outer s H E) (zb1 st) t/\t { nx:=fun _ H'=>Q .non H',rt:=Q } (start N vs) H):FnOk P w K mg base (CXD P w) (k+1) f fd ps sp:=by
 obtain ⟨oc,od,dV,kV,doc,pm,an,cdv,ct,osl,rfl,lk,hcd⟩:=F.ex
 refine zS4 lk hcd S len fun A outer s H vs Q E hr hsp=>?_
 obtain ⟨t,h,q⟩:=hbody cdv A outer s H vs Q E hr hsp
 exact⟨t,h,q⟩
end
section
variable {X:Cx} {CX:CXT} {k:Nat} {f C:Addr} {fd:FuncData} {ps:List Str} {sp:Sp} {dvs:List V} {ds:List Value} {E Ei:XK} {x m:Str} {p pos cpos apos:Pos} {e:Expr} {es:List Expr} {t:TA}
noncomputable def tRaiseD (C:Addr) (sp:Sp) (dvs:List V) (Ei E:XK) (t:TA):TS:=fun _ σ H=>t σ H fun vs H1=>vs.length<=sizeLine/\∀ x,H1 x=none →
 sp (.ref x::(vs++dvs)) (upd H1 x (ExcO C x none)) (fun v H2=>v = .non/\∃ od,H2 x=some (ExcO C x od)/\E (.ref C) od (del H2 x)) Ei
theorem zj6 (R:zQ4 X E) (hc:X.calm=true) (c:XCls X.K C) (hi:PySem.W.findIn X.K (.ref C) "__init__" = some (some (.ref f))) (hf:PySem.W.isFn X.K (.ref f)=true) (F:FnOk X.prog X.w X.K X.mg X.base CX k f fd ps sp) (hr:Room (k+1) X.A) (hg:Gl X x) (hm:X.mg x=some (.ref C)) (hb:zc7 X.K fd ps ds) (hd:Vals dvs ds) (hx:zs5 CX X Ei)
   (ha:PA X (e::es) t) (hdb:(x == ("__debug__" : Str))=false:=by decide) (he:starEach (e::es) X.env=(false,eval e X.env)::starEach es X.env:=by rfl) (hpl:(backTo cpos (starEach es X.env)).any (·.1)=false:=by rfl) :
   PS X (.Raise (some (.Call (.Name x p) (e::es) [] cpos)) none pos) (tRaiseD C sp dvs Ei E t):=by
 intro pins s σ H D I h
 obtain ⟨nm,qn,N,bs,bm,sn,sub,ab,col,dd,k0,k1,k2,k3,k5,hK,m⟩:=c.ob
 rw[arm_exec_Raise]
 simp only[evalOpt,Option.map]
 refine wpAny_bind (wpAny_standAt (xraise (C:=C) m (I.ok.hd hc) (hdct:=true) (nm:=nm) (q:=qn) (N:=N) (bs:=bs) (sn:=sn) (sub:=sub) (ab:=ab) (col:=col) (dd:=dd) (k0:=k0) (k1:=k1) (k2:=k2) (k3:=k3) (k5:=k5) (newId:="ValueError.__new__") ?_))
 refine wpAny_bind (wpAny_mono (wpAny_Call_Name_kw (zx4 I hg hm ?_ hdb)) (fun v s3 h3=>wpAny_bind (wpAny_standAt (wpAny_pure h3))) fun _ _ z=>z)
 refine PySem.W.callWith_K (h₀:=X.base) I.ok.mod.kin c.kp (thn (ha cpos pins s σ H _ I h) fun us s1 ⟨vs,H1,I1,r,hv,q⟩=>⟨I1.kIn,?_⟩) he hpl
 refine thn (run_xmake2 (Q:=fun x H2=>∃ od,H2 x=some (ExcO C x od)/\E (.ref C) od (del H2 x)) c hi hf F hr hb hd hx I1 r hv q) fun v s2 ⟨ev,H2,I2,od,e2,q2⟩=>?_
 obtain ⟨t2,hx2⟩:=zL3 I2 e2
 exact⟨_,_,_,ev,I2.kIn _ _ hK,hx2,R pins σ H2 s2 _ C od I2 e2 (Heap.get?_none_of_le (Nat.le_trans I1.sz (Nat.le_succ _))) q2⟩
end
/-! ### try .. except D as n -/
noncomputable def Cx.inTryD (X:Cx) (pins:List (Addr×Obj)) (Ex:St->XK):Cx:={ X with pn:=X.pn++pins,xe:=fun e s1=>∃ σ H s,Inv X pins σ H s/\CXD X.prog X.w X.stack H s (Ex σ) e s1 }
section
variable {X:Cx} {pins pins':List (Addr×Obj)} {σ:St} {H:Hp} {s:Shared} {Ex:St->XK} {D:Ends} {fl:Flow}
theorem Inv.inTryD (I:Inv X pins σ H s) (Ex:St->XK):Inv (X.inTryD pins Ex) [] σ H s :=
 let ok:=I.ok
 ⟨⟨ok.mod,ok.kind,ok.glob,ok.blt,ok.above,ok.inj,ok.has,ok.cab,ok.hd,ok.frames,ok.stk,ok.exf,ok.bs,ok.bsz,ok.noex,ok.exfs,ok.funs,ok.frf⟩,I.os,I.bare,I.base,I.loc,I.cell,I.free,I.freeC,fun p hp=>I.pin p (by
   rw[List.append_nil] at hp;exact hp),I.hok,I.len⟩
theorem Inv.outTryD (I:Inv (X.inTryD pins Ex) pins' σ H s):Inv X pins σ H s :=
 let ok:=I.ok
 ⟨⟨ok.mod,ok.kind,ok.glob,ok.blt,ok.above,ok.inj,ok.has,ok.cab,ok.hd,ok.frames,ok.stk,ok.exf,ok.bs,ok.bsz,ok.noex,ok.exfs,ok.funs,ok.frf⟩,I.os,I.bare,I.base,I.loc,I.cell,I.free,I.freeC,fun p hp=>I.pin p (List.mem_append_left _ hp),I.hok,I.len⟩
theorem SP.outTryD (h:SP (X.inTryD pins Ex) pins' D fl s):SP X pins D fl s:=by
 cases fl with
 | next=>obtain ⟨σ',H',I,q⟩:=h;exact⟨σ',H',I.outTryD,q⟩
 | brk=>obtain ⟨σ',H',I,q⟩:=h;exact⟨σ',H',I.outTryD,q⟩
 | cont=>obtain ⟨σ',H',I,q⟩:=h;exact⟨σ',H',I.outTryD,q⟩
 | ret u=>obtain ⟨v,σ',H',I,r,q⟩:=h;exact⟨v,σ',H',I.outTryD,r,q⟩
theorem zD9:zE7 (CXD X.prog X.w) (X.inTryD pins Ex) Ex:=fun pins' σ H s e s' I q=>⟨σ,H,s,I.outTryD,q⟩
end
noncomputable def zA3 (cls:Value) (a:Addr) (od:Option Addr):HO:=.ext fun h=>∃ oe,h.get? a=some oe/\(oe.cls=cls/\oe.dict=od)/\∃ vs,oe.data = .fields vs
theorem landD_ok {P:Program} {w:World} {H:Hp} {h:Heap} {a:Addr} {cls:Value} {od:Option Addr} {oe:Obj} (e:h.get? a=some oe) (hc:(oe.cls=cls/\oe.dict=od)/\∃ vs,oe.data = .fields vs):zi0 P w H h a (zA3 cls a od):=⟨⟨oe,e,hc⟩,⟨_,e⟩,fun h1 h2 ⟨t,e1,c1⟩ k=>⟨t,k _ e1,c1⟩⟩
section
variable {X:Cx} {D:Addr} {Ex:St->XK} {x n:Str} {i:Nat} {p pos hpos:Pos} {body suite:List Stmt} {b₀:Stmt} {tb th:TS}
noncomputable def tTryD (K:PySem.W.Frag) (Ex:St->XK) (D:Addr) (i:Nat) (tb th:TS):TS:=fun D' σ H=>tb D' σ H/\∀ σ' cls od H' a,Ex σ' cls od H'->H' a=none->PySem.W.exmOne K cls (.ref D)=some true/\th (D'.forget i) (σ'.set i (some (.ref a))) (upd H' a (zA3 cls a od))
theorem ps_tryD (hs:X.stack=X.env::X.outer/\X.env.frame=some X.env.locals) (hg:Gl X x) (hm:X.mg x=some (.ref D)) (hN:X.N.Nodup) (hi:X.N[i]?=some n) (hk:X.env.scope.names.lookup n=some .local) (hb:∀ pins,PSs (X.inTryD pins Ex) body tb) (hh:∀ e,PSs (X.caught e) (b₀::suite) th)
   (hdb:(x == ("__debug__" : Str))=false:=by decide) :
   PS X (.Try body [.ExceptHandler (some (.Name x p)) (some n) (b₀::suite) hpos] [] [] pos) (tTryD X.K Ex D i tb th):=by
 intro pins s σ H D' I h
 obtain ⟨h1,h2⟩:=h
 refine wpAny_Try_except (wpAny_mono (hb pins [] s σ H D' (I.inTryD Ex) h1) (fun f s1 q=>?_) fun e s1 q=>?_)
 . cases f with
   | next=>exact wpAny_execs_nil (SP.outTryD (fl:=.next) q)
   | brk=>exact SP.outTryD (fl:=.brk) q
   | cont=>exact SP.outTryD (fl:=.cont) q
   | ret u=>exact SP.outTryD (fl:=.ret u) q
 . obtain ⟨σ0,H0,s0,I0,a,cls,od,H',rfl,os,bare,un,ok,fl,q⟩:=q
   obtain ⟨ec,qh⟩:=h2 σ0 cls od H' a q fl.1.1
   have J:=I0.call' (ch:=[]) os un ok bare fun b z=>nomatch z
   have ff:=J.stack
   have ha0:=fl.1
   obtain ⟨T,z,fw⟩:=fl.flying ff
   have fr:X.A.frames=some (X.env::X.outer):=by rw[<-hs.1];exact J.ok.frames
   rw[hs.1] at fw
   refine zQ3 fr hs.2 fw fun h1 held up1=>?_
   refine zA2 held fun h2 fw2 up2=>?_
   have st0:∀ (h':Heap),FlD (PySem.W.hideAll s1.heap (a::([T]++frs (X.env::X.outer)))) (X.env::X.outer) a cls od .none h'->s1.heap.UpToSlots h'->Un (frs X.stack) [] H0 H' s0.heap h'/\HOk X.prog X.w H' h':=fun h' fw' up'=>by
     obtain ⟨u,ok',_⟩:=zM8 (l:=X.env::X.outer) un ok (by rw[<-hs.1];exact ff) (fun b hb=>by rw[<-hs.1] at hb;exact⟨.inl hb,J.stkFree b hb⟩) fl.1 (ts:=[T]) (fun b hb=>by rw[List.mem_singleton.mp hb];exact z) fw' up'
     exact⟨u,ok'⟩
   have J2:Inv X pins σ0 H' { s1 with heap:=h2 }:=I0.call' (ch:=[]) (s':={ s1 with heap:=h2 }) os (st0 h2 fw2 (up1.trans up2)).1 (st0 h2 fw2 (up1.trans up2)).2 bare fun b z=>nomatch z
   refine wpAny_handleBy_cons (codeAny_handlers_test ?_) (by intro q;cases q)
   refine zx4 (X:=X.caught (.ref a)) (J2.caught _) hg hm ?_ hdb
   obtain ⟨oe,he,⟨hcls,_⟩,_⟩:=fw2.there
   have LT:PySem.W.Looks (model X.prog X.w) h2 (typeOf (.ref a)) cls:=by
     subst hcls
     exact (PySem.W.Looks.ld he).andThen .now
   refine (PySem.W.exm_one J2.kIn LT ec) _ _ _ _ (fun _ _ e=>e) ?_
   show codeAny _ _ _ _ _
   refine codeAny_handlers_suite_as (zA2 fw2 fun h3 fw3 up3=>?_)
   obtain ⟨u3,ok3⟩:=st0 h3 fw3 ((up1.trans up2).trans up3)
   obtain ⟨oe3,he3,hc3⟩:=fw3.there
   have nea:∀ b u,H' b=some u->b≠a:=fun b u e w=>by rw[w,ha0.1] at e;cases e
   have J3:Inv X pins σ0 (upd H' a (zA3 cls a od)) { s1 with heap:=h3 }:=by
     refine I0.call' (ch:=[]) (s':={ s1 with heap:=h3 }) os ⟨u3.keep,u3.slot,fun b o e n hx=>?_,u3.there,fun b xs e=>?_,fun b o u e=>?_,fun b ps e=>?_⟩ (fun b o e=>?_) bare fun b z=>nomatch z
     . rw[za7 (fun w=>by rw[w,ha0.2] at e;cases e)];exact u3.free b o e n hx
     . rw[za7 (nea b _ (u3.tups b xs e))];exact u3.tups b xs e
     . rw[za7 (nea b _ (u3.frzs b o u e))];exact u3.frzs b o u e
     . obtain ⟨more,e1⟩:=u3.tbls b ps e
       exact⟨more,by rw[za7 (nea b _ e1)];exact e1⟩
     . by_cases hb:b=a
       . subst hb
         rw[za2] at e;cases e
         exact landD_ok he3 hc3
       . rw[za7 hb] at e
         exact (ok3 b o e).stay (fun _ _ _ q=>q) (fun c q=>by rw[za7 (nea c _ q)];exact q) fun c xs q=>by rw[za7 (nea c _ q)];exact q
   refine zv1 (X:=X.caught (.ref a)) (v:=.ref a) (J3.caught _) hN hi (.inl hk) rfl (fun s4 J4=>?_) (.inr hk)
   refine wpAny_mono (hh (.ref a) pins s4 _ _ (D'.forget i) J4 qh) (fun f s' r=>?_) fun _ _ z=>False.elim z
   have r:=SP.uncaught I.ok.hd r
   cases f with
   | next=>obtain ⟨σ',H'',I',q'⟩:=r;exact zE8 I' hN hi hk fun s5 J5=>⟨_,_,J5,q'⟩
   | brk=>obtain ⟨σ',H'',I',q'⟩:=r;exact zE8 I' hN hi hk fun s5 J5=>⟨_,_,J5,q'⟩
   | cont=>obtain ⟨σ',H'',I',q'⟩:=r;exact zE8 I' hN hi hk fun s5 J5=>⟨_,_,J5,q'⟩
   | ret u=>obtain ⟨v,σ',H'',I',rr,q'⟩:=r;exact zE8 I' hN hi hk fun s5 J5=>⟨v,_,_,J5,rr,q'⟩
end
end L2
/-! EXCEPTIONS WITH THEIR DICT,3: a landed exception's fields,isinstance of it -/
namespace L2
open PySem PySem.Spec PyProof.Rows
/-! ### an exception is asked: its __getattribute__ is BaseException's -/
theorem check_gaX {M:Model} {A:Around} {E:Value->Shared->Prop} {K:W.Frag} {h:Heap} {g:Array GenState} {d:Drawn} {t:Nat} {os:OsState} {x C:Addr} {ox:Obj} {od:Option Obj} {nameV:Value} {Q:Unit->Shared->Prop}
   (X:K.In h) (I:W.InstAt h x ox C od) (hbe:W.mroIn K C (.type "BaseException")=some true) (q:Q () { heap:=h,gens:=g,drawn:=d,toks:=t,os:=os }) :
   wpAny M A (checkBuiltinCall "BaseException.__getattribute__" { pos:=[Value.ref x,nameV] }) Q E { heap:=h,gens:=g,drawn:=d,toks:=t,os:=os }:=by
 have hk:builtinKind "BaseException.__getattribute__" = some Manifest.AttrKind.slot:=by decide +kernel
 have hs:splitId "BaseException.__getattribute__" = some ("BaseException","__getattribute__"):=by decide +kernel
 have ha:=F.args_bexc_ga (Value.ref x) nameV
 have L0:=W.InstAt.type I (M:=M)
 have L4:=W.looks_mroIn (M:=M) X hbe
 unfold checkBuiltinCall
 simp only[hk,hs]
 refine wpAny_bind ?_
 unfold isInstance
 refine wpAny_bind (W.Looks.at L0 (W.Looks.at L4 ?_))
 refine wpAny_ite_false rfl ?_
 exact wpAny_of_eq ha q
theorem kin_classX {prog:Program} {w:World} {A:Around} {E:Value->Shared->Prop} {s:Shared} {K:W.Frag} {x D:Addr} {ox od:Obj} {Q:Option Value->Shared->Prop}
   (hga:W.findIn K (.ref D) "__getattribute__" = some (some (.builtin "BaseException.__getattribute__")))
   (hgt:W.findIn K (.ref D) "__getattr__" = some none)
   (hbe:W.mroIn K D (.type "BaseException")=some true)
   (hdct:W.hasDictIn K D=true) (ha:W.findIn K (.ref D) "__class__" = some (some (.builtin "object.__class__")))
   (hn:W.specialIn K (.builtin "object.__class__") "__get__" = some (some (.builtin "getset_descriptor.__get__")))
   (htk:W.takesIn K (.builtin "object.__class__")=some true) (hm:W.mroIn K D (.type "object")=some true)
   (X:K.In s.heap) (I:W.InstAt s.heap x ox D (some od)) (h:Q (some (.ref D)) { s with toks:=s.toks+1 }) :
   wpAny (model prog w) A (getAttr? (.ref x) "__class__") Q E s:=by
 have hf:W.findObj K D (some od) "__class__" = some (.bind (.builtin "getset_descriptor.__get__") (.builtin "object.__class__")) :=
   W.findObj_data (by obtain ⟨cd,hc,_⟩:=W.any_some hdct;rw[hc];rfl) ha hn htk
 obtain ⟨hh',g,d,t,os⟩:=s
 have L0:=W.InstAt.type I (M:=model prog w)
 have L1:=W.looks_findIn (M:=model prog w) X hga
 have L2:=W.looks_findIn (M:=model prog w) X hgt
 have L3:=W.looks_find (M:=model prog w) X I hf
 unfold getAttr?
 refine wpAny_bind (wpAny_mkText ?_)
 unfold getAttrBy?
 refine wpAny_bind (wpAny_attempt ?_)
 unfold getAttrBy
 refine wpAny_holding (wpAny_bind (W.Looks.at L0 (wpAny_bind (W.Looks.at L1 ?_))))
 refine wpAny_ite_false rfl ?_
 unfold getAttrByItsOwn
 refine wpAny_bind ?_
 unfold hookBefore
 refine wpAny_ite_true rfl (W.Looks.at L2 ?_)
 refine wpAny_bind (wpAny_attempt (wpAny_holding ?_))
 unfold callGetattribute
 refine wpAny_ite_false rfl ?_
 unfold boundAndCalled
 refine wpAny_bind (wpAny_of_eq (F.attr_ValueError.ga.bind (Value.ref x)) ?_)
 refine wpAny_call (codeAny_call_builtin F.attr_ValueError.ga.plain F.entry_bexc_ga ?_)
 refine check_gaX X I hbe ?_
 unfold Builtin.«object.__getattribute__»
 refine wpAny_bind (wpAny_of_eq (a:=(Value.ref x,[Value.str "__class__" t])) rfl ?_)
 refine wpAny_bind (wpAny_pure (wpAny_bind (W.Looks.at L0 (wpAny_bind (W.Looks.at L3 ?_)))))
 show wpAny _ _ (Builtin.ObjectAttr.bindTo (.builtin "getset_descriptor.__get__") (.builtin "object.__class__") (.ref x) (.ref D)) _ _ _
 unfold Builtin.ObjectAttr.bindTo
 refine wpAny_bind (wpAny_holding (wpAny_call (W.class_get X I hm ?_)))
 refine wpAny_pure ?_
 show wpAny (model prog w) A (handedOut (.ref D)) _ _ _
 refine W.handed_on rfl ?_
 exact wpAny_pure h
theorem kitx_X {K:W.Frag} {x D:Addr} {ox od:Obj}
   (hga:W.findIn K (.ref D) "__getattribute__" = some (some (.builtin "BaseException.__getattribute__")))
   (hgt:W.findIn K (.ref D) "__getattr__" = some none)
   (hbe:W.mroIn K D (.type "BaseException")=some true)
   (hdct:W.hasDictIn K D=true) (ha:W.findIn K (.ref D) "__class__" = some (some (.builtin "object.__class__")))
   (hn:W.specialIn K (.builtin "object.__class__") "__get__" = some (some (.builtin "getset_descriptor.__get__")))
   (htk:W.takesIn K (.builtin "object.__class__")=some true) (hm:W.mroIn K D (.type "object")=some true) :
   W.KitX K (.ref x) (.ref D) fun h=>W.InstAt h x ox D (some od):=by
 have hl:∃ c dd cd sl,List.lookup D K=some { cls:=c,dict:=dd,data:=.cls cd,slots:=sl }:=by
   obtain ⟨cd,hc,_⟩:=W.any_some hdct
   unfold W.clsIn at hc
   split at hc
   . rename_i c dd cd' sl e
     exact⟨_,_,_,_,e⟩
   . cases hc
 obtain ⟨c,dd,cd,sl,hl⟩:=hl
 refine⟨fun _ _ _ I=>W.InstAt.type I,fun M h X _=>?_,fun h tp dd' its n sl' X htp=>?_,fun X I k=>kin_classX hga hgt hbe hdct ha hn htk hm X I k⟩
 . intro A' Q' E' s' k q
   exact wpAny_bind (wpAny_loadPart (k D _ (X D _ hl)) (wpAny_pure q))
 . refine Bool.eq_false_iff.mpr fun q=>?_
   have e:=Value.ref.inj (beq_iff_eq.mp q)
   subst e
   have z:=(X D _ hl).symm.trans htp
   cases z
structure XAsk (K:PySem.W.Frag) (C:Addr):Prop where
 ga:PySem.W.findIn K (.ref C) "__getattribute__" = some (some (.builtin "BaseException.__getattribute__"))
 gt:PySem.W.findIn K (.ref C) "__getattr__" = some none
 be:PySem.W.mroIn K C (.type "BaseException")=some true
 hd:PySem.W.hasDictIn K C=true
 kc:PySem.W.findIn K (.ref C) "__class__" = some (some (.builtin "object.__class__"))
 mo:PySem.W.mroIn K C (.type "object")=some true
structure XWay (K:PySem.W.Frag):Prop where
 gt:PySem.W.specialIn K (.builtin "object.__class__") "__get__" = some (some (.builtin "getset_descriptor.__get__"))
 tk:PySem.W.takesIn K (.builtin "object.__class__")=some true
section
variable {X:Cx} {pins:List (Addr×Obj)} {σ:St} {H:Hp} {s:Shared}
theorem land_at {C a dx:Addr} {fs:List (Str×V)} (I:Inv X pins σ H s) (e:H a=some (zA3 (.ref C) a (some dx))) (ed:H dx=some (.xd fs)) :
   ∃ ox ob,PySem.W.InstAt s.heap a ox C (some ob)/\∃ mA:Str->Option Value,(∀ n,PySem.W.lookIn n ob=some (mA n))/\∀ g,RelO (fs.lookup g) (mA g):=by
 obtain ⟨ox,g1,⟨g2,g3⟩,vs,g4⟩:=(I.hok a _ e).1
 obtain ⟨_,mA,hn,r,_⟩:=I.hok dx _ ed
 obtain ⟨ob,h1,h2⟩:=zH4 hn
 refine⟨ox,ob,⟨g1,g2,?_,?_⟩,mA,h2,r⟩
 . unfold PySem.W.notCls
   rw[g4]
 . rw[g3];exact h1
noncomputable def rIsX (K:PySem.W.Frag):List V->Hp->VK->Prop:=fun xs H Q=>∃ a D dx fs cv c b,xs=[.ref a,cv]/\ClsV cv c/\H a=some (zA3 (.ref D) a (some dx))/\H dx=some (.xd fs)/\XAsk K D/\XWay K/\PySem.W.kitOne K (.ref D) c=some b/\Q (.bl b) H
theorem call_isX:zs7 X (.builtin "isinstance") (rIsX X.K):=by
 intro pins s σ H xs us Q I r h
 obtain ⟨a,D,dx,fs,cv,c,b,rfl,hc,ea,ed,k,w,e,q⟩:=h
 obtain ⟨u,w',rfl,ru,rw'⟩:=zH2 r
 have ew:w'=c:=by
   cases hc with
   | ty n=>exact rw'
   | own C=>exact rw'
 subst ew
 cases (show u=Value.ref a from ru)
 obtain ⟨ox,ob,J,_⟩:=land_at I ea ed
 exact PySem.W.kia_one (kitx_X k.ga k.gt k.be k.hd k.kc w.gt w.tk k.mo) I.kIn J e (fun z=>nomatch z) fun tk=>⟨.bl b,H,I.tok tk,rfl,q⟩
theorem zr5 {K:PySem.W.Frag} {C:Addr} {T:String} {b:Bool} (hm:PySem.W.kitMeta T=true) (h4:PySem.W.subIn K (.ref C) (.type T)=some b):PySem.W.kitOne K (.ref C) (.type T)=some b:=by
 unfold PySem.W.kitOne PySem.W.kitCls
 rw[if_neg (by simp)]
 show (if PySem.W.kitMeta T=true then _ else _)=_
 rw[if_pos hm]
 exact h4
theorem zn4 {K:PySem.W.Frag} {C:Addr}:PySem.W.kitOne K (.ref C) (.ref C)=some true:=by
 unfold PySem.W.kitOne
 rw[if_pos (by simp)]
end
theorem boot_VE:bootBuiltins (Str.ofString "ValueError")=some (.type "ValueError"):=by decide +kernel
/-! ### readings that name K itself -/
theorem zj7 {X:Cx} (K:PySem.W.Frag) (h:X.K=K):zs7 X (.builtin "isinstance") (rIsX K):=by
 subst h;exact call_isX
end L2
/-! TEXTS over the layer: methods,slices,walks,int of a text,all of bools -/
namespace L2
open PySem PySem.Spec PyProof.Rows
section
variable {X:Cx}
theorem strsAre_of:∀ {ys:List Str} {us:List Value},Vals (ys.map V.str) us->StrsAre us ys:=by
 intro ys
 induction ys with
 | nil=>intro us r;rw[List.map_nil] at r;cases r;exact .nil
 | cons y ys ih =>
   intro us r
   rw[List.map_cons] at r
   cases r with
   | cons r1 r2 =>
     obtain ⟨t,e⟩:=r1
     subst e
     exact .cons y t (ih r2)
noncomputable def rJoin (K:PySem.W.Frag):V->List V->Hp->VK->Prop:=fun x vs H Q=>∃ (z:Str) (l:Addr) (ys:List Str),x = .str z/\vs=[.ref l]/\SqL K H l (ys.map V.str)/\(ys.map (·.length)).sum+ys.length*z.length<=16777216/\Q (.str (Txt.join z ys)) H
theorem mt_join:MtR X "str.join" (rJoin X.K):=by
 intro pins s σ H x vs v us Q I rx rv h
 obtain ⟨z,l,ys,rfl,rfl,hS,hz,q⟩:=h
 obtain ⟨t,rfl⟩:=rx
 obtain ⟨u,rfl,ru⟩:=rv.one
 cases ru
 obtain ⟨its,r,p,_⟩:=I.list hS
 exact join_list p.isList (strsAre_of r) hz fun t' k=>⟨.str (Txt.join z ys),H,I.tok _,⟨_,rfl⟩,q⟩
/-! ### x[lo:hi] of a text -/
/-! ### int(text) -/
/-! ### all of bools -/
/-! ### a text walked -/
/-! ### for x,y in zip(..) -/
/-! ### a list == [] -/
noncomputable def rEqE (K:PySem.W.Frag):R2:=fun x y H Q=>∃ a b xs,x = .ref a/\y = .ref b/\SqL K H a xs/\SqL K H b []/\Q (.bl xs.isEmpty) H
theorem zT0 {X:Cx} (hu:X.A.units<cLine):OpR X (compareOp .Eq) (rEqE X.K):=by
 intro pins s σ H x y v u Q I rx ry h
 obtain ⟨a,b,xs,rfl,rfl,ha,hb,q⟩:=h
 cases rx
 cases ry
 obtain ⟨its,r,⟨o1,n1,g1,g2,_,g3⟩,hz⟩:=I.list ha
 obtain ⟨its2,r2,⟨o2,n2,g4,g5,_,g6⟩,hz2⟩:=I.list hb
 have ht:s.heap.IsList a its.toArray:=⟨o1,g1,g2,n1,g3⟩
 have ht2:s.heap.IsList b its2.toArray:=⟨o2,g4,g5,n2,g6⟩
 obtain rfl:its2=[]:=by cases r2;rfl
 cases xs with
 | nil =>
   obtain rfl:its=[]:=by cases r;rfl
   exact (PySem.SeqAt.RcAt.lists (e:=fun _=>true) ht ht2 rfl hu (fun i hi=>absurd hi (by simp))) _ _ _ _ ⟨.bl true,H,I,rfl,q⟩
 | cons x xs =>
   have hl:=r.length
   refine (PySem.SeqAt.RcAt.lists_lengths ht ht2 ?_ hu) _ _ _ _ ⟨.bl false,H,I,rfl,q⟩
   simp only[List.size_toArray,List.length_nil,<-hl,List.length_cons]
   simp
/-! ### xs.insert(i,v),0<=i<=len -/
end
end L2
/-! TEXTS: numbers,places,words -/
namespace L2
open PySem PySem.NumText
end L2
/-! COMPREHENSIONS whose block may raise,in a def that raises -/
namespace L2
open PySem PySem.Spec PyProof.Rows
section
variable {prog:Program} {w:World} {A:Around} {R:Result->Shared->Prop} {s:Shared}
end
section
variable {X:Cx} {scope:Scope} {cl:List (Str×Addr)} {C:Addr} {N':List Str} {s0:Shared} {H0:Hp} {fp:List Addr} {Ex:XK} {pins:List (Addr×Obj)} {σ:St} {H:Hp} {s:Shared}
end
section
variable {X:Cx} {scope:Scope} {N':List Str} {ix:List (Option Nat)} {tg iter elt:Expr} {ifs:List Expr} {pos:Pos} {wi:TI} {g:TG} {tif:TT} {telt:TE}
end
/-! ### the way of an exception out of a block -/
section
variable {M:Model} {A:Around} {E:Value->Shared->Prop} {s:Shared}
end
section
variable {P:Program} {w:World} {K:PySem.W.Frag} {mg:Str->Option Value} {base:Heap} {N:List Str} {qual:Str} {scope:Scope} {f:Addr} {cd:Value} {A:Around} {outer:List Env} {s:Shared} {H:Hp} {E:XK}
end
section
variable {P:Program} {w:World} {K:PySem.W.Frag} {mg:Str->Option Value} {base:Heap} {N:List Str} {qual:Str} {fsc:Scope} {f:Addr} {cd:Value} {A:Around} {outer:List Env} {ss:Shared} {HH:Hp} {E:XK}
variable {scope:Scope} {N':List Str} {ix:List (Option Nat)} {tg iter elt:Expr} {ifs:List Expr} {pos:Pos} {wi:TI} {g:TG} {tif:TT} {telt:TE}
end
end L2
namespace L2
open PySem PySem.Spec PyProof.Rows
section
variable {X:Cx} {C1 C2:Addr} {E:XK} {x1 x2:Str} {p1 p2 pos hp1 hp2:Pos} {body su1 su2:List Stmt} {b₁ b₂:Stmt} {tb th1 th2:TS}
end
end L2
/-! ### sorted() of any length: the sort's own steps,over keys that are all told apart -/
namespace Sx
open PySem PyProof.Rows
section
variable {M:Model} {A:Around} {E:Value->Shared->Prop} {s:Shared}
end
end Sx
namespace Sx
open PySem PyProof.Rows
section
variable {α:Type} {R:α->α->Prop} {T out A B A1 A2 B1 B2:List α} {z:α}
end
section
variable {α:Type} {R:α->α->Prop} {T:List α}
end
end Sx
namespace Sx
open PySem PyProof.Rows
section
variable {M:Model} {A:Around} {E:Value->Shared->Prop} {s:Shared} {κ:SortKind} {lt:Keyed->Keyed->Bool} {T T':List Keyed}
end
end Sx
namespace Sx
inductive Aa6 (p0 p1 p2 p3 p4 p5:Prop):Prop | mk (h0:p0) (h1:p1) (h2:p2) (h3:p3) (h4:p4) (h5:p5):Aa6 p0 p1 p2 p3 p4 p5
inductive Aa8 (p0 p1 p2 p3 p4 p5 p6 p7:Prop):Prop | mk (h0:p0) (h1:p1) (h2:p2) (h3:p3) (h4:p4) (h5:p5) (h6:p6) (h7:p7):Aa8 p0 p1 p2 p3 p4 p5 p6 p7
inductive Ex4 {α β γ δ:Type} (p:α->β->γ->δ->Prop):Prop | mk (a0:α) (a1:β) (a2:γ) (a3:δ) (h:p a0 a1 a2 a3):Ex4 p
inductive Ex5 {α β γ δ ε:Type} (p:α->β->γ->δ->ε->Prop):Prop | mk (a0:α) (a1:β) (a2:γ) (a3:δ) (a4:ε) (h:p a0 a1 a2 a3 a4):Ex5 p
inductive Ex7 {α β γ δ ε ζ η:Type} (p:α->β->γ->δ->ε->ζ->η->Prop):Prop | mk (a0:α) (a1:β) (a2:γ) (a3:δ) (a4:ε) (a5:ζ) (a6:η) (h:p a0 a1 a2 a3 a4 a5 a6):Ex7 p
open PySem PyProof.Rows
section
variable {M:Model} {A:Around} {E:Value->Shared->Prop} {s:Shared} {κ:SortKind} {lt:Keyed->Keyed->Bool} {T:List Keyed}
end
end Sx
namespace Sx
open PySem PyProof.Rows
section
variable {α:Type} {R:α->α->Prop} {T:List α}
end
section
variable {M:Model} {A:Around} {E:Value->Shared->Prop} {s:Shared} {κ:SortKind} {lt:Keyed->Keyed->Bool} {T:List Keyed}
end
end Sx
namespace Sx
open PySem PyProof.Rows
section
variable {α:Type}
end
section
variable {lt:Keyed->Keyed->Bool}
end
section
variable {M:Model} {A:Around} {E:Value->Shared->Prop} {s:Shared} {κ:SortKind} {lt:Keyed->Keyed->Bool} {T:List Keyed}
end
end Sx
namespace Sx
open PySem PyProof.Rows
section
variable {M:Model} {A:Around} {E:Value->Shared->Prop} {s:Shared} {κ:SortKind} {lt:Keyed->Keyed->Bool} {T:List Keyed} {ar:Array Keyed} {pd:Array (Nat×Nat×Nat)} {g:Nat}
end
end Sx
namespace Sx
open PySem PyProof.Rows
section
variable {M:Model} {A:Around} {E:Value->Shared->Prop} {s:Shared} {κ:SortKind} {lt:Keyed->Keyed->Bool} {T:List Keyed}
end
end Sx
/-! ### a dict walked by its entries,whatever its keys are -/
namespace Sx
open PySem PySem.W PySem.Calls PyProof.Rows
section
variable {prog:Program} {w:World} {A:Around} {E:Value->Shared->Prop} {s:Shared} {d it:Addr} {es:Array DictEntry} {ep i:Nat}
end
end Sx
namespace Sx
open PySem PySem.W PySem.Calls PyProof.Rows
section
variable {prog:Program} {w:World} {A:Around} {E:Value->Shared->Prop} {s:Shared}
end
end Sx
namespace L2
open PySem PySem.Spec PyProof.Rows
/-! ### lists of pairs as tables -/
section
variable {κ:Type} [DecidableEq κ]
end
/-! ### a tracked dict,its keys ints and texts or tuples of these -/
section
variable {P:Program} {w:World} {H:Hp} {h:Heap} {a:Addr}
end
section
variable {X:Cx} {pins:List (Addr×Obj)} {σ:St} {H:Hp} {s:Shared} {a:Addr} {y v:V} {u r:Value} {o:Option V} {A:Around} {E:Value->Shared->Prop}
end
section
variable {X:Cx} {o i e value:Expr} {pos pos' tpos:Pos} {td ty tv:TE}
end
end L2
namespace L2
open PySem PySem.Spec PyProof.Rows
noncomputable abbrev Tups (H:Hp) (ys:List V) (ks:List (List Int)):Prop:=Paired (fun y k=>∃ b,y = .ref b/\H b=some (.tup (k.map V.int))) ys ks
section
variable {X:Cx}
end
end L2
/-! ### sets of ints from 1 to 5: their table,told whole,so that they can be walked -/
namespace Sx
open PySem PySem.W PySem.Calls PyProof.Rows
end Sx
namespace Sx
open PySem PySem.W PySem.Calls PyProof.Rows
section
variable {prog:Program} {w:World} {A:Around} {E:Value->Shared->Prop} {s:Shared} {byT:Bool} {a:Addr} {ns:List Int} {ep:Nat}
theorem pick5 {α:Type} (es:Array α) (e2:es.size=5):(#[0,1,2,3,4]:Array Nat).filterMap (es[·]?)=es:=by
 obtain ⟨L⟩:=es
 match L,e2 with
 | [_,_,_,_,_],_=>rfl
end
end Sx
namespace Sx
open PySem PySem.W PySem.Calls PyProof.Rows
section
variable {prog:Program} {w:World} {A:Around} {E:Value->Shared->Prop} {s:Shared}
end
end Sx
namespace Sx
open PySem PySem.W PySem.Calls PyProof.Rows
section
variable {prog:Program} {w:World} {A:Around} {E:Value->Shared->Prop} {s:Shared}
end
end Sx
namespace Sx
open PySem PySem.W PySem.Calls PyProof.Rows
end Sx
namespace Sx
open PySem PySem.W PySem.Calls PyProof.Rows
section
variable {prog:Program} {w:World} {A:Around} {E:Value->Shared->Prop} {s:Shared} {a it:Addr} {es:Array (Int×Value)} {ep:Nat} {t:SetTable}
end
end Sx
namespace L2
open PySem PySem.Spec PyProof.Rows
section
variable {X:Cx}
end
end L2
namespace L2
open PySem
theorem Same.tups {H H':Hp} (s:Same H H') {ys:List V} {ks:List (List Int)} (h:Tups H ys ks):Tups H' ys ks:=Paired.mapP h fun y k ⟨b,e,hb⟩=>⟨b,e,s _ _ hb⟩
theorem zo7 {H:Hp} {l:Addr} {o u:HO} (hl:H l=some o) (ho:∀ xs,o≠.tup xs) {ys:List V} {ks:List (List Int)} (h:Tups H ys ks):Tups (upd H l u) ys ks :=
 Paired.mapP h fun y k ⟨b,e,hb⟩=>⟨b,e,by rw[za7 (fun z=>by rw[z,hl] at hb;injection hb with hb;exact ho _ hb)];exact hb⟩
theorem zx6 {H:Hp} {ys:List V} {ks:List (List Int)} (h:Tups H ys ks) {b:Addr} {k:List Int} (hb:H b=some (.tup (k.map V.int))):Tups H (ys++[.ref b]) (ks++[k]):=Paired.snoc h ⟨b,rfl,hb⟩
theorem zA4 {H:Hp}:∀ {ys:List V} {ks:List (List Int)},Tups H ys ks->∀ {i:Nat} {y:V},ys[i]?=some y->∃ b k,y = .ref b/\ks[i]?=some k/\H b=some (.tup (k.map V.int))
 | _,_,.nil,i,y,h=>by simp at h
 | _,_,.cons ⟨b,e,hb⟩ _,0,y,h=>by
   have h':some _=some y:=h
   obtain rfl:=Option.some.inj h'
   exact⟨b,_,e,rfl,hb⟩
 | _,_,.cons _ t,i+1,y,h=>by
   obtain ⟨b,k,e,hk,hb⟩:=zA4 t (i:=i) (y:=y) (by simpa using h)
   exact⟨b,k,e,by simpa using hk,hb⟩
theorem zm0 {H:Hp} {ys:List V} {ks:List (List Int)} (h:Tups H ys ks):ys.length=ks.length:=Paired.length h
end L2
namespace L2
open PySem PySem.Spec PyProof.Rows
noncomputable def zL4:Expr->Bool
 | .Starred .. => false
 | _=>true
theorem zw1 {e:Expr} {es:List Expr} {env:Env} (h:zL4 e=true):starEach (e::es) env=(false,eval e env)::starEach es env:=by
 cases e<;>first | rfl | cases h
theorem zc3 {X:Cx} {e:Expr} {es:List Expr} {te:TE} {t:TA} (ha:PE X e te) (hr:PA X es t) (hs:zL4 e=true:=by rfl):PA X (e::es) (zS3 te t):=za0 ha hr (zw1 hs)
/-! ### the rules behind a wrapper,so that what is written in a display is not run while the rules are matched -/
structure WE (X:Cx) (e:Expr) (t:TE):Prop where h:PE X e t
structure WA (X:Cx) (es:List Expr) (t:TA):Prop where h:PA X es t
structure WS (X:Cx) (st:Stmt) (t:TS):Prop where h:PS X st t
structure WSs (X:Cx) (st:List Stmt) (t:TS):Prop where h:PSs X st t
section
variable {X:Cx}
theorem zk3 {es:List Expr} {t:TA} {pos:Pos} (h:WA X es t):WE X (.List es pos) (tLst t):=⟨ze1 h.h⟩
theorem zn9 {es:List Expr} {t:TA} {pos:Pos} {x1} (h:WA X es t):WE X (.Tuple es x1 pos) (tTup t):=⟨zu6 h.h⟩
theorem zf3:WA X [] tNil:=⟨za3⟩
theorem za8 {e:Expr} {es:List Expr} {te:TE} {t:TA} (ha:WE X e te) (hr:WA X es t) (hs:zL4 e=true:=by rfl):WA X (e::es) (zS3 te t):=⟨za0 ha.h hr.h (zw1 hs)⟩
theorem we_ix {a b:Expr} {ta tb:TE} {pos:Pos} {r:R2} (hr:IxR X r) (ha:WE X a ta) (hb:WE X b tb) (hs:zP3 b):WE X (.Subscript a b pos) (tOp r ta tb):=⟨zd0 hr ha.h hb.h hs⟩
theorem zT1 {pos:Pos} {i:Nat} {x:Str} {e:Expr} {te:TE} {pos':Pos} (hN:X.N.Nodup) (hi:X.N[i]?=some x) (hx:Loc X.env.scope x) (he:WE X e te) (hs:swapsWith e (some (.Name x pos')) pos.line X.env=pure false:=by rfl) (hf:X.fn x=true\/X.env.scope.names.lookup x=some .local:=by first | exact .inl rfl | exact .inr rfl | assumption) :
 WS X (.Assign [.Name x pos'] e pos) (tAsg te (zl6 i)):=⟨zb6 hN hi hx he.h hs hf⟩
theorem zG1 {e:Expr} {te:TE} {pos:Pos} (he:WE X e te):WS X (.Return (some e) pos) (tRet te):=⟨zc4 he.h⟩
theorem zQ5 {c:Expr} {a b:List Stmt} {tc:TT} {t u:TS} {pos:Pos} (hc:PT X c tc) (ha:WSs X a t) (hb:WSs X b u):WS X (.If c a b pos) (tIfS tc t u):=⟨zd2 hc ha.h hb.h⟩
theorem zt1 {st:Stmt} {rest:List Stmt} {t u:TS} (h1:WS X st t) (h2:WSs X rest u):WSs X (st::rest) (tSeq t u):=⟨za4 h1.h h2.h⟩
theorem zA5 {st:Stmt} {t:TS} (h1:WS X st t):WSs X [st] t:=⟨za6 h1.h⟩
theorem zE9:WSs X [] zU4:=⟨zb8⟩
end
/-! ### max and min of a list of ints -/
end L2
open PySem
namespace L2
/-! ### two tuples or two lists compared,their items scalars -/
noncomputable def zQ6 (x y:V):Bool:=scal x y && (match x with | .byt _=>false | _=>true)
theorem scalE_scal {x y:V} (h:zQ6 x y=true):scal x y=true:=(Bool.and_eq_true_iff.mp h).1
theorem eqat_scal {A:Around} {s:Shared} {x y:V} {v u:Value} (hs':zQ6 x y=true) (rx:RelV x v) (ry:RelV y u):PySem.SeqAt.EqAt A s v u (decide (x=y)):=by
 have hs:=scalE_scal hs'
 cases x with
 | non =>
   cases rx
   cases y with
   | non=>cases ry;exact PySem.SeqAt.EqAt.same _
   | bl j=>cases ry;exact PySem.SeqAt.EqAt.none_bool _
   | int j=>obtain ⟨t',rfl⟩:=ry;exact PySem.SeqAt.EqAt.none_int _ _
   | str j=>obtain ⟨t',rfl⟩:=ry;exact PySem.SeqAt.EqAt.none_str _ _
   | _=>exact absurd (show false=true from hs) Bool.false_ne_true
 | bl i =>
   cases rx
   cases y with
   | non=>cases ry;exact PySem.SeqAt.EqAt.bool_none _
   | bl j=>cases ry;rw[zO2];exact PySem.SeqAt.EqAt.bool_bool _ _
   | str j=>obtain ⟨t',rfl⟩:=ry;exact PySem.SeqAt.EqAt.bool_str _ _ _
   | _=>exact absurd (show false=true from hs) Bool.false_ne_true
 | int i =>
   obtain ⟨t,rfl⟩:=rx
   cases y with
   | non=>cases ry;exact PySem.SeqAt.EqAt.int_none _ _
   | int j=>obtain ⟨t',rfl⟩:=ry;rw[zK5];exact PySem.SeqAt.EqAt.int_int _ _ _ _
   | str j=>obtain ⟨t',rfl⟩:=ry;exact PySem.SeqAt.EqAt.int_str _ _ _ _
   | _=>exact absurd (show false=true from hs) Bool.false_ne_true
 | str i =>
   obtain ⟨t,rfl⟩:=rx
   cases y with
   | non=>cases ry;exact PySem.SeqAt.EqAt.str_none _ _
   | bl j=>cases ry;exact PySem.SeqAt.EqAt.str_bool _ _ _
   | int j=>obtain ⟨t',rfl⟩:=ry;exact PySem.SeqAt.EqAt.str_int _ _ _ _
   | str j=>obtain ⟨t',rfl⟩:=ry;rw[zK6];exact PySem.SeqAt.EqAt.str_str _ _ _ _
   | _=>exact absurd (show false=true from hs) Bool.false_ne_true
 | byt i=>have:=(Bool.and_eq_true_iff.mp hs').2;cases this
 | _=>cases y<;>exact absurd (show false=true from hs) Bool.false_ne_true
noncomputable def eAt (xs ys:List V) (j:Nat):Bool:=match xs[j]?,ys[j]? with | some x,some y=>decide (x=y) | _,_=>true
theorem zQ7:∀ {xs ys:List V},xs.length=ys.length->(List.range xs.length).all (eAt xs ys)=decide (xs=ys)
 | [],[],_=>rfl
 | x::xs,y::ys,h=>by
   have ih:=zQ7 (xs:=xs) (ys:=ys) (by simpa using h)
   rw[List.length_cons,List.range_succ_eq_map,List.all_cons,List.all_map]
   have e:(eAt (x::xs) (y::ys) ∘ Nat.succ)=eAt xs ys:=by funext j;rfl
   rw[e,ih]
   show (decide (x=y) && decide (xs=ys))=_
   simp
theorem zL5:∀ {xs:List V} {us:List Value},Vals xs us->∀ {j:Nat} {x:V},xs[j]?=some x->∃ u,us[j]?=some u/\RelV x u
 | _,_,.nil,j,x,h=>by simp at h
 | _,_,.cons r t,0,x,h=>⟨_,rfl,by obtain rfl:=Option.some.inj h;exact r⟩
 | _,_,.cons r t,j+1,x,h=>zL5 t (j:=j) h
theorem eqat_items {A:Around} {s:Shared} {xs ys:List V} {us vs:List Value} (hx:Vals xs us) (hy:Vals ys vs) (hs:∀ (j:Nat) x y,xs[j]?=some x->ys[j]?=some y->zQ6 x y=true) (j:Nat) (h1:j<us.toArray.size) (h2:j<vs.toArray.size):PySem.SeqAt.EqAt A s us.toArray[j] vs.toArray[j] (eAt xs ys j):=by
 rw[List.size_toArray] at h1 h2
 have l1:=hx.length
 have l2:=hy.length
 have e1:xs[j]?=some xs[j]:=List.getElem?_eq_getElem (by omega)
 have e2:ys[j]?=some ys[j]:=List.getElem?_eq_getElem (by omega)
 unfold eAt
 rw[e1,e2]
 refine eqat_scal (hs j _ _ e1 e2) ?_ ?_
 . obtain ⟨u,hu,ru⟩:=zL5 hx e1
   rw[List.getElem_toArray]
   rw[List.getElem?_eq_getElem h1] at hu
   rw[Option.some.inj hu]
   exact ru
 . obtain ⟨u,hu,ru⟩:=zL5 hy e2
   rw[List.getElem_toArray]
   rw[List.getElem?_eq_getElem h2] at hu
   rw[Option.some.inj hu]
   exact ru
section
variable {X:Cx}
noncomputable def rEqL (K:PySem.W.Frag):R2:=fun x y H Q=>∃ a b xs ys,x = .ref a/\y = .ref b/\SqL K H a xs/\SqL K H b ys/\(∀ (j:Nat) x y,xs[j]?=some x->ys[j]?=some y->zQ6 x y=true)/\Q (.bl (decide (xs=ys))) H
theorem op_eqL (hu:X.A.units<cLine):OpR X (compareOp .Eq) (rEqL X.K):=by
 intro pins s σ H x y v u Q I rx ry h
 obtain ⟨a,b,xs,ys,rfl,rfl,ha,hb,hsc,q⟩:=h
 cases rx
 cases ry
 obtain ⟨us,r1,⟨o1,n1,g1,g2,_,g3⟩,_⟩:=I.list ha
 obtain ⟨vs,r2,⟨o2,n2,g4,g5,_,g6⟩,_⟩:=I.list hb
 have ht:s.heap.IsList a us.toArray:=⟨o1,g1,g2,n1,g3⟩
 have ht2:s.heap.IsList b vs.toArray:=⟨o2,g4,g5,n2,g6⟩
 have l1:=r1.length
 have l2:=r2.length
 by_cases hl:xs.length=ys.length
 . refine (PySem.SeqAt.RcAt.lists (e:=eAt xs ys) ht ht2 (by rw[List.size_toArray,List.size_toArray];omega) hu (fun j h1 h2=>eqat_items r1 r2 hsc j h1 h2)) _ _ _ _ (ze5 I q ?_)
   rw[List.size_toArray,show us.length=xs.length by omega,zQ7 hl]
 . refine (PySem.SeqAt.RcAt.lists_lengths ht ht2 (by rw[List.size_toArray,List.size_toArray];simp;omega) hu) _ _ _ _ (ze5 I q ?_)
   rw[decide_eq_false (fun z=>hl (by rw[z]))]
end
end L2
namespace L2
open PySem PySem.Spec PyProof.Rows
/-! ### {} ,a dict for tuples as keys -/
/-! ### a tuple of ints in a list of tuples of ints -/
open Classical in
open Classical in
section
variable {X:Cx}
end
end L2
namespace L2
open PySem PySem.Spec PyProof.Rows
noncomputable def exOf (e:Expr):Expr:=match e with
 | .Subscript v _ _=>v
 | _=>.Constant .none 0 ⟨0,0,0,0⟩
end L2
namespace L2
open PySem PySem.Spec PyProof.Rows
section
variable {X:Cx}
end
end L2
namespace L2
open PySem PySem.Spec PyProof.Rows
/-! ### xs.remove(i),ints,i among them -/
section
variable {X:Cx}
end
end L2
namespace L2
open PySem PySem.W PySem.Calls PyProof.Rows
section
variable {prog:Program} {w:World} {A:Around} {E:Value->Shared->Prop} {s:Shared}
end
end L2
namespace L2
open PySem PySem.W PySem.Calls PyProof.Rows
section
variable {prog:Program} {w:World} {A:Around} {E:Value->Shared->Prop} {s:Shared}
end
end L2
namespace L2
open PySem PySem.Spec PyProof.Rows
section
variable {X:Cx}
end
end L2
namespace L2
open PySem PySem.Spec PyProof.Rows
section
variable {X:Cx}
end
end L2
namespace L2
open PySem PySem.Spec PyProof.Rows
noncomputable def exEls (e:Expr) (j:Nat):Expr:=match e with
 | .List es _=>es.getD j (.Constant .none 0 ⟨0,0,0,0⟩)
 | _=>.Constant .none 0 ⟨0,0,0,0⟩
end L2
namespace L2
open PySem PySem.Spec PyProof.Rows
section
variable {X:Cx} {e k:Expr} {te:TE} {tk:TO} {pos p2:Pos}
end
end L2
namespace L2
open PySem PySem.Spec PyProof.Rows
section
variable {X:Cx}
end
end L2
namespace L2
open PySem PySem.Spec PyProof.Rows
end L2
namespace L2
open PySem PySem.Spec PyProof.Rows
section
variable {X:Cx}
end
end L2
namespace L2
open PySem PySem.Spec PyProof.Rows
section
variable {X:Cx} {tg l:Expr} {tl:TE}
end
end L2
/-! ZIP of two lists -/
namespace L2
open PySem PySem.Spec PyProof.Rows
section
variable {prog:Program} {w:World} {A:Around} {E:Value->Shared->Prop} {s:Shared}
theorem zz3 {it l:Addr} {i:Nat} {its:Array Value} {x:Value} {Q:Value->Shared->Prop} (hit:s.heap.IsListIter it l i) (hl:s.heap.IsList l its) (hx:its[i]?=some x)
   (hQ:∀ h',h'.IsListIter it l (i+1)->Heap.SameBut it s.heap h'->Q x { s with heap:=h' }):wpAny (model prog w) A (Builtin.SmallTypes.nextOf (.ref it)) Q E s:=by
 obtain ⟨oi,hoi,hci,hdi⟩:=id hit
 obtain ⟨os,hos,_,ns,hds⟩:=hl
 unfold Builtin.SmallTypes.nextOf
 refine wpAny_bind (wpAny_callSpecial?_slot (name:=Str.ofString "__next__") hit.typeIs slot_listiter_next (wpAny_call_entry slot_listiter_next hit.typeIs entry_listiter_next ?_ (args_listiter_next _)))
 show wpAny _ _ (field (.ref it) 0 >>= _) _ _ s
 refine wpAny_bind (wpAny_field hoi hdi (x:=.ref l) rfl ?_);show wpAny _ _ (if (Value.ref l == Value.none)=true then _ else _) _ _ s
 rw[if_neg (show ¬ ((Value.ref l == Value.none)=true) from Bool.false_ne_true)];show wpAny _ _ (field (.ref it) 1 >>= _) _ _ s
 refine wpAny_bind (wpAny_field hoi hdi (x:=.int i 0) rfl ?_);show wpAny _ _ (seqItems? (.ref l) >>= _) _ _ s
 refine wpAny_bind (wpAny_seqItems hos hds ?_);simp only[Int.toNat_natCast,hx]
 refine wpAny_bind (wpAny_setField hoi hdi (by simp) (wpAny_pure ⟨x,rfl,wpAny_pure (hQ _ ?_ (Heap.SameBut.update ..))⟩))
 refine⟨_,Heap.get?_update_self _ hoi (Obj.isFreed_of_fields (Obj.data_mapFields hdi _)),(Obj.cls_mapFields ..).trans hci,?_⟩;rw[Obj.data_mapFields hdi];simp[rawInt]
theorem zw2 {it l:Addr} {i:Nat} {its:Array Value} {Q:Value->Shared->Prop} (hh:A.handled=none) (hit:s.heap.IsListIter it l i) (hl:s.heap.IsList l its) (hx:its[i]?=none)
   (hE:∀ h' e,Heap.ExtBut it s.heap h'->(∃ o,h'.get? e=some o/\o.cls = .type "StopIteration")->E (.ref e) { s with heap:=h' }):wpAny (model prog w) A (Builtin.SmallTypes.nextOf (.ref it)) Q E s:=by
 obtain ⟨oi,hoi,hci,hdi⟩:=id hit
 obtain ⟨os,hos,_,ns,hds⟩:=hl
 unfold Builtin.SmallTypes.nextOf
 refine wpAny_bind (wpAny_callSpecial?_slot (name:=Str.ofString "__next__") hit.typeIs slot_listiter_next (wpAny_call_entry slot_listiter_next hit.typeIs entry_listiter_next ?_ (args_listiter_next _)))
 show wpAny _ _ (field (.ref it) 0 >>= _) _ _ s
 refine wpAny_bind (wpAny_field hoi hdi (x:=.ref l) rfl ?_);show wpAny _ _ (if (Value.ref l == Value.none)=true then _ else _) _ _ s
 rw[if_neg (show ¬ ((Value.ref l == Value.none)=true) from Bool.false_ne_true)];show wpAny _ _ (field (.ref it) 1 >>= _) _ _ s
 refine wpAny_bind (wpAny_field hoi hdi (x:=.int i 0) rfl ?_);show wpAny _ _ (seqItems? (.ref l) >>= _) _ _ s
 refine wpAny_bind (wpAny_seqItems hos hds ?_);simp only[Int.toNat_natCast,hx]
 refine wpAny_bind (wpAny_rule (wpAny_bind (wpAny_setField hoi hdi (by simp) ?_)));show wpAny _ _ (newExc (.type "StopIteration") [] >>= _) _ _ _
 refine wpAny_bind ?_;simp only[newExc,newTuple]
 refine wpAny_bind (wpAny_newObj_type ?_ (by size_fits))
 refine wpAny_bind (m:=firstArgMember _ _) (wpAny_of_eq (a:=Value.none) (by first | rfl | (simp only[firstArgMember];rfl)) ?_)
 refine wpAny_newObj_type ?_ (by size_fits);simp only[raiseNew]
 refine wpAny_bind (wpAny_handled ?_);first | rw[show A.in1.handled=none from hh] | rw[hh]
 refine wpAny_bind (wpAny_pure (wpAny_throw ?_))
 exact hE _ _ (((Heap.SameBut.update ..).extBut.push _).push _) ⟨_,Heap.get?_push_size _ rfl,rfl⟩
structure ZAtL (h:Heap) (z TI TO i1 i2 l1 l2:Addr) (f0:Value) (i:Nat):Prop where
 hz:IsZip h z TI TO f0
 hTI:IsPair h TI (.ref i1) (.ref i2)
 hTO:∃ a b,IsPair h TO a b
 h1:h.IsListIter i1 l1 i
 h2:h.IsListIter i2 l2 i
theorem zipL_item {z TI TO i1 i2 l1 l2:Addr} {k:Nat} {xs ys:Array Value} {x y:Value} {Q:Option Value->Shared->Prop} (D:zz2 z TI TO i1 i2) (L:∀ l,l=l1\/l=l2->l≠z/\l≠TO/\l≠i1/\l≠i2) (Z:ZAtL s.heap z TI TO i1 i2 l1 l2 .none k)
   (hl1:s.heap.IsList l1 xs) (hl2:s.heap.IsList l2 ys) (hx:xs[k]?=some x) (hy:ys[k]?=some y)
   (hQ:∀ h',ZAtL h' z TI TO i1 i2 l1 l2 (rawInt s.heap.objs.size) (k+1)->IsPair h' s.heap.objs.size x y →
     (∀ c o,c≠z->c≠TO->c≠i1->c≠i2->s.heap.get? c=some o->h'.get? c=some o)->Q (some (.ref s.heap.objs.size)) { s with heap:=h' }) :
   wpAny (model prog w) A (pyNext (.ref z)) Q E s:=by
 obtain ⟨hz,hTI,⟨a,b,hTO⟩,h1,h2⟩:=Z
 obtain ⟨l1z,l1TO,l1i1,l1i2⟩:=L l1 (.inl rfl)
 obtain ⟨l2z,l2TO,l2i1,l2i2⟩:=L l2 (.inr rfl)
 have hT:s.TypeIs (.ref z) "zip":=⟨_,hz,rfl⟩
 unfold pyNext
 refine wpAny_bind (wpAny_attempt (wpAny_callSpecial?_slot (name:=Str.ofString "__next__") hT F.slot_zip_next (wpAny_call_entry F.slot_zip_next hT F.entry_zip_next ?_ (F.args_zip_next_1 _))))
 show wpAny _ _ (field (.ref z) 2 >>= _) _ _ _
 refine wpAny_bind (wpAny_field hz rfl (x:=.bool false) rfl ?_);show wpAny _ _ (field (.ref z) 3 >>= _) _ _ _
 refine wpAny_bind (wpAny_field hz rfl (x:=.ref TI) rfl ?_)
 refine wpAny_bind (wpAny_seqItems hTI rfl ?_);show wpAny _ _ (Builtin.SmallTypes.ownedTupleIsFree (.ref z) >>= _) _ _ _
 refine wpAny_bind ?_;unfold Builtin.SmallTypes.ownedTupleIsFree
 refine wpAny_bind (wpAny_field hz rfl (x:=.none) rfl (wpAny_pure ?_));simp only[if_true]
 refine wpAny_bind (wpAny_rule (wpAny_bind (wpAny_field hz rfl (x:=.ref TO) rfl ?_)))
 refine wpAny_bind (wpAny_setField_rec hz (by simp) fun g1 z1 e1=>?_)
 replace z1:IsZip g1 z TI TO .ellipsis:=z1
 refine wpAny_bind ?_;simp only[List.zipIdx_cons,List.zipIdx_nil,List.forIn_cons,List.forIn_nil]
 refine wpAny_bind (wpAny_bind (wpAny_onRaise ?_));show wpAny _ _ (Builtin.SmallTypes.nextOf (.ref i1) >>= _) _ _ _
 refine wpAny_bind (zz3 (h1.extBut e1.extBut D.i1z) (hl1.extBut e1.extBut l1z) hx fun g2 j1 e2=>wpAny_pure ?_)
 have t2:IsPair g2 TO a b:=e2.extBut _ _ D.TOi1 (e1.extBut _ _ D.TOz hTO)
 refine wpAny_bind (wpAny_seqItems t2 rfl (wpAny_bind (wpAny_updateSeq_pair t2 fun g3 t3 e3=>?_)))
 replace t3:IsPair g3 TO x b:=t3
 refine wpAny_bind (wpAny_letGo (wpAny_pure ?_))
 refine wpAny_bind (wpAny_bind (wpAny_onRaise ?_));show wpAny _ _ (Builtin.SmallTypes.nextOf (.ref i2) >>= _) _ _ _
 refine wpAny_bind (zz3 (((h2.extBut e1.extBut D.i2z).extBut e2.extBut D.i12.symm).extBut e3.extBut D.TOi2.symm) (((hl2.extBut e1.extBut l2z).extBut e2.extBut l2i1).extBut e3.extBut l2TO) hy fun g4 j2 e4=>wpAny_pure ?_)
 have t4:IsPair g4 TO x b:=e4.extBut _ _ D.TOi2 t3
 refine wpAny_bind (wpAny_seqItems t4 rfl (wpAny_bind (wpAny_updateSeq_pair t4 fun g5 t5 e5=>?_)))
 replace t5:IsPair g5 TO x y:=t5
 refine wpAny_bind (wpAny_letGo (wpAny_pure (wpAny_pure ?_)))
 refine wpAny_bind (wpAny_seqItems t5 rfl (wpAny_bind (wpAny_newTuple ?_)))
 have sz:g5.objs.size=s.heap.objs.size:=by rw[e5.1,e4.1,e3.1,e2.1,e1.1]
 have z5:IsZip g5 z TI TO .ellipsis:=e5.extBut _ _ D.TOz.symm (e4.extBut _ _ D.i2z.symm (e3.extBut _ _ D.TOz.symm (e2.extBut _ _ D.i1z.symm z1)))
 have k5:∀ c o,c≠z->c≠TO->c≠i1->c≠i2->s.heap.get? c=some o->g5.get? c=some o:=fun c o c1 c2 c3 c4 e=>e5.extBut _ _ c2 (e4.extBut _ _ c4 (e3.extBut _ _ c2 (e2.extBut _ _ c3 (e1.extBut _ _ c1 e))))
 have m1:g5.IsListIter i1 l1 (k+1):=((j1.extBut e3.extBut D.TOi1.symm).extBut e4.extBut D.i12).extBut e5.extBut D.TOi1.symm
 have m2:g5.IsListIter i2 l2 (k+1):=j2.extBut e5.extBut D.TOi2.symm
 have zl:z<g5.objs.size:=Heap.lt_size z5
 show wpAny _ _ (Builtin.SmallTypes.ownedTupleHandOut (.ref z) (.ref g5.objs.size) >>= _) _ _ _
 refine wpAny_bind ?_;unfold Builtin.SmallTypes.ownedTupleHandOut
 have z6:IsZip (g5.push { cls:=.type "tuple",data:=.seq #[x,y] }) z TI TO .ellipsis:=Heap.get?_push_of_some _ z5
 refine wpAny_bind (wpAny_setField_rec z6 (by simp) fun g7 z7 e7=>?_)
 replace z7:IsZip g7 z TI TO (rawInt g5.objs.size):=z7
 refine wpAny_setField_rec z7 (by simp) fun g8 z8 e8=>?_
 replace z8:IsZip g8 z TI TO (rawInt g5.objs.size):=z8
 have up:∀ c o,c≠z->g5.get? c=some o->g8.get? c=some o:=fun c o c1 e=>e8.extBut _ _ c1 (e7.extBut _ _ c1 (Heap.get?_push_of_some _ e))
 have t8:IsPair g8 g5.objs.size x y:=e8.extBut _ _ (Nat.ne_of_gt zl) (e7.extBut _ _ (Nat.ne_of_gt zl) (Heap.get?_push_size _ rfl))
 rw[sz] at z8 t8
 refine wpAny_pure ⟨_,rfl,wpAny_pure ?_⟩
 show Q (some (.ref g5.objs.size)) _
 rw[sz]
 have at1:∀ {it l:Addr} {i:Nat},g5.IsListIter it l i->it≠z->g8.IsListIter it l i:=fun q ne=>let ⟨o,ho,r⟩:=q;⟨o,up _ o ne ho,r⟩
 exact hQ g8 ⟨z8,up _ _ D.TIz (k5 _ _ D.TIz D.TITO D.TIi1 D.TIi2 hTI),⟨x,y,up _ _ D.TOz t5⟩,at1 m1 D.i1z,at1 m2 D.i2z⟩ t8 fun c o c1 c2 c3 c4 e=>up c o c1 (k5 c o c1 c2 c3 c4 e)
theorem zipL_end {z TI TO i1 i2 l1 l2:Addr} {k:Nat} {xs:Array Value} {Q:Option Value->Shared->Prop} (hh:A.handled=none) (D:zz2 z TI TO i1 i2) (L:l1≠z) (Z:ZAtL s.heap z TI TO i1 i2 l1 l2 .none k)
   (hl1:s.heap.IsList l1 xs) (hx:xs[k]?=none)
   (hQ:∀ h',(∀ c o,c≠z->c≠TO->c≠i1->c≠i2->s.heap.get? c=some o->h'.get? c=some o)->Q none { s with heap:=h' }):wpAny (model prog w) A (pyNext (.ref z)) Q E s:=by
 obtain ⟨hz,hTI,⟨a,b,hTO⟩,h1,h2⟩:=Z
 have hT:s.TypeIs (.ref z) "zip":=⟨_,hz,rfl⟩
 unfold pyNext
 refine wpAny_bind (wpAny_attempt (wpAny_callSpecial?_slot (name:=Str.ofString "__next__") hT F.slot_zip_next (wpAny_call_entry F.slot_zip_next hT F.entry_zip_next ?_ (F.args_zip_next_1 _))))
 show wpAny _ _ (field (.ref z) 2 >>= _) _ _ _
 refine wpAny_bind (wpAny_field hz rfl (x:=.bool false) rfl ?_);show wpAny _ _ (field (.ref z) 3 >>= _) _ _ _
 refine wpAny_bind (wpAny_field hz rfl (x:=.ref TI) rfl ?_)
 refine wpAny_bind (wpAny_seqItems hTI rfl ?_);show wpAny _ _ (Builtin.SmallTypes.ownedTupleIsFree (.ref z) >>= _) _ _ _
 refine wpAny_bind ?_;unfold Builtin.SmallTypes.ownedTupleIsFree
 refine wpAny_bind (wpAny_field hz rfl (x:=.none) rfl (wpAny_pure ?_));simp only[if_true]
 refine wpAny_bind (wpAny_rule (wpAny_bind (wpAny_field hz rfl (x:=.ref TO) rfl ?_)))
 refine wpAny_bind (wpAny_setField_rec hz (by simp) fun g1 z1 e1=>?_)
 replace z1:IsZip g1 z TI TO .ellipsis:=z1
 refine wpAny_bind ?_;simp only[List.zipIdx_cons,List.zipIdx_nil,List.forIn_cons,List.forIn_nil]
 refine wpAny_bind (wpAny_bind (wpAny_onRaise ?_));show wpAny _ _ (Builtin.SmallTypes.nextOf (.ref i1) >>= _) _ _ _
 refine wpAny_bind (zw2 hh (h1.extBut e1.extBut D.i1z) (hl1.extBut e1.extBut L) hx fun g2 e e2 he=>?_)
 obtain ⟨oe,hoe,hce⟩:=he
 have z2:IsZip g2 z TI TO .ellipsis:=e2 _ _ D.i1z.symm z1
 have nez:e≠z:=fun q=>by subst q;rw[z2] at hoe;cases hoe;simp at hce
 refine wpAny_setField_rec z2 (by simp) fun g3 _ e3=>?_
 refine wpAny_bind (wpAny_isInstance (T:="StopIteration") (b:=true) ⟨oe,e3.extBut _ _ nez hoe,hce⟩ isSubtype_stop ?_)
 exact wpAny_pure (hQ _ fun c o c1 _ c3 _ q=>e3.extBut _ _ c1 (e2 _ _ c3 (e1.extBut _ _ c1 q)))
theorem zipL_end2 {z TI TO i1 i2 l1 l2:Addr} {k:Nat} {xs ys:Array Value} {x:Value} {Q:Option Value->Shared->Prop} (hh:A.handled=none) (D:zz2 z TI TO i1 i2) (L:∀ l,l=l1\/l=l2->l≠z/\l≠TO/\l≠i1/\l≠i2) (Z:ZAtL s.heap z TI TO i1 i2 l1 l2 .none k)
   (hl1:s.heap.IsList l1 xs) (hl2:s.heap.IsList l2 ys) (hx:xs[k]?=some x) (hy:ys[k]?=none)
   (hQ:∀ h',(∀ c o,c≠z->c≠TO->c≠i1->c≠i2->s.heap.get? c=some o->h'.get? c=some o)->Q none { s with heap:=h' }):wpAny (model prog w) A (pyNext (.ref z)) Q E s:=by
 obtain ⟨hz,hTI,⟨a,b,hTO⟩,h1,h2⟩:=Z
 obtain ⟨l1z,l1TO,l1i1,l1i2⟩:=L l1 (.inl rfl)
 obtain ⟨l2z,l2TO,l2i1,l2i2⟩:=L l2 (.inr rfl)
 have hT:s.TypeIs (.ref z) "zip":=⟨_,hz,rfl⟩
 unfold pyNext
 refine wpAny_bind (wpAny_attempt (wpAny_callSpecial?_slot (name:=Str.ofString "__next__") hT F.slot_zip_next (wpAny_call_entry F.slot_zip_next hT F.entry_zip_next ?_ (F.args_zip_next_1 _))))
 show wpAny _ _ (field (.ref z) 2 >>= _) _ _ _
 refine wpAny_bind (wpAny_field hz rfl (x:=.bool false) rfl ?_);show wpAny _ _ (field (.ref z) 3 >>= _) _ _ _
 refine wpAny_bind (wpAny_field hz rfl (x:=.ref TI) rfl ?_)
 refine wpAny_bind (wpAny_seqItems hTI rfl ?_);show wpAny _ _ (Builtin.SmallTypes.ownedTupleIsFree (.ref z) >>= _) _ _ _
 refine wpAny_bind ?_;unfold Builtin.SmallTypes.ownedTupleIsFree
 refine wpAny_bind (wpAny_field hz rfl (x:=.none) rfl (wpAny_pure ?_));simp only[if_true]
 refine wpAny_bind (wpAny_rule (wpAny_bind (wpAny_field hz rfl (x:=.ref TO) rfl ?_)))
 refine wpAny_bind (wpAny_setField_rec hz (by simp) fun g1 z1 e1=>?_)
 replace z1:IsZip g1 z TI TO .ellipsis:=z1
 refine wpAny_bind ?_;simp only[List.zipIdx_cons,List.zipIdx_nil,List.forIn_cons,List.forIn_nil]
 refine wpAny_bind (wpAny_bind (wpAny_onRaise ?_));show wpAny _ _ (Builtin.SmallTypes.nextOf (.ref i1) >>= _) _ _ _
 refine wpAny_bind (zz3 (h1.extBut e1.extBut D.i1z) (hl1.extBut e1.extBut l1z) hx fun g2 j1 e2=>wpAny_pure ?_)
 have t2:IsPair g2 TO a b:=e2.extBut _ _ D.TOi1 (e1.extBut _ _ D.TOz hTO)
 refine wpAny_bind (wpAny_seqItems t2 rfl (wpAny_bind (wpAny_updateSeq_pair t2 fun g3 t3 e3=>?_)))
 replace t3:IsPair g3 TO x b:=t3
 refine wpAny_bind (wpAny_letGo (wpAny_pure ?_))
 refine wpAny_bind (wpAny_bind (wpAny_onRaise ?_));show wpAny _ _ (Builtin.SmallTypes.nextOf (.ref i2) >>= _) _ _ _
 refine wpAny_bind (zw2 hh (((h2.extBut e1.extBut D.i2z).extBut e2.extBut D.i12.symm).extBut e3.extBut D.TOi2.symm) (((hl2.extBut e1.extBut l2z).extBut e2.extBut l2i1).extBut e3.extBut l2TO) hy fun g4 e e4 he=>?_)
 obtain ⟨oe,hoe,hce⟩:=he
 have z4:IsZip g4 z TI TO .ellipsis:=e4 _ _ D.i2z.symm (e3.extBut _ _ D.TOz.symm (e2.extBut _ _ D.i1z.symm z1))
 have nez:e≠z:=fun q=>by subst q;rw[z4] at hoe;cases hoe;simp at hce
 refine wpAny_setField_rec z4 (by simp) fun g5 _ e5=>?_
 refine wpAny_bind (wpAny_isInstance (T:="StopIteration") (b:=true) ⟨oe,e5.extBut _ _ nez hoe,hce⟩ isSubtype_stop ?_)
 exact wpAny_pure (hQ _ fun c o c1 c2 c3 c4 q=>e5.extBut _ _ c1 (e4 _ _ c4 (e3.extBut _ _ c2 (e2.extBut _ _ c3 (e1.extBut _ _ c1 q)))))
noncomputable abbrev zq1 (h:Heap) (l1:Addr):Heap:=h.push { cls:=.type "list_iterator",data:=.fields #[.ref l1,.int 0 0] }
noncomputable abbrev zq2 (h:Heap) (l1 l2:Addr):Heap:=(zq1 h l1).push { cls:=.type "list_iterator",data:=.fields #[.ref l2,.int 0 0] }
noncomputable abbrev zq3 (h:Heap) (l1 l2:Addr):Heap:=(zq2 h l1 l2).push { cls:=.type "tuple",data:=.seq #[.ref h.objs.size,.ref (zq1 h l1).objs.size] }
noncomputable abbrev zq4 (h:Heap) (l1 l2:Addr):Heap:=(zq3 h l1 l2).push { cls:=.type "tuple",data:=.seq #[.none,.none] }
noncomputable abbrev zq5 (h:Heap) (l1 l2:Addr):Heap:=(zq4 h l1 l2).push { cls:=.type "zip",data:=.fields #[.none,.bool false,.bool false,.ref (zq2 h l1 l2).objs.size,.ref (zq3 h l1 l2).objs.size] }
theorem zipL_made (l1 l2:Addr) (xs ys:Array Value) :
   Meets (Builtin.«zip.__new__» ⟨[.type "zip",.ref l1,.ref l2],[]⟩) (fun _ R s=>s.heap.IsList l1 xs/\s.heap.IsList l2 ys/\R (.ok (.ret (.ref (zq4 s.heap l1 l2).objs.size))) { s with heap:=zq5 s.heap l1 l2 }) :=
 .of_wp fun prog w A R s h=>by
   obtain ⟨hp,g,d,tk,os⟩:=s
   obtain ⟨hl1,hl2,h⟩:=h
   have hsub:=sub_zip
   have q1:Heap.IsList (Shared.heap ⟨hp,g,d,tk,os⟩) l1 xs:=hl1
   have q2:Heap.IsList (Shared.heap ⟨hp.push { cls:=.type "list_iterator",data:=.fields #[.ref l1,.int 0 0] },g,d,tk,os⟩) l2 ys:=Heap.IsList.push hl2 _
   wp_walk using wpAny_pyIter_list q1,wpAny_pyIter_list q2
   exact⟨_,rfl,h⟩
theorem zipL_call {l1 l2:Addr} {xs ys:Array Value} {Q:Value->Shared->Prop} (hl1:s.heap.IsList l1 xs) (hl2:s.heap.IsList l2 ys)
   (h:∀ h',ZAtL h' (s.heap.objs.size+4) (s.heap.objs.size+2) (s.heap.objs.size+3) s.heap.objs.size (s.heap.objs.size+1) l1 l2 .none 0 →
     (∀ c o,s.heap.get? c=some o->h'.get? c=some o)->Q (.ref (s.heap.objs.size+4)) { s with heap:=h' }):wpAny (model prog w) A (call (.type "zip") [.ref l1,.ref l2]) Q E s:=by
 refine callType_new F.called_zip (by decide) (F.typeCall_zip_2 _ _) (F.newCall_zip_2 _ _) (fun obj=>F.args_object_init_3 obj _ _) F.entry_zip_new (zipL_made l1 l2 xs ys) ⟨hl1,hl2,?_⟩
 have n1:(zq1 s.heap l1).objs.size=s.heap.objs.size+1:=Heap.size_push ..
 have n2:(zq2 s.heap l1 l2).objs.size=s.heap.objs.size+2:=by rw[Heap.size_push,n1]
 have n3:(zq3 s.heap l1 l2).objs.size=s.heap.objs.size+3:=by rw[Heap.size_push,n2]
 have n4:(zq4 s.heap l1 l2).objs.size=s.heap.objs.size+4:=by rw[Heap.size_push,n3]
 have p5:(zq5 s.heap l1 l2).get? (zq4 s.heap l1 l2).objs.size=some _:=Heap.get?_push_size _ rfl
 have p4:(zq5 s.heap l1 l2).get? (zq3 s.heap l1 l2).objs.size=some _:=Heap.get?_push_of_some _ (Heap.get?_push_size _ rfl)
 have p3:(zq5 s.heap l1 l2).get? (zq2 s.heap l1 l2).objs.size=some _:=Heap.get?_push_of_some _ (Heap.get?_push_of_some _ (Heap.get?_push_size _ rfl))
 have p2:(zq5 s.heap l1 l2).get? (zq1 s.heap l1).objs.size=some _:=Heap.get?_push_of_some _ (Heap.get?_push_of_some _ (Heap.get?_push_of_some _ (Heap.get?_push_size _ rfl)))
 have p1:(zq5 s.heap l1 l2).get? s.heap.objs.size=some _:=Heap.get?_push_of_some _ (Heap.get?_push_of_some _ (Heap.get?_push_of_some _ (Heap.get?_push_of_some _ (Heap.get?_push_size _ rfl))))
 show _/\_
 rw[n2,n3,n4] at p5
 rw[n1,n2] at p3
 rw[n3] at p4
 rw[n1] at p2
 rw[n4]
 refine⟨⟨_,p5,rfl⟩,h _ ⟨p5,p3,⟨_,_,p4⟩,⟨_,p1,rfl,rfl⟩,⟨_,p2,rfl,rfl⟩⟩ fun c o x=>?_⟩
 exact Heap.get?_push_of_some _ (Heap.get?_push_of_some _ (Heap.get?_push_of_some _ (Heap.get?_push_of_some _ (Heap.get?_push_of_some _ x))))
end
/-! ### a zip walked -/
noncomputable def ItzL (l1 l2:Addr):It :=
 ⟨fun i H=>∃ xs ys x y,H l1=some (.lst xs)/\H l2=some (.lst ys)/\xs[i]?=some x/\ys[i]?=some y,
  fun i H v H'=>∃ p xs ys x y,H p=none/\v = .ref p/\H l1=some (.lst xs)/\H l2=some (.lst ys)/\xs[i]?=some x/\ys[i]?=some y/\H'=upd H p (.tup [x,y]),
  fun i H=>∃ xs ys,H l1=some (.lst xs)/\H l2=some (.lst ys)/\(xs.length<=i\/(i<xs.length/\ys.length<=i))⟩
theorem turn_zipL {P:Program} {w:World} {K:PySem.W.Frag} {es:List Expr} {k0:Nat} {tp:Pos} {l1 l2 z TI TO i1 i2:Addr} (D:zz2 z TI TO i1 i2) :
   Turn P w K (.Tuple es k0 tp) (ItzL l1 l2) [z,TI,TO,i1,i2] z (fun i h=>ZAtL h z TI TO i1 i2 l1 l2 .none i) where
 mem:=by simp
 obj:=fun i h Z b hb=>by
   obtain ⟨hz,hTI,⟨a,c,hTO⟩,⟨o1,e1,c1,d1⟩,⟨o2,e2,c2,d2⟩⟩:=Z
   simp only[List.mem_cons,List.not_mem_nil,or_false] at hb
   rcases hb with rfl | rfl | rfl | rfl | rfl
   . exact⟨_,hz,fun v q=>by cases (show Data.fields _=Data.cell v from q)⟩
   . exact⟨_,hTI,fun v q=>by cases (show Data.seq _ _=Data.cell v from q)⟩
   . exact⟨_,hTO,fun v q=>by cases (show Data.seq _ _=Data.cell v from q)⟩
   . exact⟨o1,e1,fun v q=>by rw[d1] at q;cases q⟩
   . exact⟨o2,e2,fun v q=>by rw[d2] at q;cases q⟩
 keep:=fun i h h' Z k=>by
   obtain ⟨hz,hTI,⟨a,c,hTO⟩,⟨o1,e1,r1⟩,⟨o2,e2,r2⟩⟩:=Z
   exact⟨k z (by simp) _ hz,k TI (by simp) _ hTI,⟨a,c,k TO (by simp) _ hTO⟩,⟨o1,k i1 (by simp) _ e1,r1⟩,⟨o2,k i2 (by simp) _ e2,r2⟩⟩
 item:=by
   intro X hP hw hK hc i pins s σ H E I hf Z hg
   subst hP hw hK
   obtain ⟨xs,ys,x,y,hx,hy,ex,ey⟩:=hg
   obtain ⟨vx,rx,tx,_⟩:=I.list (SqL.of (K:=X.K) hx)
   obtain ⟨vy,ry,ty,_⟩:=I.list (SqL.of (K:=X.K) hy)
   obtain ⟨u,hu,ru⟩:=rx.get ex
   obtain ⟨v,hv,rv⟩:=ry.get ey
   have hfree:∀ b∈[z,TI,TO,i1,i2],H b=none:=fun b hb=>(hf b hb).1
   have L:∀ l,l=l1\/l=l2->l≠z/\l≠TO/\l≠i1/\l≠i2:=fun l hl=>by
     have hs:∃ o,H l=some o:=by
       rcases hl with e | e
       . exact⟨_,by rw[e];exact hx⟩
       . exact⟨_,by rw[e];exact hy⟩
     obtain ⟨o,ho⟩:=hs
     exact⟨zb0 ho (hfree z (by simp)),zb0 ho (hfree TO (by simp)),zb0 ho (hfree i1 (by simp)),zb0 ho (hfree i2 (by simp))⟩
   refine zipL_item D L Z (show s.heap.IsList l1 vx.toArray from tx.isList) (show s.heap.IsList l2 vy.toArray from ty.isList) (x:=u) (y:=v) (by simpa using hu) (by simpa using hv) fun h' Z' hp kk=>?_
   refine⟨_,rfl,wpAny_letOwnedTupleGo_zip Z'.hz fun h2 hz2 sb=>?_⟩
   have kk2:∀ c o,c∉[z,TO,i1,i2]->s.heap.get? c=some o->h2.get? c=some o:=fun c o hc e=>sb.extBut _ _ (fun q=>hc (by simp[q])) (kk c o (fun q=>hc (by simp[q])) (fun q=>hc (by simp[q])) (fun q=>hc (by simp[q])) (fun q=>hc (by simp[q])) e)
   have nb:∀ c o,H c=some o->c∉[z,TO,i1,i2]:=fun c o e hm=>by
     have:H c=none:=hfree c (by simp only[List.mem_cons,List.not_mem_nil,or_false] at hm ⊢;rcases hm with q | q | q | q<;>simp[q])
     rw[this] at e;cases e
   have zlt:z<s.heap.objs.size:=Heap.lt_size Z.hz
   have hp2:IsPair h2 s.heap.objs.size u v:=sb.extBut _ _ (Nat.ne_of_gt zlt) hp
   have fr:H s.heap.objs.size=none:=I.fresh
   have I2:Inv X pins σ (upd H s.heap.objs.size (.tup [x,y])) { s with heap:=h2 }:=by
     refine I.step (g':=s.gens) (d':=s.drawn) (t':=s.toks) (ch:=[z,TO,i1,i2]) (fun b hb=>?_) (fun b o _ _ hc e _=>kk2 b o hc e) (fun b o _ _ hc e _=>⟨o.slots,kk2 b o hc e⟩)
       (fun b o _ e n=>by rw[za7 (Nat.ne_of_lt (Heap.lt_size e))];exact n)
       (fun b o hc e=>⟨o,kk2 b o hc e⟩) (fun b zs e=>by rw[za7 (zb0 e fr)];exact e) (fun b o zs e=>by rw[za7 (zb0 e fr)];exact e) (fun b ps e=>⟨#[],by rw[za7 (zb0 e fr),e];simp⟩) (fun m hm=>?_) (fun b o e=>?_) I.bare
     . obtain ⟨f0,f1,f2,f3,f4,f5⟩:=hf b (by simp only[List.mem_cons,List.not_mem_nil,or_false] at hb ⊢;rcases hb with q | q | q | q<;>simp[q])
       exact⟨f3,f1,f4,f5⟩
     . obtain ⟨o,es',ep,ho,r⟩:=hm
       refine⟨o,es',ep,kk2 _ o (fun hm=>?_) ho,r⟩
       exact (hf X.env.locals (by simp only[List.mem_cons,List.not_mem_nil,or_false] at hm ⊢;rcases hm with q | q | q | q<;>simp[q])).2.1 rfl
     . by_cases hb:b=s.heap.objs.size
       . subst hb
         rw[za2] at e
         cases e
         exact⟨(by show 2<=sizeLine;decide),[u,v],.cons ru (.cons rv .nil),⟨_,hp2,rfl,rfl,_,rfl⟩⟩
       . rw[za7 hb] at e
         refine (I.hok b o e).stay (fun c v hc q=>kk2 c v ?_ q) (fun c q=>by rw[za7 (zb0 q fr)];exact q) fun c zs q=>by rw[za7 (zb0 q fr)];exact q
         rcases hc with rfl | hc
         . exact nb _ _ e
         . exact nb _ _ hc
   exact⟨.ref s.heap.objs.size,_,I2,rfl,⟨_,xs,ys,x,y,fr,rfl,hx,hy,ex,ey,rfl⟩,⟨hz2,sb.extBut _ _ D.TIz Z'.hTI,(let ⟨a,c,q⟩:=Z'.hTO;⟨a,c,sb.extBut _ _ D.TOz q⟩),Z'.h1.extBut sb.extBut D.i1z,Z'.h2.extBut sb.extBut D.i2z⟩,fun b hb=>by
     rw[za7]
     . exact hfree b hb
     . obtain ⟨o,e,_⟩:∃ o,s.heap.get? b=some o/\True:=by
         simp only[List.mem_cons,List.not_mem_nil,or_false] at hb
         obtain ⟨hz,hTI,⟨a,c,hTO⟩,⟨o1,e1,_⟩,⟨o2,e2,_⟩⟩:=Z
         rcases hb with rfl | rfl | rfl | rfl | rfl
         . exact⟨_,hz,trivial⟩
         . exact⟨_,hTI,trivial⟩
         . exact⟨_,hTO,trivial⟩
         . exact⟨_,e1,trivial⟩
         . exact⟨_,e2,trivial⟩
       exact Nat.ne_of_lt (Heap.lt_size e)⟩
 done:=by
   intro X hP hw hK hc i pins s σ H E I hf Z hg
   subst hP hw hK
   obtain ⟨xs,ys,hx,hy,hle⟩:=hg
   obtain ⟨vx,rx,tx,_⟩:=I.list (SqL.of (K:=X.K) hx)
   have hln:=rx.length
   obtain ⟨vy,ry,ty,_⟩:=I.list (SqL.of (K:=X.K) hy)
   have hln2:=ry.length
   have hfree:∀ b∈[z,TI,TO,i1,i2],H b=none:=fun b hb=>(hf b hb).1
   have L:∀ l,l=l1\/l=l2->l≠z/\l≠TO/\l≠i1/\l≠i2:=fun l hl=>by
     have hs:∃ o,H l=some o:=by
       rcases hl with e | e
       . exact⟨_,by rw[e];exact hx⟩
       . exact⟨_,by rw[e];exact hy⟩
     obtain ⟨o,ho⟩:=hs
     exact⟨zb0 ho (hfree z (by simp)),zb0 ho (hfree TO (by simp)),zb0 ho (hfree i1 (by simp)),zb0 ho (hfree i2 (by simp))⟩
   rcases hle with hle | ⟨hle,hle2⟩
   . refine zipL_end (I.ok.hd hc) D (zb0 hx (hfree z (by simp))) Z (show s.heap.IsList l1 vx.toArray from tx.isList) (by simp;omega) fun h' kk=>⟨rfl,?_⟩
     have kk2:∀ c o,c∉[z,TO,i1,i2]->s.heap.get? c=some o->h'.get? c=some o:=fun c o hc e=>kk c o (fun q=>hc (by simp[q])) (fun q=>hc (by simp[q])) (fun q=>hc (by simp[q])) (fun q=>hc (by simp[q])) e
     have nb:∀ c o,H c=some o->c∉[z,TO,i1,i2]:=fun c o e hm=>by
       have:H c=none:=hfree c (by simp only[List.mem_cons,List.not_mem_nil,or_false] at hm ⊢;rcases hm with q | q | q | q<;>simp[q])
       rw[this] at e;cases e
     refine I.step (g':=s.gens) (d':=s.drawn) (t':=s.toks) (ch:=[z,TO,i1,i2]) (fun b hb=>?_) (fun b o _ _ hc e _=>kk2 b o hc e) (fun b o _ _ hc e _=>⟨o.slots,kk2 b o hc e⟩) (fun _ _ _ _ n=>n)
       (fun b o hc e=>⟨o,kk2 b o hc e⟩) (fun _ _ e=>e) (fun _ _ _ e=>e) (fun b ps e=>⟨#[],by rw[e];simp⟩) (fun m hm=>?_) (fun b o e=>?_) I.bare
     . obtain ⟨f0,f1,f2,f3,f4,f5⟩:=hf b (by simp only[List.mem_cons,List.not_mem_nil,or_false] at hb ⊢;rcases hb with q | q | q | q<;>simp[q])
       exact⟨f3,f1,f4,f5⟩
     . obtain ⟨o,es',ep,ho,r⟩:=hm
       refine⟨o,es',ep,kk2 _ o (fun hm=>?_) ho,r⟩
       exact (hf X.env.locals (by simp only[List.mem_cons,List.not_mem_nil,or_false] at hm ⊢;rcases hm with q | q | q | q<;>simp[q])).2.1 rfl
     . refine (I.hok b o e).stay (fun c v hc q=>kk2 c v ?_ q) (fun _ q=>q) fun _ _ q=>q
       rcases hc with rfl | hc
       . exact nb _ _ e
       . exact nb _ _ hc
   . refine zipL_end2 (I.ok.hd hc) D L Z (show s.heap.IsList l1 vx.toArray from tx.isList) (show s.heap.IsList l2 vy.toArray from ty.isList) (x:=vx[i]'(by omega)) (by simp) (by simp;omega) fun h' kk=>⟨rfl,?_⟩
     have kk2:∀ c o,c∉[z,TO,i1,i2]->s.heap.get? c=some o->h'.get? c=some o:=fun c o hc e=>kk c o (fun q=>hc (by simp[q])) (fun q=>hc (by simp[q])) (fun q=>hc (by simp[q])) (fun q=>hc (by simp[q])) e
     have nb:∀ c o,H c=some o->c∉[z,TO,i1,i2]:=fun c o e hm=>by
       have:H c=none:=hfree c (by simp only[List.mem_cons,List.not_mem_nil,or_false] at hm ⊢;rcases hm with q | q | q | q<;>simp[q])
       rw[this] at e;cases e
     refine I.step (g':=s.gens) (d':=s.drawn) (t':=s.toks) (ch:=[z,TO,i1,i2]) (fun b hb=>?_) (fun b o _ _ hc e _=>kk2 b o hc e) (fun b o _ _ hc e _=>⟨o.slots,kk2 b o hc e⟩) (fun _ _ _ _ n=>n)
       (fun b o hc e=>⟨o,kk2 b o hc e⟩) (fun _ _ e=>e) (fun _ _ _ e=>e) (fun b ps e=>⟨#[],by rw[e];simp⟩) (fun m hm=>?_) (fun b o e=>?_) I.bare
     . obtain ⟨f0,f1,f2,f3,f4,f5⟩:=hf b (by simp only[List.mem_cons,List.not_mem_nil,or_false] at hb ⊢;rcases hb with q | q | q | q<;>simp[q])
       exact⟨f3,f1,f4,f5⟩
     . obtain ⟨o,es',ep,ho,r⟩:=hm
       refine⟨o,es',ep,kk2 _ o (fun hm=>?_) ho,r⟩
       exact (hf X.env.locals (by simp only[List.mem_cons,List.not_mem_nil,or_false] at hm ⊢;rcases hm with q | q | q | q<;>simp[q])).2.1 rfl
     . refine (I.hok b o e).stay (fun c v hc q=>kk2 c v ?_ q) (fun _ q=>q) fun _ _ q=>q
       rcases hc with rfl | hc
       . exact nb _ _ e
       . exact nb _ _ hc
 self:=fun _ _ _ _ _ Z h=>wpAny_pyIter_zip Z.hz h
section
variable {X:Cx} {es:List Expr} {k0:Nat} {tp:Pos}
noncomputable def iZipL (ta:TA):TI:=fun σ H R=>ta σ H fun vs H1=>∃ l1 l2 xs ys,vs=[.ref l1,.ref l2]/\H1 l1=some (.lst xs)/\H1 l2=some (.lst ys)/\R (ItzL l1 l2) H1
theorem pi_zipL {a b:Expr} {ta:TA} {p pos:Pos} (hg:Gl X "zip") (hm:X.mg "zip" = none) (ha:PA X [a,b] ta) (hs:starEach [a,b] X.env=[(false,eval a X.env),(false,eval b X.env)]:=by rfl) (hs2:starEach [b] X.env=[(false,eval b X.env)]:=by rfl) :
   PI X (.Tuple es k0 tp) (.Call (.Name "zip" p) [a,b] [] pos) (iZipL ta):=by
 intro pins s σ H R I h
 refine Call_ (zy9 I hg hm boot_zip (PyProof.Rows.callWith_type1 (thn (ha pos pins s σ H _ I h) fun us s1 ⟨vs,H1,I1,r1,q1⟩=>?_) (by rw[hs,hs2]) (by rw[hs2];rfl)))
 obtain ⟨l1,l2,xs,ys,e,hx,hy,q⟩:=q1
 subst e
 obtain ⟨u1,u2,rfl,r1',r2'⟩:=zH2 r1
 cases r1'
 cases r2'
 obtain ⟨vx,rx,tx,_⟩:=I1.list (SqL.of (K:=X.K) hx)
 obtain ⟨vy,ry,ty,_⟩:=I1.list (SqL.of (K:=X.K) hy)
 refine zipL_call (show s1.heap.IsList l1 vx.toArray from tx.isList) (show s1.heap.IsList l2 vy.toArray from ty.isList) fun h' Z kk=>?_
 refine wpAny_pyIter_zip Z.hz ?_
 have I2:Inv X pins σ H1 { s1 with heap:=h' }:=I1.kept (t':=s1.toks) kk
 have ne:∀ i j:Nat,i≠j->s1.heap.objs.size+i≠s1.heap.objs.size+j:=fun i j hij=>by omega
 refine⟨_,_,_,_,H1,rfl,I2,turn_zipL (es:=es) (k0:=k0) (tp:=tp) (TI:=s1.heap.objs.size+2) (TO:=s1.heap.objs.size+3) (i1:=s1.heap.objs.size) (i2:=s1.heap.objs.size+1) ⟨ne 2 4 (by decide),ne 3 4 (by decide),ne 0 4 (by decide),ne 1 4 (by decide),ne 2 3 (by decide),ne 2 0 (by decide),ne 2 1 (by decide),ne 3 0 (by decide),ne 3 1 (by decide),ne 0 1 (by decide)⟩,Z,fun b hb=>?_,q⟩
 have hge:s1.heap.objs.size<=b:=by
   simp only[List.mem_cons,List.not_mem_nil,or_false] at hb
   rcases hb with rfl | rfl | rfl | rfl | rfl<;>first | exact Nat.le_add_right _ _ | exact Nat.le_refl _
 exact I1.fpOk hge (I1.hok.fresh hge)
end
noncomputable def zacc (g:V->V->Bool) (f:V->V->V) (xs ys:List V):List V:=(List.zip xs ys).filterMap fun p=>if g p.1 p.2=true then some (f p.1 p.2) else none
theorem comp_zipL {K:PySem.W.Frag} {H1:Hp} {l1 l2 D:Addr} {xs ys:List V} {g:V->V->Bool} {f:V->V->V} {rest:St} {tif:TT} {telt:TE} {Q:Hp->Prop} (hx:H1 l1=some (.lst xs)) (hy:H1 l2=some (.lst ys)) (hD:H1 D=none) (hn:xs.length<=sizeLine)
   (tf:∀ (i:Nat) x y H' R,xs[i]?=some x->ys[i]?=some y->Same H1 H'->R (g x y) H'->tif (some x::some y::rest) H' R)
   (el:∀ (i:Nat) x y H' R,xs[i]?=some x->ys[i]?=some y->Same H1 H'->R (f x y) H'->telt (some x::some y::rest) H' R) (q:∀ H',Same H1 H'->H' D=some (.lst (zacc g f xs ys))->Q H') :
   ∃ W:Nat->Nat->St->Hp->Prop,(∃ m,W 0 m (none::none::rest) (upd H1 D (.lst []))) ∧
     ∀ i m σ' H',W i m σ' H'->((ItzL l1 l2).stop i H'/\Q H')\/((ItzL l1 l2).go i H'/\∃ N:St->Hp->Prop,(∀ σ2 H2,N σ2 H2->∃ m',m'<m/\W (i+1) m' σ2 H2) ∧
       ∀ v H2,(ItzL l1 l2).yld i H' v H2->gTup K 2 (zL9 (zl6 0) (zL9 (zl6 1) gNil)) v σ' H2 fun σ3 H3=>tif σ3 H3 fun b H4=>if b=true then zr3 D telt N σ3 H4 else N σ3 H4):=by
 have zt:∀ i x y,xs[i]?=some x->ys[i]?=some y->zacc g f (xs.take (i+1)) (ys.take (i+1))=zacc g f (xs.take i) (ys.take i)++(if g x y=true then [f x y] else []):=by
   intro i x y e1 e2
   unfold zacc
   have h1:i<xs.length:=(List.getElem?_eq_some_iff.mp e1).1
   have h2:i<ys.length:=(List.getElem?_eq_some_iff.mp e2).1
   rw[List.take_succ,List.take_succ,e1,e2,Option.toList_some,Option.toList_some,List.zip_append (by rw[List.length_take,List.length_take];omega),List.filterMap_append]
   congr 1
   by_cases hg:g x y=true
   . rw[if_pos hg]
     simp[hg]
   . rw[if_neg hg]
     simp[hg]
 have zl:∀ i,(zacc g f (xs.take i) (ys.take i)).length<=i:=by
   intro i
   unfold zacc
   refine Nat.le_trans (List.length_filterMap_le _ _) ?_
   rw[List.length_zip,List.length_take,List.length_take]
   omega
 have ze:∀ i,i<=xs.length->i<=ys.length->(xs.length<=i\/ys.length<=i)->zacc g f (xs.take i) (ys.take i)=zacc g f xs ys:=by
   intro i h1 h2 h3
   unfold zacc
   congr 1
   have ez:List.zip (xs.take i) (ys.take i)=(List.zip xs ys).take i:=by rw[List.zip_eq_zipWith,List.zip_eq_zipWith,List.take_zipWith]
   rw[ez,List.take_of_length_le]
   rw[List.length_zip]
   omega
 refine⟨fun i m σ' H'=>m=xs.length-i/\i<=xs.length/\i<=ys.length/\(∃ a b,σ'=a::b::rest)/\Same H1 H'/\H' D=some (.lst (zacc g f (xs.take i) (ys.take i))),⟨xs.length,by simp,Nat.zero_le _,Nat.zero_le _,⟨_,_,rfl⟩,Same.upd hD,by rw[za2];rfl⟩,?_⟩
 rintro i m σ' H' ⟨rfl,hi,hi2,⟨a,b,rfl⟩,s,hd⟩
 by_cases hlt:i<xs.length
 . by_cases hlt2:i<ys.length
   . have ex:xs[i]?=some xs[i]:=by simp[hlt]
     have ey:ys[i]?=some (ys[i]'(by omega)):=by simp
     refine .inr ⟨⟨xs,ys,_,_,s _ _ hx,s _ _ hy,ex,ey⟩,fun σ2 H2=>(∃ a b,σ2=a::b::rest)/\Same H1 H2/\H2 D=some (.lst (zacc g f (xs.take (i+1)) (ys.take (i+1)))),fun σ2 H2 h=>⟨xs.length-(i+1),by omega,rfl,hlt,hlt2,h.1,h.2.1,h.2.2⟩,?_⟩
     rintro v H2 ⟨p,xs',ys',x',y',fp,rfl,hx',hy',ex',ey',rfl⟩
     have e1:xs'=xs:=by have:=(s _ _ hx).symm.trans hx';cases this;rfl
     have e2:ys'=ys:=by have:=(s _ _ hy).symm.trans hy';cases this;rfl
     subst e1 e2
     have nDp:D≠p:=fun z=>by rw[z,fp] at hd;cases hd
     have hz:=zt i _ _ ex' ey'
     have hll:=zl i
     refine⟨p,_,rfl,SqT.of za2,rfl,_,_,rfl,_,_,rfl,rfl,?_⟩
     refine tf i x' y' _ _ ex' ey' (s.updT fp) ?_
     by_cases hg:g x' y'=true
     . rw[hg]
       rw[if_pos hg] at hz
       refine iteT ?_
       show zr3 D telt _ (some x'::some y'::rest) _
       refine el i x' y' _ _ ex' ey' (s.updT fp) ⟨_,by rw[za7 nDp];exact hd,by omega,⟨_,_,rfl⟩,(s.updT fp).put hD,?_⟩
       rw[za2,hz]
     . rw[Bool.eq_false_iff.mpr hg]
       rw[if_neg hg,List.append_nil] at hz
       refine iteF ⟨⟨_,_,rfl⟩,s.updT fp,?_⟩
       rw[za7 nDp,hd,hz]
   . refine .inl ⟨⟨xs,ys,s _ _ hx,s _ _ hy,.inr ⟨hlt,by omega⟩⟩,q H' s ?_⟩
     rw[hd,ze i hi hi2 (.inr (by omega))]
 . refine .inl ⟨⟨xs,ys,s _ _ hx,s _ _ hy,.inl (by omega)⟩,q H' s ?_⟩
   rw[hd,ze i hi hi2 (.inl (by omega))]
end L2
/-! a method of one's own that raises,within try,the names' values known -/
namespace L2
open PySem PySem.Spec PyProof.Rows
noncomputable def zT2 (C:Addr) (m:Str) (sp:Sp) (dvs:List V) (Ex:St->XK) (ta:TE) (t:TA):TE:=fun σ H Q=>ta σ H fun x H1=>∃ a dx fs,x = .ref a/\H1 a=some (.ins C dx fs)/\fs.lookup m=none ∧
 t σ H1 fun vs H2=>sp (x::(vs++dvs)) H2 Q (Ex σ)
section
variable {X:Cx} {CX:CXT} {k:Nat} {f C:Addr} {fd:FuncData} {ps:List Str} {sp:Sp} {dvs:List V} {ds:List Value} {Ex:St->XK} {x m:Str} {p pos apos:Pos} {e o:Expr} {es:List Expr} {ta:TE} {t:TA}
theorem zQ8 {pins:List (Addr×Obj)} {σ:St} {H:Hp} {s:Shared} {Q:VK} {us:List Value} {vs:List V} (F:FnOk X.prog X.w X.K X.mg X.base CX k f fd ps sp) (hr:Room k X.A) (hb:zc7 X.K fd ps ds) (hd:Vals dvs ds) (hx:zE7 CX X Ex)
   (I:Inv X pins σ H s) (r:Vals vs us) (h:sp (vs++dvs) H Q (Ex σ)):wpAny (model X.prog X.w) X.A (call (.ref f) us) (EP X pins σ Q) X.xe s:=by
 have r2:Vals (vs++dvs) (us++ds):=r.append hd
 have hl:(us++ds).length=ps.length:=by rw[<-r2.length];exact F.len _ _ _ _ h
 refine wpAny_call (codeAny_mono (F.run X.A X.stack s H ⟨us,[]⟩ (us++ds) (vs++dvs) Q (Ex σ) hr I.env0 (hb s us I.kIn hl) r2 h) fun r s' hq=>?_)
 cases r with
 | error e=>exact hx pins σ H s e s' I hq
 | ok fl =>
   cases fl with
   | ret u=>exact I.after hq
   | next=>exact False.elim hq
   | brk=>exact False.elim hq
   | cont=>exact False.elim hq
theorem pe_methS {pl:Sem Bool} (he:PE X o ta) (c:Cls X.K C) (hm:Meth X.K C m f) (F:FnOk X.prog X.w X.K X.mg X.base CX k f fd ps sp) (hr:Room k X.A) (hb:zc7 X.K fd ps ds) (hd:Vals dvs ds) (hx:zE7 CX X Ex) (ha:PA X (e::es) t)
   (hst:starEach (e::es) X.env=(false,eval e X.env)::starEach es X.env:=by rfl) (hpl:(backTo pos (starEach es X.env)).any (·.1)=false:=by rfl)
   (ht:eval (.Call (.Attribute o m apos) (e::es) [] pos) X.env=(do
     let ov <-eval o X.env
     standAt apos.atName
     let (f,first) <-holding [ov] (getMethod ov m pl)
     callWith pos f first (backTo pos (starEach (e::es) X.env)) (backToKw pos (keywordEach [] X.env))):=by rfl) :
   PE X (.Call (.Attribute o m apos) (e::es) [] pos) (zT2 C m sp dvs Ex ta t):=by
 intro pins s σ H Q I h
 refine PySem.W.methodCall_KW (pl:=pl) (thn (he pins s σ H _ I h) fun u s1 ⟨x,H1,I1,rx,a,dx,fs,ex,ea,l,q⟩=>?_) ht
 subst ex
 obtain rfl:u=Value.ref a:=rx
 refine zz0 I1 ea c hm l ?_
 refine PySem.W.callWith_K (first:=[.ref a]) (h₀:=X.base) I.ok.mod.kin hm.kp (thn (ha pos pins s1 σ H1 _ I1 q) fun us s2 ⟨vs,H2,I2,r,q2⟩=>⟨I2.kIn,?_⟩) hst hpl
 exact zQ8 (us:=.ref a::us) (vs:=.ref a::vs) F hr hb hd hx I2 (.cons rfl r) q2
theorem pe_meth0S {pl:Sem Bool} (he:PE X o ta) (c:Cls X.K C) (hm:Meth X.K C m f) (F:FnOk X.prog X.w X.K X.mg X.base CX k f fd ps sp) (hr:Room k X.A) (hb:zc7 X.K fd ps ds) (hd:Vals dvs ds) (hx:zE7 CX X Ex)
   (ht:eval (.Call (.Attribute o m apos) [] [] pos) X.env=(do
     let ov <-eval o X.env
     standAt apos.atName
     let (f,first) <-holding [ov] (getMethod ov m pl)
     callWith pos f first (backTo pos (starEach [] X.env)) (backToKw pos (keywordEach [] X.env))):=by rfl) :
   PE X (.Call (.Attribute o m apos) [] [] pos) (zT2 C m sp dvs Ex ta tNil):=by
 intro pins s σ H Q I h
 refine PySem.W.methodCall_KW (pl:=pl) (thn (he pins s σ H _ I h) fun u s1 ⟨x,H1,I1,rx,a,dx,fs,ex,ea,l,q⟩=>?_) ht
 subst ex
 obtain rfl:u=Value.ref a:=rx
 refine zz0 I1 ea c hm l ?_
 exact PySem.W.callWith_K0 (first:=[.ref a]) I1.kIn hm.kp (zQ8 (us:=[.ref a]) (vs:=[.ref a]) F hr hb hd hx I1 (.cons rfl .nil) q)
end
end L2
namespace Bt
open PySem L2
/-! ### the text by places -/
noncomputable def top (i:Nat):Stmt:=PySem.Challenge.pw_beamtender_k31_whole_play.main.body.getD i (.Pass ⟨0,0,0,0⟩)
noncomputable abbrev ze3:Stmt:=zi9 (top 2) 0
noncomputable abbrev ze8:Stmt:=zi9 (top 5) 0
noncomputable abbrev zf2:Stmt:=zi9 (top 6) 0
noncomputable abbrev ze4:Stmt:=zi9 (top 7) 0
noncomputable abbrev zf5:Stmt:=zi9 (top 8) 0
noncomputable abbrev zd7:Stmt:=zi9 (top 9) 0
noncomputable abbrev zd8:Stmt:=zi9 (top 10) 0
noncomputable abbrev ze9:Stmt:=zi9 (top 13) 0
noncomputable abbrev zd6:Stmt:=zi9 (top 12) 0
noncomputable abbrev zl0:Stmt:=zi9 (top 21) 0
noncomputable abbrev zo8:Stmt:=top 22
noncomputable abbrev zg9:Stmt:=top 23
noncomputable abbrev zi2:Stmt:=top 24
noncomputable abbrev zf9:Stmt:=top 25
noncomputable abbrev zi3:Stmt:=top 26
noncomputable abbrev zw3:Stmt:=top 28
noncomputable abbrev zC5:Stmt:=top 29
noncomputable abbrev zx7:Stmt:=top 30
noncomputable abbrev zo9:Stmt:=top 31
noncomputable abbrev zx8:Stmt:=top 33
noncomputable abbrev zt2:Stmt:=top 34
noncomputable abbrev zt3:Stmt:=top 35
noncomputable abbrev zC6:Stmt:=top 36
noncomputable abbrev zj8:Stmt:=top 37
noncomputable abbrev zh0:Stmt:=top 38
noncomputable abbrev zl1:Stmt:=top 39
noncomputable abbrev zi4:Stmt:=top 40
noncomputable abbrev zl2:Stmt:=zi9 (top 43) 0
noncomputable abbrev zl3:Stmt:=zi9 (top 43) 1
noncomputable abbrev zl4:Stmt:=zi9 (top 43) 2
noncomputable abbrev zj9:Stmt:=zi9 (top 43) 3
noncomputable abbrev zC7:Stmt:=top 45
noncomputable abbrev zp0:Stmt:=top 46
noncomputable abbrev zt4:Stmt:=top 47
noncomputable abbrev zl5:Stmt:=top 48
noncomputable abbrev zx9:Stmt:=top 49
noncomputable abbrev zt5:Stmt:=top 50
noncomputable abbrev zp6:Stmt:=top 51
noncomputable abbrev zt6:Stmt:=top 52
noncomputable abbrev zt7:Stmt:=top 53
noncomputable abbrev zt8:Stmt:=top 54
noncomputable abbrev zn5:Stmt:=top 55
noncomputable abbrev zt9:Stmt:=top 56
noncomputable abbrev zi5:Stmt:=top 57
noncomputable abbrev zu0:Stmt:=top 58
noncomputable abbrev zn6:Stmt:=top 59
noncomputable abbrev zk0:Stmt:=top 60
noncomputable abbrev zn7:Stmt:=top 61
noncomputable abbrev zm8:Stmt:=top 62
noncomputable abbrev zu1:Stmt:=top 63
noncomputable abbrev zI3:Stmt:=top 64
theorem sc_BeamError_init:zc0 ["self","reason","word"] ["self","reason","word"] (za5 ze3):=⟨rfl,rfl,rfl,by decide +kernel,rfl,by decide +kernel,by decide +kernel⟩
theorem sc_NoWeight_init:zc0 ["self","reason"] ["self","reason"] (za5 ze8):=⟨rfl,rfl,rfl,by decide +kernel,rfl,by decide +kernel,by decide +kernel⟩
theorem sc_NoPlace_init:zc0 ["self","reason"] ["self","reason"] (za5 zf2):=⟨rfl,rfl,rfl,by decide +kernel,rfl,by decide +kernel,by decide +kernel⟩
theorem sc_SamePlace_init:zc0 ["self","reason"] ["self","reason"] (za5 ze4):=⟨rfl,rfl,rfl,by decide +kernel,rfl,by decide +kernel,by decide +kernel⟩
theorem sc_NoRoom_init:zc0 ["self","reason"] ["self","reason"] (za5 zf5):=⟨rfl,rfl,rfl,by decide +kernel,rfl,by decide +kernel,by decide +kernel⟩
theorem sc_TipsInHand_init:zc0 ["self","reason"] ["self","reason"] (za5 zd7):=⟨rfl,rfl,rfl,by decide +kernel,rfl,by decide +kernel,by decide +kernel⟩
theorem sc_TipsBehind_init:zc0 ["self","reason"] ["self","reason"] (za5 zd8):=⟨rfl,rfl,rfl,by decide +kernel,rfl,by decide +kernel,by decide +kernel⟩
theorem sc_PlayFull_init:zc0 ["self","reason"] ["self","reason"] (za5 ze9):=⟨rfl,rfl,rfl,by decide +kernel,rfl,by decide +kernel,by decide +kernel⟩
theorem sc_NothingBack_init:zc0 ["self","reason"] ["self","reason"] (za5 zd6):=⟨rfl,rfl,rfl,by decide +kernel,rfl,by decide +kernel,by decide +kernel⟩
theorem sc_Beam_init:zc0 ["self","notches","room","hefts","limit"] ["self","notches","room","hefts","limit"] (za5 zl0):=⟨rfl,rfl,rfl,by decide +kernel,rfl,by decide +kernel,by decide +kernel⟩
theorem sc_outside:zc0 ["number","low","high"] ["number","low","high"] (za5 zo8):=⟨rfl,rfl,rfl,by decide +kernel,rfl,by decide +kernel,by decide +kernel⟩
theorem sc_check_bounds:zc0 ["notches","room","limit"] ["notches","room","limit"] (za5 zg9):=⟨rfl,rfl,rfl,by decide +kernel,rfl,by decide +kernel,by decide +kernel⟩
theorem zw4:zc0 ["hefts","heft"] ["hefts"] (za5 zi2):=⟨rfl,rfl,rfl,by decide +kernel,rfl,by decide +kernel,by decide +kernel⟩
theorem zh8:zc0 ["notches","weights","many","weight"] ["notches","weights"] (za5 zf9):=⟨rfl,rfl,rfl,by decide +kernel,rfl,by decide +kernel,by decide +kernel⟩
theorem zq7:zc0 ["beam","standing","places","place"] ["beam","standing"] (za5 zi3):=⟨rfl,rfl,rfl,by decide +kernel,rfl,by decide +kernel,by decide +kernel⟩
theorem zQ9:zc0 ["beam","standing","places"] ["beam","standing"] (za5 zw3):=⟨rfl,rfl,rfl,by decide +kernel,rfl,by decide +kernel,by decide +kernel⟩
theorem zC8:zg8 ["beam","standing","places"] (za5 zw3) (zA1 (zU7 (stE (stAt (zb1 zw3) 1)) 0)) ["heft","place"] [none,none]:=⟨rfl,by decide +kernel,by decide +kernel,by decide +kernel,rfl,by decide +kernel,by decide +kernel⟩
theorem sc_past:zc0 ["beam","tipped"] ["beam","tipped"] (za5 zC5):=⟨rfl,rfl,rfl,by decide +kernel,rfl,by decide +kernel,by decide +kernel⟩
theorem sc_keeps:zc0 ["beam","standing"] ["beam","standing"] (za5 zx7):=⟨rfl,rfl,rfl,by decide +kernel,rfl,by decide +kernel,by decide +kernel⟩
theorem zG2:zc0 ["beam","standing","weight","places"] ["beam","standing","weight"] (za5 zo9):=⟨rfl,rfl,rfl,by decide +kernel,rfl,by decide +kernel,by decide +kernel⟩
theorem zM9:zc0 ["beam","standing","move","places"] ["beam","standing","move"] (za5 zx8):=⟨rfl,rfl,rfl,by decide +kernel,rfl,by decide +kernel,by decide +kernel⟩
theorem sc_turned:zc0 ["move"] ["move"] (za5 zt2):=⟨rfl,rfl,rfl,by decide +kernel,rfl,by decide +kernel,by decide +kernel⟩
theorem sc_behind:zc0 ["places","move"] ["places","move"] (za5 zt3):=⟨rfl,rfl,rfl,by decide +kernel,rfl,by decide +kernel,by decide +kernel⟩
theorem sc_full:zc0 ["beam","places","place"] ["beam","places","place"] (za5 zC6):=⟨rfl,rfl,rfl,by decide +kernel,rfl,by decide +kernel,by decide +kernel⟩
theorem sc_check_move:zc0 ["beam","places","weight","taken","put"] ["beam","places","weight","taken","put"] (za5 zj8):=⟨rfl,rfl,rfl,by decide +kernel,rfl,by decide +kernel,by decide +kernel⟩
theorem sc_check_weight:zc0 ["places","weight","taken"] ["places","weight","taken"] (za5 zh0):=⟨rfl,rfl,rfl,by decide +kernel,rfl,by decide +kernel,by decide +kernel⟩
theorem sc_check_put:zc0 ["beam","places","taken","put"] ["beam","places","taken","put"] (za5 zl1):=⟨rfl,rfl,rfl,by decide +kernel,rfl,by decide +kernel,by decide +kernel⟩
theorem sc_check_tilts:zc0 ["beam","held","added"] ["beam","held","added"] (za5 zi4):=⟨rfl,rfl,rfl,by decide +kernel,rfl,by decide +kernel,by decide +kernel⟩
theorem zA6:zc0 ["self","beam","start","first"] ["self","beam","start"] (za5 zl2):=⟨rfl,rfl,rfl,by decide +kernel,rfl,by decide +kernel,by decide +kernel⟩
theorem sc_Play_move:zc0 ["self","move"] ["self","move"] (za5 zl3):=⟨rfl,rfl,rfl,by decide +kernel,rfl,by decide +kernel,by decide +kernel⟩
theorem zA7:zc0 ["self","last"] ["self"] (za5 zl4):=⟨rfl,rfl,rfl,by decide +kernel,rfl,by decide +kernel,by decide +kernel⟩
theorem sc_Play_trail:zc0 ["self"] ["self"] (za5 zj9):=⟨rfl,rfl,rfl,by decide +kernel,rfl,by decide +kernel,by decide +kernel⟩
theorem sc_w_at:zc0 ["_law_script","_law_k"] ["_law_script","_law_k"] (za5 zC7):=⟨rfl,rfl,rfl,by decide +kernel,rfl,by decide +kernel,by decide +kernel⟩
theorem sc_w_whole:zc0 ["_law_found"] ["_law_found"] (za5 zp0):=⟨rfl,rfl,rfl,by decide +kernel,rfl,by decide +kernel,by decide +kernel⟩
theorem zm9:zc0 ["_law_cell","_law_count","_law_base","_law_mix","_law_made","_law_rest","_law_k"] ["_law_cell","_law_count","_law_base","_law_mix"] (za5 zt4):=⟨rfl,rfl,rfl,by decide +kernel,rfl,by decide +kernel,by decide +kernel⟩
theorem zh9:zc0 ["_law_script","_law_cell","_law_notches","_law_count","_law_room","_law_mode","_law_hefts"] ["_law_script"] (za5 zl5):=⟨rfl,rfl,rfl,by decide +kernel,rfl,by decide +kernel,by decide +kernel⟩
theorem zA8:zg8 ["_law_script","_law_cell","_law_notches","_law_count","_law_room","_law_mode","_law_hefts"] (za5 zl5) (zA1 (stE (stAt (zb1 zl5) 5))) ["_law_x"] [none]:=⟨rfl,by decide +kernel,by decide +kernel,by decide +kernel,rfl,by decide +kernel,by decide +kernel⟩
theorem zj3:zc0 ["_law_script","_law_k","_law_more","_law_shape_here","_law_notches","_law_room","_law_hefts","_law_mix","_law_cell","_law_made","_law_x","_law_place"] ["_law_script","_law_k","_law_more","_law_shape_here"] (za5 zx9):=⟨rfl,rfl,rfl,by decide +kernel,rfl,by decide +kernel,by decide +kernel⟩
theorem zy0:zc0 ["_law_hefts","_law_spots","_law_total","_law_k"] ["_law_hefts","_law_spots"] (za5 zt5):=⟨rfl,rfl,rfl,by decide +kernel,rfl,by decide +kernel,by decide +kernel⟩
theorem zz4:zc0 ["_law_script","_law_low","_law_cell","_law_kind"] ["_law_script","_law_low"] (za5 zp6):=⟨rfl,rfl,rfl,by decide +kernel,rfl,by decide +kernel,by decide +kernel⟩
theorem zC9:zc0 ["_law_cell","_law_more","_law_start"] ["_law_cell"] (za5 zt6):=⟨rfl,rfl,rfl,by decide +kernel,rfl,by decide +kernel,by decide +kernel⟩
theorem zg0:zc0 ["_law_script","_law_shape_here","_law_notches","_law_room","_law_hefts","_law_first","_law_last","_law_craft","_law_notch","_law_low"] ["_law_script"] (za5 zt7):=⟨rfl,rfl,rfl,by decide +kernel,rfl,by decide +kernel,by decide +kernel⟩
theorem zk1:zc0 ["_law_scale","_law_spots","_law_move","_law_notches","_law_room","_law_hefts","_law_limit_here","_law_weight","_law_source","_law_target","_law_lifted"] ["_law_scale","_law_spots","_law_move"] (za5 zt8):=⟨rfl,rfl,rfl,by decide +kernel,rfl,by decide +kernel,by decide +kernel⟩
theorem zh1:zc0 ["_law_scale","_law_spots","_law_notches","_law_room","_law_hefts","_law_limit_here","_law_total","_law_free","_law_made","_law_k","_law_lifted","_law_place"] ["_law_scale","_law_spots"] (za5 zn5):=⟨rfl,rfl,rfl,by decide +kernel,rfl,by decide +kernel,by decide +kernel⟩
theorem zE0:zg8 ["_law_scale","_law_spots","_law_notches","_law_room","_law_hefts","_law_limit_here","_law_total","_law_free","_law_made","_law_k","_law_lifted","_law_place"] (za5 zn5) (zA1 (stE (stAt (zb1 zn5) 2))) ["_law_x","_law_room","_law_spots"] [none,some 3,some 1]:=⟨rfl,by decide +kernel,by decide +kernel,by decide +kernel,rfl,by decide +kernel,by decide +kernel⟩
theorem zI4:zc0 ["_law_found","_law_due","_law_k"] ["_law_found","_law_due"] (za5 zt9):=⟨rfl,rfl,rfl,by decide +kernel,rfl,by decide +kernel,by decide +kernel⟩
theorem zw5:zc0 ["_law_found","_law_due","_law_k"] ["_law_found","_law_due"] (za5 zi5):=⟨rfl,rfl,rfl,by decide +kernel,rfl,by decide +kernel,by decide +kernel⟩
theorem sc_w_beam:zc0 ["_law_scale"] ["_law_scale"] (za5 zu0):=⟨rfl,rfl,rfl,by decide +kernel,rfl,by decide +kernel,by decide +kernel⟩
theorem zy1:zc0 ["_law_scale","_law_spots","_law_cell","_law_near_here","_law_behind","_law_moved_one"] ["_law_scale","_law_spots","_law_cell"] (za5 zn6):=⟨rfl,rfl,rfl,by decide +kernel,rfl,by decide +kernel,by decide +kernel⟩
theorem zE1:zg8 ["_law_scale","_law_spots","_law_cell","_law_near_here","_law_behind","_law_moved_one"] (za5 zn6) (zA1 (exOf (stE (stAt (zb1 zn6) 3)))) ["_law_k","_law_behind","_law_spots"] [none,some 4,some 1]:=⟨rfl,by decide +kernel,by decide +kernel,by decide +kernel,rfl,by decide +kernel,by decide +kernel⟩
theorem zf6:zc0 ["_law_scale","_law_now","_law_cell","_law_count","_law_weight","_law_rest","_law_source","_law_target"] ["_law_scale","_law_now","_law_cell"] (za5 zk0):=⟨rfl,rfl,rfl,by decide +kernel,rfl,by decide +kernel,by decide +kernel⟩
theorem zi6:zc0 ["_law_play","_law_move","_law_found","_law_kinds","e","_law_names"] ["_law_play","_law_move"] (za5 zn7):=⟨rfl,rfl,rfl,by decide +kernel,rfl,by decide +kernel,by decide +kernel⟩
theorem zw6:zg8 ["_law_play","_law_move","_law_found","_law_kinds","e","_law_names"] (za5 zn7) (zA1 (zU7 (exEls (stE (stAt (zb1 zn7) 4)) 1) 0)) ["_law_name","_law_flag"] [none,none]:=⟨rfl,by decide +kernel,by decide +kernel,by decide +kernel,rfl,by decide +kernel,by decide +kernel⟩
theorem zr6:zc0 ["_law_scale","_law_now","_law_tried","_law_cell","_law_move","_law_more","_law_weight"] ["_law_scale","_law_now","_law_tried","_law_cell"] (za5 zm8):=⟨rfl,rfl,rfl,by decide +kernel,rfl,by decide +kernel,by decide +kernel⟩
theorem zk2:zc0 ["_law_play","_law_scale","_law_now","_law_made","_law_tried","_law_cell","_law_move","_law_found","_law_word_here","_law_due","_law_behind"] ["_law_play","_law_scale","_law_now","_law_made","_law_tried","_law_cell"] (za5 zu1):=⟨rfl,rfl,rfl,by decide +kernel,rfl,by decide +kernel,by decide +kernel⟩
theorem zq8:zc0 ["_law_script","_law_scale","_law_first","_law_last","_law_play","_law_now","_law_made","_law_tried","_law_cell","_law_fine"] ["_law_script"] (za5 zI3):=⟨rfl,rfl,rfl,by decide +kernel,rfl,by decide +kernel,by decide +kernel⟩
/-! ### what the top has written -/
set_option genInjectivity false in
set_option genSizeOf false in
structure Adr where
 a_BeamError_init:Addr
 d_BeamError_init:FuncData
 a_NoWeight_init:Addr
 d_NoWeight_init:FuncData
 a_NoPlace_init:Addr
 d_NoPlace_init:FuncData
 a_SamePlace_init:Addr
 d_SamePlace_init:FuncData
 a_NoRoom_init:Addr
 d_NoRoom_init:FuncData
 a_TipsInHand_init:Addr
 d_TipsInHand_init:FuncData
 a_TipsBehind_init:Addr
 d_TipsBehind_init:FuncData
 a_PlayFull_init:Addr
 d_PlayFull_init:FuncData
 a_NothingBack_init:Addr
 d_NothingBack_init:FuncData
 a_Beam_init:Addr
 d_Beam_init:FuncData
 a_outside:Addr
 d_outside:FuncData
 a_check_bounds:Addr
 d_check_bounds:FuncData
 a_check_hefts:Addr
 d_check_hefts:FuncData
 a_check_standings:Addr
 d_check_standings:FuncData
 a_as_standing:Addr
 d_as_standing:FuncData
 a_tilt:Addr
 d_tilt:FuncData
 a_past:Addr
 d_past:FuncData
 a_keeps:Addr
 d_keeps:FuncData
 a_in_hand:Addr
 d_in_hand:FuncData
 a_moved:Addr
 d_moved:FuncData
 a_turned:Addr
 d_turned:FuncData
 a_behind:Addr
 d_behind:FuncData
 a_full:Addr
 d_full:FuncData
 a_check_move:Addr
 d_check_move:FuncData
 a_check_weight:Addr
 d_check_weight:FuncData
 a_check_put:Addr
 d_check_put:FuncData
 a_check_tilts:Addr
 d_check_tilts:FuncData
 a_Play_init:Addr
 d_Play_init:FuncData
 a_Play_move:Addr
 d_Play_move:FuncData
 a_Play_back:Addr
 d_Play_back:FuncData
 a_Play_trail:Addr
 d_Play_trail:FuncData
 a_w_at:Addr
 d_w_at:FuncData
 a_w_whole:Addr
 d_w_whole:FuncData
 a_w_figs:Addr
 d_w_figs:FuncData
 a_w_shape:Addr
 d_w_shape:FuncData
 a_w_put:Addr
 d_w_put:FuncData
 a_w_tilt:Addr
 d_w_tilt:FuncData
 a_w_limit:Addr
 d_w_limit:FuncData
 a_w_hard:Addr
 d_w_hard:FuncData
 a_w_case:Addr
 d_w_case:FuncData
 a_w_word:Addr
 d_w_word:FuncData
 a_w_near:Addr
 d_w_near:FuncData
 a_w_same:Addr
 d_w_same:FuncData
 a_w_same_rows:Addr
 d_w_same_rows:FuncData
 a_w_beam:Addr
 d_w_beam:FuncData
 a_w_pick:Addr
 d_w_pick:FuncData
 a_w_any_move:Addr
 d_w_any_move:FuncData
 a_w_done:Addr
 d_w_done:FuncData
 a_w_chosen:Addr
 d_w_chosen:FuncData
 a_w_deed:Addr
 d_w_deed:FuncData
 a_law:Addr
 d_law:FuncData
 c_Beam:Addr
 c_Play:Addr
 c_NoWeight:Addr
 c_NoPlace:Addr
 c_SamePlace:Addr
 c_NoRoom:Addr
 c_TipsInHand:Addr
 c_TipsBehind:Addr
 c_PlayFull:Addr
 c_NothingBack:Addr
 c_BeamError:Addr
 q_MOST_NOTCHES:Tok
 q_MOST_ROOM:Tok
 q_MOST_LIMIT:Tok
 q_MOST_WEIGHTS:Tok
 q_MOST_HEFT:Tok
 q_MOST_STANDINGS:Tok
 q_MOST_MOVES:Tok
structure Txt (K:PySem.W.Frag) (mg:Str->Option Value) (t:Adr):Prop where
 F_BeamError_init:FunD K "__init__" "BeamError.__init__" ze3 t.a_BeamError_init t.d_BeamError_init
 b_BeamError_init:zc7 K t.d_BeamError_init ["self","reason","word"] []
 k_BeamError_init:PySem.W.keepIn K (.ref t.a_BeamError_init)=true
 F_NoWeight_init:FunD K "__init__" "NoWeight.__init__" ze8 t.a_NoWeight_init t.d_NoWeight_init
 b_NoWeight_init:zc7 K t.d_NoWeight_init ["self","reason"] []
 k_NoWeight_init:PySem.W.keepIn K (.ref t.a_NoWeight_init)=true
 F_NoPlace_init:FunD K "__init__" "NoPlace.__init__" zf2 t.a_NoPlace_init t.d_NoPlace_init
 b_NoPlace_init:zc7 K t.d_NoPlace_init ["self","reason"] []
 k_NoPlace_init:PySem.W.keepIn K (.ref t.a_NoPlace_init)=true
 F_SamePlace_init:FunD K "__init__" "SamePlace.__init__" ze4 t.a_SamePlace_init t.d_SamePlace_init
 b_SamePlace_init:zc7 K t.d_SamePlace_init ["self","reason"] []
 k_SamePlace_init:PySem.W.keepIn K (.ref t.a_SamePlace_init)=true
 F_NoRoom_init:FunD K "__init__" "NoRoom.__init__" zf5 t.a_NoRoom_init t.d_NoRoom_init
 b_NoRoom_init:zc7 K t.d_NoRoom_init ["self","reason"] []
 k_NoRoom_init:PySem.W.keepIn K (.ref t.a_NoRoom_init)=true
 F_TipsInHand_init:FunD K "__init__" "TipsInHand.__init__" zd7 t.a_TipsInHand_init t.d_TipsInHand_init
 b_TipsInHand_init:zc7 K t.d_TipsInHand_init ["self","reason"] []
 k_TipsInHand_init:PySem.W.keepIn K (.ref t.a_TipsInHand_init)=true
 F_TipsBehind_init:FunD K "__init__" "TipsBehind.__init__" zd8 t.a_TipsBehind_init t.d_TipsBehind_init
 b_TipsBehind_init:zc7 K t.d_TipsBehind_init ["self","reason"] []
 k_TipsBehind_init:PySem.W.keepIn K (.ref t.a_TipsBehind_init)=true
 F_PlayFull_init:FunD K "__init__" "PlayFull.__init__" ze9 t.a_PlayFull_init t.d_PlayFull_init
 b_PlayFull_init:zc7 K t.d_PlayFull_init ["self","reason"] []
 k_PlayFull_init:PySem.W.keepIn K (.ref t.a_PlayFull_init)=true
 F_NothingBack_init:FunD K "__init__" "NothingBack.__init__" zd6 t.a_NothingBack_init t.d_NothingBack_init
 b_NothingBack_init:zc7 K t.d_NothingBack_init ["self","reason"] []
 k_NothingBack_init:PySem.W.keepIn K (.ref t.a_NothingBack_init)=true
 F_Beam_init:Fun K "__init__" "Beam.__init__" zl0 t.a_Beam_init t.d_Beam_init
 b_Beam_init:zc7 K t.d_Beam_init ["self","notches","room","hefts","limit"] []
 k_Beam_init:PySem.W.keepIn K (.ref t.a_Beam_init)=true
 F_outside:Fun K "outside" "outside" zo8 t.a_outside t.d_outside
 b_outside:zc7 K t.d_outside ["number","low","high"] []
 m_outside:mg "outside" = some (.ref t.a_outside)
 k_outside:PySem.W.keepIn K (.ref t.a_outside)=true
 F_check_bounds:Fun K "check_bounds" "check_bounds" zg9 t.a_check_bounds t.d_check_bounds
 b_check_bounds:zc7 K t.d_check_bounds ["notches","room","limit"] []
 m_check_bounds:mg "check_bounds" = some (.ref t.a_check_bounds)
 k_check_bounds:PySem.W.keepIn K (.ref t.a_check_bounds)=true
 F_check_hefts:Fun K "check_hefts" "check_hefts" zi2 t.a_check_hefts t.d_check_hefts
 b_check_hefts:zc7 K t.d_check_hefts ["hefts"] []
 m_check_hefts:mg "check_hefts" = some (.ref t.a_check_hefts)
 k_check_hefts:PySem.W.keepIn K (.ref t.a_check_hefts)=true
 F_check_standings:Fun K "check_standings" "check_standings" zf9 t.a_check_standings t.d_check_standings
 b_check_standings:zc7 K t.d_check_standings ["notches","weights"] []
 m_check_standings:mg "check_standings" = some (.ref t.a_check_standings)
 k_check_standings:PySem.W.keepIn K (.ref t.a_check_standings)=true
 F_as_standing:Fun K "as_standing" "as_standing" zi3 t.a_as_standing t.d_as_standing
 b_as_standing:zc7 K t.d_as_standing ["beam","standing"] []
 m_as_standing:mg "as_standing" = some (.ref t.a_as_standing)
 k_as_standing:PySem.W.keepIn K (.ref t.a_as_standing)=true
 F_tilt:Fun K "tilt" "tilt" zw3 t.a_tilt t.d_tilt
 b_tilt:zc7 K t.d_tilt ["beam","standing"] []
 m_tilt:mg "tilt" = some (.ref t.a_tilt)
 k_tilt:PySem.W.keepIn K (.ref t.a_tilt)=true
 F_past:Fun K "past" "past" zC5 t.a_past t.d_past
 b_past:zc7 K t.d_past ["beam","tipped"] []
 m_past:mg "past" = some (.ref t.a_past)
 k_past:PySem.W.keepIn K (.ref t.a_past)=true
 F_keeps:Fun K "keeps" "keeps" zx7 t.a_keeps t.d_keeps
 b_keeps:zc7 K t.d_keeps ["beam","standing"] []
 m_keeps:mg "keeps" = some (.ref t.a_keeps)
 k_keeps:PySem.W.keepIn K (.ref t.a_keeps)=true
 F_in_hand:Fun K "in_hand" "in_hand" zo9 t.a_in_hand t.d_in_hand
 b_in_hand:zc7 K t.d_in_hand ["beam","standing","weight"] []
 m_in_hand:mg "in_hand" = some (.ref t.a_in_hand)
 k_in_hand:PySem.W.keepIn K (.ref t.a_in_hand)=true
 F_moved:Fun K "moved" "moved" zx8 t.a_moved t.d_moved
 b_moved:zc7 K t.d_moved ["beam","standing","move"] []
 m_moved:mg "moved" = some (.ref t.a_moved)
 k_moved:PySem.W.keepIn K (.ref t.a_moved)=true
 F_turned:Fun K "turned" "turned" zt2 t.a_turned t.d_turned
 b_turned:zc7 K t.d_turned ["move"] []
 m_turned:mg "turned" = some (.ref t.a_turned)
 k_turned:PySem.W.keepIn K (.ref t.a_turned)=true
 F_behind:Fun K "behind" "behind" zt3 t.a_behind t.d_behind
 b_behind:zc7 K t.d_behind ["places","move"] []
 m_behind:mg "behind" = some (.ref t.a_behind)
 k_behind:PySem.W.keepIn K (.ref t.a_behind)=true
 F_full:Fun K "full" "full" zC6 t.a_full t.d_full
 b_full:zc7 K t.d_full ["beam","places","place"] []
 m_full:mg "full" = some (.ref t.a_full)
 k_full:PySem.W.keepIn K (.ref t.a_full)=true
 F_check_move:Fun K "check_move" "check_move" zj8 t.a_check_move t.d_check_move
 b_check_move:zc7 K t.d_check_move ["beam","places","weight","taken","put"] []
 m_check_move:mg "check_move" = some (.ref t.a_check_move)
 k_check_move:PySem.W.keepIn K (.ref t.a_check_move)=true
 F_check_weight:Fun K "check_weight" "check_weight" zh0 t.a_check_weight t.d_check_weight
 b_check_weight:zc7 K t.d_check_weight ["places","weight","taken"] []
 m_check_weight:mg "check_weight" = some (.ref t.a_check_weight)
 k_check_weight:PySem.W.keepIn K (.ref t.a_check_weight)=true
 F_check_put:Fun K "check_put" "check_put" zl1 t.a_check_put t.d_check_put
 b_check_put:zc7 K t.d_check_put ["beam","places","taken","put"] []
 m_check_put:mg "check_put" = some (.ref t.a_check_put)
 k_check_put:PySem.W.keepIn K (.ref t.a_check_put)=true
 F_check_tilts:Fun K "check_tilts" "check_tilts" zi4 t.a_check_tilts t.d_check_tilts
 b_check_tilts:zc7 K t.d_check_tilts ["beam","held","added"] []
 m_check_tilts:mg "check_tilts" = some (.ref t.a_check_tilts)
 k_check_tilts:PySem.W.keepIn K (.ref t.a_check_tilts)=true
 F_Play_init:Fun K "__init__" "Play.__init__" zl2 t.a_Play_init t.d_Play_init
 b_Play_init:zc7 K t.d_Play_init ["self","beam","start"] []
 k_Play_init:PySem.W.keepIn K (.ref t.a_Play_init)=true
 F_Play_move:Fun K "move" "Play.move" zl3 t.a_Play_move t.d_Play_move
 b_Play_move:zc7 K t.d_Play_move ["self","move"] []
 k_Play_move:PySem.W.keepIn K (.ref t.a_Play_move)=true
 F_Play_back:Fun K "back" "Play.back" zl4 t.a_Play_back t.d_Play_back
 b_Play_back:zc7 K t.d_Play_back ["self"] []
 k_Play_back:PySem.W.keepIn K (.ref t.a_Play_back)=true
 F_Play_trail:Fun K "trail" "Play.trail" zj9 t.a_Play_trail t.d_Play_trail
 b_Play_trail:zc7 K t.d_Play_trail ["self"] []
 k_Play_trail:PySem.W.keepIn K (.ref t.a_Play_trail)=true
 F_w_at:Fun K "_law_at" "_law_at" zC7 t.a_w_at t.d_w_at
 b_w_at:zc7 K t.d_w_at ["_law_script","_law_k"] []
 m_w_at:mg "_law_at" = some (.ref t.a_w_at)
 k_w_at:PySem.W.keepIn K (.ref t.a_w_at)=true
 F_w_whole:Fun K "_law_whole" "_law_whole" zp0 t.a_w_whole t.d_w_whole
 b_w_whole:zc7 K t.d_w_whole ["_law_found"] []
 m_w_whole:mg "_law_whole" = some (.ref t.a_w_whole)
 k_w_whole:PySem.W.keepIn K (.ref t.a_w_whole)=true
 F_w_figs:Fun K "_law_figs" "_law_figs" zt4 t.a_w_figs t.d_w_figs
 b_w_figs:zc7 K t.d_w_figs ["_law_cell","_law_count","_law_base","_law_mix"] []
 m_w_figs:mg "_law_figs" = some (.ref t.a_w_figs)
 k_w_figs:PySem.W.keepIn K (.ref t.a_w_figs)=true
 F_w_shape:Fun K "_law_shape" "_law_shape" zl5 t.a_w_shape t.d_w_shape
 b_w_shape:zc7 K t.d_w_shape ["_law_script"] []
 m_w_shape:mg "_law_shape" = some (.ref t.a_w_shape)
 k_w_shape:PySem.W.keepIn K (.ref t.a_w_shape)=true
 F_w_put:Fun K "_law_put" "_law_put" zx9 t.a_w_put t.d_w_put
 b_w_put:zc7 K t.d_w_put ["_law_script","_law_k","_law_more","_law_shape_here"] []
 m_w_put:mg "_law_put" = some (.ref t.a_w_put)
 k_w_put:PySem.W.keepIn K (.ref t.a_w_put)=true
 F_w_tilt:Fun K "_law_tilt" "_law_tilt" zt5 t.a_w_tilt t.d_w_tilt
 b_w_tilt:zc7 K t.d_w_tilt ["_law_hefts","_law_spots"] []
 m_w_tilt:mg "_law_tilt" = some (.ref t.a_w_tilt)
 k_w_tilt:PySem.W.keepIn K (.ref t.a_w_tilt)=true
 F_w_limit:Fun K "_law_limit" "_law_limit" zp6 t.a_w_limit t.d_w_limit
 b_w_limit:zc7 K t.d_w_limit ["_law_script","_law_low"] []
 m_w_limit:mg "_law_limit" = some (.ref t.a_w_limit)
 k_w_limit:PySem.W.keepIn K (.ref t.a_w_limit)=true
 F_w_hard:Fun K "_law_hard" "_law_hard" zt6 t.a_w_hard t.d_w_hard
 b_w_hard:zc7 K t.d_w_hard ["_law_cell"] []
 m_w_hard:mg "_law_hard" = some (.ref t.a_w_hard)
 k_w_hard:PySem.W.keepIn K (.ref t.a_w_hard)=true
 F_w_case:Fun K "_law_case" "_law_case" zt7 t.a_w_case t.d_w_case
 b_w_case:zc7 K t.d_w_case ["_law_script"] []
 m_w_case:mg "_law_case" = some (.ref t.a_w_case)
 k_w_case:PySem.W.keepIn K (.ref t.a_w_case)=true
 F_w_word:Fun K "_law_word" "_law_word" zt8 t.a_w_word t.d_w_word
 b_w_word:zc7 K t.d_w_word ["_law_scale","_law_spots","_law_move"] []
 m_w_word:mg "_law_word" = some (.ref t.a_w_word)
 k_w_word:PySem.W.keepIn K (.ref t.a_w_word)=true
 F_w_near:Fun K "_law_near" "_law_near" zn5 t.a_w_near t.d_w_near
 b_w_near:zc7 K t.d_w_near ["_law_scale","_law_spots"] []
 m_w_near:mg "_law_near" = some (.ref t.a_w_near)
 k_w_near:PySem.W.keepIn K (.ref t.a_w_near)=true
 F_w_same:Fun K "_law_same" "_law_same" zt9 t.a_w_same t.d_w_same
 b_w_same:zc7 K t.d_w_same ["_law_found","_law_due"] []
 m_w_same:mg "_law_same" = some (.ref t.a_w_same)
 k_w_same:PySem.W.keepIn K (.ref t.a_w_same)=true
 F_w_same_rows:Fun K "_law_same_rows" "_law_same_rows" zi5 t.a_w_same_rows t.d_w_same_rows
 b_w_same_rows:zc7 K t.d_w_same_rows ["_law_found","_law_due"] []
 m_w_same_rows:mg "_law_same_rows" = some (.ref t.a_w_same_rows)
 k_w_same_rows:PySem.W.keepIn K (.ref t.a_w_same_rows)=true
 F_w_beam:Fun K "_law_beam" "_law_beam" zu0 t.a_w_beam t.d_w_beam
 b_w_beam:zc7 K t.d_w_beam ["_law_scale"] []
 m_w_beam:mg "_law_beam" = some (.ref t.a_w_beam)
 k_w_beam:PySem.W.keepIn K (.ref t.a_w_beam)=true
 F_w_pick:Fun K "_law_pick" "_law_pick" zn6 t.a_w_pick t.d_w_pick
 b_w_pick:zc7 K t.d_w_pick ["_law_scale","_law_spots","_law_cell"] []
 m_w_pick:mg "_law_pick" = some (.ref t.a_w_pick)
 k_w_pick:PySem.W.keepIn K (.ref t.a_w_pick)=true
 F_w_any_move:Fun K "_law_any_move" "_law_any_move" zk0 t.a_w_any_move t.d_w_any_move
 b_w_any_move:zc7 K t.d_w_any_move ["_law_scale","_law_now","_law_cell"] []
 m_w_any_move:mg "_law_any_move" = some (.ref t.a_w_any_move)
 k_w_any_move:PySem.W.keepIn K (.ref t.a_w_any_move)=true
 F_w_done:Fun K "_law_done" "_law_done" zn7 t.a_w_done t.d_w_done
 b_w_done:zc7 K t.d_w_done ["_law_play","_law_move"] []
 m_w_done:mg "_law_done" = some (.ref t.a_w_done)
 k_w_done:PySem.W.keepIn K (.ref t.a_w_done)=true
 F_w_chosen:Fun K "_law_chosen" "_law_chosen" zm8 t.a_w_chosen t.d_w_chosen
 b_w_chosen:zc7 K t.d_w_chosen ["_law_scale","_law_now","_law_tried","_law_cell"] []
 m_w_chosen:mg "_law_chosen" = some (.ref t.a_w_chosen)
 k_w_chosen:PySem.W.keepIn K (.ref t.a_w_chosen)=true
 F_w_deed:Fun K "_law_deed" "_law_deed" zu1 t.a_w_deed t.d_w_deed
 b_w_deed:zc7 K t.d_w_deed ["_law_play","_law_scale","_law_now","_law_made","_law_tried","_law_cell"] []
 m_w_deed:mg "_law_deed" = some (.ref t.a_w_deed)
 k_w_deed:PySem.W.keepIn K (.ref t.a_w_deed)=true
 F_law:Fun K "law" "law" zI3 t.a_law t.d_law
 b_law:zc7 K t.d_law ["_law_script"] []
 m_law:mg "law" = some (.ref t.a_law)
 k_law:PySem.W.keepIn K (.ref t.a_law)=true
 cl_Beam:Cls K t.c_Beam
 m_Beam:mg "Beam" = some (.ref t.c_Beam)
 mk_Beam:Mk K t.c_Beam t.a_Beam_init
 na_Beam_notches:ze2 K t.c_Beam "notches"
 na_Beam_room:ze2 K t.c_Beam "room"
 na_Beam_hefts:ze2 K t.c_Beam "hefts"
 na_Beam_limit:ze2 K t.c_Beam "limit"
 cl_Play:Cls K t.c_Play
 m_Play:mg "Play" = some (.ref t.c_Play)
 mk_Play:Mk K t.c_Play t.a_Play_init
 na_Play_beam:ze2 K t.c_Play "beam"
 na_Play_start:ze2 K t.c_Play "start"
 na_Play_standing:ze2 K t.c_Play "standing"
 na_Play_made:ze2 K t.c_Play "made"
 me_Play_move:Meth K t.c_Play "move" t.a_Play_move
 me_Play_back:Meth K t.c_Play "back" t.a_Play_back
 me_Play_trail:Meth K t.c_Play "trail" t.a_Play_trail
 m_NoWeight:mg "NoWeight" = some (.ref t.c_NoWeight)
 m_NoPlace:mg "NoPlace" = some (.ref t.c_NoPlace)
 m_SamePlace:mg "SamePlace" = some (.ref t.c_SamePlace)
 m_NoRoom:mg "NoRoom" = some (.ref t.c_NoRoom)
 m_TipsInHand:mg "TipsInHand" = some (.ref t.c_TipsInHand)
 m_TipsBehind:mg "TipsBehind" = some (.ref t.c_TipsBehind)
 m_PlayFull:mg "PlayFull" = some (.ref t.c_PlayFull)
 m_NothingBack:mg "NothingBack" = some (.ref t.c_NothingBack)
 m_BeamError:mg "BeamError" = some (.ref t.c_BeamError)
 x_NoWeight:XCls K t.c_NoWeight
 x_NoPlace:XCls K t.c_NoPlace
 x_SamePlace:XCls K t.c_SamePlace
 x_NoRoom:XCls K t.c_NoRoom
 x_TipsInHand:XCls K t.c_TipsInHand
 x_TipsBehind:XCls K t.c_TipsBehind
 x_PlayFull:XCls K t.c_PlayFull
 x_NothingBack:XCls K t.c_NothingBack
 i_NoWeight:PySem.W.findIn K (.ref t.c_NoWeight) "__init__" = some (some (.ref t.a_NoWeight_init))
 if_NoWeight:PySem.W.isFn K (.ref t.a_NoWeight_init)=true
 na_NoWeight_reason:ze2 K t.c_NoWeight "reason"
 na_NoWeight_word:ze2 K t.c_NoWeight "word"
 i_NoPlace:PySem.W.findIn K (.ref t.c_NoPlace) "__init__" = some (some (.ref t.a_NoPlace_init))
 if_NoPlace:PySem.W.isFn K (.ref t.a_NoPlace_init)=true
 na_NoPlace_reason:ze2 K t.c_NoPlace "reason"
 na_NoPlace_word:ze2 K t.c_NoPlace "word"
 i_SamePlace:PySem.W.findIn K (.ref t.c_SamePlace) "__init__" = some (some (.ref t.a_SamePlace_init))
 if_SamePlace:PySem.W.isFn K (.ref t.a_SamePlace_init)=true
 na_SamePlace_reason:ze2 K t.c_SamePlace "reason"
 na_SamePlace_word:ze2 K t.c_SamePlace "word"
 i_NoRoom:PySem.W.findIn K (.ref t.c_NoRoom) "__init__" = some (some (.ref t.a_NoRoom_init))
 if_NoRoom:PySem.W.isFn K (.ref t.a_NoRoom_init)=true
 na_NoRoom_reason:ze2 K t.c_NoRoom "reason"
 na_NoRoom_word:ze2 K t.c_NoRoom "word"
 i_TipsInHand:PySem.W.findIn K (.ref t.c_TipsInHand) "__init__" = some (some (.ref t.a_TipsInHand_init))
 if_TipsInHand:PySem.W.isFn K (.ref t.a_TipsInHand_init)=true
 na_TipsInHand_reason:ze2 K t.c_TipsInHand "reason"
 na_TipsInHand_word:ze2 K t.c_TipsInHand "word"
 i_TipsBehind:PySem.W.findIn K (.ref t.c_TipsBehind) "__init__" = some (some (.ref t.a_TipsBehind_init))
 if_TipsBehind:PySem.W.isFn K (.ref t.a_TipsBehind_init)=true
 na_TipsBehind_reason:ze2 K t.c_TipsBehind "reason"
 na_TipsBehind_word:ze2 K t.c_TipsBehind "word"
 i_PlayFull:PySem.W.findIn K (.ref t.c_PlayFull) "__init__" = some (some (.ref t.a_PlayFull_init))
 if_PlayFull:PySem.W.isFn K (.ref t.a_PlayFull_init)=true
 na_PlayFull_reason:ze2 K t.c_PlayFull "reason"
 na_PlayFull_word:ze2 K t.c_PlayFull "word"
 i_NothingBack:PySem.W.findIn K (.ref t.c_NothingBack) "__init__" = some (some (.ref t.a_NothingBack_init))
 if_NothingBack:PySem.W.isFn K (.ref t.a_NothingBack_init)=true
 na_NothingBack_reason:ze2 K t.c_NothingBack "reason"
 na_NothingBack_word:ze2 K t.c_NothingBack "word"
 xw:XWay K
 xa_NoWeight:XAsk K t.c_NoWeight
 xm_NoWeight_BeamError:PySem.W.exmOne K (.ref t.c_NoWeight) (.ref t.c_BeamError)=some true
 kt_NoWeight_NoWeight:PySem.W.kitOne K (.ref t.c_NoWeight) (.ref t.c_NoWeight)=some true
 kt_NoWeight_NoPlace:PySem.W.kitOne K (.ref t.c_NoWeight) (.ref t.c_NoPlace)=some false
 kt_NoWeight_SamePlace:PySem.W.kitOne K (.ref t.c_NoWeight) (.ref t.c_SamePlace)=some false
 kt_NoWeight_NoRoom:PySem.W.kitOne K (.ref t.c_NoWeight) (.ref t.c_NoRoom)=some false
 kt_NoWeight_TipsInHand:PySem.W.kitOne K (.ref t.c_NoWeight) (.ref t.c_TipsInHand)=some false
 kt_NoWeight_TipsBehind:PySem.W.kitOne K (.ref t.c_NoWeight) (.ref t.c_TipsBehind)=some false
 kt_NoWeight_NothingBack:PySem.W.kitOne K (.ref t.c_NoWeight) (.ref t.c_NothingBack)=some false
 kt_NoWeight_PlayFull:PySem.W.kitOne K (.ref t.c_NoWeight) (.ref t.c_PlayFull)=some false
 kt_NoWeight_ValueError:PySem.W.kitOne K (.ref t.c_NoWeight) (.type "ValueError")=some true
 xa_NoPlace:XAsk K t.c_NoPlace
 xm_NoPlace_BeamError:PySem.W.exmOne K (.ref t.c_NoPlace) (.ref t.c_BeamError)=some true
 kt_NoPlace_NoWeight:PySem.W.kitOne K (.ref t.c_NoPlace) (.ref t.c_NoWeight)=some false
 kt_NoPlace_NoPlace:PySem.W.kitOne K (.ref t.c_NoPlace) (.ref t.c_NoPlace)=some true
 kt_NoPlace_SamePlace:PySem.W.kitOne K (.ref t.c_NoPlace) (.ref t.c_SamePlace)=some false
 kt_NoPlace_NoRoom:PySem.W.kitOne K (.ref t.c_NoPlace) (.ref t.c_NoRoom)=some false
 kt_NoPlace_TipsInHand:PySem.W.kitOne K (.ref t.c_NoPlace) (.ref t.c_TipsInHand)=some false
 kt_NoPlace_TipsBehind:PySem.W.kitOne K (.ref t.c_NoPlace) (.ref t.c_TipsBehind)=some false
 kt_NoPlace_NothingBack:PySem.W.kitOne K (.ref t.c_NoPlace) (.ref t.c_NothingBack)=some false
 kt_NoPlace_PlayFull:PySem.W.kitOne K (.ref t.c_NoPlace) (.ref t.c_PlayFull)=some false
 kt_NoPlace_ValueError:PySem.W.kitOne K (.ref t.c_NoPlace) (.type "ValueError")=some true
 xa_SamePlace:XAsk K t.c_SamePlace
 xm_SamePlace_BeamError:PySem.W.exmOne K (.ref t.c_SamePlace) (.ref t.c_BeamError)=some true
 kt_SamePlace_NoWeight:PySem.W.kitOne K (.ref t.c_SamePlace) (.ref t.c_NoWeight)=some false
 kt_SamePlace_NoPlace:PySem.W.kitOne K (.ref t.c_SamePlace) (.ref t.c_NoPlace)=some false
 kt_SamePlace_SamePlace:PySem.W.kitOne K (.ref t.c_SamePlace) (.ref t.c_SamePlace)=some true
 kt_SamePlace_NoRoom:PySem.W.kitOne K (.ref t.c_SamePlace) (.ref t.c_NoRoom)=some false
 kt_SamePlace_TipsInHand:PySem.W.kitOne K (.ref t.c_SamePlace) (.ref t.c_TipsInHand)=some false
 kt_SamePlace_TipsBehind:PySem.W.kitOne K (.ref t.c_SamePlace) (.ref t.c_TipsBehind)=some false
 kt_SamePlace_NothingBack:PySem.W.kitOne K (.ref t.c_SamePlace) (.ref t.c_NothingBack)=some false
 kt_SamePlace_PlayFull:PySem.W.kitOne K (.ref t.c_SamePlace) (.ref t.c_PlayFull)=some false
 kt_SamePlace_ValueError:PySem.W.kitOne K (.ref t.c_SamePlace) (.type "ValueError")=some true
 xa_NoRoom:XAsk K t.c_NoRoom
 xm_NoRoom_BeamError:PySem.W.exmOne K (.ref t.c_NoRoom) (.ref t.c_BeamError)=some true
 kt_NoRoom_NoWeight:PySem.W.kitOne K (.ref t.c_NoRoom) (.ref t.c_NoWeight)=some false
 kt_NoRoom_NoPlace:PySem.W.kitOne K (.ref t.c_NoRoom) (.ref t.c_NoPlace)=some false
 kt_NoRoom_SamePlace:PySem.W.kitOne K (.ref t.c_NoRoom) (.ref t.c_SamePlace)=some false
 kt_NoRoom_NoRoom:PySem.W.kitOne K (.ref t.c_NoRoom) (.ref t.c_NoRoom)=some true
 kt_NoRoom_TipsInHand:PySem.W.kitOne K (.ref t.c_NoRoom) (.ref t.c_TipsInHand)=some false
 kt_NoRoom_TipsBehind:PySem.W.kitOne K (.ref t.c_NoRoom) (.ref t.c_TipsBehind)=some false
 kt_NoRoom_NothingBack:PySem.W.kitOne K (.ref t.c_NoRoom) (.ref t.c_NothingBack)=some false
 kt_NoRoom_PlayFull:PySem.W.kitOne K (.ref t.c_NoRoom) (.ref t.c_PlayFull)=some false
 kt_NoRoom_ValueError:PySem.W.kitOne K (.ref t.c_NoRoom) (.type "ValueError")=some true
 xa_TipsInHand:XAsk K t.c_TipsInHand
 xm_TipsInHand_BeamError:PySem.W.exmOne K (.ref t.c_TipsInHand) (.ref t.c_BeamError)=some true
 kt_TipsInHand_NoWeight:PySem.W.kitOne K (.ref t.c_TipsInHand) (.ref t.c_NoWeight)=some false
 kt_TipsInHand_NoPlace:PySem.W.kitOne K (.ref t.c_TipsInHand) (.ref t.c_NoPlace)=some false
 kt_TipsInHand_SamePlace:PySem.W.kitOne K (.ref t.c_TipsInHand) (.ref t.c_SamePlace)=some false
 kt_TipsInHand_NoRoom:PySem.W.kitOne K (.ref t.c_TipsInHand) (.ref t.c_NoRoom)=some false
 kt_TipsInHand_TipsInHand:PySem.W.kitOne K (.ref t.c_TipsInHand) (.ref t.c_TipsInHand)=some true
 kt_TipsInHand_TipsBehind:PySem.W.kitOne K (.ref t.c_TipsInHand) (.ref t.c_TipsBehind)=some false
 kt_TipsInHand_NothingBack:PySem.W.kitOne K (.ref t.c_TipsInHand) (.ref t.c_NothingBack)=some false
 kt_TipsInHand_PlayFull:PySem.W.kitOne K (.ref t.c_TipsInHand) (.ref t.c_PlayFull)=some false
 kt_TipsInHand_ValueError:PySem.W.kitOne K (.ref t.c_TipsInHand) (.type "ValueError")=some true
 xa_TipsBehind:XAsk K t.c_TipsBehind
 xm_TipsBehind_BeamError:PySem.W.exmOne K (.ref t.c_TipsBehind) (.ref t.c_BeamError)=some true
 kt_TipsBehind_NoWeight:PySem.W.kitOne K (.ref t.c_TipsBehind) (.ref t.c_NoWeight)=some false
 kt_TipsBehind_NoPlace:PySem.W.kitOne K (.ref t.c_TipsBehind) (.ref t.c_NoPlace)=some false
 kt_TipsBehind_SamePlace:PySem.W.kitOne K (.ref t.c_TipsBehind) (.ref t.c_SamePlace)=some false
 kt_TipsBehind_NoRoom:PySem.W.kitOne K (.ref t.c_TipsBehind) (.ref t.c_NoRoom)=some false
 kt_TipsBehind_TipsInHand:PySem.W.kitOne K (.ref t.c_TipsBehind) (.ref t.c_TipsInHand)=some false
 kt_TipsBehind_TipsBehind:PySem.W.kitOne K (.ref t.c_TipsBehind) (.ref t.c_TipsBehind)=some true
 kt_TipsBehind_NothingBack:PySem.W.kitOne K (.ref t.c_TipsBehind) (.ref t.c_NothingBack)=some false
 kt_TipsBehind_PlayFull:PySem.W.kitOne K (.ref t.c_TipsBehind) (.ref t.c_PlayFull)=some false
 kt_TipsBehind_ValueError:PySem.W.kitOne K (.ref t.c_TipsBehind) (.type "ValueError")=some true
 xa_PlayFull:XAsk K t.c_PlayFull
 xm_PlayFull_BeamError:PySem.W.exmOne K (.ref t.c_PlayFull) (.ref t.c_BeamError)=some true
 kt_PlayFull_NoWeight:PySem.W.kitOne K (.ref t.c_PlayFull) (.ref t.c_NoWeight)=some false
 kt_PlayFull_NoPlace:PySem.W.kitOne K (.ref t.c_PlayFull) (.ref t.c_NoPlace)=some false
 kt_PlayFull_SamePlace:PySem.W.kitOne K (.ref t.c_PlayFull) (.ref t.c_SamePlace)=some false
 kt_PlayFull_NoRoom:PySem.W.kitOne K (.ref t.c_PlayFull) (.ref t.c_NoRoom)=some false
 kt_PlayFull_TipsInHand:PySem.W.kitOne K (.ref t.c_PlayFull) (.ref t.c_TipsInHand)=some false
 kt_PlayFull_TipsBehind:PySem.W.kitOne K (.ref t.c_PlayFull) (.ref t.c_TipsBehind)=some false
 kt_PlayFull_NothingBack:PySem.W.kitOne K (.ref t.c_PlayFull) (.ref t.c_NothingBack)=some false
 kt_PlayFull_PlayFull:PySem.W.kitOne K (.ref t.c_PlayFull) (.ref t.c_PlayFull)=some true
 kt_PlayFull_ValueError:PySem.W.kitOne K (.ref t.c_PlayFull) (.type "ValueError")=some true
 xa_NothingBack:XAsk K t.c_NothingBack
 xm_NothingBack_BeamError:PySem.W.exmOne K (.ref t.c_NothingBack) (.ref t.c_BeamError)=some true
 kt_NothingBack_NoWeight:PySem.W.kitOne K (.ref t.c_NothingBack) (.ref t.c_NoWeight)=some false
 kt_NothingBack_NoPlace:PySem.W.kitOne K (.ref t.c_NothingBack) (.ref t.c_NoPlace)=some false
 kt_NothingBack_SamePlace:PySem.W.kitOne K (.ref t.c_NothingBack) (.ref t.c_SamePlace)=some false
 kt_NothingBack_NoRoom:PySem.W.kitOne K (.ref t.c_NothingBack) (.ref t.c_NoRoom)=some false
 kt_NothingBack_TipsInHand:PySem.W.kitOne K (.ref t.c_NothingBack) (.ref t.c_TipsInHand)=some false
 kt_NothingBack_TipsBehind:PySem.W.kitOne K (.ref t.c_NothingBack) (.ref t.c_TipsBehind)=some false
 kt_NothingBack_NothingBack:PySem.W.kitOne K (.ref t.c_NothingBack) (.ref t.c_NothingBack)=some true
 kt_NothingBack_PlayFull:PySem.W.kitOne K (.ref t.c_NothingBack) (.ref t.c_PlayFull)=some false
 kt_NothingBack_ValueError:PySem.W.kitOne K (.ref t.c_NothingBack) (.type "ValueError")=some true
 cm_BeamError:zU8 K t.c_BeamError "__init__" t.a_BeamError_init
 n_tuple:mg "tuple" = none
 n_len:mg "len" = none
 n_range:mg "range" = none
 n_sum:mg "sum" = none
 n_zip:mg "zip" = none
 n_abs:mg "abs" = none
 n_list:mg "list" = none
 n_isinstance:mg "isinstance" = none
 n_int:mg "int" = none
 n_bool:mg "bool" = none
 n_min:mg "min" = none
 n_max:mg "max" = none
 n_ValueError:mg "ValueError" = none
 g_MOST_NOTCHES:mg "MOST_NOTCHES" = some (.int 4 t.q_MOST_NOTCHES)
 g_MOST_ROOM:mg "MOST_ROOM" = some (.int 3 t.q_MOST_ROOM)
 g_MOST_LIMIT:mg "MOST_LIMIT" = some (.int 400 t.q_MOST_LIMIT)
 g_MOST_WEIGHTS:mg "MOST_WEIGHTS" = some (.int 5 t.q_MOST_WEIGHTS)
 g_MOST_HEFT:mg "MOST_HEFT" = some (.int 20 t.q_MOST_HEFT)
 g_MOST_STANDINGS:mg "MOST_STANDINGS" = some (.int 1000 t.q_MOST_STANDINGS)
 g_MOST_MOVES:mg "MOST_MOVES" = some (.int 300 t.q_MOST_MOVES)
end Bt
namespace Bt
open PySem L2
/-! ### mathematics -/
noncomputable def zo0 (cell base:Int) (mix:Bool):Nat->Int×List Int
 | 0=>(if mix=true then cell*48271 % 2147483647 else cell,[])
 | i+1 =>
   if mix=true then (((zo0 cell base mix i).1+(0+(i:Int))+1)*69621 % 2147483647,(zo0 cell base mix i).2++[(((zo0 cell base mix i).1+(0+(i:Int))+1)*69621 % 2147483647) / 8 % base])
   else ((zo0 cell base mix i).1 / base,(zo0 cell base mix i).2++[(zo0 cell base mix i).1 % base])
noncomputable def figs (cell:Int) (n:Nat) (base:Int) (mix:Bool):List Int:=(zo0 cell base mix n).2
theorem zA9 (cell base:Int) (mix:Bool) (n:Nat):(figs cell n base mix).length=n:=by
 unfold figs
 induction n with
 | zero=>rfl
 | succ n ih =>
   unfold zo0
   cases mix
   . rw[if_neg (by decide)];simp[ih]
   . rw[if_pos rfl];simp[ih]
theorem zL6 {cell base:Int} {mix:Bool} (hb:0<base) (n:Nat):∀ x∈figs cell n base mix,0<=x/\x<base:=by
 unfold figs
 induction n with
 | zero=>intro x hx;cases hx
 | succ n ih =>
   unfold zo0
   have key:∀ z:Int,0<=z % base/\z % base<base:=fun z=>⟨Int.emod_nonneg _ (by omega),Int.emod_lt_of_pos _ hb⟩
   intro x hx
   cases mix
   . rw[if_neg (by decide)] at hx
     rcases List.mem_append.mp hx with h | h
     . exact ih x h
     . obtain rfl:=List.mem_singleton.mp h;exact key _
   . rw[if_pos rfl] at hx
     rcases List.mem_append.mp hx with h | h
     . exact ih x h
     . obtain rfl:=List.mem_singleton.mp h;exact key _
structure zi7 (n r:Int) (hs:List Int) (lim:Int):Prop where
 n1:1<=n
 n2:n<=4
 r1:1<=r
 r2:r<=3
 l1:0<=lim
 l2:lim<=400
 w:hs.length<=5
 h:∀ x∈hs,1<=x/\x<=20
 most:(2*n+1) ^ hs.length<=1000
structure zf8 (n r:Int) (w:Nat) (xs:List Int):Prop where
 len:xs.length=w
 on:∀ x∈xs,-n<=x/\x<=n
 room:∀ x∈xs,x≠0->(xs.count x:Int)<=r
/-! ### the shape and the standing that a script draws -/
noncomputable abbrev at0 (ns:List Int) (k:Nat):Int:=ns.getD k 0
noncomputable def zr7 (ns:List Int):Bool:=decide (V.int (at0 ns 0 % 2)=V.int 1)
noncomputable def shN (ns:List Int):Int:=([2,3,1,4]:List Int).getD (at0 ns 1 % 4).toNat 0
noncomputable def shW (ns:List Int):Int :=
 if ([3,2,4,1,5,0]:List Int).getD (at0 ns 1 / 4 % 6).toNat 0<([5,4,3,3]:List Int).getD (shN ns-1).toNat 0 then ([3,2,4,1,5,0]:List Int).getD (at0 ns 1 / 4 % 6).toNat 0 else ([5,4,3,3]:List Int).getD (shN ns-1).toNat 0
noncomputable def shR (ns:List Int):Int:=1+at0 ns 1 / 24 % 3
noncomputable def shH0 (ns:List Int):List Int:=(figs (at0 ns 2) (shW ns).toNat 20 (zr7 ns)).map fun x=>1+x
noncomputable def shH (ns:List Int):List Int :=
 if at0 ns 0 / 2 % 5=1 then (List.replicate (shW ns).toNat ((shH0 ns).take 1)).flatten else if at0 ns 0 / 2 % 5=2 then (List.replicate (shW ns).toNat [20]).flatten else shH0 ns
theorem zD0 (ns:List Int):shN ns=2\/shN ns=3\/shN ns=1\/shN ns=4:=by
 unfold shN
 have h1:0<=at0 ns 1 % 4:=Int.emod_nonneg _ (by decide)
 have h2:at0 ns 1 % 4<4:=Int.emod_lt_of_pos _ (by decide)
 have:at0 ns 1 % 4=0\/at0 ns 1 % 4=1\/at0 ns 1 % 4=2\/at0 ns 1 % 4=3:=by omega
 rcases this with e | e | e | e<;>rw[e]<;>decide
theorem cap_of {n:Int}:n=2\/n=3\/n=1\/n=4->([5,4,3,3]:List Int).getD (n-1).toNat 0=(if n=1 then 5 else if n=2 then 4 else 3):=by
 rintro (rfl | rfl | rfl | rfl)<;>decide
theorem six_of (z:Int):0<=([3,2,4,1,5,0]:List Int).getD (z % 6).toNat 0/\([3,2,4,1,5,0]:List Int).getD (z % 6).toNat 0<=5:=by
 have h1:0<=z % 6:=Int.emod_nonneg _ (by decide)
 have h2:z % 6<6:=Int.emod_lt_of_pos _ (by decide)
 have:z % 6=0\/z % 6=1\/z % 6=2\/z % 6=3\/z % 6=4\/z % 6=5:=by omega
 rcases this with e | e | e | e | e | e<;>rw[e]<;>decide
theorem zT3 (ns:List Int):0<=shW ns/\shW ns<=(if shN ns=1 then 5 else if shN ns=2 then 4 else 3):=by
 unfold shW
 obtain ⟨h1,h2⟩:=six_of (at0 ns 1 / 4)
 rw[cap_of (zD0 ns)]
 have h3:(0:Int)<=(if shN ns=1 then 5 else if shN ns=2 then 4 else 3):=by repeat (first | decide | split)
 split<;>omega
theorem pow_cap {n:Int} (h:n=2\/n=3\/n=1\/n=4) {w:Nat} (hw:(w:Int)<=(if n=1 then 5 else if n=2 then 4 else 3)):(2*n+1) ^ w<=1000:=by
 have h5:(if n=1 then (5:Int) else if n=2 then 4 else 3)<=5:=by repeat (first | decide | split)
 have:w=0\/w=1\/w=2\/w=3\/w=4\/w=5:=by omega
 rcases h with rfl | rfl | rfl | rfl<;>rcases this with rfl | rfl | rfl | rfl | rfl | rfl<;>first | decide | (exfalso;revert hw;decide)
theorem zN0 (ns:List Int):(shH0 ns).length=(shW ns).toNat:=by unfold shH0;rw[List.length_map,zA9]
theorem shH_len (ns:List Int):(shH ns).length=(shW ns).toNat:=by
 unfold shH
 have h0:=zN0 ns
 split
 . rw[zK8,List.length_take,h0]
   by_cases h:(shW ns).toNat=0
   . rw[h];simp
   . rw[Nat.min_eq_left (by omega),Nat.mul_one]
 . split
   . rw[zK8];simp
   . exact h0
theorem zR0 (ns:List Int):∀ x∈shH0 ns,1<=x/\x<=20:=by
 intro x hx
 unfold shH0 at hx
 obtain ⟨y,hy,rfl⟩:=List.mem_map.mp hx
 have:=zL6 (by decide) _ y hy
 omega
theorem shH_in (ns:List Int):∀ x∈shH ns,1<=x/\x<=20:=by
 intro x hx
 unfold shH at hx
 split at hx
 . obtain ⟨l,hl,hx⟩:=List.mem_flatten.mp hx
   obtain ⟨_,rfl⟩:=List.mem_replicate.mp hl
   exact zR0 ns x (List.mem_of_mem_take hx)
 . split at hx
   . obtain ⟨l,hl,hx⟩:=List.mem_flatten.mp hx
     obtain ⟨_,rfl⟩:=List.mem_replicate.mp hl
     obtain rfl:=List.mem_singleton.mp hx
     omega
   . exact zR0 ns x hx
theorem sh_ok (ns:List Int) {lim:Int} (h1:0<=lim) (h2:lim<=400):zi7 (shN ns) (shR ns) (shH ns) lim:=by
 have hN:=zD0 ns
 have hW:=zT3 ns
 have hl:=shH_len ns
 have h5:(if shN ns=1 then (5:Int) else if shN ns=2 then 4 else 3)<=5:=by repeat (first | decide | split)
 have hR1:0<=at0 ns 1 / 24 % 3:=Int.emod_nonneg _ (by decide)
 have hR2:at0 ns 1 / 24 % 3<3:=Int.emod_lt_of_pos _ (by decide)
 exact⟨by omega,by omega,by unfold shR;omega,by unfold shR;omega,h1,h2,by omega,shH_in ns,pow_cap hN (by omega)⟩
noncomputable def zo6 (n r:Int) (last:Bool) (made:List Int) (x:Int):List Int :=
 made++[if (if last=true then n else x-n)≠0/\r<=(made.count (if last=true then n else x-n):Int) then 0 else (if last=true then n else x-n)]
noncomputable def putL (n r:Int) (last:Bool) (xs:List Int):List Int:=xs.foldl (zo6 n r last) []
noncomputable def zN1 (ns:List Int) (k:Nat) (more n r:Int) (w:Nat):List Int :=
 putL n r (decide (V.int ((at0 ns k+more) % 13)=V.int 12)) (figs (at0 ns k+more) w (2*n+1) (zr7 ns))
theorem zI5 (n r:Int) (last:Bool) (xs:List Int) (x:Int):putL n r last (xs++[x])=zo6 n r last (putL n r last xs) x:=by
 unfold putL;rw[List.foldl_append];rfl
theorem zR1 {n r:Int} (last:Bool) (hn:0<=n) (hr:1<=r) (xs:List Int) (hx:∀ x∈xs,0<=x/\x<2*n+1) :
   (putL n r last xs).length=xs.length/\(∀ y∈putL n r last xs,-n<=y/\y<=n)/\∀ y,y≠0->((putL n r last xs).count y:Int)<=r:=by
 have main:∀ (k:Nat) (xs:List Int),xs.length=k->(∀ x∈xs,0<=x/\x<2*n+1)->(putL n r last xs).length=xs.length/\(∀ y∈putL n r last xs,-n<=y/\y<=n)/\∀ y,y≠0->((putL n r last xs).count y:Int)<=r:=by
   intro k
   induction k with
   | zero =>
     intro xs hk _
     have:xs=[]:=List.eq_nil_of_length_eq_zero hk
     subst this
     exact⟨rfl,(fun y hy=>nomatch hy),fun y _=>by show ((([]:List Int).count y:Nat):Int)<=r;simp;omega⟩
   | succ k ih =>
     intro xs hk hx
     obtain ⟨ys,x,rfl⟩:∃ ys x,xs=ys++[x]:=⟨xs.dropLast,xs.getLast (by intro e;rw[e] at hk;cases hk),(List.dropLast_concat_getLast _).symm⟩
     have hk':ys.length=k:=by rw[List.length_append,List.length_singleton] at hk;omega
     obtain ⟨h1,h2,h3⟩:=ih ys hk' fun z hz=>hx z (List.mem_append_left _ hz)
     have hx0:=hx x (List.mem_append_right _ (List.mem_singleton.mpr rfl))
     rw[zI5]
     unfold zo6
     have hp:-n<=(if last=true then n else x-n)/\(if last=true then n else x-n)<=n:=by split<;>omega
     generalize (if last=true then n else x-n)=p at hp ⊢
     refine⟨by rw[List.length_append,List.length_append,h1];rfl,fun y hy=>?_,fun y hy=>?_⟩
     . rcases List.mem_append.mp hy with hy | hy
       . exact h2 y hy
       . obtain rfl:=List.mem_singleton.mp hy
         split<;>omega
     . rw[List.count_append,List.count_singleton]
       have h3y:=h3 y hy
       by_cases hc:p≠0/\r<=((putL n r last ys).count p:Int)
       . rw[if_pos hc]
         have:((0:Int) == y)=false:=by simpa using fun e=>hy e.symm
         rw[this]
         simpa using h3y
       . rw[if_neg hc]
         by_cases e:p=y
         . subst e
           have:¬ r<=((putL n r last ys).count p:Int):=fun z=>hc ⟨hy,z⟩
           simp
           omega
         . have:(p == y)=false:=by simpa using e
           rw[this]
           simpa using h3y
 exact main xs.length xs rfl hx
theorem zT4 (ns:List Int) (k:Nat) (more:Int) {n r:Int} (w:Nat) (hn:1<=n) (hr:1<=r):zf8 n r w (zN1 ns k more n r w):=by
 unfold zN1
 obtain ⟨h1,h2,h3⟩:=zR1 (n:=n) (r:=r) (decide (V.int ((at0 ns k+more) % 13)=V.int 12)) (by omega) hr (figs (at0 ns k+more) w (2*n+1) (zr7 ns)) (zL6 (by omega) w)
 exact⟨by rw[h1,zA9],h2,fun x _ h0=>h3 x h0⟩
/-! ### the data -/
noncomputable def zB0 (n r:Int) (h:Addr) (lim:Int):List (Str×V):=putF "limit" (.int lim) (putF "hefts" (.ref h) (putF "room" (.int r) (putF "notches" (.int n) [])))
theorem zp7 (n r:Int) (h:Addr) (lim:Int):(zB0 n r h lim).lookup ("notches" : Str)=some (V.int n):=by
 unfold zB0
 rw[zc1,if_neg (by decide +kernel),zc1,if_neg (by decide +kernel),zc1,if_neg (by decide +kernel),zc1,if_pos rfl]
theorem zO5 (n r:Int) (h:Addr) (lim:Int):(zB0 n r h lim).lookup ("room" : Str)=some (V.int r):=by
 unfold zB0
 rw[zc1,if_neg (by decide +kernel),zc1,if_neg (by decide +kernel),zc1,if_pos rfl]
theorem zB1 (n r:Int) (h:Addr) (lim:Int):(zB0 n r h lim).lookup ("hefts" : Str)=some (V.ref h):=by
 unfold zB0
 rw[zc1,if_neg (by decide +kernel),zc1,if_pos rfl]
theorem b_limit (n r:Int) (h:Addr) (lim:Int):(zB0 n r h lim).lookup ("limit" : Str)=some (V.int lim):=by
 unfold zB0
 rw[zc1,if_pos rfl]
noncomputable def zh2 (t:Adr) (H:Hp) (b:Addr) (n r:Int) (hs:List Int) (lim:Int):Prop :=
 zi7 n r hs lim/\∃ dx h,H b=some (.ins t.c_Beam dx (zB0 n r h lim))/\H h=some (.tup (hs.map V.int))
theorem zh2.same {t:Adr} {H H':Hp} {b:Addr} {n r:Int} {hs:List Int} {lim:Int} (B:zh2 t H b n r hs lim) (s:Same H H'):zh2 t H' b n r hs lim:=by
 obtain ⟨ok,dx,h,e1,e2⟩:=B
 exact⟨ok,dx,h,s _ _ e1,s _ _ e2⟩
/-! ### promises -/
noncomputable def zk8 (K:PySem.W.Frag) (t:Adr):Sp:=fun vs H Q _=>∃ a lo hi:Int,vs=[.int a,.int lo,.int hi]/\Q (.bl (decide (a<lo) || decide (hi<a))) H
noncomputable def zu8 (K:PySem.W.Frag) (t:Adr):Sp:=fun vs H Q _=>∃ n r l:Int,vs=[.int n,.int r,.int l]/\(1<=n/\n<=4/\1<=r/\r<=3/\0<=l/\l<=400)/\Q .non H
noncomputable def zw7 (K:PySem.W.Frag) (t:Adr):Sp:=fun vs H Q _=>∃ (a:Addr) (hs:List Int),vs=[.ref a]/\(SqL K H a (hs.map V.int)\/SqT K H a (hs.map V.int))/\(hs.length<=5/\∀ x∈hs,1<=x/\x<=20)/\Q .non H
noncomputable def zq9 (K:PySem.W.Frag) (t:Adr):Sp:=fun vs H Q _=>∃ (n:Int) (w:Nat),vs=[.int n,.int w]/\(1<=n/\n<=4/\w<=5/\(2*n+1) ^ w<=1000)/\Q .non H
noncomputable def zB2 (K:PySem.W.Frag) (t:Adr):Sp:=fun vs H Q _=>∃ (p dx a:Addr) (n r lim:Int) (hs:List Int),vs=[.ref p,.int n,.int r,.ref a,.int lim]/\H p=some (.ins t.c_Beam dx []) ∧
 (SqL K H a (hs.map V.int)\/H a=some (.tup (hs.map V.int)))/\zi7 n r hs lim/\∀ H',zh2 t H' p n r hs lim->zt0 p H H'->Q .non H'
noncomputable def zj4 (K:PySem.W.Frag) (t:Adr):Sp:=fun vs H Q _=>∃ (b a:Addr) (n r lim:Int) (hs xs:List Int),vs=[.ref b,.ref a]/\zh2 t H b n r hs lim/\zf8 n r hs.length xs ∧
 (SqL K H a (xs.map V.int)\/H a=some (.tup (xs.map V.int)))/\∀ l H',Same H H'->H' l=some (.tup (xs.map V.int))->Q (.ref l) H'
noncomputable def zy2 (K:PySem.W.Frag) (t:Adr):Sp:=fun vs H Q _=>∃ (a:Addr) (ns:List Int) (k:Nat),vs=[.ref a,.int k]/\SqL K H a (ns.map V.int)/\Q (.int (ns.getD k 0)) H
noncomputable def zG3 (K:PySem.W.Frag) (t:Adr):Sp:=fun vs H Q _=>∃ i:Int,vs=[.int i]/\Q (.bl true) H
noncomputable def zD1 (K:PySem.W.Frag) (t:Adr):Sp:=fun vs H Q _=>∃ (cell base:Int) (n:Nat) (mix:Bool),vs=[.int cell,.int n,.int base,.bl mix]/\(n<=1000/\0<base/\base<1000) ∧
 ∀ l,H l=none->Q (.ref l) (upd H l (.lst ((figs cell n base mix).map V.int)))
noncomputable def zy3 (K:PySem.W.Frag) (t:Adr):Sp:=fun vs H Q _=>∃ (a b:Addr) (xs ys:List Int),vs=[.ref a,.ref b]/\(SqL K H a (xs.map V.int)\/SqT K H a (xs.map V.int))/\(SqL K H b (ys.map V.int)\/SqT K H b (ys.map V.int))/\ys.length<=1000/\Q (.bl (decide (xs=ys))) H
noncomputable def zG4 (K:PySem.W.Frag) (t:Adr):Sp:=fun vs H Q _=>∃ (a:Addr) (ns:List Int),vs=[.ref a]/\SqL K H a (ns.map V.int) ∧
 ∀ l h H',Same H H'->H l=none->H h=none->H' h=some (.lst ((shH ns).map V.int))->H' l=some (.lst [.int (shN ns),.int (shR ns),.ref h])->Q (.ref l) H'
noncomputable def zN2 (K:PySem.W.Frag) (t:Adr):Sp:=fun vs H Q _=>∃ (a sh h:Addr) (ns:List Int) (k:Nat) (more n r:Int) (hs:List Int),vs=[.ref a,.int k,.int more,.ref sh]/\SqL K H a (ns.map V.int) ∧
 H sh=some (.lst [.int n,.int r,.ref h])/\SqL K H h (hs.map V.int)/\(1<=n/\n<=4/\1<=r/\hs.length<=5) ∧
 ∀ l H',Same H H'->H l=none->H' l=some (.lst ((zN1 ns k more n r hs.length).map V.int))->Q (.ref l) H'
noncomputable def zN3 (K:PySem.W.Frag):Sp:=fun vs H Q _=>∃ (a:Addr) (ns:List Int),vs=[.ref a]/\SqL K H a (ns.map V.int)/\ns.length<=63/\∀ H',Q (.bl true) H'
noncomputable def sp_law (K:PySem.W.Frag) (t:Adr):Sp:=zN3 K
section
variable {P:Program} {w:World} {K:PySem.W.Frag} {mg:Str->Option Value} {base:Heap} {t:Adr}
theorem zn0 (T:Txt K mg t):FnOk P w K mg base CX0 1 t.a_outside t.d_outside ["number","low","high"] (zk8 K t):=by
 refine T.F_outside.ok sc_outside (fun vs H Q E h=>?_) (fun cdv A outer s H vs Q E hr h=>?_)
 . obtain ⟨a,lo,hi,rfl,q⟩:=h
   rfl
 . obtain ⟨a,lo,hi,rfl,q⟩:=h
   refine⟨_,(za6 (zc4 (pe_or (zn1 zM1 (pv 0) (pv 1) (zb7 _)) (zC2 (zn1 zp9 (pv 0) (pv 2) (zb7 _)))))),?_⟩
   refine⟨_,rfl,_,rfl,_,_,rfl,rfl,_,rfl,?_⟩
   refine ite2 (fun h1=>?_) (fun h1=>?_)
   . rw[h1] at q
     exact q
   . rw[Bool.eq_false_iff.mpr h1] at q
     exact⟨_,rfl,_,rfl,_,_,rfl,rfl,q⟩
theorem ok_check_bounds (T:Txt K mg t):FnOk P w K mg base CX0 2 t.a_check_bounds t.d_check_bounds ["notches","room","limit"] (zu8 K t):=by
 have G_outside:FnOk P w K mg base CX0 1 t.a_outside t.d_outside ["number","low","high"] (zk8 K t):=zn0 T
 refine T.F_check_bounds.ok sc_check_bounds (fun vs H Q E h=>?_) (fun cdv A outer s H vs Q E hr h=>?_)
 . obtain ⟨n,r,l,rfl,⟨h1,h2,h3,h4,h5,h6⟩,q⟩:=h
   rfl
 . obtain ⟨n,r,l,rfl,⟨h1,h2,h3,h4,h5,h6⟩,q⟩:=h
   have hr_outside:Room 1 _:=hr.mono (by decide)
   refine⟨_,(za4 (zd2 (zg1 (zb3 G_outside hr_outside rfl T.m_outside T.k_outside T.b_outside .nil zc2 (za0 (pv 0) (za0 za1 (za0 (zh4 (v:=.int 4) rfl T.g_MOST_NOTCHES ⟨_,rfl⟩) za3))))) (za6 zj1) zb8)
     (za4 (zd2 (zg1 (zb3 G_outside hr_outside rfl T.m_outside T.k_outside T.b_outside .nil zc2 (za0 (pv 1) (za0 za1 (za0 (zh4 (v:=.int 3) rfl T.g_MOST_ROOM ⟨_,rfl⟩) za3))))) (za6 zj1) zb8)
     (za6 (zd2 (zg1 (zb3 G_outside hr_outside rfl T.m_outside T.k_outside T.b_outside .nil zc2 (za0 (pv 2) (za0 za1 (za0 (zh4 (v:=.int 400) rfl T.g_MOST_LIMIT ⟨_,rfl⟩) za3))))) (za6 zj1) zb8)))),?_⟩
   refine⟨_,rfl,_,_,_,rfl,_,rfl,iteB (zv6 h1 h2) ?_⟩
   refine⟨_,rfl,_,_,_,rfl,_,rfl,iteB (zv6 h3 h4) ?_⟩
   exact⟨_,rfl,_,_,_,rfl,_,rfl,iteB (zv6 h5 h6) q⟩
theorem ok_check_hefts (T:Txt K mg t):FnOk P w K mg base CX0 2 t.a_check_hefts t.d_check_hefts ["hefts"] (zw7 K t):=by
 have G_outside:FnOk P w K mg base CX0 1 t.a_outside t.d_outside ["number","low","high"] (zk8 K t):=zn0 T
 refine T.F_check_hefts.ok zw4 (fun vs H Q E h=>?_) (fun cdv A outer s H vs Q E hr h=>?_)
 . obtain ⟨a,hs,rfl,hS,⟨hl,hh⟩,q⟩:=h
   rfl
 . obtain ⟨a,hs,rfl,hS,⟨hl,hh⟩,q⟩:=h
   have hr_outside:Room 1 _:=hr.mono (by decide)
   refine⟨_,(za4 (zd2 (zb5 zp9 (zb2 zb9 rfl T.n_len PySem.boot_len (za0 (pv 0) za3)) (zh4 (v:=.int 5) rfl T.g_MOST_WEIGHTS ⟨_,rfl⟩) (zb7 _)) (za6 zj1) zb8)
     (za6 (zp8 PassesOwn.never rfl (pi_seq (pv 0)) (zc6 (i:=1) zw4.nd rfl (Or.inl rfl)) (za6 (zd2 (zg1 (zb3 G_outside hr_outside rfl T.m_outside T.k_outside T.b_outside .nil zc2 (za0 (pv 1) (za0 za1 (za0 (zh4 (v:=.int 20) rfl T.g_MOST_HEFT ⟨_,rfl⟩) za3))))) (za6 zj1) zb8))))),?_⟩
   refine⟨_,rfl,a,hs.map V.int,rfl,hS,_,_,rfl,rfl,_,rfl,iteB (zL1 (by rw[List.length_map];omega)) ?_⟩
   refine⟨_,rfl,a,rfl,?_⟩
   have turn:∀ (i:Nat) x,(hs.map V.int)[i]?=some x->∃ z,x = .int z/\1<=z/\z<=20:=fun i x e=>by
     obtain ⟨z,rfl,hz⟩:=zv8 e
     exact⟨z,rfl,hh z (List.mem_of_getElem? hz)⟩
   rcases hS with hS | hS
   . refine .inl ⟨⟨_,hS⟩,zz6 (K:=K) (a:=a) (xs:=hs.map V.int) (fun i σ H'=>∃ v,σ=[some (.ref a),v]/\H'=H) ⟨_,rfl,rfl⟩ (fun i σ H' _ ⟨_,_,e⟩=>e▸hS) ?_ ?_⟩
     . rintro i x σ H' hi ⟨v,rfl,rfl⟩
       obtain ⟨z,rfl,h1,h2⟩:=turn i x hi
       exact⟨_,rfl,_,_,_,rfl,_,rfl,iteB (zv6 h1 h2) ⟨_,rfl,rfl⟩⟩
     . rintro σ H' ⟨v,rfl,rfl⟩
       exact q
   . refine .inr ⟨⟨_,hS⟩,zK4 (K:=K) (a:=a) (xs:=hs.map V.int) (fun i σ H'=>∃ v,σ=[some (.ref a),v]/\H'=H) ⟨_,rfl,rfl⟩ (fun i σ H' _ ⟨_,_,e⟩=>e▸hS) ?_ ?_⟩
     . rintro i x σ H' hi ⟨v,rfl,rfl⟩
       obtain ⟨z,rfl,h1,h2⟩:=turn i x hi
       exact⟨_,rfl,_,_,_,rfl,_,rfl,iteB (zv6 h1 h2) ⟨_,rfl,rfl⟩⟩
     . rintro σ H' ⟨v,rfl,rfl⟩
       exact q
theorem ok_check_standings (T:Txt K mg t):FnOk P w K mg base CX0 1 t.a_check_standings t.d_check_standings ["notches","weights"] (zq9 K t):=by
 refine T.F_check_standings.ok zh8 (fun vs H Q E h=>?_) (fun cdv A outer s H vs Q E hr h=>?_)
 . obtain ⟨n,w,rfl,⟨h1,h2,h3,h4⟩,q⟩:=h
   rfl
 . obtain ⟨n,w,rfl,⟨h1,h2,h3,h4⟩,q⟩:=h
   refine⟨_,(za4 (zb6 (i:=2) zh8.nd rfl (Or.inl rfl) za1)
     (za4 (zp8 PassesOwn.never rfl (zm4 rfl T.n_range (za0 (pv 1) za3)) (zc6 (i:=3) zh8.nd rfl (Or.inl rfl)) (za6 (zb6 (i:=2) zh8.nd rfl (Or.inl rfl) (za9 zh5 (pv 2) (za9 zf0 (za9 zh5 za1 (pv 0)) za1)))))
     (za6 (zd2 (zb5 zp9 (pv 2) (zh4 (v:=.int 1000) rfl T.g_MOST_STANDINGS ⟨_,rfl⟩) (zb7 _)) (za6 zj1) zb8)))),?_⟩
   refine⟨_,rfl,_,rfl,by omega,by omega,zm5 (n:=(w:Int).toNat) (fun i σ H'=>∃ v,σ=[some (.int n),some (.int w),some (.int ((2*n+1) ^ i)),v]/\H'=H) ⟨none,by rw[Int.pow_zero];rfl,rfl⟩ ?_ ?_⟩
   . rintro i σ H' hi ⟨v,rfl,rfl⟩
     exact⟨_,rfl,_,rfl,_,_,rfl,rfl,.inl ⟨by decide,by decide⟩,_,_,rfl,rfl,_,_,rfl,rfl,.inr ⟨by omega,by omega⟩,_,by rw[Int.pow_succ];rfl,rfl⟩
   . rintro σ H' ⟨v,rfl,rfl⟩
     exact⟨_,rfl,_,_,rfl,rfl,_,rfl,iteB (zL1 (by rw[Int.toNat_natCast];exact h4)) q⟩
theorem ok_Beam_init (T:Txt K mg t):FnOk P w K mg base CX0 3 t.a_Beam_init t.d_Beam_init ["self","notches","room","hefts","limit"] (zB2 K t):=by
 have G_check_bounds:FnOk P w K mg base CX0 2 t.a_check_bounds t.d_check_bounds ["notches","room","limit"] (zu8 K t):=ok_check_bounds T
 have G_check_hefts:FnOk P w K mg base CX0 2 t.a_check_hefts t.d_check_hefts ["hefts"] (zw7 K t):=ok_check_hefts T
 have G_check_standings:FnOk P w K mg base CX0 1 t.a_check_standings t.d_check_standings ["notches","weights"] (zq9 K t):=ok_check_standings T
 refine T.F_Beam_init.ok sc_Beam_init (fun vs H Q E h=>?_) (fun cdv A outer s H vs Q E hr h=>?_)
 . obtain ⟨p,dx,a,n,r,lim,hs,rfl,hp,hS,B,q⟩:=h
   rfl
 . obtain ⟨p,dx,a,n,r,lim,hs,rfl,hp,hS,B,q⟩:=h
   have hr_check_bounds:Room 2 _:=hr.mono (by decide)
   have hr_check_hefts:Room 2 _:=hr.mono (by decide)
   have hr_check_standings:Room 1 _:=hr.mono (by decide)
   refine⟨_,(za4 (zf4 (zb3 G_check_bounds hr_check_bounds rfl T.m_check_bounds T.k_check_bounds T.b_check_bounds .nil zc2 (za0 (pv 1) (za0 (pv 2) (za0 (pv 4) za3)))))
     (za4 (zf4 (zb3 G_check_hefts hr_check_hefts rfl T.m_check_hefts T.k_check_hefts T.b_check_hefts .nil zc2 (za0 (pv 3) za3)))
     (za4 (zf4 (zb3 G_check_standings hr_check_standings rfl T.m_check_standings T.k_check_standings T.b_check_standings .nil zc2 (za0 (pv 1) (za0 (zb2 zb9 rfl T.n_len PySem.boot_len (za0 (pv 3) za3)) za3))))
     (za4 (zs4 (pv 0) (pv 1) rfl)
     (za4 (zs4 (pv 0) (pv 2) rfl)
     (za4 (zs4 (pv 0) (zj5 zk6 rfl T.n_tuple PyProof.Rows.boot_tuple (za0 (pv 3) za3)) rfl)
     (za6 (zs4 (pv 0) (pv 4) rfl)))))))),?_⟩
   have hS':SqL K H a (hs.map V.int)\/SqT K H a (hs.map V.int):=hS.imp id SqT.of
   refine⟨_,rfl,_,rfl,_,rfl,n,r,lim,rfl,⟨B.n1,B.n2,B.r1,B.r2,B.l1,B.l2⟩,?_⟩
   refine⟨_,rfl,a,hs,rfl,hS',⟨B.w,B.h⟩,?_⟩
   refine⟨_,rfl,_,rfl,a,_,rfl,hS',n,hs.length,by rw[List.length_map];rfl,⟨B.n1,B.n2,B.w,B.most⟩,?_⟩
   refine⟨_,rfl,_,rfl,p,_,dx,_,rfl,hp,T.cl_Beam,T.na_Beam_notches,by decide,?_⟩
   refine⟨_,rfl,_,rfl,p,_,dx,_,rfl,za2,T.cl_Beam,T.na_Beam_room,zv7 fl0,?_⟩
   have hne:∀ {b:Addr} {o:HO},H b=some o->o≠.ins t.c_Beam dx []->b≠p:=fun e ne=>zD7 e hp ne
   refine⟨_,rfl,a,hs.map V.int,rfl,?_⟩
   rcases hS with hS | hS
   . have nap:∀ o,SqL K (upd (upd H p o) p o) a (hs.map V.int)->True:=fun _ _=>trivial
     refine .inl ⟨?_,fun l hl=>?_⟩
     . rcases hS with (hS | ⟨ob,hS⟩) | hS
       . exact .inl (.inl (by rw[za7 (hne hS (by intro z;cases z)),za7 (hne hS (by intro z;cases z))];exact hS))
       . exact .inl (.inr ⟨ob,by rw[za7 (hne hS (by intro z;cases z)),za7 (hne hS (by intro z;cases z))];exact hS⟩)
       . exact .inr hS
     . have hlp:l≠p:=fun z=>by rw[z,za2] at hl;cases hl
       have hl0:H l=none:=by rw[za7 hlp,za7 hlp] at hl;exact hl
       refine⟨_,rfl,p,_,dx,_,rfl,(by rw[za7 hlp.symm];exact za2),T.cl_Beam,T.na_Beam_hefts,zv7 (flS fl0),?_⟩
       refine⟨_,rfl,_,rfl,p,_,dx,_,rfl,za2,T.cl_Beam,T.na_Beam_limit,zv7 (flS (flS fl0)),?_⟩
       refine q _ ⟨B,dx,l,za2,by rw[za7 hlp,za7 hlp,za2]⟩ fun b o e hb=>?_
       rw[za7 hb,za7 hb,za7 (zb0 e hl0),za7 hb,za7 hb]
       exact e
   . have hap:a≠p:=hne hS (by intro z;cases z)
     refine .inr ⟨SqT.of (by rw[za7 hap,za7 hap];exact hS),?_⟩
     refine⟨_,rfl,p,_,dx,_,rfl,za2,T.cl_Beam,T.na_Beam_hefts,zv7 (flS fl0),?_⟩
     refine⟨_,rfl,_,rfl,p,_,dx,_,rfl,za2,T.cl_Beam,T.na_Beam_limit,zv7 (flS (flS fl0)),?_⟩
     refine q _ ⟨B,dx,a,za2,by rw[za7 hap,za7 hap,za7 hap,za7 hap];exact hS⟩ fun b o e hb=>?_
     rw[za7 hb,za7 hb,za7 hb,za7 hb]
     exact e
theorem zm1 (T:Txt K mg t):FnOk P w K mg base CX0 2 t.a_as_standing t.d_as_standing ["beam","standing"] (zj4 K t):=by
 have G_outside:FnOk P w K mg base CX0 1 t.a_outside t.d_outside ["number","low","high"] (zk8 K t):=zn0 T
 refine T.F_as_standing.ok zq7 (fun vs H Q E h=>?_) (fun cdv A outer s H vs Q E hr h=>?_)
 . obtain ⟨b,a,n,r,lim,hs,xs,rfl,B,V0,hS,q⟩:=h
   rfl
 . obtain ⟨b,a,n,r,lim,hs,xs,rfl,B,V0,hS,q⟩:=h
   have hr_outside:Room 1 _:=hr.mono (by decide)
   refine⟨_,(za4 (zb6 (i:=2) zq7.nd rfl (Or.inl rfl) (zj5 zk6 rfl T.n_tuple PyProof.Rows.boot_tuple (za0 (pv 1) za3)))
     (za4 (zd2 (zb5 zs8 (zb2 zb9 rfl T.n_len PySem.boot_len (za0 (pv 2) za3)) (zb2 zb9 rfl T.n_len PySem.boot_len (za0 (zg3 (pv 0) rfl) za3)) (zb7 _)) (za6 zj1) zb8)
     (za4 (zp8 PassesOwn.never rfl (pi_tup (pv 2)) (zc6 (i:=3) zq7.nd rfl (Or.inl rfl)) (za4 (zd2 (zg1 (zb3 G_outside hr_outside rfl T.m_outside T.k_outside T.b_outside .nil zc2 (za0 (pv 3) (za0 (zk9 zg7 (zg3 (pv 0) rfl)) (za0 (zg3 (pv 0) rfl) za3))))) (za6 zj1) zb8)
     (za6 (zd2 (PW.pt (zs1 (zb5 zs8 (pv 3) za1 (zb7 _)) (zo2 (zb5 zp9 (zP8 PySem.F.slot_tuple_count PySem.F.type_tuple_count zx5 (pv 2) (za0 (pv 3) za3)) (zg3 (pv 0) rfl) (zb7 _))))) (za6 zj1) zb8))))
     (za6 (zc4 (pv 2)))))),?_⟩
   refine⟨_,rfl,a,xs.map V.int,rfl,?_⟩
   rcases hS with hS | hT
   . refine .inl ⟨hS,fun l hl=>?_⟩
     replace q:=q l _ (Same.upd hl) za2
     have hT:(upd H l (.tup (xs.map V.int))) l=some (.tup (xs.map V.int)):=za2
     replace B:=B.same (Same.upd (o:=.tup (xs.map V.int)) hl)
     revert q hT B
     generalize upd H l (.tup (xs.map V.int))=H1
     intro q hT B
     obtain ⟨ok,dx,h,hb,hh⟩:=B
     refine⟨_,rfl,_,_,rfl,.inr (SqT.of hT),_,rfl,b,_,dx,_,_,rfl,hb,T.cl_Beam,T.na_Beam_hefts,zB1 _ _ _ _,h,_,rfl,.inr (SqT.of hh),rfl,_,rfl,?_⟩
     refine iteB (by rw[List.length_map,List.length_map,V0.len];simp) ?_
     refine⟨_,rfl,_,rfl,⟨_,SqT.of hT⟩,zK4 (K:=K) (xs:=xs.map V.int) (fun i σ H'=>∃ v,σ=[some (.ref b),some (.ref a),some (.ref l),v]/\H'=H1) ⟨none,rfl,rfl⟩ (fun i σ H' _ ⟨_,_,e⟩=>e▸SqT.of hT) ?_ ?_⟩
     . rintro i x σ H' hi ⟨v,rfl,rfl⟩
       obtain ⟨z,rfl,hz⟩:=zv8 hi
       have hm:=List.mem_of_getElem? hz
       obtain ⟨z1,z2⟩:=V0.on z hm
       refine⟨_,rfl,_,rfl,b,_,dx,_,_,rfl,hb,T.cl_Beam,T.na_Beam_notches,zp7 _ _ _ _,_,rfl,_,rfl,b,_,dx,_,_,rfl,hb,T.cl_Beam,T.na_Beam_notches,zp7 _ _ _ _,z,-n,n,rfl,_,rfl,iteB (zv6 z1 z2) ?_⟩
       refine⟨_,rfl,rfl,_,rfl,?_⟩
       refine ite2 (fun h1=>?_) (fun h1=>?_)
       . have hz0:z≠0:=by
           intro e
           subst e
           simp at h1
         exact⟨_,rfl,⟨_,_,rfl,hT⟩,_,rfl,_,xs,z,rfl,rfl,SqT.of hT,_,rfl,b,_,dx,_,_,rfl,hb,T.cl_Beam,T.na_Beam_room,zO5 _ _ _ _,_,_,rfl,rfl,_,rfl,iteB (zL1 (V0.room z hm hz0)) ⟨_,rfl,rfl⟩⟩
       . exact iteF ⟨_,rfl,rfl⟩
     . rintro σ H' ⟨v,rfl,rfl⟩
       exact⟨_,rfl,q⟩
   . refine .inr ⟨SqT.of hT,?_⟩
     replace q:=q a _ (Same.refl _) hT
     obtain ⟨ok,dx,h,hb,hh⟩:=B
     refine⟨_,rfl,_,_,rfl,.inr (SqT.of hT),_,rfl,b,_,dx,_,_,rfl,hb,T.cl_Beam,T.na_Beam_hefts,zB1 _ _ _ _,h,_,rfl,.inr (SqT.of hh),rfl,_,rfl,?_⟩
     refine iteB (by rw[List.length_map,List.length_map,V0.len];simp) ?_
     refine⟨_,rfl,_,rfl,⟨_,SqT.of hT⟩,zK4 (K:=K) (xs:=xs.map V.int) (fun i σ H'=>∃ v,σ=[some (.ref b),some (.ref a),some (.ref a),v]/\H'=H) ⟨none,rfl,rfl⟩ (fun i σ H' _ ⟨_,_,e⟩=>e▸SqT.of hT) ?_ ?_⟩
     . rintro i x σ H' hi ⟨v,rfl,rfl⟩
       obtain ⟨z,rfl,hz⟩:=zv8 hi
       have hm:=List.mem_of_getElem? hz
       obtain ⟨z1,z2⟩:=V0.on z hm
       refine⟨_,rfl,_,rfl,b,_,dx,_,_,rfl,hb,T.cl_Beam,T.na_Beam_notches,zp7 _ _ _ _,_,rfl,_,rfl,b,_,dx,_,_,rfl,hb,T.cl_Beam,T.na_Beam_notches,zp7 _ _ _ _,z,-n,n,rfl,_,rfl,iteB (zv6 z1 z2) ?_⟩
       refine⟨_,rfl,rfl,_,rfl,?_⟩
       refine ite2 (fun h1=>?_) (fun h1=>?_)
       . have hz0:z≠0:=by
           intro e
           subst e
           simp at h1
         exact⟨_,rfl,⟨_,_,rfl,hT⟩,_,rfl,_,xs,z,rfl,rfl,SqT.of hT,_,rfl,b,_,dx,_,_,rfl,hb,T.cl_Beam,T.na_Beam_room,zO5 _ _ _ _,_,_,rfl,rfl,_,rfl,iteB (zL1 (V0.room z hm hz0)) ⟨_,rfl,rfl⟩⟩
       . exact iteF ⟨_,rfl,rfl⟩
     . rintro σ H' ⟨v,rfl,rfl⟩
       exact⟨_,rfl,q⟩
noncomputable def zc8 (hs xs:List Int):Int:=(List.zipWith (fun h x=>h*x) hs xs).sum
noncomputable def absI (i:Int):Int:=if i<0 then -i else i
noncomputable def mulV (x y:V):V:=match x,y with
 | .int a,.int b=>.int (a*b)
 | _,_=>.non
theorem zN4:∀ (hs xs:List Int),List.zipWith mulV (hs.map V.int) (xs.map V.int)=(List.zipWith (fun h x=>h*x) hs xs).map V.int
 | [],_=>rfl
 | _::_,[]=>rfl
 | h::hs,x::xs=>by
   show V.int (h*x)::List.zipWith mulV (hs.map V.int) (xs.map V.int)=_
   rw[zN4 hs xs]
   rfl
theorem zD2:∀ {hs xs:List Int} {B:Int},(∀ h∈hs,1<=h/\h<=20)->(∀ x∈xs,-B<=x/\x<=B)->0<=B->∀ z∈List.zipWith (fun h x=>h*x) hs xs,-(20*B)<=z/\z<=20*B
 | [],_,_,_,_,_=>(fun z hz=>by simp at hz)
 | _::_,[],_,_,_,_=>(fun z hz=>by simp at hz)
 | h::hs,x::xs,B,h1,h2,hB=>fun z hz=>by
   rw[List.zipWith_cons_cons] at hz
   rcases List.mem_cons.mp hz with rfl | hz
   . obtain ⟨a1,a2⟩:=h1 h List.mem_cons_self
     obtain ⟨b1,b2⟩:=h2 x List.mem_cons_self
     have c1:h*x<=h*B:=Int.mul_le_mul_of_nonneg_left b2 (by omega)
     have c2:h*B<=20*B:=Int.mul_le_mul_of_nonneg_right a2 hB
     have c3:h * -B<=h*x:=Int.mul_le_mul_of_nonneg_left b1 (by omega)
     have c4:h * -B = -(h*B):=Int.mul_neg h B
     omega
   . exact zD2 (fun y hy=>h1 y (List.mem_cons_of_mem _ hy)) (fun y hy=>h2 y (List.mem_cons_of_mem _ hy)) hB z hz
theorem tilt_fits {n r lim:Int} {hs xs:List Int} (ok:zi7 n r hs lim) (V0:zf8 n r hs.length xs):PySem.SumFits (List.zipWith (fun h x=>h*x) hs xs):=by
 refine PyProof.Rows.sumFits_of_bound (B:=80) (n:=5) (by decide) (fun z hz=>?_) ?_ (by decide)
 . have:=zD2 (B:=4) ok.h (fun x hx=>by have:=V0.on x hx;have:=ok.n2;omega) (by decide) z hz
   omega
 . rw[List.length_zipWith]
   have:=ok.w
   omega
noncomputable def zL7 (K:PySem.W.Frag) (t:Adr):Sp:=fun vs H Q _=>∃ (b a:Addr) (n r lim:Int) (hs xs:List Int),vs=[.ref b,.ref a]/\zh2 t H b n r hs lim/\zf8 n r hs.length xs ∧
 (SqL K H a (xs.map V.int)\/H a=some (.tup (xs.map V.int)))/\∀ H',Same H H'->Q (.int (zc8 hs xs)) H'
noncomputable def zN5 (K:PySem.W.Frag) (t:Adr):Sp:=fun vs H Q _=>∃ (b a:Addr) (n r lim:Int) (hs xs:List Int),vs=[.ref b,.ref a]/\zh2 t H b n r hs lim/\zf8 n r hs.length xs ∧
 (SqL K H a (xs.map V.int)\/H a=some (.tup (xs.map V.int)))/\∀ H',Same H H'->Q (.bl (decide (absI (zc8 hs xs)<=lim))) H'
theorem zR2 (T:Txt K mg t):FnOk P w K mg base CX0 3 t.a_tilt t.d_tilt ["beam","standing"] (zL7 K t):=by
 have G_as_standing:FnOk P w K mg base CX0 2 t.a_as_standing t.d_as_standing ["beam","standing"] (zj4 K t):=zm1 T
 refine T.F_tilt.ok zQ9 (fun vs H Q E h=>?_) (fun cdv A outer s H vs Q E hr h=>?_)
 . obtain ⟨b,a,n,r,lim,hs,xs,rfl,B,V0,hS,q⟩:=h
   rfl
 . obtain ⟨b,a,n,r,lim,hs,xs,rfl,B,V0,hS,q⟩:=h
   have hr_as_standing:Room 2 _:=hr.mono (by decide)
   refine⟨_,(za4 (zb6 (i:=2) zQ9.nd rfl (Or.inl rfl) (zb3 G_as_standing hr_as_standing rfl T.m_as_standing T.k_as_standing T.b_as_standing .nil zc2 (za0 (pv 0) (za0 (pv 1) za3))))
     (za6 (zc4 (zb2 (call_sum rfl) rfl T.n_sum PyProof.Rows.boot_sum (za0 (zL0 rfl zC8 (pi_zip rfl T.n_zip (za0 (zg3 (pv 0) rfl) (za0 (pv 2) za3))) (fun _ _ _ _ _=>(zQ0 (n:=2) K rfl rfl (zd1 (zc6 (i:=0) zC8.nd rfl (Or.inl rfl)) (zd1 (zc6 (i:=1) zC8.nd rfl (Or.inl rfl)) zl7)))) (fun _ _ _ _ _=>zM5) (fun _ _ _ _ _=>(za9 zh5 (pv 0) (pv 1)))) za3))))),?_⟩
   refine⟨_,rfl,_,rfl,b,a,n,r,lim,hs,xs,rfl,B,V0,hS,fun l H1 s1 hl=>?_⟩
   have ok:=B.1
   obtain ⟨_,dx,h,hb,hh⟩:=B.same s1
   refine⟨_,rfl,b,_,dx,_,_,rfl,hb,T.cl_Beam,T.na_Beam_hefts,zB1 _ _ _ _,_,rfl,h,l,_,_,rfl,hh,hl,fun D hD=>?_⟩
   refine comp_zip (f:=mulV) (rest:=[]) hh hl (by rw[List.length_map,List.length_map,V0.len]) hD (Nat.le_of_lt (zc9 (by rw[List.length_map];have:=ok.w;omega))) (fun i x y H' R hx hy s2 h=>?_) (fun H' s2 hd=>?_)
   . obtain ⟨u,rfl,hu⟩:=zv8 hx
     obtain ⟨v,rfl,hv⟩:=zv8 hy
     have:=ok.h u (List.mem_of_getElem? hu)
     exact⟨_,rfl,_,rfl,_,_,rfl,rfl,.inl ⟨by omega,by omega⟩,h⟩
   . rw[zN4] at hd
     exact⟨D,_,rfl,SqL.of hd,tilt_fits ok V0,q H' (s1.trans s2)⟩
theorem not_past (a lim:Int):(!decide (lim<a))=decide (a<=lim):=by
 by_cases h:lim<a
 . rw[decide_eq_true h,decide_eq_false (by omega)];rfl
 . rw[decide_eq_false h,decide_eq_true (by omega)];rfl
noncomputable def zL8 (K:PySem.W.Frag) (t:Adr):Sp:=fun vs H Q _=>∃ (b:Addr) (n r lim:Int) (hs:List Int) (z:Int),vs=[.ref b,.int z]/\zh2 t H b n r hs lim/\Q (.bl (decide (lim<absI z))) H
theorem zR3 (T:Txt K mg t):FnOk P w K mg base CX0 1 t.a_past t.d_past ["beam","tipped"] (zL8 K t):=by
 refine T.F_past.ok sc_past (fun vs H Q E h=>?_) (fun cdv A outer s H vs Q E hr h=>?_)
 . obtain ⟨b,n,r,lim,hs,z,rfl,B,q⟩:=h
   rfl
 . obtain ⟨b,n,r,lim,hs,z,rfl,B,q⟩:=h
   refine⟨_,(za6 (zc4 (zn1 zp9 (zb2 zl8 rfl T.n_abs PyProof.Rows.boot_abs (za0 (pv 1) za3)) (zg3 (pv 0) rfl) (zb7 _)))),?_⟩
   obtain ⟨_,dx,h,hb,hh⟩:=B
   exact⟨_,rfl,_,rfl,_,rfl,b,_,dx,_,_,rfl,hb,T.cl_Beam,T.na_Beam_limit,b_limit _ _ _ _,_,_,rfl,rfl,q⟩
theorem ok_keeps (T:Txt K mg t):FnOk P w K mg base CX0 4 t.a_keeps t.d_keeps ["beam","standing"] (zN5 K t):=by
 have G_past:FnOk P w K mg base CX0 1 t.a_past t.d_past ["beam","tipped"] (zL8 K t):=zR3 T
 have G_tilt:FnOk P w K mg base CX0 3 t.a_tilt t.d_tilt ["beam","standing"] (zL7 K t):=zR2 T
 refine T.F_keeps.ok sc_keeps (fun vs H Q E h=>?_) (fun cdv A outer s H vs Q E hr h=>?_)
 . obtain ⟨b,a,n,r,lim,hs,xs,rfl,B,V0,hS,q⟩:=h
   rfl
 . obtain ⟨b,a,n,r,lim,hs,xs,rfl,B,V0,hS,q⟩:=h
   have hr_past:Room 1 _:=hr.mono (by decide)
   have hr_tilt:Room 3 _:=hr.mono (by decide)
   refine⟨_,(za6 (zc4 (zO1 (zb3 G_past hr_past rfl T.m_past T.k_past T.b_past .nil zc2 (za0 (pv 0) (za0 (zb3 G_tilt hr_tilt rfl T.m_tilt T.k_tilt T.b_tilt .nil zc2 (za0 (pv 0) (za0 (pv 1) za3))) za3)))))),?_⟩
   refine⟨_,rfl,_,rfl,_,rfl,b,a,n,r,lim,hs,xs,rfl,B,V0,hS,fun H1 s1=>⟨b,n,r,lim,hs,_,rfl,B.same s1,_,rfl,?_⟩⟩
   rw[not_past]
   exact q H1 s1
/-! ### the mathematics of one move -/
noncomputable def zi8 (hs xs:List Int) (i:Nat):Int:=zc8 hs xs-hs.getD i 0*xs.getD i 0
theorem getD_set_self {xs:List Int} {i:Nat} {p:Int} (hi:i<xs.length):(xs.set i p).getD i 0=p:=by
 rw[List.getD_eq_getElem?_getD,List.getElem?_set_self hi];rfl
theorem count_set' {xs:List Int} {i:Nat} {p y:Int} (hi:i<xs.length):((xs.set i p).count y:Int)=(xs.count y:Int)-(if xs.getD i 0=y then 1 else 0)+(if p=y then 1 else 0):=by
 have e:xs.getD i 0=xs[i]:=by rw[List.getD_eq_getElem?_getD,List.getElem?_eq_getElem hi];rfl
 rw[e,List.count_set hi]
 have:xs[i]=y->1<=xs.count y:=fun h=>List.count_pos_iff.mpr (h▸List.getElem_mem hi)
 by_cases h1:xs[i]=y<;>by_cases h2:p=y<;>simp[h1,h2]<;>have:=this h1<;>omega
structure Lets (n r:Int) (hs:List Int) (lim:Int) (xs:List Int) (i:Nat) (p:Int):Prop where
 lt:i<xs.length
 on:-n<=p/\p<=n
 ne:p≠xs.getD i 0
 room:p≠0->(xs.count p:Int)<r
 held:absI (zi8 hs xs i)<=lim
 behind:absI (zi8 hs xs i+hs.getD i 0*p)<=lim
noncomputable instance (n r:Int) (hs:List Int) (lim:Int) (xs:List Int) (i:Nat) (p:Int):Decidable (Lets n r hs lim xs i p) :=
 decidable_of_iff (i<xs.length/\(-n<=p/\p<=n)/\p≠xs.getD i 0/\(p≠0->(xs.count p:Int)<r)/\absI (zi8 hs xs i)<=lim/\absI (zi8 hs xs i+hs.getD i 0*p)<=lim)
   ⟨fun ⟨a,b,c,d,e,f⟩=>⟨a,b,c,d,e,f⟩,fun ⟨a,b,c,d,e,f⟩=>⟨a,b,c,d,e,f⟩⟩
theorem zw8 {xs:List Int} {i:Nat} (hi:i<xs.length):xs.getD i 0∈xs:=by
 rw[List.getD_eq_getElem?_getD,List.getElem?_eq_getElem hi];exact List.getElem_mem hi
theorem Lets.valid {n r lim:Int} {w:Nat} {hs xs:List Int} {i:Nat} {p:Int} (L:Lets n r hs lim xs i p) (V0:zf8 n r w xs):zf8 n r w (xs.set i p):=by
 refine⟨by rw[List.length_set];exact V0.len,fun y hy=>?_,fun y hy h0=>?_⟩
 . rcases List.mem_or_eq_of_mem_set hy with h | rfl
   . exact V0.on y h
   . exact L.on
 . rw[count_set' L.lt]
   by_cases e:p=y
   . subst e
     have:=L.room h0
     rw[if_pos rfl,if_neg (fun z=>L.ne z.symm)]
     omega
   . have hm:y∈xs:=(List.mem_or_eq_of_mem_set hy).resolve_right (fun z=>e z.symm)
     have:=V0.room y hm h0
     rw[if_neg e]
     split<;>omega
theorem sum_zip:∀ (hs xs:List Int),hs.length=xs.length->((List.range hs.length).map fun i=>hs.getD i 0*xs.getD i 0).sum=(List.zipWith (fun h x=>h*x) hs xs).sum:=by
 intro hs xs hl
 congr 1
 apply List.ext_getElem
 . simp;omega
 . intro i h1 h2
   have hi:i<hs.length:=by simpa using h1
   have hi2:i<xs.length:=by omega
   simp[hi,hi2]
noncomputable def zN6 (hs xs:List Int):Nat->Int
 | 0=>0
 | j+1=>zN6 hs xs j+hs.getD j 0*xs.getD j 0
theorem zN7 (hs xs:List Int):∀ w,zN6 hs xs w=((List.range w).map fun i=>hs.getD i 0*xs.getD i 0).sum
 | 0=>rfl
 | w+1=>by
   unfold zN6
   rw[zN7 hs xs w,List.range_succ,List.map_append,List.sum_append]
   simp
theorem sumTo_tilt {hs xs:List Int} (hl:hs.length=xs.length):zN6 hs xs hs.length=zc8 hs xs:=by
 rw[zN7,sum_zip hs xs hl];rfl
theorem zI6:∀ {zs:List Int} {B:Int},(∀ z∈zs,-B<=z/\z<=B)->-(B*zs.length)<=zs.sum/\zs.sum<=B*zs.length
 | [],B,_=>by simp
 | z::zs,B,h=>by
   have h1:=h z List.mem_cons_self
   have h2:=zI6 (zs:=zs) (B:=B) fun y hy=>h y (List.mem_cons_of_mem _ hy)
   rw[List.sum_cons,List.length_cons,Int.natCast_add,Int.mul_add]
   omega
theorem zR4 {n r lim:Int} {hs xs:List Int} (ok:zi7 n r hs lim) (V0:zf8 n r hs.length xs):absI (zc8 hs xs)<=240/\0<=absI (zc8 hs xs):=by
 have h1:=zI6 (zD2 (B:=n) ok.h V0.on (by have:=ok.n1;omega))
 rw[List.length_zipWith,V0.len,Nat.min_self] at h1
 have hw:=ok.w
 have hm:=ok.most
 have n1:=ok.n1
 have n2:=ok.n2
 have key:20*n*(hs.length:Int)<=240:=by
   have:n=1\/n=2\/n=3\/n=4:=by omega
   have h5:hs.length=0\/hs.length=1\/hs.length=2\/hs.length=3\/hs.length=4\/hs.length=5:=by omega
   rcases this with rfl | rfl | rfl | rfl<;>rcases h5 with e | e | e | e | e | e<;>rw[e] at hm ⊢<;>first | decide | (exfalso;revert hm;decide)
 unfold zc8
 unfold absI
 split<;>omega
noncomputable def zG5 (K:PySem.W.Frag) (t:Adr):Sp:=fun vs H Q E=>∃ (b a:Addr) (n r lim k:Int) (i:Nat) (hs xs:List Int),vs=[.ref b,.ref a,.int k]/\zh2 t H b n r hs lim/\zf8 n r hs.length xs ∧
 (SqL K H a (xs.map V.int)\/H a=some (.tup (xs.map V.int)))/\(k=(i:Int)+1/\i<xs.length)/\∀ H',Same H H'->Q (.int (zi8 hs xs i)) H'
theorem ok_in_hand (T:Txt K mg t):FnOk P w K mg base CX0 4 t.a_in_hand t.d_in_hand ["beam","standing","weight"] (zG5 K t):=by
 have G_as_standing:FnOk P w K mg base CX0 2 t.a_as_standing t.d_as_standing ["beam","standing"] (zj4 K t):=zm1 T
 have G_outside:FnOk P w K mg base CX0 1 t.a_outside t.d_outside ["number","low","high"] (zk8 K t):=zn0 T
 have G_tilt:FnOk P w K mg base CX0 3 t.a_tilt t.d_tilt ["beam","standing"] (zL7 K t):=zR2 T
 refine T.F_in_hand.ok zG2 (fun vs H Q E h=>?_) (fun cdv A outer s H vs Q E hr h=>?_)
 . obtain ⟨b,a,n,r,lim,k,i,hs,xs,rfl,B,V0,hS,⟨rfl,hi⟩,q⟩:=h
   rfl
 . obtain ⟨b,a,n,r,lim,k,i,hs,xs,rfl,B,V0,hS,⟨rfl,hi⟩,q⟩:=h
   have hr_as_standing:Room 2 _:=hr.mono (by decide)
   have hr_outside:Room 1 _:=hr.mono (by decide)
   have hr_tilt:Room 3 _:=hr.mono (by decide)
   refine⟨_,(za4 (zb6 (i:=3) zG2.nd rfl (Or.inl rfl) (zb3 G_as_standing hr_as_standing rfl T.m_as_standing T.k_as_standing T.b_as_standing .nil zc2 (za0 (pv 0) (za0 (pv 1) za3))))
     (za4 (zd2 (zg1 (zb3 G_outside hr_outside rfl T.m_outside T.k_outside T.b_outside .nil zc2 (za0 (pv 2) (za0 za1 (za0 (zb2 zb9 rfl T.n_len PySem.boot_len (za0 (pv 3) za3)) za3))))) (za6 zj1) zb8)
     (za6 (zc4 (za9 zf7 (zb3 G_tilt hr_tilt rfl T.m_tilt T.k_tilt T.b_tilt .nil zc2 (za0 (pv 0) (za0 (pv 3) za3))) (za9 zh5 (zd0 zh6 (zg3 (pv 0) rfl) (za9 zf7 (pv 2) za1) (fun _ _=>rfl)) (zd0 zh6 (pv 3) (za9 zf7 (pv 2) za1) (fun _ _=>rfl)))))))),?_⟩
   refine⟨_,rfl,_,rfl,b,a,n,r,lim,hs,xs,rfl,B,V0,hS,fun l H1 s1 hl=>?_⟩
   refine⟨_,rfl,_,rfl,l,_,rfl,.inr (SqT.of hl),_,1,_,rfl,_,rfl,?_⟩
   rw[List.length_map]
   refine iteB (zv6 (by omega) (by omega)) ?_
   refine⟨_,rfl,_,rfl,b,l,n,r,lim,hs,xs,rfl,B.same s1,V0,.inr hl,fun H2 s2=>?_⟩
   obtain ⟨_,dx,h,hb,hh⟩:=B.same (s1.trans s2)
   have hlen:=V0.len
   have e1:((i:Int)+1-1).toNat=i:=by omega
   have a1:atI (hs.map V.int) ((i:Int)+1-1)=some (.int (hs.getD i 0)):=by have:=zf1 (xs:=hs) (i:=(i:Int)+1-1) (by omega) (by omega);rw[e1] at this;exact this
   have a2:atI (xs.map V.int) ((i:Int)+1-1)=some (.int (xs.getD i 0)):=by have:=zf1 (xs:=xs) (i:=(i:Int)+1-1) (by omega) (by omega);rw[e1] at this;exact this
   have hm:=B.1.h (hs.getD i 0) (zw8 (by omega))
   refine⟨_,rfl,b,_,dx,_,_,rfl,hb,T.cl_Beam,T.na_Beam_hefts,zB1 _ _ _ _,_,rfl,_,_,rfl,rfl,h,_,_,_,rfl,rfl,SqT.of hh,a1,?_⟩
   exact⟨_,rfl,_,rfl,_,_,rfl,rfl,l,_,_,_,rfl,rfl,SqT.of (s2 _ _ hl),a2,_,_,rfl,rfl,.inl ⟨by omega,by omega⟩,_,_,rfl,rfl,q _ (s1.trans s2)⟩
noncomputable def zB3 (r:Int) (xs:List Int) (p:Int):Bool:=decide (p≠0/\r<=(xs.count p:Int))
noncomputable def zR5 (K:PySem.W.Frag) (t:Adr):Sp:=fun vs H Q _=>∃ (b a:Addr) (n r lim p:Int) (hs xs:List Int),vs=[.ref b,.ref a,.int p]/\zh2 t H b n r hs lim/\H a=some (.tup (xs.map V.int))/\Q (.bl (zB3 r xs p)) H
theorem ok_full (T:Txt K mg t):FnOk P w K mg base CX0 1 t.a_full t.d_full ["beam","places","place"] (zR5 K t):=by
 refine T.F_full.ok sc_full (fun vs H Q E h=>?_) (fun cdv A outer s H vs Q E hr h=>?_)
 . obtain ⟨b,a,n,r,lim,p,hs,xs,rfl,B,hT,q⟩:=h
   rfl
 . obtain ⟨b,a,n,r,lim,p,hs,xs,rfl,B,hT,q⟩:=h
   refine⟨_,(za6 (zc4 (zF2 (zn1 zs8 (pv 2) za1 (zb7 _)) (zC2 (zn1 zM2 (zP8 PySem.F.slot_tuple_count PySem.F.type_tuple_count zx5 (pv 1) (za0 (pv 2) za3)) (zg3 (pv 0) rfl) (zb7 _)))))),?_⟩
   obtain ⟨_,dx,h,hb,hh⟩:=B
   unfold zB3 at q
   refine⟨_,rfl,rfl,_,rfl,?_⟩
   rw[ze7]
   refine ite2 (fun h1=>?_) (fun h1=>?_)
   . have h1':p≠0:=by simpa using h1
     refine⟨_,rfl,⟨_,_,rfl,hT⟩,_,rfl,_,xs,p,rfl,rfl,SqT.of hT,_,rfl,b,_,dx,_,_,rfl,hb,T.cl_Beam,T.na_Beam_room,zO5 _ _ _ _,_,_,rfl,rfl,?_⟩
     have e:decide (p≠0/\r<=(xs.count p:Int))=decide (r<=(xs.count p:Int)):=by simp[h1']
     rw[e] at q
     exact q
   . have h1':p=0:=by simpa using h1
     have e:decide (p≠0/\r<=(xs.count p:Int))=false:=by simp[h1']
     rw[e] at q
     exact q
theorem zF0 (xs:List Int) (i:Nat) (p:Int) (hi:i<xs.length):cutV (xs.map V.int) none (some (i:Int))++[V.int p]++cutV (xs.map V.int) (some ((i:Int)+1)) none=(xs.set i p).map V.int:=by
 unfold cutV
 rw[HT.sIx_none,HT.sIx_nat,HT.sIx_none,show ((i:Int)+1)=((i+1:Nat):Int) by omega,HT.sIx_nat,List.length_map,Nat.min_eq_left (by omega),Nat.min_eq_left (by omega),List.drop_zero,Nat.sub_zero,
   List.set_eq_take_append_cons_drop,if_pos hi,List.map_append,List.map_cons,List.append_assoc,List.map_take,List.map_drop]
 congr 1
 show V.int p::_=_
 congr 1
 exact List.take_of_length_le (by simp)
noncomputable def Mv (K:PySem.W.Frag) (H:Hp) (m:Addr) (k s p:Int):Prop:=SqL K H m [.int k,.int s,.int p]\/SqT K H m [.int k,.int s,.int p]
theorem Mv.ix {K:PySem.W.Frag} {H:Hp} {m:Addr} {k s p:Int} (h:Mv K H m k s p):(∀ Q:VK,Q (.int k) H->rIx K (.ref m) (.int 0) H Q)/\(∀ Q:VK,Q (.int s) H->rIx K (.ref m) (.int 1) H Q)/\(∀ Q:VK,Q (.int p) H->rIx K (.ref m) (.int 2) H Q):=by
 rcases h with h | h
 . exact⟨fun Q q=>.inl ⟨m,_,_,_,rfl,rfl,h,rfl,q⟩,fun Q q=>.inl ⟨m,_,_,_,rfl,rfl,h,rfl,q⟩,fun Q q=>.inl ⟨m,_,_,_,rfl,rfl,h,rfl,q⟩⟩
 . exact⟨fun Q q=>.inr (.inl ⟨m,_,_,_,rfl,rfl,h,rfl,q⟩),fun Q q=>.inr (.inl ⟨m,_,_,_,rfl,rfl,h,rfl,q⟩),fun Q q=>.inr (.inl ⟨m,_,_,_,rfl,rfl,h,rfl,q⟩)⟩
theorem Same.seqT {K:PySem.W.Frag} {H H':Hp} {a:Addr} {xs:List V} (e:Same H H') (h:SqT K H a xs):SqT K H' a xs:=by
 rcases h with (h | ⟨o,h⟩) | h
 . exact .inl (.inl (e _ _ h))
 . exact .inl (.inr ⟨o,e _ _ h⟩)
 . exact .inr h
theorem Mv.same {K:PySem.W.Frag} {H H':Hp} {m:Addr} {k s p:Int} (h:Mv K H m k s p) (e:Same H H'):Mv K H' m k s p:=h.imp e.seq (fun z=>Same.seqT e z)
noncomputable def zD3 (K:PySem.W.Frag) (t:Adr):Sp:=fun vs H Q _=>∃ (a m:Addr) (k s p:Int) (i:Nat) (xs:List Int),vs=[.ref a,.ref m]/\H a=some (.tup (xs.map V.int))/\Mv K H m k s p/\(k=(i:Int)+1/\i<xs.length/\xs.length<=900) ∧
 ∀ l H',Same H H'->H' l=some (.tup ((xs.set i p).map V.int))->Q (.ref l) H'
theorem zI7 (T:Txt K mg t):FnOk P w K mg base CX0 1 t.a_behind t.d_behind ["places","move"] (zD3 K t):=by
 refine T.F_behind.ok sc_behind (fun vs H Q E h=>?_) (fun cdv A outer s H vs Q E hr h=>?_)
 . obtain ⟨a,m,k,s,p,i,xs,rfl,hT,hM,⟨rfl,hi,hx⟩,q⟩:=h
   rfl
 . obtain ⟨a,m,k,s,p,i,xs,rfl,hT,hM,⟨rfl,hi,hx⟩,q⟩:=h
   refine⟨_,(za6 (zc4 (za9 zr4 (za9 zr4 (zk5 zv4 (pv 0) zo3 (zl9 (za9 zf7 (zd0 zm6 (pv 1) za1 (fun _ _=>rfl)) za1))) (zu6 (za0 (zd0 zm6 (pv 1) za1 (fun _ _=>rfl)) za3))) (zk5 zv4 (pv 0) (zl9 (zd0 zm6 (pv 1) za1 (fun _ _=>rfl))) zo3)))),?_⟩
   refine⟨_,rfl,_,rfl,hM.ix.1 _ ⟨_,_,rfl,rfl,_,rfl,a,_,rfl,SqT.of hT,?_,fun l1 f1=>?_⟩⟩
   . have e:(i:Int)+1-1=(i:Int):=by omega
     rw[e,HT.sIx_none,HT.sIx_nat,List.length_map,Nat.min_eq_left (by omega)]
     omega
   have s1:Same H (upd H l1 (.tup (cutV (xs.map V.int) none (some ((i:Int)+1-1))))):=Same.upd f1
   have h1:(upd H l1 (.tup (cutV (xs.map V.int) none (some ((i:Int)+1-1))))) l1=some (.tup (cutV (xs.map V.int) none (some ((i:Int)+1-1)))):=za2
   revert s1 h1
   generalize upd H l1 (.tup (cutV (xs.map V.int) none (some ((i:Int)+1-1))))=H1
   intro s1 h1
   refine⟨_,rfl,(hM.same s1).ix.2.2 _ ⟨(by show 1<=sizeLine;decide),fun l2 f2=>?_⟩⟩
   have s2:Same H1 (upd H1 l2 (.tup [.int p])):=Same.upd f2
   have h2:(upd H1 l2 (.tup [.int p])) l2=some (.tup [.int p]):=za2
   revert s2 h2
   generalize upd H1 l2 (.tup [.int p])=H2
   intro s2 h2
   have len1:=zj2 (xs.map V.int) none (some ((i:Int)+1-1))
   rw[List.length_map] at len1
   refine⟨l1,l2,_,_,rfl,rfl,s2 _ _ h1,h2,Nat.le_of_lt (zc9 (by show _+1<=_;omega)),fun l3 H3 s3 h3=>?_⟩
   have s03:=s1.trans (s2.trans s3)
   refine⟨_,rfl,_,rfl,(hM.same s03).ix.1 _ ⟨_,rfl,a,_,rfl,SqT.of (s03 _ _ hT),?_,fun l4 f4=>?_⟩⟩
   . rw[show ((i:Int)+1)=((i+1:Nat):Int) by omega,HT.sIx_nat,List.length_map]
     omega
   have s4:Same H3 (upd H3 l4 (.tup (cutV (xs.map V.int) (some ((i:Int)+1)) none))):=Same.upd f4
   have h4:(upd H3 l4 (.tup (cutV (xs.map V.int) (some ((i:Int)+1)) none))) l4=some (.tup (cutV (xs.map V.int) (some ((i:Int)+1)) none)):=za2
   revert s4 h4
   generalize upd H3 l4 (.tup (cutV (xs.map V.int) (some ((i:Int)+1)) none))=H4
   intro s4 h4
   have e5:=zF0 xs i p hi
   rw[show (i:Int)=(i:Int)+1-1 by omega,show (i:Int)+1-1+1=(i:Int)+1 by omega] at e5
   refine⟨l3,l4,_,_,rfl,rfl,s4 _ _ h3,h4,?_,fun l5 H5 s5 h5=>q l5 H5 (s03.trans (s4.trans s5)) ?_⟩
   . rw[<-List.length_append,e5,List.length_map,List.length_set]
     exact Nat.le_of_lt (zc9 (by omega))
   . rw[h5,e5]
noncomputable def zI8 (K:PySem.W.Frag) (t:Adr):Sp:=fun vs H Q _=>∃ (m:Addr) (k s p:Int),vs=[.ref m]/\Mv K H m k s p/\∀ l,H l=none->Q (.ref l) (upd H l (.tup [.int k,.int p,.int s]))
theorem ok_turned (T:Txt K mg t):FnOk P w K mg base CX0 1 t.a_turned t.d_turned ["move"] (zI8 K t):=by
 refine T.F_turned.ok sc_turned (fun vs H Q E h=>?_) (fun cdv A outer s H vs Q E hr h=>?_)
 . obtain ⟨m,k,s,p,rfl,hM,q⟩:=h
   rfl
 . obtain ⟨m,k,s,p,rfl,hM,q⟩:=h
   refine⟨_,(za6 (zc4 (zu6 (za0 (zd0 zm6 (pv 0) za1 (fun _ _=>rfl)) (za0 (zd0 zm6 (pv 0) za1 (fun _ _=>rfl)) (za0 (zd0 zm6 (pv 0) za1 (fun _ _=>rfl)) za3)))))),?_⟩
   refine⟨_,rfl,hM.ix.1 _ ⟨_,rfl,hM.ix.2.2 _ ⟨_,rfl,hM.ix.2.1 _ ⟨(by show 3<=sizeLine;decide),fun l fl=>?_⟩⟩⟩⟩
   exact q l fl
/-! ### refusals -/
noncomputable def zd9 (K:PySem.W.Frag) (t:Adr):Sp:=fun vs H Q _=>∃ (x C:Addr) (u v:V),vs=[.ref x,u,v]/\H x=some (ExcO C x none)/\XCls K C/\ze2 K C "reason"/\ze2 K C "word" ∧
 ∀ H' dx,H' x=some (ExcO C x (some dx))->H' dx=some (.xd (putF "word" v (putF "reason" u [])))->zt0 x H H'->Q .non H'
theorem ze6 (T:Txt K mg t):FnOk P w K mg base CX0 1 t.a_BeamError_init t.d_BeamError_init ["self","reason","word"] (zd9 K t):=by
 refine T.F_BeamError_init.ok sc_BeamError_init (fun vs H Q E h=>?_) (fun cdv A outer s H vs Q E hr h=>?_)
 . obtain ⟨x,C,u,v,rfl,hx,hc,n1,n2,q⟩:=h
   rfl
 . obtain ⟨x,C,u,v,rfl,hx,hc,n1,n2,q⟩:=h
   refine⟨_,(za4 (zQ2 (pv 0) (pv 1) rfl)
     (za6 (zQ2 (pv 0) (pv 2) rfl))),?_⟩
   refine⟨_,rfl,_,rfl,x,C,none,rfl,hx,hc,n1,fun dx fdx ndx=>?_⟩
   refine⟨_,rfl,_,rfl,x,C,some dx,rfl,za2,hc,n2,putF "reason" u [],by rw[za7 ndx];exact za2,by show (1:Nat)<1000;decide,?_⟩
   refine q _ dx (by rw[za7 ndx.symm];exact za2) za2 fun b o e hb=>?_
   rw[za7 (zb0 e fdx),za7 hb,za7 (zb0 e fdx)]
   exact e
noncomputable def zu2 (K:PySem.W.Frag) (t:Adr):Sp:=fun vs H Q _=>∃ (x:Addr) (u:V),vs=[.ref x,u]/\H x=some (ExcO t.c_NoWeight x none) ∧
 ∀ H' dx,H' x=some (ExcO t.c_NoWeight x (some dx))->H' dx=some (.xd (putF "word" (.str "no weight") (putF "reason" u [])))->zt0 x H H'->Q .non H'
theorem ok_NoWeight_init (T:Txt K mg t):FnOk P w K mg base CX0 2 t.a_NoWeight_init t.d_NoWeight_init ["self","reason"] (zu2 K t):=by
 have G_BeamError_init:FnOk P w K mg base CX0 1 t.a_BeamError_init t.d_BeamError_init ["self","reason","word"] (zd9 K t):=ze6 T
 refine T.F_NoWeight_init.ok sc_NoWeight_init (fun vs H Q E h=>?_) (fun cdv A outer s H vs Q E hr h=>?_)
 . obtain ⟨x,u,rfl,hx,q⟩:=h
   rfl
 . obtain ⟨x,u,rfl,hx,q⟩:=h
   have hr_BeamError_init:Room 1 _:=hr.mono (by decide)
   refine⟨_,(za6 (zf4 (zn3 T.cm_BeamError rfl T.m_BeamError G_BeamError_init hr_BeamError_init T.b_BeamError_init .nil zc2 (za0 (pv 0) (za0 (pv 1) (za0 ze0 za3)))))),?_⟩
   exact⟨_,rfl,_,rfl,x,t.c_NoWeight,u,_,rfl,hx,T.x_NoWeight,T.na_NoWeight_reason,T.na_NoWeight_word,fun H' dx h1 h2 h3=>q H' dx h1 h2 h3⟩
noncomputable def zu9 (K:PySem.W.Frag) (t:Adr):Sp:=fun vs H Q _=>∃ (x:Addr) (u:V),vs=[.ref x,u]/\H x=some (ExcO t.c_NoPlace x none) ∧
 ∀ H' dx,H' x=some (ExcO t.c_NoPlace x (some dx))->H' dx=some (.xd (putF "word" (.str "no place") (putF "reason" u [])))->zt0 x H H'->Q .non H'
theorem ok_NoPlace_init (T:Txt K mg t):FnOk P w K mg base CX0 2 t.a_NoPlace_init t.d_NoPlace_init ["self","reason"] (zu9 K t):=by
 have G_BeamError_init:FnOk P w K mg base CX0 1 t.a_BeamError_init t.d_BeamError_init ["self","reason","word"] (zd9 K t):=ze6 T
 refine T.F_NoPlace_init.ok sc_NoPlace_init (fun vs H Q E h=>?_) (fun cdv A outer s H vs Q E hr h=>?_)
 . obtain ⟨x,u,rfl,hx,q⟩:=h
   rfl
 . obtain ⟨x,u,rfl,hx,q⟩:=h
   have hr_BeamError_init:Room 1 _:=hr.mono (by decide)
   refine⟨_,(za6 (zf4 (zn3 T.cm_BeamError rfl T.m_BeamError G_BeamError_init hr_BeamError_init T.b_BeamError_init .nil zc2 (za0 (pv 0) (za0 (pv 1) (za0 ze0 za3)))))),?_⟩
   exact⟨_,rfl,_,rfl,x,t.c_NoPlace,u,_,rfl,hx,T.x_NoPlace,T.na_NoPlace_reason,T.na_NoPlace_word,fun H' dx h1 h2 h3=>q H' dx h1 h2 h3⟩
noncomputable def zr8 (K:PySem.W.Frag) (t:Adr):Sp:=fun vs H Q _=>∃ (x:Addr) (u:V),vs=[.ref x,u]/\H x=some (ExcO t.c_SamePlace x none) ∧
 ∀ H' dx,H' x=some (ExcO t.c_SamePlace x (some dx))->H' dx=some (.xd (putF "word" (.str "same place") (putF "reason" u [])))->zt0 x H H'->Q .non H'
theorem ok_SamePlace_init (T:Txt K mg t):FnOk P w K mg base CX0 2 t.a_SamePlace_init t.d_SamePlace_init ["self","reason"] (zr8 K t):=by
 have G_BeamError_init:FnOk P w K mg base CX0 1 t.a_BeamError_init t.d_BeamError_init ["self","reason","word"] (zd9 K t):=ze6 T
 refine T.F_SamePlace_init.ok sc_SamePlace_init (fun vs H Q E h=>?_) (fun cdv A outer s H vs Q E hr h=>?_)
 . obtain ⟨x,u,rfl,hx,q⟩:=h
   rfl
 . obtain ⟨x,u,rfl,hx,q⟩:=h
   have hr_BeamError_init:Room 1 _:=hr.mono (by decide)
   refine⟨_,(za6 (zf4 (zn3 T.cm_BeamError rfl T.m_BeamError G_BeamError_init hr_BeamError_init T.b_BeamError_init .nil zc2 (za0 (pv 0) (za0 (pv 1) (za0 ze0 za3)))))),?_⟩
   exact⟨_,rfl,_,rfl,x,t.c_SamePlace,u,_,rfl,hx,T.x_SamePlace,T.na_SamePlace_reason,T.na_SamePlace_word,fun H' dx h1 h2 h3=>q H' dx h1 h2 h3⟩
noncomputable def zw9 (K:PySem.W.Frag) (t:Adr):Sp:=fun vs H Q _=>∃ (x:Addr) (u:V),vs=[.ref x,u]/\H x=some (ExcO t.c_NoRoom x none) ∧
 ∀ H' dx,H' x=some (ExcO t.c_NoRoom x (some dx))->H' dx=some (.xd (putF "word" (.str "no room") (putF "reason" u [])))->zt0 x H H'->Q .non H'
theorem ok_NoRoom_init (T:Txt K mg t):FnOk P w K mg base CX0 2 t.a_NoRoom_init t.d_NoRoom_init ["self","reason"] (zw9 K t):=by
 have G_BeamError_init:FnOk P w K mg base CX0 1 t.a_BeamError_init t.d_BeamError_init ["self","reason","word"] (zd9 K t):=ze6 T
 refine T.F_NoRoom_init.ok sc_NoRoom_init (fun vs H Q E h=>?_) (fun cdv A outer s H vs Q E hr h=>?_)
 . obtain ⟨x,u,rfl,hx,q⟩:=h
   rfl
 . obtain ⟨x,u,rfl,hx,q⟩:=h
   have hr_BeamError_init:Room 1 _:=hr.mono (by decide)
   refine⟨_,(za6 (zf4 (zn3 T.cm_BeamError rfl T.m_BeamError G_BeamError_init hr_BeamError_init T.b_BeamError_init .nil zc2 (za0 (pv 0) (za0 (pv 1) (za0 ze0 za3)))))),?_⟩
   exact⟨_,rfl,_,rfl,x,t.c_NoRoom,u,_,rfl,hx,T.x_NoRoom,T.na_NoRoom_reason,T.na_NoRoom_word,fun H' dx h1 h2 h3=>q H' dx h1 h2 h3⟩
noncomputable def zr0 (K:PySem.W.Frag) (t:Adr):Sp:=fun vs H Q _=>∃ (x:Addr) (u:V),vs=[.ref x,u]/\H x=some (ExcO t.c_TipsInHand x none) ∧
 ∀ H' dx,H' x=some (ExcO t.c_TipsInHand x (some dx))->H' dx=some (.xd (putF "word" (.str "tips in hand") (putF "reason" u [])))->zt0 x H H'->Q .non H'
theorem ok_TipsInHand_init (T:Txt K mg t):FnOk P w K mg base CX0 2 t.a_TipsInHand_init t.d_TipsInHand_init ["self","reason"] (zr0 K t):=by
 have G_BeamError_init:FnOk P w K mg base CX0 1 t.a_BeamError_init t.d_BeamError_init ["self","reason","word"] (zd9 K t):=ze6 T
 refine T.F_TipsInHand_init.ok sc_TipsInHand_init (fun vs H Q E h=>?_) (fun cdv A outer s H vs Q E hr h=>?_)
 . obtain ⟨x,u,rfl,hx,q⟩:=h
   rfl
 . obtain ⟨x,u,rfl,hx,q⟩:=h
   have hr_BeamError_init:Room 1 _:=hr.mono (by decide)
   refine⟨_,(za6 (zf4 (zn3 T.cm_BeamError rfl T.m_BeamError G_BeamError_init hr_BeamError_init T.b_BeamError_init .nil zc2 (za0 (pv 0) (za0 (pv 1) (za0 ze0 za3)))))),?_⟩
   exact⟨_,rfl,_,rfl,x,t.c_TipsInHand,u,_,rfl,hx,T.x_TipsInHand,T.na_TipsInHand_reason,T.na_TipsInHand_word,fun H' dx h1 h2 h3=>q H' dx h1 h2 h3⟩
noncomputable def zr1 (K:PySem.W.Frag) (t:Adr):Sp:=fun vs H Q _=>∃ (x:Addr) (u:V),vs=[.ref x,u]/\H x=some (ExcO t.c_TipsBehind x none) ∧
 ∀ H' dx,H' x=some (ExcO t.c_TipsBehind x (some dx))->H' dx=some (.xd (putF "word" (.str "tips behind") (putF "reason" u [])))->zt0 x H H'->Q .non H'
theorem ok_TipsBehind_init (T:Txt K mg t):FnOk P w K mg base CX0 2 t.a_TipsBehind_init t.d_TipsBehind_init ["self","reason"] (zr1 K t):=by
 have G_BeamError_init:FnOk P w K mg base CX0 1 t.a_BeamError_init t.d_BeamError_init ["self","reason","word"] (zd9 K t):=ze6 T
 refine T.F_TipsBehind_init.ok sc_TipsBehind_init (fun vs H Q E h=>?_) (fun cdv A outer s H vs Q E hr h=>?_)
 . obtain ⟨x,u,rfl,hx,q⟩:=h
   rfl
 . obtain ⟨x,u,rfl,hx,q⟩:=h
   have hr_BeamError_init:Room 1 _:=hr.mono (by decide)
   refine⟨_,(za6 (zf4 (zn3 T.cm_BeamError rfl T.m_BeamError G_BeamError_init hr_BeamError_init T.b_BeamError_init .nil zc2 (za0 (pv 0) (za0 (pv 1) (za0 ze0 za3)))))),?_⟩
   exact⟨_,rfl,_,rfl,x,t.c_TipsBehind,u,_,rfl,hx,T.x_TipsBehind,T.na_TipsBehind_reason,T.na_TipsBehind_word,fun H' dx h1 h2 h3=>q H' dx h1 h2 h3⟩
noncomputable def zu3 (K:PySem.W.Frag) (t:Adr):Sp:=fun vs H Q _=>∃ (x:Addr) (u:V),vs=[.ref x,u]/\H x=some (ExcO t.c_PlayFull x none) ∧
 ∀ H' dx,H' x=some (ExcO t.c_PlayFull x (some dx))->H' dx=some (.xd (putF "word" (.str "play full") (putF "reason" u [])))->zt0 x H H'->Q .non H'
theorem ok_PlayFull_init (T:Txt K mg t):FnOk P w K mg base CX0 2 t.a_PlayFull_init t.d_PlayFull_init ["self","reason"] (zu3 K t):=by
 have G_BeamError_init:FnOk P w K mg base CX0 1 t.a_BeamError_init t.d_BeamError_init ["self","reason","word"] (zd9 K t):=ze6 T
 refine T.F_PlayFull_init.ok sc_PlayFull_init (fun vs H Q E h=>?_) (fun cdv A outer s H vs Q E hr h=>?_)
 . obtain ⟨x,u,rfl,hx,q⟩:=h
   rfl
 . obtain ⟨x,u,rfl,hx,q⟩:=h
   have hr_BeamError_init:Room 1 _:=hr.mono (by decide)
   refine⟨_,(za6 (zf4 (zn3 T.cm_BeamError rfl T.m_BeamError G_BeamError_init hr_BeamError_init T.b_BeamError_init .nil zc2 (za0 (pv 0) (za0 (pv 1) (za0 ze0 za3)))))),?_⟩
   exact⟨_,rfl,_,rfl,x,t.c_PlayFull,u,_,rfl,hx,T.x_PlayFull,T.na_PlayFull_reason,T.na_PlayFull_word,fun H' dx h1 h2 h3=>q H' dx h1 h2 h3⟩
noncomputable def zo1 (K:PySem.W.Frag) (t:Adr):Sp:=fun vs H Q _=>∃ (x:Addr) (u:V),vs=[.ref x,u]/\H x=some (ExcO t.c_NothingBack x none) ∧
 ∀ H' dx,H' x=some (ExcO t.c_NothingBack x (some dx))->H' dx=some (.xd (putF "word" (.str "nothing back") (putF "reason" u [])))->zt0 x H H'->Q .non H'
theorem ok_NothingBack_init (T:Txt K mg t):FnOk P w K mg base CX0 2 t.a_NothingBack_init t.d_NothingBack_init ["self","reason"] (zo1 K t):=by
 have G_BeamError_init:FnOk P w K mg base CX0 1 t.a_BeamError_init t.d_BeamError_init ["self","reason","word"] (zd9 K t):=ze6 T
 refine T.F_NothingBack_init.ok sc_NothingBack_init (fun vs H Q E h=>?_) (fun cdv A outer s H vs Q E hr h=>?_)
 . obtain ⟨x,u,rfl,hx,q⟩:=h
   rfl
 . obtain ⟨x,u,rfl,hx,q⟩:=h
   have hr_BeamError_init:Room 1 _:=hr.mono (by decide)
   refine⟨_,(za6 (zf4 (zn3 T.cm_BeamError rfl T.m_BeamError G_BeamError_init hr_BeamError_init T.b_BeamError_init .nil zc2 (za0 (pv 0) (za0 (pv 1) (za0 ze0 za3)))))),?_⟩
   exact⟨_,rfl,_,rfl,x,t.c_NothingBack,u,_,rfl,hx,T.x_NothingBack,T.na_NothingBack_reason,T.na_NothingBack_word,fun H' dx h1 h2 h3=>q H' dx h1 h2 h3⟩
noncomputable def Told (H H':Hp) (od:Option Addr) (w:Str):Prop:=Same H H'/\∃ dx fs,od=some dx/\H' dx=some (.xd fs)/\fs.lookup ("word" : Str)=some (V.str w)
theorem Told.from {H H1 H':Hp} {od:Option Addr} {w:Str} (h:Told H1 H' od w) (s:Same H H1):Told H H' od w:=⟨s.trans h.1,h.2⟩
theorem zr9 {H H1 H':Hp} {x dx C:Addr} {o:HO} {u:V} {w:Str} (s:Same H H1) (fx:H1 x=none) (hx:H' x=some (ExcO C x (some dx))) (hd:H' dx=some (.xd (putF "word" (.str w) (putF "reason" u [])))) (sx:zt0 x (upd H1 x o) H'):Told H (del H' x) (some dx) w:=by
 refine⟨fun b v e=>?_,dx,putF "word" (.str w) (putF "reason" u []),rfl,?_,?_⟩
 . have e1:=s b v e
   have hb:b≠x:=zb0 e1 fx
   rw[zv9 hb]
   exact sx b v (by rw[za7 hb];exact e1) hb
 . rw[zv9 (fun z=>by rw[z,hx] at hd;cases hd)];exact hd
 . rw[zc1,if_pos rfl]
noncomputable def zs0 (xs:List Int) (k s:Int):Prop:=(1<=k/\k<=xs.length)/\xs.getD (k-1).toNat 0=s
noncomputable instance (xs:List Int) (k s:Int):Decidable (zs0 xs k s):=by unfold zs0;exact inferInstance
noncomputable def refN (n r lim:Int) (hs xs:List Int) (k s p:Int):Nat :=
 if ¬ zs0 xs k s then 1 else if p < -n\/n<p then 2 else if p=s then 3 else if zB3 r xs p=true then 4
 else if lim<absI (zi8 hs xs (k-1).toNat) then 5 else if lim<absI (zi8 hs xs (k-1).toNat+hs.getD (k-1).toNat 0*p) then 6 else 0
theorem zR6 (n r lim:Int) (hs xs:List Int) (k s p:Int):refN n r lim hs xs k s p<=6:=by
 unfold refN
 repeat (first | decide | split)
noncomputable def zx0:Nat->Str
 | 1 => "no weight" | 2 => "no place" | 3 => "same place" | 4 => "no room" | 5 => "tips in hand" | 6 => "tips behind" | _ => ""
noncomputable def clsN (t:Adr):Nat->Addr
 | 1=>t.c_NoWeight | 2=>t.c_NoPlace | 3=>t.c_SamePlace | 4=>t.c_NoRoom | 5=>t.c_TipsInHand | _=>t.c_TipsBehind
noncomputable def zv0 (K:PySem.W.Frag) (t:Adr):Sp:=fun vs H Q E=>∃ (a:Addr) (k s:Int) (xs:List Int),vs=[.ref a,.int k,.int s]/\H a=some (.tup (xs.map V.int))/\(zs0 xs k s->Q .non H)/\(¬ zs0 xs k s->∀ od H',Told H H' od "no weight"->E (.ref t.c_NoWeight) od H')
theorem ok_check_weight (T:Txt K mg t):FnOk P w K mg base (CXD P w) 4 t.a_check_weight t.d_check_weight ["places","weight","taken"] (zv0 K t):=by
 have G_outside:FnOk P w K mg base CX0 1 t.a_outside t.d_outside ["number","low","high"] (zk8 K t):=zn0 T
 have G_NoWeight_init:FnOk P w K mg base CX0 2 t.a_NoWeight_init t.d_NoWeight_init ["self","reason"] (zu2 K t):=ok_NoWeight_init T
 refine T.F_check_weight.d.okD (CX:=CX0) sc_check_weight (fun vs H Q E h=>?_) (fun cdv A outer s H vs Q E hr h=>?_)
 . obtain ⟨a,k,s,xs,rfl,hT,q,qe⟩:=h
   rfl
 . obtain ⟨a,k,s,xs,rfl,hT,q,qe⟩:=h
   have hr_outside:Room 1 _:=hr.mono (by decide)
   have hr_NoWeight:Room 3 _:=hr.mono (by decide)
   refine⟨_,(za4 (zd2 (zg1 (zb3 G_outside hr_outside rfl T.m_outside T.k_outside T.b_outside .nil zc2 (za0 (pv 1) (za0 za1 (za0 (zb2 zb9 rfl T.n_len PySem.boot_len (za0 (pv 0) za3)) za3))))) (za6 (zj6 zh7 rfl T.x_NoWeight T.i_NoWeight T.if_NoWeight G_NoWeight_init hr_NoWeight rfl T.m_NoWeight T.b_NoWeight_init .nil zc2 (za0 ze0 za3))) zb8)
     (za6 (zd2 (zb5 zs8 (zd0 zh6 (pv 0) (za9 zf7 (pv 1) za1) (fun _ _=>rfl)) (pv 2) (zb7 _)) (za6 (zj6 zh7 rfl T.x_NoWeight T.i_NoWeight T.if_NoWeight G_NoWeight_init hr_NoWeight rfl T.m_NoWeight T.b_NoWeight_init .nil zc2 (za0 ze0 za3))) zb8))),?_⟩
   refine⟨_,rfl,_,rfl,a,_,rfl,.inr (SqT.of hT),k,1,_,rfl,_,rfl,?_⟩
   rw[List.length_map]
   refine ite2 (fun h1=>?_) (fun h1=>?_)
   . have hb:¬ zs0 xs k s:=fun z=>by have:=z.1;simp at h1;omega
     exact⟨(by show 1<=sizeLine;decide),fun x fx=>⟨x,_,rfl,za2,fun H' dx hx hd sx=>⟨rfl,some dx,hx,qe hb _ _ (zr9 (Same.refl _) fx hx hd sx)⟩⟩⟩
   have hk:1<=k/\k<=xs.length:=by simp at h1;omega
   refine⟨_,rfl,_,rfl,_,_,rfl,rfl,a,_,_,_,rfl,rfl,SqT.of hT,zf1 (by omega) (by omega),_,rfl,rfl,_,rfl,?_⟩
   rw[ze7]
   refine ite2 (fun h2=>?_) (fun h2=>?_)
   . have hb:¬ zs0 xs k s:=fun z=>by simp at h2;exact h2 (by simpa using z.2)
     exact⟨(by show 1<=sizeLine;decide),fun x fx=>⟨x,_,rfl,za2,fun H' dx hx hd sx=>⟨rfl,some dx,hx,qe hb _ _ (zr9 (Same.refl _) fx hx hd sx)⟩⟩⟩
   . exact q ⟨hk,by simpa using h2⟩
noncomputable def zB4 (K:PySem.W.Frag) (t:Adr):Sp:=fun vs H Q E=>∃ (b a:Addr) (n r lim s p:Int) (hs xs:List Int),vs=[.ref b,.ref a,.int s,.int p]/\zh2 t H b n r hs lim/\H a=some (.tup (xs.map V.int)) ∧
 (¬ (p < -n\/n<p)->p≠s->¬ zB3 r xs p=true->Q .non H)/\((p < -n\/n<p)->∀ od H',Told H H' od "no place"->E (.ref t.c_NoPlace) od H')/\(¬ (p < -n\/n<p)->p=s->∀ od H',Told H H' od "same place"->E (.ref t.c_SamePlace) od H') ∧
 (¬ (p < -n\/n<p)->p≠s->zB3 r xs p=true->∀ od H',Told H H' od "no room"->E (.ref t.c_NoRoom) od H')
theorem ok_check_put (T:Txt K mg t):FnOk P w K mg base (CXD P w) 4 t.a_check_put t.d_check_put ["beam","places","taken","put"] (zB4 K t):=by
 have G_outside:FnOk P w K mg base CX0 1 t.a_outside t.d_outside ["number","low","high"] (zk8 K t):=zn0 T
 have G_full:FnOk P w K mg base CX0 1 t.a_full t.d_full ["beam","places","place"] (zR5 K t):=ok_full T
 have G_NoPlace_init:FnOk P w K mg base CX0 2 t.a_NoPlace_init t.d_NoPlace_init ["self","reason"] (zu9 K t):=ok_NoPlace_init T
 have G_SamePlace_init:FnOk P w K mg base CX0 2 t.a_SamePlace_init t.d_SamePlace_init ["self","reason"] (zr8 K t):=ok_SamePlace_init T
 have G_NoRoom_init:FnOk P w K mg base CX0 2 t.a_NoRoom_init t.d_NoRoom_init ["self","reason"] (zw9 K t):=ok_NoRoom_init T
 refine T.F_check_put.d.okD (CX:=CX0) sc_check_put (fun vs H Q E h=>?_) (fun cdv A outer s H vs Q E hr h=>?_)
 . obtain ⟨b,a,n,r,lim,s,p,hs,xs,rfl,B,hT,q,q1,q2,q3⟩:=h
   rfl
 . obtain ⟨b,a,n,r,lim,s,p,hs,xs,rfl,B,hT,q,q1,q2,q3⟩:=h
   have hr_outside:Room 1 _:=hr.mono (by decide)
   have hr_full:Room 1 _:=hr.mono (by decide)
   have hr_NoPlace:Room 3 _:=hr.mono (by decide)
   have hr_SamePlace:Room 3 _:=hr.mono (by decide)
   have hr_NoRoom:Room 3 _:=hr.mono (by decide)
   refine⟨_,(za4 (zd2 (zg1 (zb3 G_outside hr_outside rfl T.m_outside T.k_outside T.b_outside .nil zc2 (za0 (pv 3) (za0 (zk9 zg7 (zg3 (pv 0) rfl)) (za0 (zg3 (pv 0) rfl) za3))))) (za6 (zj6 zh7 rfl T.x_NoPlace T.i_NoPlace T.if_NoPlace G_NoPlace_init hr_NoPlace rfl T.m_NoPlace T.b_NoPlace_init .nil zc2 (za0 ze0 za3))) zb8)
     (za4 (zd2 (zb5 zi1 (pv 3) (pv 2) (zb7 _)) (za6 (zj6 zh7 rfl T.x_SamePlace T.i_SamePlace T.if_SamePlace G_SamePlace_init hr_SamePlace rfl T.m_SamePlace T.b_SamePlace_init .nil zc2 (za0 ze0 za3))) zb8)
     (za6 (zd2 (zg1 (zb3 G_full hr_full rfl T.m_full T.k_full T.b_full .nil zc2 (za0 (pv 0) (za0 (pv 1) (za0 (pv 3) za3))))) (za6 (zj6 zh7 rfl T.x_NoRoom T.i_NoRoom T.if_NoRoom G_NoRoom_init hr_NoRoom rfl T.m_NoRoom T.b_NoRoom_init .nil zc2 (za0 ze0 za3))) zb8)))),?_⟩
   have B0:=B
   obtain ⟨_,dx,h,hb,hh⟩:=B
   refine⟨_,rfl,_,rfl,b,_,dx,_,_,rfl,hb,T.cl_Beam,T.na_Beam_notches,zp7 _ _ _ _,_,rfl,_,rfl,b,_,dx,_,_,rfl,hb,T.cl_Beam,T.na_Beam_notches,zp7 _ _ _ _,p,-n,n,rfl,_,rfl,?_⟩
   refine ite2 (fun h1=>?_) (fun h1=>?_)
   . have h1':p < -n\/n<p:=by simpa using h1
     exact⟨(by show 1<=sizeLine;decide),fun x fx=>⟨x,_,rfl,za2,fun H' dx hx hd sx=>⟨rfl,some dx,hx,q1 h1' _ _ (zr9 (Same.refl _) fx hx hd sx)⟩⟩⟩
   have h1':¬ (p < -n\/n<p):=fun z=>h1 (by simpa using z)
   refine⟨_,rfl,_,rfl,rfl,_,rfl,?_⟩
   rw[ze7]
   refine ite2 (fun h2=>?_) (fun h2=>?_)
   . have h2':p=s:=of_decide_eq_true h2
     exact⟨(by show 1<=sizeLine;decide),fun x fx=>⟨x,_,rfl,za2,fun H' dx hx hd sx=>⟨rfl,some dx,hx,q2 h1' h2' _ _ (zr9 (Same.refl _) fx hx hd sx)⟩⟩⟩
   have h2':p≠s:=fun z=>h2 (decide_eq_true z)
   refine⟨_,rfl,_,rfl,_,rfl,b,a,n,r,lim,p,hs,xs,rfl,B0,hT,_,rfl,?_⟩
   refine ite2 (fun h3=>?_) (fun h3=>?_)
   . exact⟨(by show 1<=sizeLine;decide),fun x fx=>⟨x,_,rfl,za2,fun H' dx hx hd sx=>⟨rfl,some dx,hx,q3 h1' h2' h3 _ _ (zr9 (Same.refl _) fx hx hd sx)⟩⟩⟩
   . exact q h1' h2' h3
noncomputable def zx1 (K:PySem.W.Frag) (t:Adr):Sp:=fun vs H Q E=>∃ (b:Addr) (n r lim u v:Int) (hs:List Int),vs=[.ref b,.int u,.int v]/\zh2 t H b n r hs lim/\(¬ lim<absI u->¬ lim<absI (u+v)->Q .non H)/\(lim<absI u->∀ od H',Told H H' od "tips in hand"->E (.ref t.c_TipsInHand) od H') ∧
 (¬ lim<absI u->lim<absI (u+v)->∀ od H',Told H H' od "tips behind"->E (.ref t.c_TipsBehind) od H')
theorem ok_check_tilts (T:Txt K mg t):FnOk P w K mg base (CXD P w) 4 t.a_check_tilts t.d_check_tilts ["beam","held","added"] (zx1 K t):=by
 have G_past:FnOk P w K mg base CX0 1 t.a_past t.d_past ["beam","tipped"] (zL8 K t):=zR3 T
 have G_TipsInHand_init:FnOk P w K mg base CX0 2 t.a_TipsInHand_init t.d_TipsInHand_init ["self","reason"] (zr0 K t):=ok_TipsInHand_init T
 have G_TipsBehind_init:FnOk P w K mg base CX0 2 t.a_TipsBehind_init t.d_TipsBehind_init ["self","reason"] (zr1 K t):=ok_TipsBehind_init T
 refine T.F_check_tilts.d.okD (CX:=CX0) sc_check_tilts (fun vs H Q E h=>?_) (fun cdv A outer s H vs Q E hr h=>?_)
 . obtain ⟨b,n,r,lim,u,v,hs,rfl,B,q,q1,q2⟩:=h
   rfl
 . obtain ⟨b,n,r,lim,u,v,hs,rfl,B,q,q1,q2⟩:=h
   have hr_past:Room 1 _:=hr.mono (by decide)
   have hr_TipsInHand:Room 3 _:=hr.mono (by decide)
   have hr_TipsBehind:Room 3 _:=hr.mono (by decide)
   refine⟨_,(za4 (zd2 (zg1 (zb3 G_past hr_past rfl T.m_past T.k_past T.b_past .nil zc2 (za0 (pv 0) (za0 (pv 1) za3)))) (za6 (zj6 zh7 rfl T.x_TipsInHand T.i_TipsInHand T.if_TipsInHand G_TipsInHand_init hr_TipsInHand rfl T.m_TipsInHand T.b_TipsInHand_init .nil zc2 (za0 ze0 za3))) zb8)
     (za6 (zd2 (zg1 (zb3 G_past hr_past rfl T.m_past T.k_past T.b_past .nil zc2 (za0 (pv 0) (za0 (za9 zf0 (pv 1) (pv 2)) za3)))) (za6 (zj6 zh7 rfl T.x_TipsBehind T.i_TipsBehind T.if_TipsBehind G_TipsBehind_init hr_TipsBehind rfl T.m_TipsBehind T.b_TipsBehind_init .nil zc2 (za0 ze0 za3))) zb8))),?_⟩
   refine⟨_,rfl,_,rfl,b,n,r,lim,hs,u,rfl,B,_,rfl,?_⟩
   refine ite2 (fun h1=>?_) (fun h1=>?_)
   . exact⟨(by show 1<=sizeLine;decide),fun x fx=>⟨x,_,rfl,za2,fun H' dx hx hd sx=>⟨rfl,some dx,hx,q1 (of_decide_eq_true h1) _ _ (zr9 (Same.refl _) fx hx hd sx)⟩⟩⟩
   have h1':¬ lim<absI u:=fun z=>h1 (decide_eq_true z)
   refine⟨_,rfl,_,rfl,_,rfl,_,_,rfl,rfl,b,n,r,lim,hs,u+v,rfl,B,_,rfl,?_⟩
   refine ite2 (fun h2=>?_) (fun h2=>?_)
   . exact⟨(by show 1<=sizeLine;decide),fun x fx=>⟨x,_,rfl,za2,fun H' dx hx hd sx=>⟨rfl,some dx,hx,q2 h1' (of_decide_eq_true h2) _ _ (zr9 (Same.refl _) fx hx hd sx)⟩⟩⟩
   . exact q h1' fun z=>h2 (decide_eq_true z)
noncomputable def zy6 (K:PySem.W.Frag) (t:Adr):Sp:=fun vs H Q E=>∃ (b a:Addr) (n r lim k s p:Int) (hs xs:List Int),vs=[.ref b,.ref a,.int k,.int s,.int p]/\zh2 t H b n r hs lim/\zf8 n r hs.length xs/\H a=some (.tup (xs.map V.int)) ∧
 (refN n r lim hs xs k s p=0->∀ H',Same H H'->Q .non H')/\(∀ j od H',refN n r lim hs xs k s p=j+1->Told H H' od (zx0 (j+1))->E (.ref (clsN t (j+1))) od H')
theorem ok_check_move (T:Txt K mg t):FnOk P w K mg base (CXD P w) 5 t.a_check_move t.d_check_move ["beam","places","weight","taken","put"] (zy6 K t):=by
 have G_check_weight:FnOk P w K mg base (CXD P w) 4 t.a_check_weight t.d_check_weight ["places","weight","taken"] (zv0 K t):=ok_check_weight T
 have G_check_put:FnOk P w K mg base (CXD P w) 4 t.a_check_put t.d_check_put ["beam","places","taken","put"] (zB4 K t):=ok_check_put T
 have G_check_tilts:FnOk P w K mg base (CXD P w) 4 t.a_check_tilts t.d_check_tilts ["beam","held","added"] (zx1 K t):=ok_check_tilts T
 have G_in_hand:FnOk P w K mg base CX0 4 t.a_in_hand t.d_in_hand ["beam","standing","weight"] (zG5 K t):=ok_in_hand T
 refine T.F_check_move.d.okD (CX:=CX0) sc_check_move (fun vs H Q E h=>?_) (fun cdv A outer s H vs Q E hr h=>?_)
 . obtain ⟨b,a,n,r,lim,k,s,p,hs,xs,rfl,B,V0,hT,q,qe⟩:=h
   rfl
 . obtain ⟨b,a,n,r,lim,k,s,p,hs,xs,rfl,B,V0,hT,q,qe⟩:=h
   have hr_check_weight:Room 4 _:=hr.mono (by decide)
   have hr_check_put:Room 4 _:=hr.mono (by decide)
   have hr_check_tilts:Room 4 _:=hr.mono (by decide)
   have hr_in_hand:Room 4 _:=hr.mono (by decide)
   refine⟨_,(za4 (zf4 (zb3 G_check_weight hr_check_weight rfl T.m_check_weight T.k_check_weight T.b_check_weight .nil zq6 (za0 (pv 1) (za0 (pv 2) (za0 (pv 3) za3)))))
     (za4 (zf4 (zb3 G_check_put hr_check_put rfl T.m_check_put T.k_check_put T.b_check_put .nil zq6 (za0 (pv 0) (za0 (pv 1) (za0 (pv 3) (za0 (pv 4) za3))))))
     (za6 (zf4 (zb3 G_check_tilts hr_check_tilts rfl T.m_check_tilts T.k_check_tilts T.b_check_tilts .nil zq6 (za0 (pv 0) (za0 (zb3 G_in_hand hr_in_hand rfl T.m_in_hand T.k_in_hand T.b_in_hand .nil zc2 (za0 (pv 0) (za0 (pv 1) (za0 (pv 2) za3)))) (za0 (za9 zh5 (zd0 zh6 (zg3 (pv 0) rfl) (za9 zf7 (pv 2) za1) (fun _ _=>rfl)) (pv 4)) za3)))))))),?_⟩
   unfold refN at q qe
   refine⟨_,rfl,_,rfl,_,rfl,a,k,s,xs,rfl,hT,fun g1=>?_,fun g1 od H' tl=>qe 0 od H' (by rw[if_pos g1]) tl⟩
   rw[if_neg (fun z=>z g1)] at q
   simp only[if_neg (fun z:¬ zs0 xs k s=>z g1)] at qe
   refine⟨_,rfl,_,rfl,_,rfl,_,rfl,b,a,n,r,lim,s,p,hs,xs,rfl,B,hT,fun g2 g3 g4=>?_,fun g2 od H' tl=>qe 1 od H' (by rw[if_pos g2]) tl,fun g2 g3 od H' tl=>qe 2 od H' (by rw[if_neg g2,if_pos g3]) tl,fun g2 g3 g4 od H' tl=>qe 3 od H' (by rw[if_neg g2,if_neg g3,if_pos g4]) tl⟩
   rw[if_neg g2,if_neg g3,if_neg g4] at q
   simp only[if_neg g2,if_neg g3,if_neg g4] at qe
   obtain ⟨⟨k1,k2⟩,g1⟩:=g1
   have hlen:=V0.len
   have ek:k=(((k-1).toNat:Nat):Int)+1:=by omega
   have hi:(k-1).toNat<xs.length:=by omega
   refine⟨_,rfl,_,rfl,_,rfl,_,rfl,b,a,n,r,lim,k,(k-1).toNat,hs,xs,rfl,B,V0,.inr hT,⟨ek,hi⟩,fun H1 s1=>?_⟩
   obtain ⟨_,dx,h,hb,hh⟩:=B.same s1
   have hm:=B.1.h (hs.getD (k-1).toNat 0) (zw8 (by omega))
   refine⟨_,rfl,b,_,dx,_,_,rfl,hb,T.cl_Beam,T.na_Beam_hefts,zB1 _ _ _ _,_,rfl,_,_,rfl,rfl,h,_,_,_,rfl,rfl,SqT.of hh,zf1 (by omega) (by omega),_,rfl,_,_,rfl,rfl,.inl ⟨by omega,by omega⟩,b,n,r,lim,_,_,hs,rfl,B.same s1,fun g5 g6=>?_,fun g5 od H' tl=>qe 4 od H' (by rw[if_pos g5]) (tl.from s1),fun g5 g6 od H' tl=>qe 5 od H' (by rw[if_neg g5,if_pos g6]) (tl.from s1)⟩
   rw[if_neg g5,if_neg g6] at q
   exact q rfl H1 s1
noncomputable def zN8 (K:PySem.W.Frag) (t:Adr):Sp:=fun vs H Q E=>∃ (b a m:Addr) (n r lim k s p:Int) (hs xs:List Int),vs=[.ref b,.ref a,.ref m]/\zh2 t H b n r hs lim/\zf8 n r hs.length xs/\(SqL K H a (xs.map V.int)\/H a=some (.tup (xs.map V.int)))/\Mv K H m k s p ∧
 (refN n r lim hs xs k s p=0->∀ l H',Same H H'->H' l=some (.tup ((xs.set (k-1).toNat p).map V.int))->Q (.ref l) H')/\(∀ j od H',refN n r lim hs xs k s p=j+1->Told H H' od (zx0 (j+1))->E (.ref (clsN t (j+1))) od H')
theorem ok_moved (T:Txt K mg t):FnOk P w K mg base (CXD P w) 6 t.a_moved t.d_moved ["beam","standing","move"] (zN8 K t):=by
 have G_as_standing:FnOk P w K mg base CX0 2 t.a_as_standing t.d_as_standing ["beam","standing"] (zj4 K t):=zm1 T
 have G_check_move:FnOk P w K mg base (CXD P w) 5 t.a_check_move t.d_check_move ["beam","places","weight","taken","put"] (zy6 K t):=ok_check_move T
 have G_behind:FnOk P w K mg base CX0 1 t.a_behind t.d_behind ["places","move"] (zD3 K t):=zI7 T
 refine T.F_moved.d.okD (CX:=CX0) zM9 (fun vs H Q E h=>?_) (fun cdv A outer s H vs Q E hr h=>?_)
 . obtain ⟨b,a,m,n,r,lim,k,s,p,hs,xs,rfl,B,V0,hS,hM,q,qe⟩:=h
   rfl
 . obtain ⟨b,a,m,n,r,lim,k,s,p,hs,xs,rfl,B,V0,hS,hM,q,qe⟩:=h
   have hr_as_standing:Room 2 _:=hr.mono (by decide)
   have hr_check_move:Room 5 _:=hr.mono (by decide)
   have hr_behind:Room 1 _:=hr.mono (by decide)
   refine⟨_,(za4 (zb6 (i:=3) zM9.nd rfl (Or.inl rfl) (zb3 G_as_standing hr_as_standing rfl T.m_as_standing T.k_as_standing T.b_as_standing .nil zc2 (za0 (pv 0) (za0 (pv 1) za3))))
     (za4 (zf4 (zb3 G_check_move hr_check_move rfl T.m_check_move T.k_check_move T.b_check_move .nil zq6 (za0 (pv 0) (za0 (pv 3) (za0 (zd0 zm6 (pv 2) za1 (fun _ _=>rfl)) (za0 (zd0 zm6 (pv 2) za1 (fun _ _=>rfl)) (za0 (zd0 zm6 (pv 2) za1 (fun _ _=>rfl)) za3)))))))
     (za6 (zc4 (zb3 G_behind hr_behind rfl T.m_behind T.k_behind T.b_behind .nil zc2 (za0 (pv 3) (za0 (pv 2) za3))))))),?_⟩
   refine⟨_,rfl,_,rfl,b,a,n,r,lim,hs,xs,rfl,B,V0,hS,fun l H1 s1 hl=>?_⟩
   have M1:=(hM.same s1).ix
   refine⟨_,rfl,_,rfl,_,rfl,M1.1 _ ⟨_,rfl,M1.2.1 _ ⟨_,rfl,M1.2.2 _ ?_⟩⟩⟩
   refine⟨b,l,n,r,lim,k,s,p,hs,xs,rfl,B.same s1,V0,hl,fun hz H2 s2=>?_,fun j od H' hj tl=>qe j od H' hj (tl.from s1)⟩
   have hg:zs0 xs k s:=Decidable.byContradiction fun z=>by unfold refN at hz;rw[if_pos z] at hz;cases hz
   obtain ⟨⟨k1,k2⟩,_⟩:=hg
   have:=B.1.w
   have:=V0.len
   exact⟨_,rfl,_,rfl,l,m,k,s,p,(k-1).toNat,xs,rfl,s2 _ _ hl,hM.same (s1.trans s2),⟨by omega,by omega,by omega⟩,fun l3 H3 s3 h3=>q hz l3 H3 (s1.trans (s2.trans s3)) h3⟩
/-! ### the places to which a weight may be put;the moves of a standing -/
noncomputable def grid (n:Int) (j:Nat):List Int:=(List.range j).map fun (k:Nat)=>-n+(k:Int)
noncomputable def zx2 (n r:Int) (hs:List Int) (lim:Int) (xs:List Int) (i j:Nat):List Int:=(grid n j).filter fun p=>decide (Lets n r hs lim xs i p)
theorem putsL_len (n r:Int) (hs:List Int) (lim:Int) (xs:List Int) (i j:Nat):(zx2 n r hs lim xs i j).length<=j:=by
 unfold zx2 grid
 refine Nat.le_trans (List.length_filter_le _ _) ?_
 simp
theorem putsL_nil {n r:Int} {hs:List Int} {lim:Int} {xs:List Int} {i:Nat} (j:Nat) (h:¬ absI (zi8 hs xs i)<=lim):zx2 n r hs lim xs i j=[]:=by
 unfold zx2
 rw[List.filter_eq_nil_iff]
 intro p _
 have:¬ Lets n r hs lim xs i p:=fun L=>h L.held
 simp[this]
noncomputable def wide (n:Int):Nat:=(n+1 - -n).toNat
noncomputable def zB5 (n r:Int) (hs:List Int) (lim:Int) (xs:List Int) (i:Nat):List (Nat×Int):=(List.range i).flatMap fun k=>(zx2 n r hs lim xs k (wide n)).map fun p=>(k,p)
theorem zG6 (n r:Int) (hs:List Int) (lim:Int) (xs:List Int) (i:Nat):zB5 n r hs lim xs (i+1)=zB5 n r hs lim xs i++(zx2 n r hs lim xs i (wide n)).map fun p=>(i,p):=by
 unfold zB5
 rw[List.range_succ,List.flatMap_append]
 simp
theorem zI9 (n r:Int) (hs:List Int) (lim:Int) (xs:List Int):∀ i,(zB5 n r hs lim xs i).length<=i*wide n
 | 0=>by simp[zB5]
 | i+1=>by
   rw[zG6,List.length_append,List.length_map,Nat.succ_mul]
   have:=zI9 n r hs lim xs i
   have:=putsL_len n r hs lim xs i (wide n)
   omega
end
end Bt
namespace Bt
open PySem L2
section
variable {P:Program} {w:World} {K:PySem.W.Frag} {mg:Str->Option Value} {base:Heap} {t:Adr}
/-! ### a play -/
noncomputable def zh3 (b s x m:Addr):List (Str×V):=[("beam",.ref b),("start",.ref s),("standing",.ref x),("made",.ref m)]
theorem zT5:¬ ("beam" : Str) = "start":=by decide +kernel
theorem zO6:¬ ("beam" : Str) = "standing":=by decide +kernel
theorem zO7:¬ ("start" : Str) = "standing":=by decide +kernel
theorem zT6:¬ ("beam" : Str) = "made":=by decide +kernel
theorem zT7:¬ ("start" : Str) = "made":=by decide +kernel
theorem zT8:¬ ("standing" : Str) = "made":=by decide +kernel
theorem pfN {f:Str} {v:V}:putF f v []=[(f,v)]:=rfl
theorem pfC {f g:Str} {v x:V} {l:List (Str×V)} (h:¬ g=f):putF f v ((g,x)::l)=(g,x)::putF f v l:=if_neg h
theorem pfE {f:Str} {v x:V} {l:List (Str×V)}:putF f v ((f,x)::l)=(f,v)::l:=if_pos rfl
theorem zJ0 (b s x m:Addr):putF "made" (.ref m) (putF "standing" (.ref x) (putF "start" (.ref s) (putF "beam" (.ref b) [])))=zh3 b s x m:=by
 rw[pfN,pfC zT5,pfN,pfC zO6,pfC zO7,pfN,pfC zT6,pfC zT7,pfC zT8,pfN]
 rfl
theorem zT9 (b s x x' m:Addr):putF "standing" (.ref x') (zh3 b s x m)=zh3 b s x' m:=by
 unfold zh3
 rw[pfC zO6,pfC zO7,pfE]
theorem pf_beam (b s x m:Addr):(zh3 b s x m).lookup ("beam" : Str)=some (.ref b):=by rw[<-zJ0,zc1,if_neg zT6,zc1,if_neg zO6,zc1,if_neg zT5,zc1,if_pos rfl]
theorem pf_start (b s x m:Addr):(zh3 b s x m).lookup ("start" : Str)=some (.ref s):=by rw[<-zJ0,zc1,if_neg zT7,zc1,if_neg zO7,zc1,if_pos rfl]
theorem zn8 (b s x m:Addr):(zh3 b s x m).lookup ("standing" : Str)=some (.ref x):=by rw[<-zJ0,zc1,if_neg zT8,zc1,if_pos rfl]
theorem zB6 (b s x m:Addr):(zh3 b s x m).lookup ("made" : Str)=some (.ref m):=by rw[<-zJ0,zc1,if_pos rfl]
theorem zU0 (b s x m:Addr) (f:Str) (h1:¬ f = "made") (h2:¬ f = "standing") (h3:¬ f = "start") (h4:¬ f = "beam"):(zh3 b s x m).lookup f=none:=by rw[<-zJ0,zc1,if_neg h1,zc1,if_neg h2,zc1,if_neg h3,zc1,if_neg h4];rfl
theorem pf_move (b s x m:Addr):(zh3 b s x m).lookup ("move" : Str)=none:=zU0 _ _ _ _ _ (by decide +kernel) (by decide +kernel) (by decide +kernel) (by decide +kernel)
theorem pf_back (b s x m:Addr):(zh3 b s x m).lookup ("back" : Str)=none:=zU0 _ _ _ _ _ (by decide +kernel) (by decide +kernel) (by decide +kernel) (by decide +kernel)
theorem pf_trail (b s x m:Addr):(zh3 b s x m).lookup ("trail" : Str)=none:=zU0 _ _ _ _ _ (by decide +kernel) (by decide +kernel) (by decide +kernel) (by decide +kernel)
theorem zU1 (b s x m:Addr):(zh3 b s x m).length<1000:=by show 4<1000;decide
noncomputable def zg6 (p m:Addr) (H H':Hp):Prop:=∀ b o,H b=some o->b≠p->b≠m->H' b=some o
theorem zg6.tup {p m:Addr} {H H':Hp} (s:zg6 p m H H') (hp:∃ C dx fs,H p=some (.ins C dx fs)) (hm:∃ ys,H m=some (.lst ys)) {a:Addr} {vs:List V} (h:H a=some (.tup vs)):H' a=some (.tup vs) :=
 s a _ h (fun z=>by obtain ⟨C,dx,fs,e⟩:=hp;rw[z,e] at h;cases h) (fun z=>by obtain ⟨ys,e⟩:=hm;rw[z,e] at h;cases h)
theorem zg6.tups {p m:Addr} {H H':Hp} (s:zg6 p m H H') (hp:∃ C dx fs,H p=some (.ins C dx fs)) (hm:∃ ys,H m=some (.lst ys)) {ys:List V} {ks:List (List Int)} (h:Tups H ys ks):Tups H' ys ks:=Paired.mapP h fun y k ⟨b,e,hb⟩=>⟨b,e,s.tup hp hm hb⟩
structure zg4 (t:Adr) (H:Hp) (p b s x m:Addr) (n r:Int) (hs:List Int) (lim:Int) (a c:List Int) (ys:List V) (ms:List (List Int)):Prop where
 bm:zh2 t H b n r hs lim
 nb:b≠p
 hp:∃ dx,H p=some (.ins t.c_Play dx (zh3 b s x m))
 hs:H s=some (.tup (a.map V.int))
 hx:H x=some (.tup (c.map V.int))
 hm:H m=some (.lst ys)
 tm:Tups H ys ms
theorem zh2.same2 {t:Adr} {H H':Hp} {b p m:Addr} {n r lim:Int} {hs:List Int} (B:zh2 t H b n r hs lim) (s:zg6 p m H H') (nb:b≠p) (hp:∃ C dx fs,H p=some (.ins C dx fs)) (hm:∃ ys,H m=some (.lst ys)):zh2 t H' b n r hs lim:=by
 obtain ⟨ok,dx,h,hb,hh⟩:=B
 exact⟨ok,dx,h,s b _ hb nb (fun z=>by obtain ⟨ys,e⟩:=hm;rw[z,e] at hb;cases hb),s.tup hp hm hh⟩
theorem zg4.same {t:Adr} {H H':Hp} {p b s x m:Addr} {n r lim:Int} {hs a c:List Int} {ys:List V} {ms:List (List Int)} (h:zg4 t H p b s x m n r hs lim a c ys ms) (e:Same H H'):zg4 t H' p b s x m n r hs lim a c ys ms :=
 ⟨h.bm.same e,h.nb,let ⟨dx,z⟩:=h.hp;⟨dx,e _ _ z⟩,e _ _ h.hs,e _ _ h.hx,e _ _ h.hm,e.tups h.tm⟩
theorem zg4.ip {t:Adr} {H:Hp} {p b s x m:Addr} {n r lim:Int} {hs a c:List Int} {ys:List V} {ms:List (List Int)} (h:zg4 t H p b s x m n r hs lim a c ys ms):∃ C dx fs,H p=some (.ins C dx fs):=let ⟨dx,z⟩:=h.hp;⟨_,dx,_,z⟩
theorem Same.two {H H':Hp} (s:Same H H') (p m:Addr):zg6 p m H H':=fun b o e _ _=>s b o e
theorem zg6.trans {p m:Addr} {H H1 H2:Hp} (s:zg6 p m H H1) (s':zg6 p m H1 H2):zg6 p m H H2:=fun b o e h1 h2=>s' b o (s b o e h1 h2) h1 h2
theorem zg6.updP {p m:Addr} {H H1:Hp} {o:HO} (s:zg6 p m H H1):zg6 p m H (upd H1 p o):=fun b u e h1 h2=>by rw[za7 h1];exact s b u e h1 h2
theorem zg6.updM {p m:Addr} {H H1:Hp} {o:HO} (s:zg6 p m H H1):zg6 p m H (upd H1 m o):=fun b u e h1 h2=>by rw[za7 h2];exact s b u e h1 h2
noncomputable def zB7 (K:PySem.W.Frag) (t:Adr):Sp:=fun vs H Q _=>∃ (p b a dx:Addr) (n r lim:Int) (hs xs:List Int),vs=[.ref p,.ref b,.ref a]/\H p=some (.ins t.c_Play dx [])/\b≠p/\zh2 t H b n r hs lim/\zf8 n r hs.length xs/\(SqL K H a (xs.map V.int)\/H a=some (.tup (xs.map V.int)))/\absI (zc8 hs xs)<=lim ∧
 ∀ H' s m,zt0 p H H'->H m=none->zg4 t H' p b s s m n r hs lim xs xs [] []->Q .non H'
theorem ok_Play_init (T:Txt K mg t):FnOk P w K mg base CX0 5 t.a_Play_init t.d_Play_init ["self","beam","start"] (zB7 K t):=by
 have G_as_standing:FnOk P w K mg base CX0 2 t.a_as_standing t.d_as_standing ["beam","standing"] (zj4 K t):=zm1 T
 have G_keeps:FnOk P w K mg base CX0 4 t.a_keeps t.d_keeps ["beam","standing"] (zN5 K t):=ok_keeps T
 refine T.F_Play_init.ok zA6 (fun vs H Q E h=>?_) (fun cdv A outer s H vs Q E hr h=>?_)
 . obtain ⟨p,b,a,dx,n,r,lim,hs,xs,rfl,hp,nb,B,V0,hS,k0,q⟩:=h
   rfl
 . obtain ⟨p,b,a,dx,n,r,lim,hs,xs,rfl,hp,nb,B,V0,hS,k0,q⟩:=h
   have hr_as_standing:Room 2 _:=hr.mono (by decide)
   have hr_keeps:Room 4 _:=hr.mono (by decide)
   refine⟨_,(za4 (zb6 (i:=3) zA6.nd rfl (Or.inl rfl) (zb3 G_as_standing hr_as_standing rfl T.m_as_standing T.k_as_standing T.b_as_standing .nil zc2 (za0 (pv 1) (za0 (pv 2) za3))))
     (za4 (zd2 (zs2 (zg1 (zb3 G_keeps hr_keeps rfl T.m_keeps T.k_keeps T.b_keeps .nil zc2 (za0 (pv 1) (za0 (pv 3) za3))))) (za6 zj1) zb8)
     (za4 (zs4 (pv 0) (pv 1) rfl)
     (za4 (zs4 (pv 0) (pv 3) rfl)
     (za4 (zs4 (pv 0) (pv 3) rfl)
     (za6 (zs4 (pv 0) (ze1 za3) rfl))))))),?_⟩
   refine⟨_,rfl,_,rfl,b,a,n,r,lim,hs,xs,rfl,B,V0,hS,fun l H1 s1 hl=>?_⟩
   refine⟨_,rfl,_,rfl,b,l,n,r,lim,hs,xs,rfl,B.same s1,V0,.inr hl,fun H2 s2=>⟨_,rfl,?_⟩⟩
   rw[decide_eq_true k0]
   refine iteF ?_
   have s02:=s1.trans s2
   have hl2:=s2 _ _ hl
   have nl:l≠p:=fun z=>by rw[z,s02 _ _ hp] at hl2;cases hl2
   refine⟨_,rfl,_,rfl,p,_,dx,_,rfl,s02 _ _ hp,T.cl_Play,T.na_Play_beam,by decide,?_⟩
   refine⟨_,rfl,_,rfl,p,_,dx,_,rfl,za2,T.cl_Play,T.na_Play_start,zv7 fl0,?_⟩
   refine⟨_,rfl,_,rfl,p,_,dx,_,rfl,za2,T.cl_Play,T.na_Play_standing,zv7 (flS fl0),?_⟩
   rw[zk7,zk7]
   refine⟨Nat.zero_le _,fun m fm=>?_⟩
   have nm:m≠p:=fun z=>by rw[z,za2] at fm;cases fm
   refine⟨_,rfl,p,_,dx,_,rfl,by rw[za7 nm.symm];exact za2,T.cl_Play,T.na_Play_made,zv7 (flS (flS fl0)),?_⟩
   rw[zJ0]
   rw[za7 nm] at fm
   have s3:zt0 p H (upd (upd (upd H2 p (.ins t.c_Play dx (putF "standing" (.ref l) (putF "start" (.ref l) (putF "beam" (.ref b) []))))) m (.lst [])) p (.ins t.c_Play dx (zh3 b l l m))):=fun c o e hc=>by
     rw[za7 hc,za7 (zb0 (s02 _ _ e) fm),za7 hc]
     exact s02 _ _ e
   have hl3:(upd (upd (upd H2 p (.ins t.c_Play dx (putF "standing" (.ref l) (putF "start" (.ref l) (putF "beam" (.ref b) []))))) m (.lst [])) p (.ins t.c_Play dx (zh3 b l l m))) l=some (.tup (xs.map V.int)):=by
     rw[za7 nl,za7 (zb0 hl2 fm),za7 nl]
     exact hl2
   refine q _ l m s3 (s02.free fm) ⟨?_,nb,⟨dx,za2⟩,hl3,hl3,by rw[za7 nm];exact za2,.nil⟩
   obtain ⟨ok,dx',h,hb,hh⟩:=B
   exact⟨ok,dx',h,s3 _ _ hb nb,s3 _ _ hh (fun z=>by rw[z,hp] at hh;cases hh)⟩
noncomputable def zy7 (K:PySem.W.Frag) (t:Adr):Sp:=fun vs H Q _=>∃ (p b s x m:Addr) (n r lim:Int) (hs a c:List Int) (ys:List V) (ms:List (List Int)),vs=[.ref p]/\zg4 t H p b s x m n r hs lim a c ys ms/\∀ l,H l=none->Q (.ref l) (upd H l (.lst ys))
theorem ok_Play_trail (T:Txt K mg t):FnOk P w K mg base CX0 1 t.a_Play_trail t.d_Play_trail ["self"] (zy7 K t):=by
 refine T.F_Play_trail.ok sc_Play_trail (fun vs H Q E h=>?_) (fun cdv A outer s H vs Q E hr h=>?_)
 . obtain ⟨p,b,s,x,m,n,r,lim,hs,a,c,ys,ms,rfl,P0,q⟩:=h
   rfl
 . obtain ⟨p,b,s,x,m,n,r,lim,hs,a,c,ys,ms,rfl,P0,q⟩:=h
   refine⟨_,(za6 (zc4 (zj5 zo4 rfl T.n_list PyProof.Rows.boot_list (za0 (zg3 (pv 0) rfl) za3)))),?_⟩
   obtain ⟨dx,hp⟩:=P0.hp
   exact⟨_,rfl,p,_,dx,_,_,rfl,hp,T.cl_Play,T.na_Play_made,zB6 _ _ _ _,m,_,rfl,.inl (SqL.of P0.hm),fun l fl=>q l fl⟩
noncomputable def zB8 (K:PySem.W.Frag) (t:Adr):Sp:=fun vs H Q E=>∃ (p mv b s x m:Addr) (n r lim k u qq:Int) (hs a c:List Int) (ys:List V) (ms:List (List Int)),vs=[.ref p,.ref mv]/\zg4 t H p b s x m n r hs lim a c ys ms/\zf8 n r hs.length c/\H mv=some (.tup [.int k,.int u,.int qq])/\ys.length<300 ∧
 (refN n r lim hs c k u qq=0->∀ x' tv H',zg6 p m H H'->zg4 t H' p b s x' m n r hs lim a (c.set (k-1).toNat qq) (ys++[.ref tv]) (ms++[[k,u,qq]])->Q (.ref x') H')/\(∀ j od H',refN n r lim hs c k u qq=j+1->Told H H' od (zx0 (j+1))->E (.ref (clsN t (j+1))) od H')
theorem ok_Play_move (T:Txt K mg t):FnOk P w K mg base (CXD P w) 7 t.a_Play_move t.d_Play_move ["self","move"] (zB8 K t):=by
 have G_moved:FnOk P w K mg base (CXD P w) 6 t.a_moved t.d_moved ["beam","standing","move"] (zN8 K t):=ok_moved T
 have G_PlayFull_init:FnOk P w K mg base CX0 2 t.a_PlayFull_init t.d_PlayFull_init ["self","reason"] (zu3 K t):=ok_PlayFull_init T
 refine T.F_Play_move.d.okD (CX:=CX0) sc_Play_move (fun vs H Q E h=>?_) (fun cdv A outer s H vs Q E hr h=>?_)
 . obtain ⟨p,mv,b,s,x,m,n,r,lim,k,u,qq,hs,a,c,ys,ms,rfl,P0,V0,hM,hy,q,qe⟩:=h
   rfl
 . obtain ⟨p,mv,b,s,x,m,n,r,lim,k,u,qq,hs,a,c,ys,ms,rfl,P0,V0,hM,hy,q,qe⟩:=h
   have hr_moved:Room 6 _:=hr.mono (by decide)
   have hr_PlayFull:Room 3 _:=hr.mono (by decide)
   refine⟨_,(za4 (zd2 (zb5 zM2 (zb2 zb9 rfl T.n_len PySem.boot_len (za0 (zg3 (pv 0) rfl) za3)) (zh4 (v:=.int 300) rfl T.g_MOST_MOVES ⟨_,rfl⟩) (zb7 _)) (za6 (zj6 zh7 rfl T.x_PlayFull T.i_PlayFull T.if_PlayFull G_PlayFull_init hr_PlayFull rfl T.m_PlayFull T.b_PlayFull_init .nil zc2 (za0 ze0 za3))) zb8)
     (za4 (zs4 (pv 0) (zb3 G_moved hr_moved rfl T.m_moved T.k_moved T.b_moved .nil zq6 (za0 (zg3 (pv 0) rfl) (za0 (zg3 (pv 0) rfl) (za0 (pv 1) za3)))) rfl)
     (za4 (zf4 (zz8 PySem.F.plainAttrs_list PySem.F.slot_list_append PySem.F.type_list_append zm7 (zg3 (pv 0) rfl) (za0 (zj5 zk6 rfl T.n_tuple PyProof.Rows.boot_tuple (za0 (pv 1) za3)) za3)))
     (za6 (zc4 (zg3 (pv 0) rfl)))))),?_⟩
   obtain ⟨dx,hp⟩:=P0.hp
   refine⟨_,rfl,p,_,dx,_,_,rfl,hp,T.cl_Play,T.na_Play_made,zB6 _ _ _ _,m,_,rfl,.inl (SqL.of P0.hm),_,_,rfl,rfl,_,rfl,iteB (decide_eq_false (by omega)) ?_⟩
   refine⟨_,rfl,p,_,dx,_,_,rfl,hp,T.cl_Play,T.na_Play_beam,pf_beam _ _ _ _,_,rfl,p,_,dx,_,_,rfl,hp,T.cl_Play,T.na_Play_standing,zn8 _ _ _ _,_,rfl,b,x,mv,n,r,lim,k,u,qq,hs,c,rfl,P0.bm,V0,.inr P0.hx,.inr (SqT.of hM),fun hz x' H1 s1 hx'=>?_,qe⟩
   have P1:=P0.same s1
   have hp1:=s1 _ _ hp
   refine⟨_,rfl,p,_,dx,_,rfl,hp1,T.cl_Play,T.na_Play_standing,zU1 _ _ _ _,?_⟩
   rw[zT9]
   have s2:zg6 p m H1 (upd H1 p (.ins t.c_Play dx (zh3 b s x' m))):=(Same.two (Same.refl H1) p m).updP
   have hp2:(upd H1 p (.ins t.c_Play dx (zh3 b s x' m))) p=some (.ins t.c_Play dx (zh3 b s x' m)):=za2
   have nmp:m≠p:=fun z=>by have:=P1.hm;rw[z,hp1] at this;cases this
   have hm2:(upd H1 p (.ins t.c_Play dx (zh3 b s x' m))) m=some (.lst ys):=by rw[za7 nmp];exact P1.hm
   have P2:zg4 t (upd H1 p (.ins t.c_Play dx (zh3 b s x' m))) p b s x' m n r hs lim a (c.set (k-1).toNat qq) ys ms:=⟨P1.bm.same2 s2 P1.nb P1.ip ⟨_,P1.hm⟩,P1.nb,⟨dx,hp2⟩,s2.tup P1.ip ⟨_,P1.hm⟩ P1.hs,s2.tup P1.ip ⟨_,P1.hm⟩ hx',hm2,s2.tups P1.ip ⟨_,P1.hm⟩ P1.tm⟩
   have hM1:=s1 _ _ hM
   have hM2:(upd H1 p (.ins t.c_Play dx (zh3 b s x' m))) mv=some (.tup [.int k,.int u,.int qq]):=by
     rw[za7 (fun z=>by rw[z,hp1] at hM1;cases hM1)]
     exact hM1
   have s02:zg6 p m H (upd H1 p (.ins t.c_Play dx (zh3 b s x' m))):=(Same.two s1 p m).trans s2
   revert P2 hp2 hm2 hM2 s02
   generalize upd H1 p (.ins t.c_Play dx (zh3 b s x' m))=H2
   intro hp2 hm2 P2 hM2 s02
   have fin:∀ (tv:Addr) (H3:Hp),Same H2 H3->H3 tv=some (.tup [.int k,.int u,.int qq])->zg4 t (upd H3 m (.lst (ys++[.ref tv]))) p b s x' m n r hs lim a (c.set (k-1).toNat qq) (ys++[.ref tv]) (ms++[[k,u,qq]])/\zg6 p m H (upd H3 m (.lst (ys++[.ref tv]))):=fun tv H3 s3 h3=>by
     have P3:=P2.same s3
     have s4:zg6 p m H3 (upd H3 m (.lst (ys++[.ref tv]))):=(Same.two (Same.refl H3) p m).updM
     have ip:=P3.ip
     have im:∃ ys,H3 m=some (.lst ys):=⟨_,P3.hm⟩
     exact⟨⟨P3.bm.same2 s4 P3.nb ip im,P3.nb,⟨dx,by rw[za7 nmp.symm];exact s3 _ _ hp2⟩,s4.tup ip im P3.hs,s4.tup ip im P3.hx,za2,zx6 (s4.tups ip im P3.tm) (s4.tup ip im h3)⟩,(s02.trans (Same.two s3 p m)).trans s4⟩
   refine⟨_,rfl,p,_,dx,_,_,rfl,hp2,T.cl_Play,T.na_Play_made,zB6 _ _ _ _,.inl ⟨rfl,_,SqL.of hm2⟩,_,rfl,mv,[.int k,.int u,.int qq],rfl,?_⟩
   refine .inr ⟨SqT.of hM2,m,_,_,rfl,rfl,hm2,zc9 (by omega),?_⟩
   obtain ⟨P4,s4⟩:=fin mv _ (Same.refl _) hM2
   obtain ⟨dx4,hp4⟩:=P4.hp
   exact⟨_,rfl,p,_,dx4,_,_,rfl,hp4,T.cl_Play,T.na_Play_standing,zn8 _ _ _ _,q hz x' mv _ s4 P4⟩
noncomputable def zB9 (K:PySem.W.Frag) (t:Adr):Sp:=fun vs H Q E=>∃ (p b s x m:Addr) (n r lim:Int) (hs a c:List Int) (ys:List V) (ms:List (List Int)),vs=[.ref p]/\zg4 t H p b s x m n r hs lim a c ys ms/\c.length<=5/\ys.length<=300 ∧
 (ys=[]->∀ od H',Told H H' od "nothing back"->E (.ref t.c_NothingBack) od H') ∧
 (ys≠[]->∃ (ys0:List V) (ms0:List (List Int)) (tv:Addr) (i:Nat) (u v:Int),ys=ys0++[.ref tv]/\ms=ms0++[[(i:Int)+1,u,v]]/\H tv=some (.tup [.int ((i:Int)+1),.int u,.int v])/\i<c.length/\∀ x' H',zg6 p m H H'->zg4 t H' p b s x' m n r hs lim a (c.set i u) ys0 ms0->Q (.ref tv) H')
theorem ok_Play_back (T:Txt K mg t):FnOk P w K mg base (CXD P w) 4 t.a_Play_back t.d_Play_back ["self"] (zB9 K t):=by
 have G_behind:FnOk P w K mg base CX0 1 t.a_behind t.d_behind ["places","move"] (zD3 K t):=zI7 T
 have G_NothingBack_init:FnOk P w K mg base CX0 2 t.a_NothingBack_init t.d_NothingBack_init ["self","reason"] (zo1 K t):=ok_NothingBack_init T
 have G_turned:FnOk P w K mg base CX0 1 t.a_turned t.d_turned ["move"] (zI8 K t):=ok_turned T
 refine T.F_Play_back.d.okD (CX:=CX0) zA7 (fun vs H Q E h=>?_) (fun cdv A outer s H vs Q E hr h=>?_)
 . obtain ⟨p,b,s,x,m,n,r,lim,hs,a,c,ys,ms,rfl,P0,hc5,hy3,qe,q⟩:=h
   rfl
 . obtain ⟨p,b,s,x,m,n,r,lim,hs,a,c,ys,ms,rfl,P0,hc5,hy3,qe,q⟩:=h
   have hr_behind:Room 1 _:=hr.mono (by decide)
   have hr_NothingBack:Room 3 _:=hr.mono (by decide)
   have hr_turned:Room 1 _:=hr.mono (by decide)
   refine⟨_,(za4 (zd2 (zb5 zi1 (zb2 zb9 rfl T.n_len PySem.boot_len (za0 (zg3 (pv 0) rfl) za3)) za1 (zb7 _)) (za6 (zj6 zh7 rfl T.x_NothingBack T.i_NothingBack T.if_NothingBack G_NothingBack_init hr_NothingBack rfl T.m_NothingBack T.b_NothingBack_init .nil zc2 (za0 ze0 za3))) zb8)
     (za4 (zb6 (i:=1) zA7.nd rfl (Or.inl rfl) (zS6 PySem.F.plainAttrs_list PySem.F.slot_list_pop PySem.F.type_list_pop zS7 (zg3 (pv 0) rfl)))
     (za4 (zs4 (pv 0) (zb3 G_behind hr_behind rfl T.m_behind T.k_behind T.b_behind .nil zc2 (za0 (zg3 (pv 0) rfl) (za0 (zb3 G_turned hr_turned rfl T.m_turned T.k_turned T.b_turned .nil zc2 (za0 (pv 1) za3)) za3))) rfl)
     (za6 (zc4 (pv 1)))))),?_⟩
   obtain ⟨dx,hp⟩:=P0.hp
   refine⟨_,rfl,p,_,dx,_,_,rfl,hp,T.cl_Play,T.na_Play_made,zB6 _ _ _ _,m,_,rfl,.inl (SqL.of P0.hm),rfl,_,rfl,?_⟩
   rw[ze7]
   refine ite2 (fun h1=>?_) (fun h1=>?_)
   . have hy:ys=[]:=List.eq_nil_of_length_eq_zero (by simpa using h1)
     exact⟨(by show 1<=sizeLine;decide),fun y fy=>⟨y,_,rfl,za2,fun H' dx hx hd sx=>⟨rfl,some dx,hx,qe hy _ _ (zr9 (Same.refl _) fy hx hd sx)⟩⟩⟩
   . have hy:ys≠[]:=fun z=>h1 (by rw[z];rfl)
     obtain ⟨ys0,ms0,tv,i,u,v,rfl,rfl,htv,hi,q⟩:=q hy
     have hm:=P0.hm
     have nmp:m≠p:=fun z=>by rw[z,hp] at hm;cases hm
     have hl:(ys0++[V.ref tv])[(ys0++[V.ref tv]).length-1]?=some (.ref tv):=by rw[List.length_append];simp
     refine⟨_,rfl,p,_,dx,_,_,rfl,hp,T.cl_Play,T.na_Play_made,zB6 _ _ _ _,.inl ⟨rfl,_,SqL.of hm⟩,m,_,_,rfl,rfl,hm,hl,?_⟩
     rw[List.dropLast_concat]
     have s1:zg6 p m H (upd H m (.lst ys0)):=(Same.two (Same.refl H) p m).updM
     have ip:=P0.ip
     have im:∃ ys,H m=some (.lst ys):=⟨_,hm⟩
     have hp1:(upd H m (.lst ys0)) p=some (.ins t.c_Play dx (zh3 b s x m)):=by rw[za7 nmp.symm];exact hp
     have hm1:(upd H m (.lst ys0)) m=some (.lst ys0):=za2
     have tm0:Tups H ys0 ms0:=by
       have key:∀ {ys:List V} {ks:List (List Int)} {y:V} {k:List Int},Tups H (ys++[y]) (ks++[k])->Tups H ys ks:=by
         intro ys
         induction ys with
         | nil =>
           intro ks y k h
           cases ks with
           | nil=>exact .nil
           | cons k' ks=>have:=zm0 h;simp at this
         | cons y' ys ih =>
           intro ks y k h
           cases ks with
           | nil=>have:=zm0 h;simp at this
           | cons k' ks=>cases h with | cons a t=>exact .cons a (ih t)
       exact key P0.tm
     have P1:zg4 t (upd H m (.lst ys0)) p b s x m n r hs lim a c ys0 ms0:=⟨P0.bm.same2 s1 P0.nb ip im,P0.nb,⟨dx,hp1⟩,s1.tup ip im P0.hs,s1.tup ip im P0.hx,hm1,s1.tups ip im tm0⟩
     have htv1:=s1.tup ip im htv
     revert s1 hp1 hm1 P1 htv1
     generalize upd H m (.lst ys0)=H1
     intro s1 hp1 hm1 P1 htv1
     refine⟨_,rfl,p,_,dx,_,_,rfl,hp1,T.cl_Play,T.na_Play_standing,zn8 _ _ _ _,_,rfl,tv,(i:Int)+1,u,v,rfl,.inr (SqT.of htv1),fun l2 f2=>?_⟩
     have s2:Same H1 (upd H1 l2 (.tup [.int ((i:Int)+1),.int v,.int u])):=Same.upd f2
     have h2:(upd H1 l2 (.tup [.int ((i:Int)+1),.int v,.int u])) l2=some (.tup [.int ((i:Int)+1),.int v,.int u]):=za2
     revert s2 h2
     generalize upd H1 l2 (.tup [.int ((i:Int)+1),.int v,.int u])=H2
     intro s2 h2
     refine⟨x,l2,(i:Int)+1,v,u,i,c,rfl,s2 _ _ P1.hx,.inr (SqT.of h2),⟨rfl,hi,by omega⟩,fun x' H3 s3 hx3=>?_⟩
     have s13:=s2.trans s3
     have P3:=P1.same s13
     have hp3:=s13 _ _ hp1
     refine⟨_,rfl,p,_,dx,_,rfl,hp3,T.cl_Play,T.na_Play_standing,zU1 _ _ _ _,?_⟩
     rw[zT9]
     have s4:zg6 p m H3 (upd H3 p (.ins t.c_Play dx (zh3 b s x' m))):=(Same.two (Same.refl H3) p m).updP
     have ip3:=P3.ip
     have im3:∃ ys,H3 m=some (.lst ys):=⟨_,P3.hm⟩
     exact⟨_,rfl,q x' _ ((s1.trans (Same.two s13 p m)).trans s4) ⟨P3.bm.same2 s4 P3.nb ip3 im3,P3.nb,⟨dx,za2⟩,s4.tup ip3 im3 P3.hs,s4.tup ip3 im3 hx3,by rw[za7 nmp];exact P3.hm,s4.tups ip3 im3 P3.tm⟩⟩
end
end Bt
namespace Bt
open PySem L2
section
variable {P:Program} {w:World} {K:PySem.W.Frag} {mg:Str->Option Value} {base:Heap} {t:Adr}
/-! ### standings,and how far they are -/
noncomputable def nbs (n r:Int) (hs:List Int) (lim:Int) (x:List Int):List (List Int):=(zB5 n r hs lim x x.length).map fun m=>x.set m.1 m.2
theorem zJ1 {n r:Int} {hs:List Int} {lim:Int} {x:List Int} {i:Nat} {p:Int}:p∈zx2 n r hs lim x i (wide n)↔Lets n r hs lim x i p:=by
 unfold zx2 grid
 rw[List.mem_filter,decide_eq_true_eq]
 refine⟨fun h=>h.2,fun h=>⟨?_,h⟩⟩
 have:=h.on
 rw[List.mem_map]
 exact⟨(p+n).toNat,List.mem_range.mpr (by unfold wide;omega),by omega⟩
theorem zJ2 {n r:Int} {hs:List Int} {lim:Int} {x:List Int} {k:Nat} {m:Nat×Int}:m∈zB5 n r hs lim x k↔m.1<k/\Lets n r hs lim x m.1 m.2:=by
 unfold zB5
 rw[List.mem_flatMap]
 constructor
 . rintro⟨i,hi,hm⟩
   obtain ⟨p,hp,rfl⟩:=List.mem_map.mp hm
   exact⟨List.mem_range.mp hi,zJ1.mp hp⟩
 . rintro⟨hi,L⟩
   exact⟨m.1,List.mem_range.mpr hi,List.mem_map.mpr ⟨m.2,zJ1.mpr L,rfl⟩⟩
theorem mem_nbs {n r:Int} {hs:List Int} {lim:Int} {x y:List Int}:y∈nbs n r hs lim x↔∃ i p,Lets n r hs lim x i p/\y=x.set i p:=by
 unfold nbs
 rw[List.mem_map]
 constructor
 . rintro⟨m,hm,rfl⟩
   exact⟨m.1,m.2,(zJ2.mp hm).2,rfl⟩
 . rintro⟨i,p,L,rfl⟩
   exact⟨(i,p),zJ2.mpr ⟨L.lt,L⟩,rfl⟩
section
variable {n r:Int} {hs:List Int} {lim:Int} {s:List Int}
end
/-! ### not too many -/
/-! ### a way -/
/-! ### dicts by standings -/
end
end Bt
namespace Bt
open PySem L2
section
variable {P:Program} {w:World} {K:PySem.W.Frag} {mg:Str->Option Value} {base:Heap} {t:Adr}
theorem zC0 (T:Txt K mg t):FnOk P w K mg base CX0 1 t.a_w_at t.d_w_at ["_law_script","_law_k"] (zy2 K t):=by
 refine T.F_w_at.ok sc_w_at (fun vs H Q E h=>?_) (fun cdv A outer s H vs Q E hr h=>?_)
 . obtain ⟨a,ns,k,rfl,hS,q⟩:=h
   rfl
 . obtain ⟨a,ns,k,rfl,hS,q⟩:=h
   refine⟨_,(za4 (zd2 (zb5 zM1 (pv 1) (zb2 zb9 rfl T.n_len PySem.boot_len (za0 (pv 0) za3)) (zb7 _)) (za6 (zc4 (zd0 zd5 (pv 0) (pv 1) (fun _ _=>rfl)))) zb8)
     (za6 (zc4 za1))),?_⟩
   refine⟨_,rfl,_,rfl,a,_,rfl,.inl hS,_,_,rfl,rfl,_,rfl,?_⟩
   rw[List.length_map]
   refine ite2 (fun h1=>?_) (fun h1=>?_)
   . have hk:k<ns.length:=by have:=of_decide_eq_true h1;omega
     have e:ns.getD k 0=ns[k]:=by simp[hk]
     rw[e] at q
     exact⟨_,rfl,_,rfl,a,_,_,_,rfl,rfl,hS,zE6 (by simp[hk]),q⟩
   . have hk:¬ k<ns.length:=fun z=>h1 (decide_eq_true (by omega))
     have e:ns.getD k 0=0:=by simp[hk]
     rw[e] at q
     exact q
theorem ok_w_whole (T:Txt K mg t):FnOk P w K mg base CX0 1 t.a_w_whole t.d_w_whole ["_law_found"] (zG3 K t):=by
 refine T.F_w_whole.ok sc_w_whole (fun vs H Q E h=>?_) (fun cdv A outer s H vs Q E hr h=>?_)
 . obtain ⟨i,rfl,q⟩:=h
   rfl
 . obtain ⟨i,rfl,q⟩:=h
   refine⟨_,(za6 (zc4 (zF2 (zb2 zq0 rfl T.n_isinstance PyProof.Rows.boot_isinstance (za0 (pv 0) (za0 (zr2 (v:=.ty "int") rfl T.n_int PyProof.Rows.boot_int rfl) za3))) (zC2 (zO1 (zb2 zq0 rfl T.n_isinstance PyProof.Rows.boot_isinstance (za0 (pv 0) (za0 (zr2 (v:=.ty "bool") rfl T.n_bool PyProof.Rows.boot_bool rfl) za3)))))))),?_⟩
   refine⟨_,rfl,_,_,_,_,_,rfl,.ty _,.int _,rfl,_,rfl,iteT ?_⟩
   exact⟨_,rfl,_,_,_,_,_,rfl,.ty _,.int _,rfl,_,rfl,q⟩
theorem zJ3 (T:Txt K mg t):FnOk P w K mg base CX0 1 t.a_w_figs t.d_w_figs ["_law_cell","_law_count","_law_base","_law_mix"] (zD1 K t):=by
 refine T.F_w_figs.ok zm9 (fun vs H Q E h=>?_) (fun cdv A outer s H vs Q E hr h=>?_)
 . obtain ⟨cell,base0,n,mix,rfl,⟨hn,hb,hb2⟩,q⟩:=h
   rfl
 . obtain ⟨cell,base0,n,mix,rfl,⟨hn,hb,hb2⟩,q⟩:=h
   refine⟨_,(za4 (zb6 (i:=4) zm9.nd rfl (Or.inl rfl) (ze1 za3))
     (za4 (zb6 (i:=5) zm9.nd rfl (Or.inl rfl) (pv 0))
     (za4 (zd2 (zg1 (pv 3)) (za6 (zb6 (i:=5) zm9.nd rfl (Or.inl rfl) (za9 zd4 (za9 zh5 (pv 0) za1) za1))) zb8)
     (za4 (zp8 PassesOwn.never rfl (zm4 rfl T.n_range (za0 (pv 1) za3)) (zc6 (i:=6) zm9.nd rfl (Or.inl rfl)) (za6 (zd2 (zg1 (pv 3)) (za4 (zb6 (i:=5) zm9.nd rfl (Or.inl rfl) (za9 zd4 (za9 zh5 (za9 zf0 (za9 zf0 (pv 5) (pv 6)) za1) za1) za1))
     (za6 (zf4 (zz8 PySem.F.plainAttrs_list PySem.F.slot_list_append PySem.F.type_list_append zm7 (pv 4) (za0 (za9 zd4 (za9 zg2 (pv 5) za1) (pv 2)) za3))))) (za4 (zf4 (zz8 PySem.F.plainAttrs_list PySem.F.slot_list_append PySem.F.type_list_append zm7 (pv 4) (za0 (za9 zd4 (pv 5) (pv 2)) za3)))
     (za6 (zb6 (i:=5) zm9.nd rfl (Or.inl rfl) (za9 zg2 (pv 5) (pv 2))))))))
     (za6 (zc4 (pv 4))))))),?_⟩
   refine⟨Nat.zero_le _,fun l hl=>?_⟩
   refine⟨_,rfl,_,rfl,_,rfl,?_⟩
   have e0:(zo0 cell base0 mix 0).2=[]:=rfl
   cases mix
   . refine iteF ?_
     refine⟨_,rfl,_,rfl,by omega,by omega,zm5 (n:=(n:Int).toNat) (fun i σ H'=>∃ v,σ=[some (.int cell),some (.int n),some (.int base0),some (.bl false),some (.ref l),some (.int (zo0 cell base0 false i).1),v]/\H'=upd H l (.lst ((zo0 cell base0 false i).2.map V.int))/\(zo0 cell base0 false i).2.length=i) ⟨none,rfl,rfl,rfl⟩ ?_ ?_⟩
     . rintro i σ H' hi ⟨v,rfl,rfl,hlen⟩
       refine⟨_,rfl,_,rfl,iteF ?_⟩
       refine⟨_,rfl,.inl ⟨rfl,_,SqL.of za2⟩,_,rfl,_,rfl,_,_,rfl,rfl,hb,l,_,_,rfl,rfl,za2,zc9 (by rw[List.length_map];omega),?_⟩
       refine⟨_,rfl,_,rfl,_,_,rfl,rfl,⟨hb,by omega⟩,_,rfl,?_,?_⟩
       . rw[zk7]
         show upd H l (.lst (_++[V.int _]))=upd H l (.lst ((_++[_]).map V.int))
         rw[List.map_append]
         rfl
       . show (_++[_]).length=i+1
         rw[List.length_append,hlen]
         rfl
     . rintro σ H' ⟨v,rfl,rfl,hlen⟩
       exact⟨_,rfl,q l hl⟩
   . refine iteT ?_
     refine⟨_,rfl,_,_,rfl,rfl,.inr ⟨by decide,by decide⟩,_,_,rfl,rfl,(by show (0:Int)<2147483647;decide),?_⟩
     refine⟨_,rfl,_,rfl,by omega,by omega,zm5 (n:=(n:Int).toNat) (fun i σ H'=>∃ v,σ=[some (.int cell),some (.int n),some (.int base0),some (.bl true),some (.ref l),some (.int (zo0 cell base0 true i).1),v]/\H'=upd H l (.lst ((zo0 cell base0 true i).2.map V.int))/\(zo0 cell base0 true i).2.length=i) ⟨none,rfl,rfl,rfl⟩ ?_ ?_⟩
     . rintro i σ H' hi ⟨v,rfl,rfl,hlen⟩
       refine⟨_,rfl,_,rfl,iteT ?_⟩
       refine⟨_,rfl,_,rfl,_,_,rfl,rfl,_,_,rfl,rfl,_,_,rfl,rfl,.inr ⟨by decide,by decide⟩,_,_,rfl,rfl,(by show (0:Int)<2147483647;decide),?_⟩
       refine⟨_,rfl,.inl ⟨rfl,_,SqL.of za2⟩,_,rfl,_,_,rfl,rfl,⟨by decide,by decide⟩,_,rfl,_,_,rfl,rfl,hb,l,_,_,rfl,rfl,za2,zc9 (by rw[List.length_map];omega),?_⟩
       refine⟨_,rfl,?_,?_⟩
       . rw[zk7]
         show upd H l (.lst (_++[V.int _]))=upd H l (.lst ((_++[_]).map V.int))
         rw[List.map_append]
         rfl
       . show (_++[_]).length=i+1
         rw[List.length_append,hlen]
         rfl
     . rintro σ H' ⟨v,rfl,rfl,hlen⟩
       exact⟨_,rfl,q l hl⟩
theorem zD4 (T:Txt K mg t):FnOk P w K mg base CX0 2 t.a_w_same t.d_w_same ["_law_found","_law_due"] (zy3 K t):=by
 have G_w_whole:FnOk P w K mg base CX0 1 t.a_w_whole t.d_w_whole ["_law_found"] (zG3 K t):=ok_w_whole T
 refine T.F_w_same.ok zI4 (fun vs H Q E h=>?_) (fun cdv A outer s H vs Q E hr h=>?_)
 . obtain ⟨a,b,xs,ys,rfl,hA,hB,hl,q⟩:=h
   rfl
 . obtain ⟨a,b,xs,ys,rfl,hA,hB,hl,q⟩:=h
   have hr_w_whole:Room 1 _:=hr.mono (by decide)
   refine⟨_,(za4 (zd2 (zb5 zs8 (zb2 zb9 rfl T.n_len PySem.boot_len (za0 (pv 0) za3)) (zb2 zb9 rfl T.n_len PySem.boot_len (za0 (pv 1) za3)) (zb7 _)) (za6 (zc4 zz5)) zb8)
     (za4 (zp8 PassesOwn.never rfl (zm4 rfl T.n_range (za0 (zb2 zb9 rfl T.n_len PySem.boot_len (za0 (pv 1) za3)) za3)) (zc6 (i:=2) zI4.nd rfl (Or.inl rfl)) (za6 (zd2 (PW.pt (zv3 (zs2 (zg1 (zb3 G_w_whole hr_w_whole rfl T.m_w_whole T.k_w_whole T.b_w_whole .nil zc2 (za0 (zd0 zm6 (pv 0) (pv 2) (fun _ _=>rfl)) za3)))) (zu4 (zb5 zs8 (zd0 zm6 (pv 0) (pv 2) (fun _ _=>rfl)) (zd0 zm6 (pv 1) (pv 2) (fun _ _=>rfl)) (zb7 _))))) (za6 (zc4 zz5)) zb8)))
     (za6 (zc4 zz5)))),?_⟩
   refine⟨_,rfl,a,_,rfl,hA,_,rfl,b,_,rfl,hB,rfl,_,rfl,?_⟩
   rw[List.length_map,List.length_map]
   refine ite2 (fun h1=>?_) (fun h1=>?_)
   . have ne:xs≠ys:=by
       intro e
       subst e
       simp at h1
     rw[decide_eq_false ne] at q
     exact q
   . have hlen:xs.length=ys.length:=by
       simp at h1
       omega
     refine⟨_,rfl,b,_,rfl,hB,_,rfl,by omega,by rw[List.length_map];omega,zm5 (n:=((ys.map V.int).length:Int).toNat) (fun i σ H'=>∃ v,σ=[some (.ref a),some (.ref b),v]/\H'=H/\xs.take i=ys.take i) ⟨none,rfl,rfl,rfl⟩ ?_ ?_⟩
     . rintro i σ H' hi ⟨v,rfl,rfl,ht⟩
       have hiy:i<ys.length:=by simpa using hi
       have hix:i<xs.length:=by omega
       have ex:xs[i]?=some xs[i]:=by simp[hix]
       have ey:ys[i]?=some ys[i]:=by simp[hiy]
       have e0:(0:Int)+(i:Int)=(i:Int):=by omega
       have ax:atI (xs.map V.int) (0+(i:Int))=some (.int xs[i]):=by rw[e0];exact zE6 ex
       have ay:atI (ys.map V.int) (0+(i:Int))=some (.int ys[i]):=by rw[e0];exact zE6 ey
       have ixA:∀ (Q':VK),Q' (.int xs[i]) H'->rIx K (.ref a) (.int (0+(i:Int))) H' Q':=fun Q' h=>by
         rcases hA with hA | hA
         . exact .inl ⟨a,_,_,_,rfl,rfl,hA,ax,h⟩
         . exact .inr (.inl ⟨a,_,_,_,rfl,rfl,hA,ax,h⟩)
       have ixB:∀ (Q':VK),Q' (.int ys[i]) H'->rIx K (.ref b) (.int (0+(i:Int))) H' Q':=fun Q' h=>by
         rcases hB with hB | hB
         . exact .inl ⟨b,_,_,_,rfl,rfl,hB,ay,h⟩
         . exact .inr (.inl ⟨b,_,_,_,rfl,rfl,hB,ay,h⟩)
       refine⟨_,rfl,_,rfl,ixA _ ⟨_,rfl,_,rfl,iteF ?_⟩⟩
       refine⟨_,rfl,_,rfl,ixA _ ⟨_,rfl,_,rfl,ixB _ ⟨rfl,_,rfl,?_⟩⟩⟩
       refine ite2 (fun h2=>?_) (fun h2=>?_)
       . have ne:xs≠ys:=by
           intro e
           subst e
           simp at h2
         rw[decide_eq_false ne] at q
         exact q
       . refine⟨_,rfl,rfl,?_⟩
         have e2:xs[i]=ys[i]:=by
           simp at h2
           exact h2
         rw[List.take_succ,List.take_succ,ht,ex,ey,e2]
     . rintro σ H' ⟨v,rfl,rfl,ht⟩
       have e:xs=ys:=by
         have e1:((ys.map V.int).length:Int).toNat=ys.length:=by simp
         rw[e1] at ht
         rw[<-List.take_length (l:=ys),<-ht,<-hlen,List.take_length]
       rw[decide_eq_true e] at q
       exact q
theorem ok_w_shape (T:Txt K mg t):FnOk P w K mg base CX0 2 t.a_w_shape t.d_w_shape ["_law_script"] (zG4 K t):=by
 have G_w_at:FnOk P w K mg base CX0 1 t.a_w_at t.d_w_at ["_law_script","_law_k"] (zy2 K t):=zC0 T
 have G_w_figs:FnOk P w K mg base CX0 1 t.a_w_figs t.d_w_figs ["_law_cell","_law_count","_law_base","_law_mix"] (zD1 K t):=zJ3 T
 refine T.F_w_shape.ok zh9 (fun vs H Q E h=>?_) (fun cdv A outer s H vs Q E hr h=>?_)
 . obtain ⟨a,ns,rfl,hS,q⟩:=h
   rfl
 . obtain ⟨a,ns,rfl,hS,q⟩:=h
   have hr_w_at:Room 1 _:=hr.mono (by decide)
   have hr_w_figs:Room 1 _:=hr.mono (by decide)
   refine⟨_,(za4 (zb6 (i:=1) zh9.nd rfl (Or.inl rfl) (zb3 G_w_at hr_w_at rfl T.m_w_at T.k_w_at T.b_w_at .nil zc2 (za0 (pv 0) (za0 za1 za3))))
     (za4 (zb6 (i:=2) zh9.nd rfl (Or.inl rfl) (zd0 zd5 (ze1 (za0 za1 (za0 za1 (za0 za1 (za0 za1 za3))))) (za9 zd4 (pv 1) za1) (fun _ _=>rfl)))
     (za4 (zb6 (i:=3) zh9.nd rfl (Or.inl rfl) (zb2 (zC4 rfl) rfl T.n_min PyProof.Rows.boot_min (za0 (zd0 zd5 (ze1 (za0 za1 (za0 za1 (za0 za1 (za0 za1 za3))))) (za9 zf7 (pv 2) za1) (fun _ _=>rfl)) (za0 (zd0 zd5 (ze1 (za0 za1 (za0 za1 (za0 za1 (za0 za1 (za0 za1 (za0 za1 za3))))))) (za9 zd4 (za9 zg2 (pv 1) za1) za1) (fun _ _=>rfl)) za3))))
     (za4 (zb6 (i:=4) zh9.nd rfl (Or.inl rfl) (za9 zf0 za1 (za9 zd4 (za9 zg2 (pv 1) za1) za1)))
     (za4 (zb6 (i:=5) zh9.nd rfl (Or.inl rfl) (zb3 G_w_at hr_w_at rfl T.m_w_at T.k_w_at T.b_w_at .nil zc2 (za0 (pv 0) (za0 za1 za3))))
     (za4 (zP6 (i:=6) rfl zA8 (zE4 (zb3 G_w_figs hr_w_figs rfl T.m_w_figs T.k_w_figs T.b_w_figs .nil zc2 (za0 (zb3 G_w_at hr_w_at rfl T.m_w_at T.k_w_at T.b_w_at .nil zc2 (za0 (pv 0) (za0 za1 za3))) (za0 (pv 3) (za0 za1 (za0 (zn1 zi1 (za9 zd4 (pv 5) za1) za1 (zb7 _)) za3)))))) (fun _ _ _ _ _=>(zc6 (i:=0) zA8.nd rfl (Or.inl rfl))) (fun _ _ _ _ _=>zM5) (fun _ _ _ _ _=>(za9 zf0 za1 (pv 0))) zh9.nd rfl rfl)
     (za4 (zd2 (zb5 zi1 (za9 zd4 (za9 zg2 (pv 5) za1) za1) za1 (zb7 _)) (za6 (zb6 (i:=6) zh9.nd rfl (Or.inl rfl) (za9 zK9 (zk5 zP4 (pv 6) zo3 (zl9 za1)) (pv 3)))) zb8)
     (za4 (zd2 (zb5 zi1 (za9 zd4 (za9 zg2 (pv 5) za1) za1) za1 (zb7 _)) (za6 (zb6 (i:=6) zh9.nd rfl (Or.inl rfl) (za9 zK9 (ze1 (za0 za1 za3)) (pv 3)))) zb8)
     (za6 (zc4 (ze1 (za0 (pv 2) (za0 (pv 4) (za0 (pv 6) za3)))))))))))))),?_⟩
   have hm1:0<=at0 ns 1 % 4:=Int.emod_nonneg _ (by decide)
   have hm2:at0 ns 1 % 4<4:=Int.emod_lt_of_pos _ (by decide)
   have hm3:0<=at0 ns 1 / 4 % 6:=Int.emod_nonneg _ (by decide)
   have hm4:at0 ns 1 / 4 % 6<6:=Int.emod_lt_of_pos _ (by decide)
   have hN:=zD0 ns
   obtain ⟨hW0,hW5⟩:=zT3 ns
   have h5:(if shN ns=1 then (5:Int) else if shN ns=2 then 4 else 3)<=5:=by repeat (first | decide | split)
   refine⟨_,rfl,a,ns,1,rfl,hS,?_⟩
   refine⟨by decide,fun l1 f1=>⟨_,rfl,_,_,rfl,rfl,(by show (0:Int)<4;decide),l1,_,_,_,rfl,rfl,SqL.of za2,zf1 (xs:=[2,3,1,4]) hm1 hm2,?_⟩⟩
   have s1:Same H (upd H l1 (.lst [.int 2,.int 3,.int 1,.int 4])):=Same.upd f1
   generalize upd H l1 (.lst [.int 2,.int 3,.int 1,.int 4])=H1 at s1 ⊢
   refine⟨by decide,fun l2 f2=>⟨_,rfl,_,_,rfl,rfl,l2,_,_,_,rfl,rfl,SqL.of za2,zf1 (xs:=[5,4,3,3]) (by show 0<=shN ns-1;omega) (by show shN ns-1<4;omega),?_⟩⟩
   have s2:Same H (upd H1 l2 (.lst [.int 5,.int 4,.int 3,.int 3])):=s1.updT f2
   generalize upd H1 l2 (.lst [.int 5,.int 4,.int 3,.int 3])=H2 at s2 ⊢
   refine⟨by decide,fun l3 f3=>⟨_,rfl,_,_,rfl,rfl,⟨by decide,by decide⟩,_,_,rfl,rfl,(by show (0:Int)<6;decide),l3,_,_,_,rfl,rfl,SqL.of za2,zf1 (xs:=[3,2,4,1,5,0]) hm3 hm4,_,_,rfl,?_⟩⟩
   have s3:Same H (upd H2 l3 (.lst [.int 3,.int 2,.int 4,.int 1,.int 5,.int 0])):=s2.updT f3
   generalize upd H2 l3 (.lst [.int 3,.int 2,.int 4,.int 1,.int 5,.int 0])=H3 at s3 ⊢
   refine⟨_,rfl,_,_,rfl,rfl,⟨by decide,by decide⟩,_,_,rfl,rfl,(by show (0:Int)<3;decide),_,_,rfl,rfl,?_⟩
   refine⟨_,rfl,a,ns,0,rfl,s3.seq hS,?_⟩
   have eW:(((shW ns).toNat:Nat):Int)=shW ns:=by omega
   refine⟨_,rfl,a,ns,2,rfl,s3.seq hS,_,rfl,_,rfl,_,_,rfl,rfl,(by show (0:Int)<2;decide),rfl,at0 ns 2,20,(shW ns).toNat,zr7 ns,?_,⟨by omega,by decide,by decide⟩,fun l4 f4=>⟨l4,rfl,⟨_,SqL.of za2⟩,fun D hD=>?_⟩⟩
   . rw[eW];rfl
   have s4:Same H (upd H3 l4 (.lst ((figs (at0 ns 2) (shW ns).toNat 20 (zr7 ns)).map V.int))):=s3.updT f4
   refine comp_list (f:=fun v=>match v with | .int z=>V.int (1+z) | v=>v) (SqL.of za2) hD (Nat.le_of_lt (zc9 (by rw[List.length_map,zA9];omega))) (fun x acc R hx h=>?_) ?_
   . obtain ⟨z,hz,rfl⟩:=List.mem_map.mp hx
     exact⟨_,rfl,_,_,rfl,rfl,h⟩
   have em:((figs (at0 ns 2) (shW ns).toNat 20 (zr7 ns)).map V.int).map (fun v=>match v with | .int z=>V.int (1+z) | v=>v)=(shH0 ns).map V.int:=by
     unfold shH0
     rw[List.map_map,List.map_map];rfl
   rw[em]
   have s5:=s4.updT (o:=.lst ((shH0 ns).map V.int)) hD
   have fD:H D=none:=s4.free hD
   have hHD:(upd (upd H3 l4 (.lst ((figs (at0 ns 2) (shW ns).toNat 20 (zr7 ns)).map V.int))) D (.lst ((shH0 ns).map V.int))) D=some (.lst ((shH0 ns).map V.int)):=za2
   clear em
   revert s5 hHD
   generalize upd (upd H3 l4 (.lst ((figs (at0 ns 2) (shW ns).toNat 20 (zr7 ns)).map V.int))) D (.lst ((shH0 ns).map V.int))=H5
   intro s5 hHD
   have hl0:=zN0 ns
   refine⟨_,rfl,_,_,rfl,rfl,⟨by decide,by decide⟩,_,_,rfl,rfl,(by show (0:Int)<5;decide),rfl,_,rfl,?_⟩
   show (if decide (V.int (at0 ns 0 / 2 % 5)=V.int 1)=true then _ else _)
   rw[ze7]
   by_cases m1:at0 ns 0 / 2 % 5=1
   . rw[decide_eq_true m1]
     refine iteT ?_
     refine⟨_,rfl,1,rfl,D,_,rfl,SqL.of hHD,fun l6 f6=>⟨_,rfl,l6,_,_,rfl,rfl,za2,(by show -(2 ^ 63)<=shW ns;omega),(by show shW ns<2 ^ 63;omega),?_,fun l7 f7=>?_⟩⟩
     . refine Nat.le_of_lt (zc9 ?_)
       have h1:(cutV ((shH0 ns).map V.int) none (some 1)).length<=(shW ns).toNat:=by rw[<-hl0,<-List.length_map (f:=V.int)];exact zj2 _ _ _
       have h2:(shW ns).toNat<=5:=by omega
       exact Nat.le_trans (Nat.mul_le_mul (Nat.le_trans h1 h2) h2) (by decide)
     have s6:=(s5.updT (o:=.lst (cutV ((shH0 ns).map V.int) none (some 1))) f6).updT (o:=.lst (List.replicate (shW ns).toNat (cutV ((shH0 ns).map V.int) none (some 1))).flatten) f7
     have f7':H l7=none:=(s5.updT (o:=.lst (cutV ((shH0 ns).map V.int) none (some 1))) f6).free f7
     refine⟨_,rfl,_,_,rfl,rfl,⟨by decide,by decide⟩,_,_,rfl,rfl,(by show (0:Int)<5;decide),rfl,_,rfl,?_⟩
     show (if decide (V.int (at0 ns 0 / 2 % 5)=V.int 2)=true then _ else _)
     rw[ze7,decide_eq_false (by omega)]
     refine iteF ?_
     refine⟨_,rfl,_,rfl,_,rfl,(by show 3<=sizeLine;decide),fun l8 f8=>?_⟩
     refine q l8 l7 _ (s6.updT f8) (s6.free f8) f7' ?_ za2
     rw[za7 (fun e=>by rw[<-e] at f8;rw[za2] at f8;cases f8),za2]
     have ec:cutV ((shH0 ns).map V.int) none (some 1)=((shH0 ns).take 1).map V.int:=by
       unfold cutV
       rw[HT.sIx_none,show (some (1:Int))=some ((1:Nat):Int) from rfl,HT.sIx_nat,List.drop_zero,Nat.sub_zero,List.map_take,List.length_map]
       by_cases h:1<=(shH0 ns).length
       . rw[Nat.min_eq_left h]
       . have:shH0 ns=[]:=List.eq_nil_of_length_eq_zero (by omega)
         rw[this];rfl
     have ef:(List.replicate (shW ns).toNat (((shH0 ns).take 1).map V.int)).flatten=(shH ns).map V.int:=by
       unfold shH
       rw[if_pos m1,List.map_flatten,List.map_replicate]
     show some (HO.lst (List.replicate (shW ns).toNat (cutV ((shH0 ns).map V.int) none (some 1))).flatten)=_
     rw[ec,ef]
   . rw[decide_eq_false m1]
     refine iteF ?_
     refine⟨_,rfl,_,_,rfl,rfl,⟨by decide,by decide⟩,_,_,rfl,rfl,(by show (0:Int)<5;decide),rfl,_,rfl,?_⟩
     show (if decide (V.int (at0 ns 0 / 2 % 5)=V.int 2)=true then _ else _)
     rw[ze7]
     by_cases m2:at0 ns 0 / 2 % 5=2
     . rw[decide_eq_true m2]
       refine iteT ?_
       refine⟨by decide,fun l6 f6=>⟨_,rfl,l6,_,_,rfl,rfl,za2,(by show -(2 ^ 63)<=shW ns;omega),(by show shW ns<2 ^ 63;omega),?_,fun l7 f7=>?_⟩⟩
       . refine Nat.le_of_lt (zc9 ?_)
         show 1*(shW ns).toNat<=1000
         omega
       have s6:=(s5.updT (o:=.lst [.int 20]) f6).updT (o:=.lst (List.replicate (shW ns).toNat [V.int 20]).flatten) f7
       have f7':H l7=none:=(s5.updT (o:=.lst [.int 20]) f6).free f7
       refine⟨_,rfl,_,rfl,_,rfl,(by show 3<=sizeLine;decide),fun l8 f8=>?_⟩
       refine q l8 l7 _ (s6.updT f8) (s6.free f8) f7' ?_ za2
       rw[za7 (fun e=>by rw[<-e] at f8;rw[za2] at f8;cases f8),za2]
       have ef:(List.replicate (shW ns).toNat [V.int 20]).flatten=(shH ns).map V.int:=by
         unfold shH
         rw[if_neg m1,if_pos m2,List.map_flatten,List.map_replicate]
         rfl
       show some (HO.lst (List.replicate (shW ns).toNat [V.int 20]).flatten)=_
       rw[ef]
     . rw[decide_eq_false m2]
       refine iteF ?_
       refine⟨_,rfl,_,rfl,_,rfl,(by show 3<=sizeLine;decide),fun l8 f8=>?_⟩
       refine q l8 D _ (s5.updT f8) (s5.free f8) fD ?_ za2
       rw[za7 (fun e=>by rw[<-e] at f8;rw[hHD] at f8;cases f8),hHD]
       have ef:shH ns=shH0 ns:=by
         unfold shH
         rw[if_neg m1,if_neg m2]
       rw[ef]
theorem ok_w_put (T:Txt K mg t):FnOk P w K mg base CX0 2 t.a_w_put t.d_w_put ["_law_script","_law_k","_law_more","_law_shape_here"] (zN2 K t):=by
 have G_w_figs:FnOk P w K mg base CX0 1 t.a_w_figs t.d_w_figs ["_law_cell","_law_count","_law_base","_law_mix"] (zD1 K t):=zJ3 T
 have G_w_at:FnOk P w K mg base CX0 1 t.a_w_at t.d_w_at ["_law_script","_law_k"] (zy2 K t):=zC0 T
 refine T.F_w_put.ok zj3 (fun vs H Q E h=>?_) (fun cdv A outer s H vs Q E hr h=>?_)
 . obtain ⟨a,sh,h,ns,k,more,n,r,hs,rfl,hS,hsh,hh,⟨n1,n2,r1,hw⟩,q⟩:=h
   rfl
 . obtain ⟨a,sh,h,ns,k,more,n,r,hs,rfl,hS,hsh,hh,⟨n1,n2,r1,hw⟩,q⟩:=h
   have hr_w_figs:Room 1 _:=hr.mono (by decide)
   have hr_w_at:Room 1 _:=hr.mono (by decide)
   refine⟨_,(za4 (zs3 (pv 3) (zv5 rfl (zd1 (zc6 (i:=4) zj3.nd rfl (Or.inl rfl)) (zd1 (zc6 (i:=5) zj3.nd rfl (Or.inl rfl)) (zd1 (zc6 (i:=6) zj3.nd rfl (Or.inl rfl)) zl7)))))
     (za4 (zb6 (i:=7) zj3.nd rfl (Or.inl rfl) (zn1 zi1 (za9 zd4 (zb3 G_w_at hr_w_at rfl T.m_w_at T.k_w_at T.b_w_at .nil zc2 (za0 (pv 0) (za0 za1 za3))) za1) za1 (zb7 _)))
     (za4 (zb6 (i:=8) zj3.nd rfl (Or.inl rfl) (za9 zf0 (zb3 G_w_at hr_w_at rfl T.m_w_at T.k_w_at T.b_w_at .nil zc2 (za0 (pv 0) (za0 (pv 1) za3))) (pv 2)))
     (za4 (zb6 (i:=9) zj3.nd rfl (Or.inl rfl) (ze1 za3))
     (za4 (zp8 PassesOwn.never rfl (zE4 (zb3 G_w_figs hr_w_figs rfl T.m_w_figs T.k_w_figs T.b_w_figs .nil zc2 (za0 (pv 8) (za0 (zb2 zb9 rfl T.n_len PySem.boot_len (za0 (pv 6) za3)) (za0 (za9 zf0 (za9 zh5 za1 (pv 4)) za1) (za0 (pv 7) za3)))))) (zc6 (i:=10) zj3.nd rfl (Or.inl rfl)) (za4 (zb6 (i:=11) zj3.nd rfl (Or.inl rfl) (za9 zf7 (pv 10) (pv 4)))
     (za4 (zd2 (zb5 zi1 (za9 zd4 (pv 8) za1) za1 (zb7 _)) (za6 (zb6 (i:=11) zj3.nd rfl (Or.inl rfl) (pv 4))) zb8)
     (za4 (zd2 (PW.pt (zs1 (zb5 zs8 (pv 11) za1 (zb7 _)) (zo2 (zb5 zM2 (zz8 PySem.F.plainAttrs_list PySem.F.slot_list_count PySem.F.type_list_count mt_countL (pv 9) (za0 (pv 11) za3)) (pv 5) (zb7 _))))) (za6 (zb6 (i:=11) zj3.nd rfl (Or.inl rfl) za1)) zb8)
     (za6 (zf4 (zz8 PySem.F.plainAttrs_list PySem.F.slot_list_append PySem.F.type_list_append zm7 (pv 9) (za0 (pv 11) za3))))))))
     (za6 (zc4 (pv 9)))))))),?_⟩
   refine⟨_,rfl,sh,_,rfl,SqL.of hsh,rfl,_,_,rfl,_,_,rfl,_,_,rfl,rfl,?_⟩
   refine⟨_,rfl,a,ns,0,rfl,hS,_,_,rfl,rfl,(by show (0:Int)<2;decide),rfl,?_⟩
   refine⟨_,rfl,_,rfl,a,ns,k,rfl,hS,_,rfl,_,_,rfl,rfl,?_⟩
   refine⟨Nat.zero_le _,fun m fm=>?_⟩
   have s1:Same H (upd H m (.lst [])):=Same.upd fm
   refine⟨_,rfl,_,rfl,h,_,rfl,.inl (s1.seq hh),_,rfl,_,_,rfl,rfl,.inl ⟨by decide,by decide⟩,_,_,rfl,rfl,_,rfl,at0 ns k+more,2*n+1,hs.length,zr7 ns,?_,⟨by omega,by omega,by omega⟩,fun f ff=>⟨f,rfl,⟨_,SqL.of za2⟩,?_⟩⟩
   . rw[List.length_map];rfl
   have hfm:f≠m:=fun e=>by rw[e,za2] at ff;cases ff
   have ff0:H f=none:=s1.free ff
   have hlen:(figs (at0 ns k+more) hs.length (2*n+1) (zr7 ns)).length=hs.length:=zA9 _ _ _ _
   have hin:=zL6 (cell:=at0 ns k+more) (mix:=zr7 ns) (show (0:Int)<2*n+1 by omega) hs.length
   have hq:∀ H',Same H H'->H' m=some (.lst ((putL n r (decide (V.int ((at0 ns k+more) % 13)=V.int 12)) (figs (at0 ns k+more) hs.length (2*n+1) (zr7 ns))).map V.int))->Q (.ref m) H':=fun H' s' e=>q m H' s' fm e
   generalize figs (at0 ns k+more) hs.length (2*n+1) (zr7 ns)=fs at hlen hin hq ⊢
   have hput:∀ i,(putL n r (decide (V.int ((at0 ns k+more) % 13)=V.int 12)) (fs.take i)).length<=5:=fun i=>by
     rw[(zR1 _ (by omega) r1 (fs.take i) fun x hx=>hin x (List.mem_of_mem_take hx)).1,List.length_take];omega
   refine zz6 (K:=K) (a:=f) (xs:=fs.map V.int) (fun i σ H'=>∃ v10 v11,σ=[some (.ref a),some (.int k),some (.int more),some (.ref sh),some (.int n),some (.int r),some (.ref h),some (.bl (zr7 ns)),some (.int (at0 ns k+more)),some (.ref m),v10,v11] ∧
     H'=upd (upd (upd H m (.lst [])) f (.lst (fs.map V.int))) m (.lst ((putL n r (decide (V.int ((at0 ns k+more) % 13)=V.int 12)) (fs.take i)).map V.int))) ⟨none,none,rfl,?_⟩ ?_ ?_ ?_
   . exact (upd_id (by rw[za7 (Ne.symm hfm),za2];rfl)).symm
   . rintro i σ H' _ ⟨_,_,_,rfl⟩
     exact SqL.of (by rw[za7 hfm,za2])
   . rintro i x σ H' hi ⟨v10,v11,rfl,rfl⟩
     obtain ⟨z,rfl,hz⟩:=zv8 hi
     have etk:fs.take (i+1)=fs.take i++[z]:=by rw[List.take_succ,hz];rfl
     have hpi:=hput i
     generalize hlast:decide (V.int ((at0 ns k+more) % 13)=V.int 12)=last at hput hpi hq ⊢
     generalize hmade:putL n r last (fs.take i)=made at hpi
     have enext:putL n r last (fs.take (i+1))=zo6 n r last made z:=by rw[etk,zI5,hmade]
     have tail:∀ (p:Int),p=(if last=true then n else z-n)->True:=fun _ _=>trivial
     refine⟨_,rfl,_,rfl,_,_,rfl,rfl,?_⟩
     refine⟨_,rfl,_,_,rfl,rfl,(by show (0:Int)<13;decide),rfl,_,rfl,?_⟩
     show (if decide (V.int ((at0 ns k+more) % 13)=V.int 12)=true then _ else _)
     rw[hlast]
     cases last
     . refine iteF ?_
       refine⟨_,rfl,rfl,_,rfl,?_⟩
       refine ite2 (fun h1=>?_) (fun h1=>?_)
       . have hp0:z-n≠0:=fun e=>by
           have h1':(!decide (V.int (z-n)=V.int 0))=true:=h1
           rw[e] at h1';simp at h1'
         refine⟨_,rfl,.inl ⟨rfl,_,SqL.of za2⟩,_,rfl,m,made,z-n,rfl,rfl,SqL.of za2,_,rfl,_,_,rfl,rfl,_,rfl,?_⟩
         refine ite2 (fun h2=>?_) (fun h2=>?_)
         . have h2':r<=(made.count (z-n):Int):=of_decide_eq_true h2
           refine⟨_,rfl,.inl ⟨rfl,_,SqL.of za2⟩,_,rfl,m,_,_,rfl,rfl,za2,zc9 (by rw[List.length_map];omega),_,_,rfl,?_⟩
           rw[zk7,enext]
           unfold zo6
           rw[if_neg (show ¬ (false=true) by decide),if_pos ⟨hp0,h2'⟩,List.map_append]
           rfl
         . have h2':¬ r<=(made.count (z-n):Int):=fun e=>h2 (decide_eq_true e)
           refine⟨_,rfl,.inl ⟨rfl,_,SqL.of za2⟩,_,rfl,m,_,_,rfl,rfl,za2,zc9 (by rw[List.length_map];omega),_,_,rfl,?_⟩
           rw[zk7,enext]
           unfold zo6
           rw[if_neg (show ¬ (false=true) by decide),if_neg (fun e=>h2' e.2),List.map_append]
           rfl
       . have hp0:z-n=0:=by
           have h1':¬ (!decide (V.int (z-n)=V.int 0))=true:=h1
           rw[ze7] at h1'
           simpa using h1'
         refine iteF ?_
         refine⟨_,rfl,.inl ⟨rfl,_,SqL.of za2⟩,_,rfl,m,_,_,rfl,rfl,za2,zc9 (by rw[List.length_map];omega),_,_,rfl,?_⟩
         rw[zk7,enext]
         unfold zo6
         rw[if_neg (show ¬ (false=true) by decide),if_neg (fun e=>e.1 hp0),List.map_append]
         rfl
     . refine iteT ?_
       refine⟨_,rfl,?_⟩
       refine⟨_,rfl,rfl,_,rfl,?_⟩
       have hn0:n≠0:=by omega
       refine iteA (by show (!decide (V.int n=V.int 0))=true;rw[ze7];simpa using hn0) ?_
       refine⟨_,rfl,.inl ⟨rfl,_,SqL.of za2⟩,_,rfl,m,made,n,rfl,rfl,SqL.of za2,_,rfl,_,_,rfl,rfl,_,rfl,?_⟩
       refine ite2 (fun h2=>?_) (fun h2=>?_)
       . have h2':r<=(made.count n:Int):=of_decide_eq_true h2
         refine⟨_,rfl,.inl ⟨rfl,_,SqL.of za2⟩,_,rfl,m,_,_,rfl,rfl,za2,zc9 (by rw[List.length_map];omega),_,_,rfl,?_⟩
         rw[zk7,enext]
         unfold zo6
         rw[if_pos rfl,if_pos ⟨hn0,h2'⟩,List.map_append]
         rfl
       . have h2':¬ r<=(made.count n:Int):=fun e=>h2 (decide_eq_true e)
         refine⟨_,rfl,.inl ⟨rfl,_,SqL.of za2⟩,_,rfl,m,_,_,rfl,rfl,za2,zc9 (by rw[List.length_map];omega),_,_,rfl,?_⟩
         rw[zk7,enext]
         unfold zo6
         rw[if_pos rfl,if_neg (fun e=>h2' e.2),List.map_append]
         rfl
   . rintro σ H' ⟨v10,v11,rfl,rfl⟩
     rw[List.length_map,List.take_length]
     refine⟨_,rfl,hq _ ?_ za2⟩
     exact ((s1.updT ff).put fm)
noncomputable def zy4 (K:PySem.W.Frag) (t:Adr):Sp:=fun vs H Q _=>∃ (h a:Addr) (hs xs:List Int),vs=[.ref h,.ref a]/\SqL K H h (hs.map V.int)/\(SqL K H a (xs.map V.int)\/SqT K H a (xs.map V.int))/\(hs.length=xs.length/\xs.length<=5/\∀ x∈hs,1<=x/\x<=20)/\Q (.int (zc8 hs xs)) H
theorem zD5 (T:Txt K mg t):FnOk P w K mg base CX0 1 t.a_w_tilt t.d_w_tilt ["_law_hefts","_law_spots"] (zy4 K t):=by
 refine T.F_w_tilt.ok zy0 (fun vs H Q E h=>?_) (fun cdv A outer s H vs Q E hr h=>?_)
 . obtain ⟨h,a,hs,xs,rfl,hh,hS,⟨hl,h5,hhs⟩,q⟩:=h
   rfl
 . obtain ⟨h,a,hs,xs,rfl,hh,hS,⟨hl,h5,hhs⟩,q⟩:=h
   refine⟨_,(za4 (zb6 (i:=2) zy0.nd rfl (Or.inl rfl) za1)
     (za4 (zp8 PassesOwn.never rfl (zm4 rfl T.n_range (za0 (zb2 zb9 rfl T.n_len PySem.boot_len (za0 (pv 0) za3)) za3)) (zc6 (i:=3) zy0.nd rfl (Or.inl rfl)) (za6 (zb6 (i:=2) zy0.nd rfl (Or.inl rfl) (za9 zf0 (pv 2) (za9 zh5 (zd0 zd5 (pv 0) (pv 3) (fun _ _=>rfl)) (zd0 zm6 (pv 1) (pv 3) (fun _ _=>rfl)))))))
     (za6 (zc4 (pv 2))))),?_⟩
   refine⟨_,rfl,h,_,rfl,.inl hh,?_⟩
   rw[List.length_map]
   refine⟨_,rfl,by omega,by omega,zm5 (n:=((hs.length:Nat):Int).toNat) (fun i σ H'=>∃ v,σ=[some (.ref h),some (.ref a),some (.int (zN6 hs xs i)),v]/\H'=H) ⟨none,rfl,rfl⟩ ?_ ?_⟩
   . rintro j σ H' hj ⟨v,rfl,rfl⟩
     have hjh:j<hs.length:=by simpa using hj
     have e0:(0:Int)+(j:Int)=(j:Int):=by omega
     have ax:atI (xs.map V.int) (0+(j:Int))=some (.int (xs.getD j 0)):=by rw[e0];exact zf1 (by omega) (by omega)
     have ah:atI (hs.map V.int) (0+(j:Int))=some (.int (hs.getD j 0)):=by rw[e0];exact zf1 (by omega) (by omega)
     have hm:=hhs (hs.getD j 0) (zw8 hjh)
     have ixA:∀ (Q':VK),Q' (.int (xs.getD j 0)) H'->rIx K (.ref a) (.int (0+(j:Int))) H' Q':=fun Q' h=>by
       rcases hS with hS | hS
       . exact .inl ⟨a,_,_,_,rfl,rfl,hS,ax,h⟩
       . exact .inr (.inl ⟨a,_,_,_,rfl,rfl,hS,ax,h⟩)
     exact⟨_,rfl,_,rfl,_,rfl,h,_,_,_,rfl,rfl,hh,ah,_,rfl,_,rfl,ixA _ ⟨_,_,rfl,rfl,.inl ⟨by omega,by omega⟩,_,_,rfl,rfl,_,rfl,rfl⟩⟩
   . rintro σ H' ⟨v,rfl,rfl⟩
     rw[Int.toNat_natCast,sumTo_tilt hl]
     exact⟨_,rfl,q⟩
noncomputable def zG7 (K:PySem.W.Frag) (t:Adr):Sp:=fun vs H Q _=>∃ (a:Addr) (ns:List Int) (low:Int),vs=[.ref a,.int low]/\SqL K H a (ns.map V.int)/\(0<=low/\low<=400)/\∀ lim,low<=lim->lim<=400->Q (.int lim) H
theorem ok_w_limit (T:Txt K mg t):FnOk P w K mg base CX0 2 t.a_w_limit t.d_w_limit ["_law_script","_law_low"] (zG7 K t):=by
 have G_w_at:FnOk P w K mg base CX0 1 t.a_w_at t.d_w_at ["_law_script","_law_k"] (zy2 K t):=zC0 T
 refine T.F_w_limit.ok zz4 (fun vs H Q E h=>?_) (fun cdv A outer s H vs Q E hr h=>?_)
 . obtain ⟨a,ns,low,rfl,hS,⟨h0,h4⟩,q⟩:=h
   rfl
 . obtain ⟨a,ns,low,rfl,hS,⟨h0,h4⟩,q⟩:=h
   have hr_w_at:Room 1 _:=hr.mono (by decide)
   refine⟨_,(za4 (zb6 (i:=2) zz4.nd rfl (Or.inl rfl) (zb3 G_w_at hr_w_at rfl T.m_w_at T.k_w_at T.b_w_at .nil zc2 (za0 (pv 0) (za0 za1 za3))))
     (za4 (zb6 (i:=3) zz4.nd rfl (Or.inl rfl) (za9 zd4 (za9 zg2 (zb3 G_w_at hr_w_at rfl T.m_w_at T.k_w_at T.b_w_at .nil zc2 (za0 (pv 0) (za0 za1 za3))) za1) za1))
     (za4 (zd2 (zb5 zi1 (pv 3) za1 (zb7 _)) (za6 (zc4 (zb2 (zC4 rfl) rfl T.n_min PyProof.Rows.boot_min (za0 za1 (za0 (za9 zf0 (pv 1) (za9 zd4 (pv 2) za1)) za3))))) zb8)
     (za4 (zd2 (zb5 zi1 (pv 3) za1 (zb7 _)) (za6 (zc4 (zb2 (zC4 rfl) rfl T.n_min PyProof.Rows.boot_min (za0 za1 (za0 (za9 zf0 (pv 1) (za9 zd4 (pv 2) za1)) za3))))) zb8)
     (za4 (zd2 (zb5 zi1 (pv 3) za1 (zb7 _)) (za6 (zc4 (zb2 (zH3 rfl) rfl T.n_max PyProof.Rows.boot_max (za0 (pv 1) (za0 (za9 zd4 (pv 2) za1) za3))))) zb8)
     (za6 (zc4 za1))))))),?_⟩
   refine⟨_,rfl,a,ns,5,rfl,hS,?_⟩
   refine⟨_,rfl,a,ns,0,rfl,hS,_,_,rfl,rfl,⟨by decide,by decide⟩,_,_,rfl,rfl,(by show (0:Int)<4;decide),?_⟩
   generalize ns.getD 5 0=c
   have m8:0<=c % 8:=Int.emod_nonneg _ (by decide)
   have m41:0<=c % 41:=Int.emod_nonneg _ (by decide)
   have m401:0<=c % 401:=Int.emod_nonneg _ (by decide)
   have m401':c % 401<401:=Int.emod_lt_of_pos _ (by decide)
   refine⟨_,rfl,rfl,_,rfl,?_⟩
   refine ite2 (fun h1=>?_) (fun h1=>?_)
   . refine⟨_,rfl,_,rfl,_,_,rfl,rfl,(by show (0:Int)<8;decide),_,_,rfl,rfl,_,_,rfl,?_⟩
     exact q _ (by split<;>omega) (by split<;>omega)
   refine⟨_,rfl,rfl,_,rfl,?_⟩
   refine ite2 (fun h2=>?_) (fun h2=>?_)
   . refine⟨_,rfl,_,rfl,_,_,rfl,rfl,(by show (0:Int)<41;decide),_,_,rfl,rfl,_,_,rfl,?_⟩
     exact q _ (by split<;>omega) (by split<;>omega)
   refine⟨_,rfl,rfl,_,rfl,?_⟩
   refine ite2 (fun h3=>?_) (fun h3=>?_)
   . refine⟨_,rfl,_,rfl,_,_,rfl,rfl,(by show (0:Int)<401;decide),_,_,rfl,?_⟩
     exact q _ (by split<;>omega) (by split<;>omega)
   exact q 400 h4 (by decide)
end
end Bt
namespace Bt
open PySem L2
section
variable {P:Program} {w:World} {K:PySem.W.Frag} {mg:Str->Option Value} {base:Heap} {t:Adr}
noncomputable def zj0 (n r:Int) (xs:List Int) (j:Nat):List Int:=(grid n j).filter fun p=>decide (p=0\/(xs.count p:Int)<r)
theorem zG8 (n r:Int) (xs:List Int) (j:Nat):zj0 n r xs (j+1)=zj0 n r xs j++(if -n+(j:Int)=0\/(xs.count (-n+(j:Int)):Int)<r then [-n+(j:Int)] else []):=by
 unfold zj0 grid
 rw[List.range_succ,List.map_append,List.filter_append]
 congr 1
 by_cases h:-n+(j:Int)=0\/(xs.count (-n+(j:Int)):Int)<r
 . rw[if_pos h];simp[h]
 . rw[if_neg h];simp[h]
theorem zJ4 (n r:Int) (xs:List Int) (j:Nat):(zj0 n r xs j).length<=j:=by
 unfold zj0 grid
 refine Nat.le_trans (List.length_filter_le _ _) ?_
 simp
theorem freeL_puts (n r:Int) (hs:List Int) (lim:Int) (xs:List Int) (i j:Nat):(zj0 n r xs j).filter (fun p=>decide (Lets n r hs lim xs i p))=zx2 n r hs lim xs i j:=by
 unfold zj0 zx2
 rw[List.filter_filter]
 refine List.filter_congr fun p _=>?_
 by_cases h:Lets n r hs lim xs i p
 . have:p=0\/(xs.count p:Int)<r:=by
     by_cases z:p=0
     . exact .inl z
     . exact .inr (h.room z)
   simp[h,this]
 . simp[h]
theorem filt_no {q:Int->Bool} {l:List Int} {p:Int} (h:q p=false):(l++[p]).filter q=l.filter q:=by simp[List.filter_append,h]
theorem filt_yes {q:Int->Bool} {l:List Int} {p:Int} (h:q p=true):(l++[p]).filter q=l.filter q++[p]:=by simp[List.filter_append,h]
theorem freeL_mem {n r:Int} {xs:List Int} {j:Nat} {p:Int} (h:p∈zj0 n r xs j):(∃ k,k<j/\p = -n+(k:Int))/\(p=0\/(xs.count p:Int)<r):=by
 unfold zj0 grid at h
 obtain ⟨h1,h2⟩:=List.mem_filter.mp h
 obtain ⟨k,hk,rfl⟩:=List.mem_map.mp h1
 exact⟨⟨k,List.mem_range.mp hk,rfl⟩,of_decide_eq_true h2⟩
noncomputable def zE2 (n r:Int) (hs:List Int) (lim:Int) (x:List Int) (i:Nat):List (List Int):=(zB5 n r hs lim x i).map fun m=>x.set m.1 m.2
theorem zG9 (n r:Int) (hs:List Int) (lim:Int) (x:List Int) (i:Nat):zE2 n r hs lim x (i+1)=zE2 n r hs lim x i++(zx2 n r hs lim x i (wide n)).map fun p=>x.set i p:=by
 unfold zE2
 rw[zG6,List.map_append,List.map_map]
 rfl
noncomputable def zm2 (K:PySem.W.Frag) (H:Hp) (c:Addr) (n r:Int) (hs:List Int) (lim:Int):Prop:=∃ h,zi7 n r hs lim/\SqL K H c [.int n,.int r,.ref h,.int lim]/\SqL K H h (hs.map V.int)
theorem zm2.same {K:PySem.W.Frag} {H H':Hp} {c:Addr} {n r:Int} {hs:List Int} {lim:Int} (h:zm2 K H c n r hs lim) (s:Same H H'):zm2 K H' c n r hs lim:=let ⟨a,h0,h1,h2⟩:=h;⟨a,h0,s.seq h1,s.seq h2⟩
noncomputable def zJ5 (K:PySem.W.Frag) (t:Adr):Sp:=fun vs H Q _=>∃ (c a:Addr) (n r lim:Int) (hs xs:List Int),vs=[.ref c,.ref a]/\zm2 K H c n r hs lim/\zf8 n r hs.length xs/\H a=some (.tup (xs.map V.int)) ∧
 ∀ l H' ys,Same H H'->H l=none->H' l=some (.lst ys)->Tups H' ys (nbs n r hs lim xs)->Q (.ref l) H'
theorem ok_w_near (T:Txt K mg t):FnOk P w K mg base CX0 2 t.a_w_near t.d_w_near ["_law_scale","_law_spots"] (zJ5 K t):=by
 have G_w_tilt:FnOk P w K mg base CX0 1 t.a_w_tilt t.d_w_tilt ["_law_hefts","_law_spots"] (zy4 K t):=zD5 T
 refine T.F_w_near.ok zh1 (fun vs H Q E h=>?_) (fun cdv A outer s H vs Q E hr h=>?_)
 . obtain ⟨c,a,n,r,lim,hs,xs,rfl,⟨h,ok,hc,hh⟩,V0,hT,q⟩:=h
   rfl
 . obtain ⟨c,a,n,r,lim,hs,xs,rfl,⟨h,ok,hc,hh⟩,V0,hT,q⟩:=h
   have hr_w_tilt:Room 1 _:=hr.mono (by decide)
   refine⟨_,(za4 (zs3 (pv 0) (zv5 rfl (zd1 (zc6 (i:=2) zh1.nd rfl (Or.inl rfl)) (zd1 (zc6 (i:=3) zh1.nd rfl (Or.inr rfl)) (zd1 (zc6 (i:=4) zh1.nd rfl (Or.inl rfl)) (zd1 (zc6 (i:=5) zh1.nd rfl (Or.inl rfl)) zl7))))))
     (za4 (zb6 (i:=6) zh1.nd rfl (Or.inl rfl) (zb3 G_w_tilt hr_w_tilt rfl T.m_w_tilt T.k_w_tilt T.b_w_tilt .nil zc2 (za0 (pv 4) (za0 (pv 1) za3))))
     (za4 (zP6 (i:=7) rfl zE0 (pi_range2 rfl T.n_range (za0 (zk9 zg7 (pv 2)) (za0 (za9 zf0 (pv 2) za1) za3))) (fun _ _ _ _ _=>(zc6 (i:=0) zE0.nd rfl (Or.inl rfl))) (fun _ _ _ _ _=>(zF8 (PW.pt (zv3 (zb5 zi1 (pv 0) za1 (zb7 _)) (zu4 (zb5 zM1 (zP8 PySem.F.slot_tuple_count PySem.F.type_tuple_count (mt_countTK K rfl) (pv 2) (za0 (pv 0) za3)) (pv 1) (zb7 _))))))) (fun _ _ _ _ _=>(pv 0)) zh1.nd rfl rfl)
     (za4 (zb6 (i:=8) zh1.nd rfl (Or.inl rfl) (ze1 za3))
     (za4 (zp8 PassesOwn.never rfl (zm4 rfl T.n_range (za0 (zb2 zb9 rfl T.n_len PySem.boot_len (za0 (pv 4) za3)) za3)) (zc6 (i:=9) zh1.nd rfl (Or.inl rfl)) (za4 (zb6 (i:=10) zh1.nd rfl (Or.inl rfl) (za9 zf7 (pv 6) (za9 zh5 (zd0 zd5 (pv 4) (pv 9) (fun _ _=>rfl)) (zd0 zh6 (pv 1) (pv 9) (fun _ _=>rfl)))))
     (za6 (zd2 (zb5 zS2 (zb2 zl8 rfl T.n_abs PyProof.Rows.boot_abs (za0 (pv 10) za3)) (pv 5) (zb7 _)) (za6 (zp8 PassesOwn.never rfl (zE4 (pv 7)) (zc6 (i:=11) zh1.nd rfl (Or.inl rfl)) (za6 (zd2 (PW.pt (zs1 (zb5 zs8 (pv 11) (zd0 zh6 (pv 1) (pv 9) (fun _ _=>rfl)) (zb7 _)) (zo2 (zb5 zS2 (zb2 zl8 rfl T.n_abs PyProof.Rows.boot_abs (za0 (za9 zf0 (pv 10) (za9 zh5 (zd0 zd5 (pv 4) (pv 9) (fun _ _=>rfl)) (pv 11))) za3)) (pv 5) (zb7 _))))) (za6 (zf4 (zz8 PySem.F.plainAttrs_list PySem.F.slot_list_append PySem.F.type_list_append zm7 (pv 8) (za0 (za9 zr4 (za9 zr4 (zk5 zv4 (pv 1) zo3 (zl9 (pv 9))) (zu6 (za0 (pv 11) za3))) (zk5 zv4 (pv 1) (zl9 (za9 zf0 (pv 9) za1)) zo3)) za3)))) zb8)))) zb8))))
     (za6 (zc4 (pv 8)))))))),?_⟩
   have hlen:=V0.len
   have hw:=ok.w
   have n1:=ok.n1
   have n2:=ok.n2
   have hwide:wide n<=9:=by unfold wide;omega
   refine⟨_,rfl,c,_,rfl,hc,rfl,_,_,rfl,_,_,rfl,_,_,rfl,_,_,rfl,rfl,?_⟩
   refine⟨_,rfl,_,rfl,h,a,hs,xs,rfl,hh,.inr (SqT.of hT),⟨hlen.symm,by omega,ok.h⟩,?_⟩
   refine⟨_,rfl,_,rfl,_,rfl,_,_,rfl,rfl,-n,n+1,rfl,⟨by omega,by omega,by omega,by omega⟩,fun D hD=>?_⟩
   refine zD8 (fun j H'=>H'=upd H D (.lst ((zj0 n r xs j).map V.int))) rfl ?_ ?_
   . rintro j H' N hj rfl hN
     have hT':(upd H D (.lst ((zj0 n r xs j).map V.int))) a=some (.tup (xs.map V.int)):=Same.upd hD _ _ hT
     have hD':(upd H D (.lst ((zj0 n r xs j).map V.int))) D=some (.lst ((zj0 n r xs j).map V.int)):=za2
     have no:¬ (-n+(j:Int)=0\/(xs.count (-n+(j:Int)):Int)<r)->(upd H D (.lst ((zj0 n r xs j).map V.int)))=upd H D (.lst ((zj0 n r xs (j+1)).map V.int)):=fun z=>by rw[zG8,if_neg z,List.append_nil]
     have fl:=zJ4 n r xs j
     have yes:(-n+(j:Int)=0\/(xs.count (-n+(j:Int)):Int)<r)->upd (upd H D (.lst ((zj0 n r xs j).map V.int))) D (.lst ((zj0 n r xs j).map V.int++[.int (-n+(j:Int))]))=upd H D (.lst ((zj0 n r xs (j+1)).map V.int)):=fun z=>by
       rw[zk7,zG8,if_pos z,List.map_append]
       rfl
     refine⟨_,rfl,rfl,_,rfl,?_⟩
     rw[ze7]
     refine ite2 (fun h2=>?_) (fun h2=>?_)
     . refine iteT ⟨_,rfl,_,hD',zc9 (by rw[List.length_map];unfold wide at *;omega),hN _ (yes (.inl (by simpa using h2)))⟩
     . refine⟨_,rfl,⟨_,_,rfl,hT'⟩,_,rfl,_,xs,_,rfl,rfl,SqT.of hT',_,rfl,_,_,rfl,rfl,_,rfl,?_⟩
       refine ite2 (fun h3=>?_) (fun h3=>?_)
       . exact⟨_,rfl,_,hD',zc9 (by rw[List.length_map];unfold wide at *;omega),hN _ (yes (.inr (of_decide_eq_true h3)))⟩
       . exact hN _ (no fun z=>z.elim (fun z=>h2 (by simp[z])) (fun z=>h3 (decide_eq_true z)))
   . rintro H' rfl
     have s1:Same H (upd H D (.lst ((zj0 n r xs (n+1 - -n).toNat).map V.int))):=Same.upd hD
     have hD1:(upd H D (.lst ((zj0 n r xs (n+1 - -n).toNat).map V.int))) D=some (.lst ((zj0 n r xs (wide n)).map V.int)):=za2
     revert s1 hD1
     generalize upd H D (.lst ((zj0 n r xs (n+1 - -n).toNat).map V.int))=H1
     intro s1 hD1
     refine⟨Nat.zero_le _,fun m fm=>?_⟩
     have fm0:=s1.free fm
     have s2:Same H1 (upd H1 m (.lst [])):=Same.upd fm
     have hm2:(upd H1 m (.lst [])) m=some (.lst []):=za2
     revert s2 hm2
     generalize upd H1 m (.lst [])=H2
     intro s2 hm2
     refine⟨_,rfl,h,_,rfl,.inl ((s1.trans s2).seq hh),?_⟩
     rw[List.length_map]
     refine⟨_,rfl,by omega,by omega,zm5 (n:=((hs.length:Nat):Int).toNat) (fun i σ H'=>∃ v9 v10 v11 ys,σ=[some (.ref c),some (.ref a),some (.int n),some (.int r),some (.ref h),some (.int lim),some (.int (zc8 hs xs)),some (.ref D),some (.ref m),v9,v10,v11]/\Same H1 H'/\H' m=some (.lst ys)/\Tups H' ys (zE2 n r hs lim xs i)) ⟨none,none,none,[],rfl,s2,hm2,.nil⟩ ?_ ?_⟩
     . rintro i σ H3 hi ⟨v9,v10,v11,ys,rfl,s3,hm3,T3⟩
       have hi':i<hs.length:=by simpa using hi
       have e0:(0:Int)+(i:Int)=(i:Int):=by omega
       rw[e0]
       have ax:atI (xs.map V.int) (i:Int)=some (.int (xs.getD i 0)):=zf1 (by omega) (by omega)
       have ah:atI (hs.map V.int) (i:Int)=some (.int (hs.getD i 0)):=zf1 (by omega) (by omega)
       have hmem:=ok.h (hs.getD i 0) (zw8 hi')
       have s03:=s1.trans s3
       have hrl:=zI9 n r hs lim xs i
       have hmul:i*wide n<=5*9:=Nat.mul_le_mul (by omega) hwide
       have hnl:(zE2 n r hs lim xs i).length<=45:=by unfold zE2;rw[List.length_map];omega
       refine⟨_,rfl,_,rfl,_,rfl,h,_,_,_,rfl,rfl,s03.seq hh,ah,_,rfl,_,rfl,a,_,_,_,rfl,rfl,SqT.of (s03 _ _ hT),ax,_,_,rfl,rfl,.inl ⟨by omega,by omega⟩,_,_,rfl,rfl,?_⟩
       refine⟨_,rfl,_,rfl,_,rfl,_,_,rfl,rfl,_,rfl,?_⟩
       have eheld:zc8 hs xs-hs.getD i 0*xs.getD i 0=zi8 hs xs i:=rfl
       rw[eheld]
       refine ite2 (fun h1=>?_) (fun h1=>?_)
       . have h1':absI (zi8 hs xs i)<=lim:=of_decide_eq_true h1
         have hfr:=zJ4 n r xs (wide n)
         have hput:=freeL_puts n r hs lim xs i (wide n)
         have hmemF:∀ p∈zj0 n r xs (wide n),(-n<=p/\p<=n)/\(p≠0->(xs.count p:Int)<r):=fun p hp=>by
           obtain ⟨⟨k,hk,rfl⟩,h2⟩:=freeL_mem hp
           exact⟨by unfold wide at hk;omega,fun z=>h2.resolve_left z⟩
         have hD3:=s3 _ _ hD1
         generalize zj0 n r xs (wide n)=fr at hD3 hfr hput hmemF
         refine⟨_,rfl,D,rfl,⟨_,SqL.of hD3⟩,zz6 (K:=K) (a:=D) (xs:=fr.map V.int) (fun j σ H'=>∃ v11 ys,σ=[some (.ref c),some (.ref a),some (.int n),some (.int r),some (.ref h),some (.int lim),some (.int (zc8 hs xs)),some (.ref D),some (.ref m),some (.int (i:Int)),some (.int (zi8 hs xs i)),v11]/\Same H1 H'/\H' D=some (.lst (fr.map V.int))/\H' m=some (.lst ys) ∧
           Tups H' ys (zE2 n r hs lim xs i++((fr.take j).filter fun p=>decide (Lets n r hs lim xs i p)).map fun p=>xs.set i p)) ⟨v11,ys,rfl,s3,hD3,hm3,by simpa using T3⟩ (fun j σ H' _ ⟨_,_,_,_,e,_⟩=>SqL.of e) ?_ ?_⟩
         . rintro j x σ H4 hj ⟨v11,ys,rfl,s4,hD4,hm4,T4⟩
           obtain ⟨p,rfl,hz⟩:=zv8 hj
           obtain ⟨hp1,hp2⟩:=hmemF p (List.mem_of_getElem? hz)
           have etk:fr.take (j+1)=fr.take j++[p]:=by rw[List.take_succ,hz];rfl
           have s04:=s1.trans s4
           have no:¬ Lets n r hs lim xs i p->Tups H4 ys (zE2 n r hs lim xs i++((fr.take (j+1)).filter fun p=>decide (Lets n r hs lim xs i p)).map fun p=>xs.set i p):=fun z=>by
             rw[etk,filt_no (decide_eq_false z)]
             exact T4
           refine⟨_,rfl,_,rfl,_,rfl,a,_,_,_,rfl,rfl,SqT.of (s04 _ _ hT),ax,rfl,_,rfl,?_⟩
           rw[ze7]
           refine ite2 (fun h2=>?_) (fun h2=>?_)
           . have h2':p≠xs.getD i 0:=by simpa using h2
             refine⟨_,rfl,_,rfl,_,rfl,h,_,_,_,rfl,rfl,s04.seq hh,ah,_,rfl,_,_,rfl,rfl,.inl ⟨by omega,by omega⟩,_,_,rfl,rfl,_,rfl,_,rfl,_,_,rfl,rfl,_,rfl,?_⟩
             refine ite2 (fun h3=>?_) (fun h3=>?_)
             . have h3':absI (zi8 hs xs i+hs.getD i 0*p)<=lim:=of_decide_eq_true h3
               have L:Lets n r hs lim xs i p:=⟨by omega,hp1,h2',hp2,h1',h3'⟩
               refine⟨_,rfl,.inl ⟨rfl,_,SqL.of hm4⟩,?_⟩
               refine⟨_,rfl,_,rfl,_,rfl,a,_,rfl,SqT.of (s04 _ _ hT),?_,fun l1 f1=>?_⟩
               . rw[HT.sIx_none,HT.sIx_nat,List.length_map,Nat.min_eq_left (by omega)]
                 omega
               have sa:Same H4 (upd H4 l1 (.tup (cutV (xs.map V.int) none (some (i:Int))))):=Same.upd f1
               have ha:(upd H4 l1 (.tup (cutV (xs.map V.int) none (some (i:Int))))) l1=some (.tup (cutV (xs.map V.int) none (some (i:Int)))):=za2
               revert sa ha
               generalize upd H4 l1 (.tup (cutV (xs.map V.int) none (some (i:Int))))=Ha
               intro sa ha
               refine⟨_,rfl,(by show 1<=sizeLine;decide),fun l2 f2=>?_⟩
               have sb:Same Ha (upd Ha l2 (.tup [.int p])):=Same.upd f2
               have hb:(upd Ha l2 (.tup [.int p])) l2=some (.tup [.int p]):=za2
               revert sb hb
               generalize upd Ha l2 (.tup [.int p])=Hb
               intro sb hb
               have len1:=zj2 (xs.map V.int) none (some (i:Int))
               rw[List.length_map] at len1
               refine⟨l1,l2,_,_,rfl,rfl,sb _ _ ha,hb,Nat.le_of_lt (zc9 (by show _+1<=_;omega)),fun l3 Hc sc hc3=>?_⟩
               have s4c:=sa.trans (sb.trans sc)
               have s0c:=s04.trans s4c
               refine⟨_,rfl,_,rfl,_,_,rfl,rfl,_,rfl,a,_,rfl,SqT.of (s0c _ _ hT),?_,fun l4 f4=>?_⟩
               . rw[show ((i:Int)+1)=((i+1:Nat):Int) by omega,HT.sIx_nat,List.length_map]
                 omega
               have sd:Same Hc (upd Hc l4 (.tup (cutV (xs.map V.int) (some ((i:Int)+1)) none))):=Same.upd f4
               have hd:(upd Hc l4 (.tup (cutV (xs.map V.int) (some ((i:Int)+1)) none))) l4=some (.tup (cutV (xs.map V.int) (some ((i:Int)+1)) none)):=za2
               revert sd hd
               generalize upd Hc l4 (.tup (cutV (xs.map V.int) (some ((i:Int)+1)) none))=Hd
               intro sd hd
               have e5:=zF0 xs i p (by omega)
               refine⟨l3,l4,_,_,rfl,rfl,sd _ _ hc3,hd,?_,fun l5 He se he=>?_⟩
               . rw[<-List.length_append,e5,List.length_map,List.length_set]
                 exact Nat.le_of_lt (zc9 (by omega))
               rw[e5] at he
               have s4e:=s4c.trans (sd.trans se)
               have hme:=s4e _ _ hm4
               have hyl:=zm0 T4
               rw[List.length_append,List.length_map] at hyl
               have hfl:((fr.take j).filter fun p=>decide (Lets n r hs lim xs i p)).length<=fr.length:=Nat.le_trans (List.length_filter_le _ _) (by rw[List.length_take];omega)
               refine⟨m,_,_,rfl,rfl,hme,zc9 (by omega),?_⟩
               refine⟨_,_,rfl,(s4.trans s4e).put fm,by rw[za7 (zb0 hD1 fm)];exact s4e _ _ hD4,za2,?_⟩
               rw[etk,filt_yes (decide_eq_true L),List.map_append,<-List.append_assoc]
               refine zx6 (zo7 hme (fun _ z=>nomatch z) (s4e.tups T4)) ?_
               rw[za7 (fun z=>by rw[z,hme] at he;cases he)]
               exact he
             . exact⟨_,_,rfl,s4,hD4,hm4,no fun L=>h3 (decide_eq_true L.behind)⟩
           . have h2':p=xs.getD i 0:=by simpa using h2
             exact iteF ⟨_,_,rfl,s4,hD4,hm4,no fun L=>L.ne h2'⟩
         . rintro σ H4 ⟨v11,ys,rfl,s4,hD4,hm4,T4⟩
           rw[List.length_map,List.take_length,hput,<-zG9] at T4
           exact⟨_,_,_,ys,rfl,s4,hm4,T4⟩
       . have h1':¬ absI (zi8 hs xs i)<=lim:=fun z=>h1 (decide_eq_true z)
         refine⟨_,_,_,ys,rfl,s3,hm3,?_⟩
         rw[zG9,putsL_nil _ h1']
         simpa using T3
     . rintro σ H3 ⟨v9,v10,v11,ys,rfl,s3,hm3,T3⟩
       rw[Int.toNat_natCast,<-hlen] at T3
       exact⟨_,rfl,q m H3 ys (s1.trans s3) fm0 hm3 T3⟩
noncomputable def zJ6 (K:PySem.W.Frag) (t:Adr):Sp:=fun vs H Q _=>∃ (c:Addr) (n r lim:Int) (hs:List Int),vs=[.ref c]/\zm2 K H c n r hs lim/\∀ b H',Same H H'->zh2 t H' b n r hs lim->Q (.ref b) H'
theorem ok_w_beam (T:Txt K mg t):FnOk P w K mg base CX0 5 t.a_w_beam t.d_w_beam ["_law_scale"] (zJ6 K t):=by
 have G_Beam_init:FnOk P w K mg base CX0 3 t.a_Beam_init t.d_Beam_init ["self","notches","room","hefts","limit"] (zB2 K t):=ok_Beam_init T
 refine T.F_w_beam.ok sc_w_beam (fun vs H Q E h=>?_) (fun cdv A outer s H vs Q E hr h=>?_)
 . obtain ⟨c,n,r,lim,hs,rfl,⟨h,ok,hc,hh⟩,q⟩:=h
   rfl
 . obtain ⟨c,n,r,lim,hs,rfl,⟨h,ok,hc,hh⟩,q⟩:=h
   have hr_Beam:Room 4 _:=hr.mono (by decide)
   refine⟨_,(za6 (zc4 (zP0 T.mk_Beam G_Beam_init hr_Beam rfl T.m_Beam T.b_Beam_init .nil zc2 (za0 (zd0 zd5 (pv 0) za1 (fun _ _=>rfl)) (za0 (zd0 zd5 (pv 0) za1 (fun _ _=>rfl)) (za0 (zj5 zo4 rfl T.n_list PyProof.Rows.boot_list (za0 (zd0 zd5 (pv 0) za1 (fun _ _=>rfl)) za3)) (za0 (zd0 zd5 (pv 0) za1 (fun _ _=>rfl)) za3))))))),?_⟩
   refine⟨_,rfl,c,_,_,_,rfl,rfl,hc,rfl,?_⟩
   refine⟨_,rfl,c,_,_,_,rfl,rfl,hc,rfl,?_⟩
   refine⟨_,rfl,c,_,_,_,rfl,rfl,hc,rfl,h,_,rfl,.inl hh,fun l3 f3=>?_⟩
   have s3:Same H (upd H l3 (.lst (hs.map V.int))):=Same.upd f3
   refine⟨_,rfl,c,_,_,_,rfl,rfl,s3.seq hc,rfl,fun b dx fb fdx ndx=>?_⟩
   have s4:Same H (upd (upd (upd H l3 (.lst (hs.map V.int))) dx (.own b)) b (.ins t.c_Beam dx [])):=(s3.updT fdx).updT (by rw[za7 (Ne.symm ndx)];exact fb)
   have e3b:l3≠b:=fun e=>by rw[<-e,za2] at fb;cases fb
   have e3d:l3≠dx:=fun e=>by rw[<-e,za2] at fdx;cases fdx
   refine⟨b,dx,l3,n,r,lim,hs,rfl,za2,.inl (SqL.of (by rw[za7 e3b,za7 e3d,za2])),ok,fun H5 B5 s5=>⟨rfl,?_⟩⟩
   have fb2:H b=none:=s3.free fb
   exact q b H5 (fun c o e=>s5 c o (s4 c o e) (zb0 e fb2)) B5
end
end Bt
namespace Bt
open PySem L2
section
variable {P:Program} {w:World} {K:PySem.W.Frag} {mg:Str->Option Value} {base:Heap} {t:Adr}
structure zk4 (H H':Hp) (l sc h st go:Addr) (n r lim:Int) (hs s g:List Int):Prop where
 sm:Same H H'
 fsc:H sc=none
 fh:H h=none
 hl:H' l=some (.lst [.ref sc,.ref st,.ref go])
 hsc:H' sc=some (.lst [.int n,.int r,.ref h,.int lim])
 hh:H' h=some (.lst (hs.map V.int))
 hst:H' st=some (.tup (s.map V.int))
 hgo:H' go=some (.tup (g.map V.int))
 ok:zi7 n r hs lim
 vs:zf8 n r hs.length s
 vg:zf8 n r hs.length g
 ks:absI (zc8 hs s)<=lim
 kg:absI (zc8 hs g)<=lim
theorem zk4.mk5 {H:Hp} {h sc st go l:Addr} {n r lim:Int} {hs s g:List Int} (f1:H h=none) (f2:(upd H h (.lst (hs.map V.int))) sc=none) (f3:(upd (upd H h (.lst (hs.map V.int))) sc (.lst [.int n,.int r,.ref h,.int lim])) st=none)
   (f4:(upd (upd (upd H h (.lst (hs.map V.int))) sc (.lst [.int n,.int r,.ref h,.int lim])) st (.tup (s.map V.int))) go=none) (f5:(upd (upd (upd (upd H h (.lst (hs.map V.int))) sc (.lst [.int n,.int r,.ref h,.int lim])) st (.tup (s.map V.int))) go (.tup (g.map V.int))) l=none)
   (ok:zi7 n r hs lim) (v1:zf8 n r hs.length s) (v2:zf8 n r hs.length g) (k1:absI (zc8 hs s)<=lim) (k2:absI (zc8 hs g)<=lim) :
   zk4 H (upd (upd (upd (upd (upd H h (.lst (hs.map V.int))) sc (.lst [.int n,.int r,.ref h,.int lim])) st (.tup (s.map V.int))) go (.tup (g.map V.int))) l (.lst [.ref sc,.ref st,.ref go])) l sc h st go n r lim hs s g:=by
 have s5:=Same.upd (o:=.lst [.ref sc,.ref st,.ref go]) f5
 have s4:=(Same.upd (o:=.tup (g.map V.int)) f4).trans s5
 have s3:=(Same.upd (o:=.tup (s.map V.int)) f3).trans s4
 have s2:=(Same.upd (o:=.lst [.int n,.int r,.ref h,.int lim]) f2).trans s3
 exact⟨(Same.upd f1).trans s2,(Same.upd f1).free f2,f1,za2,s3 _ _ za2,s2 _ _ za2,s4 _ _ za2,s5 _ _ za2,ok,v1,v2,k1,k2⟩
theorem zk4.mk4 {H:Hp} {h sc st go l:Addr} {n r lim:Int} {hs s g:List Int} (hst:H st=some (.tup (s.map V.int))) (f1:H h=none) (f2:(upd H h (.lst (hs.map V.int))) sc=none)
   (f4:(upd (upd H h (.lst (hs.map V.int))) sc (.lst [.int n,.int r,.ref h,.int lim])) go=none) (f5:(upd (upd (upd H h (.lst (hs.map V.int))) sc (.lst [.int n,.int r,.ref h,.int lim])) go (.tup (g.map V.int))) l=none)
   (ok:zi7 n r hs lim) (v1:zf8 n r hs.length s) (v2:zf8 n r hs.length g) (k1:absI (zc8 hs s)<=lim) (k2:absI (zc8 hs g)<=lim) :
   zk4 H (upd (upd (upd (upd H h (.lst (hs.map V.int))) sc (.lst [.int n,.int r,.ref h,.int lim])) go (.tup (g.map V.int))) l (.lst [.ref sc,.ref st,.ref go])) l sc h st go n r lim hs s g:=by
 have s5:=Same.upd (o:=.lst [.ref sc,.ref st,.ref go]) f5
 have s4:=(Same.upd (o:=.tup (g.map V.int)) f4).trans s5
 have s2:=(Same.upd (o:=.lst [.int n,.int r,.ref h,.int lim]) f2).trans s4
 have s1:=(Same.upd (o:=.lst (hs.map V.int)) f1).trans s2
 exact⟨s1,(Same.upd f1).free f2,f1,za2,s4 _ _ za2,s2 _ _ za2,s1 _ _ hst,s5 _ _ za2,ok,v1,v2,k1,k2⟩
theorem zk4.from {H H1 H':Hp} {l sc h st go:Addr} {n r lim:Int} {hs s g:List Int} (s1:Same H H1) (C:zk4 H1 H' l sc h st go n r lim hs s g):zk4 H H' l sc h st go n r lim hs s g :=
 ⟨s1.trans C.sm,s1.free C.fsc,s1.free C.fh,C.hl,C.hsc,C.hh,C.hst,C.hgo,C.ok,C.vs,C.vg,C.ks,C.kg⟩
noncomputable def zJ7 (K:PySem.W.Frag) (t:Adr):Sp:=fun vs H Q _=>∃ c:Int,vs=[.int c]/\∀ l sc h st go H' n r lim hs s g,zk4 H H' l sc h st go n r lim hs s g->Q (.ref l) H'
theorem ok_w_hard (T:Txt K mg t):FnOk P w K mg base CX0 1 t.a_w_hard t.d_w_hard ["_law_cell"] (zJ7 K t):=by
 refine T.F_w_hard.ok zC9 (fun vs H Q E h=>?_) (fun cdv A outer s H vs Q E hr h=>?_)
 . obtain ⟨c,rfl,q⟩:=h
   rfl
 . obtain ⟨c,rfl,q⟩:=h
   refine⟨_,(WSs.h (zt1 (zT1 (i:=1) zC9.nd rfl (Or.inl rfl) (WE.mk (za9 zd4 (za9 zg2 (pv 0) za1) za1)))
     (zt1 (zQ5 (zb5 zi1 (za9 zd4 (pv 0) za1) za1 (zb7 _)) (zA5 (zG1 (zk3 (za8 (zk3 (za8 (WE.mk za1) (za8 (WE.mk za1) (za8 (zk3 (za8 (WE.mk za1) (za8 (WE.mk za1) (za8 (WE.mk za1) (za8 (WE.mk za1) (za8 (WE.mk za1) zf3)))))) (za8 (WE.mk (za9 zf0 za1 (pv 1))) zf3))))) (za8 (zn9 (za8 (WE.mk (zk9 zg7 za1)) (za8 (WE.mk (zk9 zg7 za1)) (za8 (WE.mk za1) (za8 (WE.mk za1) (za8 (WE.mk za1) zf3)))))) (za8 (zn9 (za8 (WE.mk za1) (za8 (WE.mk za1) (za8 (WE.mk (zk9 zg7 za1)) (za8 (WE.mk za1) (za8 (WE.mk (zk9 zg7 za1)) zf3)))))) zf3)))))) zE9)
     (zt1 (zQ5 (zb5 zi1 (za9 zd4 (pv 0) za1) za1 (zb7 _)) (zA5 (zG1 (zk3 (za8 (zk3 (za8 (WE.mk za1) (za8 (WE.mk za1) (za8 (zk3 (za8 (WE.mk za1) (za8 (WE.mk za1) (za8 (WE.mk za1) (za8 (WE.mk za1) zf3))))) (za8 (WE.mk (za9 zf0 za1 (pv 1))) zf3))))) (za8 (zn9 (za8 (WE.mk za1) (za8 (WE.mk za1) (za8 (WE.mk za1) (za8 (WE.mk (zk9 zg7 za1)) zf3))))) (za8 (zn9 (za8 (WE.mk (zk9 zg7 za1)) (za8 (WE.mk za1) (za8 (WE.mk (zk9 zg7 za1)) (za8 (WE.mk za1) zf3))))) zf3)))))) zE9)
     (zt1 (zQ5 (zb5 zi1 (za9 zd4 (pv 0) za1) za1 (zb7 _)) (zA5 (zG1 (zk3 (za8 (zk3 (za8 (WE.mk za1) (za8 (WE.mk za1) (za8 (zk3 (za8 (WE.mk za1) (za8 (WE.mk za1) (za8 (WE.mk za1) zf3)))) (za8 (WE.mk (za9 zf0 za1 (pv 1))) zf3))))) (za8 (zn9 (za8 (WE.mk za1) (za8 (WE.mk (zk9 zg7 za1)) (za8 (WE.mk za1) zf3)))) (za8 (zn9 (za8 (WE.mk za1) (za8 (WE.mk za1) (za8 (WE.mk (zk9 zg7 za1)) zf3)))) zf3)))))) zE9)
     (zt1 (zQ5 (zb5 zi1 (za9 zd4 (pv 0) za1) za1 (zb7 _)) (zA5 (zG1 (zk3 (za8 (zk3 (za8 (WE.mk za1) (za8 (WE.mk za1) (za8 (zk3 (za8 (WE.mk za1) (za8 (WE.mk za1) (za8 (WE.mk za1) zf3)))) (za8 (WE.mk (za9 zf0 za1 (pv 1))) zf3))))) (za8 (zn9 (za8 (WE.mk za1) (za8 (WE.mk za1) (za8 (WE.mk (zk9 zg7 za1)) zf3)))) (za8 (zn9 (za8 (WE.mk za1) (za8 (WE.mk (zk9 zg7 za1)) (za8 (WE.mk za1) zf3)))) zf3)))))) zE9)
     (zt1 (zT1 (i:=2) zC9.nd rfl (Or.inl rfl) (we_ix zd5 (zk3 (za8 (zn9 (za8 (WE.mk za1) (za8 (WE.mk za1) (za8 (WE.mk za1) zf3)))) (za8 (zn9 (za8 (WE.mk (zk9 zg7 za1)) (za8 (WE.mk (zk9 zg7 za1)) (za8 (WE.mk (zk9 zg7 za1)) zf3)))) (za8 (zn9 (za8 (WE.mk za1) (za8 (WE.mk za1) (za8 (WE.mk za1) zf3)))) zf3)))) (WE.mk (za9 zf7 (za9 zd4 (pv 0) za1) za1)) (fun _ _=>rfl)))
     (zA5 (zG1 (zk3 (za8 (zk3 (za8 (WE.mk za1) (za8 (WE.mk za1) (za8 (zk3 (za8 (WE.mk za1) (za8 (WE.mk za1) (za8 (WE.mk za1) zf3)))) (za8 (WE.mk (za9 zf0 za1 (pv 1))) zf3))))) (za8 (WE.mk (pv 2)) (za8 (zn9 (za8 (WE.mk za1) (za8 (WE.mk za1) (za8 (WE.mk za1) zf3)))) zf3))))))))))))),?_⟩
   refine⟨_,rfl,_,_,rfl,rfl,⟨by decide,by decide⟩,_,_,rfl,rfl,(by show (0:Int)<3;decide),?_⟩
   refine⟨_,rfl,_,_,rfl,rfl,(by show (0:Int)<7;decide),rfl,_,rfl,?_⟩
   have m0:0<=c / 7 % 3:=Int.emod_nonneg _ (by decide)
   have m1:c / 7 % 3<3:=Int.emod_lt_of_pos _ (by decide)
   have c0:0<=c % 7:=Int.emod_nonneg _ (by decide)
   have c1:c % 7<7:=Int.emod_lt_of_pos _ (by decide)
   rw[ze7]
   refine ite2 (fun h0=>?_) (fun h0=>?_)
   . refine⟨(by show 5<=sizeLine;decide),fun h f1=>⟨_,rfl,_,_,rfl,rfl,(by show 4<=sizeLine;decide),fun sc f2=>⟨_,rfl,_,rfl,(by show 5<=sizeLine;decide),fun st f3=>⟨_,rfl,_,rfl,(by show 5<=sizeLine;decide),fun go f4=>⟨(by show 3<=sizeLine;decide),fun l f5=>?_⟩⟩⟩⟩⟩
     have t1:absI (zc8 [13,20,16,15,8] [-1,-1,1,0,1])=9:=by decide
     have t2:absI (zc8 [13,20,16,15,8] [1,1,-1,0,-1])=9:=by decide
     exact q l sc h st go _ 1 2 (9+c / 7 % 3) [13,20,16,15,8] [-1,-1,1,0,1] [1,1,-1,0,-1] (zk4.mk5 (n:=1) (r:=2) (lim:=(9+c / 7 % 3)) (hs:=[13,20,16,15,8]) (s:=[-1,-1,1,0,1]) (g:=[1,1,-1,0,-1]) f1 f2 f3 f4 f5 ⟨by decide,by decide,by decide,by decide,by omega,by omega,by decide,by decide,by decide⟩ ⟨rfl,by decide,by decide⟩ ⟨rfl,by decide,by decide⟩ (by omega) (by omega))
   have g0:c % 7≠0:=by simpa using h0
   refine⟨_,rfl,_,_,rfl,rfl,(by show (0:Int)<7;decide),rfl,_,rfl,?_⟩
   rw[ze7]
   refine ite2 (fun h1=>?_) (fun h1=>?_)
   . refine⟨(by show 4<=sizeLine;decide),fun h f1=>⟨_,rfl,_,_,rfl,rfl,(by show 4<=sizeLine;decide),fun sc f2=>⟨_,rfl,(by show 4<=sizeLine;decide),fun st f3=>⟨_,rfl,_,rfl,(by show 4<=sizeLine;decide),fun go f4=>⟨(by show 3<=sizeLine;decide),fun l f5=>?_⟩⟩⟩⟩⟩
     have t1:absI (zc8 [9,16,11,15] [2,0,1,-2])=1:=by decide
     have t2:absI (zc8 [9,16,11,15] [-2,0,-1,2])=1:=by decide
     exact q l sc h st go _ 2 1 (14+c / 7 % 3) [9,16,11,15] [2,0,1,-2] [-2,0,-1,2] (zk4.mk5 (n:=2) (r:=1) (lim:=(14+c / 7 % 3)) (hs:=[9,16,11,15]) (s:=[2,0,1,-2]) (g:=[-2,0,-1,2]) f1 f2 f3 f4 f5 ⟨by decide,by decide,by decide,by decide,by omega,by omega,by decide,by decide,by decide⟩ ⟨rfl,by decide,by decide⟩ ⟨rfl,by decide,by decide⟩ (by omega) (by omega))
   have g1:c % 7≠1:=by simpa using h1
   refine⟨_,rfl,_,_,rfl,rfl,(by show (0:Int)<7;decide),rfl,_,rfl,?_⟩
   rw[ze7]
   refine ite2 (fun h2=>?_) (fun h2=>?_)
   . refine⟨(by show 3<=sizeLine;decide),fun h f1=>⟨_,rfl,_,_,rfl,rfl,(by show 4<=sizeLine;decide),fun sc f2=>⟨_,rfl,(by show 3<=sizeLine;decide),fun st f3=>⟨_,rfl,(by show 3<=sizeLine;decide),fun go f4=>⟨(by show 3<=sizeLine;decide),fun l f5=>?_⟩⟩⟩⟩⟩
     have t1:absI (zc8 [15,19,16] [1,-3,3])=6:=by decide
     have t2:absI (zc8 [15,19,16] [1,3,-3])=24:=by decide
     exact q l sc h st go _ 3 2 (28+c / 7 % 3) [15,19,16] [1,-3,3] [1,3,-3] (zk4.mk5 (n:=3) (r:=2) (lim:=(28+c / 7 % 3)) (hs:=[15,19,16]) (s:=[1,-3,3]) (g:=[1,3,-3]) f1 f2 f3 f4 f5 ⟨by decide,by decide,by decide,by decide,by omega,by omega,by decide,by decide,by decide⟩ ⟨rfl,by decide,by decide⟩ ⟨rfl,by decide,by decide⟩ (by omega) (by omega))
   have g2:c % 7≠2:=by simpa using h2
   refine⟨_,rfl,_,_,rfl,rfl,(by show (0:Int)<7;decide),rfl,_,rfl,?_⟩
   rw[ze7]
   refine ite2 (fun h3=>?_) (fun h3=>?_)
   . refine⟨(by show 3<=sizeLine;decide),fun h f1=>⟨_,rfl,_,_,rfl,rfl,(by show 4<=sizeLine;decide),fun sc f2=>⟨_,rfl,(by show 3<=sizeLine;decide),fun st f3=>⟨_,rfl,(by show 3<=sizeLine;decide),fun go f4=>⟨(by show 3<=sizeLine;decide),fun l f5=>?_⟩⟩⟩⟩⟩
     have t1:absI (zc8 [14,20,18] [2,3,-4])=16:=by decide
     have t2:absI (zc8 [14,20,18] [1,-3,4])=26:=by decide
     exact q l sc h st go _ 4 3 (38+c / 7 % 3) [14,20,18] [2,3,-4] [1,-3,4] (zk4.mk5 (n:=4) (r:=3) (lim:=(38+c / 7 % 3)) (hs:=[14,20,18]) (s:=[2,3,-4]) (g:=[1,-3,4]) f1 f2 f3 f4 f5 ⟨by decide,by decide,by decide,by decide,by omega,by omega,by decide,by decide,by decide⟩ ⟨rfl,by decide,by decide⟩ ⟨rfl,by decide,by decide⟩ (by omega) (by omega))
   have g3:c % 7≠3:=by simpa using h3
   refine⟨(by show 3<=sizeLine;decide),fun t1 e1=>⟨_,rfl,_,rfl,_,rfl,(by show 3<=sizeLine;decide),fun t2 e2=>⟨(by show 3<=sizeLine;decide),fun t3 e3=>⟨(by show 3<=sizeLine;decide),fun ll e4=>?_⟩⟩⟩⟩
   have s4:=(((Same.upd (o:=.tup [.int 0,.int 0,.int 0]) e1).updT (o:=.tup [.int (-4),.int (-4),.int (-4)]) e2).updT (o:=.tup [.int 4,.int 4,.int 4]) e3).updT (o:=.lst [.ref t1,.ref t2,.ref t3]) e4
   have k1:(upd (upd (upd (upd H t1 (.tup [.int 0,.int 0,.int 0])) t2 (.tup [.int (-4),.int (-4),.int (-4)])) t3 (.tup [.int 4,.int 4,.int 4])) ll (.lst [.ref t1,.ref t2,.ref t3])) t1=some (.tup (([0,0,0]:List Int).map V.int)):=Same.upd e4 _ _ (Same.upd e3 _ _ (Same.upd e2 _ _ za2))
   have k2:(upd (upd (upd (upd H t1 (.tup [.int 0,.int 0,.int 0])) t2 (.tup [.int (-4),.int (-4),.int (-4)])) t3 (.tup [.int 4,.int 4,.int 4])) ll (.lst [.ref t1,.ref t2,.ref t3])) t2=some (.tup (([-4,-4,-4]:List Int).map V.int)):=Same.upd e4 _ _ (Same.upd e3 _ _ za2)
   have k3:(upd (upd (upd (upd H t1 (.tup [.int 0,.int 0,.int 0])) t2 (.tup [.int (-4),.int (-4),.int (-4)])) t3 (.tup [.int 4,.int 4,.int 4])) ll (.lst [.ref t1,.ref t2,.ref t3])) t3=some (.tup (([4,4,4]:List Int).map V.int)):=Same.upd e4 _ _ za2
   have k4:(upd (upd (upd (upd H t1 (.tup [.int 0,.int 0,.int 0])) t2 (.tup [.int (-4),.int (-4),.int (-4)])) t3 (.tup [.int 4,.int 4,.int 4])) ll (.lst [.ref t1,.ref t2,.ref t3])) ll=some (.lst [.ref t1,.ref t2,.ref t3]):=za2
   dsimp only
   revert s4 k1 k2 k3 k4
   generalize upd (upd (upd (upd H t1 (.tup [.int 0,.int 0,.int 0])) t2 (.tup [.int (-4),.int (-4),.int (-4)])) t3 (.tup [.int 4,.int 4,.int 4])) ll (.lst [.ref t1,.ref t2,.ref t3])=H4
   intro s4 k1 k2 k3 k4
   have hy:∃ y x,atI [V.ref t1,V.ref t2,V.ref t3] (c % 7-4)=some (.ref y)/\H4 y=some (.tup (x.map V.int))/\zf8 4 3 3 x/\absI (zc8 [20,20,20] x)<=240:=by
     have:c % 7=4\/c % 7=5\/c % 7=6:=by omega
     rcases this with e | e | e<;>rw[e]
     . exact⟨t1,[0,0,0],rfl,k1,⟨rfl,by decide,by decide⟩,by decide⟩
     . exact⟨t2,[-4,-4,-4],rfl,k2,⟨rfl,by decide,by decide⟩,by decide⟩
     . exact⟨t3,[4,4,4],rfl,k3,⟨rfl,by decide,by decide⟩,by decide⟩
   obtain ⟨y,x,ay,hyx,Vx,kx⟩:=hy
   refine⟨_,rfl,_,_,rfl,rfl,(by show (0:Int)<7;decide),_,_,rfl,rfl,ll,_,_,_,rfl,rfl,SqL.of k4,ay,?_⟩
   refine⟨(by show 3<=sizeLine;decide),fun h f1=>⟨_,rfl,_,_,rfl,rfl,(by show 4<=sizeLine;decide),fun sc f2=>⟨_,rfl,(by show 3<=sizeLine;decide),fun go f4=>⟨(by show 3<=sizeLine;decide),fun l f5=>?_⟩⟩⟩⟩
   have t2:absI (zc8 [20,20,20] [4,4,4])=240:=by decide
   exact q l sc h y go _ 4 3 (240+c / 7 % 3) [20,20,20] x [4,4,4] (zk4.from s4 (zk4.mk4 (n:=4) (r:=3) (lim:=240+c / 7 % 3) (hs:=[20,20,20]) (s:=x) (g:=[4,4,4]) hyx f1 f2 f4 f5 ⟨by decide,by decide,by decide,by decide,by omega,by omega,by decide,by decide,by decide⟩ Vx ⟨rfl,by decide,by decide⟩ (by omega) (by omega)))
end
end Bt
namespace Bt
open PySem L2
section
variable {P:Program} {w:World} {K:PySem.W.Frag} {mg:Str->Option Value} {base:Heap} {t:Adr}
theorem st_eq {T:TS} {D:Ends} {σ σ':St} {H:Hp} (e:σ=σ') (h:T D σ' H):T D σ H:=e▸h
theorem use_finA {R:Addr->Hp->Prop} {S:Addr->Hp->Prop} {G:Prop} (main:(∀ o H',S o H'->R o H')->G) (fin:∀ o H',S o H'->R o H'):G:=main fin
theorem use_finB {R:Addr->Addr->Option V->Hp->Prop} {S:Addr->Addr->Hp->Prop} {G:Prop} (main:(∀ x y v H',S x y H'->R x y v H')->G) (fin:∀ x y v H',S x y H'->R x y v H'):G:=main fin
theorem rep0 (k:Nat):(List.replicate k [V.int 0]).flatten=(List.replicate k (0:Int)).map V.int:=by
 induction k with
 | zero=>rfl
 | succ k ih=>rw[List.replicate_succ,List.flatten_cons,ih,List.replicate_succ,List.map_cons];rfl
theorem valid0 {n r:Int} (hn:1<=n) (k:Nat):zf8 n r k (List.replicate k 0) :=
 ⟨List.length_replicate,fun x hx=>by rw[(List.mem_replicate.mp hx).2];omega,fun x hx h0=>absurd (List.mem_replicate.mp hx).2 h0⟩
theorem validP {n r nt:Int} (hr:1<=r) (h1:1<=nt) (h2:nt<=n) (k:Nat):zf8 n r (k+2) (nt::-nt::List.replicate k 0):=by
 refine⟨by simp,fun x hx=>?_,fun x hx h0=>?_⟩
 . rcases List.mem_cons.mp hx with rfl | hx
   . omega
   . rcases List.mem_cons.mp hx with rfl | hx
     . omega
     . rw[(List.mem_replicate.mp hx).2];omega
 . have hz:(List.replicate k (0:Int)).count x=0:=List.count_eq_zero.mpr fun z=>h0 (List.mem_replicate.mp z).2
   rw[List.count_cons,List.count_cons,hz]
   by_cases e1:nt=x
   . have e2:¬ (-nt=x):=by omega
     simp[e1,e2]
     split<;>omega
   . by_cases e2:-nt=x
     . simp[e1,e2];omega
     . simp[e1,e2];omega
noncomputable def zJ8 (K:PySem.W.Frag) (t:Adr):Sp:=fun vs H Q _=>∃ (a:Addr) (ns:List Int),vs=[.ref a]/\SqL K H a (ns.map V.int)/\∀ l sc h st go H' n r lim hs s g,zk4 H H' l sc h st go n r lim hs s g->Q (.ref l) H'
theorem ok_w_case (T:Txt K mg t):FnOk P w K mg base CX0 3 t.a_w_case t.d_w_case ["_law_script"] (zJ8 K t):=by
 have G_w_shape:FnOk P w K mg base CX0 2 t.a_w_shape t.d_w_shape ["_law_script"] (zG4 K t):=ok_w_shape T
 have G_w_put:FnOk P w K mg base CX0 2 t.a_w_put t.d_w_put ["_law_script","_law_k","_law_more","_law_shape_here"] (zN2 K t):=ok_w_put T
 have G_w_at:FnOk P w K mg base CX0 1 t.a_w_at t.d_w_at ["_law_script","_law_k"] (zy2 K t):=zC0 T
 have G_w_hard:FnOk P w K mg base CX0 1 t.a_w_hard t.d_w_hard ["_law_cell"] (zJ7 K t):=ok_w_hard T
 have G_w_tilt:FnOk P w K mg base CX0 1 t.a_w_tilt t.d_w_tilt ["_law_hefts","_law_spots"] (zy4 K t):=zD5 T
 have G_w_limit:FnOk P w K mg base CX0 2 t.a_w_limit t.d_w_limit ["_law_script","_law_low"] (zG7 K t):=ok_w_limit T
 refine T.F_w_case.ok zg0 (fun vs H Q E h=>?_) (fun cdv A outer s H vs Q E hr h=>?_)
 . obtain ⟨a,ns,rfl,hS,q⟩:=h
   rfl
 . obtain ⟨a,ns,rfl,hS,q⟩:=h
   have hr_w_shape:Room 2 _:=hr.mono (by decide)
   have hr_w_put:Room 2 _:=hr.mono (by decide)
   have hr_w_at:Room 1 _:=hr.mono (by decide)
   have hr_w_hard:Room 1 _:=hr.mono (by decide)
   have hr_w_tilt:Room 1 _:=hr.mono (by decide)
   have hr_w_limit:Room 2 _:=hr.mono (by decide)
   refine⟨_,(za4 (zb6 (i:=1) zg0.nd rfl (Or.inl rfl) (zb3 G_w_shape hr_w_shape rfl T.m_w_shape T.k_w_shape T.b_w_shape .nil zc2 (zc3 (pv 0) za3)))
     (za4 (zs3 (pv 1) (zv5 rfl (zd1 (zc6 (i:=2) zg0.nd rfl (Or.inl rfl)) (zd1 (zc6 (i:=3) zg0.nd rfl (Or.inl rfl)) (zd1 (zc6 (i:=4) zg0.nd rfl (Or.inl rfl)) zl7)))))
     (za4 (zb6 (i:=5) zg0.nd rfl (Or.inl rfl) (zb3 G_w_put hr_w_put rfl T.m_w_put T.k_w_put T.b_w_put .nil zc2 (zc3 (pv 0) (zc3 za1 (zc3 za1 (zc3 (pv 1) za3))))))
     (za4 (zb6 (i:=6) zg0.nd rfl (Or.inl rfl) (zb3 G_w_put hr_w_put rfl T.m_w_put T.k_w_put T.b_w_put .nil zc2 (zc3 (pv 0) (zc3 za1 (zc3 za1 (zc3 (pv 1) za3))))))
     (za4 (zb6 (i:=7) zg0.nd rfl (Or.inl rfl) (zb3 G_w_at hr_w_at rfl T.m_w_at T.k_w_at T.b_w_at .nil zc2 (zc3 (pv 0) (zc3 za1 za3))))
     (za4 (zd2 (zb5 zi1 (za9 zd4 (pv 7) za1) za1 (zb7 _)) (za6 (zc4 (zb3 G_w_hard hr_w_hard rfl T.m_w_hard T.k_w_hard T.b_w_hard .nil zc2 (zc3 (za9 zg2 (pv 7) za1) za3)))) zb8)
     (za4 (zd2 (zb5 zi1 (za9 zd4 (pv 7) za1) za1 (zb7 _)) (za6 (zb6 (i:=6) zg0.nd rfl (Or.inl rfl) (zj5 zo4 rfl T.n_list PyProof.Rows.boot_list (zc3 (pv 5) za3)))) zb8)
     (za4 (zd2 (PW.pt (zs1 (zb5 zi1 (za9 zd4 (pv 7) za1) za1 (zb7 _)) (zo2 (zb5 zp9 (zb2 zb9 rfl T.n_len PySem.boot_len (zc3 (pv 4) za3)) za1 (zb7 _))))) (za4 (zs3 (zd0 zd5 (pv 4) za1 (fun _ _=>rfl)) (pg_sub (pv 4) za1 set_list))
     (za4 (zb6 (i:=8) zg0.nd rfl (Or.inl rfl) (za9 zf0 za1 (za9 zd4 (za9 zg2 (pv 7) za1) (pv 2))))
     (za4 (zb6 (i:=5) zg0.nd rfl (Or.inl rfl) (za9 zK9 (ze1 (zc3 za1 za3)) (zb2 zb9 rfl T.n_len PySem.boot_len (zc3 (pv 4) za3))))
     (za4 (zb6 (i:=6) zg0.nd rfl (Or.inl rfl) (za9 zF6 (ze1 (zc3 (pv 8) (zc3 (zk9 zg7 (pv 8)) za3))) (za9 zK9 (ze1 (zc3 za1 za3)) (za9 zf7 (zb2 zb9 rfl T.n_len PySem.boot_len (zc3 (pv 4) za3)) za1))))
     (za6 (zd2 (zb5 zi1 (za9 zd4 (za9 zg2 (pv 7) za1) za1) za1 (zb7 _)) (za6 (ps_par (i:=5) (j:=6) rfl zg0.nd rfl rfl (by decide) rfl rfl (zc3 (pv 6) (zc3 (pv 5) za3)) rfl)) zb8)))))) zb8)
     (za4 (zb6 (i:=9) zg0.nd rfl (Or.inl rfl) (zb2 (zH3 rfl) rfl T.n_max PyProof.Rows.boot_max (zc3 (zb2 zl8 rfl T.n_abs PyProof.Rows.boot_abs (zc3 (zb3 G_w_tilt hr_w_tilt rfl T.m_w_tilt T.k_w_tilt T.b_w_tilt .nil zc2 (zc3 (pv 4) (zc3 (pv 5) za3))) za3)) (zc3 (zb2 zl8 rfl T.n_abs PyProof.Rows.boot_abs (zc3 (zb3 G_w_tilt hr_w_tilt rfl T.m_w_tilt T.k_w_tilt T.b_w_tilt .nil zc2 (zc3 (pv 4) (zc3 (pv 6) za3))) za3)) za3))))
     (za6 (zc4 (ze1 (zc3 (ze1 (zc3 (pv 2) (zc3 (pv 3) (zc3 (pv 4) (zc3 (zb3 G_w_limit hr_w_limit rfl T.m_w_limit T.k_w_limit T.b_w_limit .nil zc2 (zc3 (pv 0) (zc3 (pv 9) za3))) za3))))) (zc3 (zj5 zk6 rfl T.n_tuple PyProof.Rows.boot_tuple (zc3 (pv 5) za3)) (zc3 (zj5 zk6 rfl T.n_tuple PyProof.Rows.boot_tuple (zc3 (pv 6) za3)) za3))))))))))))))),?_⟩
   refine⟨_,rfl,a,ns,rfl,hS,fun sh h H1 s1 fsh fh hh hsh=>?_⟩
   refine⟨_,rfl,sh,_,rfl,SqL.of hsh,rfl,_,_,rfl,_,_,rfl,_,_,rfl,rfl,?_⟩
   have okT:∀ lim:Int,0<=lim->lim<=400->zi7 (shN ns) (shR ns) (shH ns) lim:=fun lim z1 z2=>sh_ok ns z1 z2
   have ok0:=okT 0 (by decide) (by decide)
   refine⟨_,rfl,_,rfl,a,sh,h,ns,3,0,shN ns,shR ns,shH ns,rfl,s1.seq hS,hsh,SqL.of hh,⟨ok0.n1,ok0.n2,ok0.r1,ok0.w⟩,fun fi H2 s2 ffi hfi=>?_⟩
   have V1:=zT4 ns 3 0 (shH ns).length ok0.n1 ok0.r1
   generalize zN1 ns 3 0 (shN ns) (shR ns) (shH ns).length=s0 at V1 hfi
   have s02:=s1.trans s2
   refine⟨_,rfl,_,rfl,a,sh,h,ns,4,1000003,shN ns,shR ns,shH ns,rfl,s02.seq hS,s2 _ _ hsh,SqL.of (s2 _ _ hh),⟨ok0.n1,ok0.n2,ok0.r1,ok0.w⟩,fun la0 H3 s3 fla hla=>?_⟩
   have V2:=zT4 ns 4 1000003 (shH ns).length ok0.n1 ok0.r1
   generalize zN1 ns 4 1000003 (shN ns) (shR ns) (shH ns).length=g0 at V2 hla
   have s03:=s02.trans s3
   have hh3:=s3 _ _ (s2 _ _ hh)
   have hfi3:=s3 _ _ hfi
   have S3:SqL K H3 a (ns.map V.int):=s03.seq hS
   generalize shN ns=n at *
   generalize shR ns=r at *
   generalize shH ns=hs0 at *
   have n1:=ok0.n1
   have n2:=ok0.n2
   have hw5:=ok0.w
   refine⟨_,rfl,a,ns,6,rfl,S3,?_⟩
   generalize ns.getD 6 0=c
   refine⟨_,rfl,_,_,rfl,rfl,(by show (0:Int)<12;decide),rfl,_,rfl,?_⟩
   refine ite2 (fun h1=>?_) (fun h1=>?_)
   . exact⟨_,rfl,_,_,rfl,rfl,⟨by decide,by decide⟩,_,rfl,fun l sc h' st go H' n r lim hs s g C=>q l sc h' st go H' n r lim hs s g (zk4.from s03 C)⟩
   refine use_finA (R:=?R1) (S:=fun o H'=>Same H H'/\H' h=some (.lst (hs0.map V.int))/\H' fi=some (.lst (s0.map V.int))/\∃ g,H' o=some (.lst (g.map V.int))/\zf8 n r hs0.length g) (fun fin1=>?main1) ?fin1
   case main1 =>
     refine⟨_,rfl,_,_,rfl,rfl,(by show (0:Int)<12;decide),rfl,_,rfl,?_⟩
     refine ite2 (fun h2=>?_) (fun h2=>?_)
     . refine⟨_,rfl,fi,_,rfl,.inl (SqL.of hfi3),fun l4 f4=>?_⟩
       have s4:Same H3 (upd H3 l4 (.lst (s0.map V.int))):=Same.upd f4
       have h4:(upd H3 l4 (.lst (s0.map V.int))) l4=some (.lst (s0.map V.int)):=za2
       revert s4 h4
       generalize upd H3 l4 (.lst (s0.map V.int))=H4
       intro s4 h4
       exact fin1 l4 H4 ⟨s03.trans s4,s4 _ _ hh3,s4 _ _ hfi3,s0,h4,V1⟩
     . exact fin1 la0 H3 ⟨s03,hh3,hfi3,g0,hla,V2⟩
   case fin1 =>
     rintro la H4 ⟨s4,hh4,hfi4,g,hla4,V2⟩
     dsimp only[L2.start,List.map,List.length,List.replicate,List.append,List.set]
     refine use_finB (R:=?R2) (S:=fun x y H'=>Same H H'/\∃ hs s g,H' h=some (.lst (List.map V.int hs))/\H' x=some (.lst (List.map V.int s))/\H' y=some (.lst (List.map V.int g))/\(∀ lim:Int,0<=lim->lim<=400->zi7 n r hs lim)/\zf8 n r hs.length s/\zf8 n r hs.length g) (fun fin2=>?main2) ?fin2
     case main2 =>
       refine⟨_,rfl,_,_,rfl,rfl,(by show (0:Int)<3;decide),rfl,_,rfl,?_⟩
       refine ite2 (fun h3=>?_) (fun h3=>?_)
       . refine⟨_,rfl,h,_,rfl,.inl (SqL.of hh4),_,_,rfl,rfl,_,rfl,?_⟩
         rw[List.length_map]
         refine ite2 (fun h4=>?_) (fun h4=>?_)
         . have h4':1<hs0.length:=by have:=of_decide_eq_true h4;omega
           obtain ⟨x0,x1,tl,rfl⟩:∃ x0 x1 tl,hs0=x0::x1::tl:=by
             match hs0,h4' with
             | x0::x1::tl,_=>exact⟨x0,x1,tl,rfl⟩
           have a0:atI (List.map V.int (x0::x1::tl)) 0=some (.int x0):=by
             unfold atI ixN
             rw[if_pos (by decide),if_pos (by simp only[List.length_map,List.length_cons];omega)]
             rfl
           have i1:ixN (List.map V.int (x0::x1::tl)).length 1=some 1:=by
             unfold ixN
             rw[if_pos (by decide),if_pos (by simp only[List.length_map,List.length_cons];omega)]
             rfl
           refine⟨_,rfl,h,_,_,_,rfl,rfl,SqL.of hh4,a0,_,rfl,h,_,1,1,rfl,rfl,hh4,i1,?_⟩
           have s5:Same H (upd H4 h (.lst ((List.map V.int (x0::x1::tl)).set 1 (.int x0)))):=s4.put fh
           have hh5:(upd H4 h (.lst ((List.map V.int (x0::x1::tl)).set 1 (.int x0)))) h=some (.lst ((x0::x0::tl).map V.int)):=za2
           revert s5 hh5
           generalize upd H4 h (.lst ((List.map V.int (x0::x1::tl)).set 1 (.int x0)))=H5
           intro s5 hh5
           have ok5:∀ lim:Int,0<=lim->lim<=400->zi7 n r (x0::x0::tl) lim:=fun lim z1 z2=>by
             have o:=okT lim z1 z2
             refine⟨o.n1,o.n2,o.r1,o.r2,o.l1,o.l2,o.w,fun x hx=>?_,o.most⟩
             rcases List.mem_cons.mp hx with rfl | hx
             . exact o.h _ (.head _)
             . rcases List.mem_cons.mp hx with rfl | hx
               . exact o.h _ (.head _)
               . exact o.h _ (.tail _ (.tail _ hx))
           refine⟨_,rfl,_,_,rfl,rfl,⟨by decide,by decide⟩,_,rfl,_,_,rfl,rfl,(by show 0<n;omega),_,_,rfl,rfl,?_⟩
           have hm0:0<=c / 3 % n:=Int.emod_nonneg _ (by omega)
           have hm1:c / 3 % n<n:=Int.emod_lt_of_pos _ (by omega)
           have hnt:1<=1+c / 3 % n/\1+c / 3 % n<=n:=by omega
           have wl:tl.length+2<=5:=hw5
           have hsl:sizeLine=16777216:=by decide
           refine⟨(by show 1<=sizeLine;decide),fun l6 f6=>⟨_,rfl,h,_,rfl,.inl (SqL.of (Same.upd f6 _ _ hh5)),l6,_,_,rfl,rfl,za2,?_,?_,?_,fun p6 e6=>?_⟩⟩
           . simp only[List.length_map,List.length_cons];omega
           . simp only[List.length_map,List.length_cons];omega
           . simp only[List.length_map,List.length_cons,List.length_nil,Int.toNat_natCast];omega
           have s6:=(Same.upd (o:=.lst [.int 0]) f6).updT (o:=.lst (List.replicate (((List.map V.int (x0::x0::tl)).length:Nat):Int).toNat [V.int 0]).flatten) e6
           have k6:(upd (upd H5 l6 (.lst [.int 0])) p6 (.lst (List.replicate (((List.map V.int (x0::x0::tl)).length:Nat):Int).toNat [V.int 0]).flatten)) p6=some (.lst ((List.replicate (tl.length+2) (0:Int)).map V.int)):=by
             rw[za2,rep0,Int.toNat_natCast,List.length_map]
             rfl
           dsimp only
           revert s6 k6
           generalize upd (upd H5 l6 (.lst [.int 0])) p6 (.lst (List.replicate (((List.map V.int (x0::x0::tl)).length:Nat):Int).toNat [V.int 0]).flatten)=H6
           intro s6 k6
           have hh6:=s6 _ _ hh5
           generalize hnv:1+c / 3 % n=nt at hnt ⊢
           refine⟨_,rfl,_,rfl,_,rfl,(by show 2<=sizeLine;decide),fun l7 f7=>⟨(by show 1<=sizeLine;decide),fun l8 f8=>?_⟩⟩
           have s78:=(Same.upd (o:=.lst [.int nt,.int (-nt)]) f7).updT (o:=.lst [.int 0]) f8
           have k7:(upd (upd H6 l7 (.lst [.int nt,.int (-nt)])) l8 (.lst [.int 0])) l7=some (.lst [.int nt,.int (-nt)]):=Same.upd f8 _ _ za2
           have k8:(upd (upd H6 l7 (.lst [.int nt,.int (-nt)])) l8 (.lst [.int 0])) l8=some (.lst [.int 0]):=za2
           dsimp only
           revert s78 k7 k8
           generalize upd (upd H6 l7 (.lst [.int nt,.int (-nt)])) l8 (.lst [.int 0])=H8
           intro s78 k7 k8
           refine⟨_,rfl,h,_,rfl,.inl (SqL.of (s78 _ _ hh6)),_,_,rfl,rfl,l8,_,_,rfl,rfl,k8,?_,?_,?_,fun p8 e8=>?_⟩
           . simp only[List.length_map,List.length_cons];omega
           . simp only[List.length_map,List.length_cons];omega
           . simp only[List.length_map,List.length_cons,List.length_nil];omega
           have el:((((List.map V.int (x0::x0::tl)).length:Nat):Int)-2).toNat=tl.length:=by
             simp only[List.length_map,List.length_cons]
             omega
           rw[el,rep0]
           have s9:Same H8 (upd H8 p8 (.lst ((List.replicate tl.length (0:Int)).map V.int))):=Same.upd e8
           have k9:(upd H8 p8 (.lst ((List.replicate tl.length (0:Int)).map V.int))) p8=some (.lst ((List.replicate tl.length (0:Int)).map V.int)):=za2
           revert s9 k9
           generalize upd H8 p8 (.lst ((List.replicate tl.length (0:Int)).map V.int))=H9
           intro s9 k9
           refine⟨l7,p8,_,_,rfl,rfl,s9 _ _ k7,k9,?_,fun p9 e9=>?_⟩
           . simp only[List.length_map,List.length_replicate,List.length_cons,List.length_nil];omega
           have s10:Same H9 (upd H9 p9 (.lst ([V.int nt,V.int (-nt)]++(List.replicate tl.length (0:Int)).map V.int))):=Same.upd e9
           have k10:(upd H9 p9 (.lst ([V.int nt,V.int (-nt)]++(List.replicate tl.length (0:Int)).map V.int))) p9=some (.lst ((nt::-nt::List.replicate tl.length 0).map V.int)):=za2
           revert s10 k10
           generalize upd H9 p9 (.lst ([V.int nt,V.int (-nt)]++(List.replicate tl.length (0:Int)).map V.int))=H10
           intro s10 k10
           have s610:=s78.trans (s9.trans s10)
           have sE:Same H H10:=s5.trans (s6.trans s610)
           have hhE:=s610 _ _ hh6
           have hpE:=s610 _ _ k6
           have Va:zf8 n r (x0::x0::tl).length (List.replicate (tl.length+2) 0):=valid0 n1 _
           have Vb:zf8 n r (x0::x0::tl).length (nt::-nt::List.replicate tl.length 0):=validP ok0.r1 hnt.1 hnt.2 _
           refine⟨_,rfl,_,_,rfl,rfl,⟨by decide,by decide⟩,_,_,rfl,rfl,(by show (0:Int)<2;decide),rfl,_,rfl,?_⟩
           generalize some (V.int nt)=v8
           refine ite2 (fun h5=>?_) (fun h5=>?_)
           . refine⟨_,rfl,_,rfl,_,_,rfl,?_⟩
             exact fin2 p9 p6 v8 H10 ⟨sE,_,_,_,hhE,k10,hpE,ok5,Vb,Va⟩
           . exact fin2 p6 p9 v8 H10 ⟨sE,_,_,_,hhE,hpE,k10,ok5,Va,Vb⟩
         . exact fin2 fi la _ H4 ⟨s4,hs0,s0,g,hh4,hfi4,hla4,okT,V1,V2⟩
       . exact iteF (fin2 fi la _ H4 ⟨s4,hs0,s0,g,hh4,hfi4,hla4,okT,V1,V2⟩)
     case fin2 =>
       rintro x y v H5 ⟨s5,hs,s,g,hh5,hx5,hy5,ok5,V1,V2⟩
       dsimp only[List.set]
       refine st_eq (σ':=[some (.ref a),some (.ref sh),some (.int n),some (.int r),some (.ref h),some (.ref x),some (.ref y),some (.int c),v,none]) rfl ?_
       have hw:hs.length<=5:=(ok5 0 (by decide) (by decide)).w
       have hhs:=(ok5 0 (by decide) (by decide)).h
       have l1:=V1.len
       have l2:=V2.len
       obtain ⟨tl1,tl2⟩:=zR4 (ok5 0 (by decide) (by decide)) V1
       obtain ⟨tl3,tl4⟩:=zR4 (ok5 0 (by decide) (by decide)) V2
       refine⟨_,rfl,_,rfl,h,x,hs,s,rfl,SqL.of hh5,.inl (SqL.of hx5),⟨l1.symm,by omega,hhs⟩,_,rfl,_,rfl,_,rfl,h,y,hs,g,rfl,SqL.of hh5,.inl (SqL.of hy5),⟨l2.symm,by omega,hhs⟩,_,rfl,_,_,rfl,?_⟩
       have ea1:(if zc8 hs s<0 then -zc8 hs s else zc8 hs s)=absI (zc8 hs s):=rfl
       have ea2:(if zc8 hs g<0 then -zc8 hs g else zc8 hs g)=absI (zc8 hs g):=rfl
       rw[ea1,ea2]
       have hlow:∃ low:Int,(if absI (zc8 hs g)>absI (zc8 hs s) then absI (zc8 hs g) else absI (zc8 hs s))=low/\absI (zc8 hs s)<=low/\absI (zc8 hs g)<=low/\low<=240:=⟨_,rfl,by split<;>omega,by split<;>omega,by split<;>omega⟩
       obtain ⟨low,elow,w1,w2,w3⟩:=hlow
       rw[elow]
       refine⟨_,rfl,_,rfl,_,rfl,_,rfl,_,rfl,a,ns,low,rfl,s5.seq hS,⟨by omega,by omega⟩,fun lim z1 z2=>⟨(by show 4<=sizeLine;decide),fun sc fsc=>?_⟩⟩
       have s6:Same H5 (upd H5 sc (.lst [.int n,.int r,.ref h,.int lim])):=Same.upd fsc
       have k6:(upd H5 sc (.lst [.int n,.int r,.ref h,.int lim])) sc=some (.lst [.int n,.int r,.ref h,.int lim]):=za2
       dsimp only
       revert s6 k6
       generalize upd H5 sc (.lst [.int n,.int r,.ref h,.int lim])=H6
       intro s6 k6
       refine⟨_,rfl,x,_,rfl,.inl ⟨SqL.of (s6 _ _ hx5),fun st fst=>?_⟩⟩
       have s7:Same H6 (upd H6 st (.tup (s.map V.int))):=Same.upd fst
       have k7:(upd H6 st (.tup (s.map V.int))) st=some (.tup (s.map V.int)):=za2
       revert s7 k7
       generalize upd H6 st (.tup (s.map V.int))=H7
       intro s7 k7
       refine⟨_,rfl,y,_,rfl,.inl ⟨SqL.of (s7 _ _ (s6 _ _ hy5)),fun go fgo=>⟨(by show 3<=sizeLine;decide),fun l fl=>?_⟩⟩⟩
       have s8:Same H7 (upd (upd H7 go (.tup (g.map V.int))) l (.lst [.ref sc,.ref st,.ref go])):=(Same.upd fgo).updT fl
       have s58:=s6.trans (s7.trans s8)
       exact q l sc h st go _ n r lim hs s g ⟨s5.trans s58,s5.free fsc,fh,za2,s8 _ _ (s7 _ _ k6),s58 _ _ hh5,s8 _ _ k7,Same.upd fl _ _ za2,ok5 lim (by omega) z2,V1,V2,by omega,by omega⟩
end
end Bt
namespace Bt
open PySem L2
section
variable {P:Program} {w:World} {K:PySem.W.Frag} {mg:Str->Option Value} {base:Heap} {t:Adr}
theorem take_eq_succ {X Y:List (List Int)} {i:Nat} {x y:List Int} (hx:X[i]?=some x) (hy:Y[i]?=some y) (h:X.take i=Y.take i):X.take (i+1)=Y.take (i+1)↔x=y:=by
 rw[List.take_succ,List.take_succ,hx,hy,h]
 simp
noncomputable def zx3 (K:PySem.W.Frag) (t:Adr):Sp:=fun vs H Q _=>∃ (a b:Addr) (ys zs:List V) (X Y:List (List Int)),vs=[.ref a,.ref b]/\H a=some (.lst ys)/\Tups H ys X/\H b=some (.lst zs)/\Tups H zs Y/\Y.length<=1000/\(∀ y∈Y,y.length<=1000)/\Q (.bl (decide (X=Y))) H
theorem ok_w_same_rows (T:Txt K mg t):FnOk P w K mg base CX0 3 t.a_w_same_rows t.d_w_same_rows ["_law_found","_law_due"] (zx3 K t):=by
 have G_w_same:FnOk P w K mg base CX0 2 t.a_w_same t.d_w_same ["_law_found","_law_due"] (zy3 K t):=zD4 T
 refine T.F_w_same_rows.ok zw5 (fun vs H Q E h=>?_) (fun cdv A outer s H vs Q E hr h=>?_)
 . obtain ⟨a,b,ys,zs,X,Y,rfl,ha,TX,hb,TY,hY,hY2,q⟩:=h
   rfl
 . obtain ⟨a,b,ys,zs,X,Y,rfl,ha,TX,hb,TY,hY,hY2,q⟩:=h
   have hr_w_same:Room 2 _:=hr.mono (by decide)
   refine⟨_,(za4 (zd2 (PW.pt (zv3 (zs2 (zg1 (zb2 zq0 rfl T.n_isinstance PyProof.Rows.boot_isinstance (za0 (pv 0) (za0 (zr2 (v:=.ty "list") rfl T.n_list PyProof.Rows.boot_list rfl) za3))))) (zu4 (zb5 zs8 (zb2 zb9 rfl T.n_len PySem.boot_len (za0 (pv 0) za3)) (zb2 zb9 rfl T.n_len PySem.boot_len (za0 (pv 1) za3)) (zb7 _))))) (za6 (zc4 zz5)) zb8)
     (za4 (zp8 PassesOwn.never rfl (zm4 rfl T.n_range (za0 (zb2 zb9 rfl T.n_len PySem.boot_len (za0 (pv 1) za3)) za3)) (zc6 (i:=2) zw5.nd rfl (Or.inl rfl)) (za6 (zd2 (PW.pt (zv3 (zs2 (zg1 (zb2 zq0 rfl T.n_isinstance PyProof.Rows.boot_isinstance (za0 (zd0 zd5 (pv 0) (pv 2) (fun _ _=>rfl)) (za0 (zr2 (v:=.ty "tuple") rfl T.n_tuple PyProof.Rows.boot_tuple rfl) za3))))) (zu4 (zs2 (zg1 (zb3 G_w_same hr_w_same rfl T.m_w_same T.k_w_same T.b_w_same .nil zc2 (za0 (zd0 zd5 (pv 0) (pv 2) (fun _ _=>rfl)) (za0 (zd0 zd5 (pv 1) (pv 2) (fun _ _=>rfl)) za3)))))))) (za6 (zc4 zz5)) zb8)))
     (za6 (zc4 zz5)))),?_⟩
   have l1:=zm0 TX
   have l2:=zm0 TY
   refine⟨_,rfl,_,_,_,_,_,rfl,.ty _,.lst ha,rfl,_,rfl,iteF ?_⟩
   refine⟨_,rfl,a,_,rfl,.inl (SqL.of ha),_,rfl,b,_,rfl,.inl (SqL.of hb),rfl,_,rfl,?_⟩
   rw[ze7]
   refine ite2 (fun h1=>?_) (fun h1=>?_)
   . have:X≠Y:=fun z=>by
       subst z
       simp[l1,l2] at h1
     rw[decide_eq_false this] at q
     exact q
   have hXY:X.length=Y.length:=by
     simp at h1
     omega
   refine⟨_,rfl,b,_,rfl,.inl (SqL.of hb),_,rfl,by omega,by omega,zm5 (n:=((zs.length:Nat):Int).toNat) (fun i σ H'=>∃ v,σ=[some (.ref a),some (.ref b),v]/\H'=H/\X.take i=Y.take i) ⟨none,rfl,rfl,rfl⟩ ?_ ?_⟩
   . rintro i σ H' hi ⟨v,rfl,rfl,ht⟩
     have hi':i<zs.length:=by simpa using hi
     have e0:(0:Int)+(i:Int)=(i:Int):=by omega
     rw[e0]
     obtain ⟨xb,x,ex,hx,hxb⟩:=zA4 TX (List.getElem?_eq_getElem (show i<ys.length by omega))
     obtain ⟨yb,y,ey,hy,hyb⟩:=zA4 TY (List.getElem?_eq_getElem hi')
     have ax:atI ys (i:Int)=some (.ref xb):=zz7 (by rw[List.getElem?_eq_getElem (show i<ys.length by omega),ex])
     have ay:atI zs (i:Int)=some (.ref yb):=zz7 (by rw[List.getElem?_eq_getElem hi',ey])
     refine⟨_,rfl,_,rfl,a,_,_,_,rfl,rfl,SqL.of ha,ax,_,_,_,_,_,rfl,.ty _,.tup hxb,rfl,_,rfl,iteF ?_⟩
     refine⟨_,rfl,_,rfl,a,_,_,_,rfl,rfl,SqL.of ha,ax,_,rfl,_,rfl,b,_,_,_,rfl,rfl,SqL.of hb,ay,xb,yb,x,y,rfl,.inr (SqT.of hxb),.inr (SqT.of hyb),hY2 y (List.mem_of_getElem? hy),_,rfl,?_⟩
     have key:=take_eq_succ hx hy ht
     refine ite2 (fun h2=>?_) (fun h2=>?_)
     . have hne:X≠Y:=fun z=>by
         have:x=y:=key.mp (by rw[z])
         rw[decide_eq_true this] at h2
         cases h2
       rw[decide_eq_false hne] at q
       exact q
     . have:x=y:=Classical.byContradiction fun z=>h2 (by rw[decide_eq_false z];rfl)
       exact⟨_,rfl,rfl,key.mpr this⟩
   . rintro σ H' ⟨v,rfl,rfl,ht⟩
     rw[Int.toNat_natCast] at ht
     have:X=Y:=by
       rw[List.take_of_length_le (by omega),List.take_of_length_le (by omega)] at ht
       exact ht
     rw[decide_eq_true this] at q
     exact q
noncomputable def zJ9 (K:PySem.W.Frag) (t:Adr):Sp:=fun vs H Q _=>∃ (c a:Addr) (cell n r lim:Int) (hs xs:List Int),vs=[.ref c,.ref a,.int cell]/\zm2 K H c n r hs lim/\zf8 n r hs.length xs/\H a=some (.tup (xs.map V.int))/\∀ v H',Same H H'->(v = .non\/∃ (i:Nat) (q:Int) (mv:Addr),v = .ref mv/\Lets n r hs lim xs i q/\H' mv=some (.tup [.int ((i:Int)+1),.int (xs.getD i 0),.int q]))->Q v H'
theorem ok_w_pick (T:Txt K mg t):FnOk P w K mg base CX0 3 t.a_w_pick t.d_w_pick ["_law_scale","_law_spots","_law_cell"] (zJ9 K t):=by
 have G_w_near:FnOk P w K mg base CX0 2 t.a_w_near t.d_w_near ["_law_scale","_law_spots"] (zJ5 K t):=ok_w_near T
 refine T.F_w_pick.ok zy1 (fun vs H Q E h=>?_) (fun cdv A outer s H vs Q E hr h=>?_)
 . obtain ⟨c,a,cell,n,r,lim,hs,xs,rfl,S,V0,ha,q⟩:=h
   rfl
 . obtain ⟨c,a,cell,n,r,lim,hs,xs,rfl,S,V0,ha,q⟩:=h
   have hr_w_near:Room 2 _:=hr.mono (by decide)
   refine⟨_,(za4 (zb6 (i:=3) zy1.nd rfl (Or.inl rfl) (zb3 G_w_near hr_w_near rfl T.m_w_near T.k_w_near T.b_w_near .nil zc2 (za0 (pv 0) (za0 (pv 1) za3))))
     (za4 (zd2 (zb5 (zT0 (Nat.lt_of_succ_lt (zP5 hr))) (pv 3) (ze1 za3) (zb7 _)) (za6 (zc4 zv2)) zb8)
     (za4 (zb6 (i:=4) zy1.nd rfl (Or.inr rfl) (zd0 zd5 (pv 3) (za9 zd4 (pv 2) (zb2 zb9 rfl T.n_len PySem.boot_len (za0 (pv 3) za3))) (fun _ _=>rfl)))
     (za4 (zb6 (i:=5) zy1.nd rfl (Or.inl rfl) (zd0 zd5 (zL0 rfl zE1 (zm4 rfl T.n_range (za0 (zb2 zb9 rfl T.n_len PySem.boot_len (za0 (pv 1) za3)) za3)) (fun _ _ _ _ _=>(zc6 (i:=0) zE1.nd rfl (Or.inl rfl))) (fun _ _ _ _ _=>(zF8 (zb5 zs8 (zd0 (zP9 K rfl) (pv 1) (pv 0) (fun _ _=>rfl)) (zd0 (zP9 K rfl) (pv 2) (pv 0) (fun _ _=>rfl)) (zb7 _)))) (fun _ _ _ _ _=>(pv 0))) za1 (fun _ _=>rfl)))
     (za6 (zc4 (zu6 (za0 (za9 zf0 (pv 5) za1) (za0 (zd0 zh6 (pv 1) (pv 5) (fun _ _=>rfl)) (za0 (zd0 zh6 (pv 4) (pv 5) (fun _ _=>rfl)) za3)))))))))),?_⟩
   have hlen:=V0.len
   have hw:=(let ⟨_,h,_⟩:=S;h:zi7 n r hs lim).w
   refine⟨_,rfl,_,rfl,c,a,n,r,lim,hs,xs,rfl,S,V0,ha,fun l H1 ys s1 fl hl TN=>?_⟩
   have hyl:=zm0 TN
   refine⟨_,rfl,Nat.zero_le _,fun l2 f2=>?_⟩
   have s2:Same H1 (upd H1 l2 (.lst [])):=Same.upd f2
   refine⟨l,l2,ys,rfl,rfl,SqL.of (s2 _ _ hl),SqL.of za2,_,rfl,?_⟩
   revert s2
   generalize upd H1 l2 (.lst [])=H2
   intro s2
   have s02:=s1.trans s2
   have hl2:=s2 _ _ hl
   have TN2:=s2.tups TN
   refine ite2 (fun h1=>?_) (fun h1=>?_)
   . exact q .non H2 s02 (.inl rfl)
   have hpos:0<ys.length:=by
     cases ys with
     | nil=>exact absurd rfl h1
     | cons _ _=>simp
   have i1:0<=cell % (ys.length:Int):=Int.emod_nonneg _ (by omega)
   have i2:cell % (ys.length:Int)<ys.length:=Int.emod_lt_of_pos _ (by omega)
   obtain ⟨j,ej⟩:∃ j:Nat,cell % (ys.length:Int)=(j:Int):=⟨_,(Int.toNat_of_nonneg i1).symm⟩
   have hj:j<ys.length:=by omega
   obtain ⟨b,y,e1,e2,hb⟩:=zA4 TN2 (List.getElem?_eq_getElem hj)
   obtain ⟨i,p,L,rfl⟩:=mem_nbs.mp (List.mem_of_getElem? e2)
   have hi:=L.lt
   refine⟨_,rfl,_,rfl,_,rfl,l,_,rfl,.inl (SqL.of hl2),_,_,rfl,rfl,(by show (0:Int)<(ys.length:Int);omega),l,_,_,_,rfl,rfl,SqL.of hl2,(by show atI ys (cell % (ys.length:Int))=_;rw[ej];exact zz7 (by rw[List.getElem?_eq_getElem hj,e1])),?_⟩
   have ha2:=s02 _ _ ha
   refine⟨_,rfl,a,_,rfl,.inr (SqT.of ha2),?_⟩
   rw[List.length_map]
   refine⟨_,rfl,by omega,by omega,fun D hD=>?_⟩
   have gd:∀ k,k<xs.length->((xs.set i p).getD k 0=xs.getD k 0↔k≠i):=fun k hk=>by
     rw[List.getD_eq_getElem?_getD,List.getD_eq_getElem?_getD,List.getElem?_set]
     by_cases e:i=k
     . subst e
       rw[if_pos rfl,if_pos hk]
       refine⟨fun z=>absurd ?_ L.ne,fun z=>absurd rfl z⟩
       rw[List.getD_eq_getElem?_getD]
       exact z
     . rw[if_neg e]
       exact⟨fun _ z=>e z.symm,fun _=>rfl⟩
   refine zD8 (fun j H'=>H'=upd H2 D (.lst (if i<j then [V.int (i:Int)] else []))) (by rw[if_neg (Nat.not_lt_zero _)]) ?_ ?_
   . rintro k H' N hk rfl hN
     have hk':k<xs.length:=by simpa using hk
     have hD':(upd H2 D (.lst (if i<k then [V.int (i:Int)] else []))) D=some (.lst (if i<k then [V.int (i:Int)] else [])):=za2
     have sD:Same H2 (upd H2 D (.lst (if i<k then [V.int (i:Int)] else []))):=Same.upd hD
     have e0:(0:Int)+(k:Int)=(k:Int):=by omega
     have ax:atI (xs.map V.int) (0+(k:Int))=some (.int (xs.getD k 0)):=by rw[e0];exact zf1 (by omega) (by omega)
     have ay:atI ((xs.set i p).map V.int) (0+(k:Int))=some (.int ((xs.set i p).getD k 0)):=by rw[e0];exact zf1 (by omega) (by rw[List.length_set];omega)
     refine⟨_,rfl,_,rfl,b,_,_,_,rfl,rfl,SqT.of (sD _ _ hb),ay,_,rfl,_,rfl,a,_,_,_,rfl,rfl,SqT.of (sD _ _ ha2),ax,rfl,_,rfl,?_⟩
     rw[ze7]
     refine ite2 (fun h2=>?_) (fun h2=>?_)
     . have hki:k=i:=Classical.byContradiction fun z=>by
         have:=(gd k hk').mpr z
         rw[decide_eq_true this] at h2
         cases h2
       subst hki
       refine⟨_,rfl,_,hD',zc9 (by rw[if_neg (Nat.lt_irrefl _)];decide),hN _ ?_⟩
       rw[zk7,if_neg (Nat.lt_irrefl _),if_pos (Nat.lt_succ_self _),e0]
       rfl
     . have hki:k≠i:=(gd k hk').mp (Classical.byContradiction fun z=>h2 (by rw[decide_eq_false z];rfl))
       refine hN _ ?_
       by_cases hlt:i<k
       . rw[if_pos hlt,if_pos (by omega)]
       . rw[if_neg hlt,if_neg (by omega)]
   . rintro H' rfl
     rw[Int.toNat_natCast,if_pos hi]
     have s3:Same H2 (upd H2 D (.lst [V.int (i:Int)])):=Same.upd hD
     have ax:atI (xs.map V.int) (i:Int)=some (.int (xs.getD i 0)):=zf1 (by omega) (by omega)
     have ay:atI ((xs.set i p).map V.int) (i:Int)=some (.int p):=by
       have:=zf1 (xs:=xs.set i p) (i:=(i:Int)) (by omega) (by rw[List.length_set];omega)
       rw[Int.toNat_natCast,getD_set_self hi] at this
       exact this
     refine⟨D,_,_,_,rfl,rfl,SqL.of za2,rfl,?_⟩
     refine⟨_,rfl,_,_,rfl,rfl,_,rfl,_,rfl,a,_,_,_,rfl,rfl,SqT.of (s3 _ _ ha2),ax,_,rfl,_,rfl,b,_,_,_,rfl,rfl,SqT.of (s3 _ _ hb),ay,(by show 3<=sizeLine;decide),fun mv fmv=>?_⟩
     exact q (.ref mv) _ (s02.trans (s3.updT fmv)) (.inr ⟨i,p,mv,rfl,L,za2⟩)
end
end Bt
namespace Bt
open PySem L2
section
variable {P:Program} {w:World} {K:PySem.W.Frag} {mg:Str->Option Value} {base:Heap} {t:Adr}
noncomputable def zK0 (K:PySem.W.Frag) (t:Adr):Sp:=fun vs H Q _=>∃ (sc a m:Addr) (n r lim k s p:Int) (hs xs:List Int),vs=[.ref sc,.ref a,.ref m]/\zm2 K H sc n r hs lim/\H a=some (.tup (xs.map V.int)) ∧
 H m=some (.tup [.int k,.int s,.int p])/\(hs.length=xs.length/\xs.length<=5/\(∀ x∈hs,1<=x/\x<=20))/\Q (.str (zx0 (refN n r lim hs xs k s p))) H
theorem ok_w_word (T:Txt K mg t):FnOk P w K mg base CX0 2 t.a_w_word t.d_w_word ["_law_scale","_law_spots","_law_move"] (zK0 K t):=by
 have G_w_tilt:FnOk P w K mg base CX0 1 t.a_w_tilt t.d_w_tilt ["_law_hefts","_law_spots"] (zy4 K t):=zD5 T
 refine T.F_w_word.ok zk1 (fun vs H Q E h=>?_) (fun cdv A outer s H vs Q E hr h=>?_)
 . obtain ⟨sc,a,m,n,r,lim,k,s,p,hs,xs,rfl,⟨h,_,hsc,hh⟩,hT,hm,⟨hl,h5_1,hhs⟩,q⟩:=h
   rfl
 . obtain ⟨sc,a,m,n,r,lim,k,s,p,hs,xs,rfl,⟨h,_,hsc,hh⟩,hT,hm,⟨hl,h5_1,hhs⟩,q⟩:=h
   have hr_w_tilt:Room 1 _:=hr.mono (by decide)
   refine⟨_,(za4 (zs3 (pv 0) (zv5 rfl (zd1 (zc6 (i:=3) zk1.nd rfl (Or.inl rfl)) (zd1 (zc6 (i:=4) zk1.nd rfl (Or.inl rfl)) (zd1 (zc6 (i:=5) zk1.nd rfl (Or.inl rfl)) (zd1 (zc6 (i:=6) zk1.nd rfl (Or.inl rfl)) zl7))))))
     (za4 (zs3 (pv 2) (zR9 rfl (zd1 (zc6 (i:=7) zk1.nd rfl (Or.inl rfl)) (zd1 (zc6 (i:=8) zk1.nd rfl (Or.inl rfl)) (zd1 (zc6 (i:=9) zk1.nd rfl (Or.inl rfl)) zl7)))))
     (za4 (zd2 (PW.pt (zv3 (zb5 zM1 (pv 7) za1 (zb7 _)) (zv3 (zb5 zp9 (pv 7) (zb2 zb9 rfl T.n_len PySem.boot_len (za0 (pv 5) za3)) (zb7 _)) (zu4 (zb5 zs8 (zd0 zh6 (pv 1) (za9 zf7 (pv 7) za1) (fun _ _=>rfl)) (pv 8) (zb7 _)))))) (za6 (zc4 ze0)) zb8)
     (za4 (zd2 (PW.pt (zv3 (zb5 zM1 (pv 9) (zk9 zg7 (pv 3)) (zb7 _)) (zu4 (zb5 zp9 (pv 9) (pv 3) (zb7 _))))) (za6 (zc4 ze0)) zb8)
     (za4 (zd2 (zb5 zi1 (pv 9) (pv 8) (zb7 _)) (za6 (zc4 ze0)) zb8)
     (za4 (zd2 (PW.pt (zs1 (zb5 zs8 (pv 9) za1 (zb7 _)) (zo2 (zb5 zM2 (zP8 PySem.F.slot_tuple_count PySem.F.type_tuple_count zx5 (pv 1) (za0 (pv 9) za3)) (pv 4) (zb7 _))))) (za6 (zc4 ze0)) zb8)
     (za4 (zb6 (i:=10) zk1.nd rfl (Or.inl rfl) (za9 zf7 (zb3 G_w_tilt hr_w_tilt rfl T.m_w_tilt T.k_w_tilt T.b_w_tilt .nil zc2 (za0 (pv 5) (za0 (pv 1) za3))) (za9 zh5 (zd0 zd5 (pv 5) (za9 zf7 (pv 7) za1) (fun _ _=>rfl)) (pv 8))))
     (za4 (zd2 (zb5 zp9 (zb2 zl8 rfl T.n_abs PyProof.Rows.boot_abs (za0 (pv 10) za3)) (pv 6) (zb7 _)) (za6 (zc4 ze0)) zb8)
     (za4 (zd2 (zb5 zp9 (zb2 zl8 rfl T.n_abs PyProof.Rows.boot_abs (za0 (za9 zf0 (pv 10) (za9 zh5 (zd0 zd5 (pv 5) (za9 zf7 (pv 7) za1) (fun _ _=>rfl)) (pv 9))) za3)) (pv 6) (zb7 _)) (za6 (zc4 ze0)) zb8)
     (za6 (zc4 ze0))))))))))),?_⟩
   unfold refN at q
   have hS:SqL K H a (xs.map V.int)\/SqT K H a (xs.map V.int):=.inr (SqT.of hT)
   refine⟨_,rfl,sc,_,rfl,hsc,rfl,_,_,rfl,_,_,rfl,_,_,rfl,_,_,rfl,rfl,?_⟩
   refine⟨_,rfl,m,_,rfl,SqT.of hm,rfl,_,_,rfl,_,_,rfl,_,_,rfl,rfl,?_⟩
   refine⟨_,rfl,_,_,rfl,rfl,_,rfl,ite2 (fun h1=>?_) (fun h1=>?_)⟩
   . have hb:¬ zs0 xs k s:=fun z=>by have:=z.1;have:=of_decide_eq_true h1;omega
     rw[if_pos hb] at q
     refine iteT ?_
     exact q
   have h1':1<=k:=Int.not_lt.mp fun z=>h1 (decide_eq_true z)
   refine⟨_,rfl,_,rfl,h,_,rfl,.inl hh,_,_,rfl,rfl,_,rfl,?_⟩
   rw[List.length_map]
   refine ite2 (fun h2=>?_) (fun h2=>?_)
   . have hb:¬ zs0 xs k s:=fun z=>by have:=z.1;have:=of_decide_eq_true h2;omega
     rw[if_pos hb] at q
     refine iteT ?_
     exact q
   have h2':k<=hs.length:=Int.not_lt.mp fun z=>h2 (decide_eq_true z)
   have ax:atI (xs.map V.int) (k-1)=some (.int (xs.getD (k-1).toNat 0)):=zf1 (by omega) (by omega)
   have ah:atI (hs.map V.int) (k-1)=some (.int (hs.getD (k-1).toNat 0)):=zf1 (by omega) (by omega)
   have hm1:=hhs (hs.getD (k-1).toNat 0) (zw8 (by omega))
   refine⟨_,rfl,_,rfl,_,_,rfl,rfl,a,_,_,_,rfl,rfl,SqT.of hT,ax,_,rfl,rfl,_,rfl,?_⟩
   rw[ze7]
   refine ite2 (fun h3=>?_) (fun h3=>?_)
   . have hb:¬ zs0 xs k s:=fun z=>by simp at h3;exact h3 (by simpa using z.2)
     rw[if_pos hb] at q
     exact q
   have h3':xs.getD (k-1).toNat 0=s:=by simpa using h3
   have hg:zs0 xs k s:=⟨⟨h1',by omega⟩,h3'⟩
   rw[if_neg (fun z=>z hg)] at q
   refine⟨_,rfl,_,rfl,_,rfl,_,_,rfl,rfl,_,rfl,ite2 (fun h4=>?_) (fun h4=>?_)⟩
   . rw[if_pos (.inl (of_decide_eq_true h4))] at q
     refine iteT ?_
     exact q
   have h4':¬ p < -n:=fun z=>h4 (decide_eq_true z)
   refine⟨_,rfl,_,rfl,_,_,rfl,rfl,_,rfl,ite2 (fun h5=>?_) (fun h5=>?_)⟩
   . rw[if_pos (.inr (of_decide_eq_true h5))] at q
     exact q
   have h5':¬ n<p:=fun z=>h5 (decide_eq_true z)
   rw[if_neg (fun z=>z.elim h4' h5')] at q
   refine⟨_,rfl,_,rfl,rfl,_,rfl,?_⟩
   rw[ze7]
   refine ite2 (fun h6=>?_) (fun h6=>?_)
   . rw[if_pos (of_decide_eq_true h6)] at q
     exact q
   have h6':p≠s:=fun z=>h6 (decide_eq_true z)
   rw[if_neg h6'] at q
   have fin:(if lim<absI (zi8 hs xs (k-1).toNat) then (5:Nat) else if lim<absI (zi8 hs xs (k-1).toNat+hs.getD (k-1).toNat 0*p) then 6 else 0)=(if lim<absI (zc8 hs xs-hs.getD (k-1).toNat 0*s) then (5:Nat) else if lim<absI (zc8 hs xs-hs.getD (k-1).toNat 0*s+hs.getD (k-1).toNat 0*p) then 6 else 0):=by unfold zi8;rw[h3']
   rw[fin] at q
   refine⟨_,rfl,rfl,_,rfl,?_⟩
   rw[ze7]
   refine ite2 (fun h7=>?_) (fun h7=>?_)
   . have h7':p≠0:=by simpa using h7
     refine⟨_,rfl,⟨_,_,rfl,hT⟩,_,rfl,a,xs,p,rfl,rfl,SqT.of hT,_,rfl,_,_,rfl,rfl,_,rfl,?_⟩
     refine ite2 (fun h8=>?_) (fun h8=>?_)
     . have h8':r<=(xs.count p:Int):=of_decide_eq_true h8
       rw[if_pos (show zB3 r xs p=true from decide_eq_true ⟨h7',h8'⟩)] at q
       exact q
     have h8':¬ r<=(xs.count p:Int):=fun z=>h8 (decide_eq_true z)
     rw[if_neg (fun z:zB3 r xs p=true=>h8' (of_decide_eq_true z).2)] at q
     refine⟨_,rfl,_,rfl,h,a,hs,xs,rfl,hh,hS,⟨hl,h5_1,hhs⟩,_,rfl,_,rfl,_,_,rfl,rfl,h,_,_,_,rfl,rfl,hh,ah,_,rfl,_,_,rfl,rfl,.inl ⟨by omega,by omega⟩,_,_,rfl,rfl,?_⟩
     refine⟨_,rfl,_,rfl,_,rfl,_,_,rfl,rfl,_,rfl,ite2 (fun h9=>?_) (fun h9=>?_)⟩
     . rw[if_pos (show lim<absI (zc8 hs xs-hs.getD (k-1).toNat 0*s) from of_decide_eq_true h9)] at q
       exact q
     rw[if_neg (fun z:lim<absI (zc8 hs xs-hs.getD (k-1).toNat 0*s)=>h9 (decide_eq_true z))] at q
     refine⟨_,rfl,_,rfl,_,rfl,_,_,rfl,rfl,h,_,_,_,rfl,rfl,hh,ah,_,rfl,_,_,rfl,rfl,.inl ⟨by omega,by omega⟩,_,_,rfl,rfl,_,rfl,_,rfl,_,_,rfl,rfl,_,rfl,ite2 (fun h9=>?_) (fun h9=>?_)⟩
     . rw[if_pos (show lim<absI (zc8 hs xs-hs.getD (k-1).toNat 0*s+hs.getD (k-1).toNat 0*p) from of_decide_eq_true h9)] at q
       exact q
     rw[if_neg (fun z:lim<absI (zc8 hs xs-hs.getD (k-1).toNat 0*s+hs.getD (k-1).toNat 0*p)=>h9 (decide_eq_true z))] at q
     exact q
   . have h7':p=0:=by simpa using h7
     rw[if_neg (fun z:zB3 r xs p=true=>(of_decide_eq_true z).1 h7')] at q
     refine iteF ?_
     refine⟨_,rfl,_,rfl,h,a,hs,xs,rfl,hh,hS,⟨hl,h5_1,hhs⟩,_,rfl,_,rfl,_,_,rfl,rfl,h,_,_,_,rfl,rfl,hh,ah,_,rfl,_,_,rfl,rfl,.inl ⟨by omega,by omega⟩,_,_,rfl,rfl,?_⟩
     refine⟨_,rfl,_,rfl,_,rfl,_,_,rfl,rfl,_,rfl,ite2 (fun h9=>?_) (fun h9=>?_)⟩
     . rw[if_pos (show lim<absI (zc8 hs xs-hs.getD (k-1).toNat 0*s) from of_decide_eq_true h9)] at q
       exact q
     rw[if_neg (fun z:lim<absI (zc8 hs xs-hs.getD (k-1).toNat 0*s)=>h9 (decide_eq_true z))] at q
     refine⟨_,rfl,_,rfl,_,rfl,_,_,rfl,rfl,h,_,_,_,rfl,rfl,hh,ah,_,rfl,_,_,rfl,rfl,.inl ⟨by omega,by omega⟩,_,_,rfl,rfl,_,rfl,_,rfl,_,_,rfl,rfl,_,rfl,ite2 (fun h9=>?_) (fun h9=>?_)⟩
     . rw[if_pos (show lim<absI (zc8 hs xs-hs.getD (k-1).toNat 0*s+hs.getD (k-1).toNat 0*p) from of_decide_eq_true h9)] at q
       exact q
     rw[if_neg (fun z:lim<absI (zc8 hs xs-hs.getD (k-1).toNat 0*s+hs.getD (k-1).toNat 0*p)=>h9 (decide_eq_true z))] at q
     exact q
end
end Bt
namespace Bt
open PySem L2
section
variable {P:Program} {w:World} {K:PySem.W.Frag} {mg:Str->Option Value} {base:Heap} {t:Adr}
theorem use_finIH {R:Int->Hp->Prop} {S:Int->Hp->Prop} {G:Prop} (main:(∀ o H',S o H'->R o H')->G) (fin:∀ o H',S o H'->R o H'):G:=main fin
theorem zN9 {R:Int->Prop} {G:Prop} (main:(∀ o,R o)->G) (fin:∀ o,R o):G:=main fin
noncomputable def zs6 (K:PySem.W.Frag) (t:Adr):Sp:=fun vs H Q _=>∃ (c a:Addr) (n r lim cell:Int) (hs xs:List Int),vs=[.ref c,.ref a,.int cell]/\zm2 K H c n r hs lim/\zf8 n r hs.length xs/\H a=some (.tup (xs.map V.int))/\∀ (mv:Addr) (H':Hp) (k s p:Int),Same H H'->H' mv=some (.tup [.int k,.int s,.int p])->Q (.ref mv) H'
theorem ok_w_any_move (T:Txt K mg t):FnOk P w K mg base CX0 1 t.a_w_any_move t.d_w_any_move ["_law_scale","_law_now","_law_cell"] (zs6 K t):=by
 refine T.F_w_any_move.ok zf6 (fun vs H Q E h=>?_) (fun cdv A outer s H vs Q E hr h=>?_)
 . obtain ⟨c,a,n,r,lim,cell,hs,xs,rfl,⟨h,ok,hc,hh⟩,V0,ha,q⟩:=h
   rfl
 . obtain ⟨c,a,n,r,lim,cell,hs,xs,rfl,⟨h,ok,hc,hh⟩,V0,ha,q⟩:=h
   refine⟨_,(za4 (zb6 (i:=3) zf6.nd rfl (Or.inl rfl) (zb2 zb9 rfl T.n_len PySem.boot_len (za0 (zd0 zd5 (pv 0) za1 (fun _ _=>rfl)) za3)))
     (za4 (zb6 (i:=4) zf6.nd rfl (Or.inl rfl) (za9 zd4 (pv 2) (za9 zf0 (pv 3) za1)))
     (za4 (zb6 (i:=5) zf6.nd rfl (Or.inl rfl) (za9 zg2 (pv 2) (za9 zf0 (pv 3) za1)))
     (za4 (zd2 (zb5 zp9 (pv 4) (za9 zf0 (pv 3) za1) (zb7 _)) (za6 (zb6 (i:=4) zf6.nd rfl (Or.inl rfl) (zd0 zd5 (ze1 (za0 (zk9 zg7 za1) (za0 (za9 zS1 za1 za1) za3))) (za9 zf7 (za9 zf7 (pv 4) (pv 3)) za1) (fun _ _=>rfl)))) zb8)
     (za4 (zb6 (i:=6) zf6.nd rfl (Or.inl rfl) (za9 zf7 (za9 zf7 (za9 zd4 (za9 zg2 (pv 5) za1) (za9 zf0 (za9 zh5 za1 (zd0 zd5 (pv 0) za1 (fun _ _=>rfl))) za1)) (zd0 zd5 (pv 0) za1 (fun _ _=>rfl))) za1))
     (za4 (zd2 (PW.pt (zs1 (zb5 zp9 (za9 zd4 (pv 5) za1) za1 (zb7 _)) (zs1 (zb5 zM2 (pv 4) za1 (zb7 _)) (zo2 (zb5 zS2 (pv 4) (pv 3) (zb7 _)))))) (za6 (zb6 (i:=6) zf6.nd rfl (Or.inl rfl) (zd0 zh6 (pv 1) (za9 zf7 (pv 4) za1) (fun _ _=>rfl)))) zb8)
     (za4 (zb6 (i:=7) zf6.nd rfl (Or.inl rfl) (za9 zf7 (za9 zf7 (za9 zd4 (za9 zg2 (pv 5) za1) (za9 zf0 (za9 zh5 za1 (zd0 zd5 (pv 0) za1 (fun _ _=>rfl))) za1)) (zd0 zd5 (pv 0) za1 (fun _ _=>rfl))) za1))
     (za4 (zd2 (zb5 zi1 (zb2 zl8 rfl T.n_abs PyProof.Rows.boot_abs (za0 (pv 7) za3)) (za9 zf0 (zd0 zd5 (pv 0) za1 (fun _ _=>rfl)) za1) (zb7 _)) (za6 (zb6 (i:=7) zf6.nd rfl (Or.inl rfl) (za9 zg2 (za9 zh5 (pv 7) (za9 zS1 za1 za1)) (zb2 zl8 rfl T.n_abs PyProof.Rows.boot_abs (za0 (pv 7) za3))))) zb8)
     (za6 (zc4 (zu6 (za0 (pv 4) (za0 (pv 6) (za0 (pv 7) za3)))))))))))))),?_⟩
   have hw:=ok.w
   have n1:=ok.n1
   have n2:=ok.n2
   have hlen:=V0.len
   refine⟨_,rfl,c,_,_,_,rfl,rfl,hc,rfl,h,_,rfl,.inl hh,?_⟩
   rw[List.length_map]
   refine⟨_,rfl,_,rfl,_,_,rfl,rfl,_,_,rfl,rfl,(by show (0:Int)<(hs.length:Int)+4;omega),?_⟩
   refine⟨_,rfl,_,rfl,_,_,rfl,rfl,_,_,rfl,rfl,⟨by show (0:Int)<(hs.length:Int)+4;omega,by show (hs.length:Int)+4<1073741824;omega⟩,?_⟩
   have w1:0<=cell % ((hs.length:Int)+4):=Int.emod_nonneg _ (by omega)
   have w2:cell % ((hs.length:Int)+4)<(hs.length:Int)+4:=Int.emod_lt_of_pos _ (by omega)
   dsimp only
   revert w1 w2
   generalize cell % ((hs.length:Int)+4)=w0
   generalize cell / ((hs.length:Int)+4)=rest
   intro w1 w2
   refine⟨_,rfl,_,rfl,_,_,rfl,rfl,_,_,rfl,rfl,_,rfl,?_⟩
   refine use_finIH (R:=?R) (S:=fun _ H'=>Same H H') (fun fin=>?main) ?fin
   case main =>
     refine ite2 (fun h2=>?_) (fun h2=>?_)
     . have h2':(hs.length:Int)+1<w0:=of_decide_eq_true h2
       have hy:∃ o:Int,atI [V.int (-1),V.int (10 ^ 30)] (w0-(hs.length:Int)-2)=some (.int o):=by
         have:w0-(hs.length:Int)-2=0\/w0-(hs.length:Int)-2=1:=by omega
         rcases this with e | e<;>rw[e]
         . exact⟨_,rfl⟩
         . exact⟨_,rfl⟩
       obtain ⟨o,ho⟩:=hy
       refine⟨_,rfl,_,_,rfl,rfl,⟨by decide,by decide,by decide⟩,(by show 2<=sizeLine;decide),fun l3 f3=>?_⟩
       have s3:Same H (upd H l3 (.lst [V.int (-1),V.int (10 ^ Int.toNat 30)])):=Same.upd f3
       refine⟨_,rfl,_,rfl,_,_,rfl,rfl,_,_,rfl,rfl,l3,_,_,_,rfl,rfl,SqL.of za2,ho,?_⟩
       dsimp only
       clear ho
       revert s3
       generalize upd H l3 (.lst [V.int (-1),V.int (10 ^ Int.toNat 30)])=H'
       intro s3
       exact fin o H' s3
     . dsimp only[List.set]
       exact fin w0 H (Same.refl _)
   intro w3 H1 s1
   have hc1:=s1.seq hc
   have ha1:=s1 _ _ ha
   refine⟨_,rfl,_,_,rfl,rfl,⟨by decide,by decide⟩,_,rfl,c,_,_,_,rfl,rfl,hc1,rfl,_,_,rfl,rfl,.inl ⟨by decide,by decide⟩,_,_,rfl,rfl,_,_,rfl,rfl,(by show (0:Int)<2*n+3;omega),_,rfl,c,_,_,_,rfl,rfl,hc1,rfl,_,_,rfl,rfl,_,_,rfl,rfl,?_⟩
   dsimp only
   generalize rest / 3 % (2*n+3)-n-1=src0
   refine⟨_,rfl,_,_,rfl,rfl,(by show (0:Int)<3;decide),_,_,rfl,rfl,_,rfl,?_⟩
   refine zN9 (R:=?R2) (fun fin=>?main2) ?fin2
   case main2 =>
     refine ite2 (fun h2=>?_) (fun h2=>?_)
     . refine⟨_,rfl,_,_,rfl,rfl,_,rfl,ite2 (fun h3=>?_) (fun h3=>?_)⟩
       . refine⟨_,rfl,_,rfl,_,_,rfl,rfl,_,rfl,ite2 (fun h4=>?_) (fun h4=>?_)⟩
         . have h3':(1:Int)<=w3:=of_decide_eq_true h3
           have h4':w3<=(hs.length:Int):=of_decide_eq_true h4
           have ax:atI (xs.map V.int) (w3-1)=some (.int (xs.getD (w3-1).toNat 0)):=zf1 (by omega) (by omega)
           refine⟨_,rfl,_,rfl,_,_,rfl,rfl,a,_,_,_,rfl,rfl,SqT.of ha1,ax,?_⟩
           dsimp only[List.set]
           clear ax
           generalize xs.getD (w3-1).toNat 0=src1
           exact fin src1
         . dsimp only[List.set]
           exact fin src0
       . dsimp only[List.set]
         exact fin src0
     . dsimp only[List.set]
       exact fin src0
   intro src
   refine⟨_,rfl,_,_,rfl,rfl,⟨by decide,by decide⟩,_,rfl,c,_,_,_,rfl,rfl,hc1,rfl,_,_,rfl,rfl,.inl ⟨by decide,by decide⟩,_,_,rfl,rfl,_,_,rfl,rfl,(by show (0:Int)<2*n+7;omega),_,rfl,c,_,_,_,rfl,rfl,hc1,rfl,_,_,rfl,rfl,_,_,rfl,rfl,?_⟩
   dsimp only
   have t1:0<=rest / 33 % (2*n+7):=Int.emod_nonneg _ (by omega)
   have t2:rest / 33 % (2*n+7)<2*n+7:=Int.emod_lt_of_pos _ (by omega)
   have t3:-(n+3)<=rest / 33 % (2*n+7)-n-3/\rest / 33 % (2*n+7)-n-3<=n+3:=by omega
   generalize rest / 33 % (2*n+7)-n-3=tg0 at *
   refine⟨_,rfl,_,rfl,_,rfl,c,_,_,_,rfl,rfl,hc1,rfl,_,_,rfl,rfl,rfl,_,rfl,?_⟩
   rw[ze7]
   refine zN9 (R:=?R3) (fun fin=>?main3) ?fin3
   case main3 =>
     refine ite2 (fun h2=>?_) (fun h2=>?_)
     . have h2':(if tg0<0 then -tg0 else tg0)=n+3:=of_decide_eq_true h2
       refine⟨_,rfl,_,_,rfl,rfl,⟨by decide,by decide,by decide⟩,_,_,rfl,rfl,.inl ⟨by omega,by omega⟩,_,rfl,_,rfl,_,_,rfl,rfl,⟨by show (0:Int)<(if tg0<0 then -tg0 else tg0);omega,by show (if tg0<0 then -tg0 else tg0)<1073741824;omega⟩,?_⟩
       dsimp only[List.set]
       clear h2'
       generalize tg0*10 ^ Int.toNat 30 / (if tg0<0 then -tg0 else tg0)=tg1
       exact fin tg1
     . dsimp only[List.set]
       exact fin tg0
   intro tg
   exact⟨_,rfl,_,rfl,_,rfl,(by show 3<=sizeLine;decide),fun mv fmv=>q mv _ w3 src tg (s1.updT fmv) za2⟩
end
end Bt
namespace Bt
open PySem L2
section
variable {P:Program} {w:World} {K:PySem.W.Frag} {mg:Str->Option Value} {base:Heap} {t:Adr}
noncomputable def zR7 (j:Nat):Str:=if j=6 then "nothing back" else zx0 (j+1)
noncomputable def clsD (t:Adr) (j:Nat):Addr:=if j=6 then t.c_NothingBack else clsN t (j+1)
noncomputable def zy8 (j:Nat):List V:=[.bl (decide (j=0)),.bl (decide (j=1)),.bl (decide (j=2)),.bl (decide (j=3)),.bl (decide (j=4)),.bl (decide (j=5)),.bl (decide (j=6)),.bl false,.bl false]
noncomputable def zC1:List V:=[.str (Str.ofString "no weight"),.str (Str.ofString "no place"),.str (Str.ofString "same place"),.str (Str.ofString "no room"),.str (Str.ofString "tips in hand"),.str (Str.ofString "tips behind"),.str (Str.ofString "nothing back")]
noncomputable def zR8:List V:=zC1++[.str (Str.ofString "full"),.str (Str.ofString "other")]
noncomputable def zU2:V->Bool
 | .bl b=>b
 | _=>false
theorem dfacts (T:Txt K mg t) {j:Nat} (hj:j<7):XAsk K (clsD t j)/\PySem.W.exmOne K (.ref (clsD t j)) (.ref t.c_BeamError)=some true/\PySem.W.kitOne K (.ref (clsD t j)) (.ref t.c_NoWeight)=some (decide (j=0))/\PySem.W.kitOne K (.ref (clsD t j)) (.ref t.c_NoPlace)=some (decide (j=1))/\PySem.W.kitOne K (.ref (clsD t j)) (.ref t.c_SamePlace)=some (decide (j=2))/\PySem.W.kitOne K (.ref (clsD t j)) (.ref t.c_NoRoom)=some (decide (j=3))/\PySem.W.kitOne K (.ref (clsD t j)) (.ref t.c_TipsInHand)=some (decide (j=4))/\PySem.W.kitOne K (.ref (clsD t j)) (.ref t.c_TipsBehind)=some (decide (j=5))/\PySem.W.kitOne K (.ref (clsD t j)) (.ref t.c_NothingBack)=some (decide (j=6))/\PySem.W.kitOne K (.ref (clsD t j)) (.ref t.c_PlayFull)=some false/\PySem.W.kitOne K (.ref (clsD t j)) (.type "ValueError")=some true:=by
 match j,hj with
 | 0,_=>exact⟨T.xa_NoWeight,T.xm_NoWeight_BeamError,T.kt_NoWeight_NoWeight,T.kt_NoWeight_NoPlace,T.kt_NoWeight_SamePlace,T.kt_NoWeight_NoRoom,T.kt_NoWeight_TipsInHand,T.kt_NoWeight_TipsBehind,T.kt_NoWeight_NothingBack,T.kt_NoWeight_PlayFull,T.kt_NoWeight_ValueError⟩
 | 1,_=>exact⟨T.xa_NoPlace,T.xm_NoPlace_BeamError,T.kt_NoPlace_NoWeight,T.kt_NoPlace_NoPlace,T.kt_NoPlace_SamePlace,T.kt_NoPlace_NoRoom,T.kt_NoPlace_TipsInHand,T.kt_NoPlace_TipsBehind,T.kt_NoPlace_NothingBack,T.kt_NoPlace_PlayFull,T.kt_NoPlace_ValueError⟩
 | 2,_=>exact⟨T.xa_SamePlace,T.xm_SamePlace_BeamError,T.kt_SamePlace_NoWeight,T.kt_SamePlace_NoPlace,T.kt_SamePlace_SamePlace,T.kt_SamePlace_NoRoom,T.kt_SamePlace_TipsInHand,T.kt_SamePlace_TipsBehind,T.kt_SamePlace_NothingBack,T.kt_SamePlace_PlayFull,T.kt_SamePlace_ValueError⟩
 | 3,_=>exact⟨T.xa_NoRoom,T.xm_NoRoom_BeamError,T.kt_NoRoom_NoWeight,T.kt_NoRoom_NoPlace,T.kt_NoRoom_SamePlace,T.kt_NoRoom_NoRoom,T.kt_NoRoom_TipsInHand,T.kt_NoRoom_TipsBehind,T.kt_NoRoom_NothingBack,T.kt_NoRoom_PlayFull,T.kt_NoRoom_ValueError⟩
 | 4,_=>exact⟨T.xa_TipsInHand,T.xm_TipsInHand_BeamError,T.kt_TipsInHand_NoWeight,T.kt_TipsInHand_NoPlace,T.kt_TipsInHand_SamePlace,T.kt_TipsInHand_NoRoom,T.kt_TipsInHand_TipsInHand,T.kt_TipsInHand_TipsBehind,T.kt_TipsInHand_NothingBack,T.kt_TipsInHand_PlayFull,T.kt_TipsInHand_ValueError⟩
 | 5,_=>exact⟨T.xa_TipsBehind,T.xm_TipsBehind_BeamError,T.kt_TipsBehind_NoWeight,T.kt_TipsBehind_NoPlace,T.kt_TipsBehind_SamePlace,T.kt_TipsBehind_NoRoom,T.kt_TipsBehind_TipsInHand,T.kt_TipsBehind_TipsBehind,T.kt_TipsBehind_NothingBack,T.kt_TipsBehind_PlayFull,T.kt_TipsBehind_ValueError⟩
 | 6,_=>exact⟨T.xa_NothingBack,T.xm_NothingBack_BeamError,T.kt_NothingBack_NoWeight,T.kt_NothingBack_NoPlace,T.kt_NothingBack_SamePlace,T.kt_NothingBack_NoRoom,T.kt_NothingBack_TipsInHand,T.kt_NothingBack_TipsBehind,T.kt_NothingBack_NothingBack,T.kt_NothingBack_PlayFull,T.kt_NothingBack_ValueError⟩
 | j+7,h=>exact absurd h (by omega)
theorem joinD {j:Nat} (hj:j<7):∃ zs:List Str,zacc (fun _ y=>zU2 y) (fun x _=>x) zR8 (zy8 j)=zs.map V.str/\(zs.map (·.length)).sum+zs.length*(Str.ofString "").length<=16777216/\Txt.join (Str.ofString "") zs=zR7 j:=by
 match j,hj with
 | 0,_=>exact⟨["no weight"],rfl,by decide,rfl⟩
 | 1,_=>exact⟨["no place"],rfl,by decide,rfl⟩
 | 2,_=>exact⟨["same place"],rfl,by decide,rfl⟩
 | 3,_=>exact⟨["no room"],rfl,by decide,rfl⟩
 | 4,_=>exact⟨["tips in hand"],rfl,by decide,rfl⟩
 | 5,_=>exact⟨["tips behind"],rfl,by decide,rfl⟩
 | 6,_=>exact⟨["nothing back"],rfl,by decide,rfl⟩
 | j+7,h=>exact absurd h (by omega)
theorem kind_bl {j i:Nat} {y:V} (h:(zy8 j)[i]?=some y):∃ b,y = .bl b:=by
 have:y∈zy8 j:=List.mem_of_getElem? h
 simp only[zy8,List.mem_cons,List.not_mem_nil,or_false] at this
 rcases this with e | e | e | e | e | e | e | e | e<;>exact⟨_,e⟩
theorem use_finKH {R:V->V->Hp->Prop} {S:V->V->Hp->Prop} {G:Prop} (main:(∀ o k H',S o k H'->R o k H')->G) (fin:∀ o k H',S o k H'->R o k H'):G:=main fin
noncomputable def zK1 (K:PySem.W.Frag) (t:Adr):Sp:=fun vs H Q _=>∃ (p b s x m:Addr) (v1:V) (n r lim:Int) (hs a c:List Int) (ys:List V) (ms:List (List Int)),vs=[.ref p,v1]/\zg4 t H p b s x m n r hs lim a c ys ms/\zf8 n r hs.length c/\ys.length<300 ∧
 ((v1 = .non/\(ys=[]->∀ o H',Same H H'->H' o=some (.lst [.non,.str "nothing back"])->Q (.ref o) H') ∧
   (ys≠[]->∃ (ys0:List V) (ms0:List (List Int)) (tv:Addr) (i:Nat) (u v:Int),ys=ys0++[.ref tv]/\ms=ms0++[[(i:Int)+1,u,v]]/\H tv=some (.tup [.int ((i:Int)+1),.int u,.int v])/\i<c.length/\∀ o x' H',zg6 p m H H'->zg4 t H' p b s x' m n r hs lim a (c.set i u) ys0 ms0->H' o=some (.lst [.ref tv,.str ""])->Q (.ref o) H')) ∨
  (∃ (mv:Addr) (k u qq:Int),v1 = .ref mv/\H mv=some (.tup [.int k,.int u,.int qq]) ∧
   (refN n r lim hs c k u qq=0->∀ o x' tv H',zg6 p m H H'->zg4 t H' p b s x' m n r hs lim a (c.set (k-1).toNat qq) (ys++[.ref tv]) (ms++[[k,u,qq]])->H' o=some (.lst [.ref x',.str ""])->Q (.ref o) H') ∧
   (∀ j o H',refN n r lim hs c k u qq=j+1->Same H H'->H' o=some (.lst [.non,.str (zx0 (j+1))])->Q (.ref o) H')))
theorem ok_w_done (T:Txt K mg t):FnOk P w K mg base CX0 8 t.a_w_done t.d_w_done ["_law_play","_law_move"] (zK1 K t):=by
 have G_Play_back:FnOk P w K mg base (CXD P w) 4 t.a_Play_back t.d_Play_back ["self"] (zB9 K t):=ok_Play_back T
 have G_Play_move:FnOk P w K mg base (CXD P w) 7 t.a_Play_move t.d_Play_move ["self","move"] (zB8 K t):=ok_Play_move T
 refine T.F_w_done.ok zi6 (fun vs H Q E h=>?_) (fun cdv A outer s H vs Q E hr h=>?_)
 . obtain ⟨p,b,s,x,m,v1,n,r,lim,hs,a,c,ys,ms,rfl,P0,V0,hy3,hd⟩:=h
   rfl
 . obtain ⟨p,b,s,x,m,v1,n,r,lim,hs,a,c,ys,ms,rfl,P0,V0,hy3,hd⟩:=h
   have hr_Play_back:Room 4 _:=hr.mono (by decide)
   have hr_Play_move:Room 7 _:=hr.mono (by decide)
   refine⟨_,(za4 (zb6 (i:=2) zi6.nd rfl (Or.inl rfl) zv2)
     (za4 (zb6 (i:=3) zi6.nd rfl (Or.inl rfl) (ze1 za3))
     (za4 (ps_tryD (Ex:=fun σ9 cls od H9=>∃ j l,j<7/\σ9=[some (.ref p),some v1,some .non,some (.ref l),none,none]/\cls = .ref (clsD t j)/\Told H H9 od (zR7 j)/\∀ o H',Same H H'->H' o=some (.lst [.non,.str (zR7 j)])->Q (.ref o) H') (i:=4) ⟨rfl,rfl⟩ rfl T.m_BeamError zi6.nd rfl rfl (fun _=>(za6 (zd2 (zb5 zO3 (pv 1) zv2 (zb7 _)) (za6 (zb6 (i:=2) zi6.nd rfl (Or.inl rfl) (pe_meth0S (pv 0) T.cl_Play T.me_Play_back G_Play_back hr_Play_back T.b_Play_back .nil zD9))) (za6 (zb6 (i:=2) zi6.nd rfl (Or.inl rfl) (pe_methS (pv 0) T.cl_Play T.me_Play_move G_Play_move hr_Play_move T.b_Play_move .nil zD9 (za0 (pv 1) za3))))))) (fun _=>(za4 (zb6 (i:=3) zi6.nd rfl (Or.inl rfl) (ze1 (za0 (zb2 (zj7 K rfl) rfl T.n_isinstance PyProof.Rows.boot_isinstance (za0 (pv 4) (za0 (zh4 (v:=.ref t.c_NoWeight) rfl T.m_NoWeight rfl) za3))) (za0 (zb2 (zj7 K rfl) rfl T.n_isinstance PyProof.Rows.boot_isinstance (za0 (pv 4) (za0 (zh4 (v:=.ref t.c_NoPlace) rfl T.m_NoPlace rfl) za3))) (za0 (zb2 (zj7 K rfl) rfl T.n_isinstance PyProof.Rows.boot_isinstance (za0 (pv 4) (za0 (zh4 (v:=.ref t.c_SamePlace) rfl T.m_SamePlace rfl) za3))) (za0 (zb2 (zj7 K rfl) rfl T.n_isinstance PyProof.Rows.boot_isinstance (za0 (pv 4) (za0 (zh4 (v:=.ref t.c_NoRoom) rfl T.m_NoRoom rfl) za3))) za3))))))
     (za4 (zb6 (i:=3) zi6.nd rfl (Or.inl rfl) (za9 zF6 (pv 3) (ze1 (za0 (zb2 (zj7 K rfl) rfl T.n_isinstance PyProof.Rows.boot_isinstance (za0 (pv 4) (za0 (zh4 (v:=.ref t.c_TipsInHand) rfl T.m_TipsInHand rfl) za3))) (za0 (zb2 (zj7 K rfl) rfl T.n_isinstance PyProof.Rows.boot_isinstance (za0 (pv 4) (za0 (zh4 (v:=.ref t.c_TipsBehind) rfl T.m_TipsBehind rfl) za3))) (za0 (zb2 (zj7 K rfl) rfl T.n_isinstance PyProof.Rows.boot_isinstance (za0 (pv 4) (za0 (zh4 (v:=.ref t.c_NothingBack) rfl T.m_NothingBack rfl) za3))) za3))))))
     (za6 (zb6 (i:=3) zi6.nd rfl (Or.inl rfl) (za9 zF6 (pv 3) (ze1 (za0 (zb2 (zj7 K rfl) rfl T.n_isinstance PyProof.Rows.boot_isinstance (za0 (pv 4) (za0 (zh4 (v:=.ref t.c_PlayFull) rfl T.m_PlayFull rfl) za3))) (za0 (zO1 (zb2 (zj7 K rfl) rfl T.n_isinstance PyProof.Rows.boot_isinstance (za0 (pv 4) (za0 (zr2 (v:=.ty "ValueError") rfl T.n_ValueError boot_VE rfl) za3)))) za3))))))))))
     (za4 (zb6 (i:=5) zi6.nd rfl (Or.inl rfl) (ze1 (za0 ze0 (za0 ze0 (za0 ze0 (za0 ze0 (za0 ze0 (za0 ze0 (za0 ze0 za3)))))))))
     (za6 (zc4 (ze1 (za0 (pv 2) (za0 (zz8 PySem.F.plainAttrs_str PySem.F.slot_str_join PySem.F.type_str_join mt_join ze0 (za0 (zL0 rfl zw6 (pi_zipL rfl T.n_zip (za0 (za9 zF6 (pv 5) (ze1 (za0 ze0 (za0 ze0 za3)))) (za0 (pv 3) za3))) (fun _ _ _ _ _=>(zQ0 (n:=2) K rfl rfl (zd1 (zc6 (i:=0) zw6.nd rfl (Or.inl rfl)) (zd1 (zc6 (i:=1) zw6.nd rfl (Or.inl rfl)) zl7)))) (fun _ _ _ _ _=>(zF8 (zg1 (pv 1)))) (fun _ _ _ _ _=>(pv 0))) za3)) za3))))))))),?_⟩
   refine⟨Nat.zero_le _,fun kk fk=>?_⟩
   have s1:Same H (upd H kk (.lst [])):=Same.upd fk
   have hk:(upd H kk (.lst [])) kk=some (.lst []):=za2
   have nkm:kk≠m:=(zb0 P0.hm fk).symm
   have nkp:kk≠p:=(let ⟨dx,z⟩:=P0.hp;zb0 z fk).symm
   dsimp only
   revert s1 hk
   generalize upd H kk (.lst [])=H1
   intro s1 hk
   refine use_finKH (R:=?R) (S:=fun o kv H'=>∃ (kL:Addr) (ks:List V) (zs:List Str),kv = .ref kL/\H' kL=some (.lst ks)/\(∀ (i:Nat) y,ks[i]?=some y->∃ b,y = .bl b)/\zacc (fun _ y=>zU2 y) (fun x _=>x) zR8 ks=zs.map V.str/\(zs.map (·.length)).sum+zs.length*(Str.ofString "").length<=16777216/\∀ l H'',Same H' H''->H'' l=some (.lst [o,.str (Txt.join (Str.ofString "") zs)])->Q (.ref l) H'') (fun fin=>?main) ?fin
   case main =>
     refine⟨?_,fun σ' cls od H' a' hE fa=>?_⟩
     . obtain ⟨dxp,hp1⟩:=(P0.same s1).hp
       rcases hd with ⟨ev,q0,q1⟩ | ⟨mv,k,u,qq,ev,hM,q0,qe⟩
       . refine⟨_,rfl,rfl,_,rfl,iteA (decide_eq_true ev) ?_⟩
         refine⟨_,rfl,p,dxp,_,rfl,hp1,pf_back _ _ _ _,p,b,s,x,m,n,r,lim,hs,a,c,ys,ms,rfl,P0.same s1,by have:=V0.len;have:=P0.bm.1.w;omega,by omega,fun hy od H' tl=>⟨6,kk,by decide,rfl,rfl,tl.from s1,fun o H' s h=>q0 hy o H' s h⟩,fun hy=>?_⟩
         obtain ⟨ys0,ms0,tv,i,u,v,e1,e2,htv,hi,q⟩:=q1 hy
         refine⟨ys0,ms0,tv,i,u,v,e1,e2,s1 _ _ htv,hi,fun x' H2 s2 P2=>?_⟩
         have hk2:H2 kk=some (.lst []):=s2 _ _ hk nkp nkm
         have s02:zg6 p m H H2:=(Same.two s1 p m).trans s2
         show (fun v9 H9=>zl6 2 v9 _ H9 _) (V.ref tv) H2
         dsimp only
         generalize ho:V.ref tv=ov
         generalize hkv:V.ref kk=kv
         exact fin ov kv H2 ⟨kk,[],[],hkv.symm,hk2,fun i y z=>by simp at z,rfl,by decide,fun l H'' s'' h''=>q l x' H'' (s02.trans (Same.two s'' p m)) (P2.same s'') (by rw[h'',<-ho];rfl)⟩
       . refine⟨_,rfl,rfl,_,rfl,iteB (decide_eq_false (by rw[ev];exact fun z=>nomatch z)) ?_⟩
         refine⟨_,rfl,p,dxp,_,rfl,hp1,pf_move _ _ _ _,_,rfl,p,mv,b,s,x,m,n,r,lim,k,u,qq,hs,a,c,ys,ms,by rw[ev];rfl,P0.same s1,V0,s1 _ _ hM,hy3,fun hz x' tv H2 s2 P2=>?_,fun j od H' hj tl=>?_⟩
         . have hk2:H2 kk=some (.lst []):=s2 _ _ hk nkp nkm
           have s02:zg6 p m H H2:=(Same.two s1 p m).trans s2
           show (fun v9 H9=>zl6 2 v9 _ H9 _) (V.ref x') H2
           dsimp only
           generalize ho:V.ref x'=ov
           generalize hkv:V.ref kk=kv
           exact fin ov kv H2 ⟨kk,[],[],hkv.symm,hk2,fun i y z=>by simp at z,rfl,by decide,fun l H'' s'' h''=>q0 hz l x' tv H'' (s02.trans (Same.two s'' p m)) (P2.same s'') (by rw[h'',<-ho];rfl)⟩
         . have hj6:j<6:=by have:=zR6 n r lim hs c k u qq;omega
           have e1:clsD t j=clsN t (j+1):=if_neg (by omega)
           have e2:zR7 j=zx0 (j+1):=if_neg (by omega)
           exact⟨j,kk,by omega,rfl,by rw[e1],by rw[e2];exact tl.from s1,fun o H' s h=>qe j o H' hj s (by rw[e2] at h;exact h)⟩
     . obtain ⟨j,l9,hj,rfl,rfl,tl,qx⟩:=hE
       obtain ⟨sH,dx,fs,rfl,hdx,hw⟩:=tl
       have ne:dx≠a':=fun z=>by rw[z,fa] at hdx;cases hdx
       obtain ⟨X1,X2,k0,k1,k2,k3,k4,k5,k6,k7,k8⟩:=dfacts T hj
       refine⟨X2,?_⟩
       have s5:=sH.updT (o:=zA3 (.ref (clsD t j)) a' (some dx)) fa
       have HA:(upd H' a' (zA3 (.ref (clsD t j)) a' (some dx))) a'=_:=za2
       have HD:(upd H' a' (zA3 (.ref (clsD t j)) a' (some dx))) dx=_:=(za7 ne).trans hdx
       revert s5 HA HD
       generalize upd H' a' (zA3 (.ref (clsD t j)) a' (some dx))=H5
       intro s5 HA HD
       refine⟨_,rfl,a',_,dx,fs,_,_,_,rfl,.own _,HA,HD,X1,T.xw,k0,_,rfl,a',_,dx,fs,_,_,_,rfl,.own _,HA,HD,X1,T.xw,k1,_,rfl,a',_,dx,fs,_,_,_,rfl,.own _,HA,HD,X1,T.xw,k2,_,rfl,a',_,dx,fs,_,_,_,rfl,.own _,HA,HD,X1,T.xw,k3,(by show 4<=sizeLine;decide),fun l1 f1=>?_⟩
       have x6:=Same.upd (o:=.lst [.bl (decide (j=0)),.bl (decide (j=1)),.bl (decide (j=2)),.bl (decide (j=3))]) f1
       have h6:(upd H5 l1 (.lst [.bl (decide (j=0)),.bl (decide (j=1)),.bl (decide (j=2)),.bl (decide (j=3))])) l1=_:=za2
       dsimp only
       revert x6 h6
       generalize upd H5 l1 (.lst [.bl (decide (j=0)),.bl (decide (j=1)),.bl (decide (j=2)),.bl (decide (j=3))])=H6
       intro x6 h6
       have s6:=s5.trans x6
       replace HA:=x6 _ _ HA
       replace HD:=x6 _ _ HD
       refine⟨_,rfl,_,rfl,a',_,dx,fs,_,_,_,rfl,.own _,HA,HD,X1,T.xw,k4,_,rfl,a',_,dx,fs,_,_,_,rfl,.own _,HA,HD,X1,T.xw,k5,_,rfl,a',_,dx,fs,_,_,_,rfl,.own _,HA,HD,X1,T.xw,k6,(by show 3<=sizeLine;decide),fun l2 f2=>?_⟩
       have x7:=Same.upd (o:=.lst [.bl (decide (j=4)),.bl (decide (j=5)),.bl (decide (j=6))]) f2
       refine⟨l1,l2,_,_,rfl,rfl,x7 _ _ h6,za2,(by show 7<=sizeLine;decide),fun l3 f3=>?_⟩
       have x8:=x7.updT (o:=.lst ([.bl (decide (j=0)),.bl (decide (j=1)),.bl (decide (j=2)),.bl (decide (j=3))]++[.bl (decide (j=4)),.bl (decide (j=5)),.bl (decide (j=6))])) f3
       have h8:(upd (upd H6 l2 (.lst [.bl (decide (j=4)),.bl (decide (j=5)),.bl (decide (j=6))])) l3 (.lst ([.bl (decide (j=0)),.bl (decide (j=1)),.bl (decide (j=2)),.bl (decide (j=3))]++[.bl (decide (j=4)),.bl (decide (j=5)),.bl (decide (j=6))]))) l3=_:=za2
       dsimp only
       revert x8 h8
       generalize upd (upd H6 l2 (.lst [.bl (decide (j=4)),.bl (decide (j=5)),.bl (decide (j=6))])) l3 (.lst ([.bl (decide (j=0)),.bl (decide (j=1)),.bl (decide (j=2)),.bl (decide (j=3))]++[.bl (decide (j=4)),.bl (decide (j=5)),.bl (decide (j=6))]))=H8
       intro x8 h8
       have s8:=s6.trans x8
       replace HA:=x8 _ _ HA
       replace HD:=x8 _ _ HD
       refine⟨_,rfl,_,rfl,a',_,dx,fs,_,_,_,rfl,.own _,HA,HD,X1,T.xw,k7,_,rfl,a',_,dx,fs,_,_,_,rfl,.ty _,HA,HD,X1,T.xw,k8,_,rfl,(by show 2<=sizeLine;decide),fun l4 f4=>?_⟩
       have x9:=Same.upd (o:=.lst [.bl false,.bl (!true)]) f4
       refine⟨l3,l4,_,_,rfl,rfl,x9 _ _ h8,za2,(by show 9<=sizeLine;decide),fun l5 f5=>?_⟩
       have s10:Same H (upd (upd H8 l4 (.lst [.bl false,.bl (!true)])) l5 (.lst (zy8 j))):=(s8.trans x9).updT f5
       have h10:(upd (upd H8 l4 (.lst [.bl false,.bl (!true)])) l5 (.lst (zy8 j))) l5=some (.lst (zy8 j)):=za2
       show (fun x H1=>zl6 3 x _ H1 _) (V.ref l5) (upd (upd H8 l4 (.lst [.bl false,.bl (!true)])) l5 (.lst (zy8 j)))
       dsimp only
       revert s10 h10
       generalize upd (upd H8 l4 (.lst [.bl false,.bl (!true)])) l5 (.lst (zy8 j))=H10
       intro s10 h10
       obtain ⟨zs,z1,z2,z3⟩:=joinD hj
       generalize ho:V.non=ov
       generalize hkv:V.ref l5=kv
       exact fin ov kv H10 ⟨l5,zy8 j,zs,hkv.symm,h10,fun i y z=>kind_bl z,z1,z2,fun l H'' s'' h''=>qx l H'' (s10.trans s'') (by rw[h'',<-ho,z3])⟩
   case fin =>
     rintro o kv H' ⟨kL,ks,zs,rfl,hk',hbl,hz,hzl,qf⟩
     refine⟨(by show 7<=sizeLine;decide),fun nm fnm=>?_⟩
     have x11:Same H' (upd H' nm (.lst zC1)):=Same.upd fnm
     have h11:(upd H' nm (.lst zC1)) nm=some (.lst zC1):=za2
     show (fun x H1=>zl6 5 x _ H1 _) (V.ref nm) (upd H' nm (.lst zC1))
     dsimp only
     revert x11 h11
     generalize upd H' nm (.lst zC1)=H11
     intro x11 h11
     refine⟨_,rfl,rfl,_,rfl,(by show 2<=sizeLine;decide),fun l2 f2=>?_⟩
     have x12:Same H11 (upd H11 l2 (.lst [.str (Str.ofString "full"),.str (Str.ofString "other")])):=Same.upd f2
     refine⟨nm,l2,_,_,rfl,rfl,x12 _ _ h11,za2,(by show 9<=sizeLine;decide),fun l3 f3=>?_⟩
     have x13:Same H11 (upd (upd H11 l2 (.lst [.str (Str.ofString "full"),.str (Str.ofString "other")])) l3 (.lst (zC1++[.str (Str.ofString "full"),.str (Str.ofString "other")]))):=x12.updT f3
     have h13:(upd (upd H11 l2 (.lst [.str (Str.ofString "full"),.str (Str.ofString "other")])) l3 (.lst (zC1++[.str (Str.ofString "full"),.str (Str.ofString "other")]))) l3=some (.lst zR8):=za2
     dsimp only
     revert x13 h13
     generalize upd (upd H11 l2 (.lst [.str (Str.ofString "full"),.str (Str.ofString "other")])) l3 (.lst (zC1++[.str (Str.ofString "full"),.str (Str.ofString "other")]))=H13
     intro x13 h13
     have s13:=x11.trans x13
     have hk13:=s13 _ _ hk'
     refine⟨_,rfl,l3,kL,zR8,ks,rfl,h13,hk13,fun D fD=>?_⟩
     refine comp_zipL (g:=fun _ y=>zU2 y) (f:=fun x _=>x) (rest:=[]) h13 hk13 fD (by show 9<=sizeLine;decide) (fun i x y H' R ex ey s hR=>?_) (fun i x y H' R ex ey s hR=>⟨_,rfl,hR⟩) fun H5 s5 h5=>?_
     . obtain ⟨b,rfl⟩:=hbl _ _ ey
       exact⟨_,rfl,b,rfl,hR⟩
     . refine⟨Str.ofString "",D,zs,rfl,rfl,SqL.of (by rw[h5,hz]),hzl,(by show 2<=sizeLine;decide),fun l6 f6=>qf l6 _ ((s13.trans s5).updT f6) za2⟩
end
end Bt
namespace Bt
open PySem L2
section
variable {P:Program} {w:World} {K:PySem.W.Frag} {mg:Str->Option Value} {base:Heap} {t:Adr}
/-! ### the trail -/
noncomputable def Ch (n r:Int) (hs:List Int) (lim:Int) (s:List Int):List (List Int×Nat×Int)->List Int->Prop
 | [],c=>c=s
 | e::es,c=>c=e.1.set e.2.1 e.2.2/\Lets n r hs lim e.1 e.2.1 e.2.2/\Ch n r hs lim s es e.1
noncomputable def rowE (e:List Int×Nat×Int):List Int:=[(e.2.1:Int)+1,e.1.getD e.2.1 0,e.2.2]
noncomputable def zm3 (es:List (List Int×Nat×Int)):List (List Int):=(es.map rowE).reverse
theorem zu7 (e:List Int×Nat×Int) (es:List (List Int×Nat×Int)):zm3 (e::es)=zm3 es++[rowE e]:=by unfold zm3;rw[List.map_cons,List.reverse_cons]
theorem zD6 (es:List (List Int×Nat×Int)):(zm3 es).length=es.length:=by unfold zm3;rw[List.length_reverse,List.length_map]
theorem rowsE_mem {es:List (List Int×Nat×Int)}:∀ y∈zm3 es,y.length<=1000:=fun y hy=>by
 unfold zm3 at hy
 obtain ⟨e,_,rfl⟩:=List.mem_map.mp (List.mem_reverse.mp hy)
 show 3<=1000
 decide
theorem Ch.valid {n r:Int} {hs:List Int} {lim:Int} {s:List Int} {w:Nat} (V0:zf8 n r w s):∀ {es:List (List Int×Nat×Int)} {c:List Int},Ch n r hs lim s es c->zf8 n r w c
 | [],c,h=>by obtain rfl:c=s:=h;exact V0
 | e::es,c,h=>by rw[h.1];exact h.2.1.valid (Ch.valid V0 h.2.2)
theorem set_bk {x:List Int} {i:Nat} {q:Int} (hi:i<x.length):(x.set i q).set i (x.getD i 0)=x:=by
 rw[List.set_set,List.getD_eq_getElem?_getD,List.getElem?_eq_getElem hi,Option.getD_some,List.set_getElem_self]
theorem zg4.updL {t:Adr} {H:Hp} {p b s x m l:Addr} {n r lim:Int} {hs a c:List Int} {ys:List V} {ms:List (List Int)} {vs:List V} {o:HO} (P:zg4 t H p b s x m n r hs lim a c ys ms) (hl:H l=some (.lst vs)) (nl:l≠m):zg4 t (upd H l o) p b s x m n r hs lim a c ys ms:=by
 obtain ⟨ok,dx,h',hb,hh⟩:=P.bm
 have k:∀ {c:Addr} {o':HO},H c=some o'->(∀ vs,o'≠.lst vs)->upd H l o c=some o':=fun e ne=>by
   rw[za7 (fun z=>by rw[z,hl] at e;injection e with e;exact ne _ e.symm)]
   exact e
 exact⟨⟨ok,dx,h',k hb (fun _ z=>nomatch z),k hh (fun _ z=>nomatch z)⟩,P.nb,let ⟨dx,z⟩:=P.hp;⟨dx,k z (fun _ z=>nomatch z)⟩,k P.hs (fun _ z=>nomatch z),k P.hx (fun _ z=>nomatch z),by rw[za7 nl.symm];exact P.hm,zo7 hl (fun _ z=>nomatch z) P.tm⟩
theorem cut_map (xs:List Int) (lo hi:Option Int):∃ ys:List Int,cutV (xs.map V.int) lo hi=ys.map V.int/\ys.length<=xs.length:=by
 unfold cutV
 refine⟨(xs.drop (HT.sIx (xs.map V.int).length 0 lo)).take (HT.sIx (xs.map V.int).length (xs.map V.int).length hi-HT.sIx (xs.map V.int).length 0 lo),by rw[List.map_take,List.map_drop],?_⟩
 rw[List.length_take,List.length_drop]
 omega
theorem zK2 {H:Hp} {ys:List V} {ks:List (List Int)} {k:List Int} (h:Tups H ys (ks++[k])):∃ y0 b,ys=y0++[.ref b]/\Tups H y0 ks/\H b=some (.tup (k.map V.int)):=by
 induction ks generalizing ys with
 | nil =>
   cases h with
   | cons a t =>
     obtain ⟨b,e,hb⟩:=a
     cases t
     exact⟨[],b,by rw[e];rfl,.nil,hb⟩
 | cons k' ks ih =>
   cases h with
   | cons a t =>
     obtain ⟨y0,b,e,h1,h2⟩:=ih t
     exact⟨_::y0,b,by rw[e];rfl,.cons a h1,h2⟩
theorem zO0 {R:Hp->Prop} {S:Hp->Prop} {G:Prop} (main:(∀ o,S o->R o)->G) (fin:∀ o,S o->R o):G:=main fin
noncomputable def tri (x:Int×Int×Int):List Int:=[x.1,x.2.1,x.2.2]
theorem lets_ref {n r lim:Int} {hs c:List Int} {k u q:Int} (h:refN n r lim hs c k u q=0):∃ i:Nat,k=(i:Int)+1/\u=c.getD i 0/\Lets n r hs lim c i q:=by
 unfold refN at h
 by_cases h1:zs0 c k u
 . rw[if_neg (fun z=>z h1)] at h
   obtain ⟨⟨a1,a2⟩,a3⟩:=h1
   by_cases h2:q < -n\/n<q
   . rw[if_pos h2] at h;cases h
   rw[if_neg h2] at h
   by_cases h3:q=u
   . rw[if_pos h3] at h;cases h
   rw[if_neg h3] at h
   by_cases h4:zB3 r c q=true
   . rw[if_pos h4] at h;cases h
   rw[if_neg h4] at h
   by_cases h5:lim<absI (zi8 hs c (k-1).toNat)
   . rw[if_pos h5] at h;cases h
   rw[if_neg h5] at h
   by_cases h6:lim<absI (zi8 hs c (k-1).toNat+hs.getD (k-1).toNat 0*q)
   . rw[if_pos h6] at h;cases h
   refine⟨(k-1).toNat,by omega,a3.symm,by omega,⟨by omega,by omega⟩,by rw[a3];exact h3,fun h0=>?_,by omega,by omega⟩
   exact Int.not_le.mp fun z=>h4 (decide_eq_true ⟨h0,z⟩)
 . rw[if_pos h1] at h;cases h
theorem word_ne {j:Nat} (h:j<6):decide (V.str (zx0 (j+1))=V.str (Str.ofString ""))=false:=by
 match j,h with
 | 0,_=>decide
 | 1,_=>decide
 | 2,_=>decide
 | 3,_=>decide
 | 4,_=>decide
 | 5,_=>decide
 | i+6,h=>exact absurd h (by omega)
noncomputable def zE3 (K:PySem.W.Frag) (t:Adr):Sp:=fun vs H Q _=>∃ (c a tl:Addr) (n r lim cell:Int) (hs xs:List Int) (ts:List V) (T3:List (Int×Int×Int)),vs=[.ref c,.ref a,.ref tl,.int cell]/\zm2 K H c n r hs lim/\zf8 n r hs.length xs/\H a=some (.tup (xs.map V.int))/\H tl=some (.lst ts)/\Tups H ts (T3.map tri) ∧
 ∀ (mv:Addr) (H':Hp) (k s p:Int),Same H H'->H' mv=some (.tup [.int k,.int s,.int p])->Q (.ref mv) H'
theorem ok_w_chosen (T:Txt K mg t):FnOk P w K mg base CX0 4 t.a_w_chosen t.d_w_chosen ["_law_scale","_law_now","_law_tried","_law_cell"] (zE3 K t):=by
 have G_w_pick:FnOk P w K mg base CX0 3 t.a_w_pick t.d_w_pick ["_law_scale","_law_spots","_law_cell"] (zJ9 K t):=ok_w_pick T
 have G_w_any_move:FnOk P w K mg base CX0 1 t.a_w_any_move t.d_w_any_move ["_law_scale","_law_now","_law_cell"] (zs6 K t):=ok_w_any_move T
 refine T.F_w_chosen.ok zr6 (fun vs H Q E h=>?_) (fun cdv A outer s H vs Q E hr h=>?_)
 . obtain ⟨c,a,tl,n,r,lim,cell,hs,xs,ts,T3,rfl,S,V0,ha,htl,TT,q⟩:=h
   rfl
 . obtain ⟨c,a,tl,n,r,lim,cell,hs,xs,ts,T3,rfl,S,V0,ha,htl,TT,q⟩:=h
   have hr_w_pick:Room 3 _:=hr.mono (by decide)
   have hr_w_any_move:Room 1 _:=hr.mono (by decide)
   refine⟨_,(za4 (zb6 (i:=4) zr6.nd rfl (Or.inl rfl) (zb3 G_w_pick hr_w_pick rfl T.m_w_pick T.k_w_pick T.b_w_pick .nil zc2 (za0 (pv 0) (za0 (pv 1) (za0 (za9 zg2 (pv 3) za1) za3)))))
     (za4 (zb6 (i:=5) zr6.nd rfl (Or.inl rfl) (za9 zh5 (za9 zg2 (pv 3) za1) (zd0 zd5 (ze1 (za0 za1 (za0 za1 za3))) (za9 zd4 (za9 zg2 (pv 3) za1) za1) (fun _ _=>rfl))))
     (za4 (zd2 (PW.pt (zs1 (zb5 zi1 (za9 zd4 (pv 3) za1) za1 (zb7 _)) (zo2 (zb5 (op_neE (Nat.lt_of_succ_lt (zP5 hr))) (pv 2) (ze1 za3) (zb7 _))))) (za6 (zc4 (zd0 zd5 (pv 2) (za9 zd4 (pv 5) (zb2 zb9 rfl T.n_len PySem.boot_len (za0 (pv 2) za3))) (fun _ _=>rfl)))) zb8)
     (za4 (zd2 (PW.pt (zs1 (zb5 zp9 (za9 zd4 (pv 3) za1) za1 (zb7 _)) (zo2 (zb5 zp9 (zb2 zb9 rfl T.n_len PySem.boot_len (za0 (pv 1) za3)) za1 (zb7 _))))) (za4 (zb6 (i:=6) zr6.nd rfl (Or.inl rfl) (za9 zf0 za1 (za9 zd4 (pv 5) (zb2 zb9 rfl T.n_len PySem.boot_len (za0 (pv 1) za3)))))
     (za6 (zc4 (zu6 (za0 (pv 6) (za0 (zd0 zh6 (pv 1) (za9 zf7 (pv 6) za1) (fun _ _=>rfl)) (za0 (za9 zf7 (za9 zd4 (za9 zg2 (pv 5) za1) (za9 zf0 (za9 zh5 za1 (zd0 zd5 (pv 0) za1 (fun _ _=>rfl))) za1)) (zd0 zd5 (pv 0) za1 (fun _ _=>rfl))) za3))))))) zb8)
     (za4 (zd2 (PW.pt (zv3 (zb5 zp9 (za9 zd4 (pv 3) za1) za1 (zb7 _)) (zu4 (zb5 zO3 (pv 4) zv2 (zb7 _))))) (za6 (zc4 (zb3 G_w_any_move hr_w_any_move rfl T.m_w_any_move T.k_w_any_move T.b_w_any_move .nil zc2 (za0 (pv 0) (za0 (pv 1) (za0 (pv 5) za3)))))) zb8)
     (za6 (zc4 (pv 4)))))))),?_⟩
   have hw:=(let ⟨_,h,_⟩:=S;h:zi7 n r hs lim).w
   have hn1:=(let ⟨_,h,_⟩:=S;h:zi7 n r hs lim).n1
   have hn2:=(let ⟨_,h,_⟩:=S;h:zi7 n r hs lim).n2
   have hlen:=V0.len
   refine⟨_,rfl,_,rfl,_,rfl,_,_,rfl,rfl,⟨by decide,by decide⟩,c,a,_,n,r,lim,hs,xs,rfl,S,V0,ha,fun v H1 s1 hv=>?_⟩
   refine⟨_,rfl,_,_,rfl,rfl,⟨by decide,by decide⟩,(by show 2<=sizeLine;decide),fun l2 f2=>?_⟩
   have s2:Same H1 (upd H1 l2 (.lst [.int 1,.int 48271])):=Same.upd f2
   have h2:(upd H1 l2 (.lst [.int 1,.int 48271])) l2=some (.lst [.int 1,.int 48271]):=za2
   dsimp only
   revert s2 h2
   generalize upd H1 l2 (.lst [.int 1,.int 48271])=H2
   intro s2 h2
   obtain ⟨fac,hfac,fb⟩:∃ o:Int,atI [V.int 1,V.int 48271] (cell / 8 % 2)=some (.int o)/\(-(2 ^ 64)<o/\o<2 ^ 64):=by
     have:cell / 8 % 2=0\/cell / 8 % 2=1:=by omega
     rcases this with e | e<;>rw[e]
     . exact⟨1,rfl,by decide,by decide⟩
     . exact⟨48271,rfl,by decide,by decide⟩
   refine⟨_,rfl,_,_,rfl,rfl,⟨by decide,by decide⟩,_,_,rfl,rfl,(by show (0:Int)<2;decide),l2,_,_,_,rfl,rfl,SqL.of h2,hfac,_,_,rfl,rfl,.inr fb,?_⟩
   dsimp only
   generalize cell / 8*fac=more
   clear hfac fb h2 f2
   have s02:=s1.trans s2
   replace hv:v = .non\/∃ (i:Nat) (q:Int) (mv:Addr),v = .ref mv/\H2 mv=some (.tup [.int ((i:Int)+1),.int (xs.getD i 0),.int q]):=by
     rcases hv with h | ⟨i,qq,mv,e,_,h⟩
     . exact .inl h
     . exact .inr ⟨i,qq,mv,e,s2 _ _ h⟩
   refine⟨_,rfl,_,_,rfl,rfl,(by show (0:Int)<8;decide),rfl,_,rfl,?_⟩
   refine zO0 (R:=?Ra) (S:=fun H'=>Same H2 H') (fun fin=>?maina) ?fina
   case maina =>
     refine ite2 (fun h1=>?yes) (fun h1=>?no)
     case yes =>
       refine⟨_,rfl,Nat.zero_le _,fun l3 f3=>?_⟩
       have s3:Same H2 (upd H2 l3 (.lst [])):=Same.upd f3
       have htl3:=(s02.trans s3) _ _ htl
       refine⟨tl,l3,ts,rfl,rfl,SqL.of htl3,SqL.of za2,_,rfl,?_⟩
       revert s3 htl3
       generalize upd H2 l3 (.lst [])=H3
       intro s3 htl3
       refine ite2 (fun h2=>?_) (fun h2=>?_)
       . have hpos:0<ts.length:=by
           cases ts with
           | nil=>cases h2
           | cons _ _=>simp
         have i1:0<=more % (ts.length:Int):=Int.emod_nonneg _ (by omega)
         have i2:more % (ts.length:Int)<ts.length:=Int.emod_lt_of_pos _ (by omega)
         obtain ⟨j,ej⟩:∃ j:Nat,more % (ts.length:Int)=(j:Int):=⟨_,(Int.toNat_of_nonneg i1).symm⟩
         have hj:j<ts.length:=by omega
         obtain ⟨b,y,e1,e2,hb⟩:=zA4 ((s02.trans s3).tups TT) (List.getElem?_eq_getElem hj)
         obtain ⟨x3,_,rfl⟩:=List.mem_map.mp (List.mem_of_getElem? e2)
         exact⟨_,rfl,_,rfl,_,rfl,tl,_,rfl,.inl (SqL.of htl3),_,_,rfl,rfl,(by show (0:Int)<(ts.length:Int);omega),tl,_,_,_,rfl,rfl,SqL.of htl3,(by show atI ts (more % (ts.length:Int))=_;rw[ej];exact zz7 (by rw[List.getElem?_eq_getElem hj,e1])),q b H3 x3.1 x3.2.1 x3.2.2 (s02.trans s3) hb⟩
       . exact fin H3 s3
     case no=>exact iteF (fin H2 (Same.refl _))
   rintro H3 s3
   have s03:=s02.trans s3
   have ha3:=s03 _ _ ha
   have S3:=S.same s03
   refine⟨_,rfl,_,_,rfl,rfl,(by show (0:Int)<8;decide),_,_,rfl,rfl,_,rfl,?_⟩
   refine zO0 (R:=?Rb) (S:=fun H'=>H'=H3) (fun fin=>?mainb) ?finb
   case mainb =>
     refine ite2 (fun h1=>?yes) (fun h1=>?no)
     case yes =>
       refine⟨_,rfl,a,_,rfl,.inr (SqT.of ha3),_,_,rfl,rfl,_,rfl,?_⟩
       rw[List.length_map]
       refine ite2 (fun h2=>?_) (fun h2=>?_)
       . have h2':(0:Int)<(xs.length:Int):=of_decide_eq_true h2
         refine⟨_,rfl,_,rfl,a,_,rfl,.inr (SqT.of ha3),?_⟩
         rw[List.length_map]
         have i1:0<=more % (xs.length:Int):=Int.emod_nonneg _ (by omega)
         have i2:more % (xs.length:Int)<xs.length:=Int.emod_lt_of_pos _ (by omega)
         refine⟨_,_,rfl,rfl,(by show (0:Int)<(xs.length:Int);omega),_,_,rfl,rfl,?_⟩
         obtain ⟨h,ok,hc,hh⟩:=S3
         have ax:atI (xs.map V.int) (1+more % (xs.length:Int)-1)=some (.int (xs.getD (1+more % (xs.length:Int)-1).toNat 0)):=zf1 (by omega) (by omega)
         exact⟨_,rfl,_,rfl,_,rfl,_,_,rfl,rfl,a,_,_,_,rfl,rfl,SqT.of ha3,ax,_,rfl,_,_,rfl,rfl,⟨by decide,by decide⟩,_,rfl,c,_,_,_,rfl,rfl,hc,rfl,_,_,rfl,rfl,.inl ⟨by decide,by decide⟩,_,_,rfl,rfl,_,_,rfl,rfl,(by show (0:Int)<2*n+1;omega),_,rfl,c,_,_,_,rfl,rfl,hc,rfl,_,_,rfl,rfl,(by show 3<=sizeLine;decide),fun mv fmv=>q mv _ _ _ _ (s03.updT fmv) za2⟩
       . exact fin H3 rfl
     case no=>exact iteF (fin H3 rfl)
   rintro H3 rfl
   refine⟨_,rfl,_,_,rfl,rfl,(by show (0:Int)<8;decide),_,_,rfl,rfl,_,rfl,?_⟩
   have anym:zs6 K t [.ref c,.ref a,.int more] H3 Q E:=⟨c,a,n,r,lim,more,hs,xs,rfl,S3,V0,ha3,fun mv H4 k s p s4 h4=>q mv H4 k s p (s03.trans s4) h4⟩
   refine ite2 (fun h1=>?_) (fun h1=>?_)
   . exact⟨_,rfl,_,rfl,_,rfl,anym⟩
   . refine⟨_,rfl,rfl,_,rfl,?_⟩
     rcases hv with rfl | ⟨i,qq,mv,rfl,hmv⟩
     . exact iteA (decide_eq_true rfl) ⟨_,rfl,_,rfl,_,rfl,anym⟩
     . exact iteB (decide_eq_false (fun z=>nomatch z)) ⟨_,rfl,q mv H3 _ _ _ s03 (s3 _ _ hmv)⟩
noncomputable def Sm4 (p m d l:Addr) (H H':Hp):Prop:=∀ a o,H a=some o->a≠p->a≠m->a≠d->a≠l->H' a=some o
structure D31 (t:Adr) (H:Hp) (p b s0 x m md tl:Addr) (n r lim:Int) (hs s c:List Int) (ys yd ts:List V) (es:List (List Int×Nat×Int)) (T3:List (Int×Int×Int)):Prop where
 pl:zg4 t H p b s0 x m n r hs lim s c ys (zm3 es)
 hmd:H md=some (.lst yd)
 td:Tups H yd (zm3 es)
 htl:H tl=some (.lst ts)
 tt:Tups H ts (T3.map tri)
 ch:Ch n r hs lim s es c
 n1:md≠m
 n2:tl≠m
 n3:md≠tl
theorem D31.same {t:Adr} {H H':Hp} {p b s0 x m md tl:Addr} {n r lim:Int} {hs s c:List Int} {ys yd ts:List V} {es:List (List Int×Nat×Int)} {T3:List (Int×Int×Int)} (I:D31 t H p b s0 x m md tl n r lim hs s c ys yd ts es T3) (e:Same H H'):D31 t H' p b s0 x m md tl n r lim hs s c ys yd ts es T3:=⟨I.pl.same e,e _ _ I.hmd,e.tups I.td,e _ _ I.htl,e.tups I.tt,I.ch,I.n1,I.n2,I.n3⟩
theorem D31.np {t:Adr} {H:Hp} {p b s0 x m md tl:Addr} {n r lim:Int} {hs s c:List Int} {ys yd ts:List V} {es:List (List Int×Nat×Int)} {T3:List (Int×Int×Int)} (I:D31 t H p b s0 x m md tl n r lim hs s c ys yd ts es T3) {a:Addr} {vs:List V} (e:H a=some (.lst vs)):a≠p:=fun z=>by
 obtain ⟨C,dx,fs,hp⟩:=I.pl.ip
 rw[z,hp] at e
 cases e
theorem D31.tried {t:Adr} {H:Hp} {p b s0 x m md tl mv:Addr} {n r lim:Int} {hs s c:List Int} {ys yd ts:List V} {es:List (List Int×Nat×Int)} {T3:List (Int×Int×Int)} {k u q:Int} (I:D31 t H p b s0 x m md tl n r lim hs s c ys yd ts es T3) (hm:H mv=some (.tup [.int k,.int u,.int q])) :
   D31 t (upd H tl (.lst (ts++[.ref mv]))) p b s0 x m md tl n r lim hs s c ys yd (ts++[.ref mv]) es (T3++[(k,u,q)]):=by
 have kl:∀ {ys:List V} {ks:List (List Int)},Tups H ys ks->Tups (upd H tl (.lst (ts++[.ref mv]))) ys ks:=fun h=>zo7 I.htl (fun _ z=>nomatch z) h
 refine⟨I.pl.updL I.htl I.n2,by rw[za7 I.n3];exact I.hmd,kl I.td,za2,?_,I.ch,I.n1,I.n2,I.n3⟩
 rw[List.map_append]
 exact zx6 (kl I.tt) (by rw[za7 (fun z=>by rw[z,I.htl] at hm;cases hm)];exact hm)
theorem D31.made {t:Adr} {H H3:Hp} {p b s0 x x' m md tl:Addr} {n r lim:Int} {hs s c c':List Int} {ys ys' yd yd' ts:List V} {es es':List (List Int×Nat×Int)} {T3:List (Int×Int×Int)} (I:D31 t H p b s0 x m md tl n r lim hs s c ys yd ts es T3) (s3:zg6 p m H H3) (P3:zg4 t H3 p b s0 x' m n r hs lim s c' ys' (zm3 es')) (td:Tups H3 yd' (zm3 es')) (ch:Ch n r hs lim s es' c') :
   D31 t (upd H3 md (.lst yd')) p b s0 x' m md tl n r lim hs s c' ys' yd' ts es' T3:=by
 have hmd3:H3 md=some (.lst yd):=s3 _ _ I.hmd (I.np I.hmd) I.n1
 have kl:∀ {ys:List V} {ks:List (List Int)},Tups H3 ys ks->Tups (upd H3 md (.lst yd')) ys ks:=fun h=>zo7 hmd3 (fun _ z=>nomatch z) h
 exact⟨P3.updL hmd3 I.n1,za2,kl td,by rw[za7 I.n3.symm];exact s3 _ _ I.htl (I.np I.htl) I.n2,kl (s3.tups I.pl.ip ⟨_,I.pl.hm⟩ I.tt),ch,I.n1,I.n2,I.n3⟩
noncomputable def zK3 (K:PySem.W.Frag) (t:Adr):Sp:=fun vs H Q _=>∃ (p k nw md tl b s0 x m:Addr) (cell n r lim:Int) (hs s c:List Int) (ys yd ts:List V) (es:List (List Int×Nat×Int)) (T3:List (Int×Int×Int)),vs=[.ref p,.ref k,.ref nw,.ref md,.ref tl,.int cell]/\zm2 K H k n r hs lim/\D31 t H p b s0 x m md tl n r lim hs s c ys yd ts es T3/\H nw=some (.tup (c.map V.int))/\zf8 n r hs.length s/\es.length<300/\ts.length<300 ∧
 ∀ o nw' x' c' ys' yd' ts' es' T3' H',Sm4 p m md tl H H'->D31 t H' p b s0 x' m md tl n r lim hs s c' ys' yd' ts' es' T3'->H' nw'=some (.tup (c'.map V.int))->H' o=some (.lst [.ref nw',.bl true])->es'.length<=es.length+1->ts'.length<=ts.length+1->Q (.ref o) H'
theorem ok_w_deed (T:Txt K mg t):FnOk P w K mg base CX0 9 t.a_w_deed t.d_w_deed ["_law_play","_law_scale","_law_now","_law_made","_law_tried","_law_cell"] (zK3 K t):=by
 have G_w_chosen:FnOk P w K mg base CX0 4 t.a_w_chosen t.d_w_chosen ["_law_scale","_law_now","_law_tried","_law_cell"] (zE3 K t):=ok_w_chosen T
 have G_w_word:FnOk P w K mg base CX0 2 t.a_w_word t.d_w_word ["_law_scale","_law_spots","_law_move"] (zK0 K t):=ok_w_word T
 have G_w_done:FnOk P w K mg base CX0 8 t.a_w_done t.d_w_done ["_law_play","_law_move"] (zK1 K t):=ok_w_done T
 have G_w_same:FnOk P w K mg base CX0 2 t.a_w_same t.d_w_same ["_law_found","_law_due"] (zy3 K t):=zD4 T
 refine T.F_w_deed.ok zk2 (fun vs H Q E h=>?_) (fun cdv A outer s H vs Q E hr h=>?_)
 . obtain ⟨p,k,nw,md,tl,b,s0,x,m,cell,n,r,lim,hs,s,c,ys,yd,ts,es,T3,rfl,S,I,hnw,V0,hes,hts,q⟩:=h
   rfl
 . obtain ⟨p,k,nw,md,tl,b,s0,x,m,cell,n,r,lim,hs,s,c,ys,yd,ts,es,T3,rfl,S,I,hnw,V0,hes,hts,q⟩:=h
   have hr_w_chosen:Room 4 _:=hr.mono (by decide)
   have hr_w_word:Room 2 _:=hr.mono (by decide)
   have hr_w_done:Room 8 _:=hr.mono (by decide)
   have hr_w_same:Room 2 _:=hr.mono (by decide)
   refine⟨_,(za4 (zb6 (i:=6) zk2.nd rfl (Or.inl rfl) (zb3 G_w_chosen hr_w_chosen rfl T.m_w_chosen T.k_w_chosen T.b_w_chosen .nil zc2 (za0 (pv 1) (za0 (pv 2) (za0 (pv 4) (za0 (pv 5) za3))))))
     (za4 (zd2 (PW.pt (zs1 (zb5 zi1 (za9 zd4 (pv 5) za1) za1 (zb7 _)) (zo2 (zb5 (zT0 (Nat.lt_of_succ_lt (zP5 hr))) (pv 3) (ze1 za3) (zb7 _))))) (za6 (zc4 (ze1 (za0 (pv 2) (za0 (zn1 (op_eqL (Nat.lt_of_succ_lt (zP5 hr))) (zb3 G_w_done hr_w_done rfl T.m_w_done T.k_w_done T.b_w_done .nil zc2 (za0 (pv 0) (za0 zv2 za3))) (ze1 (za0 zv2 (za0 ze0 za3))) (zb7 _)) za3))))) zb8)
     (za4 (zd2 (zb5 zi1 (za9 zd4 (pv 5) za1) za1 (zb7 _)) (za4 (zb6 (i:=6) zk2.nd rfl (Or.inl rfl) (zS6 PySem.F.plainAttrs_list PySem.F.slot_list_pop PySem.F.type_list_pop zS7 (pv 3)))
     (za4 (zs3 (zb3 G_w_done hr_w_done rfl T.m_w_done T.k_w_done T.b_w_done .nil zc2 (za0 (pv 0) (za0 zv2 za3))) (zv5 rfl (zd1 (zc6 (i:=7) zk2.nd rfl (Or.inl rfl)) (zd1 (zc6 (i:=8) zk2.nd rfl (Or.inl rfl)) zl7))))
     (za6 (zc4 (ze1 (za0 (za9 zr4 (za9 zr4 (zk5 zv4 (pv 2) zo3 (zl9 (za9 zf7 (zd0 zh6 (pv 6) za1 (fun _ _=>rfl)) za1))) (zu6 (za0 (zd0 zh6 (pv 6) za1 (fun _ _=>rfl)) za3))) (zk5 zv4 (pv 2) (zl9 (zd0 zh6 (pv 6) za1 (fun _ _=>rfl))) zo3)) (za0 (zF2 (zb2 zq0 rfl T.n_isinstance PyProof.Rows.boot_isinstance (za0 (pv 7) (za0 (zr2 (v:=.ty "tuple") rfl T.n_tuple PyProof.Rows.boot_tuple rfl) za3))) (zC2 (zb3 G_w_same hr_w_same rfl T.m_w_same T.k_w_same T.b_w_same .nil zc2 (za0 (pv 7) (za0 (pv 6) za3))))) za3))))))) zb8)
     (za4 (zb6 (i:=9) zk2.nd rfl (Or.inl rfl) (zb3 G_w_word hr_w_word rfl T.m_w_word T.k_w_word T.b_w_word .nil zc2 (za0 (pv 1) (za0 (pv 2) (za0 (pv 6) za3)))))
     (za4 (zs3 (zb3 G_w_done hr_w_done rfl T.m_w_done T.k_w_done T.b_w_done .nil zc2 (za0 (pv 0) (za0 (pv 6) za3))) (zv5 rfl (zd1 (zc6 (i:=7) zk2.nd rfl (Or.inl rfl)) (zd1 (zc6 (i:=8) zk2.nd rfl (Or.inl rfl)) zl7))))
     (za4 (zd2 (zb5 zs8 (pv 9) ze0 (zb7 _)) (za4 (zf4 (zz8 PySem.F.plainAttrs_list PySem.F.slot_list_append PySem.F.type_list_append zm7 (pv 4) (za0 (pv 6) za3)))
     (za6 (zc4 (ze1 (za0 (pv 2) (za0 (zF2 (zn1 zO3 (pv 7) zv2 (zb7 _)) (zC2 (zn1 zi1 (pv 8) (pv 9) (zb7 _)))) za3)))))) zb8)
     (za4 (zf4 (zz8 PySem.F.plainAttrs_list PySem.F.slot_list_append PySem.F.type_list_append zm7 (pv 3) (za0 (pv 6) za3)))
     (za4 (zb6 (i:=10) zk2.nd rfl (Or.inl rfl) (za9 zr4 (za9 zr4 (zk5 zv4 (pv 2) zo3 (zl9 (za9 zf7 (zd0 zh6 (pv 6) za1 (fun _ _=>rfl)) za1))) (zu6 (za0 (zd0 zh6 (pv 6) za1 (fun _ _=>rfl)) za3))) (zk5 zv4 (pv 2) (zl9 (zd0 zh6 (pv 6) za1 (fun _ _=>rfl))) zo3)))
     (za6 (zc4 (ze1 (za0 (pv 10) (za0 (zF2 (zb2 zq0 rfl T.n_isinstance PyProof.Rows.boot_isinstance (za0 (pv 7) (za0 (zr2 (v:=.ty "tuple") rfl T.n_tuple PyProof.Rows.boot_tuple rfl) za3))) (zC2 (zb3 G_w_same hr_w_same rfl T.m_w_same T.k_w_same T.b_w_same .nil zc2 (za0 (pv 7) (za0 (pv 10) za3))))) za3))))))))))))),?_⟩
   have hw:=(let ⟨_,h,_⟩:=S;h:zi7 n r hs lim).w
   have hheft:=(let ⟨_,h,_⟩:=S;h:zi7 n r hs lim).h
   have Vc:=I.ch.valid V0
   have hcl:=Vc.len
   refine⟨_,rfl,_,rfl,_,rfl,_,rfl,k,nw,tl,n,r,lim,cell,hs,c,ts,T3,rfl,S,Vc,hnw,I.htl,I.tt,fun mv H1 kk ss pp s1 hmv=>?_⟩
   replace I:=I.same s1
   have hnw1:=s1 _ _ hnw
   have S1:=S.same s1
   have hyl:ys.length=es.length:=by rw[zm0 I.pl.tm,zD6]
   have hydl:yd.length=es.length:=by rw[zm0 I.td,zD6]
   refine⟨_,rfl,_,_,rfl,rfl,(by show (0:Int)<8;decide),rfl,_,rfl,?_⟩
   refine ite2 (fun h7=>?yes) (fun h7=>?no)
   case yes =>
     refine⟨_,rfl,Nat.zero_le _,fun l2 f2=>?_⟩
     have s2:Same H1 (upd H1 l2 (.lst [])):=Same.upd f2
     refine⟨md,l2,yd,rfl,rfl,SqL.of (s2 _ _ I.hmd),SqL.of za2,_,rfl,?_⟩
     revert s2
     generalize upd H1 l2 (.lst [])=H2
     intro s2
     replace I:=I.same s2
     have hnw2:=s2 _ _ hnw1
     have s02:=s1.trans s2
     refine ite2 (fun h2=>?_) (fun h2=>?_)
     . have hyd:yd=[]:=by
         cases yd with
         | nil=>rfl
         | cons _ _=>cases h2
       have hys:ys=[]:=List.eq_nil_of_length_eq_zero (by rw[hyl,<-hydl,hyd];rfl)
       refine⟨_,rfl,_,rfl,p,b,s0,x,m,_,n,r,lim,hs,s,c,ys,zm3 es,rfl,I.pl,Vc,by omega,.inl ⟨rfl,fun _ o H3 s3 ho=>?_,fun z=>absurd hys z⟩⟩
       refine⟨(by show 2<=sizeLine;decide),fun l4 f4=>?_⟩
       have x4:Same H3 (upd H3 l4 (.lst [.non,.str (Str.ofString "nothing back")])):=Same.upd f4
       refine⟨o,l4,_,_,rfl,rfl,SqL.of (x4 _ _ ho),SqL.of za2,fun j u v e1 e2=>?_,(by show 2<=sizeLine;decide),fun l5 f5=>?_⟩
       . rw[e1] at e2
         obtain rfl:=Option.some.inj e2
         have:=List.mem_of_getElem? e1
         simp only[List.mem_cons,List.not_mem_nil,or_false] at this
         rcases this with rfl | rfl<;>rfl
       have s25:=(s3.trans x4).updT f5 (o:=.lst [.ref nw,.bl (decide ([V.non,V.str (Str.ofString "nothing back")]=[V.non,V.str (Str.ofString "nothing back")]))])
       exact q l5 nw x c ys yd ts es T3 _ (fun a o e _ _ _ _=>(s02.trans s25) a o e) (I.same s25) (s25 _ _ hnw2) (by rw[za2,decide_eq_true rfl]) (by omega) (by omega)
     . cases es with
       | nil =>
         have:=zm0 I.td
         rw[List.eq_nil_of_length_eq_zero this] at h2
         exact absurd rfl h2
       | cons e es =>
         obtain ⟨x0,i,qq⟩:=e
         obtain ⟨ec,L,ch⟩:=I.ch
         have td':=I.td
         have tp':=I.pl.tm
         rw[zu7] at td' tp'
         obtain ⟨yd0,bd,rfl,Td,hbd⟩:=zK2 td'
         obtain ⟨ys0,tv,rfl,Ts,htv⟩:=zK2 tp'
         have hx0:x0.length=hs.length:=(ch.valid V0).len
         have hlt:i<x0.length:=L.lt
         have ecs:c.set i (x0.getD i 0)=x0:=by rw[ec];exact set_bk hlt
         have hl1:(yd0++[V.ref bd])[(yd0++[V.ref bd]).length-1]?=some (.ref bd):=by rw[List.length_append];simp
         rw[List.length_cons] at hes hyl q
         refine⟨_,rfl,_,_,rfl,rfl,(by show (0:Int)<8;decide),rfl,_,rfl,iteA h7 ?_⟩
         refine⟨_,rfl,.inl ⟨rfl,_,SqL.of I.hmd⟩,md,_,_,rfl,rfl,I.hmd,hl1,?_⟩
         rw[List.dropLast_concat]
         have hP:zg4 t H2 p b s0 x m n r hs lim s c (ys0++[.ref tv]) (zm3 es++[[(i:Int)+1,x0.getD i 0,qq]]):=by have:=I.pl;rw[zu7] at this;exact this
         have P3:=hP.updL (o:=.lst yd0) I.hmd I.n1
         have k3:∀ {a:Addr} {vs:List V},H2 a=some (.tup vs)->(upd H2 md (.lst yd0)) a=some (.tup vs):=fun e=>by
           rw[za7 (fun z=>by rw[z,I.hmd] at e;cases e)]
           exact e
         have htv3:=k3 htv
         have hbd3:=k3 hbd
         have hnw3:=k3 hnw2
         have hmd3:(upd H2 md (.lst yd0)) md=some (.lst yd0):=za2
         have htl3:(upd H2 md (.lst yd0)) tl=some (.lst ts):=by rw[za7 I.n3.symm];exact I.htl
         have Td3:Tups (upd H2 md (.lst yd0)) yd0 (zm3 es):=zo7 I.hmd (fun _ z=>nomatch z) Td
         have tt3:Tups (upd H2 md (.lst yd0)) ts (T3.map tri):=zo7 I.hmd (fun _ z=>nomatch z) I.tt
         have s3:Sm4 p m md tl H (upd H2 md (.lst yd0)):=fun a o e _ _ h3 _=>by rw[za7 h3];exact s02 _ _ e
         have npd:=I.np I.hmd
         have npt:=I.np I.htl
         revert P3 htv3 hbd3 hnw3 hmd3 htl3 Td3 tt3 s3
         generalize upd H2 md (.lst yd0)=H3
         intro P3 htv3 hbd3 hnw3 hmd3 htl3 Td3 tt3 s3
         refine⟨_,rfl,p,b,s0,x,m,_,n,r,lim,hs,s,c,_,_,rfl,P3,Vc,by rw[hyl];omega,.inl ⟨rfl,fun z=>by simp at z,fun _=>⟨ys0,zm3 es,tv,i,x0.getD i 0,qq,rfl,rfl,htv3,by omega,fun o x' H4 s4 P4 ho=>?_⟩⟩⟩
         rw[ecs] at P4
         have ip:=P3.ip
         have im:∃ ys,H3 m=some (.lst ys):=⟨_,P3.hm⟩
         have J:D31 t H4 p b s0 x' m md tl n r lim hs s x0 ys0 yd0 ts es T3:=⟨P4,s4 _ _ hmd3 npd I.n1,s4.tups ip im Td3,s4 _ _ htl3 npt I.n2,s4.tups ip im tt3,ch,I.n1,I.n2,I.n3⟩
         have htv4:=s4.tup ip im htv3
         have hbd0:H4 bd=some (.tup [.int ((i:Int)+1),.int (x0.getD i 0),.int qq]):=s4.tup ip im hbd3
         have hnw0:=s4.tup ip im hnw3
         have e1:(i:Int)+1-1=(i:Int):=by omega
         refine⟨o,_,rfl,SqL.of ho,rfl,_,_,rfl,_,_,rfl,rfl,?_⟩
         refine⟨_,rfl,_,rfl,bd,_,_,_,rfl,rfl,SqT.of hbd0,rfl,_,_,rfl,rfl,_,rfl,nw,_,rfl,SqT.of hnw0,?_,fun l1 f1=>?_⟩
         . rw[e1,HT.sIx_none,HT.sIx_nat,List.length_map,Nat.min_eq_left (by omega)]
           omega
         rw[e1] at *
         have sa:Same H4 (upd H4 l1 (.tup (cutV (c.map V.int) none (some (i:Int))))):=Same.upd f1
         have ha1:(upd H4 l1 (.tup (cutV (c.map V.int) none (some (i:Int))))) l1=some (.tup (cutV (c.map V.int) none (some (i:Int)))):=za2
         revert sa ha1
         generalize upd H4 l1 (.tup (cutV (c.map V.int) none (some (i:Int))))=Ha
         intro sa ha1
         refine⟨_,rfl,bd,_,_,_,rfl,rfl,SqT.of (sa _ _ hbd0),rfl,(by show 1<=sizeLine;decide),fun l2 f2=>?_⟩
         have sb:Same Ha (upd Ha l2 (.tup [.int (x0.getD i 0)])):=Same.upd f2
         have hb2:(upd Ha l2 (.tup [.int (x0.getD i 0)])) l2=some (.tup [.int (x0.getD i 0)]):=za2
         revert sb hb2
         generalize upd Ha l2 (.tup [.int (x0.getD i 0)])=Hb
         intro sb hb2
         have len1:=zj2 (c.map V.int) none (some (i:Int))
         rw[List.length_map] at len1
         refine⟨l1,l2,_,_,rfl,rfl,sb _ _ ha1,hb2,Nat.le_of_lt (zc9 (by show _+1<=_;omega)),fun l3 Hc sc' hc3=>?_⟩
         have s4c:=sa.trans (sb.trans sc')
         refine⟨_,rfl,_,rfl,bd,_,_,_,rfl,rfl,SqT.of (s4c _ _ hbd0),rfl,_,rfl,nw,_,rfl,SqT.of (s4c _ _ hnw0),?_,fun l4 f4=>?_⟩
         . rw[show ((i:Int)+1)=((i+1:Nat):Int) by omega,HT.sIx_nat,List.length_map]
           omega
         have sd:Same Hc (upd Hc l4 (.tup (cutV (c.map V.int) (some ((i:Int)+1)) none))):=Same.upd f4
         have hd4:(upd Hc l4 (.tup (cutV (c.map V.int) (some ((i:Int)+1)) none))) l4=some (.tup (cutV (c.map V.int) (some ((i:Int)+1)) none)):=za2
         revert sd hd4
         generalize upd Hc l4 (.tup (cutV (c.map V.int) (some ((i:Int)+1)) none))=Hd
         intro sd hd4
         have e5:=zF0 c i (x0.getD i 0) (by omega)
         refine⟨l3,l4,_,_,rfl,rfl,sd _ _ hc3,hd4,?_,fun l5 He se he=>?_⟩
         . rw[<-List.length_append,e5,List.length_map,List.length_set]
           exact Nat.le_of_lt (zc9 (by omega))
         rw[e5] at he
         have s_e:=s4c.trans (sd.trans se)
         rw[ecs] at he
         refine⟨_,rfl,_,_,_,_,_,rfl,.ty _,.tup (s_e _ _ htv4),rfl,_,rfl,iteT ?_⟩
         refine⟨_,rfl,_,rfl,tv,bd,rowE (x0,i,qq),rowE (x0,i,qq),rfl,.inr (SqT.of (s_e _ _ htv4)),.inr (SqT.of (s_e _ _ hbd0)),(by show 3<=1000;decide),(by show 2<=sizeLine;decide),fun l9 f9=>?_⟩
         have s9:=s_e.updT f9 (o:=.lst [.ref l5,.bl (decide (rowE (x0,i,qq)=rowE (x0,i,qq)))])
         have x9:Same He _:=Same.upd f9 (o:=.lst [.ref l5,.bl (decide (rowE (x0,i,qq)=rowE (x0,i,qq)))])
         exact q l9 l5 x' x0 ys0 yd0 ts es T3 _ (fun a o e z1 z2 z3 z4=>s9 _ _ (s4 _ _ (s3 a o e z1 z2 z3 z4) z1 z2)) (J.same s9) (x9 _ _ he) (by rw[za2,decide_eq_true rfl]) (by omega) (by omega)
   case no =>
     refine iteF ⟨_,rfl,_,_,rfl,rfl,(by show (0:Int)<8;decide),rfl,_,rfl,iteB (Bool.eq_false_iff.mpr h7) ?_⟩
     refine⟨_,rfl,_,rfl,_,rfl,k,nw,mv,n,r,lim,kk,ss,pp,hs,c,rfl,S1,hnw1,hmv,⟨by omega,by omega,hheft⟩,?_⟩
     generalize hR:refN n r lim hs c kk ss pp=R
     have ip:=I.pl.ip
     have im:∃ ys,H1 m=some (.lst ys):=⟨_,I.pl.hm⟩
     refine⟨_,rfl,_,rfl,p,b,s0,x,m,_,n,r,lim,hs,s,c,ys,zm3 es,rfl,I.pl,Vc,by omega,.inr ⟨mv,kk,ss,pp,rfl,hmv,fun hz o x' tv H2 s2 P2 ho=>?_,fun j o H2 hj s2 ho=>?_⟩⟩
     . obtain rfl:R=0:=hR.symm.trans hz
       obtain ⟨i,rfl,rfl,L⟩:=lets_ref hz
       have e1:(i:Int)+1-1=(i:Int):=by omega
       have hlt:=L.lt
       rw[show ((i:Int)+1-1).toNat=i by omega] at P2
       refine⟨o,_,rfl,SqL.of ho,rfl,_,_,rfl,_,_,rfl,rfl,?_⟩
       refine⟨_,rfl,rfl,_,rfl,iteB (by rw[show V.str (zx0 0)=V.str (Str.ofString "") from rfl,decide_eq_true rfl];rfl) ?_⟩
       have hmd2:H2 md=some (.lst yd):=s2 _ _ I.hmd (I.np I.hmd) I.n1
       have hmv2:=s2.tup ip im hmv
       have hnw2:=s2.tup ip im hnw1
       refine⟨_,rfl,.inl ⟨rfl,_,SqL.of hmd2⟩,_,rfl,md,_,_,rfl,rfl,hmd2,zc9 (by omega),?_⟩
       have J:=I.made (yd':=yd++[.ref mv]) (es':=(c,i,pp)::es) s2 (by rw[zu7];exact P2) (by rw[zu7];exact zx6 (s2.tups ip im I.td) hmv2) ⟨rfl,L,I.ch⟩
       have k3:∀ {a:Addr} {vs:List V},H2 a=some (.tup vs)->(upd H2 md (.lst (yd++[.ref mv]))) a=some (.tup vs):=fun e=>by
         rw[za7 (fun z=>by rw[z,hmd2] at e;cases e)]
         exact e
       have hmv0:=k3 hmv2
       have hnw0:=k3 hnw2
       have s3:Sm4 p m md tl H (upd H2 md (.lst (yd++[.ref mv]))):=fun a o e z1 z2 z3 _=>by rw[za7 z3];exact s2 _ _ (s1 _ _ e) z1 z2
       revert J hmv0 hnw0 s3
       generalize upd H2 md (.lst (yd++[.ref mv]))=H3
       intro J hmv0 hnw0 s3
       refine⟨_,rfl,_,rfl,mv,_,_,_,rfl,rfl,SqT.of hmv0,rfl,_,_,rfl,rfl,_,rfl,nw,_,rfl,SqT.of hnw0,?_,fun l1 f1=>?_⟩
       . rw[e1,HT.sIx_none,HT.sIx_nat,List.length_map,Nat.min_eq_left (by omega)]
         omega
       rw[e1] at *
       have sa:Same H3 (upd H3 l1 (.tup (cutV (c.map V.int) none (some (i:Int))))):=Same.upd f1
       have ha1:(upd H3 l1 (.tup (cutV (c.map V.int) none (some (i:Int))))) l1=some (.tup (cutV (c.map V.int) none (some (i:Int)))):=za2
       revert sa ha1
       generalize upd H3 l1 (.tup (cutV (c.map V.int) none (some (i:Int))))=Ha
       intro sa ha1
       refine⟨_,rfl,mv,_,_,_,rfl,rfl,SqT.of (sa _ _ hmv0),rfl,(by show 1<=sizeLine;decide),fun l2 f2=>?_⟩
       have sb:Same Ha (upd Ha l2 (.tup [.int (pp)])):=Same.upd f2
       have hb2:(upd Ha l2 (.tup [.int (pp)])) l2=some (.tup [.int (pp)]):=za2
       revert sb hb2
       generalize upd Ha l2 (.tup [.int (pp)])=Hb
       intro sb hb2
       have len1:=zj2 (c.map V.int) none (some (i:Int))
       rw[List.length_map] at len1
       refine⟨l1,l2,_,_,rfl,rfl,sb _ _ ha1,hb2,Nat.le_of_lt (zc9 (by show _+1<=_;omega)),fun l3 Hc sc' hc3=>?_⟩
       have s4c:=sa.trans (sb.trans sc')
       refine⟨_,rfl,_,rfl,mv,_,_,_,rfl,rfl,SqT.of (s4c _ _ hmv0),rfl,_,rfl,nw,_,rfl,SqT.of (s4c _ _ hnw0),?_,fun l4 f4=>?_⟩
       . rw[show ((i:Int)+1)=((i+1:Nat):Int) by omega,HT.sIx_nat,List.length_map]
         omega
       have sd:Same Hc (upd Hc l4 (.tup (cutV (c.map V.int) (some ((i:Int)+1)) none))):=Same.upd f4
       have hd4:(upd Hc l4 (.tup (cutV (c.map V.int) (some ((i:Int)+1)) none))) l4=some (.tup (cutV (c.map V.int) (some ((i:Int)+1)) none)):=za2
       revert sd hd4
       generalize upd Hc l4 (.tup (cutV (c.map V.int) (some ((i:Int)+1)) none))=Hd
       intro sd hd4
       have e5:=zF0 c i (pp) (by omega)
       refine⟨l3,l4,_,_,rfl,rfl,sd _ _ hc3,hd4,?_,fun l5 He se he=>?_⟩
       . rw[<-List.length_append,e5,List.length_map,List.length_set]
         exact Nat.le_of_lt (zc9 (by omega))
       rw[e5] at he
       have s_e:=s4c.trans (sd.trans se)
       refine⟨_,rfl,_,rfl,_,_,_,_,_,rfl,.ty _,.tup (s_e _ _ J.pl.hx),rfl,_,rfl,iteT ?_⟩
       refine⟨_,rfl,_,rfl,x',l5,c.set i pp,c.set i pp,rfl,.inr (SqT.of (s_e _ _ J.pl.hx)),.inr (SqT.of he),by rw[List.length_set];omega,(by show 2<=sizeLine;decide),fun l9 f9=>?_⟩
       have s9:=s_e.updT f9 (o:=.lst [.ref l5,.bl (decide (c.set i pp=c.set i pp))])
       have x9:Same He _:=Same.upd f9 (o:=.lst [.ref l5,.bl (decide (c.set i pp=c.set i pp))])
       exact q l9 l5 x' (c.set i pp) _ _ ts _ T3 _ (fun a o e z1 z2 z3 z4=>s9 _ _ (s3 a o e z1 z2 z3 z4)) (J.same s9) (x9 _ _ he) (by rw[za2,decide_eq_true rfl]) (by rw[List.length_cons];omega) (by omega)
     . obtain rfl:R=j+1:=hR.symm.trans hj
       have hj6:j<6:=by have:=zR6 n r lim hs c kk ss pp;omega
       refine⟨o,_,rfl,SqL.of ho,rfl,_,_,rfl,_,_,rfl,rfl,?_⟩
       refine⟨_,rfl,rfl,_,rfl,iteA (by rw[word_ne hj6];rfl) ?_⟩
       replace I:=I.same s2
       have hmv2:=s2 _ _ hmv
       have hnw2:=s2 _ _ hnw1
       refine⟨_,rfl,.inl ⟨rfl,_,SqL.of I.htl⟩,_,rfl,tl,_,_,rfl,rfl,I.htl,zc9 (by omega),?_⟩
       have J:=I.tried hmv2
       have hnw3:(upd H2 tl (.lst (ts++[.ref mv]))) nw=some (.tup (c.map V.int)):=by rw[za7 (fun z=>by rw[z,I.htl] at hnw2;cases hnw2)];exact hnw2
       have s3:Sm4 p m md tl H (upd H2 tl (.lst (ts++[.ref mv]))):=fun a o e _ _ _ z4=>by rw[za7 z4];exact (s1.trans s2) _ _ e
       revert J hnw3 s3
       generalize upd H2 tl (.lst (ts++[.ref mv]))=H3
       intro J hnw3 s3
       refine⟨_,rfl,_,rfl,rfl,_,rfl,iteA (decide_eq_true rfl) ?_⟩
       refine⟨_,rfl,_,rfl,rfl,(by show 2<=sizeLine;decide),fun l9 f9=>?_⟩
       have s9:Same H3 _:=Same.upd f9 (o:=.lst [.ref nw,.bl (decide (V.str (zx0 (j+1))=V.str (zx0 (j+1))))])
       exact q l9 nw x c ys yd _ es _ _ (fun a o e z1 z2 z3 z4=>s9 _ _ (s3 a o e z1 z2 z3 z4)) (J.same s9) (s9 _ _ hnw3) (by rw[za2,decide_eq_true rfl]) (by omega) (by rw[List.length_append,List.length_singleton];omega)
end
end Bt
namespace Bt
open PySem L2
section
variable {P:Program} {w:World} {K:PySem.W.Frag} {mg:Str->Option Value} {base:Heap} {t:Adr}
structure L31 (t:Adr) (H1 H:Hp) (p b s0 x m md tl l:Addr) (n r lim:Int) (hs s c:List Int) (ys yd ts cs:List V) (es:List (List Int×Nat×Int)) (T3:List (Int×Int×Int)):Prop where
 sm:Same H1 H
 di:D31 t H p b s0 x m md tl n r lim hs s c ys yd ts es T3
 hl:H l=some (.lst cs)
theorem L31.same {t:Adr} {H1 H H':Hp} {p b s0 x m md tl l:Addr} {n r lim:Int} {hs s c:List Int} {ys yd ts cs:List V} {es:List (List Int×Nat×Int)} {T3:List (Int×Int×Int)} (I:L31 t H1 H p b s0 x m md tl l n r lim hs s c ys yd ts cs es T3) (e:Same H H'):L31 t H1 H' p b s0 x m md tl l n r lim hs s c ys yd ts cs es T3:=⟨I.sm.trans e,I.di.same e,e _ _ I.hl⟩
theorem ok_law (T:Txt K mg t):FnOk P w K mg base CX0 10 t.a_law t.d_law ["_law_script"] (sp_law K t):=by
 have G_w_case:FnOk P w K mg base CX0 3 t.a_w_case t.d_w_case ["_law_script"] (zJ8 K t):=ok_w_case T
 have G_Play_init:FnOk P w K mg base CX0 5 t.a_Play_init t.d_Play_init ["self","beam","start"] (zB7 K t):=ok_Play_init T
 have G_w_beam:FnOk P w K mg base CX0 5 t.a_w_beam t.d_w_beam ["_law_scale"] (zJ6 K t):=ok_w_beam T
 have G_w_deed:FnOk P w K mg base CX0 9 t.a_w_deed t.d_w_deed ["_law_play","_law_scale","_law_now","_law_made","_law_tried","_law_cell"] (zK3 K t):=ok_w_deed T
 have G_w_same:FnOk P w K mg base CX0 2 t.a_w_same t.d_w_same ["_law_found","_law_due"] (zy3 K t):=zD4 T
 have G_w_same_rows:FnOk P w K mg base CX0 3 t.a_w_same_rows t.d_w_same_rows ["_law_found","_law_due"] (zx3 K t):=ok_w_same_rows T
 have G_w_at:FnOk P w K mg base CX0 1 t.a_w_at t.d_w_at ["_law_script","_law_k"] (zy2 K t):=zC0 T
 have G_Play_trail:FnOk P w K mg base CX0 1 t.a_Play_trail t.d_Play_trail ["self"] (zy7 K t):=ok_Play_trail T
 refine T.F_law.ok zq8 (fun vs H Q E h=>?_) (fun cdv A outer s H vs Q E hr h=>?_)
 . obtain ⟨a,ns,rfl,hS,hlen,q⟩:=h
   rfl
 . obtain ⟨a,ns,rfl,hS,hlen,q⟩:=h
   have hr_w_case:Room 3 _:=hr.mono (by decide)
   have hr_Play:Room 6 _:=hr.mono (by decide)
   have hr_w_beam:Room 5 _:=hr.mono (by decide)
   have hr_w_deed:Room 9 _:=hr.mono (by decide)
   have hr_w_same:Room 2 _:=hr.mono (by decide)
   have hr_w_same_rows:Room 3 _:=hr.mono (by decide)
   have hr_w_at:Room 1 _:=hr.mono (by decide)
   have hr_Play_trail:Room 1 _:=hr.mono (by decide)
   refine⟨_,(za4 (zs3 (zb3 G_w_case hr_w_case rfl T.m_w_case T.k_w_case T.b_w_case .nil zc2 (za0 (pv 0) za3)) (zv5 rfl (zd1 (zc6 (i:=1) zq8.nd rfl (Or.inl rfl)) (zd1 (zc6 (i:=2) zq8.nd rfl (Or.inl rfl)) (zd1 (zc6 (i:=3) zq8.nd rfl (Or.inl rfl)) zl7)))))
     (za4 (zb6 (i:=4) zq8.nd rfl (Or.inl rfl) (zP0 T.mk_Play G_Play_init hr_Play rfl T.m_Play T.b_Play_init .nil zc2 (za0 (zb3 G_w_beam hr_w_beam rfl T.m_w_beam T.k_w_beam T.b_w_beam .nil zc2 (za0 (pv 1) za3)) (za0 (zj5 zo4 rfl T.n_list PyProof.Rows.boot_list (za0 (pv 2) za3)) za3))))
     (za4 (zb6 (i:=5) zq8.nd rfl (Or.inl rfl) (pv 2))
     (za4 (zb6 (i:=6) zq8.nd rfl (Or.inl rfl) (ze1 za3))
     (za4 (zb6 (i:=7) zq8.nd rfl (Or.inl rfl) (ze1 za3))
     (za4 (zp8 PassesOwn.never rfl (zE4 (za9 zF6 (ze1 (za0 za1 (za0 (za9 zf0 za1 (za9 zh5 za1 (zb3 G_w_at hr_w_at rfl T.m_w_at T.k_w_at T.b_w_at .nil zc2 (za0 (pv 0) (za0 za1 za3))))) za3))) (zk5 zP4 (pv 0) (zl9 za1) (zl9 za1)))) (zc6 (i:=8) zq8.nd rfl (Or.inl rfl)) (za4 (zs3 (zb3 G_w_deed hr_w_deed rfl T.m_w_deed T.k_w_deed T.b_w_deed .nil zc2 (za0 (pv 4) (za0 (pv 1) (za0 (pv 5) (za0 (pv 6) (za0 (pv 7) (za0 (pv 8) za3))))))) (zv5 rfl (zd1 (zc6 (i:=5) zq8.nd rfl (Or.inl rfl)) (zd1 (zc6 (i:=9) zq8.nd rfl (Or.inl rfl)) zl7))))
     (za4 (zd2 (PW.pt (zv3 (zs2 (zg1 (pv 9))) (zv3 (zs2 (zg1 (zb2 zq0 rfl T.n_isinstance PyProof.Rows.boot_isinstance (za0 (zg3 (pv 4) rfl) (za0 (zr2 (v:=.ty "tuple") rfl T.n_tuple PyProof.Rows.boot_tuple rfl) za3))))) (zu4 (zs2 (zg1 (zb3 G_w_same hr_w_same rfl T.m_w_same T.k_w_same T.b_w_same .nil zc2 (za0 (zg3 (pv 4) rfl) (za0 (pv 5) za3))))))))) (za6 (zc4 zz5)) zb8)
     (za6 (zd2 (PW.pt (zv3 (zs2 (zg1 (zb3 G_w_same hr_w_same rfl T.m_w_same T.k_w_same T.b_w_same .nil zc2 (za0 (zg3 (pv 4) rfl) (za0 (pv 2) za3))))) (zu4 (zs2 (zg1 (zb3 G_w_same_rows hr_w_same_rows rfl T.m_w_same_rows T.k_w_same_rows T.b_w_same_rows .nil zc2 (za0 (pe_meth0 (pv 4) T.cl_Play T.me_Play_trail G_Play_trail hr_Play_trail T.b_Play_trail .nil zc2) (za0 (pv 6) za3)))))))) (za6 (zc4 zz5)) zb8)))))
     (za6 (zc4 zz5)))))))),?_⟩
   refine⟨_,rfl,a,ns,rfl,hS,fun l sc h st go H1 n r lim hs s g C=>?_⟩
   refine⟨l,_,rfl,SqL.of C.hl,rfl,_,_,rfl,_,_,rfl,_,_,rfl,rfl,?_⟩
   have hw:=C.ok.w
   have hl1:=C.vs.len
   have S1:zm2 K H1 sc n r hs lim:=⟨h,C.ok,SqL.of C.hsc,SqL.of C.hh⟩
   refine⟨_,rfl,sc,n,r,lim,hs,rfl,S1,fun b H2 s2 B2=>?_⟩
   refine⟨_,rfl,st,_,rfl,.inr (SqT.of (s2 _ _ C.hst)),fun l3 f3 p dx fp fdx ndx=>?_⟩
   have sp3:Same H2 (upd (upd (upd H2 l3 (.lst (s.map V.int))) dx (.own p)) p (.ins t.c_Play dx [])):=((Same.upd f3).updT fdx).updT (by rw[za7 (Ne.symm ndx)];exact fp)
   have fp2:H2 p=none:=(Same.upd f3).free fp
   have e3p:l3≠p:=fun e=>by rw[<-e,za2] at fp;cases fp
   have e3d:l3≠dx:=fun e=>by rw[<-e,za2] at fdx;cases fdx
   have hl3:(upd (upd (upd H2 l3 (.lst (s.map V.int))) dx (.own p)) p (.ins t.c_Play dx [])) l3=some (.lst (s.map V.int)):=by rw[za7 e3p,za7 e3d];exact za2
   have hp3:(upd (upd (upd H2 l3 (.lst (s.map V.int))) dx (.own p)) p (.ins t.c_Play dx [])) p=some (.ins t.c_Play dx []):=za2
   revert sp3 hl3 hp3
   generalize upd (upd (upd H2 l3 (.lst (s.map V.int))) dx (.own p)) p (.ins t.c_Play dx [])=H3
   intro sp3 hl3 hp3
   have nbp:b≠p:=fun z=>by obtain ⟨_,_,_,hb,_⟩:=B2;rw[z,fp2] at hb;cases hb
   refine⟨p,b,l3,dx,n,r,lim,hs,s,rfl,hp3,nbp,B2.same sp3,C.vs,.inl (SqL.of hl3),C.ks,fun H4 s0 m x4 fm4 P4=>⟨rfl,?_⟩⟩
   have fp1:H1 p=none:=s2.free fp2
   have fm1:H1 m=none:=s2.free (sp3.free fm4)
   have s14:Same H1 H4:=fun c o e=>x4 c o (sp3 _ _ (s2 _ _ e)) (zb0 e fp1)
   refine⟨_,rfl,⟨Nat.zero_le _,fun md fmd=>⟨Nat.zero_le _,fun tl ftl=>?_⟩⟩⟩
   have s5:Same H4 (upd (upd H4 md (.lst [])) tl (.lst [])):=(Same.upd fmd).updT ftl
   have n3:md≠tl:=fun z=>by rw[<-z,za2] at ftl;cases ftl
   have hmd5:(upd (upd H4 md (.lst [])) tl (.lst [])) md=some (.lst []):=by rw[za7 n3];exact za2
   have htl5:(upd (upd H4 md (.lst [])) tl (.lst [])) tl=some (.lst []):=za2
   have ftl4:=(Same.upd (o:=.lst []) fmd).free ftl
   have n1:md≠m:=(zb0 P4.hm fmd).symm
   have n2:tl≠m:=(zb0 P4.hm ftl4).symm
   dsimp only
   revert s5 hmd5 htl5
   generalize upd (upd H4 md (.lst [])) tl (.lst [])=H5
   intro s5 hmd5 htl5
   have fmd1:=s14.free fmd
   have ftl1:=s14.free ftl4
   have s15:=s14.trans s5
   have D5:D31 t H5 p b s0 s0 m md tl n r lim hs s s [] [] [] [] []:=⟨P4.same s5,hmd5,.nil,htl5,.nil,rfl,n1,n2,n3⟩
   refine⟨_,rfl,a,ns,2,rfl,(C.sm.trans s15).seq hS,_,_,rfl,rfl,.inl ⟨by decide,by decide⟩,_,_,rfl,rfl,(by show 2<=sizeLine;decide),fun l7 f7=>?_⟩
   have s7:Same H5 (upd H5 l7 (.lst [.int 7,.int (3+8*ns.getD 2 0)])):=Same.upd f7
   have h7:(upd H5 l7 (.lst [.int 7,.int (3+8*ns.getD 2 0)])) l7=some (.lst [.int 7,.int (3+8*ns.getD 2 0)]):=za2
   revert s7 h7
   generalize upd H5 l7 (.lst [.int 7,.int (3+8*ns.getD 2 0)])=H7
   intro s7 h7
   generalize 3+8*ns.getD 2 0=v0 at h7
   have s17:=s15.trans s7
   obtain ⟨cs,ecs,hcs⟩:=cut_map ns (some 7) (some 61)
   refine⟨_,rfl,_,rfl,_,rfl,a,_,rfl,(C.sm.trans s17).seq hS,fun l9 f9=>?_⟩
   have ec:(cutV (ns.map V.int) (some 7) (some 61))=cs.map V.int:=ecs
   rw[ec]
   have s9:Same H7 (upd H7 l9 (.lst (cs.map V.int))):=Same.upd f9
   have h9:(upd H7 l9 (.lst (cs.map V.int))) l9=some (.lst (cs.map V.int)):=za2
   revert s9 h9
   generalize upd H7 l9 (.lst (cs.map V.int))=H9
   intro s9 h9
   refine⟨l7,l9,_,_,rfl,rfl,s9 _ _ h7,h9,Nat.le_of_lt (zc9 (by rw[List.length_map];show 2+_<=_;omega)),fun l8 f8=>?_⟩
   have s59:=s7.trans s9
   have D9:=D5.same s59
   have n8m:l8≠m:=(zb0 D9.pl.hm f8).symm
   have n8d:l8≠md:=(zb0 D9.hmd f8).symm
   have n8t:l8≠tl:=(zb0 D9.htl f8).symm
   have s8:Same H9 (upd H9 l8 (.lst ([.int 7,.int v0]++cs.map V.int))):=Same.upd f8
   have h8:(upd H9 l8 (.lst ([.int 7,.int v0]++cs.map V.int))) l8=some (.lst ((7::v0::cs).map V.int)):=za2
   revert s8 h8
   generalize upd H9 l8 (.lst ([.int 7,.int v0]++cs.map V.int))=H8
   intro s8 h8
   have s58:=s59.trans s8
   have I8:L31 t H1 H8 p b s0 s0 m md tl l8 n r lim hs s s [] [] [] ((7::v0::cs).map V.int) [] []:=⟨s15.trans s58,D5.same s58,h8⟩
   refine⟨l8,rfl,⟨_,SqL.of h8⟩,zz6 (K:=K) (a:=l8) (xs:=(7::v0::cs).map V.int) (fun i σ H'=>∃ v8 v9 nw x c ys yd ts es T3,σ=[some (.ref a),some (.ref sc),some (.ref st),some (.ref go),some (.ref p),some (.ref nw),some (.ref md),some (.ref tl),v8,v9]/\L31 t H1 H' p b s0 x m md tl l8 n r lim hs s c ys yd ts ((7::v0::cs).map V.int) es T3/\H' nw=some (.tup (c.map V.int))/\es.length<=i/\ts.length<=i) ⟨none,none,st,s0,s,[],[],[],[],[],rfl,I8,I8.sm _ _ C.hst,Nat.le_refl _,Nat.le_refl _⟩ (fun i σ H' _ ⟨_,_,_,_,_,_,_,_,_,_,_,I,_⟩=>SqL.of I.hl) ?_ ?_⟩
   . rintro k v σ H10 hk ⟨v8,v9,nw,x,c,ys,yd,ts,es,T3,rfl,I,hnw,hes,hts⟩
     obtain ⟨z,rfl,hz⟩:=zv8 hk
     have hk66:k<66:=by have:=(List.getElem?_eq_some_iff.mp hz).1;simp only[List.length_cons] at this;omega
     refine⟨_,rfl,_,rfl,_,rfl,_,rfl,_,rfl,_,rfl,p,sc,nw,md,tl,b,s0,x,m,z,n,r,lim,hs,s,c,ys,yd,ts,es,T3,rfl,S1.same I.sm,I.di,hnw,C.vs,by omega,by omega,fun o nw' x' c' ys' yd' ts' es' T3' H11 s11 D11 hnw' ho e1 e2=>?_⟩
     have J:L31 t H1 H11 p b s0 x' m md tl l8 n r lim hs s c' ys' yd' ts' ((7::v0::cs).map V.int) es' T3':=⟨fun a o e=>s11 _ _ (I.sm _ _ e) (zb0 e fp1) (zb0 e fm1) (zb0 e fmd1) (zb0 e ftl1),D11,s11 _ _ I.hl (I.di.np I.hl) n8m n8d n8t⟩
     have P:=J.di.pl
     obtain ⟨dx,hp⟩:=P.hp
     have hc5:=(J.di.ch.valid C.vs).len
     have hst:=J.sm _ _ C.hst
     refine⟨o,_,rfl,SqL.of ho,rfl,_,_,rfl,_,_,rfl,rfl,?_⟩
     refine⟨_,rfl,_,rfl,iteF ?_⟩
     refine⟨_,rfl,p,_,dx,_,_,rfl,hp,T.cl_Play,T.na_Play_standing,zn8 _ _ _ _,_,_,_,_,_,rfl,.ty _,.tup P.hx,rfl,_,rfl,iteF ?_⟩
     refine⟨_,rfl,p,_,dx,_,_,rfl,hp,T.cl_Play,T.na_Play_standing,zn8 _ _ _ _,_,rfl,x',nw',c',c',rfl,.inr (SqT.of P.hx),.inr (SqT.of hnw'),by omega,_,rfl,iteB (by rw[decide_eq_true rfl];rfl) ?_⟩
     refine⟨_,rfl,p,_,dx,_,_,rfl,hp,T.cl_Play,T.na_Play_start,pf_start _ _ _ _,_,rfl,s0,st,s,s,rfl,.inr (SqT.of P.hs),.inr (SqT.of hst),by omega,_,rfl,iteB (by rw[decide_eq_true rfl];rfl) ?_⟩
     refine⟨_,rfl,p,dx,_,rfl,hp,pf_trail _ _ _ _,p,b,s0,x',m,n,r,lim,hs,s,c',ys',zm3 es',rfl,P,fun l5 f5=>?_⟩
     have s5:Same H11 (upd H11 l5 (.lst ys')):=Same.upd f5
     have h5:(upd H11 l5 (.lst ys')) l5=some (.lst ys'):=za2
     revert s5 h5
     generalize upd H11 l5 (.lst ys')=H12
     intro s5 h5
     replace J:=J.same s5
     refine⟨_,rfl,l5,md,ys',yd',zm3 es',zm3 es',rfl,h5,J.di.pl.tm,J.di.hmd,J.di.td,by rw[zD6];omega,rowsE_mem,_,rfl,iteB (by rw[decide_eq_true rfl];rfl) ?_⟩
     exact⟨_,_,nw',x',c',ys',yd',ts',es',T3',rfl,J,s5 _ _ hnw',by omega,by omega⟩
   . rintro σ H10 ⟨v8,v9,nw,x,c,ys,yd,ts,es,T3,rfl,I,hnw,hes,hts⟩
     exact q _
end
end Bt
namespace Bt
open PySem L2
theorem ar1 {us:List Value} (h:us.length=1):∃ x0,us=[x0]:=by
 match us,h with
 | [a0],_=>exact⟨a0,rfl⟩
theorem ar2 {us:List Value} (h:us.length=2):∃ x0 x1,us=[x0,x1]:=by
 match us,h with
 | [a0,a1],_=>exact⟨a0,a1,rfl⟩
theorem ar3 {us:List Value} (h:us.length=3):∃ x0 x1 x2,us=[x0,x1,x2]:=by
 match us,h with
 | [a0,a1,a2],_=>exact⟨a0,a1,a2,rfl⟩
theorem ar4 {us:List Value} (h:us.length=4):∃ x0 x1 x2 x3,us=[x0,x1,x2,x3]:=by
 match us,h with
 | [a0,a1,a2,a3],_=>exact⟨a0,a1,a2,a3,rfl⟩
theorem ar5 {us:List Value} (h:us.length=5):∃ x0 x1 x2 x3 x4,us=[x0,x1,x2,x3,x4]:=by
 match us,h with
 | [a0,a1,a2,a3,a4],_=>exact⟨a0,a1,a2,a3,a4,rfl⟩
theorem ar6 {us:List Value} (h:us.length=6):∃ x0 x1 x2 x3 x4 x5,us=[x0,x1,x2,x3,x4,x5]:=by
 match us,h with
 | [a0,a1,a2,a3,a4,a5],_=>exact⟨a0,a1,a2,a3,a4,a5,rfl⟩
theorem all_mk {l:PySem.W.OpenLaw} {w:World} {K:PySem.W.Frag} {h:Heap} {mg:Str->Option Value} {fa:Addr} (X:K.In h) (G:h.Ns mainGlobals mg) (hfa:mg "law" = some (.ref fa))
   {oc_BeamError_init kV_BeamError_init dc_BeamError_init pm_BeamError_init cd_BeamError_init ct_BeamError_init:Value} {od_BeamError_init an_BeamError_init:Option Addr} {sl_BeamError_init:Array (Option Value)} {f_BeamError_init:Addr}
   {T_BeamError_init:Addr} {tc_BeamError_init:Value} {td_BeamError_init:Option Addr} {tn_BeamError_init:Nat} {ts_BeamError_init:Array (Option Value)} {e0_BeamError_init e1_BeamError_init:Value}
   {oc_NoWeight_init kV_NoWeight_init dc_NoWeight_init pm_NoWeight_init cd_NoWeight_init ct_NoWeight_init:Value} {od_NoWeight_init an_NoWeight_init:Option Addr} {sl_NoWeight_init:Array (Option Value)} {f_NoWeight_init:Addr}
   {T_NoWeight_init:Addr} {tc_NoWeight_init:Value} {td_NoWeight_init:Option Addr} {tn_NoWeight_init:Nat} {ts_NoWeight_init:Array (Option Value)} {e0_NoWeight_init:Value}
   {oc_NoPlace_init kV_NoPlace_init dc_NoPlace_init pm_NoPlace_init cd_NoPlace_init ct_NoPlace_init:Value} {od_NoPlace_init an_NoPlace_init:Option Addr} {sl_NoPlace_init:Array (Option Value)} {f_NoPlace_init:Addr}
   {T_NoPlace_init:Addr} {tc_NoPlace_init:Value} {td_NoPlace_init:Option Addr} {tn_NoPlace_init:Nat} {ts_NoPlace_init:Array (Option Value)} {e0_NoPlace_init:Value}
   {oc_SamePlace_init kV_SamePlace_init dc_SamePlace_init pm_SamePlace_init cd_SamePlace_init ct_SamePlace_init:Value} {od_SamePlace_init an_SamePlace_init:Option Addr} {sl_SamePlace_init:Array (Option Value)} {f_SamePlace_init:Addr}
   {T_SamePlace_init:Addr} {tc_SamePlace_init:Value} {td_SamePlace_init:Option Addr} {tn_SamePlace_init:Nat} {ts_SamePlace_init:Array (Option Value)} {e0_SamePlace_init:Value}
   {oc_NoRoom_init kV_NoRoom_init dc_NoRoom_init pm_NoRoom_init cd_NoRoom_init ct_NoRoom_init:Value} {od_NoRoom_init an_NoRoom_init:Option Addr} {sl_NoRoom_init:Array (Option Value)} {f_NoRoom_init:Addr}
   {T_NoRoom_init:Addr} {tc_NoRoom_init:Value} {td_NoRoom_init:Option Addr} {tn_NoRoom_init:Nat} {ts_NoRoom_init:Array (Option Value)} {e0_NoRoom_init:Value}
   {oc_TipsInHand_init kV_TipsInHand_init dc_TipsInHand_init pm_TipsInHand_init cd_TipsInHand_init ct_TipsInHand_init:Value} {od_TipsInHand_init an_TipsInHand_init:Option Addr} {sl_TipsInHand_init:Array (Option Value)} {f_TipsInHand_init:Addr}
   {T_TipsInHand_init:Addr} {tc_TipsInHand_init:Value} {td_TipsInHand_init:Option Addr} {tn_TipsInHand_init:Nat} {ts_TipsInHand_init:Array (Option Value)} {e0_TipsInHand_init:Value}
   {oc_TipsBehind_init kV_TipsBehind_init dc_TipsBehind_init pm_TipsBehind_init cd_TipsBehind_init ct_TipsBehind_init:Value} {od_TipsBehind_init an_TipsBehind_init:Option Addr} {sl_TipsBehind_init:Array (Option Value)} {f_TipsBehind_init:Addr}
   {T_TipsBehind_init:Addr} {tc_TipsBehind_init:Value} {td_TipsBehind_init:Option Addr} {tn_TipsBehind_init:Nat} {ts_TipsBehind_init:Array (Option Value)} {e0_TipsBehind_init:Value}
   {oc_PlayFull_init kV_PlayFull_init dc_PlayFull_init pm_PlayFull_init cd_PlayFull_init ct_PlayFull_init:Value} {od_PlayFull_init an_PlayFull_init:Option Addr} {sl_PlayFull_init:Array (Option Value)} {f_PlayFull_init:Addr}
   {T_PlayFull_init:Addr} {tc_PlayFull_init:Value} {td_PlayFull_init:Option Addr} {tn_PlayFull_init:Nat} {ts_PlayFull_init:Array (Option Value)} {e0_PlayFull_init:Value}
   {oc_NothingBack_init kV_NothingBack_init dc_NothingBack_init pm_NothingBack_init cd_NothingBack_init ct_NothingBack_init:Value} {od_NothingBack_init an_NothingBack_init:Option Addr} {sl_NothingBack_init:Array (Option Value)} {f_NothingBack_init:Addr}
   {T_NothingBack_init:Addr} {tc_NothingBack_init:Value} {td_NothingBack_init:Option Addr} {tn_NothingBack_init:Nat} {ts_NothingBack_init:Array (Option Value)} {e0_NothingBack_init:Value}
   {oc_Beam_init kV_Beam_init dc_Beam_init pm_Beam_init cd_Beam_init ct_Beam_init:Value} {od_Beam_init an_Beam_init:Option Addr} {sl_Beam_init:Array (Option Value)} {f_Beam_init:Addr}
   {oc_outside kV_outside dc_outside pm_outside cd_outside ct_outside:Value} {od_outside an_outside:Option Addr} {sl_outside:Array (Option Value)} {f_outside:Addr}
   {oc_check_bounds kV_check_bounds dc_check_bounds pm_check_bounds cd_check_bounds ct_check_bounds:Value} {od_check_bounds an_check_bounds:Option Addr} {sl_check_bounds:Array (Option Value)} {f_check_bounds:Addr}
   {oc_check_hefts kV_check_hefts dc_check_hefts pm_check_hefts cd_check_hefts ct_check_hefts:Value} {od_check_hefts an_check_hefts:Option Addr} {sl_check_hefts:Array (Option Value)} {f_check_hefts:Addr}
   {oc_check_standings kV_check_standings dc_check_standings pm_check_standings cd_check_standings ct_check_standings:Value} {od_check_standings an_check_standings:Option Addr} {sl_check_standings:Array (Option Value)} {f_check_standings:Addr}
   {oc_as_standing kV_as_standing dc_as_standing pm_as_standing cd_as_standing ct_as_standing:Value} {od_as_standing an_as_standing:Option Addr} {sl_as_standing:Array (Option Value)} {f_as_standing:Addr}
   {oc_tilt kV_tilt dc_tilt pm_tilt cd_tilt ct_tilt:Value} {od_tilt an_tilt:Option Addr} {sl_tilt:Array (Option Value)} {f_tilt:Addr}
   {oc_past kV_past dc_past pm_past cd_past ct_past:Value} {od_past an_past:Option Addr} {sl_past:Array (Option Value)} {f_past:Addr}
   {oc_keeps kV_keeps dc_keeps pm_keeps cd_keeps ct_keeps:Value} {od_keeps an_keeps:Option Addr} {sl_keeps:Array (Option Value)} {f_keeps:Addr}
   {oc_in_hand kV_in_hand dc_in_hand pm_in_hand cd_in_hand ct_in_hand:Value} {od_in_hand an_in_hand:Option Addr} {sl_in_hand:Array (Option Value)} {f_in_hand:Addr}
   {oc_moved kV_moved dc_moved pm_moved cd_moved ct_moved:Value} {od_moved an_moved:Option Addr} {sl_moved:Array (Option Value)} {f_moved:Addr}
   {oc_turned kV_turned dc_turned pm_turned cd_turned ct_turned:Value} {od_turned an_turned:Option Addr} {sl_turned:Array (Option Value)} {f_turned:Addr}
   {oc_behind kV_behind dc_behind pm_behind cd_behind ct_behind:Value} {od_behind an_behind:Option Addr} {sl_behind:Array (Option Value)} {f_behind:Addr}
   {oc_full kV_full dc_full pm_full cd_full ct_full:Value} {od_full an_full:Option Addr} {sl_full:Array (Option Value)} {f_full:Addr}
   {oc_check_move kV_check_move dc_check_move pm_check_move cd_check_move ct_check_move:Value} {od_check_move an_check_move:Option Addr} {sl_check_move:Array (Option Value)} {f_check_move:Addr}
   {oc_check_weight kV_check_weight dc_check_weight pm_check_weight cd_check_weight ct_check_weight:Value} {od_check_weight an_check_weight:Option Addr} {sl_check_weight:Array (Option Value)} {f_check_weight:Addr}
   {oc_check_put kV_check_put dc_check_put pm_check_put cd_check_put ct_check_put:Value} {od_check_put an_check_put:Option Addr} {sl_check_put:Array (Option Value)} {f_check_put:Addr}
   {oc_check_tilts kV_check_tilts dc_check_tilts pm_check_tilts cd_check_tilts ct_check_tilts:Value} {od_check_tilts an_check_tilts:Option Addr} {sl_check_tilts:Array (Option Value)} {f_check_tilts:Addr}
   {oc_Play_init kV_Play_init dc_Play_init pm_Play_init cd_Play_init ct_Play_init:Value} {od_Play_init an_Play_init:Option Addr} {sl_Play_init:Array (Option Value)} {f_Play_init:Addr}
   {oc_Play_move kV_Play_move dc_Play_move pm_Play_move cd_Play_move ct_Play_move:Value} {od_Play_move an_Play_move:Option Addr} {sl_Play_move:Array (Option Value)} {f_Play_move:Addr}
   {oc_Play_back kV_Play_back dc_Play_back pm_Play_back cd_Play_back ct_Play_back:Value} {od_Play_back an_Play_back:Option Addr} {sl_Play_back:Array (Option Value)} {f_Play_back:Addr}
   {oc_Play_trail kV_Play_trail dc_Play_trail pm_Play_trail cd_Play_trail ct_Play_trail:Value} {od_Play_trail an_Play_trail:Option Addr} {sl_Play_trail:Array (Option Value)} {f_Play_trail:Addr}
   {oc_w_at kV_w_at dc_w_at pm_w_at cd_w_at ct_w_at:Value} {od_w_at an_w_at:Option Addr} {sl_w_at:Array (Option Value)} {f_w_at:Addr}
   {oc_w_whole kV_w_whole dc_w_whole pm_w_whole cd_w_whole ct_w_whole:Value} {od_w_whole an_w_whole:Option Addr} {sl_w_whole:Array (Option Value)} {f_w_whole:Addr}
   {oc_w_figs kV_w_figs dc_w_figs pm_w_figs cd_w_figs ct_w_figs:Value} {od_w_figs an_w_figs:Option Addr} {sl_w_figs:Array (Option Value)} {f_w_figs:Addr}
   {oc_w_shape kV_w_shape dc_w_shape pm_w_shape cd_w_shape ct_w_shape:Value} {od_w_shape an_w_shape:Option Addr} {sl_w_shape:Array (Option Value)} {f_w_shape:Addr}
   {oc_w_put kV_w_put dc_w_put pm_w_put cd_w_put ct_w_put:Value} {od_w_put an_w_put:Option Addr} {sl_w_put:Array (Option Value)} {f_w_put:Addr}
   {oc_w_tilt kV_w_tilt dc_w_tilt pm_w_tilt cd_w_tilt ct_w_tilt:Value} {od_w_tilt an_w_tilt:Option Addr} {sl_w_tilt:Array (Option Value)} {f_w_tilt:Addr}
   {oc_w_limit kV_w_limit dc_w_limit pm_w_limit cd_w_limit ct_w_limit:Value} {od_w_limit an_w_limit:Option Addr} {sl_w_limit:Array (Option Value)} {f_w_limit:Addr}
   {oc_w_hard kV_w_hard dc_w_hard pm_w_hard cd_w_hard ct_w_hard:Value} {od_w_hard an_w_hard:Option Addr} {sl_w_hard:Array (Option Value)} {f_w_hard:Addr}
   {oc_w_case kV_w_case dc_w_case pm_w_case cd_w_case ct_w_case:Value} {od_w_case an_w_case:Option Addr} {sl_w_case:Array (Option Value)} {f_w_case:Addr}
   {oc_w_word kV_w_word dc_w_word pm_w_word cd_w_word ct_w_word:Value} {od_w_word an_w_word:Option Addr} {sl_w_word:Array (Option Value)} {f_w_word:Addr}
   {oc_w_near kV_w_near dc_w_near pm_w_near cd_w_near ct_w_near:Value} {od_w_near an_w_near:Option Addr} {sl_w_near:Array (Option Value)} {f_w_near:Addr}
   {oc_w_same kV_w_same dc_w_same pm_w_same cd_w_same ct_w_same:Value} {od_w_same an_w_same:Option Addr} {sl_w_same:Array (Option Value)} {f_w_same:Addr}
   {oc_w_same_rows kV_w_same_rows dc_w_same_rows pm_w_same_rows cd_w_same_rows ct_w_same_rows:Value} {od_w_same_rows an_w_same_rows:Option Addr} {sl_w_same_rows:Array (Option Value)} {f_w_same_rows:Addr}
   {oc_w_beam kV_w_beam dc_w_beam pm_w_beam cd_w_beam ct_w_beam:Value} {od_w_beam an_w_beam:Option Addr} {sl_w_beam:Array (Option Value)} {f_w_beam:Addr}
   {oc_w_pick kV_w_pick dc_w_pick pm_w_pick cd_w_pick ct_w_pick:Value} {od_w_pick an_w_pick:Option Addr} {sl_w_pick:Array (Option Value)} {f_w_pick:Addr}
   {oc_w_any_move kV_w_any_move dc_w_any_move pm_w_any_move cd_w_any_move ct_w_any_move:Value} {od_w_any_move an_w_any_move:Option Addr} {sl_w_any_move:Array (Option Value)} {f_w_any_move:Addr}
   {oc_w_done kV_w_done dc_w_done pm_w_done cd_w_done ct_w_done:Value} {od_w_done an_w_done:Option Addr} {sl_w_done:Array (Option Value)} {f_w_done:Addr}
   {oc_w_chosen kV_w_chosen dc_w_chosen pm_w_chosen cd_w_chosen ct_w_chosen:Value} {od_w_chosen an_w_chosen:Option Addr} {sl_w_chosen:Array (Option Value)} {f_w_chosen:Addr}
   {oc_w_deed kV_w_deed dc_w_deed pm_w_deed cd_w_deed ct_w_deed:Value} {od_w_deed an_w_deed:Option Addr} {sl_w_deed:Array (Option Value)} {f_w_deed:Addr}
   {oc_law kV_law dc_law pm_law cd_law ct_law:Value} {od_law an_law:Option Addr} {sl_law:Array (Option Value)} {f_law:Addr}
   {C_Beam:Addr}
   {C_Play:Addr}
   {C_NoWeight:Addr}
   {C_NoPlace:Addr}
   {C_SamePlace:Addr}
   {C_NoRoom:Addr}
   {C_TipsInHand:Addr}
   {C_TipsBehind:Addr}
   {C_PlayFull:Addr}
   {C_NothingBack:Addr}
   {C_BeamError:Addr}
   {nm_NoWeight qn_NoWeight:Str} {N_NoWeight:Addr} {bs_NoWeight bm_NoWeight:List Value} {sn_NoWeight:List Str} {sub_NoWeight:List Value} {ab_NoWeight:Bool} {col_NoWeight:Option Bool} {dd_NoWeight:Option Addr} {k0_NoWeight k1_NoWeight k2_NoWeight k3_NoWeight k5_NoWeight:Option Value}
   {nm_NoPlace qn_NoPlace:Str} {N_NoPlace:Addr} {bs_NoPlace bm_NoPlace:List Value} {sn_NoPlace:List Str} {sub_NoPlace:List Value} {ab_NoPlace:Bool} {col_NoPlace:Option Bool} {dd_NoPlace:Option Addr} {k0_NoPlace k1_NoPlace k2_NoPlace k3_NoPlace k5_NoPlace:Option Value}
   {nm_SamePlace qn_SamePlace:Str} {N_SamePlace:Addr} {bs_SamePlace bm_SamePlace:List Value} {sn_SamePlace:List Str} {sub_SamePlace:List Value} {ab_SamePlace:Bool} {col_SamePlace:Option Bool} {dd_SamePlace:Option Addr} {k0_SamePlace k1_SamePlace k2_SamePlace k3_SamePlace k5_SamePlace:Option Value}
   {nm_NoRoom qn_NoRoom:Str} {N_NoRoom:Addr} {bs_NoRoom bm_NoRoom:List Value} {sn_NoRoom:List Str} {sub_NoRoom:List Value} {ab_NoRoom:Bool} {col_NoRoom:Option Bool} {dd_NoRoom:Option Addr} {k0_NoRoom k1_NoRoom k2_NoRoom k3_NoRoom k5_NoRoom:Option Value}
   {nm_TipsInHand qn_TipsInHand:Str} {N_TipsInHand:Addr} {bs_TipsInHand bm_TipsInHand:List Value} {sn_TipsInHand:List Str} {sub_TipsInHand:List Value} {ab_TipsInHand:Bool} {col_TipsInHand:Option Bool} {dd_TipsInHand:Option Addr} {k0_TipsInHand k1_TipsInHand k2_TipsInHand k3_TipsInHand k5_TipsInHand:Option Value}
   {nm_TipsBehind qn_TipsBehind:Str} {N_TipsBehind:Addr} {bs_TipsBehind bm_TipsBehind:List Value} {sn_TipsBehind:List Str} {sub_TipsBehind:List Value} {ab_TipsBehind:Bool} {col_TipsBehind:Option Bool} {dd_TipsBehind:Option Addr} {k0_TipsBehind k1_TipsBehind k2_TipsBehind k3_TipsBehind k5_TipsBehind:Option Value}
   {nm_PlayFull qn_PlayFull:Str} {N_PlayFull:Addr} {bs_PlayFull bm_PlayFull:List Value} {sn_PlayFull:List Str} {sub_PlayFull:List Value} {ab_PlayFull:Bool} {col_PlayFull:Option Bool} {dd_PlayFull:Option Addr} {k0_PlayFull k1_PlayFull k2_PlayFull k3_PlayFull k5_PlayFull:Option Value}
   {nm_NothingBack qn_NothingBack:Str} {N_NothingBack:Addr} {bs_NothingBack bm_NothingBack:List Value} {sn_NothingBack:List Str} {sub_NothingBack:List Value} {ab_NothingBack:Bool} {col_NothingBack:Option Bool} {dd_NothingBack:Option Addr} {k0_NothingBack k1_NothingBack k2_NothingBack k3_NothingBack k5_NothingBack:Option Value}
   {cdx_BeamError:ClassData}
   {cdx_NoWeight:ClassData}
   {cdx_NoPlace:ClassData}
   {cdx_SamePlace:ClassData}
   {cdx_NoRoom:ClassData}
   {cdx_TipsInHand:ClassData}
   {cdx_TipsBehind:ClassData}
   {cdx_NothingBack:ClassData}
   {cdx_PlayFull:ClassData}
   {q_MOST_NOTCHES:Tok}
   {q_MOST_ROOM:Tok}
   {q_MOST_LIMIT:Tok}
   {q_MOST_WEIGHTS:Tok}
   {q_MOST_HEFT:Tok}
   {q_MOST_STANDINGS:Tok}
   {q_MOST_MOVES:Tok}
   (a_Beam:PySem.W.nsIn K mainGlobals "Beam" = some (some (.ref C_Beam)))
   (a_Play:PySem.W.nsIn K mainGlobals "Play" = some (some (.ref C_Play)))
   (a_NoWeight:PySem.W.nsIn K mainGlobals "NoWeight" = some (some (.ref C_NoWeight)))
   (a_NoPlace:PySem.W.nsIn K mainGlobals "NoPlace" = some (some (.ref C_NoPlace)))
   (a_SamePlace:PySem.W.nsIn K mainGlobals "SamePlace" = some (some (.ref C_SamePlace)))
   (a_NoRoom:PySem.W.nsIn K mainGlobals "NoRoom" = some (some (.ref C_NoRoom)))
   (a_TipsInHand:PySem.W.nsIn K mainGlobals "TipsInHand" = some (some (.ref C_TipsInHand)))
   (a_TipsBehind:PySem.W.nsIn K mainGlobals "TipsBehind" = some (some (.ref C_TipsBehind)))
   (a_PlayFull:PySem.W.nsIn K mainGlobals "PlayFull" = some (some (.ref C_PlayFull)))
   (a_NothingBack:PySem.W.nsIn K mainGlobals "NothingBack" = some (some (.ref C_NothingBack)))
   (a_BeamError:PySem.W.nsIn K mainGlobals "BeamError" = some (some (.ref C_BeamError)))
   (a_BeamError_init:PySem.W.findIn K (.ref C_BeamError) "__init__" = some (some (.ref f_BeamError_init)))
   (i_BeamError_init:PySem.W.isFn K (.ref f_BeamError_init)=true)
   (l_BeamError_init:K.lookup f_BeamError_init=some ⟨oc_BeamError_init,od_BeamError_init,.func (PySem.W.fnOf "__init__" "BeamError.__init__" (zb4 ze3) (zb1 ze3) (za5 ze3) (.ref T_BeamError_init) kV_BeamError_init dc_BeamError_init pm_BeamError_init an_BeamError_init cd_BeamError_init ct_BeamError_init),sl_BeamError_init⟩)
   (c_BeamError_init:PySem.W.codeIn K cd_BeamError_init "BeamError.__init__" = true) (k_BeamError_init:PySem.W.keepIn K (.ref f_BeamError_init)=true)
   (dt_BeamError_init:K.lookup T_BeamError_init=some ⟨tc_BeamError_init,td_BeamError_init,.seq #[e0_BeamError_init,e1_BeamError_init] tn_BeamError_init,ts_BeamError_init⟩)
   (a_NoWeight_init:PySem.W.findIn K (.ref C_NoWeight) "__init__" = some (some (.ref f_NoWeight_init)))
   (i_NoWeight_init:PySem.W.isFn K (.ref f_NoWeight_init)=true)
   (l_NoWeight_init:K.lookup f_NoWeight_init=some ⟨oc_NoWeight_init,od_NoWeight_init,.func (PySem.W.fnOf "__init__" "NoWeight.__init__" (zb4 ze8) (zb1 ze8) (za5 ze8) (.ref T_NoWeight_init) kV_NoWeight_init dc_NoWeight_init pm_NoWeight_init an_NoWeight_init cd_NoWeight_init ct_NoWeight_init),sl_NoWeight_init⟩)
   (c_NoWeight_init:PySem.W.codeIn K cd_NoWeight_init "NoWeight.__init__" = true) (k_NoWeight_init:PySem.W.keepIn K (.ref f_NoWeight_init)=true)
   (dt_NoWeight_init:K.lookup T_NoWeight_init=some ⟨tc_NoWeight_init,td_NoWeight_init,.seq #[e0_NoWeight_init] tn_NoWeight_init,ts_NoWeight_init⟩)
   (a_NoPlace_init:PySem.W.findIn K (.ref C_NoPlace) "__init__" = some (some (.ref f_NoPlace_init)))
   (i_NoPlace_init:PySem.W.isFn K (.ref f_NoPlace_init)=true)
   (l_NoPlace_init:K.lookup f_NoPlace_init=some ⟨oc_NoPlace_init,od_NoPlace_init,.func (PySem.W.fnOf "__init__" "NoPlace.__init__" (zb4 zf2) (zb1 zf2) (za5 zf2) (.ref T_NoPlace_init) kV_NoPlace_init dc_NoPlace_init pm_NoPlace_init an_NoPlace_init cd_NoPlace_init ct_NoPlace_init),sl_NoPlace_init⟩)
   (c_NoPlace_init:PySem.W.codeIn K cd_NoPlace_init "NoPlace.__init__" = true) (k_NoPlace_init:PySem.W.keepIn K (.ref f_NoPlace_init)=true)
   (dt_NoPlace_init:K.lookup T_NoPlace_init=some ⟨tc_NoPlace_init,td_NoPlace_init,.seq #[e0_NoPlace_init] tn_NoPlace_init,ts_NoPlace_init⟩)
   (a_SamePlace_init:PySem.W.findIn K (.ref C_SamePlace) "__init__" = some (some (.ref f_SamePlace_init)))
   (i_SamePlace_init:PySem.W.isFn K (.ref f_SamePlace_init)=true)
   (l_SamePlace_init:K.lookup f_SamePlace_init=some ⟨oc_SamePlace_init,od_SamePlace_init,.func (PySem.W.fnOf "__init__" "SamePlace.__init__" (zb4 ze4) (zb1 ze4) (za5 ze4) (.ref T_SamePlace_init) kV_SamePlace_init dc_SamePlace_init pm_SamePlace_init an_SamePlace_init cd_SamePlace_init ct_SamePlace_init),sl_SamePlace_init⟩)
   (c_SamePlace_init:PySem.W.codeIn K cd_SamePlace_init "SamePlace.__init__" = true) (k_SamePlace_init:PySem.W.keepIn K (.ref f_SamePlace_init)=true)
   (dt_SamePlace_init:K.lookup T_SamePlace_init=some ⟨tc_SamePlace_init,td_SamePlace_init,.seq #[e0_SamePlace_init] tn_SamePlace_init,ts_SamePlace_init⟩)
   (a_NoRoom_init:PySem.W.findIn K (.ref C_NoRoom) "__init__" = some (some (.ref f_NoRoom_init)))
   (i_NoRoom_init:PySem.W.isFn K (.ref f_NoRoom_init)=true)
   (l_NoRoom_init:K.lookup f_NoRoom_init=some ⟨oc_NoRoom_init,od_NoRoom_init,.func (PySem.W.fnOf "__init__" "NoRoom.__init__" (zb4 zf5) (zb1 zf5) (za5 zf5) (.ref T_NoRoom_init) kV_NoRoom_init dc_NoRoom_init pm_NoRoom_init an_NoRoom_init cd_NoRoom_init ct_NoRoom_init),sl_NoRoom_init⟩)
   (c_NoRoom_init:PySem.W.codeIn K cd_NoRoom_init "NoRoom.__init__" = true) (k_NoRoom_init:PySem.W.keepIn K (.ref f_NoRoom_init)=true)
   (dt_NoRoom_init:K.lookup T_NoRoom_init=some ⟨tc_NoRoom_init,td_NoRoom_init,.seq #[e0_NoRoom_init] tn_NoRoom_init,ts_NoRoom_init⟩)
   (a_TipsInHand_init:PySem.W.findIn K (.ref C_TipsInHand) "__init__" = some (some (.ref f_TipsInHand_init)))
   (i_TipsInHand_init:PySem.W.isFn K (.ref f_TipsInHand_init)=true)
   (l_TipsInHand_init:K.lookup f_TipsInHand_init=some ⟨oc_TipsInHand_init,od_TipsInHand_init,.func (PySem.W.fnOf "__init__" "TipsInHand.__init__" (zb4 zd7) (zb1 zd7) (za5 zd7) (.ref T_TipsInHand_init) kV_TipsInHand_init dc_TipsInHand_init pm_TipsInHand_init an_TipsInHand_init cd_TipsInHand_init ct_TipsInHand_init),sl_TipsInHand_init⟩)
   (c_TipsInHand_init:PySem.W.codeIn K cd_TipsInHand_init "TipsInHand.__init__" = true) (k_TipsInHand_init:PySem.W.keepIn K (.ref f_TipsInHand_init)=true)
   (dt_TipsInHand_init:K.lookup T_TipsInHand_init=some ⟨tc_TipsInHand_init,td_TipsInHand_init,.seq #[e0_TipsInHand_init] tn_TipsInHand_init,ts_TipsInHand_init⟩)
   (a_TipsBehind_init:PySem.W.findIn K (.ref C_TipsBehind) "__init__" = some (some (.ref f_TipsBehind_init)))
   (i_TipsBehind_init:PySem.W.isFn K (.ref f_TipsBehind_init)=true)
   (l_TipsBehind_init:K.lookup f_TipsBehind_init=some ⟨oc_TipsBehind_init,od_TipsBehind_init,.func (PySem.W.fnOf "__init__" "TipsBehind.__init__" (zb4 zd8) (zb1 zd8) (za5 zd8) (.ref T_TipsBehind_init) kV_TipsBehind_init dc_TipsBehind_init pm_TipsBehind_init an_TipsBehind_init cd_TipsBehind_init ct_TipsBehind_init),sl_TipsBehind_init⟩)
   (c_TipsBehind_init:PySem.W.codeIn K cd_TipsBehind_init "TipsBehind.__init__" = true) (k_TipsBehind_init:PySem.W.keepIn K (.ref f_TipsBehind_init)=true)
   (dt_TipsBehind_init:K.lookup T_TipsBehind_init=some ⟨tc_TipsBehind_init,td_TipsBehind_init,.seq #[e0_TipsBehind_init] tn_TipsBehind_init,ts_TipsBehind_init⟩)
   (a_PlayFull_init:PySem.W.findIn K (.ref C_PlayFull) "__init__" = some (some (.ref f_PlayFull_init)))
   (i_PlayFull_init:PySem.W.isFn K (.ref f_PlayFull_init)=true)
   (l_PlayFull_init:K.lookup f_PlayFull_init=some ⟨oc_PlayFull_init,od_PlayFull_init,.func (PySem.W.fnOf "__init__" "PlayFull.__init__" (zb4 ze9) (zb1 ze9) (za5 ze9) (.ref T_PlayFull_init) kV_PlayFull_init dc_PlayFull_init pm_PlayFull_init an_PlayFull_init cd_PlayFull_init ct_PlayFull_init),sl_PlayFull_init⟩)
   (c_PlayFull_init:PySem.W.codeIn K cd_PlayFull_init "PlayFull.__init__" = true) (k_PlayFull_init:PySem.W.keepIn K (.ref f_PlayFull_init)=true)
   (dt_PlayFull_init:K.lookup T_PlayFull_init=some ⟨tc_PlayFull_init,td_PlayFull_init,.seq #[e0_PlayFull_init] tn_PlayFull_init,ts_PlayFull_init⟩)
   (a_NothingBack_init:PySem.W.findIn K (.ref C_NothingBack) "__init__" = some (some (.ref f_NothingBack_init)))
   (i_NothingBack_init:PySem.W.isFn K (.ref f_NothingBack_init)=true)
   (l_NothingBack_init:K.lookup f_NothingBack_init=some ⟨oc_NothingBack_init,od_NothingBack_init,.func (PySem.W.fnOf "__init__" "NothingBack.__init__" (zb4 zd6) (zb1 zd6) (za5 zd6) (.ref T_NothingBack_init) kV_NothingBack_init dc_NothingBack_init pm_NothingBack_init an_NothingBack_init cd_NothingBack_init ct_NothingBack_init),sl_NothingBack_init⟩)
   (c_NothingBack_init:PySem.W.codeIn K cd_NothingBack_init "NothingBack.__init__" = true) (k_NothingBack_init:PySem.W.keepIn K (.ref f_NothingBack_init)=true)
   (dt_NothingBack_init:K.lookup T_NothingBack_init=some ⟨tc_NothingBack_init,td_NothingBack_init,.seq #[e0_NothingBack_init] tn_NothingBack_init,ts_NothingBack_init⟩)
   (a_Beam_init:PySem.W.findIn K (.ref C_Beam) "__init__" = some (some (.ref f_Beam_init)))
   (i_Beam_init:PySem.W.isFn K (.ref f_Beam_init)=true)
   (l_Beam_init:K.lookup f_Beam_init=some ⟨oc_Beam_init,od_Beam_init,.func (PySem.W.fnOf "__init__" "Beam.__init__" (zb4 zl0) (zb1 zl0) (za5 zl0) .none kV_Beam_init dc_Beam_init pm_Beam_init an_Beam_init cd_Beam_init ct_Beam_init),sl_Beam_init⟩)
   (c_Beam_init:PySem.W.codeIn K cd_Beam_init "Beam.__init__" = true) (k_Beam_init:PySem.W.keepIn K (.ref f_Beam_init)=true)
   (a_outside:PySem.W.nsIn K mainGlobals "outside" = some (some (.ref f_outside)))
   (l_outside:K.lookup f_outside=some ⟨oc_outside,od_outside,.func (PySem.W.fnOf "outside" "outside" (zb4 zo8) (zb1 zo8) (za5 zo8) .none kV_outside dc_outside pm_outside an_outside cd_outside ct_outside),sl_outside⟩)
   (c_outside:PySem.W.codeIn K cd_outside "outside" = true) (k_outside:PySem.W.keepIn K (.ref f_outside)=true)
   (a_check_bounds:PySem.W.nsIn K mainGlobals "check_bounds" = some (some (.ref f_check_bounds)))
   (l_check_bounds:K.lookup f_check_bounds=some ⟨oc_check_bounds,od_check_bounds,.func (PySem.W.fnOf "check_bounds" "check_bounds" (zb4 zg9) (zb1 zg9) (za5 zg9) .none kV_check_bounds dc_check_bounds pm_check_bounds an_check_bounds cd_check_bounds ct_check_bounds),sl_check_bounds⟩)
   (c_check_bounds:PySem.W.codeIn K cd_check_bounds "check_bounds" = true) (k_check_bounds:PySem.W.keepIn K (.ref f_check_bounds)=true)
   (a_check_hefts:PySem.W.nsIn K mainGlobals "check_hefts" = some (some (.ref f_check_hefts)))
   (l_check_hefts:K.lookup f_check_hefts=some ⟨oc_check_hefts,od_check_hefts,.func (PySem.W.fnOf "check_hefts" "check_hefts" (zb4 zi2) (zb1 zi2) (za5 zi2) .none kV_check_hefts dc_check_hefts pm_check_hefts an_check_hefts cd_check_hefts ct_check_hefts),sl_check_hefts⟩)
   (c_check_hefts:PySem.W.codeIn K cd_check_hefts "check_hefts" = true) (k_check_hefts:PySem.W.keepIn K (.ref f_check_hefts)=true)
   (a_check_standings:PySem.W.nsIn K mainGlobals "check_standings" = some (some (.ref f_check_standings)))
   (l_check_standings:K.lookup f_check_standings=some ⟨oc_check_standings,od_check_standings,.func (PySem.W.fnOf "check_standings" "check_standings" (zb4 zf9) (zb1 zf9) (za5 zf9) .none kV_check_standings dc_check_standings pm_check_standings an_check_standings cd_check_standings ct_check_standings),sl_check_standings⟩)
   (c_check_standings:PySem.W.codeIn K cd_check_standings "check_standings" = true) (k_check_standings:PySem.W.keepIn K (.ref f_check_standings)=true)
   (a_as_standing:PySem.W.nsIn K mainGlobals "as_standing" = some (some (.ref f_as_standing)))
   (l_as_standing:K.lookup f_as_standing=some ⟨oc_as_standing,od_as_standing,.func (PySem.W.fnOf "as_standing" "as_standing" (zb4 zi3) (zb1 zi3) (za5 zi3) .none kV_as_standing dc_as_standing pm_as_standing an_as_standing cd_as_standing ct_as_standing),sl_as_standing⟩)
   (c_as_standing:PySem.W.codeIn K cd_as_standing "as_standing" = true) (k_as_standing:PySem.W.keepIn K (.ref f_as_standing)=true)
   (a_tilt:PySem.W.nsIn K mainGlobals "tilt" = some (some (.ref f_tilt)))
   (l_tilt:K.lookup f_tilt=some ⟨oc_tilt,od_tilt,.func (PySem.W.fnOf "tilt" "tilt" (zb4 zw3) (zb1 zw3) (za5 zw3) .none kV_tilt dc_tilt pm_tilt an_tilt cd_tilt ct_tilt),sl_tilt⟩)
   (c_tilt:PySem.W.codeIn K cd_tilt "tilt" = true) (k_tilt:PySem.W.keepIn K (.ref f_tilt)=true)
   (a_past:PySem.W.nsIn K mainGlobals "past" = some (some (.ref f_past)))
   (l_past:K.lookup f_past=some ⟨oc_past,od_past,.func (PySem.W.fnOf "past" "past" (zb4 zC5) (zb1 zC5) (za5 zC5) .none kV_past dc_past pm_past an_past cd_past ct_past),sl_past⟩)
   (c_past:PySem.W.codeIn K cd_past "past" = true) (k_past:PySem.W.keepIn K (.ref f_past)=true)
   (a_keeps:PySem.W.nsIn K mainGlobals "keeps" = some (some (.ref f_keeps)))
   (l_keeps:K.lookup f_keeps=some ⟨oc_keeps,od_keeps,.func (PySem.W.fnOf "keeps" "keeps" (zb4 zx7) (zb1 zx7) (za5 zx7) .none kV_keeps dc_keeps pm_keeps an_keeps cd_keeps ct_keeps),sl_keeps⟩)
   (c_keeps:PySem.W.codeIn K cd_keeps "keeps" = true) (k_keeps:PySem.W.keepIn K (.ref f_keeps)=true)
   (a_in_hand:PySem.W.nsIn K mainGlobals "in_hand" = some (some (.ref f_in_hand)))
   (l_in_hand:K.lookup f_in_hand=some ⟨oc_in_hand,od_in_hand,.func (PySem.W.fnOf "in_hand" "in_hand" (zb4 zo9) (zb1 zo9) (za5 zo9) .none kV_in_hand dc_in_hand pm_in_hand an_in_hand cd_in_hand ct_in_hand),sl_in_hand⟩)
   (c_in_hand:PySem.W.codeIn K cd_in_hand "in_hand" = true) (k_in_hand:PySem.W.keepIn K (.ref f_in_hand)=true)
   (a_moved:PySem.W.nsIn K mainGlobals "moved" = some (some (.ref f_moved)))
   (l_moved:K.lookup f_moved=some ⟨oc_moved,od_moved,.func (PySem.W.fnOf "moved" "moved" (zb4 zx8) (zb1 zx8) (za5 zx8) .none kV_moved dc_moved pm_moved an_moved cd_moved ct_moved),sl_moved⟩)
   (c_moved:PySem.W.codeIn K cd_moved "moved" = true) (k_moved:PySem.W.keepIn K (.ref f_moved)=true)
   (a_turned:PySem.W.nsIn K mainGlobals "turned" = some (some (.ref f_turned)))
   (l_turned:K.lookup f_turned=some ⟨oc_turned,od_turned,.func (PySem.W.fnOf "turned" "turned" (zb4 zt2) (zb1 zt2) (za5 zt2) .none kV_turned dc_turned pm_turned an_turned cd_turned ct_turned),sl_turned⟩)
   (c_turned:PySem.W.codeIn K cd_turned "turned" = true) (k_turned:PySem.W.keepIn K (.ref f_turned)=true)
   (a_behind:PySem.W.nsIn K mainGlobals "behind" = some (some (.ref f_behind)))
   (l_behind:K.lookup f_behind=some ⟨oc_behind,od_behind,.func (PySem.W.fnOf "behind" "behind" (zb4 zt3) (zb1 zt3) (za5 zt3) .none kV_behind dc_behind pm_behind an_behind cd_behind ct_behind),sl_behind⟩)
   (c_behind:PySem.W.codeIn K cd_behind "behind" = true) (k_behind:PySem.W.keepIn K (.ref f_behind)=true)
   (a_full:PySem.W.nsIn K mainGlobals "full" = some (some (.ref f_full)))
   (l_full:K.lookup f_full=some ⟨oc_full,od_full,.func (PySem.W.fnOf "full" "full" (zb4 zC6) (zb1 zC6) (za5 zC6) .none kV_full dc_full pm_full an_full cd_full ct_full),sl_full⟩)
   (c_full:PySem.W.codeIn K cd_full "full" = true) (k_full:PySem.W.keepIn K (.ref f_full)=true)
   (a_check_move:PySem.W.nsIn K mainGlobals "check_move" = some (some (.ref f_check_move)))
   (l_check_move:K.lookup f_check_move=some ⟨oc_check_move,od_check_move,.func (PySem.W.fnOf "check_move" "check_move" (zb4 zj8) (zb1 zj8) (za5 zj8) .none kV_check_move dc_check_move pm_check_move an_check_move cd_check_move ct_check_move),sl_check_move⟩)
   (c_check_move:PySem.W.codeIn K cd_check_move "check_move" = true) (k_check_move:PySem.W.keepIn K (.ref f_check_move)=true)
   (a_check_weight:PySem.W.nsIn K mainGlobals "check_weight" = some (some (.ref f_check_weight)))
   (l_check_weight:K.lookup f_check_weight=some ⟨oc_check_weight,od_check_weight,.func (PySem.W.fnOf "check_weight" "check_weight" (zb4 zh0) (zb1 zh0) (za5 zh0) .none kV_check_weight dc_check_weight pm_check_weight an_check_weight cd_check_weight ct_check_weight),sl_check_weight⟩)
   (c_check_weight:PySem.W.codeIn K cd_check_weight "check_weight" = true) (k_check_weight:PySem.W.keepIn K (.ref f_check_weight)=true)
   (a_check_put:PySem.W.nsIn K mainGlobals "check_put" = some (some (.ref f_check_put)))
   (l_check_put:K.lookup f_check_put=some ⟨oc_check_put,od_check_put,.func (PySem.W.fnOf "check_put" "check_put" (zb4 zl1) (zb1 zl1) (za5 zl1) .none kV_check_put dc_check_put pm_check_put an_check_put cd_check_put ct_check_put),sl_check_put⟩)
   (c_check_put:PySem.W.codeIn K cd_check_put "check_put" = true) (k_check_put:PySem.W.keepIn K (.ref f_check_put)=true)
   (a_check_tilts:PySem.W.nsIn K mainGlobals "check_tilts" = some (some (.ref f_check_tilts)))
   (l_check_tilts:K.lookup f_check_tilts=some ⟨oc_check_tilts,od_check_tilts,.func (PySem.W.fnOf "check_tilts" "check_tilts" (zb4 zi4) (zb1 zi4) (za5 zi4) .none kV_check_tilts dc_check_tilts pm_check_tilts an_check_tilts cd_check_tilts ct_check_tilts),sl_check_tilts⟩)
   (c_check_tilts:PySem.W.codeIn K cd_check_tilts "check_tilts" = true) (k_check_tilts:PySem.W.keepIn K (.ref f_check_tilts)=true)
   (a_Play_init:PySem.W.findIn K (.ref C_Play) "__init__" = some (some (.ref f_Play_init)))
   (i_Play_init:PySem.W.isFn K (.ref f_Play_init)=true)
   (l_Play_init:K.lookup f_Play_init=some ⟨oc_Play_init,od_Play_init,.func (PySem.W.fnOf "__init__" "Play.__init__" (zb4 zl2) (zb1 zl2) (za5 zl2) .none kV_Play_init dc_Play_init pm_Play_init an_Play_init cd_Play_init ct_Play_init),sl_Play_init⟩)
   (c_Play_init:PySem.W.codeIn K cd_Play_init "Play.__init__" = true) (k_Play_init:PySem.W.keepIn K (.ref f_Play_init)=true)
   (a_Play_move:PySem.W.findIn K (.ref C_Play) "move" = some (some (.ref f_Play_move)))
   (i_Play_move:PySem.W.isFn K (.ref f_Play_move)=true)
   (l_Play_move:K.lookup f_Play_move=some ⟨oc_Play_move,od_Play_move,.func (PySem.W.fnOf "move" "Play.move" (zb4 zl3) (zb1 zl3) (za5 zl3) .none kV_Play_move dc_Play_move pm_Play_move an_Play_move cd_Play_move ct_Play_move),sl_Play_move⟩)
   (c_Play_move:PySem.W.codeIn K cd_Play_move "Play.move" = true) (k_Play_move:PySem.W.keepIn K (.ref f_Play_move)=true)
   (a_Play_back:PySem.W.findIn K (.ref C_Play) "back" = some (some (.ref f_Play_back)))
   (i_Play_back:PySem.W.isFn K (.ref f_Play_back)=true)
   (l_Play_back:K.lookup f_Play_back=some ⟨oc_Play_back,od_Play_back,.func (PySem.W.fnOf "back" "Play.back" (zb4 zl4) (zb1 zl4) (za5 zl4) .none kV_Play_back dc_Play_back pm_Play_back an_Play_back cd_Play_back ct_Play_back),sl_Play_back⟩)
   (c_Play_back:PySem.W.codeIn K cd_Play_back "Play.back" = true) (k_Play_back:PySem.W.keepIn K (.ref f_Play_back)=true)
   (a_Play_trail:PySem.W.findIn K (.ref C_Play) "trail" = some (some (.ref f_Play_trail)))
   (i_Play_trail:PySem.W.isFn K (.ref f_Play_trail)=true)
   (l_Play_trail:K.lookup f_Play_trail=some ⟨oc_Play_trail,od_Play_trail,.func (PySem.W.fnOf "trail" "Play.trail" (zb4 zj9) (zb1 zj9) (za5 zj9) .none kV_Play_trail dc_Play_trail pm_Play_trail an_Play_trail cd_Play_trail ct_Play_trail),sl_Play_trail⟩)
   (c_Play_trail:PySem.W.codeIn K cd_Play_trail "Play.trail" = true) (k_Play_trail:PySem.W.keepIn K (.ref f_Play_trail)=true)
   (a_w_at:PySem.W.nsIn K mainGlobals "_law_at" = some (some (.ref f_w_at)))
   (l_w_at:K.lookup f_w_at=some ⟨oc_w_at,od_w_at,.func (PySem.W.fnOf "_law_at" "_law_at" (zb4 zC7) (zb1 zC7) (za5 zC7) .none kV_w_at dc_w_at pm_w_at an_w_at cd_w_at ct_w_at),sl_w_at⟩)
   (c_w_at:PySem.W.codeIn K cd_w_at "_law_at" = true) (k_w_at:PySem.W.keepIn K (.ref f_w_at)=true)
   (a_w_whole:PySem.W.nsIn K mainGlobals "_law_whole" = some (some (.ref f_w_whole)))
   (l_w_whole:K.lookup f_w_whole=some ⟨oc_w_whole,od_w_whole,.func (PySem.W.fnOf "_law_whole" "_law_whole" (zb4 zp0) (zb1 zp0) (za5 zp0) .none kV_w_whole dc_w_whole pm_w_whole an_w_whole cd_w_whole ct_w_whole),sl_w_whole⟩)
   (c_w_whole:PySem.W.codeIn K cd_w_whole "_law_whole" = true) (k_w_whole:PySem.W.keepIn K (.ref f_w_whole)=true)
   (a_w_figs:PySem.W.nsIn K mainGlobals "_law_figs" = some (some (.ref f_w_figs)))
   (l_w_figs:K.lookup f_w_figs=some ⟨oc_w_figs,od_w_figs,.func (PySem.W.fnOf "_law_figs" "_law_figs" (zb4 zt4) (zb1 zt4) (za5 zt4) .none kV_w_figs dc_w_figs pm_w_figs an_w_figs cd_w_figs ct_w_figs),sl_w_figs⟩)
   (c_w_figs:PySem.W.codeIn K cd_w_figs "_law_figs" = true) (k_w_figs:PySem.W.keepIn K (.ref f_w_figs)=true)
   (a_w_shape:PySem.W.nsIn K mainGlobals "_law_shape" = some (some (.ref f_w_shape)))
   (l_w_shape:K.lookup f_w_shape=some ⟨oc_w_shape,od_w_shape,.func (PySem.W.fnOf "_law_shape" "_law_shape" (zb4 zl5) (zb1 zl5) (za5 zl5) .none kV_w_shape dc_w_shape pm_w_shape an_w_shape cd_w_shape ct_w_shape),sl_w_shape⟩)
   (c_w_shape:PySem.W.codeIn K cd_w_shape "_law_shape" = true) (k_w_shape:PySem.W.keepIn K (.ref f_w_shape)=true)
   (a_w_put:PySem.W.nsIn K mainGlobals "_law_put" = some (some (.ref f_w_put)))
   (l_w_put:K.lookup f_w_put=some ⟨oc_w_put,od_w_put,.func (PySem.W.fnOf "_law_put" "_law_put" (zb4 zx9) (zb1 zx9) (za5 zx9) .none kV_w_put dc_w_put pm_w_put an_w_put cd_w_put ct_w_put),sl_w_put⟩)
   (c_w_put:PySem.W.codeIn K cd_w_put "_law_put" = true) (k_w_put:PySem.W.keepIn K (.ref f_w_put)=true)
   (a_w_tilt:PySem.W.nsIn K mainGlobals "_law_tilt" = some (some (.ref f_w_tilt)))
   (l_w_tilt:K.lookup f_w_tilt=some ⟨oc_w_tilt,od_w_tilt,.func (PySem.W.fnOf "_law_tilt" "_law_tilt" (zb4 zt5) (zb1 zt5) (za5 zt5) .none kV_w_tilt dc_w_tilt pm_w_tilt an_w_tilt cd_w_tilt ct_w_tilt),sl_w_tilt⟩)
   (c_w_tilt:PySem.W.codeIn K cd_w_tilt "_law_tilt" = true) (k_w_tilt:PySem.W.keepIn K (.ref f_w_tilt)=true)
   (a_w_limit:PySem.W.nsIn K mainGlobals "_law_limit" = some (some (.ref f_w_limit)))
   (l_w_limit:K.lookup f_w_limit=some ⟨oc_w_limit,od_w_limit,.func (PySem.W.fnOf "_law_limit" "_law_limit" (zb4 zp6) (zb1 zp6) (za5 zp6) .none kV_w_limit dc_w_limit pm_w_limit an_w_limit cd_w_limit ct_w_limit),sl_w_limit⟩)
   (c_w_limit:PySem.W.codeIn K cd_w_limit "_law_limit" = true) (k_w_limit:PySem.W.keepIn K (.ref f_w_limit)=true)
   (a_w_hard:PySem.W.nsIn K mainGlobals "_law_hard" = some (some (.ref f_w_hard)))
   (l_w_hard:K.lookup f_w_hard=some ⟨oc_w_hard,od_w_hard,.func (PySem.W.fnOf "_law_hard" "_law_hard" (zb4 zt6) (zb1 zt6) (za5 zt6) .none kV_w_hard dc_w_hard pm_w_hard an_w_hard cd_w_hard ct_w_hard),sl_w_hard⟩)
   (c_w_hard:PySem.W.codeIn K cd_w_hard "_law_hard" = true) (k_w_hard:PySem.W.keepIn K (.ref f_w_hard)=true)
   (a_w_case:PySem.W.nsIn K mainGlobals "_law_case" = some (some (.ref f_w_case)))
   (l_w_case:K.lookup f_w_case=some ⟨oc_w_case,od_w_case,.func (PySem.W.fnOf "_law_case" "_law_case" (zb4 zt7) (zb1 zt7) (za5 zt7) .none kV_w_case dc_w_case pm_w_case an_w_case cd_w_case ct_w_case),sl_w_case⟩)
   (c_w_case:PySem.W.codeIn K cd_w_case "_law_case" = true) (k_w_case:PySem.W.keepIn K (.ref f_w_case)=true)
   (a_w_word:PySem.W.nsIn K mainGlobals "_law_word" = some (some (.ref f_w_word)))
   (l_w_word:K.lookup f_w_word=some ⟨oc_w_word,od_w_word,.func (PySem.W.fnOf "_law_word" "_law_word" (zb4 zt8) (zb1 zt8) (za5 zt8) .none kV_w_word dc_w_word pm_w_word an_w_word cd_w_word ct_w_word),sl_w_word⟩)
   (c_w_word:PySem.W.codeIn K cd_w_word "_law_word" = true) (k_w_word:PySem.W.keepIn K (.ref f_w_word)=true)
   (a_w_near:PySem.W.nsIn K mainGlobals "_law_near" = some (some (.ref f_w_near)))
   (l_w_near:K.lookup f_w_near=some ⟨oc_w_near,od_w_near,.func (PySem.W.fnOf "_law_near" "_law_near" (zb4 zn5) (zb1 zn5) (za5 zn5) .none kV_w_near dc_w_near pm_w_near an_w_near cd_w_near ct_w_near),sl_w_near⟩)
   (c_w_near:PySem.W.codeIn K cd_w_near "_law_near" = true) (k_w_near:PySem.W.keepIn K (.ref f_w_near)=true)
   (a_w_same:PySem.W.nsIn K mainGlobals "_law_same" = some (some (.ref f_w_same)))
   (l_w_same:K.lookup f_w_same=some ⟨oc_w_same,od_w_same,.func (PySem.W.fnOf "_law_same" "_law_same" (zb4 zt9) (zb1 zt9) (za5 zt9) .none kV_w_same dc_w_same pm_w_same an_w_same cd_w_same ct_w_same),sl_w_same⟩)
   (c_w_same:PySem.W.codeIn K cd_w_same "_law_same" = true) (k_w_same:PySem.W.keepIn K (.ref f_w_same)=true)
   (a_w_same_rows:PySem.W.nsIn K mainGlobals "_law_same_rows" = some (some (.ref f_w_same_rows)))
   (l_w_same_rows:K.lookup f_w_same_rows=some ⟨oc_w_same_rows,od_w_same_rows,.func (PySem.W.fnOf "_law_same_rows" "_law_same_rows" (zb4 zi5) (zb1 zi5) (za5 zi5) .none kV_w_same_rows dc_w_same_rows pm_w_same_rows an_w_same_rows cd_w_same_rows ct_w_same_rows),sl_w_same_rows⟩)
   (c_w_same_rows:PySem.W.codeIn K cd_w_same_rows "_law_same_rows" = true) (k_w_same_rows:PySem.W.keepIn K (.ref f_w_same_rows)=true)
   (a_w_beam:PySem.W.nsIn K mainGlobals "_law_beam" = some (some (.ref f_w_beam)))
   (l_w_beam:K.lookup f_w_beam=some ⟨oc_w_beam,od_w_beam,.func (PySem.W.fnOf "_law_beam" "_law_beam" (zb4 zu0) (zb1 zu0) (za5 zu0) .none kV_w_beam dc_w_beam pm_w_beam an_w_beam cd_w_beam ct_w_beam),sl_w_beam⟩)
   (c_w_beam:PySem.W.codeIn K cd_w_beam "_law_beam" = true) (k_w_beam:PySem.W.keepIn K (.ref f_w_beam)=true)
   (a_w_pick:PySem.W.nsIn K mainGlobals "_law_pick" = some (some (.ref f_w_pick)))
   (l_w_pick:K.lookup f_w_pick=some ⟨oc_w_pick,od_w_pick,.func (PySem.W.fnOf "_law_pick" "_law_pick" (zb4 zn6) (zb1 zn6) (za5 zn6) .none kV_w_pick dc_w_pick pm_w_pick an_w_pick cd_w_pick ct_w_pick),sl_w_pick⟩)
   (c_w_pick:PySem.W.codeIn K cd_w_pick "_law_pick" = true) (k_w_pick:PySem.W.keepIn K (.ref f_w_pick)=true)
   (a_w_any_move:PySem.W.nsIn K mainGlobals "_law_any_move" = some (some (.ref f_w_any_move)))
   (l_w_any_move:K.lookup f_w_any_move=some ⟨oc_w_any_move,od_w_any_move,.func (PySem.W.fnOf "_law_any_move" "_law_any_move" (zb4 zk0) (zb1 zk0) (za5 zk0) .none kV_w_any_move dc_w_any_move pm_w_any_move an_w_any_move cd_w_any_move ct_w_any_move),sl_w_any_move⟩)
   (c_w_any_move:PySem.W.codeIn K cd_w_any_move "_law_any_move" = true) (k_w_any_move:PySem.W.keepIn K (.ref f_w_any_move)=true)
   (a_w_done:PySem.W.nsIn K mainGlobals "_law_done" = some (some (.ref f_w_done)))
   (l_w_done:K.lookup f_w_done=some ⟨oc_w_done,od_w_done,.func (PySem.W.fnOf "_law_done" "_law_done" (zb4 zn7) (zb1 zn7) (za5 zn7) .none kV_w_done dc_w_done pm_w_done an_w_done cd_w_done ct_w_done),sl_w_done⟩)
   (c_w_done:PySem.W.codeIn K cd_w_done "_law_done" = true) (k_w_done:PySem.W.keepIn K (.ref f_w_done)=true)
   (a_w_chosen:PySem.W.nsIn K mainGlobals "_law_chosen" = some (some (.ref f_w_chosen)))
   (l_w_chosen:K.lookup f_w_chosen=some ⟨oc_w_chosen,od_w_chosen,.func (PySem.W.fnOf "_law_chosen" "_law_chosen" (zb4 zm8) (zb1 zm8) (za5 zm8) .none kV_w_chosen dc_w_chosen pm_w_chosen an_w_chosen cd_w_chosen ct_w_chosen),sl_w_chosen⟩)
   (c_w_chosen:PySem.W.codeIn K cd_w_chosen "_law_chosen" = true) (k_w_chosen:PySem.W.keepIn K (.ref f_w_chosen)=true)
   (a_w_deed:PySem.W.nsIn K mainGlobals "_law_deed" = some (some (.ref f_w_deed)))
   (l_w_deed:K.lookup f_w_deed=some ⟨oc_w_deed,od_w_deed,.func (PySem.W.fnOf "_law_deed" "_law_deed" (zb4 zu1) (zb1 zu1) (za5 zu1) .none kV_w_deed dc_w_deed pm_w_deed an_w_deed cd_w_deed ct_w_deed),sl_w_deed⟩)
   (c_w_deed:PySem.W.codeIn K cd_w_deed "_law_deed" = true) (k_w_deed:PySem.W.keepIn K (.ref f_w_deed)=true)
   (a_law:PySem.W.nsIn K mainGlobals "law" = some (some (.ref f_law)))
   (l_law:K.lookup f_law=some ⟨oc_law,od_law,.func (PySem.W.fnOf "law" "law" (zb4 zI3) (zb1 zI3) (za5 zI3) .none kV_law dc_law pm_law an_law cd_law ct_law),sl_law⟩)
   (c_law:PySem.W.codeIn K cd_law "law" = true) (k_law:PySem.W.keepIn K (.ref f_law)=true)
   (pg_Beam:PySem.W.plainGet K C_Beam Str.empty=true) (hd_Beam:PySem.W.hasDictIn K C_Beam=true) (po_Beam:PySem.W.plainOver K C_Beam=true) (sa_Beam:PySem.W.findIn K (.ref C_Beam) "__setattr__" = some (some (.builtin "object.__setattr__"))) (mk_Beam:PySem.W.makesIn K C_Beam=true) (kc_Beam:PySem.W.keepIn K (.ref C_Beam)=true)
   (na_Beam_notches:PySem.W.findIn K (.ref C_Beam) "notches" = some none)
   (na_Beam_room:PySem.W.findIn K (.ref C_Beam) "room" = some none)
   (na_Beam_hefts:PySem.W.findIn K (.ref C_Beam) "hefts" = some none)
   (na_Beam_limit:PySem.W.findIn K (.ref C_Beam) "limit" = some none)
   (pg_Play:PySem.W.plainGet K C_Play Str.empty=true) (hd_Play:PySem.W.hasDictIn K C_Play=true) (po_Play:PySem.W.plainOver K C_Play=true) (sa_Play:PySem.W.findIn K (.ref C_Play) "__setattr__" = some (some (.builtin "object.__setattr__"))) (mk_Play:PySem.W.makesIn K C_Play=true) (kc_Play:PySem.W.keepIn K (.ref C_Play)=true)
   (na_Play_beam:PySem.W.findIn K (.ref C_Play) "beam" = some none)
   (na_Play_start:PySem.W.findIn K (.ref C_Play) "start" = some none)
   (na_Play_standing:PySem.W.findIn K (.ref C_Play) "standing" = some none)
   (na_Play_made:PySem.W.findIn K (.ref C_Play) "made" = some none)
   (ob_NoWeight:K.lookup C_NoWeight=some (excClassObj nm_NoWeight qn_NoWeight C_NoWeight N_NoWeight bs_NoWeight bm_NoWeight true sn_NoWeight sub_NoWeight ab_NoWeight col_NoWeight dd_NoWeight k0_NoWeight k1_NoWeight k2_NoWeight k3_NoWeight k5_NoWeight "ValueError.__new__")) (mv_NoWeight:MroV bm_NoWeight) (sa_NoWeight:PySem.W.findIn K (.ref C_NoWeight) "__setattr__" = some (some (.builtin "object.__setattr__"))) (kc_NoWeight:PySem.W.keepIn K (.ref C_NoWeight)=true)
   (ob_NoPlace:K.lookup C_NoPlace=some (excClassObj nm_NoPlace qn_NoPlace C_NoPlace N_NoPlace bs_NoPlace bm_NoPlace true sn_NoPlace sub_NoPlace ab_NoPlace col_NoPlace dd_NoPlace k0_NoPlace k1_NoPlace k2_NoPlace k3_NoPlace k5_NoPlace "ValueError.__new__")) (mv_NoPlace:MroV bm_NoPlace) (sa_NoPlace:PySem.W.findIn K (.ref C_NoPlace) "__setattr__" = some (some (.builtin "object.__setattr__"))) (kc_NoPlace:PySem.W.keepIn K (.ref C_NoPlace)=true)
   (ob_SamePlace:K.lookup C_SamePlace=some (excClassObj nm_SamePlace qn_SamePlace C_SamePlace N_SamePlace bs_SamePlace bm_SamePlace true sn_SamePlace sub_SamePlace ab_SamePlace col_SamePlace dd_SamePlace k0_SamePlace k1_SamePlace k2_SamePlace k3_SamePlace k5_SamePlace "ValueError.__new__")) (mv_SamePlace:MroV bm_SamePlace) (sa_SamePlace:PySem.W.findIn K (.ref C_SamePlace) "__setattr__" = some (some (.builtin "object.__setattr__"))) (kc_SamePlace:PySem.W.keepIn K (.ref C_SamePlace)=true)
   (ob_NoRoom:K.lookup C_NoRoom=some (excClassObj nm_NoRoom qn_NoRoom C_NoRoom N_NoRoom bs_NoRoom bm_NoRoom true sn_NoRoom sub_NoRoom ab_NoRoom col_NoRoom dd_NoRoom k0_NoRoom k1_NoRoom k2_NoRoom k3_NoRoom k5_NoRoom "ValueError.__new__")) (mv_NoRoom:MroV bm_NoRoom) (sa_NoRoom:PySem.W.findIn K (.ref C_NoRoom) "__setattr__" = some (some (.builtin "object.__setattr__"))) (kc_NoRoom:PySem.W.keepIn K (.ref C_NoRoom)=true)
   (ob_TipsInHand:K.lookup C_TipsInHand=some (excClassObj nm_TipsInHand qn_TipsInHand C_TipsInHand N_TipsInHand bs_TipsInHand bm_TipsInHand true sn_TipsInHand sub_TipsInHand ab_TipsInHand col_TipsInHand dd_TipsInHand k0_TipsInHand k1_TipsInHand k2_TipsInHand k3_TipsInHand k5_TipsInHand "ValueError.__new__")) (mv_TipsInHand:MroV bm_TipsInHand) (sa_TipsInHand:PySem.W.findIn K (.ref C_TipsInHand) "__setattr__" = some (some (.builtin "object.__setattr__"))) (kc_TipsInHand:PySem.W.keepIn K (.ref C_TipsInHand)=true)
   (ob_TipsBehind:K.lookup C_TipsBehind=some (excClassObj nm_TipsBehind qn_TipsBehind C_TipsBehind N_TipsBehind bs_TipsBehind bm_TipsBehind true sn_TipsBehind sub_TipsBehind ab_TipsBehind col_TipsBehind dd_TipsBehind k0_TipsBehind k1_TipsBehind k2_TipsBehind k3_TipsBehind k5_TipsBehind "ValueError.__new__")) (mv_TipsBehind:MroV bm_TipsBehind) (sa_TipsBehind:PySem.W.findIn K (.ref C_TipsBehind) "__setattr__" = some (some (.builtin "object.__setattr__"))) (kc_TipsBehind:PySem.W.keepIn K (.ref C_TipsBehind)=true)
   (ob_PlayFull:K.lookup C_PlayFull=some (excClassObj nm_PlayFull qn_PlayFull C_PlayFull N_PlayFull bs_PlayFull bm_PlayFull true sn_PlayFull sub_PlayFull ab_PlayFull col_PlayFull dd_PlayFull k0_PlayFull k1_PlayFull k2_PlayFull k3_PlayFull k5_PlayFull "ValueError.__new__")) (mv_PlayFull:MroV bm_PlayFull) (sa_PlayFull:PySem.W.findIn K (.ref C_PlayFull) "__setattr__" = some (some (.builtin "object.__setattr__"))) (kc_PlayFull:PySem.W.keepIn K (.ref C_PlayFull)=true)
   (ob_NothingBack:K.lookup C_NothingBack=some (excClassObj nm_NothingBack qn_NothingBack C_NothingBack N_NothingBack bs_NothingBack bm_NothingBack true sn_NothingBack sub_NothingBack ab_NothingBack col_NothingBack dd_NothingBack k0_NothingBack k1_NothingBack k2_NothingBack k3_NothingBack k5_NothingBack "ValueError.__new__")) (mv_NothingBack:MroV bm_NothingBack) (sa_NothingBack:PySem.W.findIn K (.ref C_NothingBack) "__setattr__" = some (some (.builtin "object.__setattr__"))) (kc_NothingBack:PySem.W.keepIn K (.ref C_NothingBack)=true)
   (na_NoWeight_reason:PySem.W.findIn K (.ref C_NoWeight) "reason" = some none)
   (na_NoWeight_word:PySem.W.findIn K (.ref C_NoWeight) "word" = some none)
   (na_NoPlace_reason:PySem.W.findIn K (.ref C_NoPlace) "reason" = some none)
   (na_NoPlace_word:PySem.W.findIn K (.ref C_NoPlace) "word" = some none)
   (na_SamePlace_reason:PySem.W.findIn K (.ref C_SamePlace) "reason" = some none)
   (na_SamePlace_word:PySem.W.findIn K (.ref C_SamePlace) "word" = some none)
   (na_NoRoom_reason:PySem.W.findIn K (.ref C_NoRoom) "reason" = some none)
   (na_NoRoom_word:PySem.W.findIn K (.ref C_NoRoom) "word" = some none)
   (na_TipsInHand_reason:PySem.W.findIn K (.ref C_TipsInHand) "reason" = some none)
   (na_TipsInHand_word:PySem.W.findIn K (.ref C_TipsInHand) "word" = some none)
   (na_TipsBehind_reason:PySem.W.findIn K (.ref C_TipsBehind) "reason" = some none)
   (na_TipsBehind_word:PySem.W.findIn K (.ref C_TipsBehind) "word" = some none)
   (na_PlayFull_reason:PySem.W.findIn K (.ref C_PlayFull) "reason" = some none)
   (na_PlayFull_word:PySem.W.findIn K (.ref C_PlayFull) "word" = some none)
   (na_NothingBack_reason:PySem.W.findIn K (.ref C_NothingBack) "reason" = some none)
   (na_NothingBack_word:PySem.W.findIn K (.ref C_NothingBack) "word" = some none)
   (xw1:PySem.W.specialIn K (.builtin "object.__class__") "__get__" = some (some (.builtin "getset_descriptor.__get__")))
   (xw2:PySem.W.takesIn K (.builtin "object.__class__")=some true)
   (cx_BeamError:PySem.W.clsIn K C_BeamError=some cdx_BeamError) (ty_BeamError:PySem.W.typeIn K (.ref C_BeamError)=some (.type "type"))
   (cx_NoWeight:PySem.W.clsIn K C_NoWeight=some cdx_NoWeight) (ty_NoWeight:PySem.W.typeIn K (.ref C_NoWeight)=some (.type "type"))
   (cx_NoPlace:PySem.W.clsIn K C_NoPlace=some cdx_NoPlace) (ty_NoPlace:PySem.W.typeIn K (.ref C_NoPlace)=some (.type "type"))
   (cx_SamePlace:PySem.W.clsIn K C_SamePlace=some cdx_SamePlace) (ty_SamePlace:PySem.W.typeIn K (.ref C_SamePlace)=some (.type "type"))
   (cx_NoRoom:PySem.W.clsIn K C_NoRoom=some cdx_NoRoom) (ty_NoRoom:PySem.W.typeIn K (.ref C_NoRoom)=some (.type "type"))
   (cx_TipsInHand:PySem.W.clsIn K C_TipsInHand=some cdx_TipsInHand) (ty_TipsInHand:PySem.W.typeIn K (.ref C_TipsInHand)=some (.type "type"))
   (cx_TipsBehind:PySem.W.clsIn K C_TipsBehind=some cdx_TipsBehind) (ty_TipsBehind:PySem.W.typeIn K (.ref C_TipsBehind)=some (.type "type"))
   (cx_NothingBack:PySem.W.clsIn K C_NothingBack=some cdx_NothingBack) (ty_NothingBack:PySem.W.typeIn K (.ref C_NothingBack)=some (.type "type"))
   (cx_PlayFull:PySem.W.clsIn K C_PlayFull=some cdx_PlayFull) (ty_PlayFull:PySem.W.typeIn K (.ref C_PlayFull)=some (.type "type"))
   (be_BeamError:PySem.W.subIn K (.ref C_BeamError) (.type "BaseException")=some true)
   (xp_NoWeight:PySem.W.findIn K (.ref C_NoWeight) "__getattribute__" = some (some (.builtin "BaseException.__getattribute__"))) (xq_NoWeight:PySem.W.findIn K (.ref C_NoWeight) "__getattr__" = some none) (xr_NoWeight:PySem.W.mroIn K C_NoWeight (.type "BaseException")=some true) (xh_NoWeight:PySem.W.hasDictIn K C_NoWeight=true) (xk_NoWeight:PySem.W.findIn K (.ref C_NoWeight) "__class__" = some (some (.builtin "object.__class__"))) (xo_NoWeight:PySem.W.mroIn K C_NoWeight (.type "object")=some true)
   (sb_NoWeight_BeamError:PySem.W.subIn K (.ref C_NoWeight) (.ref C_BeamError)=some true)
   (ne_NoWeight_NoPlace:(Value.ref C_NoWeight == Value.ref C_NoPlace)=false) (si_NoWeight_NoPlace:PySem.W.subIn K (.ref C_NoWeight) (.ref C_NoPlace)=some false)
   (ne_NoWeight_SamePlace:(Value.ref C_NoWeight == Value.ref C_SamePlace)=false) (si_NoWeight_SamePlace:PySem.W.subIn K (.ref C_NoWeight) (.ref C_SamePlace)=some false)
   (ne_NoWeight_NoRoom:(Value.ref C_NoWeight == Value.ref C_NoRoom)=false) (si_NoWeight_NoRoom:PySem.W.subIn K (.ref C_NoWeight) (.ref C_NoRoom)=some false)
   (ne_NoWeight_TipsInHand:(Value.ref C_NoWeight == Value.ref C_TipsInHand)=false) (si_NoWeight_TipsInHand:PySem.W.subIn K (.ref C_NoWeight) (.ref C_TipsInHand)=some false)
   (ne_NoWeight_TipsBehind:(Value.ref C_NoWeight == Value.ref C_TipsBehind)=false) (si_NoWeight_TipsBehind:PySem.W.subIn K (.ref C_NoWeight) (.ref C_TipsBehind)=some false)
   (ne_NoWeight_NothingBack:(Value.ref C_NoWeight == Value.ref C_NothingBack)=false) (si_NoWeight_NothingBack:PySem.W.subIn K (.ref C_NoWeight) (.ref C_NothingBack)=some false)
   (ne_NoWeight_PlayFull:(Value.ref C_NoWeight == Value.ref C_PlayFull)=false) (si_NoWeight_PlayFull:PySem.W.subIn K (.ref C_NoWeight) (.ref C_PlayFull)=some false)
   (st_NoWeight_ValueError:PySem.W.subIn K (.ref C_NoWeight) (.type "ValueError")=some true)
   (xp_NoPlace:PySem.W.findIn K (.ref C_NoPlace) "__getattribute__" = some (some (.builtin "BaseException.__getattribute__"))) (xq_NoPlace:PySem.W.findIn K (.ref C_NoPlace) "__getattr__" = some none) (xr_NoPlace:PySem.W.mroIn K C_NoPlace (.type "BaseException")=some true) (xh_NoPlace:PySem.W.hasDictIn K C_NoPlace=true) (xk_NoPlace:PySem.W.findIn K (.ref C_NoPlace) "__class__" = some (some (.builtin "object.__class__"))) (xo_NoPlace:PySem.W.mroIn K C_NoPlace (.type "object")=some true)
   (sb_NoPlace_BeamError:PySem.W.subIn K (.ref C_NoPlace) (.ref C_BeamError)=some true)
   (ne_NoPlace_NoWeight:(Value.ref C_NoPlace == Value.ref C_NoWeight)=false) (si_NoPlace_NoWeight:PySem.W.subIn K (.ref C_NoPlace) (.ref C_NoWeight)=some false)
   (ne_NoPlace_SamePlace:(Value.ref C_NoPlace == Value.ref C_SamePlace)=false) (si_NoPlace_SamePlace:PySem.W.subIn K (.ref C_NoPlace) (.ref C_SamePlace)=some false)
   (ne_NoPlace_NoRoom:(Value.ref C_NoPlace == Value.ref C_NoRoom)=false) (si_NoPlace_NoRoom:PySem.W.subIn K (.ref C_NoPlace) (.ref C_NoRoom)=some false)
   (ne_NoPlace_TipsInHand:(Value.ref C_NoPlace == Value.ref C_TipsInHand)=false) (si_NoPlace_TipsInHand:PySem.W.subIn K (.ref C_NoPlace) (.ref C_TipsInHand)=some false)
   (ne_NoPlace_TipsBehind:(Value.ref C_NoPlace == Value.ref C_TipsBehind)=false) (si_NoPlace_TipsBehind:PySem.W.subIn K (.ref C_NoPlace) (.ref C_TipsBehind)=some false)
   (ne_NoPlace_NothingBack:(Value.ref C_NoPlace == Value.ref C_NothingBack)=false) (si_NoPlace_NothingBack:PySem.W.subIn K (.ref C_NoPlace) (.ref C_NothingBack)=some false)
   (ne_NoPlace_PlayFull:(Value.ref C_NoPlace == Value.ref C_PlayFull)=false) (si_NoPlace_PlayFull:PySem.W.subIn K (.ref C_NoPlace) (.ref C_PlayFull)=some false)
   (st_NoPlace_ValueError:PySem.W.subIn K (.ref C_NoPlace) (.type "ValueError")=some true)
   (xp_SamePlace:PySem.W.findIn K (.ref C_SamePlace) "__getattribute__" = some (some (.builtin "BaseException.__getattribute__"))) (xq_SamePlace:PySem.W.findIn K (.ref C_SamePlace) "__getattr__" = some none) (xr_SamePlace:PySem.W.mroIn K C_SamePlace (.type "BaseException")=some true) (xh_SamePlace:PySem.W.hasDictIn K C_SamePlace=true) (xk_SamePlace:PySem.W.findIn K (.ref C_SamePlace) "__class__" = some (some (.builtin "object.__class__"))) (xo_SamePlace:PySem.W.mroIn K C_SamePlace (.type "object")=some true)
   (sb_SamePlace_BeamError:PySem.W.subIn K (.ref C_SamePlace) (.ref C_BeamError)=some true)
   (ne_SamePlace_NoWeight:(Value.ref C_SamePlace == Value.ref C_NoWeight)=false) (si_SamePlace_NoWeight:PySem.W.subIn K (.ref C_SamePlace) (.ref C_NoWeight)=some false)
   (ne_SamePlace_NoPlace:(Value.ref C_SamePlace == Value.ref C_NoPlace)=false) (si_SamePlace_NoPlace:PySem.W.subIn K (.ref C_SamePlace) (.ref C_NoPlace)=some false)
   (ne_SamePlace_NoRoom:(Value.ref C_SamePlace == Value.ref C_NoRoom)=false) (si_SamePlace_NoRoom:PySem.W.subIn K (.ref C_SamePlace) (.ref C_NoRoom)=some false)
   (ne_SamePlace_TipsInHand:(Value.ref C_SamePlace == Value.ref C_TipsInHand)=false) (si_SamePlace_TipsInHand:PySem.W.subIn K (.ref C_SamePlace) (.ref C_TipsInHand)=some false)
   (ne_SamePlace_TipsBehind:(Value.ref C_SamePlace == Value.ref C_TipsBehind)=false) (si_SamePlace_TipsBehind:PySem.W.subIn K (.ref C_SamePlace) (.ref C_TipsBehind)=some false)
   (ne_SamePlace_NothingBack:(Value.ref C_SamePlace == Value.ref C_NothingBack)=false) (si_SamePlace_NothingBack:PySem.W.subIn K (.ref C_SamePlace) (.ref C_NothingBack)=some false)
   (ne_SamePlace_PlayFull:(Value.ref C_SamePlace == Value.ref C_PlayFull)=false) (si_SamePlace_PlayFull:PySem.W.subIn K (.ref C_SamePlace) (.ref C_PlayFull)=some false)
   (st_SamePlace_ValueError:PySem.W.subIn K (.ref C_SamePlace) (.type "ValueError")=some true)
   (xp_NoRoom:PySem.W.findIn K (.ref C_NoRoom) "__getattribute__" = some (some (.builtin "BaseException.__getattribute__"))) (xq_NoRoom:PySem.W.findIn K (.ref C_NoRoom) "__getattr__" = some none) (xr_NoRoom:PySem.W.mroIn K C_NoRoom (.type "BaseException")=some true) (xh_NoRoom:PySem.W.hasDictIn K C_NoRoom=true) (xk_NoRoom:PySem.W.findIn K (.ref C_NoRoom) "__class__" = some (some (.builtin "object.__class__"))) (xo_NoRoom:PySem.W.mroIn K C_NoRoom (.type "object")=some true)
   (sb_NoRoom_BeamError:PySem.W.subIn K (.ref C_NoRoom) (.ref C_BeamError)=some true)
   (ne_NoRoom_NoWeight:(Value.ref C_NoRoom == Value.ref C_NoWeight)=false) (si_NoRoom_NoWeight:PySem.W.subIn K (.ref C_NoRoom) (.ref C_NoWeight)=some false)
   (ne_NoRoom_NoPlace:(Value.ref C_NoRoom == Value.ref C_NoPlace)=false) (si_NoRoom_NoPlace:PySem.W.subIn K (.ref C_NoRoom) (.ref C_NoPlace)=some false)
   (ne_NoRoom_SamePlace:(Value.ref C_NoRoom == Value.ref C_SamePlace)=false) (si_NoRoom_SamePlace:PySem.W.subIn K (.ref C_NoRoom) (.ref C_SamePlace)=some false)
   (ne_NoRoom_TipsInHand:(Value.ref C_NoRoom == Value.ref C_TipsInHand)=false) (si_NoRoom_TipsInHand:PySem.W.subIn K (.ref C_NoRoom) (.ref C_TipsInHand)=some false)
   (ne_NoRoom_TipsBehind:(Value.ref C_NoRoom == Value.ref C_TipsBehind)=false) (si_NoRoom_TipsBehind:PySem.W.subIn K (.ref C_NoRoom) (.ref C_TipsBehind)=some false)
   (ne_NoRoom_NothingBack:(Value.ref C_NoRoom == Value.ref C_NothingBack)=false) (si_NoRoom_NothingBack:PySem.W.subIn K (.ref C_NoRoom) (.ref C_NothingBack)=some false)
   (ne_NoRoom_PlayFull:(Value.ref C_NoRoom == Value.ref C_PlayFull)=false) (si_NoRoom_PlayFull:PySem.W.subIn K (.ref C_NoRoom) (.ref C_PlayFull)=some false)
   (st_NoRoom_ValueError:PySem.W.subIn K (.ref C_NoRoom) (.type "ValueError")=some true)
   (xp_TipsInHand:PySem.W.findIn K (.ref C_TipsInHand) "__getattribute__" = some (some (.builtin "BaseException.__getattribute__"))) (xq_TipsInHand:PySem.W.findIn K (.ref C_TipsInHand) "__getattr__" = some none) (xr_TipsInHand:PySem.W.mroIn K C_TipsInHand (.type "BaseException")=some true) (xh_TipsInHand:PySem.W.hasDictIn K C_TipsInHand=true) (xk_TipsInHand:PySem.W.findIn K (.ref C_TipsInHand) "__class__" = some (some (.builtin "object.__class__"))) (xo_TipsInHand:PySem.W.mroIn K C_TipsInHand (.type "object")=some true)
   (sb_TipsInHand_BeamError:PySem.W.subIn K (.ref C_TipsInHand) (.ref C_BeamError)=some true)
   (ne_TipsInHand_NoWeight:(Value.ref C_TipsInHand == Value.ref C_NoWeight)=false) (si_TipsInHand_NoWeight:PySem.W.subIn K (.ref C_TipsInHand) (.ref C_NoWeight)=some false)
   (ne_TipsInHand_NoPlace:(Value.ref C_TipsInHand == Value.ref C_NoPlace)=false) (si_TipsInHand_NoPlace:PySem.W.subIn K (.ref C_TipsInHand) (.ref C_NoPlace)=some false)
   (ne_TipsInHand_SamePlace:(Value.ref C_TipsInHand == Value.ref C_SamePlace)=false) (si_TipsInHand_SamePlace:PySem.W.subIn K (.ref C_TipsInHand) (.ref C_SamePlace)=some false)
   (ne_TipsInHand_NoRoom:(Value.ref C_TipsInHand == Value.ref C_NoRoom)=false) (si_TipsInHand_NoRoom:PySem.W.subIn K (.ref C_TipsInHand) (.ref C_NoRoom)=some false)
   (ne_TipsInHand_TipsBehind:(Value.ref C_TipsInHand == Value.ref C_TipsBehind)=false) (si_TipsInHand_TipsBehind:PySem.W.subIn K (.ref C_TipsInHand) (.ref C_TipsBehind)=some false)
   (ne_TipsInHand_NothingBack:(Value.ref C_TipsInHand == Value.ref C_NothingBack)=false) (si_TipsInHand_NothingBack:PySem.W.subIn K (.ref C_TipsInHand) (.ref C_NothingBack)=some false)
   (ne_TipsInHand_PlayFull:(Value.ref C_TipsInHand == Value.ref C_PlayFull)=false) (si_TipsInHand_PlayFull:PySem.W.subIn K (.ref C_TipsInHand) (.ref C_PlayFull)=some false)
   (st_TipsInHand_ValueError:PySem.W.subIn K (.ref C_TipsInHand) (.type "ValueError")=some true)
   (xp_TipsBehind:PySem.W.findIn K (.ref C_TipsBehind) "__getattribute__" = some (some (.builtin "BaseException.__getattribute__"))) (xq_TipsBehind:PySem.W.findIn K (.ref C_TipsBehind) "__getattr__" = some none) (xr_TipsBehind:PySem.W.mroIn K C_TipsBehind (.type "BaseException")=some true) (xh_TipsBehind:PySem.W.hasDictIn K C_TipsBehind=true) (xk_TipsBehind:PySem.W.findIn K (.ref C_TipsBehind) "__class__" = some (some (.builtin "object.__class__"))) (xo_TipsBehind:PySem.W.mroIn K C_TipsBehind (.type "object")=some true)
   (sb_TipsBehind_BeamError:PySem.W.subIn K (.ref C_TipsBehind) (.ref C_BeamError)=some true)
   (ne_TipsBehind_NoWeight:(Value.ref C_TipsBehind == Value.ref C_NoWeight)=false) (si_TipsBehind_NoWeight:PySem.W.subIn K (.ref C_TipsBehind) (.ref C_NoWeight)=some false)
   (ne_TipsBehind_NoPlace:(Value.ref C_TipsBehind == Value.ref C_NoPlace)=false) (si_TipsBehind_NoPlace:PySem.W.subIn K (.ref C_TipsBehind) (.ref C_NoPlace)=some false)
   (ne_TipsBehind_SamePlace:(Value.ref C_TipsBehind == Value.ref C_SamePlace)=false) (si_TipsBehind_SamePlace:PySem.W.subIn K (.ref C_TipsBehind) (.ref C_SamePlace)=some false)
   (ne_TipsBehind_NoRoom:(Value.ref C_TipsBehind == Value.ref C_NoRoom)=false) (si_TipsBehind_NoRoom:PySem.W.subIn K (.ref C_TipsBehind) (.ref C_NoRoom)=some false)
   (ne_TipsBehind_TipsInHand:(Value.ref C_TipsBehind == Value.ref C_TipsInHand)=false) (si_TipsBehind_TipsInHand:PySem.W.subIn K (.ref C_TipsBehind) (.ref C_TipsInHand)=some false)
   (ne_TipsBehind_NothingBack:(Value.ref C_TipsBehind == Value.ref C_NothingBack)=false) (si_TipsBehind_NothingBack:PySem.W.subIn K (.ref C_TipsBehind) (.ref C_NothingBack)=some false)
   (ne_TipsBehind_PlayFull:(Value.ref C_TipsBehind == Value.ref C_PlayFull)=false) (si_TipsBehind_PlayFull:PySem.W.subIn K (.ref C_TipsBehind) (.ref C_PlayFull)=some false)
   (st_TipsBehind_ValueError:PySem.W.subIn K (.ref C_TipsBehind) (.type "ValueError")=some true)
   (xp_PlayFull:PySem.W.findIn K (.ref C_PlayFull) "__getattribute__" = some (some (.builtin "BaseException.__getattribute__"))) (xq_PlayFull:PySem.W.findIn K (.ref C_PlayFull) "__getattr__" = some none) (xr_PlayFull:PySem.W.mroIn K C_PlayFull (.type "BaseException")=some true) (xh_PlayFull:PySem.W.hasDictIn K C_PlayFull=true) (xk_PlayFull:PySem.W.findIn K (.ref C_PlayFull) "__class__" = some (some (.builtin "object.__class__"))) (xo_PlayFull:PySem.W.mroIn K C_PlayFull (.type "object")=some true)
   (sb_PlayFull_BeamError:PySem.W.subIn K (.ref C_PlayFull) (.ref C_BeamError)=some true)
   (ne_PlayFull_NoWeight:(Value.ref C_PlayFull == Value.ref C_NoWeight)=false) (si_PlayFull_NoWeight:PySem.W.subIn K (.ref C_PlayFull) (.ref C_NoWeight)=some false)
   (ne_PlayFull_NoPlace:(Value.ref C_PlayFull == Value.ref C_NoPlace)=false) (si_PlayFull_NoPlace:PySem.W.subIn K (.ref C_PlayFull) (.ref C_NoPlace)=some false)
   (ne_PlayFull_SamePlace:(Value.ref C_PlayFull == Value.ref C_SamePlace)=false) (si_PlayFull_SamePlace:PySem.W.subIn K (.ref C_PlayFull) (.ref C_SamePlace)=some false)
   (ne_PlayFull_NoRoom:(Value.ref C_PlayFull == Value.ref C_NoRoom)=false) (si_PlayFull_NoRoom:PySem.W.subIn K (.ref C_PlayFull) (.ref C_NoRoom)=some false)
   (ne_PlayFull_TipsInHand:(Value.ref C_PlayFull == Value.ref C_TipsInHand)=false) (si_PlayFull_TipsInHand:PySem.W.subIn K (.ref C_PlayFull) (.ref C_TipsInHand)=some false)
   (ne_PlayFull_TipsBehind:(Value.ref C_PlayFull == Value.ref C_TipsBehind)=false) (si_PlayFull_TipsBehind:PySem.W.subIn K (.ref C_PlayFull) (.ref C_TipsBehind)=some false)
   (ne_PlayFull_NothingBack:(Value.ref C_PlayFull == Value.ref C_NothingBack)=false) (si_PlayFull_NothingBack:PySem.W.subIn K (.ref C_PlayFull) (.ref C_NothingBack)=some false)
   (st_PlayFull_ValueError:PySem.W.subIn K (.ref C_PlayFull) (.type "ValueError")=some true)
   (xp_NothingBack:PySem.W.findIn K (.ref C_NothingBack) "__getattribute__" = some (some (.builtin "BaseException.__getattribute__"))) (xq_NothingBack:PySem.W.findIn K (.ref C_NothingBack) "__getattr__" = some none) (xr_NothingBack:PySem.W.mroIn K C_NothingBack (.type "BaseException")=some true) (xh_NothingBack:PySem.W.hasDictIn K C_NothingBack=true) (xk_NothingBack:PySem.W.findIn K (.ref C_NothingBack) "__class__" = some (some (.builtin "object.__class__"))) (xo_NothingBack:PySem.W.mroIn K C_NothingBack (.type "object")=some true)
   (sb_NothingBack_BeamError:PySem.W.subIn K (.ref C_NothingBack) (.ref C_BeamError)=some true)
   (ne_NothingBack_NoWeight:(Value.ref C_NothingBack == Value.ref C_NoWeight)=false) (si_NothingBack_NoWeight:PySem.W.subIn K (.ref C_NothingBack) (.ref C_NoWeight)=some false)
   (ne_NothingBack_NoPlace:(Value.ref C_NothingBack == Value.ref C_NoPlace)=false) (si_NothingBack_NoPlace:PySem.W.subIn K (.ref C_NothingBack) (.ref C_NoPlace)=some false)
   (ne_NothingBack_SamePlace:(Value.ref C_NothingBack == Value.ref C_SamePlace)=false) (si_NothingBack_SamePlace:PySem.W.subIn K (.ref C_NothingBack) (.ref C_SamePlace)=some false)
   (ne_NothingBack_NoRoom:(Value.ref C_NothingBack == Value.ref C_NoRoom)=false) (si_NothingBack_NoRoom:PySem.W.subIn K (.ref C_NothingBack) (.ref C_NoRoom)=some false)
   (ne_NothingBack_TipsInHand:(Value.ref C_NothingBack == Value.ref C_TipsInHand)=false) (si_NothingBack_TipsInHand:PySem.W.subIn K (.ref C_NothingBack) (.ref C_TipsInHand)=some false)
   (ne_NothingBack_TipsBehind:(Value.ref C_NothingBack == Value.ref C_TipsBehind)=false) (si_NothingBack_TipsBehind:PySem.W.subIn K (.ref C_NothingBack) (.ref C_TipsBehind)=some false)
   (ne_NothingBack_PlayFull:(Value.ref C_NothingBack == Value.ref C_PlayFull)=false) (si_NothingBack_PlayFull:PySem.W.subIn K (.ref C_NothingBack) (.ref C_PlayFull)=some false)
   (st_NothingBack_ValueError:PySem.W.subIn K (.ref C_NothingBack) (.type "ValueError")=some true)
   (ga_BeamError:PySem.W.specialIn K (.ref C_BeamError) "__getattribute__" = some (some (.builtin "type.__getattribute__"))) (rd_BeamError:PySem.W.readsIn K C_BeamError (.type "type")=true) (fd_BeamError:PySem.W.findCls K (.ref C_BeamError) (.type "type") "__init__" = some (.val (.ref f_BeamError_init)))
   (n_tuple:PySem.W.nsIn K mainGlobals "tuple" = some none)
   (n_len:PySem.W.nsIn K mainGlobals "len" = some none)
   (n_range:PySem.W.nsIn K mainGlobals "range" = some none)
   (n_sum:PySem.W.nsIn K mainGlobals "sum" = some none)
   (n_zip:PySem.W.nsIn K mainGlobals "zip" = some none)
   (n_abs:PySem.W.nsIn K mainGlobals "abs" = some none)
   (n_list:PySem.W.nsIn K mainGlobals "list" = some none)
   (n_isinstance:PySem.W.nsIn K mainGlobals "isinstance" = some none)
   (n_int:PySem.W.nsIn K mainGlobals "int" = some none)
   (n_bool:PySem.W.nsIn K mainGlobals "bool" = some none)
   (n_min:PySem.W.nsIn K mainGlobals "min" = some none)
   (n_max:PySem.W.nsIn K mainGlobals "max" = some none)
   (n_ValueError:PySem.W.nsIn K mainGlobals "ValueError" = some none)
   (g_MOST_NOTCHES:PySem.W.nsIn K mainGlobals "MOST_NOTCHES" = some (some (.int 4 q_MOST_NOTCHES)))
   (g_MOST_ROOM:PySem.W.nsIn K mainGlobals "MOST_ROOM" = some (some (.int 3 q_MOST_ROOM)))
   (g_MOST_LIMIT:PySem.W.nsIn K mainGlobals "MOST_LIMIT" = some (some (.int 400 q_MOST_LIMIT)))
   (g_MOST_WEIGHTS:PySem.W.nsIn K mainGlobals "MOST_WEIGHTS" = some (some (.int 5 q_MOST_WEIGHTS)))
   (g_MOST_HEFT:PySem.W.nsIn K mainGlobals "MOST_HEFT" = some (some (.int 20 q_MOST_HEFT)))
   (g_MOST_STANDINGS:PySem.W.nsIn K mainGlobals "MOST_STANDINGS" = some (some (.int 1000 q_MOST_STANDINGS)))
   (g_MOST_MOVES:PySem.W.nsIn K mainGlobals "MOST_MOVES" = some (some (.int 300 q_MOST_MOVES))) :
   ∃ fd:FuncData,(∀ (s:Shared) (v:Value),BindsTo s fd ⟨[v],[]⟩ [("_law_script",v)])/\∀ base:Heap,K.In base->base.Ns mainGlobals mg->FnOk l.prog w K mg base CX0 10 fa fd ["_law_script"] (zN3 K):=by
 have e:=hfa.symm.trans (PySem.W.mg_of X G a_law)
 cases e
 have F_BeamError_init:=zo5 (st:=ze3) l_BeamError_init c_BeamError_init k_BeamError_init
 have b_BeamError_init:zc7 K _ ["self","reason","word"] []:=fun s us X hl=>by
   rw[List.append_nil] at hl ⊢
   match us,hl with
   | [_,_,_],_=>exact BindsTo.of_defaults (fd:=PySem.W.fnOf "__init__" "BeamError.__init__" (zb4 ze3) (zb1 ze3) (za5 ze3) (.ref T_BeamError_init) kV_BeamError_init dc_BeamError_init pm_BeamError_init an_BeamError_init cd_BeamError_init ct_BeamError_init) rfl (X _ _ dt_BeamError_init) rfl rfl rfl
 have F_NoWeight_init:=zo5 (st:=ze8) l_NoWeight_init c_NoWeight_init k_NoWeight_init
 have b_NoWeight_init:zc7 K _ ["self","reason"] []:=fun s us X hl=>by
   rw[List.append_nil] at hl ⊢
   match us,hl with
   | [_,_],_=>exact BindsTo.of_defaults (fd:=PySem.W.fnOf "__init__" "NoWeight.__init__" (zb4 ze8) (zb1 ze8) (za5 ze8) (.ref T_NoWeight_init) kV_NoWeight_init dc_NoWeight_init pm_NoWeight_init an_NoWeight_init cd_NoWeight_init ct_NoWeight_init) rfl (X _ _ dt_NoWeight_init) rfl rfl rfl
 have F_NoPlace_init:=zo5 (st:=zf2) l_NoPlace_init c_NoPlace_init k_NoPlace_init
 have b_NoPlace_init:zc7 K _ ["self","reason"] []:=fun s us X hl=>by
   rw[List.append_nil] at hl ⊢
   match us,hl with
   | [_,_],_=>exact BindsTo.of_defaults (fd:=PySem.W.fnOf "__init__" "NoPlace.__init__" (zb4 zf2) (zb1 zf2) (za5 zf2) (.ref T_NoPlace_init) kV_NoPlace_init dc_NoPlace_init pm_NoPlace_init an_NoPlace_init cd_NoPlace_init ct_NoPlace_init) rfl (X _ _ dt_NoPlace_init) rfl rfl rfl
 have F_SamePlace_init:=zo5 (st:=ze4) l_SamePlace_init c_SamePlace_init k_SamePlace_init
 have b_SamePlace_init:zc7 K _ ["self","reason"] []:=fun s us X hl=>by
   rw[List.append_nil] at hl ⊢
   match us,hl with
   | [_,_],_=>exact BindsTo.of_defaults (fd:=PySem.W.fnOf "__init__" "SamePlace.__init__" (zb4 ze4) (zb1 ze4) (za5 ze4) (.ref T_SamePlace_init) kV_SamePlace_init dc_SamePlace_init pm_SamePlace_init an_SamePlace_init cd_SamePlace_init ct_SamePlace_init) rfl (X _ _ dt_SamePlace_init) rfl rfl rfl
 have F_NoRoom_init:=zo5 (st:=zf5) l_NoRoom_init c_NoRoom_init k_NoRoom_init
 have b_NoRoom_init:zc7 K _ ["self","reason"] []:=fun s us X hl=>by
   rw[List.append_nil] at hl ⊢
   match us,hl with
   | [_,_],_=>exact BindsTo.of_defaults (fd:=PySem.W.fnOf "__init__" "NoRoom.__init__" (zb4 zf5) (zb1 zf5) (za5 zf5) (.ref T_NoRoom_init) kV_NoRoom_init dc_NoRoom_init pm_NoRoom_init an_NoRoom_init cd_NoRoom_init ct_NoRoom_init) rfl (X _ _ dt_NoRoom_init) rfl rfl rfl
 have F_TipsInHand_init:=zo5 (st:=zd7) l_TipsInHand_init c_TipsInHand_init k_TipsInHand_init
 have b_TipsInHand_init:zc7 K _ ["self","reason"] []:=fun s us X hl=>by
   rw[List.append_nil] at hl ⊢
   match us,hl with
   | [_,_],_=>exact BindsTo.of_defaults (fd:=PySem.W.fnOf "__init__" "TipsInHand.__init__" (zb4 zd7) (zb1 zd7) (za5 zd7) (.ref T_TipsInHand_init) kV_TipsInHand_init dc_TipsInHand_init pm_TipsInHand_init an_TipsInHand_init cd_TipsInHand_init ct_TipsInHand_init) rfl (X _ _ dt_TipsInHand_init) rfl rfl rfl
 have F_TipsBehind_init:=zo5 (st:=zd8) l_TipsBehind_init c_TipsBehind_init k_TipsBehind_init
 have b_TipsBehind_init:zc7 K _ ["self","reason"] []:=fun s us X hl=>by
   rw[List.append_nil] at hl ⊢
   match us,hl with
   | [_,_],_=>exact BindsTo.of_defaults (fd:=PySem.W.fnOf "__init__" "TipsBehind.__init__" (zb4 zd8) (zb1 zd8) (za5 zd8) (.ref T_TipsBehind_init) kV_TipsBehind_init dc_TipsBehind_init pm_TipsBehind_init an_TipsBehind_init cd_TipsBehind_init ct_TipsBehind_init) rfl (X _ _ dt_TipsBehind_init) rfl rfl rfl
 have F_PlayFull_init:=zo5 (st:=ze9) l_PlayFull_init c_PlayFull_init k_PlayFull_init
 have b_PlayFull_init:zc7 K _ ["self","reason"] []:=fun s us X hl=>by
   rw[List.append_nil] at hl ⊢
   match us,hl with
   | [_,_],_=>exact BindsTo.of_defaults (fd:=PySem.W.fnOf "__init__" "PlayFull.__init__" (zb4 ze9) (zb1 ze9) (za5 ze9) (.ref T_PlayFull_init) kV_PlayFull_init dc_PlayFull_init pm_PlayFull_init an_PlayFull_init cd_PlayFull_init ct_PlayFull_init) rfl (X _ _ dt_PlayFull_init) rfl rfl rfl
 have F_NothingBack_init:=zo5 (st:=zd6) l_NothingBack_init c_NothingBack_init k_NothingBack_init
 have b_NothingBack_init:zc7 K _ ["self","reason"] []:=fun s us X hl=>by
   rw[List.append_nil] at hl ⊢
   match us,hl with
   | [_,_],_=>exact BindsTo.of_defaults (fd:=PySem.W.fnOf "__init__" "NothingBack.__init__" (zb4 zd6) (zb1 zd6) (za5 zd6) (.ref T_NothingBack_init) kV_NothingBack_init dc_NothingBack_init pm_NothingBack_init an_NothingBack_init cd_NothingBack_init ct_NothingBack_init) rfl (X _ _ dt_NothingBack_init) rfl rfl rfl
 have F_Beam_init:=zd3 (st:=zl0) l_Beam_init c_Beam_init k_Beam_init
 have b_Beam_init:=F_Beam_init.binds (ps:=["self","notches","room","hefts","limit"]) fun _ _ _ _ _ _ us hl=>by obtain ⟨x0,x1,x2,x3,x4,rfl⟩:=ar5 hl;rfl
 have F_outside:=zd3 (st:=zo8) l_outside c_outside k_outside
 have b_outside:=F_outside.binds (ps:=["number","low","high"]) fun _ _ _ _ _ _ us hl=>by obtain ⟨x0,x1,x2,rfl⟩:=ar3 hl;rfl
 have F_check_bounds:=zd3 (st:=zg9) l_check_bounds c_check_bounds k_check_bounds
 have b_check_bounds:=F_check_bounds.binds (ps:=["notches","room","limit"]) fun _ _ _ _ _ _ us hl=>by obtain ⟨x0,x1,x2,rfl⟩:=ar3 hl;rfl
 have F_check_hefts:=zd3 (st:=zi2) l_check_hefts c_check_hefts k_check_hefts
 have b_check_hefts:=F_check_hefts.binds (ps:=["hefts"]) fun _ _ _ _ _ _ us hl=>by obtain ⟨x0,rfl⟩:=ar1 hl;rfl
 have F_check_standings:=zd3 (st:=zf9) l_check_standings c_check_standings k_check_standings
 have b_check_standings:=F_check_standings.binds (ps:=["notches","weights"]) fun _ _ _ _ _ _ us hl=>by obtain ⟨x0,x1,rfl⟩:=ar2 hl;rfl
 have F_as_standing:=zd3 (st:=zi3) l_as_standing c_as_standing k_as_standing
 have b_as_standing:=F_as_standing.binds (ps:=["beam","standing"]) fun _ _ _ _ _ _ us hl=>by obtain ⟨x0,x1,rfl⟩:=ar2 hl;rfl
 have F_tilt:=zd3 (st:=zw3) l_tilt c_tilt k_tilt
 have b_tilt:=F_tilt.binds (ps:=["beam","standing"]) fun _ _ _ _ _ _ us hl=>by obtain ⟨x0,x1,rfl⟩:=ar2 hl;rfl
 have F_past:=zd3 (st:=zC5) l_past c_past k_past
 have b_past:=F_past.binds (ps:=["beam","tipped"]) fun _ _ _ _ _ _ us hl=>by obtain ⟨x0,x1,rfl⟩:=ar2 hl;rfl
 have F_keeps:=zd3 (st:=zx7) l_keeps c_keeps k_keeps
 have b_keeps:=F_keeps.binds (ps:=["beam","standing"]) fun _ _ _ _ _ _ us hl=>by obtain ⟨x0,x1,rfl⟩:=ar2 hl;rfl
 have F_in_hand:=zd3 (st:=zo9) l_in_hand c_in_hand k_in_hand
 have b_in_hand:=F_in_hand.binds (ps:=["beam","standing","weight"]) fun _ _ _ _ _ _ us hl=>by obtain ⟨x0,x1,x2,rfl⟩:=ar3 hl;rfl
 have F_moved:=zd3 (st:=zx8) l_moved c_moved k_moved
 have b_moved:=F_moved.binds (ps:=["beam","standing","move"]) fun _ _ _ _ _ _ us hl=>by obtain ⟨x0,x1,x2,rfl⟩:=ar3 hl;rfl
 have F_turned:=zd3 (st:=zt2) l_turned c_turned k_turned
 have b_turned:=F_turned.binds (ps:=["move"]) fun _ _ _ _ _ _ us hl=>by obtain ⟨x0,rfl⟩:=ar1 hl;rfl
 have F_behind:=zd3 (st:=zt3) l_behind c_behind k_behind
 have b_behind:=F_behind.binds (ps:=["places","move"]) fun _ _ _ _ _ _ us hl=>by obtain ⟨x0,x1,rfl⟩:=ar2 hl;rfl
 have F_full:=zd3 (st:=zC6) l_full c_full k_full
 have b_full:=F_full.binds (ps:=["beam","places","place"]) fun _ _ _ _ _ _ us hl=>by obtain ⟨x0,x1,x2,rfl⟩:=ar3 hl;rfl
 have F_check_move:=zd3 (st:=zj8) l_check_move c_check_move k_check_move
 have b_check_move:=F_check_move.binds (ps:=["beam","places","weight","taken","put"]) fun _ _ _ _ _ _ us hl=>by obtain ⟨x0,x1,x2,x3,x4,rfl⟩:=ar5 hl;rfl
 have F_check_weight:=zd3 (st:=zh0) l_check_weight c_check_weight k_check_weight
 have b_check_weight:=F_check_weight.binds (ps:=["places","weight","taken"]) fun _ _ _ _ _ _ us hl=>by obtain ⟨x0,x1,x2,rfl⟩:=ar3 hl;rfl
 have F_check_put:=zd3 (st:=zl1) l_check_put c_check_put k_check_put
 have b_check_put:=F_check_put.binds (ps:=["beam","places","taken","put"]) fun _ _ _ _ _ _ us hl=>by obtain ⟨x0,x1,x2,x3,rfl⟩:=ar4 hl;rfl
 have F_check_tilts:=zd3 (st:=zi4) l_check_tilts c_check_tilts k_check_tilts
 have b_check_tilts:=F_check_tilts.binds (ps:=["beam","held","added"]) fun _ _ _ _ _ _ us hl=>by obtain ⟨x0,x1,x2,rfl⟩:=ar3 hl;rfl
 have F_Play_init:=zd3 (st:=zl2) l_Play_init c_Play_init k_Play_init
 have b_Play_init:=F_Play_init.binds (ps:=["self","beam","start"]) fun _ _ _ _ _ _ us hl=>by obtain ⟨x0,x1,x2,rfl⟩:=ar3 hl;rfl
 have F_Play_move:=zd3 (st:=zl3) l_Play_move c_Play_move k_Play_move
 have b_Play_move:=F_Play_move.binds (ps:=["self","move"]) fun _ _ _ _ _ _ us hl=>by obtain ⟨x0,x1,rfl⟩:=ar2 hl;rfl
 have F_Play_back:=zd3 (st:=zl4) l_Play_back c_Play_back k_Play_back
 have b_Play_back:=F_Play_back.binds (ps:=["self"]) fun _ _ _ _ _ _ us hl=>by obtain ⟨x0,rfl⟩:=ar1 hl;rfl
 have F_Play_trail:=zd3 (st:=zj9) l_Play_trail c_Play_trail k_Play_trail
 have b_Play_trail:=F_Play_trail.binds (ps:=["self"]) fun _ _ _ _ _ _ us hl=>by obtain ⟨x0,rfl⟩:=ar1 hl;rfl
 have F_w_at:=zd3 (st:=zC7) l_w_at c_w_at k_w_at
 have b_w_at:=F_w_at.binds (ps:=["_law_script","_law_k"]) fun _ _ _ _ _ _ us hl=>by obtain ⟨x0,x1,rfl⟩:=ar2 hl;rfl
 have F_w_whole:=zd3 (st:=zp0) l_w_whole c_w_whole k_w_whole
 have b_w_whole:=F_w_whole.binds (ps:=["_law_found"]) fun _ _ _ _ _ _ us hl=>by obtain ⟨x0,rfl⟩:=ar1 hl;rfl
 have F_w_figs:=zd3 (st:=zt4) l_w_figs c_w_figs k_w_figs
 have b_w_figs:=F_w_figs.binds (ps:=["_law_cell","_law_count","_law_base","_law_mix"]) fun _ _ _ _ _ _ us hl=>by obtain ⟨x0,x1,x2,x3,rfl⟩:=ar4 hl;rfl
 have F_w_shape:=zd3 (st:=zl5) l_w_shape c_w_shape k_w_shape
 have b_w_shape:=F_w_shape.binds (ps:=["_law_script"]) fun _ _ _ _ _ _ us hl=>by obtain ⟨x0,rfl⟩:=ar1 hl;rfl
 have F_w_put:=zd3 (st:=zx9) l_w_put c_w_put k_w_put
 have b_w_put:=F_w_put.binds (ps:=["_law_script","_law_k","_law_more","_law_shape_here"]) fun _ _ _ _ _ _ us hl=>by obtain ⟨x0,x1,x2,x3,rfl⟩:=ar4 hl;rfl
 have F_w_tilt:=zd3 (st:=zt5) l_w_tilt c_w_tilt k_w_tilt
 have b_w_tilt:=F_w_tilt.binds (ps:=["_law_hefts","_law_spots"]) fun _ _ _ _ _ _ us hl=>by obtain ⟨x0,x1,rfl⟩:=ar2 hl;rfl
 have F_w_limit:=zd3 (st:=zp6) l_w_limit c_w_limit k_w_limit
 have b_w_limit:=F_w_limit.binds (ps:=["_law_script","_law_low"]) fun _ _ _ _ _ _ us hl=>by obtain ⟨x0,x1,rfl⟩:=ar2 hl;rfl
 have F_w_hard:=zd3 (st:=zt6) l_w_hard c_w_hard k_w_hard
 have b_w_hard:=F_w_hard.binds (ps:=["_law_cell"]) fun _ _ _ _ _ _ us hl=>by obtain ⟨x0,rfl⟩:=ar1 hl;rfl
 have F_w_case:=zd3 (st:=zt7) l_w_case c_w_case k_w_case
 have b_w_case:=F_w_case.binds (ps:=["_law_script"]) fun _ _ _ _ _ _ us hl=>by obtain ⟨x0,rfl⟩:=ar1 hl;rfl
 have F_w_word:=zd3 (st:=zt8) l_w_word c_w_word k_w_word
 have b_w_word:=F_w_word.binds (ps:=["_law_scale","_law_spots","_law_move"]) fun _ _ _ _ _ _ us hl=>by obtain ⟨x0,x1,x2,rfl⟩:=ar3 hl;rfl
 have F_w_near:=zd3 (st:=zn5) l_w_near c_w_near k_w_near
 have b_w_near:=F_w_near.binds (ps:=["_law_scale","_law_spots"]) fun _ _ _ _ _ _ us hl=>by obtain ⟨x0,x1,rfl⟩:=ar2 hl;rfl
 have F_w_same:=zd3 (st:=zt9) l_w_same c_w_same k_w_same
 have b_w_same:=F_w_same.binds (ps:=["_law_found","_law_due"]) fun _ _ _ _ _ _ us hl=>by obtain ⟨x0,x1,rfl⟩:=ar2 hl;rfl
 have F_w_same_rows:=zd3 (st:=zi5) l_w_same_rows c_w_same_rows k_w_same_rows
 have b_w_same_rows:=F_w_same_rows.binds (ps:=["_law_found","_law_due"]) fun _ _ _ _ _ _ us hl=>by obtain ⟨x0,x1,rfl⟩:=ar2 hl;rfl
 have F_w_beam:=zd3 (st:=zu0) l_w_beam c_w_beam k_w_beam
 have b_w_beam:=F_w_beam.binds (ps:=["_law_scale"]) fun _ _ _ _ _ _ us hl=>by obtain ⟨x0,rfl⟩:=ar1 hl;rfl
 have F_w_pick:=zd3 (st:=zn6) l_w_pick c_w_pick k_w_pick
 have b_w_pick:=F_w_pick.binds (ps:=["_law_scale","_law_spots","_law_cell"]) fun _ _ _ _ _ _ us hl=>by obtain ⟨x0,x1,x2,rfl⟩:=ar3 hl;rfl
 have F_w_any_move:=zd3 (st:=zk0) l_w_any_move c_w_any_move k_w_any_move
 have b_w_any_move:=F_w_any_move.binds (ps:=["_law_scale","_law_now","_law_cell"]) fun _ _ _ _ _ _ us hl=>by obtain ⟨x0,x1,x2,rfl⟩:=ar3 hl;rfl
 have F_w_done:=zd3 (st:=zn7) l_w_done c_w_done k_w_done
 have b_w_done:=F_w_done.binds (ps:=["_law_play","_law_move"]) fun _ _ _ _ _ _ us hl=>by obtain ⟨x0,x1,rfl⟩:=ar2 hl;rfl
 have F_w_chosen:=zd3 (st:=zm8) l_w_chosen c_w_chosen k_w_chosen
 have b_w_chosen:=F_w_chosen.binds (ps:=["_law_scale","_law_now","_law_tried","_law_cell"]) fun _ _ _ _ _ _ us hl=>by obtain ⟨x0,x1,x2,x3,rfl⟩:=ar4 hl;rfl
 have F_w_deed:=zd3 (st:=zu1) l_w_deed c_w_deed k_w_deed
 have b_w_deed:=F_w_deed.binds (ps:=["_law_play","_law_scale","_law_now","_law_made","_law_tried","_law_cell"]) fun _ _ _ _ _ _ us hl=>by obtain ⟨x0,x1,x2,x3,x4,x5,rfl⟩:=ar6 hl;rfl
 have F_law:=zd3 (st:=zI3) l_law c_law k_law
 have b_law:=F_law.binds (ps:=["_law_script"]) fun _ _ _ _ _ _ us hl=>by obtain ⟨x0,rfl⟩:=ar1 hl;rfl
 have T:Txt K mg { a_BeamError_init:=f_BeamError_init,d_BeamError_init:=_,a_NoWeight_init:=f_NoWeight_init,d_NoWeight_init:=_,a_NoPlace_init:=f_NoPlace_init,d_NoPlace_init:=_,a_SamePlace_init:=f_SamePlace_init,d_SamePlace_init:=_,a_NoRoom_init:=f_NoRoom_init,d_NoRoom_init:=_,a_TipsInHand_init:=f_TipsInHand_init,d_TipsInHand_init:=_,a_TipsBehind_init:=f_TipsBehind_init,d_TipsBehind_init:=_,a_PlayFull_init:=f_PlayFull_init,d_PlayFull_init:=_,a_NothingBack_init:=f_NothingBack_init,d_NothingBack_init:=_,a_Beam_init:=f_Beam_init,d_Beam_init:=_,a_outside:=f_outside,d_outside:=_,a_check_bounds:=f_check_bounds,d_check_bounds:=_,a_check_hefts:=f_check_hefts,d_check_hefts:=_,a_check_standings:=f_check_standings,d_check_standings:=_,a_as_standing:=f_as_standing,d_as_standing:=_,a_tilt:=f_tilt,d_tilt:=_,a_past:=f_past,d_past:=_,a_keeps:=f_keeps,d_keeps:=_,a_in_hand:=f_in_hand,d_in_hand:=_,a_moved:=f_moved,d_moved:=_,a_turned:=f_turned,d_turned:=_,a_behind:=f_behind,d_behind:=_,a_full:=f_full,d_full:=_,a_check_move:=f_check_move,d_check_move:=_,a_check_weight:=f_check_weight,d_check_weight:=_,a_check_put:=f_check_put,d_check_put:=_,a_check_tilts:=f_check_tilts,d_check_tilts:=_,a_Play_init:=f_Play_init,d_Play_init:=_,a_Play_move:=f_Play_move,d_Play_move:=_,a_Play_back:=f_Play_back,d_Play_back:=_,a_Play_trail:=f_Play_trail,d_Play_trail:=_,a_w_at:=f_w_at,d_w_at:=_,a_w_whole:=f_w_whole,d_w_whole:=_,a_w_figs:=f_w_figs,d_w_figs:=_,a_w_shape:=f_w_shape,d_w_shape:=_,a_w_put:=f_w_put,d_w_put:=_,a_w_tilt:=f_w_tilt,d_w_tilt:=_,a_w_limit:=f_w_limit,d_w_limit:=_,a_w_hard:=f_w_hard,d_w_hard:=_,a_w_case:=f_w_case,d_w_case:=_,a_w_word:=f_w_word,d_w_word:=_,a_w_near:=f_w_near,d_w_near:=_,a_w_same:=f_w_same,d_w_same:=_,a_w_same_rows:=f_w_same_rows,d_w_same_rows:=_,a_w_beam:=f_w_beam,d_w_beam:=_,a_w_pick:=f_w_pick,d_w_pick:=_,a_w_any_move:=f_w_any_move,d_w_any_move:=_,a_w_done:=f_w_done,d_w_done:=_,a_w_chosen:=f_w_chosen,d_w_chosen:=_,a_w_deed:=f_w_deed,d_w_deed:=_,a_law:=fa,d_law:=_,c_Beam:=C_Beam,c_Play:=C_Play,c_NoWeight:=C_NoWeight,c_NoPlace:=C_NoPlace,c_SamePlace:=C_SamePlace,c_NoRoom:=C_NoRoom,c_TipsInHand:=C_TipsInHand,c_TipsBehind:=C_TipsBehind,c_PlayFull:=C_PlayFull,c_NothingBack:=C_NothingBack,c_BeamError:=C_BeamError,q_MOST_NOTCHES:=q_MOST_NOTCHES,q_MOST_ROOM:=q_MOST_ROOM,q_MOST_LIMIT:=q_MOST_LIMIT,q_MOST_WEIGHTS:=q_MOST_WEIGHTS,q_MOST_HEFT:=q_MOST_HEFT,q_MOST_STANDINGS:=q_MOST_STANDINGS,q_MOST_MOVES:=q_MOST_MOVES }:={ F_BeamError_init:=F_BeamError_init,b_BeamError_init:=b_BeamError_init,k_BeamError_init:=k_BeamError_init,F_NoWeight_init:=F_NoWeight_init,b_NoWeight_init:=b_NoWeight_init,k_NoWeight_init:=k_NoWeight_init,F_NoPlace_init:=F_NoPlace_init,b_NoPlace_init:=b_NoPlace_init,k_NoPlace_init:=k_NoPlace_init,F_SamePlace_init:=F_SamePlace_init,b_SamePlace_init:=b_SamePlace_init,k_SamePlace_init:=k_SamePlace_init,F_NoRoom_init:=F_NoRoom_init,b_NoRoom_init:=b_NoRoom_init,k_NoRoom_init:=k_NoRoom_init,F_TipsInHand_init:=F_TipsInHand_init,b_TipsInHand_init:=b_TipsInHand_init,k_TipsInHand_init:=k_TipsInHand_init,F_TipsBehind_init:=F_TipsBehind_init,b_TipsBehind_init:=b_TipsBehind_init,k_TipsBehind_init:=k_TipsBehind_init,F_PlayFull_init:=F_PlayFull_init,b_PlayFull_init:=b_PlayFull_init,k_PlayFull_init:=k_PlayFull_init,F_NothingBack_init:=F_NothingBack_init,b_NothingBack_init:=b_NothingBack_init,k_NothingBack_init:=k_NothingBack_init,F_Beam_init:=F_Beam_init,b_Beam_init:=b_Beam_init,k_Beam_init:=k_Beam_init,F_outside:=F_outside,b_outside:=b_outside,m_outside:=PySem.W.mg_of X G a_outside,k_outside:=k_outside,F_check_bounds:=F_check_bounds,b_check_bounds:=b_check_bounds,m_check_bounds:=PySem.W.mg_of X G a_check_bounds,k_check_bounds:=k_check_bounds,F_check_hefts:=F_check_hefts,b_check_hefts:=b_check_hefts,m_check_hefts:=PySem.W.mg_of X G a_check_hefts,k_check_hefts:=k_check_hefts,F_check_standings:=F_check_standings,b_check_standings:=b_check_standings,m_check_standings:=PySem.W.mg_of X G a_check_standings,k_check_standings:=k_check_standings,F_as_standing:=F_as_standing,b_as_standing:=b_as_standing,m_as_standing:=PySem.W.mg_of X G a_as_standing,k_as_standing:=k_as_standing,F_tilt:=F_tilt,b_tilt:=b_tilt,m_tilt:=PySem.W.mg_of X G a_tilt,k_tilt:=k_tilt,F_past:=F_past,b_past:=b_past,m_past:=PySem.W.mg_of X G a_past,k_past:=k_past,F_keeps:=F_keeps,b_keeps:=b_keeps,m_keeps:=PySem.W.mg_of X G a_keeps,k_keeps:=k_keeps,F_in_hand:=F_in_hand,b_in_hand:=b_in_hand,m_in_hand:=PySem.W.mg_of X G a_in_hand,k_in_hand:=k_in_hand,F_moved:=F_moved,b_moved:=b_moved,m_moved:=PySem.W.mg_of X G a_moved,k_moved:=k_moved,F_turned:=F_turned,b_turned:=b_turned,m_turned:=PySem.W.mg_of X G a_turned,k_turned:=k_turned,F_behind:=F_behind,b_behind:=b_behind,m_behind:=PySem.W.mg_of X G a_behind,k_behind:=k_behind,F_full:=F_full,b_full:=b_full,m_full:=PySem.W.mg_of X G a_full,k_full:=k_full,F_check_move:=F_check_move,b_check_move:=b_check_move,m_check_move:=PySem.W.mg_of X G a_check_move,k_check_move:=k_check_move,F_check_weight:=F_check_weight,b_check_weight:=b_check_weight,m_check_weight:=PySem.W.mg_of X G a_check_weight,k_check_weight:=k_check_weight,F_check_put:=F_check_put,b_check_put:=b_check_put,m_check_put:=PySem.W.mg_of X G a_check_put,k_check_put:=k_check_put,F_check_tilts:=F_check_tilts,b_check_tilts:=b_check_tilts,m_check_tilts:=PySem.W.mg_of X G a_check_tilts,k_check_tilts:=k_check_tilts,F_Play_init:=F_Play_init,b_Play_init:=b_Play_init,k_Play_init:=k_Play_init,F_Play_move:=F_Play_move,b_Play_move:=b_Play_move,k_Play_move:=k_Play_move,F_Play_back:=F_Play_back,b_Play_back:=b_Play_back,k_Play_back:=k_Play_back,F_Play_trail:=F_Play_trail,b_Play_trail:=b_Play_trail,k_Play_trail:=k_Play_trail,F_w_at:=F_w_at,b_w_at:=b_w_at,m_w_at:=PySem.W.mg_of X G a_w_at,k_w_at:=k_w_at,F_w_whole:=F_w_whole,b_w_whole:=b_w_whole,m_w_whole:=PySem.W.mg_of X G a_w_whole,k_w_whole:=k_w_whole,F_w_figs:=F_w_figs,b_w_figs:=b_w_figs,m_w_figs:=PySem.W.mg_of X G a_w_figs,k_w_figs:=k_w_figs,F_w_shape:=F_w_shape,b_w_shape:=b_w_shape,m_w_shape:=PySem.W.mg_of X G a_w_shape,k_w_shape:=k_w_shape,F_w_put:=F_w_put,b_w_put:=b_w_put,m_w_put:=PySem.W.mg_of X G a_w_put,k_w_put:=k_w_put,F_w_tilt:=F_w_tilt,b_w_tilt:=b_w_tilt,m_w_tilt:=PySem.W.mg_of X G a_w_tilt,k_w_tilt:=k_w_tilt,F_w_limit:=F_w_limit,b_w_limit:=b_w_limit,m_w_limit:=PySem.W.mg_of X G a_w_limit,k_w_limit:=k_w_limit,F_w_hard:=F_w_hard,b_w_hard:=b_w_hard,m_w_hard:=PySem.W.mg_of X G a_w_hard,k_w_hard:=k_w_hard,F_w_case:=F_w_case,b_w_case:=b_w_case,m_w_case:=PySem.W.mg_of X G a_w_case,k_w_case:=k_w_case,F_w_word:=F_w_word,b_w_word:=b_w_word,m_w_word:=PySem.W.mg_of X G a_w_word,k_w_word:=k_w_word,F_w_near:=F_w_near,b_w_near:=b_w_near,m_w_near:=PySem.W.mg_of X G a_w_near,k_w_near:=k_w_near,F_w_same:=F_w_same,b_w_same:=b_w_same,m_w_same:=PySem.W.mg_of X G a_w_same,k_w_same:=k_w_same,F_w_same_rows:=F_w_same_rows,b_w_same_rows:=b_w_same_rows,m_w_same_rows:=PySem.W.mg_of X G a_w_same_rows,k_w_same_rows:=k_w_same_rows,F_w_beam:=F_w_beam,b_w_beam:=b_w_beam,m_w_beam:=PySem.W.mg_of X G a_w_beam,k_w_beam:=k_w_beam,F_w_pick:=F_w_pick,b_w_pick:=b_w_pick,m_w_pick:=PySem.W.mg_of X G a_w_pick,k_w_pick:=k_w_pick,F_w_any_move:=F_w_any_move,b_w_any_move:=b_w_any_move,m_w_any_move:=PySem.W.mg_of X G a_w_any_move,k_w_any_move:=k_w_any_move,F_w_done:=F_w_done,b_w_done:=b_w_done,m_w_done:=PySem.W.mg_of X G a_w_done,k_w_done:=k_w_done,F_w_chosen:=F_w_chosen,b_w_chosen:=b_w_chosen,m_w_chosen:=PySem.W.mg_of X G a_w_chosen,k_w_chosen:=k_w_chosen,F_w_deed:=F_w_deed,b_w_deed:=b_w_deed,m_w_deed:=PySem.W.mg_of X G a_w_deed,k_w_deed:=k_w_deed,F_law:=F_law,b_law:=b_law,m_law:=PySem.W.mg_of X G a_law,k_law:=k_law,cl_Beam:=⟨pg_Beam,hd_Beam,po_Beam,sa_Beam⟩,m_Beam:=PySem.W.mg_of X G a_Beam,mk_Beam:=⟨mk_Beam,a_Beam_init,i_Beam_init,kc_Beam⟩,na_Beam_notches:=na_Beam_notches,na_Beam_room:=na_Beam_room,na_Beam_hefts:=na_Beam_hefts,na_Beam_limit:=na_Beam_limit,cl_Play:=⟨pg_Play,hd_Play,po_Play,sa_Play⟩,m_Play:=PySem.W.mg_of X G a_Play,mk_Play:=⟨mk_Play,a_Play_init,i_Play_init,kc_Play⟩,na_Play_beam:=na_Play_beam,na_Play_start:=na_Play_start,na_Play_standing:=na_Play_standing,na_Play_made:=na_Play_made,me_Play_move:=⟨a_Play_move,i_Play_move,k_Play_move⟩,me_Play_back:=⟨a_Play_back,i_Play_back,k_Play_back⟩,me_Play_trail:=⟨a_Play_trail,i_Play_trail,k_Play_trail⟩,m_NoWeight:=PySem.W.mg_of X G a_NoWeight,m_NoPlace:=PySem.W.mg_of X G a_NoPlace,m_SamePlace:=PySem.W.mg_of X G a_SamePlace,m_NoRoom:=PySem.W.mg_of X G a_NoRoom,m_TipsInHand:=PySem.W.mg_of X G a_TipsInHand,m_TipsBehind:=PySem.W.mg_of X G a_TipsBehind,m_PlayFull:=PySem.W.mg_of X G a_PlayFull,m_NothingBack:=PySem.W.mg_of X G a_NothingBack,m_BeamError:=PySem.W.mg_of X G a_BeamError,x_NoWeight:=⟨⟨_,_,_,_,_,_,_,_,_,_,_,_,_,_,_,ob_NoWeight,mv_NoWeight⟩,sa_NoWeight,kc_NoWeight⟩,x_NoPlace:=⟨⟨_,_,_,_,_,_,_,_,_,_,_,_,_,_,_,ob_NoPlace,mv_NoPlace⟩,sa_NoPlace,kc_NoPlace⟩,x_SamePlace:=⟨⟨_,_,_,_,_,_,_,_,_,_,_,_,_,_,_,ob_SamePlace,mv_SamePlace⟩,sa_SamePlace,kc_SamePlace⟩,x_NoRoom:=⟨⟨_,_,_,_,_,_,_,_,_,_,_,_,_,_,_,ob_NoRoom,mv_NoRoom⟩,sa_NoRoom,kc_NoRoom⟩,x_TipsInHand:=⟨⟨_,_,_,_,_,_,_,_,_,_,_,_,_,_,_,ob_TipsInHand,mv_TipsInHand⟩,sa_TipsInHand,kc_TipsInHand⟩,x_TipsBehind:=⟨⟨_,_,_,_,_,_,_,_,_,_,_,_,_,_,_,ob_TipsBehind,mv_TipsBehind⟩,sa_TipsBehind,kc_TipsBehind⟩,x_PlayFull:=⟨⟨_,_,_,_,_,_,_,_,_,_,_,_,_,_,_,ob_PlayFull,mv_PlayFull⟩,sa_PlayFull,kc_PlayFull⟩,x_NothingBack:=⟨⟨_,_,_,_,_,_,_,_,_,_,_,_,_,_,_,ob_NothingBack,mv_NothingBack⟩,sa_NothingBack,kc_NothingBack⟩,i_NoWeight:=a_NoWeight_init,if_NoWeight:=i_NoWeight_init,na_NoWeight_reason:=na_NoWeight_reason,na_NoWeight_word:=na_NoWeight_word,i_NoPlace:=a_NoPlace_init,if_NoPlace:=i_NoPlace_init,na_NoPlace_reason:=na_NoPlace_reason,na_NoPlace_word:=na_NoPlace_word,i_SamePlace:=a_SamePlace_init,if_SamePlace:=i_SamePlace_init,na_SamePlace_reason:=na_SamePlace_reason,na_SamePlace_word:=na_SamePlace_word,i_NoRoom:=a_NoRoom_init,if_NoRoom:=i_NoRoom_init,na_NoRoom_reason:=na_NoRoom_reason,na_NoRoom_word:=na_NoRoom_word,i_TipsInHand:=a_TipsInHand_init,if_TipsInHand:=i_TipsInHand_init,na_TipsInHand_reason:=na_TipsInHand_reason,na_TipsInHand_word:=na_TipsInHand_word,i_TipsBehind:=a_TipsBehind_init,if_TipsBehind:=i_TipsBehind_init,na_TipsBehind_reason:=na_TipsBehind_reason,na_TipsBehind_word:=na_TipsBehind_word,i_PlayFull:=a_PlayFull_init,if_PlayFull:=i_PlayFull_init,na_PlayFull_reason:=na_PlayFull_reason,na_PlayFull_word:=na_PlayFull_word,i_NothingBack:=a_NothingBack_init,if_NothingBack:=i_NothingBack_init,na_NothingBack_reason:=na_NothingBack_reason,na_NothingBack_word:=na_NothingBack_word,xw:=⟨xw1,xw2⟩,xa_NoWeight:=⟨xp_NoWeight,xq_NoWeight,xr_NoWeight,xh_NoWeight,xk_NoWeight,xo_NoWeight⟩,xm_NoWeight_BeamError:=zw0 be_BeamError (by rw[cx_BeamError];rfl) ty_BeamError sb_NoWeight_BeamError,kt_NoWeight_NoWeight:=zn4,kt_NoWeight_NoPlace:=zc5 ne_NoWeight_NoPlace (by rw[cx_NoPlace];rfl) ty_NoPlace si_NoWeight_NoPlace,kt_NoWeight_SamePlace:=zc5 ne_NoWeight_SamePlace (by rw[cx_SamePlace];rfl) ty_SamePlace si_NoWeight_SamePlace,kt_NoWeight_NoRoom:=zc5 ne_NoWeight_NoRoom (by rw[cx_NoRoom];rfl) ty_NoRoom si_NoWeight_NoRoom,kt_NoWeight_TipsInHand:=zc5 ne_NoWeight_TipsInHand (by rw[cx_TipsInHand];rfl) ty_TipsInHand si_NoWeight_TipsInHand,kt_NoWeight_TipsBehind:=zc5 ne_NoWeight_TipsBehind (by rw[cx_TipsBehind];rfl) ty_TipsBehind si_NoWeight_TipsBehind,kt_NoWeight_NothingBack:=zc5 ne_NoWeight_NothingBack (by rw[cx_NothingBack];rfl) ty_NothingBack si_NoWeight_NothingBack,kt_NoWeight_PlayFull:=zc5 ne_NoWeight_PlayFull (by rw[cx_PlayFull];rfl) ty_PlayFull si_NoWeight_PlayFull,kt_NoWeight_ValueError:=zr5 (by decide +kernel) st_NoWeight_ValueError,xa_NoPlace:=⟨xp_NoPlace,xq_NoPlace,xr_NoPlace,xh_NoPlace,xk_NoPlace,xo_NoPlace⟩,xm_NoPlace_BeamError:=zw0 be_BeamError (by rw[cx_BeamError];rfl) ty_BeamError sb_NoPlace_BeamError,kt_NoPlace_NoWeight:=zc5 ne_NoPlace_NoWeight (by rw[cx_NoWeight];rfl) ty_NoWeight si_NoPlace_NoWeight,kt_NoPlace_NoPlace:=zn4,kt_NoPlace_SamePlace:=zc5 ne_NoPlace_SamePlace (by rw[cx_SamePlace];rfl) ty_SamePlace si_NoPlace_SamePlace,kt_NoPlace_NoRoom:=zc5 ne_NoPlace_NoRoom (by rw[cx_NoRoom];rfl) ty_NoRoom si_NoPlace_NoRoom,kt_NoPlace_TipsInHand:=zc5 ne_NoPlace_TipsInHand (by rw[cx_TipsInHand];rfl) ty_TipsInHand si_NoPlace_TipsInHand,kt_NoPlace_TipsBehind:=zc5 ne_NoPlace_TipsBehind (by rw[cx_TipsBehind];rfl) ty_TipsBehind si_NoPlace_TipsBehind,kt_NoPlace_NothingBack:=zc5 ne_NoPlace_NothingBack (by rw[cx_NothingBack];rfl) ty_NothingBack si_NoPlace_NothingBack,kt_NoPlace_PlayFull:=zc5 ne_NoPlace_PlayFull (by rw[cx_PlayFull];rfl) ty_PlayFull si_NoPlace_PlayFull,kt_NoPlace_ValueError:=zr5 (by decide +kernel) st_NoPlace_ValueError,xa_SamePlace:=⟨xp_SamePlace,xq_SamePlace,xr_SamePlace,xh_SamePlace,xk_SamePlace,xo_SamePlace⟩,xm_SamePlace_BeamError:=zw0 be_BeamError (by rw[cx_BeamError];rfl) ty_BeamError sb_SamePlace_BeamError,kt_SamePlace_NoWeight:=zc5 ne_SamePlace_NoWeight (by rw[cx_NoWeight];rfl) ty_NoWeight si_SamePlace_NoWeight,kt_SamePlace_NoPlace:=zc5 ne_SamePlace_NoPlace (by rw[cx_NoPlace];rfl) ty_NoPlace si_SamePlace_NoPlace,kt_SamePlace_SamePlace:=zn4,kt_SamePlace_NoRoom:=zc5 ne_SamePlace_NoRoom (by rw[cx_NoRoom];rfl) ty_NoRoom si_SamePlace_NoRoom,kt_SamePlace_TipsInHand:=zc5 ne_SamePlace_TipsInHand (by rw[cx_TipsInHand];rfl) ty_TipsInHand si_SamePlace_TipsInHand,kt_SamePlace_TipsBehind:=zc5 ne_SamePlace_TipsBehind (by rw[cx_TipsBehind];rfl) ty_TipsBehind si_SamePlace_TipsBehind,kt_SamePlace_NothingBack:=zc5 ne_SamePlace_NothingBack (by rw[cx_NothingBack];rfl) ty_NothingBack si_SamePlace_NothingBack,kt_SamePlace_PlayFull:=zc5 ne_SamePlace_PlayFull (by rw[cx_PlayFull];rfl) ty_PlayFull si_SamePlace_PlayFull,kt_SamePlace_ValueError:=zr5 (by decide +kernel) st_SamePlace_ValueError,xa_NoRoom:=⟨xp_NoRoom,xq_NoRoom,xr_NoRoom,xh_NoRoom,xk_NoRoom,xo_NoRoom⟩,xm_NoRoom_BeamError:=zw0 be_BeamError (by rw[cx_BeamError];rfl) ty_BeamError sb_NoRoom_BeamError,kt_NoRoom_NoWeight:=zc5 ne_NoRoom_NoWeight (by rw[cx_NoWeight];rfl) ty_NoWeight si_NoRoom_NoWeight,kt_NoRoom_NoPlace:=zc5 ne_NoRoom_NoPlace (by rw[cx_NoPlace];rfl) ty_NoPlace si_NoRoom_NoPlace,kt_NoRoom_SamePlace:=zc5 ne_NoRoom_SamePlace (by rw[cx_SamePlace];rfl) ty_SamePlace si_NoRoom_SamePlace,kt_NoRoom_NoRoom:=zn4,kt_NoRoom_TipsInHand:=zc5 ne_NoRoom_TipsInHand (by rw[cx_TipsInHand];rfl) ty_TipsInHand si_NoRoom_TipsInHand,kt_NoRoom_TipsBehind:=zc5 ne_NoRoom_TipsBehind (by rw[cx_TipsBehind];rfl) ty_TipsBehind si_NoRoom_TipsBehind,kt_NoRoom_NothingBack:=zc5 ne_NoRoom_NothingBack (by rw[cx_NothingBack];rfl) ty_NothingBack si_NoRoom_NothingBack,kt_NoRoom_PlayFull:=zc5 ne_NoRoom_PlayFull (by rw[cx_PlayFull];rfl) ty_PlayFull si_NoRoom_PlayFull,kt_NoRoom_ValueError:=zr5 (by decide +kernel) st_NoRoom_ValueError,xa_TipsInHand:=⟨xp_TipsInHand,xq_TipsInHand,xr_TipsInHand,xh_TipsInHand,xk_TipsInHand,xo_TipsInHand⟩,xm_TipsInHand_BeamError:=zw0 be_BeamError (by rw[cx_BeamError];rfl) ty_BeamError sb_TipsInHand_BeamError,kt_TipsInHand_NoWeight:=zc5 ne_TipsInHand_NoWeight (by rw[cx_NoWeight];rfl) ty_NoWeight si_TipsInHand_NoWeight,kt_TipsInHand_NoPlace:=zc5 ne_TipsInHand_NoPlace (by rw[cx_NoPlace];rfl) ty_NoPlace si_TipsInHand_NoPlace,kt_TipsInHand_SamePlace:=zc5 ne_TipsInHand_SamePlace (by rw[cx_SamePlace];rfl) ty_SamePlace si_TipsInHand_SamePlace,kt_TipsInHand_NoRoom:=zc5 ne_TipsInHand_NoRoom (by rw[cx_NoRoom];rfl) ty_NoRoom si_TipsInHand_NoRoom,kt_TipsInHand_TipsInHand:=zn4,kt_TipsInHand_TipsBehind:=zc5 ne_TipsInHand_TipsBehind (by rw[cx_TipsBehind];rfl) ty_TipsBehind si_TipsInHand_TipsBehind,kt_TipsInHand_NothingBack:=zc5 ne_TipsInHand_NothingBack (by rw[cx_NothingBack];rfl) ty_NothingBack si_TipsInHand_NothingBack,kt_TipsInHand_PlayFull:=zc5 ne_TipsInHand_PlayFull (by rw[cx_PlayFull];rfl) ty_PlayFull si_TipsInHand_PlayFull,kt_TipsInHand_ValueError:=zr5 (by decide +kernel) st_TipsInHand_ValueError,xa_TipsBehind:=⟨xp_TipsBehind,xq_TipsBehind,xr_TipsBehind,xh_TipsBehind,xk_TipsBehind,xo_TipsBehind⟩,xm_TipsBehind_BeamError:=zw0 be_BeamError (by rw[cx_BeamError];rfl) ty_BeamError sb_TipsBehind_BeamError,kt_TipsBehind_NoWeight:=zc5 ne_TipsBehind_NoWeight (by rw[cx_NoWeight];rfl) ty_NoWeight si_TipsBehind_NoWeight,kt_TipsBehind_NoPlace:=zc5 ne_TipsBehind_NoPlace (by rw[cx_NoPlace];rfl) ty_NoPlace si_TipsBehind_NoPlace,kt_TipsBehind_SamePlace:=zc5 ne_TipsBehind_SamePlace (by rw[cx_SamePlace];rfl) ty_SamePlace si_TipsBehind_SamePlace,kt_TipsBehind_NoRoom:=zc5 ne_TipsBehind_NoRoom (by rw[cx_NoRoom];rfl) ty_NoRoom si_TipsBehind_NoRoom,kt_TipsBehind_TipsInHand:=zc5 ne_TipsBehind_TipsInHand (by rw[cx_TipsInHand];rfl) ty_TipsInHand si_TipsBehind_TipsInHand,kt_TipsBehind_TipsBehind:=zn4,kt_TipsBehind_NothingBack:=zc5 ne_TipsBehind_NothingBack (by rw[cx_NothingBack];rfl) ty_NothingBack si_TipsBehind_NothingBack,kt_TipsBehind_PlayFull:=zc5 ne_TipsBehind_PlayFull (by rw[cx_PlayFull];rfl) ty_PlayFull si_TipsBehind_PlayFull,kt_TipsBehind_ValueError:=zr5 (by decide +kernel) st_TipsBehind_ValueError,xa_PlayFull:=⟨xp_PlayFull,xq_PlayFull,xr_PlayFull,xh_PlayFull,xk_PlayFull,xo_PlayFull⟩,xm_PlayFull_BeamError:=zw0 be_BeamError (by rw[cx_BeamError];rfl) ty_BeamError sb_PlayFull_BeamError,kt_PlayFull_NoWeight:=zc5 ne_PlayFull_NoWeight (by rw[cx_NoWeight];rfl) ty_NoWeight si_PlayFull_NoWeight,kt_PlayFull_NoPlace:=zc5 ne_PlayFull_NoPlace (by rw[cx_NoPlace];rfl) ty_NoPlace si_PlayFull_NoPlace,kt_PlayFull_SamePlace:=zc5 ne_PlayFull_SamePlace (by rw[cx_SamePlace];rfl) ty_SamePlace si_PlayFull_SamePlace,kt_PlayFull_NoRoom:=zc5 ne_PlayFull_NoRoom (by rw[cx_NoRoom];rfl) ty_NoRoom si_PlayFull_NoRoom,kt_PlayFull_TipsInHand:=zc5 ne_PlayFull_TipsInHand (by rw[cx_TipsInHand];rfl) ty_TipsInHand si_PlayFull_TipsInHand,kt_PlayFull_TipsBehind:=zc5 ne_PlayFull_TipsBehind (by rw[cx_TipsBehind];rfl) ty_TipsBehind si_PlayFull_TipsBehind,kt_PlayFull_NothingBack:=zc5 ne_PlayFull_NothingBack (by rw[cx_NothingBack];rfl) ty_NothingBack si_PlayFull_NothingBack,kt_PlayFull_PlayFull:=zn4,kt_PlayFull_ValueError:=zr5 (by decide +kernel) st_PlayFull_ValueError,xa_NothingBack:=⟨xp_NothingBack,xq_NothingBack,xr_NothingBack,xh_NothingBack,xk_NothingBack,xo_NothingBack⟩,xm_NothingBack_BeamError:=zw0 be_BeamError (by rw[cx_BeamError];rfl) ty_BeamError sb_NothingBack_BeamError,kt_NothingBack_NoWeight:=zc5 ne_NothingBack_NoWeight (by rw[cx_NoWeight];rfl) ty_NoWeight si_NothingBack_NoWeight,kt_NothingBack_NoPlace:=zc5 ne_NothingBack_NoPlace (by rw[cx_NoPlace];rfl) ty_NoPlace si_NothingBack_NoPlace,kt_NothingBack_SamePlace:=zc5 ne_NothingBack_SamePlace (by rw[cx_SamePlace];rfl) ty_SamePlace si_NothingBack_SamePlace,kt_NothingBack_NoRoom:=zc5 ne_NothingBack_NoRoom (by rw[cx_NoRoom];rfl) ty_NoRoom si_NothingBack_NoRoom,kt_NothingBack_TipsInHand:=zc5 ne_NothingBack_TipsInHand (by rw[cx_TipsInHand];rfl) ty_TipsInHand si_NothingBack_TipsInHand,kt_NothingBack_TipsBehind:=zc5 ne_NothingBack_TipsBehind (by rw[cx_TipsBehind];rfl) ty_TipsBehind si_NothingBack_TipsBehind,kt_NothingBack_NothingBack:=zn4,kt_NothingBack_PlayFull:=zc5 ne_NothingBack_PlayFull (by rw[cx_PlayFull];rfl) ty_PlayFull si_NothingBack_PlayFull,kt_NothingBack_ValueError:=zr5 (by decide +kernel) st_NothingBack_ValueError,cm_BeamError:=⟨ga_BeamError,rd_BeamError,fd_BeamError,k_BeamError_init⟩,n_tuple:=PySem.W.mg_none_of X G n_tuple,n_len:=PySem.W.mg_none_of X G n_len,n_range:=PySem.W.mg_none_of X G n_range,n_sum:=PySem.W.mg_none_of X G n_sum,n_zip:=PySem.W.mg_none_of X G n_zip,n_abs:=PySem.W.mg_none_of X G n_abs,n_list:=PySem.W.mg_none_of X G n_list,n_isinstance:=PySem.W.mg_none_of X G n_isinstance,n_int:=PySem.W.mg_none_of X G n_int,n_bool:=PySem.W.mg_none_of X G n_bool,n_min:=PySem.W.mg_none_of X G n_min,n_max:=PySem.W.mg_none_of X G n_max,n_ValueError:=PySem.W.mg_none_of X G n_ValueError,g_MOST_NOTCHES:=PySem.W.mg_of X G g_MOST_NOTCHES,g_MOST_ROOM:=PySem.W.mg_of X G g_MOST_ROOM,g_MOST_LIMIT:=PySem.W.mg_of X G g_MOST_LIMIT,g_MOST_WEIGHTS:=PySem.W.mg_of X G g_MOST_WEIGHTS,g_MOST_HEFT:=PySem.W.mg_of X G g_MOST_HEFT,g_MOST_STANDINGS:=PySem.W.mg_of X G g_MOST_STANDINGS,g_MOST_MOVES:=PySem.W.mg_of X G g_MOST_MOVES }
 exact⟨_,fun s v=>.of_eq rfl,fun base _ _=>ok_law T⟩
theorem walk {l:PySem.W.OpenLaw} {q:Program} {loose:List Str} {XP:(Str->Option Value)->Heap->Prop} {YP:World->Heap->Prop} {d:DefRec} {K:Params->PySem.W.Frag} (hn:l.most=some 63) (hdf:d.params.defaults=[])
   (hY:∀ (w:World) (h:Heap),YP w h->(K w.params).In h)
   (F:∀ (w:World) (mg:Str->Option Value) (fa:Addr) (h:Heap),(K w.params).In h->h.Ns mainGlobals mg->mg d.name=some (.ref fa) →
     ∃ fd:FuncData,(∀ (s:Shared) (u:Value),BindsTo s fd ⟨[u],[]⟩ [("_law_script",u)])/\∀ base:Heap,(K w.params).In base->base.Ns mainGlobals mg->FnOk l.prog w (K w.params) mg base CX0 10 fa fd ["_law_script"] (zN3 (K w.params))) :
   PySem.W.WalkO q loose XP YP l.row.toRowW d [] (fun f vs=>PySem.call f vs) :=
 L2.walk_of (n:=63) (k:=10) (x:="_law_script") (CX:=fun _=>CX0) (sp:=fun w=>zN3 (K w.params)) hn (by decide) hdf ⟨rfl,by decide,by decide⟩ hY F (fun _ _ a ns hl _ hS=>⟨a,ns,rfl,hS,hl,fun _=>rfl⟩) fun _ _ _ _ _ z=>z
theorem walkZ {l:PySem.W.OpenLaw} {q:Program} {loose:List Str} {XP:(Str->Option Value)->Heap->Prop} {d:DefRec} {K:Params->PySem.W.Frag} (hn:l.most=some 63) (hdf:d.params.defaults=[])
 (F:∀ (w:World) (mg:Str->Option Value) (fa:Addr) (h:Heap),(K w.params).In h->h.Ns mainGlobals mg->mg d.name=some (.ref fa) →
   ∃ fd:FuncData,(∀ (s:Shared) (u:Value),BindsTo s fd ⟨[u],[]⟩ [("_law_script",u)])/\∀ base:Heap,(K w.params).In base->base.Ns mainGlobals mg->FnOk l.prog w (K w.params) mg base CX0 10 fa fd ["_law_script"] (zN3 (K w.params))) :
 PySem.W.WalkO q loose XP (fun w h=>(K w.params).In h) l.row.toRowW d [] (fun f vs=>PySem.call f vs):=walk hn hdf (fun _ _ Y=>Y) F
end Bt
namespace PySem.W.Fast
noncomputable def tw16652175807645881571:Unit:=()
noncomputable def tw9566248873365868314:Unit:=()
noncomputable def tw15905546693427334563:Unit:=()
noncomputable def tw2929072917174754620:Unit:=()
noncomputable def tw9613495941956645745:Unit:=()
noncomputable def tw5414790023399372303:Unit:=()
noncomputable def tw7084473091470035225:Unit:=()
noncomputable def tw12287589697264694988:Unit:=()
noncomputable def tw15983764090075122191:Unit:=()
noncomputable def tw10695934826830336315:Unit:=()
noncomputable def tw15993648732934861305:Unit:=()
noncomputable def tw10162433676024095719:Unit:=()
noncomputable def tw6891135992068052115:Unit:=()
noncomputable def tw6326632138097886868:Unit:=()
noncomputable def tw5928442806624188739:Unit:=()
noncomputable def tw13530120462270800767:Unit:=()
noncomputable def tw15661156505367216187:Unit:=()
noncomputable def tw14778884654557212694:Unit:=()
noncomputable def tw4291919408084955472:Unit:=()
noncomputable def tw1025133408909245486:Unit:=()
noncomputable def tw13554088623320330926:Unit:=()
noncomputable def tw5706259268232585022:Unit:=()
noncomputable def tw13815930624272375855:Unit:=()
noncomputable def tw15538970760821245255:Unit:=()
noncomputable def tw7458788350167727121:Unit:=()
noncomputable def tw14085675617837071095:Unit:=()
noncomputable def tw871772722924136162:Unit:=()
noncomputable def tw4755737619071072153:Unit:=()
noncomputable def tw4009321744105337695:Unit:=()
noncomputable def tw4341315963533901929:Unit:=()
noncomputable def tw9685641669464362148:Unit:=()
noncomputable def tw6358802498271307990:Unit:=()
noncomputable def tw13083578147466895422:Unit:=()
noncomputable def tw18016550244007252661:Unit:=()
noncomputable def tw13162521291444516540:Unit:=()
noncomputable def tw10198482124461271899:Unit:=()
noncomputable def tw11564166295446384253:Unit:=()
noncomputable def tw9545749524267299402:Unit:=()
noncomputable def tw4351827685441767010:Unit:=()
noncomputable def tw2148969555504605721:Unit:=()
noncomputable def tw17292544049917959621:Unit:=()
noncomputable def tw2720876711713519982:Unit:=()
noncomputable def tw10653305216493615248:Unit:=()
noncomputable def tw6869568285903369593:Unit:=()
noncomputable def tw11048768760181988029:Unit:=()
noncomputable def tw15501892811785959982:Unit:=()
noncomputable def tw1529990035217888080:Unit:=()
noncomputable def tw1496639913544090924:Unit:=()
noncomputable def tw12956727870684921065:Unit:=()
noncomputable def tw2091647818605564470:Unit:=()
noncomputable def tw782442516327667098:Unit:=()
noncomputable def tw2306262730096439968:Unit:=()
noncomputable def tw5587829360659814643:Unit:=()
noncomputable def tw15235750156013888200:Unit:=()
noncomputable def tw11158464055549197995:Unit:=()
noncomputable def tw6959052270635718254:Unit:=()
noncomputable def tw2952354928038334989:Unit:=()
noncomputable def tw5555806756412651114:Unit:=()
noncomputable def tw16400137744433143469:Unit:=()
noncomputable def tw18412803225571744595:Unit:=()
noncomputable def tw9602948609114312424:Unit:=()
noncomputable def tw9611666555891392415:Unit:=()
noncomputable def tw8524089886034190795:Unit:=()
noncomputable def tw11319852417352865819:Unit:=()
noncomputable def tw2034803460053784786:Unit:=()
noncomputable def tw2885997655309804036:Unit:=()
noncomputable def tw8405957123333393719:Unit:=()
noncomputable def tw17947363918822729826:Unit:=()
noncomputable def tw13156002122873425228:Unit:=()
noncomputable def tw10087513845142422913:Unit:=()
noncomputable def tw16464972013790222984:Unit:=()
noncomputable def tw8491281594360366248:Unit:=()
noncomputable def tw18296425077078971030:Unit:=()
noncomputable def tw15426200572356728216:Unit:=()
noncomputable def tw18379834307188863567:Unit:=()
noncomputable def tw13817610661649856734:Unit:=()
noncomputable def tw284077731982155829:Unit:=()
noncomputable def tw12121456715567638978:Unit:=()
noncomputable def tw4480660957461347801:Unit:=()
noncomputable def tw4531342908844786776:Unit:=()
noncomputable def tw16628808192533205705:Unit:=()
noncomputable def tw9824715054072361000:Unit:=()
noncomputable def tw13143787106463235664:Unit:=()
noncomputable def tw9692925207332052358:Unit:=()
noncomputable def tw2822607573106521938:Unit:=()
noncomputable def tw489638249199245444:Unit:=()
noncomputable def tw11121423372111679204:Unit:=()
noncomputable def tw3790817568779826524:Unit:=()
noncomputable def tw3828344475428422474:Unit:=()
noncomputable def tw4034733748107241749:Unit:=()
noncomputable def tw14244861578420092684:Unit:=()
noncomputable def tw1044557321465162318:Unit:=()
noncomputable def tw16876798910570474987:Unit:=()
noncomputable def tw10148088477133482132:Unit:=()
noncomputable def tw3159766095585295944:Unit:=()
noncomputable def tw10385154304465499351:Unit:=()
noncomputable def tw4401522732273573088:Unit:=()
noncomputable def tw8036142007845000978:Unit:=()
noncomputable def tw1353453957310869345:Unit:=()
noncomputable def tw4907838230530630710:Unit:=()
noncomputable def tw9126334312209477546:Unit:=()
noncomputable def tw10848317444362480669:Unit:=()
noncomputable def tw16047844359177462421:Unit:=()
noncomputable def tw7889348610307676447:Unit:=()
noncomputable def tw10059252584950275162:Unit:=()
noncomputable def tw4673576971985386156:Unit:=()
noncomputable def tw13048192763004403636:Unit:=()
noncomputable def tw224272508124450846:Unit:=()
noncomputable def tw17048826978780933471:Unit:=()
noncomputable def tw10884180223365993681:Unit:=()
noncomputable def tw6250816820456912617:Unit:=()
noncomputable def tw12411267389113040456:Unit:=()
noncomputable def tw904098043353709780:Unit:=()
noncomputable def tw14927898388996773699:Unit:=()
noncomputable def tw1809492829081589266:Unit:=()
noncomputable def tw14558054851621947979:Unit:=()
noncomputable def tw17715067213450926577:Unit:=()
noncomputable def tw15948957999378133403:Unit:=()
noncomputable def tw13249134633907901926:Unit:=()
noncomputable def tw6970245099410600110:Unit:=()
noncomputable def tw17781897424561165795:Unit:=()
noncomputable def tw6010037811210170014:Unit:=()
noncomputable def tw3811069358092725817:Unit:=()
noncomputable def tw60048384546750184:Unit:=()
noncomputable def tw14905226843909871974:Unit:=()
noncomputable def tw9189097572709004511:Unit:=()
noncomputable def tw7372360283148612700:Unit:=()
noncomputable def tw10879462677648377502:Unit:=()
noncomputable def tw12304799495340880859:Unit:=()
noncomputable def tw15418390873081944427:Unit:=()
noncomputable def tw3696766307607136468:Unit:=()
noncomputable def tw10809267957142711271:Unit:=()
noncomputable def tw17780220677527513445:Unit:=()
noncomputable def tw16451720739793906263:Unit:=()
noncomputable def tw4555573180239721078:Unit:=()
noncomputable def tw15907375432199727451:Unit:=()
noncomputable def tw3579436219962062432:Unit:=()
noncomputable def tw1113824285487378384:Unit:=()
noncomputable def tw7309946995990906171:Unit:=()
noncomputable def tw4776542689352868115:Unit:=()
noncomputable def tw1470185822460355874:Unit:=()
noncomputable def tw3524112045379409237:Unit:=()
noncomputable def tw2996584626464870953:Unit:=()
noncomputable def tw836742967949213242:Unit:=()
noncomputable def tw17679860880113900120:Unit:=()
noncomputable def tw6460708859758088879:Unit:=()
noncomputable def tw12977692920903453564:Unit:=()
noncomputable def tw7552757113673607526:Unit:=()
noncomputable def tw3437394274689455514:Unit:=()
noncomputable def tw2799066079669119344:Unit:=()
noncomputable def tw16933287412691073618:Unit:=()
noncomputable def tw5571379797718887913:Unit:=()
noncomputable def tw18074906930121096010:Unit:=()
noncomputable def tw17779094199924710216:Unit:=()
noncomputable def tw14726437357902520206:Unit:=()
noncomputable def tw13500706952537664188:Unit:=()
noncomputable def tw4250923364331322510:Unit:=()
noncomputable def tw12085580074829099714:Unit:=()
noncomputable def tw14765962451168022184:Unit:=()
noncomputable def tw3330032494589486443:Unit:=()
noncomputable def tw4790759979050486139:Unit:=()
noncomputable def tw11990922495683228885:Unit:=()
noncomputable def tw13379920870848265202:Unit:=()
noncomputable def tw5887317744131111404:Unit:=()
noncomputable def tw5984431377589144223:Unit:=()
noncomputable def tw17586111496993061747:Unit:=()
noncomputable def tw16041076431259243358:Unit:=()
noncomputable def tw7251313508937710098:Unit:=()
noncomputable def tw5391114497373646368:Unit:=()
noncomputable def tw5740528409411352240:Unit:=()
noncomputable def tw9110484345074177855:Unit:=()
noncomputable def tw4630868244996357679:Unit:=()
noncomputable def tw15792096117515496102:Unit:=()
noncomputable def tw13290439398081606356:Unit:=()
noncomputable def tw8370761058441768340:Unit:=()
noncomputable def tw13911775964413343679:Unit:=()
noncomputable def tw13954310151979932351:Unit:=()
noncomputable def tw17054853973663582590:Unit:=()
noncomputable def tw12461241056303234990:Unit:=()
noncomputable def tw15249324752257353719:Unit:=()
noncomputable def tw12069822155112349192:Unit:=()
noncomputable def tw8872415123901306404:Unit:=()
noncomputable def tw7759610648482151418:Unit:=()
noncomputable def tw5779996070222649620:Unit:=()
noncomputable def tw6101748171847345325:Unit:=()
noncomputable def tw4531770674142596045:Unit:=()
noncomputable def tw8913628148665188822:Unit:=()
noncomputable def tw14127179948135547585:Unit:=()
noncomputable def tw2158908733360172850:Unit:=()
noncomputable def tw13718794799919937687:Unit:=()
noncomputable def tw6459689852941926721:Unit:=()
noncomputable def tw1765979272290948132:Unit:=()
noncomputable def tw2640716731800282238:Unit:=()
noncomputable def tw11946277263374947506:Unit:=()
noncomputable def tw13698533285597093314:Unit:=()
noncomputable def tw1849214376291455658:Unit:=()
noncomputable def tw16782179331350766770:Unit:=()
noncomputable def tw2717381261713358915:Unit:=()
noncomputable def tw13029999648333646998:Unit:=()
noncomputable def tw5101867113783422390:Unit:=()
noncomputable def tw8912929912522764014:Unit:=()
noncomputable def tw439545945393162676:Unit:=()
noncomputable def tw17107058999565187008:Unit:=()
noncomputable def tw14683199448619846677:Unit:=()
noncomputable def tw16042739032138330204:Unit:=()
noncomputable def tw16705297311994618402:Unit:=()
noncomputable def tw4617016681827046388:Unit:=()
noncomputable def tw3659867974576539751:Unit:=()
noncomputable def tw2606500698669489136:Unit:=()
noncomputable def tw3268030616816588303:Unit:=()
noncomputable def tw12410170270595915041:Unit:=()
noncomputable def tw17515541868482233778:Unit:=()
noncomputable def tw5759605975044528206:Unit:=()
noncomputable def tw8491876766748585908:Unit:=()
noncomputable def tw945824576448568125:Unit:=()
noncomputable def tw17333434859097405923:Unit:=()
noncomputable def tw5613873950738492547:Unit:=()
noncomputable def tw17333066192286344395:Unit:=()
noncomputable def tw16309487961910344613:Unit:=()
noncomputable def tw2974046985872088173:Unit:=()
noncomputable def tw4149321509773266662:Unit:=()
noncomputable def tw2395857741598675510:Unit:=()
noncomputable def tw15866450329040967298:Unit:=()
noncomputable def tw3020960460662317017:Unit:=()
noncomputable def tw5279314381778237391:Unit:=()
noncomputable def tw17864166670262578473:Unit:=()
noncomputable def tw7356321789158069457:Unit:=()
noncomputable def tw5383198735971592307:Unit:=()
noncomputable def tw10315249069745365617:Unit:=()
noncomputable def tw4219362158508997205:Unit:=()
noncomputable def tw983778200057483958:Unit:=()
noncomputable def tw6491262661614096223:Unit:=()
noncomputable def tw8179642221934793467:Unit:=()
noncomputable def tw10681983739973171534:Unit:=()
noncomputable def tw14842252444755178083:Unit:=()
noncomputable def tw10584968011353492648:Unit:=()
noncomputable def tw14817187460871522322:Unit:=()
noncomputable def tw4525437786659385356:Unit:=()
noncomputable def tw6004319899670123794:Unit:=()
noncomputable def tw10679996730436620214:Unit:=()
noncomputable def tw4532966721049871062:Unit:=()
noncomputable def tw8806174276671692599:Unit:=()
noncomputable def tw10092988855686763671:Unit:=()
noncomputable def tw15263473629069881459:Unit:=()
noncomputable def tw17989591032038923246:Unit:=()
noncomputable def tw9930558396564891665:Unit:=()
noncomputable def tw3031823962304139227:Unit:=()
noncomputable def tw9821505963430062276:Unit:=()
noncomputable def tw10255908921694125606:Unit:=()
noncomputable def tw12646195565957901690:Unit:=()
noncomputable def tw5286220435497802191:Unit:=()
noncomputable def tw5048015333923983786:Unit:=()
noncomputable def tw17977223713150278434:Unit:=()
noncomputable def tw12432507768964103753:Unit:=()
noncomputable def tw680242351345685736:Unit:=()
noncomputable def tw12236530081539149055:Unit:=()
noncomputable def tw2130978147220226550:Unit:=()
noncomputable def tw12659920002224147783:Unit:=()
noncomputable def tw8232580414273331368:Unit:=()
noncomputable def tw7205663418794068180:Unit:=()
noncomputable def tw12873634986699805336:Unit:=()
noncomputable def tw2506898145515845273:Unit:=()
noncomputable def tw3938834938000984254:Unit:=()
noncomputable def tw7205698349065459126:Unit:=()
noncomputable def tw11655599721521102863:Unit:=()
noncomputable def tw2901600109944687632:Unit:=()
noncomputable def tw12874608303397389204:Unit:=()
noncomputable def tw3433399176279117657:Unit:=()
noncomputable def tw15971065777142579340:Unit:=()
noncomputable def tw4976364570718116195:Unit:=()
noncomputable def tw4493077904284997777:Unit:=()
noncomputable def tw3261646115661631075:Unit:=()
noncomputable def tw16557837054077029873:Unit:=()
noncomputable def tw8416787324141893305:Unit:=()
noncomputable def tw10508014314040592441:Unit:=()
noncomputable def tw12722916988037606838:Unit:=()
noncomputable def tw5332365584189147108:Unit:=()
noncomputable def tw6559050780740631426:Unit:=()
noncomputable def tw1135194406350341803:Unit:=()
noncomputable def tw9168032390561702880:Unit:=()
noncomputable def tw11267656035501332061:Unit:=()
noncomputable def tw2340287045951729842:Unit:=()
noncomputable def tw3103390076678065988:Unit:=()
noncomputable def tw14524289595192874557:Unit:=()
noncomputable def tw7062453158086117966:Unit:=()
noncomputable def tw13894238783487927622:Unit:=()
noncomputable def tw8954334071999576600:Unit:=()
noncomputable def tw1841788356546776622:Unit:=()
noncomputable def tw2180667502680153062:Unit:=()
noncomputable def tw55391331822480514:Unit:=()
noncomputable def tw11745022915614701612:Unit:=()
noncomputable def tw1625285123259890250:Unit:=()
noncomputable def tw10315789169950069272:Unit:=()
noncomputable def tw17998716392279183899:Unit:=()
noncomputable def tw11414248358590851065:Unit:=()
noncomputable def tw2362159671028025642:Unit:=()
noncomputable def tw10467979943979067602:Unit:=()
noncomputable def tw686235914325045097:Unit:=()
noncomputable def tw567364000858703307:Unit:=()
noncomputable def tw9197716627808877805:Unit:=()
noncomputable def tw1426935031598011976:Unit:=()
noncomputable def tw15021007314953318760:Unit:=()
noncomputable def tw17144634090647023480:Unit:=()
noncomputable def tw7342903619904426368:Unit:=()
noncomputable def tw3007781884965277960:Unit:=()
noncomputable def tw10959953277749858193:Unit:=()
noncomputable def tw7448620920621327407:Unit:=()
noncomputable def tw5886326587873561890:Unit:=()
noncomputable def tw9995019015573617619:Unit:=()
noncomputable def tw7293212556811391810:Unit:=()
noncomputable def tw18111635990113985631:Unit:=()
noncomputable def tw15888297999178292109:Unit:=()
noncomputable def tw5883957299890385041:Unit:=()
noncomputable def tw3766845292612475675:Unit:=()
noncomputable def tw16815129860544713165:Unit:=()
noncomputable def tw4325642874126095374:Unit:=()
noncomputable def tw18031879678543557411:Unit:=()
noncomputable def tw16089220374706856354:Unit:=()
noncomputable def tw9938076433584380132:Unit:=()
noncomputable def tw12944629346155690559:Unit:=()
noncomputable def tw13633850441353402748:Unit:=()
noncomputable def tw3979018425590424957:Unit:=()
noncomputable def tw7457026900015976316:Unit:=()
noncomputable def tw5960900289576352141:Unit:=()
noncomputable def tw17081032865273581648:Unit:=()
noncomputable def tw14360289017389883347:Unit:=()
noncomputable def tw11768229352432089855:Unit:=()
noncomputable def tw17287515860387144503:Unit:=()
noncomputable def tw7607158072431625436:Unit:=()
noncomputable def tw16833271223672963704:Unit:=()
noncomputable def tw11038363895351027536:Unit:=()
noncomputable def tw2699109722332038283:Unit:=()
noncomputable def tw6084695847822572758:Unit:=()
noncomputable def tw12393187546452287668:Unit:=()
noncomputable def tw15410266758616382223:Unit:=()
noncomputable def tw13803313816769080029:Unit:=()
noncomputable def tw5682226793369385375:Unit:=()
noncomputable def tw15875406526592665294:Unit:=()
noncomputable def tw16910264597536249780:Unit:=()
noncomputable def tw16073894067847232180:Unit:=()
noncomputable def tw3964875132549528812:Unit:=()
noncomputable def tw12497198683766638849:Unit:=()
noncomputable def tw12558369290103636402:Unit:=()
noncomputable def tw7155106285313359716:Unit:=()
noncomputable def tw12513841666100721047:Unit:=()
noncomputable def tw18146948700357118843:Unit:=()
noncomputable def tw16034395116788081011:Unit:=()
noncomputable def tw18005168470281051544:Unit:=()
noncomputable def tw12533371474786131456:Unit:=()
noncomputable def tw17506034627465189855:Unit:=()
noncomputable def tw10456772024320528950:Unit:=()
noncomputable def tw14749046181333873436:Unit:=()
noncomputable def tw9121870365602335756:Unit:=()
noncomputable def tw8181765956371407674:Unit:=()
noncomputable def tw11675097151412519200:Unit:=()
noncomputable def tw7145332545136936051:Unit:=()
noncomputable def tw6093223288491359877:Unit:=()
noncomputable def tw6043165331784612139:Unit:=()
noncomputable def tw204738479133014791:Unit:=()
noncomputable def tw8859373706723695476:Unit:=()
noncomputable def tw882026102088040417:Unit:=()
noncomputable def tw16764440662854533895:Unit:=()
noncomputable def tw6683107510677232920:Unit:=()
noncomputable def tw964938868370941185:Unit:=()
noncomputable def tw172033117766938192:Unit:=()
noncomputable def tw7360082574104848349:Unit:=()
noncomputable def tw4826494333121844498:Unit:=()
noncomputable def tw2193434269231359872:Unit:=()
noncomputable def tw10700730731923001594:Unit:=()
noncomputable def tw12038972164418579367:Unit:=()
noncomputable def tw3713285110832279841:Unit:=()
noncomputable def tw5706890037327797853:Unit:=()
noncomputable def tw17399094408588400978:Unit:=()
noncomputable def tw8581298074302987582:Unit:=()
noncomputable def tw3732549780006578052:Unit:=()
noncomputable def tw17872769435277725371:Unit:=()
noncomputable def tw15097168942231206419:Unit:=()
noncomputable def tw10804444591936854832:Unit:=()
noncomputable def tw1236735050380812567:Unit:=()
noncomputable def tw10336765089808762435:Unit:=()
noncomputable def tw7122146302696112692:Unit:=()
noncomputable def tw4236991821065308459:Unit:=()
noncomputable def tw7867106047290764736:Unit:=()
noncomputable def tw13755331648803451003:Unit:=()
noncomputable def tw3701279962334688876:Unit:=()
noncomputable def tw1110180091582470881:Unit:=()
noncomputable def tw4898816570643747755:Unit:=()
noncomputable def tw3251222220911316056:Unit:=()
noncomputable def tw12674108551586878110:Unit:=()
noncomputable def tw15992095300878255208:Unit:=()
noncomputable def tw9892591207706387155:Unit:=()
noncomputable def tw7819320288261584907:Unit:=()
noncomputable def tw17914858859490424377:Unit:=()
noncomputable def tw7030831044761483738:Unit:=()
noncomputable def tw5219245281731109007:Unit:=()
noncomputable def tw16707656903826281202:Unit:=()
noncomputable def tw11741501891430370579:Unit:=()
noncomputable def tw36116201067702248:Unit:=()
noncomputable def tw184067911601925210:Unit:=()
noncomputable def tw8237829570568849079:Unit:=()
noncomputable def tw7689581487881909894:Unit:=()
noncomputable def tw10412768019447105819:Unit:=()
end PySem.W.Fast
open PySem PySem.W PyProof.Rows
set_option maxRecDepth 100000 in
set_option maxHeartbeats 0 in
theorem PySem.Challenge.cw_beamtender_k31_whole_play_holds : PySem.Challenge.rw_beamtender_k31_whole_play.Holds := by
  w_on; o_law; z_head; (case hw => w_witness2)
  k_fill
  intro w0 s0 s1 mg0 mb0 G0 y0 fa0 o0 pm0 cd0 doc0 dV0 kV0 ho0 hd0 hcd0 hD0 hmg0 hg0 args0 vals0 as0 L0 hpre0 hlay0 hrd0 hwl0 hlo0
  z_open y0 L0 KX0 ZH0 ZN0 ZT0
  clear ZH0 ZN0 ZT0
  refine Bt.walkZ (l := PySem.Challenge.rw_beamtender_k31_whole_play) rfl rfl ?F w0 s0 s1 mg0 mb0 G0 KX0 fa0 o0 pm0 cd0 doc0 dV0 kV0 ho0 hd0 hcd0 hD0 hmg0 hg0 args0 vals0 as0 hpre0 hlay0 hrd0 hwl0 hlo0
  case F =>
    clear y0 L0 KX0 G0 ho0 hd0 hcd0 hD0 hmg0 hg0 hpre0 hlay0 hrd0 hwl0 hlo0
    intro w mg fa h KX G hmg
    refine' Bt.all_mk KX G hmg ?a_Beam ?a_Play ?a_NoWeight ?a_NoPlace ?a_SamePlace ?a_NoRoom ?a_TipsInHand ?a_TipsBehind ?a_PlayFull ?a_NothingBack ?a_BeamError ?a_BeamError_init ?i_BeamError_init ?l_BeamError_init ?c_BeamError_init ?k_BeamError_init ?dt_BeamError_init ?a_NoWeight_init ?i_NoWeight_init ?l_NoWeight_init ?c_NoWeight_init ?k_NoWeight_init ?dt_NoWeight_init ?a_NoPlace_init ?i_NoPlace_init ?l_NoPlace_init ?c_NoPlace_init ?k_NoPlace_init ?dt_NoPlace_init ?a_SamePlace_init ?i_SamePlace_init ?l_SamePlace_init ?c_SamePlace_init ?k_SamePlace_init ?dt_SamePlace_init ?a_NoRoom_init ?i_NoRoom_init ?l_NoRoom_init ?c_NoRoom_init ?k_NoRoom_init ?dt_NoRoom_init ?a_TipsInHand_init ?i_TipsInHand_init ?l_TipsInHand_init ?c_TipsInHand_init ?k_TipsInHand_init ?dt_TipsInHand_init ?a_TipsBehind_init ?i_TipsBehind_init ?l_TipsBehind_init ?c_TipsBehind_init ?k_TipsBehind_init ?dt_TipsBehind_init ?a_PlayFull_init ?i_PlayFull_init ?l_PlayFull_init ?c_PlayFull_init ?k_PlayFull_init ?dt_PlayFull_init ?a_NothingBack_init ?i_NothingBack_init ?l_NothingBack_init ?c_NothingBack_init ?k_NothingBack_init ?dt_NothingBack_init ?a_Beam_init ?i_Beam_init ?l_Beam_init ?c_Beam_init ?k_Beam_init ?a_outside ?l_outside ?c_outside ?k_outside ?a_check_bounds ?l_check_bounds ?c_check_bounds ?k_check_bounds ?a_check_hefts ?l_check_hefts ?c_check_hefts ?k_check_hefts ?a_check_standings ?l_check_standings ?c_check_standings ?k_check_standings ?a_as_standing ?l_as_standing ?c_as_standing ?k_as_standing ?a_tilt ?l_tilt ?c_tilt ?k_tilt ?a_past ?l_past ?c_past ?k_past ?a_keeps ?l_keeps ?c_keeps ?k_keeps ?a_in_hand ?l_in_hand ?c_in_hand ?k_in_hand ?a_moved ?l_moved ?c_moved ?k_moved ?a_turned ?l_turned ?c_turned ?k_turned ?a_behind ?l_behind ?c_behind ?k_behind ?a_full ?l_full ?c_full ?k_full ?a_check_move ?l_check_move ?c_check_move ?k_check_move ?a_check_weight ?l_check_weight ?c_check_weight ?k_check_weight ?a_check_put ?l_check_put ?c_check_put ?k_check_put ?a_check_tilts ?l_check_tilts ?c_check_tilts ?k_check_tilts ?a_Play_init ?i_Play_init ?l_Play_init ?c_Play_init ?k_Play_init ?a_Play_move ?i_Play_move ?l_Play_move ?c_Play_move ?k_Play_move ?a_Play_back ?i_Play_back ?l_Play_back ?c_Play_back ?k_Play_back ?a_Play_trail ?i_Play_trail ?l_Play_trail ?c_Play_trail ?k_Play_trail ?a_w_at ?l_w_at ?c_w_at ?k_w_at ?a_w_whole ?l_w_whole ?c_w_whole ?k_w_whole ?a_w_figs ?l_w_figs ?c_w_figs ?k_w_figs ?a_w_shape ?l_w_shape ?c_w_shape ?k_w_shape ?a_w_put ?l_w_put ?c_w_put ?k_w_put ?a_w_tilt ?l_w_tilt ?c_w_tilt ?k_w_tilt ?a_w_limit ?l_w_limit ?c_w_limit ?k_w_limit ?a_w_hard ?l_w_hard ?c_w_hard ?k_w_hard ?a_w_case ?l_w_case ?c_w_case ?k_w_case ?a_w_word ?l_w_word ?c_w_word ?k_w_word ?a_w_near ?l_w_near ?c_w_near ?k_w_near ?a_w_same ?l_w_same ?c_w_same ?k_w_same ?a_w_same_rows ?l_w_same_rows ?c_w_same_rows ?k_w_same_rows ?a_w_beam ?l_w_beam ?c_w_beam ?k_w_beam ?a_w_pick ?l_w_pick ?c_w_pick ?k_w_pick ?a_w_any_move ?l_w_any_move ?c_w_any_move ?k_w_any_move ?a_w_done ?l_w_done ?c_w_done ?k_w_done ?a_w_chosen ?l_w_chosen ?c_w_chosen ?k_w_chosen ?a_w_deed ?l_w_deed ?c_w_deed ?k_w_deed ?a_law ?l_law ?c_law ?k_law ?pg_Beam ?hd_Beam ?po_Beam ?sa_Beam ?mk_Beam ?kc_Beam ?na_Beam_notches ?na_Beam_room ?na_Beam_hefts ?na_Beam_limit ?pg_Play ?hd_Play ?po_Play ?sa_Play ?mk_Play ?kc_Play ?na_Play_beam ?na_Play_start ?na_Play_standing ?na_Play_made ?ob_NoWeight ?mv_NoWeight ?sa_NoWeight ?kc_NoWeight ?ob_NoPlace ?mv_NoPlace ?sa_NoPlace ?kc_NoPlace ?ob_SamePlace ?mv_SamePlace ?sa_SamePlace ?kc_SamePlace ?ob_NoRoom ?mv_NoRoom ?sa_NoRoom ?kc_NoRoom ?ob_TipsInHand ?mv_TipsInHand ?sa_TipsInHand ?kc_TipsInHand ?ob_TipsBehind ?mv_TipsBehind ?sa_TipsBehind ?kc_TipsBehind ?ob_PlayFull ?mv_PlayFull ?sa_PlayFull ?kc_PlayFull ?ob_NothingBack ?mv_NothingBack ?sa_NothingBack ?kc_NothingBack ?na_NoWeight_reason ?na_NoWeight_word ?na_NoPlace_reason ?na_NoPlace_word ?na_SamePlace_reason ?na_SamePlace_word ?na_NoRoom_reason ?na_NoRoom_word ?na_TipsInHand_reason ?na_TipsInHand_word ?na_TipsBehind_reason ?na_TipsBehind_word ?na_PlayFull_reason ?na_PlayFull_word ?na_NothingBack_reason ?na_NothingBack_word ?xw1 ?xw2 ?cx_BeamError ?ty_BeamError ?cx_NoWeight ?ty_NoWeight ?cx_NoPlace ?ty_NoPlace ?cx_SamePlace ?ty_SamePlace ?cx_NoRoom ?ty_NoRoom ?cx_TipsInHand ?ty_TipsInHand ?cx_TipsBehind ?ty_TipsBehind ?cx_NothingBack ?ty_NothingBack ?cx_PlayFull ?ty_PlayFull ?be_BeamError ?xp_NoWeight ?xq_NoWeight ?xr_NoWeight ?xh_NoWeight ?xk_NoWeight ?xo_NoWeight ?sb_NoWeight_BeamError ?ne_NoWeight_NoPlace ?si_NoWeight_NoPlace ?ne_NoWeight_SamePlace ?si_NoWeight_SamePlace ?ne_NoWeight_NoRoom ?si_NoWeight_NoRoom ?ne_NoWeight_TipsInHand ?si_NoWeight_TipsInHand ?ne_NoWeight_TipsBehind ?si_NoWeight_TipsBehind ?ne_NoWeight_NothingBack ?si_NoWeight_NothingBack ?ne_NoWeight_PlayFull ?si_NoWeight_PlayFull ?st_NoWeight_ValueError ?xp_NoPlace ?xq_NoPlace ?xr_NoPlace ?xh_NoPlace ?xk_NoPlace ?xo_NoPlace ?sb_NoPlace_BeamError ?ne_NoPlace_NoWeight ?si_NoPlace_NoWeight ?ne_NoPlace_SamePlace ?si_NoPlace_SamePlace ?ne_NoPlace_NoRoom ?si_NoPlace_NoRoom ?ne_NoPlace_TipsInHand ?si_NoPlace_TipsInHand ?ne_NoPlace_TipsBehind ?si_NoPlace_TipsBehind ?ne_NoPlace_NothingBack ?si_NoPlace_NothingBack ?ne_NoPlace_PlayFull ?si_NoPlace_PlayFull ?st_NoPlace_ValueError ?xp_SamePlace ?xq_SamePlace ?xr_SamePlace ?xh_SamePlace ?xk_SamePlace ?xo_SamePlace ?sb_SamePlace_BeamError ?ne_SamePlace_NoWeight ?si_SamePlace_NoWeight ?ne_SamePlace_NoPlace ?si_SamePlace_NoPlace ?ne_SamePlace_NoRoom ?si_SamePlace_NoRoom ?ne_SamePlace_TipsInHand ?si_SamePlace_TipsInHand ?ne_SamePlace_TipsBehind ?si_SamePlace_TipsBehind ?ne_SamePlace_NothingBack ?si_SamePlace_NothingBack ?ne_SamePlace_PlayFull ?si_SamePlace_PlayFull ?st_SamePlace_ValueError ?xp_NoRoom ?xq_NoRoom ?xr_NoRoom ?xh_NoRoom ?xk_NoRoom ?xo_NoRoom ?sb_NoRoom_BeamError ?ne_NoRoom_NoWeight ?si_NoRoom_NoWeight ?ne_NoRoom_NoPlace ?si_NoRoom_NoPlace ?ne_NoRoom_SamePlace ?si_NoRoom_SamePlace ?ne_NoRoom_TipsInHand ?si_NoRoom_TipsInHand ?ne_NoRoom_TipsBehind ?si_NoRoom_TipsBehind ?ne_NoRoom_NothingBack ?si_NoRoom_NothingBack ?ne_NoRoom_PlayFull ?si_NoRoom_PlayFull ?st_NoRoom_ValueError ?xp_TipsInHand ?xq_TipsInHand ?xr_TipsInHand ?xh_TipsInHand ?xk_TipsInHand ?xo_TipsInHand ?sb_TipsInHand_BeamError ?ne_TipsInHand_NoWeight ?si_TipsInHand_NoWeight ?ne_TipsInHand_NoPlace ?si_TipsInHand_NoPlace ?ne_TipsInHand_SamePlace ?si_TipsInHand_SamePlace ?ne_TipsInHand_NoRoom ?si_TipsInHand_NoRoom ?ne_TipsInHand_TipsBehind ?si_TipsInHand_TipsBehind ?ne_TipsInHand_NothingBack ?si_TipsInHand_NothingBack ?ne_TipsInHand_PlayFull ?si_TipsInHand_PlayFull ?st_TipsInHand_ValueError ?xp_TipsBehind ?xq_TipsBehind ?xr_TipsBehind ?xh_TipsBehind ?xk_TipsBehind ?xo_TipsBehind ?sb_TipsBehind_BeamError ?ne_TipsBehind_NoWeight ?si_TipsBehind_NoWeight ?ne_TipsBehind_NoPlace ?si_TipsBehind_NoPlace ?ne_TipsBehind_SamePlace ?si_TipsBehind_SamePlace ?ne_TipsBehind_NoRoom ?si_TipsBehind_NoRoom ?ne_TipsBehind_TipsInHand ?si_TipsBehind_TipsInHand ?ne_TipsBehind_NothingBack ?si_TipsBehind_NothingBack ?ne_TipsBehind_PlayFull ?si_TipsBehind_PlayFull ?st_TipsBehind_ValueError ?xp_PlayFull ?xq_PlayFull ?xr_PlayFull ?xh_PlayFull ?xk_PlayFull ?xo_PlayFull ?sb_PlayFull_BeamError ?ne_PlayFull_NoWeight ?si_PlayFull_NoWeight ?ne_PlayFull_NoPlace ?si_PlayFull_NoPlace ?ne_PlayFull_SamePlace ?si_PlayFull_SamePlace ?ne_PlayFull_NoRoom ?si_PlayFull_NoRoom ?ne_PlayFull_TipsInHand ?si_PlayFull_TipsInHand ?ne_PlayFull_TipsBehind ?si_PlayFull_TipsBehind ?ne_PlayFull_NothingBack ?si_PlayFull_NothingBack ?st_PlayFull_ValueError ?xp_NothingBack ?xq_NothingBack ?xr_NothingBack ?xh_NothingBack ?xk_NothingBack ?xo_NothingBack ?sb_NothingBack_BeamError ?ne_NothingBack_NoWeight ?si_NothingBack_NoWeight ?ne_NothingBack_NoPlace ?si_NothingBack_NoPlace ?ne_NothingBack_SamePlace ?si_NothingBack_SamePlace ?ne_NothingBack_NoRoom ?si_NothingBack_NoRoom ?ne_NothingBack_TipsInHand ?si_NothingBack_TipsInHand ?ne_NothingBack_TipsBehind ?si_NothingBack_TipsBehind ?ne_NothingBack_PlayFull ?si_NothingBack_PlayFull ?st_NothingBack_ValueError ?ga_BeamError ?rd_BeamError ?fd_BeamError ?n_tuple ?n_len ?n_range ?n_sum ?n_zip ?n_abs ?n_list ?n_isinstance ?n_int ?n_bool ?n_min ?n_max ?n_ValueError ?g_MOST_NOTCHES ?g_MOST_ROOM ?g_MOST_LIMIT ?g_MOST_WEIGHTS ?g_MOST_HEFT ?g_MOST_STANDINGS ?g_MOST_MOVES
    (case a_Beam => k_is)
    (case a_Play => k_is)
    (case a_NoWeight => k_is)
    (case a_NoPlace => k_is)
    (case a_SamePlace => k_is)
    (case a_NoRoom => k_is)
    (case a_TipsInHand => k_is)
    (case a_TipsBehind => k_is)
    (case a_PlayFull => k_is)
    (case a_NothingBack => k_is)
    (case a_BeamError => k_is)
    (case a_BeamError_init => k_is)
    (case i_BeamError_init => k_is)
    (case l_BeamError_init => k_is)
    (case c_BeamError_init => k_is)
    (case k_BeamError_init => k_is)
    (case dt_BeamError_init => k_is)
    (case a_NoWeight_init => k_is)
    (case i_NoWeight_init => k_is)
    (case l_NoWeight_init => k_is)
    (case c_NoWeight_init => k_is)
    (case k_NoWeight_init => k_is)
    (case dt_NoWeight_init => k_is)
    (case a_NoPlace_init => k_is)
    (case i_NoPlace_init => k_is)
    (case l_NoPlace_init => k_is)
    (case c_NoPlace_init => k_is)
    (case k_NoPlace_init => k_is)
    (case dt_NoPlace_init => k_is)
    (case a_SamePlace_init => k_is)
    (case i_SamePlace_init => k_is)
    (case l_SamePlace_init => k_is)
    (case c_SamePlace_init => k_is)
    (case k_SamePlace_init => k_is)
    (case dt_SamePlace_init => k_is)
    (case a_NoRoom_init => k_is)
    (case i_NoRoom_init => k_is)
    (case l_NoRoom_init => k_is)
    (case c_NoRoom_init => k_is)
    (case k_NoRoom_init => k_is)
    (case dt_NoRoom_init => k_is)
    (case a_TipsInHand_init => k_is)
    (case i_TipsInHand_init => k_is)
    (case l_TipsInHand_init => k_is)
    (case c_TipsInHand_init => k_is)
    (case k_TipsInHand_init => k_is)
    (case dt_TipsInHand_init => k_is)
    (case a_TipsBehind_init => k_is)
    (case i_TipsBehind_init => k_is)
    (case l_TipsBehind_init => k_is)
    (case c_TipsBehind_init => k_is)
    (case k_TipsBehind_init => k_is)
    (case dt_TipsBehind_init => k_is)
    (case a_PlayFull_init => k_is)
    (case i_PlayFull_init => k_is)
    (case l_PlayFull_init => k_is)
    (case c_PlayFull_init => k_is)
    (case k_PlayFull_init => k_is)
    (case dt_PlayFull_init => k_is)
    (case a_NothingBack_init => k_is)
    (case i_NothingBack_init => k_is)
    (case l_NothingBack_init => k_is)
    (case c_NothingBack_init => k_is)
    (case k_NothingBack_init => k_is)
    (case dt_NothingBack_init => k_is)
    (case a_Beam_init => k_is)
    (case i_Beam_init => k_is)
    (case l_Beam_init => k_is)
    (case c_Beam_init => k_is)
    (case k_Beam_init => k_is)
    (case a_outside => k_is)
    (case l_outside => k_is)
    (case c_outside => k_is)
    (case k_outside => k_is)
    (case a_check_bounds => k_is)
    (case l_check_bounds => k_is)
    (case c_check_bounds => k_is)
    (case k_check_bounds => k_is)
    (case a_check_hefts => k_is)
    (case l_check_hefts => k_is)
    (case c_check_hefts => k_is)
    (case k_check_hefts => k_is)
    (case a_check_standings => k_is)
    (case l_check_standings => k_is)
    (case c_check_standings => k_is)
    (case k_check_standings => k_is)
    (case a_as_standing => k_is)
    (case l_as_standing => k_is)
    (case c_as_standing => k_is)
    (case k_as_standing => k_is)
    (case a_tilt => k_is)
    (case l_tilt => k_is)
    (case c_tilt => k_is)
    (case k_tilt => k_is)
    (case a_past => k_is)
    (case l_past => k_is)
    (case c_past => k_is)
    (case k_past => k_is)
    (case a_keeps => k_is)
    (case l_keeps => k_is)
    (case c_keeps => k_is)
    (case k_keeps => k_is)
    (case a_in_hand => k_is)
    (case l_in_hand => k_is)
    (case c_in_hand => k_is)
    (case k_in_hand => k_is)
    (case a_moved => k_is)
    (case l_moved => k_is)
    (case c_moved => k_is)
    (case k_moved => k_is)
    (case a_turned => k_is)
    (case l_turned => k_is)
    (case c_turned => k_is)
    (case k_turned => k_is)
    (case a_behind => k_is)
    (case l_behind => k_is)
    (case c_behind => k_is)
    (case k_behind => k_is)
    (case a_full => k_is)
    (case l_full => k_is)
    (case c_full => k_is)
    (case k_full => k_is)
    (case a_check_move => k_is)
    (case l_check_move => k_is)
    (case c_check_move => k_is)
    (case k_check_move => k_is)
    (case a_check_weight => k_is)
    (case l_check_weight => k_is)
    (case c_check_weight => k_is)
    (case k_check_weight => k_is)
    (case a_check_put => k_is)
    (case l_check_put => k_is)
    (case c_check_put => k_is)
    (case k_check_put => k_is)
    (case a_check_tilts => k_is)
    (case l_check_tilts => k_is)
    (case c_check_tilts => k_is)
    (case k_check_tilts => k_is)
    (case a_Play_init => k_is)
    (case i_Play_init => k_is)
    (case l_Play_init => k_is)
    (case c_Play_init => k_is)
    (case k_Play_init => k_is)
    (case a_Play_move => k_is)
    (case i_Play_move => k_is)
    (case l_Play_move => k_is)
    (case c_Play_move => k_is)
    (case k_Play_move => k_is)
    (case a_Play_back => k_is)
    (case i_Play_back => k_is)
    (case l_Play_back => k_is)
    (case c_Play_back => k_is)
    (case k_Play_back => k_is)
    (case a_Play_trail => k_is)
    (case i_Play_trail => k_is)
    (case l_Play_trail => k_is)
    (case c_Play_trail => k_is)
    (case k_Play_trail => k_is)
    (case a_w_at => k_is)
    (case l_w_at => k_is)
    (case c_w_at => k_is)
    (case k_w_at => k_is)
    (case a_w_whole => k_is)
    (case l_w_whole => k_is)
    (case c_w_whole => k_is)
    (case k_w_whole => k_is)
    (case a_w_figs => k_is)
    (case l_w_figs => k_is)
    (case c_w_figs => k_is)
    (case k_w_figs => k_is)
    (case a_w_shape => k_is)
    (case l_w_shape => k_is)
    (case c_w_shape => k_is)
    (case k_w_shape => k_is)
    (case a_w_put => k_is)
    (case l_w_put => k_is)
    (case c_w_put => k_is)
    (case k_w_put => k_is)
    (case a_w_tilt => k_is)
    (case l_w_tilt => k_is)
    (case c_w_tilt => k_is)
    (case k_w_tilt => k_is)
    (case a_w_limit => k_is)
    (case l_w_limit => k_is)
    (case c_w_limit => k_is)
    (case k_w_limit => k_is)
    (case a_w_hard => k_is)
    (case l_w_hard => k_is)
    (case c_w_hard => k_is)
    (case k_w_hard => k_is)
    (case a_w_case => k_is)
    (case l_w_case => k_is)
    (case c_w_case => k_is)
    (case k_w_case => k_is)
    (case a_w_word => k_is)
    (case l_w_word => k_is)
    (case c_w_word => k_is)
    (case k_w_word => k_is)
    (case a_w_near => k_is)
    (case l_w_near => k_is)
    (case c_w_near => k_is)
    (case k_w_near => k_is)
    (case a_w_same => k_is)
    (case l_w_same => k_is)
    (case c_w_same => k_is)
    (case k_w_same => k_is)
    (case a_w_same_rows => k_is)
    (case l_w_same_rows => k_is)
    (case c_w_same_rows => k_is)
    (case k_w_same_rows => k_is)
    (case a_w_beam => k_is)
    (case l_w_beam => k_is)
    (case c_w_beam => k_is)
    (case k_w_beam => k_is)
    (case a_w_pick => k_is)
    (case l_w_pick => k_is)
    (case c_w_pick => k_is)
    (case k_w_pick => k_is)
    (case a_w_any_move => k_is)
    (case l_w_any_move => k_is)
    (case c_w_any_move => k_is)
    (case k_w_any_move => k_is)
    (case a_w_done => k_is)
    (case l_w_done => k_is)
    (case c_w_done => k_is)
    (case k_w_done => k_is)
    (case a_w_chosen => k_is)
    (case l_w_chosen => k_is)
    (case c_w_chosen => k_is)
    (case k_w_chosen => k_is)
    (case a_w_deed => k_is)
    (case l_w_deed => k_is)
    (case c_w_deed => k_is)
    (case k_w_deed => k_is)
    (case a_law => k_is)
    (case l_law => k_is)
    (case c_law => k_is)
    (case k_law => k_is)
    (case pg_Beam => k_is)
    (case hd_Beam => k_is)
    (case po_Beam => k_is)
    (case sa_Beam => k_is)
    (case mk_Beam => k_is)
    (case kc_Beam => k_is)
    (case na_Beam_notches => k_is)
    (case na_Beam_room => k_is)
    (case na_Beam_hefts => k_is)
    (case na_Beam_limit => k_is)
    (case pg_Play => k_is)
    (case hd_Play => k_is)
    (case po_Play => k_is)
    (case sa_Play => k_is)
    (case mk_Play => k_is)
    (case kc_Play => k_is)
    (case na_Play_beam => k_is)
    (case na_Play_start => k_is)
    (case na_Play_standing => k_is)
    (case na_Play_made => k_is)
    (case ob_NoWeight => k_is)
    (case mv_NoWeight => first | exact Or.inl rfl | exact Or.inr ⟨_, rfl⟩)
    (case sa_NoWeight => k_is)
    (case kc_NoWeight => k_is)
    (case ob_NoPlace => k_is)
    (case mv_NoPlace => first | exact Or.inl rfl | exact Or.inr ⟨_, rfl⟩)
    (case sa_NoPlace => k_is)
    (case kc_NoPlace => k_is)
    (case ob_SamePlace => k_is)
    (case mv_SamePlace => first | exact Or.inl rfl | exact Or.inr ⟨_, rfl⟩)
    (case sa_SamePlace => k_is)
    (case kc_SamePlace => k_is)
    (case ob_NoRoom => k_is)
    (case mv_NoRoom => first | exact Or.inl rfl | exact Or.inr ⟨_, rfl⟩)
    (case sa_NoRoom => k_is)
    (case kc_NoRoom => k_is)
    (case ob_TipsInHand => k_is)
    (case mv_TipsInHand => first | exact Or.inl rfl | exact Or.inr ⟨_, rfl⟩)
    (case sa_TipsInHand => k_is)
    (case kc_TipsInHand => k_is)
    (case ob_TipsBehind => k_is)
    (case mv_TipsBehind => first | exact Or.inl rfl | exact Or.inr ⟨_, rfl⟩)
    (case sa_TipsBehind => k_is)
    (case kc_TipsBehind => k_is)
    (case ob_PlayFull => k_is)
    (case mv_PlayFull => first | exact Or.inl rfl | exact Or.inr ⟨_, rfl⟩)
    (case sa_PlayFull => k_is)
    (case kc_PlayFull => k_is)
    (case ob_NothingBack => k_is)
    (case mv_NothingBack => first | exact Or.inl rfl | exact Or.inr ⟨_, rfl⟩)
    (case sa_NothingBack => k_is)
    (case kc_NothingBack => k_is)
    (case na_NoWeight_reason => k_is)
    (case na_NoWeight_word => k_is)
    (case na_NoPlace_reason => k_is)
    (case na_NoPlace_word => k_is)
    (case na_SamePlace_reason => k_is)
    (case na_SamePlace_word => k_is)
    (case na_NoRoom_reason => k_is)
    (case na_NoRoom_word => k_is)
    (case na_TipsInHand_reason => k_is)
    (case na_TipsInHand_word => k_is)
    (case na_TipsBehind_reason => k_is)
    (case na_TipsBehind_word => k_is)
    (case na_PlayFull_reason => k_is)
    (case na_PlayFull_word => k_is)
    (case na_NothingBack_reason => k_is)
    (case na_NothingBack_word => k_is)
    (case xw1 => k_is)
    (case xw2 => k_is)
    (case cx_BeamError => k_is)
    (case ty_BeamError => k_is)
    (case cx_NoWeight => k_is)
    (case ty_NoWeight => k_is)
    (case cx_NoPlace => k_is)
    (case ty_NoPlace => k_is)
    (case cx_SamePlace => k_is)
    (case ty_SamePlace => k_is)
    (case cx_NoRoom => k_is)
    (case ty_NoRoom => k_is)
    (case cx_TipsInHand => k_is)
    (case ty_TipsInHand => k_is)
    (case cx_TipsBehind => k_is)
    (case ty_TipsBehind => k_is)
    (case cx_NothingBack => k_is)
    (case ty_NothingBack => k_is)
    (case cx_PlayFull => k_is)
    (case ty_PlayFull => k_is)
    (case be_BeamError => k_is)
    (case xp_NoWeight => k_is)
    (case xq_NoWeight => k_is)
    (case xr_NoWeight => k_is)
    (case xh_NoWeight => k_is)
    (case xk_NoWeight => k_is)
    (case xo_NoWeight => k_is)
    (case sb_NoWeight_BeamError => k_is)
    (case ne_NoWeight_NoPlace => rfl)
    (case si_NoWeight_NoPlace => k_is)
    (case ne_NoWeight_SamePlace => rfl)
    (case si_NoWeight_SamePlace => k_is)
    (case ne_NoWeight_NoRoom => rfl)
    (case si_NoWeight_NoRoom => k_is)
    (case ne_NoWeight_TipsInHand => rfl)
    (case si_NoWeight_TipsInHand => k_is)
    (case ne_NoWeight_TipsBehind => rfl)
    (case si_NoWeight_TipsBehind => k_is)
    (case ne_NoWeight_NothingBack => rfl)
    (case si_NoWeight_NothingBack => k_is)
    (case ne_NoWeight_PlayFull => rfl)
    (case si_NoWeight_PlayFull => k_is)
    (case st_NoWeight_ValueError => k_is)
    (case xp_NoPlace => k_is)
    (case xq_NoPlace => k_is)
    (case xr_NoPlace => k_is)
    (case xh_NoPlace => k_is)
    (case xk_NoPlace => k_is)
    (case xo_NoPlace => k_is)
    (case sb_NoPlace_BeamError => k_is)
    (case ne_NoPlace_NoWeight => rfl)
    (case si_NoPlace_NoWeight => k_is)
    (case ne_NoPlace_SamePlace => rfl)
    (case si_NoPlace_SamePlace => k_is)
    (case ne_NoPlace_NoRoom => rfl)
    (case si_NoPlace_NoRoom => k_is)
    (case ne_NoPlace_TipsInHand => rfl)
    (case si_NoPlace_TipsInHand => k_is)
    (case ne_NoPlace_TipsBehind => rfl)
    (case si_NoPlace_TipsBehind => k_is)
    (case ne_NoPlace_NothingBack => rfl)
    (case si_NoPlace_NothingBack => k_is)
    (case ne_NoPlace_PlayFull => rfl)
    (case si_NoPlace_PlayFull => k_is)
    (case st_NoPlace_ValueError => k_is)
    (case xp_SamePlace => k_is)
    (case xq_SamePlace => k_is)
    (case xr_SamePlace => k_is)
    (case xh_SamePlace => k_is)
    (case xk_SamePlace => k_is)
    (case xo_SamePlace => k_is)
    (case sb_SamePlace_BeamError => k_is)
    (case ne_SamePlace_NoWeight => rfl)
    (case si_SamePlace_NoWeight => k_is)
    (case ne_SamePlace_NoPlace => rfl)
    (case si_SamePlace_NoPlace => k_is)
    (case ne_SamePlace_NoRoom => rfl)
    (case si_SamePlace_NoRoom => k_is)
    (case ne_SamePlace_TipsInHand => rfl)
    (case si_SamePlace_TipsInHand => k_is)
    (case ne_SamePlace_TipsBehind => rfl)
    (case si_SamePlace_TipsBehind => k_is)
    (case ne_SamePlace_NothingBack => rfl)
    (case si_SamePlace_NothingBack => k_is)
    (case ne_SamePlace_PlayFull => rfl)
    (case si_SamePlace_PlayFull => k_is)
    (case st_SamePlace_ValueError => k_is)
    (case xp_NoRoom => k_is)
    (case xq_NoRoom => k_is)
    (case xr_NoRoom => k_is)
    (case xh_NoRoom => k_is)
    (case xk_NoRoom => k_is)
    (case xo_NoRoom => k_is)
    (case sb_NoRoom_BeamError => k_is)
    (case ne_NoRoom_NoWeight => rfl)
    (case si_NoRoom_NoWeight => k_is)
    (case ne_NoRoom_NoPlace => rfl)
    (case si_NoRoom_NoPlace => k_is)
    (case ne_NoRoom_SamePlace => rfl)
    (case si_NoRoom_SamePlace => k_is)
    (case ne_NoRoom_TipsInHand => rfl)
    (case si_NoRoom_TipsInHand => k_is)
    (case ne_NoRoom_TipsBehind => rfl)
    (case si_NoRoom_TipsBehind => k_is)
    (case ne_NoRoom_NothingBack => rfl)
    (case si_NoRoom_NothingBack => k_is)
    (case ne_NoRoom_PlayFull => rfl)
    (case si_NoRoom_PlayFull => k_is)
    (case st_NoRoom_ValueError => k_is)
    (case xp_TipsInHand => k_is)
    (case xq_TipsInHand => k_is)
    (case xr_TipsInHand => k_is)
    (case xh_TipsInHand => k_is)
    (case xk_TipsInHand => k_is)
    (case xo_TipsInHand => k_is)
    (case sb_TipsInHand_BeamError => k_is)
    (case ne_TipsInHand_NoWeight => rfl)
    (case si_TipsInHand_NoWeight => k_is)
    (case ne_TipsInHand_NoPlace => rfl)
    (case si_TipsInHand_NoPlace => k_is)
    (case ne_TipsInHand_SamePlace => rfl)
    (case si_TipsInHand_SamePlace => k_is)
    (case ne_TipsInHand_NoRoom => rfl)
    (case si_TipsInHand_NoRoom => k_is)
    (case ne_TipsInHand_TipsBehind => rfl)
    (case si_TipsInHand_TipsBehind => k_is)
    (case ne_TipsInHand_NothingBack => rfl)
    (case si_TipsInHand_NothingBack => k_is)
    (case ne_TipsInHand_PlayFull => rfl)
    (case si_TipsInHand_PlayFull => k_is)
    (case st_TipsInHand_ValueError => k_is)
    (case xp_TipsBehind => k_is)
    (case xq_TipsBehind => k_is)
    (case xr_TipsBehind => k_is)
    (case xh_TipsBehind => k_is)
    (case xk_TipsBehind => k_is)
    (case xo_TipsBehind => k_is)
    (case sb_TipsBehind_BeamError => k_is)
    (case ne_TipsBehind_NoWeight => rfl)
    (case si_TipsBehind_NoWeight => k_is)
    (case ne_TipsBehind_NoPlace => rfl)
    (case si_TipsBehind_NoPlace => k_is)
    (case ne_TipsBehind_SamePlace => rfl)
    (case si_TipsBehind_SamePlace => k_is)
    (case ne_TipsBehind_NoRoom => rfl)
    (case si_TipsBehind_NoRoom => k_is)
    (case ne_TipsBehind_TipsInHand => rfl)
    (case si_TipsBehind_TipsInHand => k_is)
    (case ne_TipsBehind_NothingBack => rfl)
    (case si_TipsBehind_NothingBack => k_is)
    (case ne_TipsBehind_PlayFull => rfl)
    (case si_TipsBehind_PlayFull => k_is)
    (case st_TipsBehind_ValueError => k_is)
    (case xp_PlayFull => k_is)
    (case xq_PlayFull => k_is)
    (case xr_PlayFull => k_is)
    (case xh_PlayFull => k_is)
    (case xk_PlayFull => k_is)
    (case xo_PlayFull => k_is)
    (case sb_PlayFull_BeamError => k_is)
    (case ne_PlayFull_NoWeight => rfl)
    (case si_PlayFull_NoWeight => k_is)
    (case ne_PlayFull_NoPlace => rfl)
    (case si_PlayFull_NoPlace => k_is)
    (case ne_PlayFull_SamePlace => rfl)
    (case si_PlayFull_SamePlace => k_is)
    (case ne_PlayFull_NoRoom => rfl)
    (case si_PlayFull_NoRoom => k_is)
    (case ne_PlayFull_TipsInHand => rfl)
    (case si_PlayFull_TipsInHand => k_is)
    (case ne_PlayFull_TipsBehind => rfl)
    (case si_PlayFull_TipsBehind => k_is)
    (case ne_PlayFull_NothingBack => rfl)
    (case si_PlayFull_NothingBack => k_is)
    (case st_PlayFull_ValueError => k_is)
    (case xp_NothingBack => k_is)
    (case xq_NothingBack => k_is)
    (case xr_NothingBack => k_is)
    (case xh_NothingBack => k_is)
    (case xk_NothingBack => k_is)
    (case xo_NothingBack => k_is)
    (case sb_NothingBack_BeamError => k_is)
    (case ne_NothingBack_NoWeight => rfl)
    (case si_NothingBack_NoWeight => k_is)
    (case ne_NothingBack_NoPlace => rfl)
    (case si_NothingBack_NoPlace => k_is)
    (case ne_NothingBack_SamePlace => rfl)
    (case si_NothingBack_SamePlace => k_is)
    (case ne_NothingBack_NoRoom => rfl)
    (case si_NothingBack_NoRoom => k_is)
    (case ne_NothingBack_TipsInHand => rfl)
    (case si_NothingBack_TipsInHand => k_is)
    (case ne_NothingBack_TipsBehind => rfl)
    (case si_NothingBack_TipsBehind => k_is)
    (case ne_NothingBack_PlayFull => rfl)
    (case si_NothingBack_PlayFull => k_is)
    (case st_NothingBack_ValueError => k_is)
    (case ga_BeamError => k_is)
    (case rd_BeamError => k_is)
    (case fd_BeamError => k_is)
    (case n_tuple => k_is)
    (case n_len => k_is)
    (case n_range => k_is)
    (case n_sum => k_is)
    (case n_zip => k_is)
    (case n_abs => k_is)
    (case n_list => k_is)
    (case n_isinstance => k_is)
    (case n_int => k_is)
    (case n_bool => k_is)
    (case n_min => k_is)
    (case n_max => k_is)
    (case n_ValueError => k_is)
    (case g_MOST_NOTCHES => k_is)
    (case g_MOST_ROOM => k_is)
    (case g_MOST_LIMIT => k_is)
    (case g_MOST_WEIGHTS => k_is)
    (case g_MOST_HEFT => k_is)
    (case g_MOST_STANDINGS => k_is)
    (case g_MOST_MOVES => k_is)
