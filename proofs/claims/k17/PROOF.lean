import PyProof.Rows.All
import Wide.All
import OpenK.AllK
import Wide.FinOn
import Lean
import PyProof.EqAt
import PyProof.EqKinds
import PyProof.TupleCall
import PyProof.ExcInit
import PyProof.ExcClass3
import PyProof.ExcBaseAll.ValueError
import PyProof.InstStoreFacts
import KE.KTryMore
import PyProof.RulesAs
import PyProof.NsDelKeeps
import PyProof.Rows.SortRuns
import KE.KDictSum
import KE.KSortTup
import PyProof.Rows.SetFrom
import PyProof.Rows.MinMaxN
import KE.KDictOf
import PySem.Challenge.RW_beamtender_k17_beam_text_near
set_option genSizeOf false
set_option bootstrap.genMatcherCode false
set_option Elab.async false
set_option linter.all false
set_option maxRecDepth 100000
set_option maxHeartbeats 4000000
/-! THE HAND LAYER,for ints,bools,texts,own classes,LISTS and tuples (index,slices,in,append,pop ..),calls,loops. Paste it whole ahead of your own text;what your proof does not reach may be deleted. -/
namespace L2
open PySem PySem.Spec PyProof.Rows
noncomputable abbrev Key:=Sum Int Str
noncomputable def zM0:Key->Value->Bool
 | .inl k,v=>Value.isInt k v
 | .inr x,v=>Value.isStrOf x v
noncomputable def keyH (w:World):Key->Int
 | .inl k=>hashInt k
 | .inr x=>hashStr w x
theorem zf4:∀ {k:Key} {v:Value},zM0 k v=true->(∃ i t,k=Sum.inl i/\v=Value.int i t)\/(∃ x t,k=Sum.inr x/\v=Value.str x t)
 | .inl i,v,h=>by
   obtain ⟨t,e⟩:=Value.isInt_shape (k:=i) (v:=v) h
   exact .inl ⟨i,t,rfl,e⟩
 | .inr x,v,h=>by
   obtain ⟨t,e⟩:=Value.isStrOf_shape (x:=x) (v:=v) h
   exact .inr ⟨x,t,rfl,e⟩
theorem key_ll (a b:Int):decide ((Sum.inl a:Key)=Sum.inl b)=(a == b):=by
 by_cases e:a=b
 . subst e;simp
 . have h:¬ (Sum.inl a:Key)=Sum.inl b:=fun q=>e (Sum.inl.inj q)
   rw[decide_eq_false h]
   exact (beq_eq_false_iff_ne.mpr e).symm
theorem key_rr (a b:Str):decide ((Sum.inr a:Key)=Sum.inr b)=decide (a=b):=by
 by_cases e:a=b
 . subst e;simp
 . have h:¬ (Sum.inr a:Key)=Sum.inr b:=fun q=>e (Sum.inr.inj q)
   rw[decide_eq_false h,decide_eq_false e]
theorem key_lr (a:Int) (b:Str):decide ((Sum.inl a:Key)=Sum.inr b)=false:=decide_eq_false (fun q=>nomatch q)
theorem key_rl (a:Str) (b:Int):decide ((Sum.inr a:Key)=Sum.inl b)=false:=decide_eq_false (fun q=>nomatch q)
noncomputable def zH6 (prog:Program) (w:World):PySem.KeyKind prog w Key where
 is:=zM0
 hash:=keyH w
 inj:=fun v a b ha hb=>by
   rcases zf4 ha with ⟨i,t,rfl,rfl⟩ | ⟨x,t,rfl,rfl⟩
   . rcases zf4 hb with ⟨j,u,rfl,e⟩ | ⟨y,u,rfl,e⟩
     . injection e with e1 _;rw[e1]
     . exact nomatch e
   . rcases zf4 hb with ⟨j,u,rfl,e⟩ | ⟨y,u,rfl,e⟩
     . exact nomatch e
     . injection e with e1 _;rw[e1]
 byValue:=fun k v h=>by
   rcases zf4 h with ⟨i,t,rfl,rfl⟩ | ⟨x,t,rfl,rfl⟩<;>rfl
 pyHash:=fun hv h=>by
   rcases zf4 hv with ⟨i,t,rfl,rfl⟩ | ⟨x,t,rfl,rfl⟩
   . exact wpAny_pyHash_int h
   . exact wpAny_pyHash_str h
 eqBool:=fun hu hv h=>by
   rcases zf4 hu with ⟨i,t,rfl,rfl⟩ | ⟨x,t,rfl,rfl⟩
   . rcases zf4 hv with ⟨j,u,rfl,rfl⟩ | ⟨y,u,rfl,rfl⟩
     . rw[key_ll] at h;exact wpAny_eqBool_int h
     . rw[key_lr] at h;exact SeqAt.EqAt.int_str i t y u _ _ _ _ h
   . rcases zf4 hv with ⟨j,u,rfl,rfl⟩ | ⟨y,u,rfl,rfl⟩
     . rw[key_rl] at h;exact SeqAt.EqAt.str_int x t j u _ _ _ _ h
     . rw[key_rr] at h;exact wpAny_eqBool_str h
 «strs»:=fun k x t v h=>by
   rcases zf4 h with ⟨i,u,rfl,e⟩ | ⟨y,u,rfl,e⟩
   . exact nomatch e
   . injection e with e1 _
     subst e1
     cases v<;>rfl
end L2
namespace L2
open PySem PySem.Spec PyProof.Rows
inductive V where
 | non | bl (b:Bool) | int (i:Int) | str (x:Str) | byt (b:Array UInt8) | flt (b:UInt64) | ref (a:Addr) | ty (n:String)
 deriving DecidableEq
noncomputable def RelV:V->Value->Prop
 | .non,u=>u=Value.none
 | .bl b,u=>u=Value.bool b
 | .int i,u=>∃ t,u=Value.int i t
 | .str x,u=>∃ t,u=Value.str x t
 | .byt b,u=>∃ t,u=Value.bytes b t
 | .flt b,u=>∃ t,u=Value.float b t
 | .ref a,u=>u=Value.ref a
 | .ty n,u=>u=Value.type n
noncomputable abbrev Vals:List V->List Value->Prop:=Paired RelV
theorem Vals.length {xs:List V} {us:List Value} (r:Vals xs us):xs.length=us.length:=Paired.length r
theorem Vals.get:∀ {xs:List V} {us:List Value} {i:Nat} {x:V},Vals xs us->xs[i]?=some x->∃ u,us[i]?=some u/\RelV x u
 | _,_,_,_,.nil,e=>by simp at e
 | _,_,0,_,.cons r _,e=>by simp at e;subst e;exact⟨_,rfl,r⟩
 | _,_,i+1,x,.cons _ t,e=>by
   obtain ⟨u,h1,h2⟩:=Vals.get (i:=i) (x:=x) t (by simpa using e)
   exact⟨u,by simpa using h1,h2⟩
theorem Vals.set {x:V} {u:Value} (r:RelV x u):∀ {xs:List V} {us:List Value} (i:Nat),Vals xs us->Vals (xs.set i x) (us.set i u)
 | _,_,_,.nil=>.nil
 | _,_,0,.cons _ t=>.cons r t
 | _,_,i+1,.cons q t=>.cons q (Vals.set r i t)
theorem Vals.append:∀ {xs ys:List V} {us ws:List Value},Vals xs us->Vals ys ws->Vals (xs++ys) (us++ws)
 | _,_,_,_,.nil,s=>s
 | _,_,_,_,.cons r t,s=>.cons r (Vals.append t s)
theorem Vals.take:∀ {xs:List V} {us:List Value} (n:Nat),Vals xs us->Vals (xs.take n) (us.take n)
 | _,_,0,_=>.nil
 | _,_,_+1,.nil=>.nil
 | _,_,n+1,.cons r t=>.cons r (Vals.take n t)
theorem Vals.drop:∀ {xs:List V} {us:List Value} (n:Nat),Vals xs us->Vals (xs.drop n) (us.drop n)
 | _,_,0,r=>r
 | _,_,_+1,.nil=>.nil
 | _,_,n+1,.cons _ t=>Vals.drop n t
noncomputable def RelO:Option V->Option Value->Prop
 | some v,some u=>RelV v u
 | none,none=>True
 | _,_=>False
noncomputable def KV {κ:Type}:List (κ×V)->List (κ×Value)->Prop:=Paired fun (p:κ×V) (q:κ×Value)=>p.1=q.1/\RelV p.2 q.2
noncomputable def kV:Key->V
 | .inl i=>.int i
 | .inr x=>.str x
inductive HO where
 | lst (xs:List V)
 | tup (xs:List V)
 | dK (kvs:List (Key×V)) | dT (kvs:List (List Key×V))
 | set (S:Int->Bool) (n:Nat)
 | ins (C dx:Addr) (fs:List (Str×V))
 | own (x:Addr)
 | xd (fs:List (Str×V))
 | met (f x:Addr)
 | rng (lo hi:Int)
 | frz (o:Obj) (u:HO)
 | tbl (ps:Array Value)
 | ext (φ:Heap->Prop)
noncomputable abbrev Hp:=Addr->Option HO
noncomputable def upd (H:Hp) (a:Addr) (o:HO):Hp:=fun b=>if b=a then some o else H b
theorem za4 {H:Hp} {a:Addr} {o:HO}:upd H a o a=some o:=by unfold upd;rw[if_pos rfl]
theorem za7 {H:Hp} {a b:Addr} {o:HO} (h:b≠a):upd H a o b=H b:=by unfold upd;rw[if_neg h]
theorem zi7 {H:Hp} {a:Addr} {o u:HO}:upd (upd H a o) a u=upd H a u:=by
 funext b;unfold upd;split<;>rfl
theorem zy2 {H:Hp} {a b:Addr} {o u:HO} (h:H a=some o) (h':H b=some u) (d:o≠u):a≠b:=by
 intro e;subst e;rw[h] at h';exact d (Option.some.inj h')
theorem zb8 {H:Hp} {a b:Addr} {o:HO} (h:H a=some o) (h':H b=none):a≠b:=by
 intro e;subst e;rw[h] at h';cases h'
noncomputable def TupD (h:Heap) (a:Addr) (items:Array Value):Prop:=∃ o,h.get? a=some o/\o.cls = .type "tuple"/\o.dict=none/\∃ n,o.data = .seq items n
theorem TupD.isTup {h:Heap} {a:Addr} {items:Array Value} (x:TupD h a items):IsTup h a items:=let ⟨o,e,c,_,n,d⟩:=x;⟨o,e,c,n,d⟩
theorem TupD.new (h:Heap) (items:Array Value):TupD (h.push { cls:=.type "tuple",data:=.seq items }) h.objs.size items:=⟨_,Heap.get?_push_size _ rfl,rfl,rfl,_,rfl⟩
section
variable (P:Program) (w:World)
noncomputable def zh6 (H:Hp) (h:Heap) (a:Addr):HO->Prop
 | .lst xs=>xs.length<=sizeLine/\∃ (its:List Value) (n:Nat),Vals xs its/\h.get? a=some { cls:=.type "list",data:=.seq its.toArray n }
 | .tup xs=>xs.length<=sizeLine/\∃ its:List Value,Vals xs its/\TupD h a its.toArray
 | .dK kvs=>kvs.length<=sizeLine/\(a == sysModules)=false/\∃ vs,KV kvs vs/\h.DictOf (zH6 P w) a vs
 | .dT kvs=>kvs.length<=sizeLine/\(a == sysModules)=false/\∃ xs:List (List Key×Addr×Value),
     Paired (fun (p:List Key×V) (q:List Key×Addr×Value)=>p.1=q.1/\H q.2.1=some (.tup (p.1.map kV))/\RelV p.2 q.2.2) kvs xs ∧
     ∃ o es ep,h.get? a=some o/\o.ExactDict/\o.data = .dict es ep/\es.toList=xs.map (entryOfKey (tupleKind (zH6 P w)))/\(xs.map (·.1)).Nodup
 | .set S n=>h.SetOf (intKind P w) a S n
 | .ins C dx fs=>H dx=some (.own a)/\fs.length<=1000/\dx≠a/\h.get? a=some (PySem.W.instObj C dx) ∧
     ∃ mA,h.Ns1 dx mA/\(∀ f,RelO (fs.lookup f) (mA f))/\PySem.Within mA (fs.map (·.1))
 | .own _=>∃ o,h.get? a=some o
 | .xd fs=>fs.length<=1000/\∃ mA,h.Ns1 a mA/\(∀ f,RelO (fs.lookup f) (mA f))/\PySem.Within mA (fs.map (·.1))
 | .rng lo hi=>∃ t u v,h.get? a=some { cls:=.type "range",data:=.fields #[.int lo t,.int hi u,.int 1 v] }
 | .frz o u=>h.get? a=some o/\zh6 H h a u
 | .tbl ps=>h.get? a=some { cls:=.none,data:=.fields ps }
 | .met f x=>h.get? a=some (PySem.W.methodObj (.ref f) (.ref x))
 | .ext φ=>φ h/\(∃ o,h.get? a=some o)/\∀ h1 h2:Heap,φ h1->(∀ o,h1.get? a=some o->h2.get? a=some o)->φ h2
noncomputable def HOk (H:Hp) (h:Heap):Prop:=∀ a o,H a=some o->zh6 P w H h a o
end
section
variable {P:Program} {w:World} {H H':Hp} {h h':Heap} {a:Addr} {o:HO}
theorem zh6.lt (x:zh6 P w H h a o):a<h.objs.size:=by
 cases o with
 | lst xs=>obtain ⟨_,_,_,_,e⟩:=x;exact Heap.lt_size e
 | tup xs=>obtain ⟨_,_,_,_,e,_⟩:=x;exact Heap.lt_size e
 | dK kvs=>obtain ⟨_,_,_,_,o,_,_,e,_⟩:=x;exact Heap.lt_size e
 | dT kvs=>obtain ⟨_,_,_,_,o,_,_,e,_⟩:=x;exact Heap.lt_size e
 | set S n=>obtain ⟨o,_,_,_,e,_⟩:=x;exact Heap.lt_size e
 | ins C dx fs=>obtain ⟨_,_,_,e,_⟩:=x;exact Heap.lt_size e
 | own y=>obtain ⟨_,e⟩:=x;exact Heap.lt_size e
 | xd fs=>obtain ⟨_,_,⟨_,_,_,e,_⟩,_⟩:=x;exact Heap.lt_size e
 | rng lo hi=>obtain ⟨_,_,_,e⟩:=x;exact Heap.lt_size e
 | frz ob u=>obtain ⟨e,_⟩:=x;exact Heap.lt_size e
 | tbl ps=>exact Heap.lt_size (show h.get? a=some _ from x)
 | met f y=>exact Heap.lt_size (show h.get? a=some _ from x)
 | ext φ=>obtain ⟨_,⟨_,e⟩,_⟩:=x;exact Heap.lt_size e
theorem Paired.mapP {α β:Type} {F G:α->β->Prop}:∀ {l₁:List α} {l₂:List β},Paired F l₁ l₂->(∀ a b,F a b->G a b)->Paired G l₁ l₂
 | _,_,.nil,_=>.nil
 | _,_,.cons r t,f=>.cons (f _ _ r) (Paired.mapP t f)
theorem zh6.stay (x:zh6 P w H h a o) (k:∀ b u,(b=a\/H b=some (.own a))->h.get? b=some u->h'.get? b=some u)
   (ho:∀ b,H b=some (.own a)->H' b=some (.own a)) (ht:∀ b xs,H b=some (.tup xs)->H' b=some (.tup xs)):zh6 P w H' h' a o:=by
 induction o with
 | lst xs=>obtain ⟨z,its,n,r,e⟩:=x;exact⟨z,its,n,r,k _ _ (.inl rfl) e⟩
 | tup xs=>obtain ⟨z,its,r,ob,e,c⟩:=x;exact⟨z,its,r,ob,k _ _ (.inl rfl) e,c⟩
 | dK kvs=>obtain ⟨z,y,vs,r,ob,es,ep,e,c⟩:=x;exact⟨z,y,vs,r,ob,es,ep,k _ _ (.inl rfl) e,c⟩
 | dT kvs =>
   obtain ⟨z,y,xs,r,ob,es,ep,e,c⟩:=x
   exact⟨z,y,xs,Paired.mapP r fun p q z=>⟨z.1,ht _ _ z.2.1,z.2.2⟩,ob,es,ep,k _ _ (.inl rfl) e,c⟩
 | set S n=>obtain ⟨ob,es,ep,t,e,c⟩:=x;exact⟨ob,es,ep,t,k _ _ (.inl rfl) e,c⟩
 | ins C dx fs =>
   obtain ⟨d,z,ne,e,mA,⟨od,es,ep,e2,c⟩,r⟩:=x
   exact⟨ho _ d,z,ne,k _ _ (.inl rfl) e,mA,⟨od,es,ep,k _ _ (.inr d) e2,c⟩,r⟩
 | own y=>obtain ⟨ob,e⟩:=x;exact⟨ob,k _ _ (.inl rfl) e⟩
 | xd fs=>obtain ⟨z,mA,⟨od,es,ep,e,c⟩,r⟩:=x;exact⟨z,mA,⟨od,es,ep,k _ _ (.inl rfl) e,c⟩,r⟩
 | rng lo hi=>obtain ⟨t,u,v,e⟩:=x;exact⟨t,u,v,k _ _ (.inl rfl) e⟩
 | frz ob u ih=>obtain ⟨e,q⟩:=x;exact⟨k _ _ (.inl rfl) e,ih q⟩
 | tbl ps =>
   have e:h.get? a=some { cls:=.none,data:=.fields ps }:=x
   show h'.get? a=some { cls:=.none,data:=.fields ps }
   exact k a _ (.inl rfl) e
 | met f y =>
   have e:h.get? a=some (PySem.W.methodObj (.ref f) (.ref y)):=x
   show h'.get? a=some (PySem.W.methodObj (.ref f) (.ref y))
   exact k a _ (.inl rfl) e
 | ext φ=>obtain ⟨p,⟨o,e⟩,st⟩:=x;exact⟨st _ _ p fun o q=>k _ _ (.inl rfl) q,⟨o,k _ _ (.inl rfl) e⟩,st⟩
theorem HOk.lt (x:HOk P w H h) (e:H a=some o):a<h.objs.size:=(x a o e).lt
theorem HOk.fresh (x:HOk P w H h) (e:h.objs.size<=a):H a=none:=by
 cases q:H a with
 | none=>rfl
 | some u=>exact absurd (Nat.lt_of_lt_of_le (x.lt q) e) (Nat.lt_irrefl _)
theorem HOk.kept (x:HOk P w H h) (k:∀ b u,h.get? b=some u->h'.get? b=some u):HOk P w H h':=fun a o e =>
 (x a o e).stay (fun b u _ q=>k b u q) (fun _ q=>q) fun _ _ q=>q
theorem HOk.laid (x:HOk P w H h) (k:∀ b u,h.get? b=some u->h'.get? b=some u) (hp:h.objs.size<=a) (new:zh6 P w (upd H a o) h' a o):HOk P w (upd H a o) h':=fun b u e=>by
 have hn:=x.fresh hp
 by_cases hb:b=a
 . subst hb;rw[za4] at e;cases e;exact new
 . rw[za7 hb] at e
   exact (x b u e).stay (fun c v _ q=>k c v q) (fun c q=>by rw[za7 (zb8 q hn)];exact q) fun c xs q=>by rw[za7 (zb8 q hn)];exact q
end
noncomputable def Rd (H:Hp) (a:Addr) (u:HO):Prop:=H a=some u\/∃ o,H a=some (.frz o u)
theorem Rd.ok {P:Program} {w:World} {H:Hp} {h:Heap} {a:Addr} {u:HO} (r:Rd H a u) (x:HOk P w H h):zh6 P w H h a u:=by
 rcases r with r | ⟨o,r⟩
 . exact x a u r
 . obtain ⟨_,q⟩:=x a _ r
   exact q
noncomputable def Mut:Option HO->Prop
 | some (.lst _)=>True
 | some (.dK _)=>True
 | some (.dT _)=>True
 | some (.set _ _)=>True
 | some (.ins _ _ _)=>True
 | some (.ext _)=>True
 | some (.xd _)=>True
 | _=>False
section
variable {P:Program} {w:World} {H:Hp} {h h':Heap} {x e:Addr} {o':HO}
theorem HOk.write (ok:HOk P w H h) (mu:Mut (H x)) (he:e=x\/H e=some (.own x)) (k:∀ b u,b≠e->h.get? b=some u->h'.get? b=some u) (heo:∃ u,h'.get? e=some u)
   (new:zh6 P w (upd H x o') h' x o'):HOk P w (upd H x o') h':=fun b u q=>by
 have nown:∀ c y,H c=some (.own y)->c≠x:=fun c y r z=>by subst z;rw[r] at mu;exact mu
 have ntup:∀ c xs,H c=some (.tup xs)->c≠x:=fun c xs r z=>by subst z;rw[r] at mu;exact mu
 by_cases hb:b=x
 . subst hb;rw[za4] at q;cases q;exact new
 . rw[za7 hb] at q
   by_cases hbe:b=e
   . have q':H b=some (.own x):=by
       rcases he with z | z
       . exact absurd (hbe.trans z) hb
       . rw[hbe];exact z
     rw[q] at q';cases q'
     obtain ⟨v,hv⟩:=heo
     exact⟨v,by rw[hbe];exact hv⟩
   . refine (ok b u q).stay (fun c v hc r=>k c v ?_ r) (fun c r=>by rw[za7 (nown c b r)];exact r) fun c xs r=>by rw[za7 (ntup c xs r)];exact r
     rcases hc with rfl | hc
     . exact hbe
     . rintro rfl
       rcases he with z | z
       . exact nown c b hc z
       . rw[hc] at z;cases z;exact hb rfl
end
/-! ### kept unless tracked;of the frames at fs (the callers') the slots may change (an exception that passes writes there);of the records at ex (iterators) nothing is said -/
structure Un (fs ex:List Addr) (H H':Hp) (h h':Heap):Prop where
 keep:∀ b o,h.get? b=some o->H b=none->b∉fs->b∉ex->h'.get? b=some o
 slot:∀ b o,h.get? b=some o->H b=none->b∈fs->b∉ex->∃ sl,h'.get? b=some { o with slots:=sl }
 free:∀ b o,h.get? b=some o->H b=none->b∉ex->H' b=none
 there:∀ b o,h.get? b=some o->b∉ex->∃ o',h'.get? b=some o'
 tups:∀ b xs,H b=some (.tup xs)->H' b=some (.tup xs)
 frzs:∀ b o u,H b=some (.frz o u)->H' b=some (.frz o u)
 tbls:∀ b ps,H b=some (.tbl ps)->∃ more,H' b=some (.tbl (ps++more))
section
variable {fs fs' ex ex':List Addr} {H H1 H2:Hp} {h h1 h2 h':Heap} {a x e:Addr} {o:HO}
theorem Un.any (u:Un fs ex H H1 h h1) {b:Addr} {ob:Obj} (q:h.get? b=some ob) (n:H b=none) (hx:b∉ex):∃ sl,h1.get? b=some { ob with slots:=sl }:=by
 by_cases hb:b∈fs
 . exact u.slot b ob q n hb hx
 . exact⟨ob.slots,u.keep b ob q n hb hx⟩
theorem Un.kept (k:∀ b u,h.get? b=some u->h'.get? b=some u):Un fs ex H H h h' :=
 ⟨fun b ob q _ _ _=>k b ob q,fun b ob q _ _ _=>⟨ob.slots,k b ob q⟩,fun _ _ _ n _=>n,fun b ob q _=>⟨ob,k b ob q⟩,fun _ _ q=>q,fun _ _ _ q=>q,fun _ ps q=>⟨#[],by rw[q];simp⟩⟩
theorem Un.refl:Un fs ex H H h h:=Un.kept fun _ _ q=>q
theorem Un.laid (k:∀ b u,h.get? b=some u->h'.get? b=some u) (hp:h.objs.size<=a) (hn:H a=none):Un fs ex H (upd H a o) h h' where
 keep:=fun b u q _ _ _=>k b u q
 slot:=fun b u q _ _ _=>⟨u.slots,k b u q⟩
 free:=fun b u q n _=>by rw[za7 (Nat.ne_of_lt (Nat.lt_of_lt_of_le (Heap.lt_size q) hp))];exact n
 there:=fun b u q _=>⟨u,k b u q⟩
 tups:=fun b xs q=>by rw[za7 (zb8 q hn)];exact q
 frzs:=fun b u xs q=>by rw[za7 (zb8 q hn)];exact q
 tbls:=fun b ps q=>⟨#[],by rw[za7 (zb8 q hn),q];simp⟩
theorem Un.write (mu:Mut (H x)) (he:e=x\/H e=some (.own x)) (k:∀ b u,b≠e->h.get? b=some u->h'.get? b=some u) (heo:∃ u,h'.get? e=some u):Un fs ex H (upd H x o) h h':=by
 have hx:∀ b,H b=none->b≠x:=fun b n z=>by subst z;rw[n] at mu;exact mu
 have hb:∀ b,H b=none->b≠e:=fun b n z=>by
   subst z
   rcases he with r | r
   . exact hx b n r
   . rw[n] at r;cases r
 have hm:∀ b u,H b=some u->¬ Mut (some u)->b≠x:=fun b u q nm z=>by subst z;rw[q] at mu;exact nm mu
 refine⟨fun b u q n _ _=>k b u (hb b n) q,fun b u q n _ _=>⟨u.slots,k b u (hb b n) q⟩,fun b u q n _=>by rw[za7 (hx b n)];exact n,fun b u q _=>?_,
   fun b xs q=>by rw[za7 (hm b _ q fun z=>z)];exact q,fun b u xs q=>by rw[za7 (hm b _ q fun z=>z)];exact q,fun b ps q=>⟨#[],by rw[za7 (hm b _ q fun z=>z),q];simp⟩⟩
 by_cases hbe:b=e
 . subst hbe;exact heo
 . exact⟨u,k b u hbe q⟩
end
/-! ### the heap without what is tracked -/
noncomputable def trk (h:Heap) (H:Hp):List Addr:=(List.range h.objs.size).filter fun a=>(H a).isSome
noncomputable def hidT (h:Heap) (H:Hp):Heap:=PySem.W.hideAll h (trk h H)
theorem hidT_size (h:Heap) (H:Hp):(hidT h H).objs.size=h.objs.size:=PySem.W.hideAll_size _ _
theorem hidT_get {h:Heap} {H:Hp} {b:Addr} {o:Obj} (e:h.get? b=some o) (n:H b=none):(hidT h H).get? b=some o :=
 PySem.W.hideAll_get _ e fun hm=>by
   have q:(H b).isSome=true:=(List.mem_filter.mp hm).2
   rw[n] at q;simp at q
theorem of_hidT {h:Heap} {H:Hp} {b:Addr} {o:Obj} (e:(hidT h H).get? b=some o):h.get? b=some o/\H b=none:=by
 have e':h.get? b=some o:=PySem.W.of_hideAll (trk h H) e
 refine⟨e',?_⟩
 cases q:H b with
 | none=>rfl
 | some x =>
   have hm:b∈trk h H:=List.mem_filter.mpr ⟨List.mem_range.mpr (Heap.lt_size e'),by simp[q]⟩
   have z:(hidT h H).get? b=none:=PySem.W.hideAll_none (trk h H) hm
   rw[z] at e;cases e
/-! ### OpenK's ledger,filled with every new object but one -/
end L2
namespace L2
open PySem PySem.Spec PyProof.Rows
structure Mod (K:PySem.W.Frag) (mg:Str->Option Value) (base:Heap):Prop where
 kin:K.In base
 glob:base.Ns mainGlobals mg
 blt:∃ mb,base.Ns builtinsNs mb/\∀ x:Str,x≠"__name__"->mb x=bootBuiltins x
 nolimit:base.NoLimit
structure Cx where
 prog:Program
 w:World
 K:PySem.W.Frag
 mg:Str->Option Value
 base:Heap
 A:Around
 N:List Str
 s₀:Shared
 H₀:Hp
 env:Env
 outer:List Env
 stack:List Env
 ex:List Addr
 fn:Str->Bool
 calm:Bool
 pn:List (Addr×Obj)
 xe:Value->Shared->Prop
noncomputable def frs (l:List Env):List Addr:=l.filterMap (·.frame)
noncomputable abbrev Cx.fs (X:Cx):List Addr:=frs X.outer
noncomputable def Vis (sc:Scope) (x:Str):Prop:=sc.names.lookup x=some .local\/sc.names.lookup x=some .cell\/sc.names.lookup x=some .free
noncomputable def Loc (sc:Scope) (x:Str):Prop:=sc.names.lookup x=some .local\/sc.names.lookup x=some .cell
noncomputable def Look (env:Env) (h:Heap) (m:Str->Option Value) (x:Str) (u:Value):Prop :=
 (env.kindOf x=some .local/\m x=some u)\/((env.kindOf x=some .cell\/env.kindOf x=some .free)/\∃ c,env.cells.lookup x=some c/\h.IsCell c (some u))
structure Cx.Ok (X:Cx):Prop where
 mod:Mod X.K X.mg X.base
 kind:X.env.scope.kind = .function
 glob:X.env.globals=mainGlobals
 blt:X.env.builtins=builtinsNs
 above:X.s₀.heap.objs.size<=X.env.locals
 inj:∀ x y c,X.env.cells.lookup x=some c->X.env.cells.lookup y=some c->x=y
 has:∀ x,(X.env.kindOf x=some .cell\/X.env.kindOf x=some .free)->∃ c,X.env.cells.lookup x=some c
 cab:∀ x c,X.fn x=true->X.env.cells.lookup x=some c->X.s₀.heap.objs.size<=c
 hd:X.calm=true->X.A.handled=none
 frames:X.A.frames=some X.stack
 stk:X.stack=X.outer\/(X.stack=X.env::X.outer/\X.env.frame=some X.env.locals)
 exf:∀ b∈X.ex,b≠X.env.locals/\∀ x c,X.env.cells.lookup x=some c->c≠b
 bs:∀ b o,X.base.get? b=some o->X.s₀.heap.get? b=some o/\X.H₀ b=none
 bsz:X.base.objs.size<=X.s₀.heap.objs.size
 noex:∀ b o,X.base.get? b=some o->b∉X.ex
 exfs:∀ b∈X.ex,b∉X.fs
 funs:X.s₀.heap.FunFrames X.base X.outer
 frf:∀ b∈X.fs,X.H₀ b=none
structure Inv (X:Cx) (pins:List (Addr×Obj)) (σ:List (Option V)) (H:Hp) (s:Shared):Prop where
 ok:X.Ok
 os:s.os=X.s₀.os
 bare:AllBare s.gens
 base:Un X.fs X.ex X.H₀ H X.s₀.heap s.heap
 loc:∃ m,s.heap.Ns X.env.locals m/\∀ (i:Nat) (x:Str) (v:V),X.N[i]?=some x->σ[i]?=some (some v)->Vis X.env.scope x->∃ u,RelV v u/\Look X.env s.heap m x u
 cell:∀ x c,X.env.cells.lookup x=some c->∃ v,s.heap.IsCell c v
 free:H X.env.locals=none
 freeC:∀ x c,X.env.cells.lookup x=some c->H c=none
 pin:∀ p∈X.pn++pins,s.heap.get? p.1=some p.2/\H p.1=none/\p.1≠X.env.locals/\p.1∉X.fs/\∀ v,p.2.data≠.cell v
 hok:HOk X.prog X.w H s.heap
 len:σ.length=X.N.length
section
variable {X:Cx} {pins:List (Addr×Obj)} {σ:List (Option V)} {H H':Hp} {s:Shared} {h':Heap}
theorem Cx.Ok.nofr (ok:X.Ok) {b:Addr} {o:Obj} (e:X.base.get? b=some o):b∉X.fs:=fun hb=>by
 have:=(ok.funs.mem hb).1
 rw[e] at this;cases this
theorem Inv.bs (I:Inv X pins σ H s):∀ b o,X.base.get? b=some o->s.heap.get? b=some o/\H b=none:=fun b o e =>
 ⟨I.base.keep b o (I.ok.bs b o e).1 (I.ok.bs b o e).2 (I.ok.nofr e) (I.ok.noex b o e),I.base.free b o (I.ok.bs b o e).1 (I.ok.bs b o e).2 (I.ok.noex b o e)⟩
theorem Inv.bk (I:Inv X pins σ H s):∀ b o,X.base.get? b=some o->s.heap.get? b=some o:=fun b o e=>(I.bs b o e).1
theorem Inv.mod (I:Inv X pins σ H s):Mod X.K X.mg X.base:=I.ok.mod
theorem Inv.kIn (I:Inv X pins σ H s):X.K.In s.heap:=I.ok.mod.kin.keeps I.bk
theorem Inv.lt (I:Inv X pins σ H s):X.env.locals<s.heap.objs.size:=let ⟨_,hn,_⟩:=I.loc;hn.lt
theorem Inv.sz (I:Inv X pins σ H s):X.s₀.heap.objs.size<=s.heap.objs.size:=Nat.le_trans I.ok.above (Nat.le_of_lt I.lt)
theorem Inv.nofs (I:Inv X pins σ H s) {a:Addr} (h:s.heap.objs.size<=a):a∉X.fs:=fun hb=>by
 obtain ⟨_,o,ho,_⟩:=I.ok.funs.mem hb
 exact absurd (Nat.lt_of_lt_of_le (Heap.lt_size ho) (Nat.le_trans I.sz h)) (Nat.lt_irrefl _)
theorem Inv.cne (I:Inv X pins σ H s):∀ x c,X.env.cells.lookup x=some c->c≠X.env.locals:=fun x c e z=>by
 obtain ⟨v,o,ho,hd⟩:=I.cell x c e
 obtain ⟨m,⟨o',es,ep,ho',hd',_⟩,_⟩:=I.loc
 rw[z,ho'] at ho;cases ho;rw[hd'] at hd;cases hd
theorem Inv.funs (I:Inv X pins σ H s):s.heap.FunFrames X.base X.outer:=by
 have all:∀ (l:List Env),(∀ b∈frs l,b∈X.fs)->X.s₀.heap.FunFrames X.base l->s.heap.FunFrames X.base l:=by
   intro l
   induction l with
   | nil=>intro _ _;trivial
   | cons env r ih =>
     intro hs hl
     obtain ⟨hk,⟨L,o,hf,hn,ho,hd⟩,hr⟩:=hl
     have hL:L∈X.fs:=hs L (by unfold frs;rw[List.filterMap_cons,hf];exact List.mem_cons_self)
     obtain ⟨sl,e⟩:=I.base.slot L o ho (I.ok.frf L hL) hL fun z=>I.ok.exfs L z hL
     exact⟨hk,⟨L,_,hf,hn,e,hd⟩,ih (fun b hb=>hs b (by unfold frs;rw[List.filterMap_cons,hf];exact List.mem_cons_of_mem _ hb)) hr⟩
 exact all X.outer (fun _ hb=>hb) I.ok.funs
theorem Inv.stack (I:Inv X pins σ H s):s.heap.FunFrames X.base X.stack:=by
 rcases I.ok.stk with e | ⟨e,hf⟩
 . rw[e];exact I.funs
 . rw[e]
   obtain ⟨m,hn,_⟩:=I.loc
   refine .cons (by rw[I.ok.kind];decide) hf hn ?_ I.funs
   exact Heap.get?_none_of_le (Nat.le_trans I.ok.bsz I.ok.above)
theorem Inv.stkSub (I:Inv X pins σ H s):∀ b∈frs X.stack,b∈X.env.locals::X.fs:=fun b hb=>by
 rcases I.ok.stk with e | ⟨e,hf⟩
 . rw[e] at hb;exact List.mem_cons_of_mem _ hb
 . rw[e] at hb
   unfold frs at hb
   rw[List.filterMap_cons,hf] at hb
   exact hb
theorem Inv.stkFree (I:Inv X pins σ H s):∀ b∈frs X.stack,H b=none:=fun b hb=>by
 rcases List.mem_cons.mp (I.stkSub b hb) with e | hb
 . rw[e];exact I.free
 . obtain ⟨_,o,ho,_⟩:=I.ok.funs.mem hb
   exact I.base.free b o ho (I.ok.frf b hb) fun z=>I.ok.exfs b z hb
theorem Inv.step {g':Array GenState} {t':Nat} {d':Drawn} {ch:List Addr} (I:Inv X pins σ H s)
   (hch:∀ b∈ch,(b∈X.ex\/X.s₀.heap.objs.size<=b)/\b≠X.env.locals/\(∀ x c,X.env.cells.lookup x=some c->c≠b)/\∀ p∈X.pn++pins,p.1≠b)
   (keep:∀ b o,b≠X.env.locals->b∉X.fs->b∉ch->s.heap.get? b=some o->H b=none->h'.get? b=some o)
   (slot:∀ b o,b≠X.env.locals->b∈X.fs->b∉ch->s.heap.get? b=some o->H b=none->∃ sl,h'.get? b=some { o with slots:=sl }) (free:∀ b o,b∉ch->s.heap.get? b=some o->H b=none->H' b=none)
   (there:∀ b o,b∉ch->s.heap.get? b=some o->∃ o',h'.get? b=some o')
   (tups:∀ b xs,H b=some (.tup xs)->H' b=some (.tup xs)) (frzs:∀ b o u,H b=some (.frz o u)->H' b=some (.frz o u)) (tbls:∀ b ps,H b=some (.tbl ps)->∃ more,H' b=some (.tbl (ps++more)))
   (ns:∀ m,s.heap.Ns X.env.locals m->h'.Ns X.env.locals m) (hok:HOk X.prog X.w H' h') (hg:AllBare g') :
   Inv X pins σ H' { s with heap:=h',gens:=g',drawn:=d',toks:=t' }:=by
 have neL:∀ b o,X.s₀.heap.get? b=some o->b≠X.env.locals:=fun b o e=>Nat.ne_of_lt (Nat.lt_of_lt_of_le (Heap.lt_size e) I.ok.above)
 have neC:∀ b o,X.s₀.heap.get? b=some o->b∉X.ex->b∉ch:=fun b o e hx hb=>by
   rcases (hch b hb).1 with z | z
   . exact hx z
   . exact absurd (Nat.lt_of_lt_of_le (Heap.lt_size e) z) (Nat.lt_irrefl _)
 have cellK:∀ x c,X.env.cells.lookup x=some c->∀ v,s.heap.IsCell c v->h'.IsCell c v:=fun x c e v ⟨o,ho,hd⟩=>by
   have nch:c∉ch:=fun z=>(hch c z).2.2.1 x c e rfl
   by_cases hc:c∈X.fs
   . obtain ⟨sl,q⟩:=slot c o (I.cne x c e) hc nch ho (I.freeC x c e)
     exact⟨_,q,hd⟩
   . exact⟨o,keep c o (I.cne x c e) hc nch ho (I.freeC x c e),hd⟩
 refine⟨I.ok,I.os,hg,⟨fun b o e n hb hx=>?_,fun b o e n hb hx=>?_,fun b o e n hx=>?_,fun b o e hx=>?_,fun b xs e=>tups b xs (I.base.tups b xs e),fun b o xs e=>frzs b o xs (I.base.frzs b o xs e),fun b ps e=>?_⟩,?_,fun x c e=>?_,?_,fun x c e=>?_,fun p hp=>?_,hok,I.len⟩
 . exact keep b o (neL b o e) hb (neC b o e hx) (I.base.keep b o e n hb hx) (I.base.free b o e n hx)
 . obtain ⟨sl,e1⟩:=I.base.slot b o e n hb hx
   obtain ⟨sl',e2⟩:=slot b _ (neL b o e) hb (neC b o e hx) e1 (I.base.free b o e n hx)
   exact⟨sl',e2⟩
 . obtain ⟨o',e1⟩:=I.base.there b o e hx
   exact free b o' (neC b o e hx) e1 (I.base.free b o e n hx)
 . obtain ⟨o',e1⟩:=I.base.there b o e hx
   exact there b o' (neC b o e hx) e1
 . obtain ⟨m1,e1⟩:=I.base.tbls b ps e
   obtain ⟨m2,e2⟩:=tbls b _ e1
   exact⟨m1++m2,by rw[e2,Array.append_assoc]⟩
 . obtain ⟨m,hn,hl⟩:=I.loc
   refine⟨m,ns m hn,fun i x v e1 e2 e3=>?_⟩
   obtain ⟨u,r,l⟩:=hl i x v e1 e2 e3
   refine⟨u,r,?_⟩
   rcases l with l | ⟨k,c,e,z⟩
   . exact .inl l
   . exact .inr ⟨k,c,e,cellK x c e _ z⟩
 . obtain ⟨v,z⟩:=I.cell x c e
   exact⟨v,cellK x c e v z⟩
 . obtain ⟨m,⟨o,_,_,ho,_⟩,_⟩:=I.loc
   exact free _ o (fun z=>(hch _ z).2.1 rfl) ho I.free
 . obtain ⟨v,o,ho,hd⟩:=I.cell x c e
   exact free c o (fun z=>(hch c z).2.2.1 x c e rfl) ho (I.freeC x c e)
 . obtain ⟨e,n,ne,nf,d⟩:=I.pin p hp
   have nch:p.1∉ch:=fun z=>(hch p.1 z).2.2.2 p hp rfl
   exact⟨keep p.1 p.2 ne nf nch e n,free p.1 p.2 nch e n,ne,nf,d⟩
theorem Inv.un {t':Nat} (I:Inv X pins σ H s) (u:Un X.fs [] H H' s.heap h') (hok:HOk X.prog X.w H' h'):Inv X pins σ H' { s with heap:=h',toks:=t' }:=by
 obtain ⟨m,⟨o,es,ep,ho,r⟩,_⟩:=id I.loc
 obtain ⟨sl,hL⟩:=u.any ho I.free (by simp)
 exact I.step (g':=s.gens) (d':=s.drawn) (ch:=[]) (fun _ z=>nomatch z) (fun b o _ hb _ e n=>u.keep b o e n hb (by simp)) (fun b o _ hb _ e n=>u.slot b o e n hb (by simp)) (fun b o _ e n=>u.free b o e n (by simp)) (fun b o _ e=>u.there b o e (by simp)) u.tups u.frzs u.tbls (fun m' hm=>by
   obtain ⟨o',es',ep',ho',r'⟩:=hm
   rw[ho] at ho';cases ho'
   exact⟨_,es',ep',hL,r'⟩) hok I.bare
theorem Inv.call {g':Array GenState} {t':Nat} {d':Drawn} {ch:List Addr} (I:Inv X pins σ H s) (u:Un (frs X.stack) ch H H' s.heap h') (hok:HOk X.prog X.w H' h') (hg:AllBare g')
   (hch:∀ b∈ch,(b∈X.ex\/X.s₀.heap.objs.size<=b)/\b≠X.env.locals/\(∀ x c,X.env.cells.lookup x=some c->c≠b)/\∀ p∈X.pn++pins,p.1≠b) :
   Inv X pins σ H' { s with heap:=h',gens:=g',drawn:=d',toks:=t' }:=by
 obtain ⟨m,⟨o,es,ep,ho,r⟩,_⟩:=id I.loc
 obtain ⟨sl,hL⟩:=u.any ho I.free fun z=>(hch _ z).2.1 rfl
 exact I.step (ch:=ch) hch (fun b o hL hb hc e n=>u.keep b o e n (fun z=>(List.mem_cons.mp (I.stkSub b z)).elim hL hb) hc) (fun b o _ _ hc e n=>u.any e n hc) (fun b o hc e n=>u.free b o e n hc) (fun b o hc e=>u.there b o e hc) u.tups u.frzs u.tbls (fun m' hm=>by
   obtain ⟨o',es',ep',ho',r'⟩:=hm
   rw[ho] at ho';cases ho'
   exact⟨_,es',ep',hL,r'⟩) hok hg
theorem Inv.turned {t':Nat} {it:Addr} (I:Inv X pins σ H s) (k:∀ b o,b≠it->s.heap.get? b=some o->h'.get? b=some o) (hn:H it=none) (hL:it≠X.env.locals)
   (h1:it∈X.ex\/X.s₀.heap.objs.size<=it) (h2:∀ x c,X.env.cells.lookup x=some c->c≠it) (h3:∀ p∈X.pn++pins,p.1≠it):Inv X pins σ H { s with heap:=h',toks:=t' }:=by
 have nit:∀ b u,H b=some u->b≠it:=fun b u e z=>by rw[z,hn] at e;cases e
 refine I.step (g':=s.gens) (d':=s.drawn) (ch:=[it]) (fun b hb=>?_) (fun b o _ _ hc e _=>k b o (fun z=>hc (by simp[z])) e) (fun b o _ _ hc e _=>⟨o.slots,k b o (fun z=>hc (by simp[z])) e⟩) (fun _ _ _ _ n=>n)
   (fun b o hc e=>⟨o,k b o (fun z=>hc (by simp[z])) e⟩) (fun _ _ e=>e) (fun _ _ _ e=>e) (fun b ps e=>⟨#[],by rw[e];simp⟩) (fun m hm=>?_) (fun b u e=>?_) I.bare
 . have e:b=it:=by simpa using hb
   subst e
   exact⟨h1,hL,h2,h3⟩
 . obtain ⟨o,es,ep,ho,r⟩:=hm
   exact⟨o,es,ep,k _ o (Ne.symm hL) ho,r⟩
 . refine (I.hok b u e).stay (fun c v hc q=>k c v ?_ q) (fun _ q=>q) fun _ _ q=>q
   rcases hc with z | z
   . rw[z];exact nit b u e
   . exact nit c _ z
theorem Inv.tok (I:Inv X pins σ H s) (t:Nat):Inv X pins σ H { s with toks:=t }:=I.un (h':=s.heap) (t':=t) Un.refl I.hok
theorem Inv.kept {t':Nat} (I:Inv X pins σ H s) (k:∀ b u,s.heap.get? b=some u->h'.get? b=some u):Inv X pins σ H { s with heap:=h',toks:=t' }:=I.un (Un.kept k) (I.hok.kept k)
theorem Inv.laid {a:Addr} {o:HO} {t':Nat} (I:Inv X pins σ H s) (k:∀ b u,s.heap.get? b=some u->h'.get? b=some u) (hp:s.heap.objs.size<=a) (new:zh6 X.prog X.w (upd H a o) h' a o) :
 Inv X pins σ (upd H a o) { s with heap:=h',toks:=t' }:=I.un (Un.laid k hp (I.hok.fresh hp)) (I.hok.laid k hp new)
theorem Inv.write {x e:Addr} {o:HO} {t':Nat} (I:Inv X pins σ H s) (mu:Mut (H x)) (he:e=x\/H e=some (.own x)) (k:∀ b u,b≠e->s.heap.get? b=some u->h'.get? b=some u) (heo:∃ u,h'.get? e=some u)
 (new:zh6 X.prog X.w (upd H x o) h' x o):Inv X pins σ (upd H x o) { s with heap:=h',toks:=t' }:=I.un (Un.write mu he k heo) (I.hok.write mu he k heo new)
theorem Inv.pins_of {pins':List (Addr×Obj)} (I:Inv X pins σ H s) (h:∀ p∈pins',s.heap.get? p.1=some p.2/\H p.1=none/\p.1≠X.env.locals/\p.1∉X.fs/\∀ v,p.2.data≠.cell v):Inv X pins' σ H s :=
 ⟨I.ok,I.os,I.bare,I.base,I.loc,I.cell,I.free,I.freeC,fun p hp=>(List.mem_append.mp hp).elim (fun z=>I.pin p (List.mem_append_left _ z)) (h p),I.hok,I.len⟩
theorem zF7 {N:List Str} (hN:N.Nodup) {i j:Nat} {x:Str} (a:N[i]?=some x) (b:N[j]?=some x):i=j:=by
 obtain ⟨h1,e1⟩:=List.getElem?_eq_some_iff.mp a
 obtain ⟨h2,e2⟩:=List.getElem?_eq_some_iff.mp b
 exact (List.getElem_inj hN).mp (e1.trans e2.symm)
theorem zw9 {M:Model} {A:Around} {E:Value->Shared->Prop} {i:Nat} {x:Str} {v:V} {u:Value} {Q:Unit->Shared->Prop} (I:Inv X pins σ H s) (hN:X.N.Nodup) (hi:X.N[i]?=some x) (hx:Loc X.env.scope x) (r:RelV v u)
   (h:∀ s',Inv X pins (σ.set i (some v)) H s'->(∃ a,Heap.SameBut a s.heap s'.heap/\(a=X.env.locals\/X.env.cells.lookup x=some a))->Q () s') (hf:X.fn x=true\/X.env.scope.names.lookup x=some .local:=by first | exact .inl rfl | exact .inr rfl | assumption):wpAny M A (storeName X.env x u) Q E s:=by
 obtain ⟨m,hn,hl⟩:=id I.loc
 have hcls:(X.env.scope.kind == .class || (X.env.scope.kind == .module && X.env.locals != X.env.globals))=false:=by rw[I.ok.kind];rfl
 have hiσ:i<σ.length:=by rw[I.len];exact (List.getElem?_eq_some_iff.mp hi).1
 have cne:=I.cne
 have tracked:∀ {a:Addr} {h':Heap},(∃ o,s.heap.get? a=some o/\H a=none)->Heap.SameBut a s.heap h'->HOk X.prog X.w H h':=fun {a h'} ha hs b ob e=>by
   obtain ⟨_,_,hfree⟩:=ha
   refine (I.hok b ob e).stay (fun c w' hc q=>(hs.2 c ?_).trans q) (fun _ q=>q) fun _ _ q=>q
   rintro rfl
   rcases hc with rfl | hc
   . rw[hfree] at e;cases e
   . rw[hfree] at hc;cases hc
 rcases hx with hk | hk
 . refine wpAny_storeName_local hk hn (fun h' hn' hs=>?_) hcls
   obtain ⟨oL,_,_,hoL,_⟩:=id hn
   refine h _ ⟨I.ok,I.os,I.bare,⟨fun b o e n hb hx=>?_,fun b o e n hb hx=>?_,I.base.free,fun b o e hx=>?_,I.base.tups,I.base.frzs,I.base.tbls⟩,⟨_,hn',fun j y v' e1 e2 e3=>?_⟩,fun y c e=>?_,I.free,I.freeC,fun p hp=>?_,tracked ⟨oL,hoL,I.free⟩ hs,by simpa using I.len⟩ ⟨_,hs,.inl rfl⟩
   . exact (hs.2 b (Nat.ne_of_lt (Nat.lt_of_lt_of_le (Heap.lt_size e) I.ok.above))).trans (I.base.keep b o e n hb hx)
   . obtain ⟨sl,e1⟩:=I.base.slot b o e n hb hx
     exact⟨sl,(hs.2 b (Nat.ne_of_lt (Nat.lt_of_lt_of_le (Heap.lt_size e) I.ok.above))).trans e1⟩
   . obtain ⟨o',e1⟩:=I.base.there b o e hx
     exact⟨o',(hs.2 b (Nat.ne_of_lt (Nat.lt_of_lt_of_le (Heap.lt_size e) I.ok.above))).trans e1⟩
   . by_cases hj:j=i
     . subst hj
       rw[hi] at e1;cases e1
       rw[List.getElem?_set_self hiσ] at e2
       cases e2
       exact⟨u,r,.inl ⟨hk,by simp⟩⟩
     . rw[List.getElem?_set_ne (Ne.symm hj)] at e2
       obtain ⟨u',r',q⟩:=hl j y v' e1 e2 e3
       refine⟨u',r',?_⟩
       rcases q with ⟨k,e⟩ | ⟨k,c,e,z⟩
       . refine .inl ⟨k,?_⟩
         have:y≠x:=fun e=>hj (zF7 hN e1 (e▸hi))
         simp[this,e]
       . exact .inr ⟨k,c,e,z.sameBut hs (cne y c e)⟩
   . obtain ⟨w',z⟩:=I.cell y c e
     exact⟨w',z.sameBut hs (cne y c e)⟩
   . obtain ⟨e,n,ne,nf,d⟩:=I.pin p hp
     exact⟨(hs.2 p.1 ne).trans e,n,ne,nf,d⟩
 . have hfn:X.fn x=true:=by
     rcases hf with z | z
     . exact z
     . rw[z] at hk;cases hk
   obtain ⟨c,hc⟩:=I.ok.has x (.inl hk)
   obtain ⟨w',z⟩:=I.cell x c hc
   refine wpAny_storeName_cell I.ok.kind hk hc z (fun h' hc' hs=>?_)
   obtain ⟨oc,hoc,hocd⟩:=id z
   refine h { s with heap:=h' } ⟨I.ok,I.os,I.bare,⟨fun b o e n hb hx=>?_,fun b o e n hb hx=>?_,I.base.free,fun b o e hx=>?_,I.base.tups,I.base.frzs,I.base.tbls⟩,⟨m,hn.sameBut hs (Ne.symm (cne x c hc)),fun j y v' e1 e2 e3=>?_⟩,fun y c' e=>?_,I.free,I.freeC,fun p hp=>?_,tracked ⟨oc,hoc,I.freeC x c hc⟩ hs,by simpa using I.len⟩ ⟨c,hs,.inr hc⟩
   . exact (hs.2 b (Nat.ne_of_lt (Nat.lt_of_lt_of_le (Heap.lt_size e) (I.ok.cab x c hfn hc)))).trans (I.base.keep b o e n hb hx)
   . obtain ⟨sl,e1⟩:=I.base.slot b o e n hb hx
     exact⟨sl,(hs.2 b (Nat.ne_of_lt (Nat.lt_of_lt_of_le (Heap.lt_size e) (I.ok.cab x c hfn hc)))).trans e1⟩
   . obtain ⟨o',e1⟩:=I.base.there b o e hx
     exact⟨o',(hs.2 b (Nat.ne_of_lt (Nat.lt_of_lt_of_le (Heap.lt_size e) (I.ok.cab x c hfn hc)))).trans e1⟩
   . by_cases hj:j=i
     . subst hj
       rw[hi] at e1;cases e1
       rw[List.getElem?_set_self hiσ] at e2
       cases e2
       exact⟨u,r,.inr ⟨.inl hk,c,hc,hc'⟩⟩
     . rw[List.getElem?_set_ne (Ne.symm hj)] at e2
       obtain ⟨u',r',q⟩:=hl j y v' e1 e2 e3
       refine⟨u',r',?_⟩
       rcases q with q | ⟨k,c',e,z'⟩
       . exact .inl q
       . refine .inr ⟨k,c',e,z'.sameBut hs ?_⟩
         rintro rfl
         exact hj (zF7 hN e1 (I.ok.inj _ _ _ e hc▸hi))
   . by_cases hcc:c'=c
     . subst hcc;exact⟨_,hc'⟩
     . obtain ⟨w2,z2⟩:=I.cell y c' e
       exact⟨w2,z2.sameBut hs hcc⟩
   . obtain ⟨e,n,ne,nf,d⟩:=I.pin p hp
     refine⟨(hs.2 p.1 ?_).trans e,n,ne,nf,d⟩
     intro q
     rw[q,hoc] at e
     have q':oc=p.2:=Option.some.inj e
     exact d w' (by rw[<-q'];exact hocd)
theorem zF8 {M:Model} {A:Around} {E:Value->Shared->Prop} {i:Nat} {x:Str} {v:V} {u:Value} {Q:Unit->Shared->Prop} (I:Inv X pins σ H s) (hN:X.N.Nodup) (hi:X.N[i]?=some x) (hx:Loc X.env.scope x) (r:RelV v u)
   (h:∀ s',Inv X pins (σ.set i (some v)) H s'->Q () s') (hf:X.fn x=true\/X.env.scope.names.lookup x=some .local:=by first | exact .inl rfl | exact .inr rfl | assumption):wpAny M A (storeName X.env x u) Q E s :=
 zw9 I hN hi hx r (fun s' I' _=>h s' I') hf
theorem Inv.call' {s':Shared} {ch:List Addr} (I:Inv X pins σ H s) (ho:s'.os=s.os) (u:Un (frs X.stack) ch H H' s.heap s'.heap) (hok:HOk X.prog X.w H' s'.heap) (hg:AllBare s'.gens)
   (hch:∀ b∈ch,(b∈X.ex\/X.s₀.heap.objs.size<=b)/\b≠X.env.locals/\(∀ x c,X.env.cells.lookup x=some c->c≠b)/\∀ p∈X.pn++pins,p.1≠b):Inv X pins σ H' s':=by
 obtain ⟨h',g',d',t',o'⟩:=s'
 have e:o'=s.os:=ho
 subst e
 exact I.call (g':=g') (t':=t') (d':=d') u hok hg hch
end
/-! ### the judgements -/
noncomputable abbrev XK:=Value->Option Addr->Hp->Prop
noncomputable abbrev St:=List (Option V)
noncomputable abbrev VK:=V->Hp->Prop
noncomputable abbrev TE:=St->Hp->VK->Prop
noncomputable abbrev TT:=St->Hp->(Bool->Hp->Prop)->Prop
noncomputable abbrev TA:=St->Hp->(List V->Hp->Prop)->Prop
structure Ends where
 nx:St->Hp->Prop
 rt:VK
 bk:St->Hp->Prop:=fun _ _=>False
 ct:St->Hp->Prop:=fun _ _=>False
noncomputable abbrev TS:=Ends->St->Hp->Prop
noncomputable def EP (X:Cx) (pins:List (Addr×Obj)) (σ:St) (Q:VK) (u:Value) (s':Shared):Prop:=∃ v H',Inv X pins σ H' s'/\RelV v u/\Q v H'
noncomputable def TP (X:Cx) (pins:List (Addr×Obj)) (σ:St) (Q:Bool->Hp->Prop) (b:Bool) (s':Shared):Prop:=∃ H',Inv X pins σ H' s'/\Q b H'
noncomputable def AP (X:Cx) (pins:List (Addr×Obj)) (σ:St) (Q:List V->Hp->Prop) (us:List Value) (s':Shared):Prop:=∃ vs H',Inv X pins σ H' s'/\Vals vs us/\Q vs H'
noncomputable def SP (X:Cx) (pins:List (Addr×Obj)) (D:Ends) (f:Flow) (s':Shared):Prop :=
 match f with
 | .next=>∃ σ' H',Inv X pins σ' H' s'/\D.nx σ' H'
 | .brk=>∃ σ' H',Inv X pins σ' H' s'/\D.bk σ' H'
 | .cont=>∃ σ' H',Inv X pins σ' H' s'/\D.ct σ' H'
 | .ret u=>∃ v σ' H',Inv X pins σ' H' s'/\RelV v u/\D.rt v H'
noncomputable def PE (X:Cx) (e:Expr) (t:TE):Prop :=
 ∀ (pins:List (Addr×Obj)) (s:Shared) (σ:St) (H:Hp) (Q:VK),Inv X pins σ H s->t σ H Q->wpAny (model X.prog X.w) X.A (eval e X.env) (EP X pins σ Q) X.xe s
noncomputable def PT (X:Cx) (e:Expr) (t:TT):Prop :=
 ∀ (pins:List (Addr×Obj)) (s:Shared) (σ:St) (H:Hp) (Q:Bool->Hp->Prop),Inv X pins σ H s->t σ H Q->wpAny (model X.prog X.w) X.A (isTrue e X.env (eval e X.env)) (TP X pins σ Q) X.xe s
noncomputable def PW (X:Cx) (e:Expr) (t:TT):Prop :=
 ∀ (whole:Sem Value) (pins:List (Addr×Obj)) (s:Shared) (σ:St) (H:Hp) (Q:Bool->Hp->Prop),Inv X pins σ H s->t σ H Q->wpAny (model X.prog X.w) X.A (isTrue e X.env whole) (TP X pins σ Q) X.xe s
theorem PW.pt {X:Cx} {e:Expr} {t:TT} (h:PW X e t):PT X e t:=h _
noncomputable def PA (X:Cx) (es:List Expr) (t:TA):Prop :=
 ∀ (pos:Pos) (pins:List (Addr×Obj)) (s:Shared) (σ:St) (H:Hp) (Q:List V->Hp->Prop),Inv X pins σ H s->t σ H Q->wpAny (model X.prog X.w) X.A (spliced (backTo pos (starEach es X.env))) (AP X pins σ Q) X.xe s
noncomputable def PS (X:Cx) (st:Stmt) (t:TS):Prop :=
 ∀ (pins:List (Addr×Obj)) (s:Shared) (σ:St) (H:Hp) (D:Ends),Inv X pins σ H s->t D σ H->wpAny (model X.prog X.w) X.A (exec st X.env) (SP X pins D) X.xe s
noncomputable def PSs (X:Cx) (st:List Stmt) (t:TS):Prop :=
 ∀ (pins:List (Addr×Obj)) (s:Shared) (σ:St) (H:Hp) (D:Ends),Inv X pins σ H s->t D σ H->wpAny (model X.prog X.w) X.A (execs st X.env) (SP X pins D) X.xe s
theorem thn {α:Type} {t:Sem α} {Q Q':α->Shared->Prop} {M:Model} {A:Around} {E:Value->Shared->Prop} {s:Shared} (h:wpAny M A t Q E s) (hQ:∀ a s,Q a s->Q' a s):wpAny M A t Q' E s:=wpAny_mono h hQ fun _ _ x=>x
end L2
namespace L2
open PySem PySem.Spec PyProof.Rows
section
variable {X:Cx}
/-! ### names and constants -/
noncomputable def tVar (i:Nat):TE:=fun σ H Q=>∃ v,σ[i]?=some (some v)/\Q v H
noncomputable def tC (v:V):TE:=fun _ H Q=>Q v H
theorem pe_var {i:Nat} {x:Str} {pos:Pos} (hN:X.N[i]?=some x) (hv:Vis X.env.scope x) (hd:(x == ("__debug__" : Str))=false:=by decide) (hcd:(x == ("__classdict__" : Str))=false:=by decide):PE X (.Name x pos) (tVar i):=by
 intro pins s σ H Q I h
 obtain ⟨v,e,h⟩:=h
 obtain ⟨m,hn,hl⟩:=I.loc
 obtain ⟨u,r,l⟩:=hl i x v hN e hv
 have fin:EP X pins σ Q u s:=⟨v,H,I,r,h⟩
 rcases l with ⟨hk,hm⟩ | ⟨hk,c,hc,hcell⟩
 . exact wpAny_Name (wpAny_loadName_local I.ok.kind hk hn hm fin) hd
 . rcases hk with hk | hk
   . exact wpAny_Name (wpAny_loadName_cell I.ok.kind hk hc hcell fin) hd
   . exact wpAny_Name (wpAny_loadName_free I.ok.kind hk hc hcell fin hcd) hd
theorem za1 {i j pos}:PE X (.Constant (.int i) j pos) (tC (.int i)):=fun _ _ _ H _ I h=>wpAny_Constant_int ⟨.int i,H,I.tok _,⟨_,rfl⟩,h⟩
theorem zo9 {b j pos}:PE X (.Constant (.bool b) j pos) (tC (.bl b)):=fun _ _ _ H _ I h=>Constant_bool ⟨.bl b,H,I,rfl,h⟩
theorem zx0 {j pos}:PE X (.Constant .none j pos) (tC .non):=fun _ _ _ H _ I h=>Constant_none ⟨.non,H,I,rfl,h⟩
theorem zb5 {x j pos}:PE X (.Constant (.str x) j pos) (tC (.str x)):=fun _ _ _ H _ I h=>Calls.Constant_str ⟨.str x,H,I.tok _,⟨_,rfl⟩,h⟩
noncomputable def Gl (X:Cx) (x:Str):Prop:=X.env.kindOf x=some .globalImplicit
theorem zt4 {E:Value->Shared->Prop} {pins:List (Addr×Obj)} {s:Shared} {σ:St} {H:Hp} {x:Str} {u:Value} {pos:Pos} {Q:Value->Shared->Prop} (I:Inv X pins σ H s) (hg:Gl X x) (hm:X.mg x=some u) (h:Q u s)
   (hd:(x == ("__debug__" : Str))=false:=by decide):wpAny (model X.prog X.w) X.A (eval (.Name x pos) X.env) Q E s :=
 Calls.Name_function_global I.ok.kind hg (Calls.loadGlobal_global (by rw[I.ok.glob];exact I.mod.glob.keeps I.bk) hm h) hd
theorem zD8 {E:Value->Shared->Prop} {pins:List (Addr×Obj)} {s:Shared} {σ:St} {H:Hp} {x:Str} {u:Value} {pos:Pos} {Q:Value->Shared->Prop} (I:Inv X pins σ H s) (hg:Gl X x) (hm:X.mg x=none) (hv:bootBuiltins x=some u) (h:Q u s)
   (hn:x≠"__name__":=by decide) (hd:(x == ("__debug__" : Str))=false:=by decide):wpAny (model X.prog X.w) X.A (eval (.Name x pos) X.env) Q E s:=by
 obtain ⟨mb,h1,h2⟩:=I.mod.blt
 exact Calls.Name_function_global I.ok.kind hg (Calls.loadGlobal_builtin (by rw[I.ok.glob];exact I.mod.glob.keeps I.bk) hm (by rw[I.ok.blt];exact h1.keeps I.bk) ((h2 x hn).trans hv) h) hd
theorem zl9 {x:Str} {v:V} {u:Value} {pos:Pos} (hg:Gl X x) (hm:X.mg x=some u) (r:RelV v u) (hd:(x == ("__debug__" : Str))=false:=by decide):PE X (.Name x pos) (tC v) :=
 fun _ _ _ H _ I h=>zt4 I hg hm ⟨v,H,I,r,h⟩ hd
theorem zv5 {x:Str} {v:V} {u:Value} {pos:Pos} (hg:Gl X x) (hm:X.mg x=none) (hv:bootBuiltins x=some u) (r:RelV v u) (hn:x≠"__name__":=by decide) (hd:(x == ("__debug__" : Str))=false:=by decide):PE X (.Name x pos) (tC v) :=
 fun _ _ _ H _ I h=>zD8 I hg hm hv ⟨v,H,I,r,h⟩ hn hd
/-! ### arithmetic -/
variable {a b:Expr} {ta tb:TE} {pos:Pos}
/-! ### comparisons -/
noncomputable def tB (t:TE):TT:=fun σ H Q=>t σ H fun x H1=>∃ c,x = .bl c/\Q c H1
theorem zf7 {e:Expr} {t:TE} (h:PE X e t) (he:∀ whole,isTrue e X.env whole=(do let v <-whole;standAt e.pos;holding [v] (truthy v)):=by intro _;rfl):PT X e (tB t):=by
 intro pins s σ H Q I hw
 refine isTrue_plain (thn (h pins s σ H _ I hw) fun v s1 ⟨x,H1,I1,r1,q1⟩=>?_) (he _)
 obtain ⟨d,rfl,q⟩:=q1
 cases r1
 exact wpAny_truthy_bool ⟨H1,I1,q⟩
/-! ### and,or,not -/
variable {tA tB':TT} {rest:List Expr}
noncomputable def tAnd (t u:TT):TT:=fun σ H Q=>t σ H fun c H1=>if c=true then u σ H1 Q else Q false H1
noncomputable def tOr (t u:TT):TT:=fun σ H Q=>t σ H fun c H1=>if c=true then Q true H1 else u σ H1 Q
noncomputable def tNot (t:TT):TT:=fun σ H Q=>t σ H fun c H1=>Q (!c) H1
theorem zy7 (ha:PT X a tA):PW X (.BoolOp .And [a] pos) tA:=by
 intro wh pins s σ H Q I h
 refine isTrue_and (thn (ha pins s σ H Q I h) fun c s1 e=>?_)
 cases c with
 | true=>exact isTrue_and_nil e
 | false=>exact e
theorem zm9 (ha:PT X a tA):PW X (.BoolOp .Or [a] pos) tA:=by
 intro wh pins s σ H Q I h
 refine isTrue_or (thn (ha pins s σ H Q I h) fun c s1 e=>?_)
 cases c with
 | false=>exact isTrue_or_nil e
 | true=>exact e
theorem zD9 (ha:PT X a tA) (hb:PW X (.BoolOp .And (b::rest) pos) tB'):PW X (.BoolOp .And (a::b::rest) pos) (tAnd tA tB'):=by
 intro wh pins s σ H Q I h
 refine isTrue_and (thn (ha pins s σ H _ I h) fun c s1 ⟨H1,I1,q1⟩=>?_)
 cases c with
 | true=>exact hb wh pins s1 σ H1 Q I1 q1
 | false=>exact⟨H1,I1,q1⟩
theorem zl6 (ha:PT X a tA) (hb:PW X (.BoolOp .Or (b::rest) pos) tB'):PW X (.BoolOp .Or (a::b::rest) pos) (tOr tA tB'):=by
 intro wh pins s σ H Q I h
 refine isTrue_or (thn (ha pins s σ H _ I h) fun c s1 ⟨H1,I1,q1⟩=>?_)
 cases c with
 | true=>exact⟨H1,I1,q1⟩
 | false=>exact hb wh pins s1 σ H1 Q I1 q1
theorem zo5 (ha:PT X a tA):PT X (.UnaryOp .Not a pos) (tNot tA):=by
 intro pins s σ H Q I h
 exact isTrue_not (ha pins s σ H (fun c H1=>Q (!c) H1) I h)
noncomputable def tAndV (ta tb:TE):TE:=fun σ H Q=>ta σ H fun x H1=>∃ c,x = .bl c/\if c=true then tb σ H1 Q else Q (.bl false) H1
noncomputable def tOrV (ta tb:TE):TE:=fun σ H Q=>ta σ H fun x H1=>∃ c,x = .bl c/\if c=true then Q (.bl true) H1 else tb σ H1 Q
noncomputable def tNotV (ta:TE):TE:=fun σ H Q=>ta σ H fun x H1=>∃ c,x = .bl c/\Q (.bl (!c)) H1
theorem zz3 {op} {t:TE} (h:PE X a t):PE X (.BoolOp op [a] pos) t:=fun pins s σ H Q I hw=>BoolOp_one (h pins s σ H Q I hw)
theorem zH4 (ha:PE X a ta) (hb:PE X (.BoolOp .And (b::rest) pos) tb):PE X (.BoolOp .And (a::b::rest) pos) (tAndV ta tb):=by
 intro pins s σ H Q I h
 refine BoolOp_and (thn (ha pins s σ H _ I h) fun v s1 ⟨x,H1,I1,r1,q1⟩=>?_)
 obtain ⟨c,rfl,q1⟩:=q1
 cases r1
 refine wpAny_truthy_bool ?_
 cases c with
 | true=>exact hb pins s1 σ H1 Q I1 q1
 | false=>exact⟨.bl false,H1,I1,rfl,q1⟩
theorem zM1 (ha:PE X a ta) (hb:PE X (.BoolOp .Or (b::rest) pos) tb):PE X (.BoolOp .Or (a::b::rest) pos) (tOrV ta tb):=by
 intro pins s σ H Q I h
 refine BoolOp_or (thn (ha pins s σ H _ I h) fun v s1 ⟨x,H1,I1,r1,q1⟩=>?_)
 obtain ⟨c,rfl,q1⟩:=q1
 cases r1
 refine wpAny_truthy_bool ?_
 cases c with
 | false=>exact hb pins s1 σ H1 Q I1 q1
 | true=>exact⟨.bl true,H1,I1,rfl,q1⟩
theorem pe_not (ha:PE X a ta):PE X (.UnaryOp .Not a pos) (tNotV ta):=by
 intro pins s σ H Q I h
 refine UnaryOp_ (thn (ha pins s σ H _ I h) fun v s1 ⟨x,H1,I1,r1,q1⟩=>?_)
 obtain ⟨c,rfl,q1⟩:=q1
 cases r1
 exact not_of (wpAny_truthy_bool ⟨.bl (!c),H1,I1,rfl,q1⟩)
noncomputable def tIf (t:TT) (ta tb:TE):TE:=fun σ H Q=>t σ H fun c H1=>if c=true then ta σ H1 Q else tb σ H1 Q
theorem zF9 {c:Expr} (hc:PT X c tA) (ha:PE X a ta) (hb:PE X b tb):PE X (.IfExp c a b pos) (tIf tA ta tb):=by
 intro pins s σ H Q I h
 refine wpAny_IfExp (thn (hc pins s σ H _ I h) fun d s1 ⟨H1,I1,q1⟩=>?_)
 cases d with
 | true=>exact ha pins s1 σ H1 Q I1 q1
 | false=>exact hb pins s1 σ H1 Q I1 q1
end
end L2
namespace L2
open PySem PySem.Spec PyProof.Rows
/-! ### a list,a tuple that is read: tracked,frozen,or an object of the module -/
noncomputable def SqL (K:PySem.W.Frag) (H:Hp) (a:Addr) (xs:List V):Prop :=
 Rd H a (.lst xs) ∨
   ∃ (o:Obj) (its:Array Value) (n:Nat),K.lookup a=some o/\o.cls = .type "list"/\o.dict=none/\o.data = .seq its n/\its.size<=sizeLine/\Vals xs its.toList
noncomputable def SqT (K:PySem.W.Frag) (H:Hp) (a:Addr) (xs:List V):Prop :=
 Rd H a (.tup xs) ∨
   ∃ (o:Obj) (its:Array Value) (n:Nat),K.lookup a=some o/\o.cls = .type "tuple"/\o.data = .seq its n/\its.size<=sizeLine/\Vals xs its.toList
noncomputable def absV:Value->Option V
 | .none=>some .non
 | .bool b=>some (.bl b)
 | .int i _=>some (.int i)
 | .str x _=>some (.str x)
 | .bytes b _=>some (.byt b)
 | .float b _=>some (.flt b)
 | .ref a=>some (.ref a)
 | .type n=>some (.ty n)
 | _=>none
theorem RelV.abs {x:V} {u:Value} (r:RelV x u):absV u=some x:=by
 cases x with
 | non=>cases r;rfl
 | bl _=>cases r;rfl
 | int _=>obtain ⟨t,rfl⟩:=r;rfl
 | str _=>obtain ⟨t,rfl⟩:=r;rfl
 | byt _=>obtain ⟨t,rfl⟩:=r;rfl
 | flt _=>obtain ⟨t,rfl⟩:=r;rfl
 | ref _=>cases r;rfl
 | ty _=>cases r;rfl
theorem RelV.inj {x y:V} {u:Value} (r:RelV x u) (q:RelV y u):x=y:=Option.some.inj (r.abs.symm.trans q.abs)
theorem Vals.inj:∀ {xs ys:List V} {us:List Value},Vals xs us->Vals ys us->xs=ys
 | _,_,_,.nil,.nil=>rfl
 | _,_,_,.cons r t,.cons r' t'=>by rw[r.inj r',Vals.inj t t']
section
variable {X:Cx} {pins:List (Addr×Obj)} {σ:St} {H:Hp} {s:Shared} {a:Addr} {xs ys:List V}
theorem SqL.of {K:PySem.W.Frag} (h:H a=some (.lst xs)):SqL K H a xs:=.inl (.inl h)
theorem SqT.of {K:PySem.W.Frag} (h:H a=some (.tup xs)):SqT K H a xs:=.inl (.inl h)
theorem Inv.list (I:Inv X pins σ H s) (h:SqL X.K H a xs):∃ its:List Value,Vals xs its/\PlainL s.heap a its.toArray/\xs.length<=sizeLine:=by
 rcases h with h | ⟨o,its,n,hk,hc,hd,hs,hz,r⟩
 . obtain ⟨z,its,n,r,e⟩:=h.ok I.hok
   exact⟨its,r,⟨_,n,e,rfl,rfl,rfl⟩,z⟩
 . refine⟨its.toList,r,⟨o,n,I.kIn a o hk,hc,hd,by simpa using hs⟩,?_⟩
   have e:=r.length
   simp only[Array.length_toList] at e
   omega
theorem Inv.tuple (I:Inv X pins σ H s) (h:SqT X.K H a xs):∃ its:List Value,Vals xs its/\IsTup s.heap a its.toArray/\xs.length<=sizeLine:=by
 rcases h with h | ⟨o,its,n,hk,hc,hs,hz,r⟩
 . obtain ⟨z,its,r,p⟩:=h.ok I.hok
   exact⟨its,r,p.isTup,z⟩
 . refine⟨its.toList,r,⟨o,I.kIn a o hk,hc,n,by simpa using hs⟩,?_⟩
   have e:=r.length
   simp only[Array.length_toList] at e
   omega
theorem Inv.list_inj (I:Inv X pins σ H s) (h:SqL X.K H a xs) (h':SqL X.K H a ys):xs=ys:=by
 obtain ⟨its,r,⟨o,n,e,_,_,d⟩,_⟩:=I.list h
 obtain ⟨its',r',⟨o',n',e',_,_,d'⟩,_⟩:=I.list h'
 rw[e] at e';cases e'
 rw[d] at d'
 injection d' with d1 _
 have:its=its':=by simpa using congrArg Array.toList d1
 subst this
 exact r.inj r'
theorem Inv.tuple_inj (I:Inv X pins σ H s) (h:SqT X.K H a xs) (h':SqT X.K H a ys):xs=ys:=by
 obtain ⟨its,r,⟨o,e,_,n,d⟩,_⟩:=I.tuple h
 obtain ⟨its',r',⟨o',e',_,n',d'⟩,_⟩:=I.tuple h'
 rw[e] at e';cases e'
 rw[d] at d'
 injection d' with d1 _
 have:its=its':=by simpa using congrArg Array.toList d1
 subst this
 exact r.inj r'
end
/-! ### another wish about exceptions -/
noncomputable abbrev Cx.wish (X:Cx) (E:Value->Shared->Prop):Cx:={ X with xe:=E }
noncomputable abbrev Cx.nox (X:Cx):Cx:=X.wish fun _ _=>False
theorem Cx.Ok.wish {X:Cx} (ok:X.Ok) (E:Value->Shared->Prop):(X.wish E).Ok :=
 ⟨ok.mod,ok.kind,ok.glob,ok.blt,ok.above,ok.inj,ok.has,ok.cab,ok.hd,ok.frames,ok.stk,ok.exf,ok.bs,ok.bsz,ok.noex,ok.exfs,ok.funs,ok.frf⟩
theorem Cx.Ok.unwish {X:Cx} {E:Value->Shared->Prop} (ok:(X.wish E).Ok):X.Ok :=
 ⟨ok.mod,ok.kind,ok.glob,ok.blt,ok.above,ok.inj,ok.has,ok.cab,ok.hd,ok.frames,ok.stk,ok.exf,ok.bs,ok.bsz,ok.noex,ok.exfs,ok.funs,ok.frf⟩
section
variable {X:Cx} {pins:List (Addr×Obj)} {σ:St} {H:Hp} {s:Shared} {E:Value->Shared->Prop}
theorem Inv.wish (I:Inv X pins σ H s) (E:Value->Shared->Prop):Inv (X.wish E) pins σ H s:=⟨I.ok.wish E,I.os,I.bare,I.base,I.loc,I.cell,I.free,I.freeC,I.pin,I.hok,I.len⟩
theorem Inv.unwish (I:Inv (X.wish E) pins σ H s):Inv X pins σ H s:=⟨I.ok.unwish,I.os,I.bare,I.base,I.loc,I.cell,I.free,I.freeC,I.pin,I.hok,I.len⟩
theorem SP.unwish {D:Ends} {f:Flow} {s':Shared} (h:SP (X.wish E) pins D f s'):SP X pins D f s':=by
 cases f with
 | next=>obtain ⟨σ',H',I,q⟩:=h;exact⟨σ',H',I.unwish,q⟩
 | brk=>obtain ⟨σ',H',I,q⟩:=h;exact⟨σ',H',I.unwish,q⟩
 | cont=>obtain ⟨σ',H',I,q⟩:=h;exact⟨σ',H',I.unwish,q⟩
 | ret u=>obtain ⟨v,σ',H',I,r,q⟩:=h;exact⟨v,σ',H',I.unwish,r,q⟩
theorem PSs.nox {st:List Stmt} {t:TS} (h:PSs X.nox st t):PSs X st t:=fun pins s σ H D I hw =>
 wpAny_mono (h pins s σ H D (I.wish _) hw) (fun _ _ q=>q.unwish) fun _ _ z=>False.elim z
end
/-! ### blocks and small statements -/
section
variable {X:Cx} {st:Stmt} {rest:List Stmt} {t u:TS} {e:Expr} {te:TE} {pos:Pos}
noncomputable def zK1:TS:=fun D σ H=>D.nx σ H
noncomputable def tSeq (t u:TS):TS:=fun D σ H=>t { D with nx:=u D } σ H
theorem zb4:PSs X [] zK1:=fun _ _ σ H _ I h=>wpAny_execs_nil ⟨σ,H,I,h⟩
theorem za2 (h1:PS X st t) (h2:PSs X rest u):PSs X (st::rest) (tSeq t u):=by
 intro pins s σ H D I h
 refine wpAny_execs_cons (thn (h1 pins s σ H { D with nx:=u D } I h) fun f s1 q=>?_)
 cases f with
 | next =>
   obtain ⟨σ',H',I',q⟩:=q
   exact h2 pins s1 σ' H' D I' q
 | ret v=>exact q
 | brk=>exact q
 | cont=>exact q
theorem za6 (h1:PS X st t):PSs X [st] t:=by
 intro pins s σ H D I h
 refine wpAny_execs_cons (thn (h1 pins s σ H D I h) fun f s1 q=>?_)
 cases f with
 | next=>exact wpAny_execs_nil q
 | ret v=>exact q
 | brk=>exact q
 | cont=>exact q
theorem Inv.quiet {pins:List (Addr×Obj)} {σ:St} {H:Hp} {s:Shared} (I:Inv X pins σ H s):interactive X.env=false:=by simp[interactive,I.ok.kind]
noncomputable def tDrop (te:TE):TS:=fun D σ H=>te σ H fun _ H1=>D.nx σ H1
theorem zh3 (he:PE X e te) (hs:swapsWith e none pos.line X.env=pure false:=by rfl):PS X (.Expr e pos) (tDrop te):=by
 intro pins s σ H D I h
 exact wpAny_Expr_any (thn (he pins s σ H _ I h) fun v s1 ⟨x,H1,I1,r1,q1⟩=>⟨σ,H1,I1,q1⟩) I.quiet hs
noncomputable def tRet (te:TE):TS:=fun D σ H=>te σ H D.rt
theorem zc0 (he:PE X e te):PS X (.Return (some e) pos) (tRet te):=by
 intro pins s σ H D I h
 exact wpAny_Return_some (thn (he pins s σ H _ I h) fun v s1 ⟨x,H1,I1,r1,q1⟩=>⟨x,σ,H1,I1,r1,q1⟩)
noncomputable def tIfS (c:TT) (t u:TS):TS:=fun D σ H=>c σ H fun b H1=>if b=true then t D σ H1 else u D σ H1
theorem zc5 {c:Expr} {a b:List Stmt} {tc:TT} (hc:PT X c tc) (ha:PSs X a t) (hb:PSs X b u):PS X (.If c a b pos) (tIfS tc t u):=by
 intro pins s σ H D I h
 refine wpAny_If (thn (hc pins s σ H _ I h) fun d s1 ⟨H1,I1,q1⟩=>?_)
 cases d with
 | true=>exact ha pins s1 σ H1 D I1 q1
 | false=>exact hb pins s1 σ H1 D I1 q1
end
/-! ### targets -/
noncomputable abbrev TG:=V->St->Hp->(St->Hp->Prop)->Prop
noncomputable abbrev TGs:=List V->St->Hp->(St->Hp->Prop)->Prop
noncomputable def PG (X:Cx) (target:Expr) (t:TG):Prop :=
 ∀ (pins:List (Addr×Obj)) (s:Shared) (σ:St) (H:Hp) (v:V) (u:Value) (Q:St->Hp->Prop),Inv X pins σ H s->RelV v u->t v σ H Q →
   wpAny (model X.prog X.w) X.A (assign target X.env u) (fun _ s'=>∃ σ' H',Inv X pins σ' H' s'/\Q σ' H') X.xe s
noncomputable def PGs (X:Cx) (ts:List Expr) (t:TGs):Prop :=
 ∀ (pins:List (Addr×Obj)) (s:Shared) (σ:St) (H:Hp) (vs:List V) (us:List Value) (Q:St->Hp->Prop),Inv X pins σ H s->Vals vs us->t vs σ H Q →
   wpAny (model X.prog X.w) X.A (assignInOrder ((assignEach ts X.env).map (·.2)) us) (fun _ s'=>∃ σ' H',Inv X pins σ' H' s'/\Q σ' H') X.xe s
noncomputable abbrev TSet:=V->V->V->Hp->(Hp->Prop)->Prop
noncomputable def PSet (X:Cx) (t:TSet):Prop :=
 ∀ (pins:List (Addr×Obj)) (s:Shared) (σ:St) (H:Hp) (o i v:V) (ov iv u:Value) (Q:Hp->Prop),Inv X pins σ H s->RelV o ov->RelV i iv->RelV v u->t o i v H Q →
   wpAny (model X.prog X.w) X.A (setItem ov iv u) (fun _ s'=>∃ H',Inv X pins σ H' s'/\Q H') X.xe s
section
variable {X:Cx} {pos:Pos}
noncomputable def zl0 (i:Nat):TG:=fun v σ H Q=>Q (σ.set i (some v)) H
theorem zd3 {i:Nat} {x:Str} (hN:X.N.Nodup) (hi:X.N[i]?=some x) (hx:Loc X.env.scope x) (hf:X.fn x=true\/X.env.scope.names.lookup x=some .local:=by first | exact .inl rfl | exact .inr rfl | assumption):PG X (.Name x pos) (zl0 i):=by
 intro pins s σ H v u Q I r h
 exact wpAny_assign_Name (zF8 I hN hi hx r (fun s' I'=>⟨_,H,I',h⟩) hf)
noncomputable def gNil:TGs:=fun vs σ H Q=>vs=[]/\Q σ H
noncomputable def gCons (t:TG) (u:TGs):TGs:=fun vs σ H Q=>∃ v r,vs=v::r/\t v σ H fun σ' H'=>u r σ' H' Q
theorem zE0:PGs X [] gNil:=by
 intro pins s σ H vs us Q I r h
 obtain ⟨e,h⟩:=h
 subst e
 cases r
 exact assignInOrder_nil ⟨σ,H,I,h⟩
theorem zi6 {e:Expr} {es:List Expr} {t:TG} {u:TGs} (h1:PG X e t) (h2:PGs X es u)
   (hs:(assignEach (e::es) X.env).map (·.2)=assign e X.env::(assignEach es X.env).map (·.2):=by rfl):PGs X (e::es) (gCons t u):=by
 intro pins s σ H vs us Q I r h
 obtain ⟨v,vr,e1,h⟩:=h
 subst e1
 cases r with
 | cons r rr =>
   rw[hs]
   refine assignInOrder_cons (thn (h1 pins s σ H _ _ _ I r h) fun _ s1 ⟨σ1,H1,I1,q1⟩=>?_)
   exact h2 pins s1 σ1 H1 _ _ Q I1 rr q1
noncomputable def gTup (K:PySem.W.Frag) (n:Nat) (t:TGs):TG:=fun v σ H Q=>∃ a xs,v = .ref a/\SqT K H a xs/\xs.length=n/\t xs σ H Q
theorem pg_tup {es:List Expr} {k:Nat} {t:TGs} {n:Nat} (hc:X.calm=true) (h:PGs X es t)
   (hn:(assignEach es X.env).length=n:=by rfl) (hst:(assignEach es X.env).findIdx? (·.1)=none:=by rfl):PG X (.Tuple es k pos) (gTup X.K n t):=by
 intro pins s σ H v u Q I r hw
 obtain ⟨a,xs,e1,hq,hl,hw⟩:=hw
 subst e1
 cases r
 obtain ⟨its,rv,ht,hz⟩:=I.tuple hq
 refine assign_Tuple_tuple (I.ok.hd hc) ht (by simp[hn,<-hl,rv.length]) hst fun h' hx=>?_
 have I1:Inv X pins σ H { s with heap:=h' }:=I.kept (t':=s.toks) fun b o e=>hx b o (Nat.ne_of_lt (Heap.lt_size e)) e
 exact h pins _ σ H xs _ Q I1 (by simpa using rv) hw
noncomputable def gSub (to ti:TE) (t:TSet):TG:=fun v σ H Q=>to σ H fun o H1=>ti σ H1 fun i H2=>t o i v H2 fun H3=>Q σ H3
theorem zz4 {o i:Expr} {to ti:TE} {t:TSet} (ho:PE X o to) (hi:PE X i ti) (hs:PSet X t)
   (ha:∀ v,assign (.Subscript o i pos) X.env v=(do
     let ov <-holding [v] (eval o X.env)
     let iv <-holding [v,ov] (eval i X.env)
     standAt pos
     holding [v,ov,iv] (setItem ov iv v)
     release [v,ov,iv] []):=by intro _;rfl):PG X (.Subscript o i pos) (gSub to ti t):=by
 intro pins s σ H v u Q I r h
 rw[ha]
 refine wpAny_bind (wpAny_holding (thn (ho pins s σ H _ I h) fun ov s1 ⟨x,H1,I1,r1,q1⟩=>?_))
 refine wpAny_bind (wpAny_holding (thn (hi pins s1 σ H1 _ I1 q1) fun iv s2 ⟨y,H2,I2,r2,q2⟩=>?_))
 refine wpAny_bind (wpAny_standAt (wpAny_bind (wpAny_holding (thn (hs pins s2 σ H2 x y v ov iv u _ I2 r1 r2 r q2) fun _ s3 ⟨H3,I3,q3⟩=>?_))))
 exact wpAny_release ⟨σ,H3,I3,q3⟩
noncomputable def tAsg (te:TE) (g:TG):TS:=fun D σ H=>te σ H fun x H1=>g x σ H1 D.nx
theorem zx1 {tg e:Expr} {te:TE} {g:TG} (he:PE X e te) (hg:PG X tg g) (hs:swapsWithSole [tg] e pos.line X.env=pure false:=by rfl) (hw:swappedStores [tg] e X.env=pure none:=by rfl)
   (h1:(assignEach [tg] X.env).map (·.2)=[assign tg X.env]:=by rfl):PS X (.Assign [tg] e pos) (tAsg te g):=by
 intro pins s σ H D I h
 refine wpAny_Assign_stores (thn (he pins s σ H _ I h) fun v s1 ⟨x,H1,I1,r1,q1⟩=>?_) hs hw
 rw[h1]
 exact thn (hg pins s1 σ H1 x v _ I1 r1 q1) fun _ s2 q=>q
theorem zb2 {i:Nat} {x:Str} {e:Expr} {te:TE} {pos':Pos} (hN:X.N.Nodup) (hi:X.N[i]?=some x) (hx:Loc X.env.scope x) (he:PE X e te) (hs:swapsWith e (some (.Name x pos')) pos.line X.env=pure false:=by rfl) (hf:X.fn x=true\/X.env.scope.names.lookup x=some .local:=by first | exact .inl rfl | exact .inr rfl | assumption) :
   PS X (.Assign [.Name x pos'] e pos) (tAsg te (zl0 i)):=by
 intro pins s σ H D I h
 refine wpAny_Assign_Name (thn (he pins s σ H _ I h) fun v s1 ⟨y,H1,I1,r1,q1⟩=>?_) hs
 exact zF8 I1 hN hi hx r1 (fun s2 I2=>⟨_,H1,I2,q1⟩) hf
end
/-! ### while -/
section
variable {X:Cx} {pos:Pos}
end
/-! ### what a loop or a comprehension walks -/
structure It where
 go:Nat->Hp->Prop
 yld:Nat->Hp->V->Hp->Prop
 stop:Nat->Hp->Prop
noncomputable def FpOk (X:Cx) (pins:List (Addr×Obj)) (H:Hp) (b:Addr):Prop :=
 H b=none/\b≠X.env.locals/\b∉X.fs/\(b∈X.ex\/X.s₀.heap.objs.size<=b)/\(∀ x c,X.env.cells.lookup x=some c->c≠b)/\∀ p∈X.pn++pins,p.1≠b
theorem Inv.fpOk {X:Cx} {pins:List (Addr×Obj)} {σ:St} {H H':Hp} {s:Shared} {b:Addr} (I:Inv X pins σ H s) (hb:s.heap.objs.size<=b) (hn:H' b=none):FpOk X pins H' b:=by
 refine⟨hn,Nat.ne_of_gt (Nat.lt_of_lt_of_le I.lt hb),I.nofs hb,.inr (Nat.le_trans I.sz hb),fun x c e z=>?_,fun p hp z=>?_⟩
 . obtain ⟨v,q⟩:=I.cell x c e
   exact absurd (Nat.lt_of_lt_of_le q.lt (by rw[z];exact hb)) (Nat.lt_irrefl _)
 . exact absurd (Nat.lt_of_lt_of_le (Heap.lt_size (I.pin p hp).1) (by rw[z];exact hb)) (Nat.lt_irrefl _)
structure Turn (P:Program) (w:World) (K:PySem.W.Frag) (tg:Expr) (J:It) (fp:List Addr) (it:Addr) (tn:Nat->Heap->Prop):Prop where
 mem:it∈fp
 obj:∀ i h,tn i h->∀ b∈fp,∃ o,h.get? b=some o/\∀ v,o.data≠.cell v
 keep:∀ i h h',tn i h->(∀ b∈fp,∀ o,h.get? b=some o->h'.get? b=some o)->tn i h'
 item:∀ (X:Cx),X.prog=P->X.w=w->X.K=K->X.calm=true->∀ (i:Nat) (pins:List (Addr×Obj)) (s:Shared) (σ:St) (H:Hp) (E:Value->Shared->Prop),Inv X pins σ H s->(∀ b∈fp,FpOk X pins H b)->tn i s.heap->J.go i H →
   wpAny (model P w) X.A (pyNext (.ref it)) (fun r s1=>∃ u,r=some u ∧
     wpAny (model P w) X.A (letOwnedTupleGo tg (.ref it) u) (fun _ s2=>∃ x H',Inv X pins σ H' s2/\RelV x u/\J.yld i H x H'/\tn (i+1) s2.heap/\∀ b∈fp,H' b=none) E s1) E s
 done:∀ (X:Cx),X.prog=P->X.w=w->X.K=K->X.calm=true->∀ (i:Nat) (pins:List (Addr×Obj)) (s:Shared) (σ:St) (H:Hp) (E:Value->Shared->Prop),Inv X pins σ H s->(∀ b∈fp,FpOk X pins H b)->tn i s.heap->J.stop i H →
   wpAny (model P w) X.A (pyNext (.ref it)) (fun r s1=>r=none/\Inv X pins σ H s1) E s
 self:∀ (A:Around) (i:Nat) (s:Shared) (Q:Value->Shared->Prop) (E:Value->Shared->Prop),tn i s.heap->Q (.ref it) s->wpAny (model P w) A (pyIter (.ref it)) Q E s
noncomputable abbrev TI:=St->Hp->(It->Hp->Prop)->Prop
noncomputable def PIE (X:Cx) (pins:List (Addr×Obj)) (σ:St) (tg:Expr) (R:It->Hp->Prop) (itv:Value) (s2:Shared):Prop :=
 ∃ (it:Addr) (fp:List Addr) (tn:Nat->Heap->Prop) (J:It) (H':Hp),itv = .ref it/\Inv X pins σ H' s2/\Turn X.prog X.w X.K tg J fp it tn/\tn 0 s2.heap/\(∀ b∈fp,FpOk X pins H' b)/\R J H'
noncomputable def PI (X:Cx) (tg iter:Expr) (wi:TI):Prop :=
 ∀ (pins:List (Addr×Obj)) (s:Shared) (σ:St) (H:Hp) (R:It->Hp->Prop),Inv X pins σ H s->wi σ H R →
   wpAny (model X.prog X.w) X.A (eval iter X.env) (fun v s1=>wpAny (model X.prog X.w) X.A (pyIter v) (PIE X pins σ tg R) X.xe s1) X.xe s
theorem zH7 {M:Model} {A:Around} {E:Value->Shared->Prop} {s:Shared} {tg:Expr} {it:Addr} {u:Value} {o:Obj} {n:String} {vs:Array Value} {Q:Unit->Shared->Prop} (ho:s.heap.get? it=some o) (hc:o.cls = .type n) (hd:o.data = .fields vs)
   (hn:["enumerate","zip","dict_itemiterator","dict_reverseitemiterator","odict_iterator","itertools.zip_longest","itertools.pairwise"].contains n=false) (hQ:Q () s):wpAny M A (letOwnedTupleGo tg (.ref it) u) Q E s:=by
 unfold letOwnedTupleGo
 cases tg<;>first
   | exact wpAny_pure hQ
   | (cases u<;>first
       | exact wpAny_pure hQ
       | (refine wpAny_bind (wpAny_load ho ?_)
          rw[hc,hd]
          show wpAny M A (if (["enumerate","zip","dict_itemiterator","dict_reverseitemiterator","odict_iterator","itertools.zip_longest","itertools.pairwise"].contains n && vs[0]? == some (rawInt _))=true then _ else _) Q E s
          rw[if_neg (by intro h;rw[hn,Bool.false_and] at h;cases h)]
          exact wpAny_pure hQ))
noncomputable def Itl (K:PySem.W.Frag) (a:Addr):It :=
 ⟨fun i H=>∃ xs x,SqL K H a xs/\xs[i]?=some x,fun i H x H'=>H'=H/\∀ xs,SqL K H a xs->xs[i]?=some x,fun i H=>∃ xs,SqL K H a xs/\xs.length<=i⟩
noncomputable def Itt (K:PySem.W.Frag) (a:Addr):It :=
 ⟨fun i H=>∃ xs x,SqT K H a xs/\xs[i]?=some x,fun i H x H'=>H'=H/\∀ xs,SqT K H a xs->xs[i]?=some x,fun i H=>∃ xs,SqT K H a xs/\xs.length<=i⟩
noncomputable def Itr (lo:Int) (n:Nat):It:=⟨fun i _=>i<n,fun i H x H'=>H'=H/\x = .int (lo+i),fun i _=>n<=i⟩
theorem zB0 {P:Program} {w:World} {K:PySem.W.Frag} {tg:Expr} (a it:Addr):Turn P w K tg (Itl K a) [it] it (fun i h=>h.IsListIter it a i) where
 mem:=by simp
 obj:=fun i h st b hb=>by
   have e:b=it:=by simpa using hb
   subst e
   obtain ⟨o,e,c,d⟩:=st
   exact⟨o,e,fun v z=>by rw[d] at z;cases z⟩
 keep:=fun i h h' st k=>st.at fun o e=>k it (by simp) o e
 item:=by
   intro X hP hw hK hc i pins s σ H E I hf st hg
   subst hP hw hK
   obtain ⟨xs,x,hq,hx⟩:=hg
   obtain ⟨its,rv,p,hz⟩:=I.list hq
   obtain ⟨u,hu,ru⟩:=rv.get hx
   obtain ⟨f0,f1,f2,f3,f4,f5⟩:=hf it (by simp)
   refine wpAny_pyNext_list_item st p.isList (x:=u) (by simpa using hu) fun h' st' sb=>?_
   have I1:Inv X pins σ H { s with heap:=h' }:=I.turned (t':=s.toks) (fun b o hb e=>(sb.2 b hb).trans e) f0 f1 f3 f4 f5
   obtain ⟨o,e,c,d⟩:=id st'
   exact⟨u,rfl,zH7 (s:={ s with heap:=h' }) e c d (by decide) ⟨x,H,I1,ru,⟨rfl,fun ys hy=>by rw[I.list_inj hy hq];exact hx⟩,st',fun b hb=>(hf b hb).1⟩⟩
 done:=by
   intro X hP hw hK hc i pins s σ H E I hf st hg
   subst hP hw hK
   obtain ⟨xs,hq,hx⟩:=hg
   obtain ⟨its,rv,p,hz⟩:=I.list hq
   obtain ⟨f0,f1,f2,f3,f4,f5⟩:=hf it (by simp)
   have hl:=rv.length
   exact wpAny_pyNext_list_end (I.ok.hd hc) st p.isList (by simp;omega) fun h' eb=>⟨rfl,I.turned (t':=s.toks) (fun b o hb e=>eb b o hb e) f0 f1 f3 f4 f5⟩
 self:=fun _ _ _ _ _ st h=>wpAny_pyIter_listiter st h
theorem zz5 {P:Program} {w:World} {K:PySem.W.Frag} {tg:Expr} (a it:Addr):Turn P w K tg (Itt K a) [it] it (fun i h=>h.IsTupleIter it a i) where
 mem:=by simp
 obj:=fun i h st b hb=>by
   have e:b=it:=by simpa using hb
   subst e
   obtain ⟨o,e,c,d⟩:=st
   exact⟨o,e,fun v z=>by rw[d] at z;cases z⟩
 keep:=fun i h h' st k=>st.at fun o e=>k it (by simp) o e
 item:=by
   intro X hP hw hK hc i pins s σ H E I hf st hg
   subst hP hw hK
   obtain ⟨xs,x,hq,hx⟩:=hg
   obtain ⟨its,rv,p,hz⟩:=I.tuple hq
   obtain ⟨u,hu,ru⟩:=rv.get hx
   obtain ⟨f0,f1,f2,f3,f4,f5⟩:=hf it (by simp)
   refine wpAny_pyNext_tuple_item st (show s.heap.IsTuple a its.toArray from p) (x:=u) (by simpa using hu) fun h' st' sb=>?_
   have I1:Inv X pins σ H { s with heap:=h' }:=I.turned (t':=s.toks) (fun b o hb e=>(sb.2 b hb).trans e) f0 f1 f3 f4 f5
   obtain ⟨o,e,c,d⟩:=id st'
   exact⟨u,rfl,zH7 (s:={ s with heap:=h' }) e c d (by decide) ⟨x,H,I1,ru,⟨rfl,fun ys hy=>by rw[I.tuple_inj hy hq];exact hx⟩,st',fun b hb=>(hf b hb).1⟩⟩
 done:=by
   intro X hP hw hK hc i pins s σ H E I hf st hg
   subst hP hw hK
   obtain ⟨xs,hq,hx⟩:=hg
   obtain ⟨its,rv,p,hz⟩:=I.tuple hq
   obtain ⟨f0,f1,f2,f3,f4,f5⟩:=hf it (by simp)
   have hl:=rv.length
   exact wpAny_pyNext_tuple_end (I.ok.hd hc) st (show s.heap.IsTuple a its.toArray from p) (by simp;omega) fun h' eb=>⟨rfl,I.turned (t':=s.toks) (fun b o hb e=>eb b o hb e) f0 f1 f3 f4 f5⟩
 self:=fun _ _ _ _ _ st h=>wpAny_pyIter_tupleiter st h
theorem turn_range {P:Program} {w:World} {K:PySem.W.Frag} {tg:Expr} (it:Addr) (lo:Int) (n:Nat):Turn P w K tg (Itr lo n) [it] it (fun i h=>IsRangeIter h it (lo+(i:Nat)*1) ((n:Int)-(i:Nat)) 1) where
 mem:=by simp
 obj:=fun i h st b hb=>by
   have e:b=it:=by simpa using hb
   subst e
   exact⟨_,st,fun v z=>by
     have z':Data.fields _=Data.cell v:=z
     cases z'⟩
 keep:=fun i h h' st k=>k it (by simp) _ st
 item:=by
   intro X hP hw hK hc i pins s σ H E I hf st hg
   subst hP hw hK
   obtain ⟨f0,f1,f2,f3,f4,f5⟩:=hf it (by simp)
   have W:=Walks.range (prog:=X.prog) (w:=X.w) (I.ok.hd hc) it lo 1 n
   refine W.item i s _ _ hg st fun v h' tk hv st' kk=>?_
   obtain ⟨t,rfl⟩:=hv
   have I1:Inv X pins σ H { s with heap:=h',toks:=tk }:=I.turned (fun b o hb e=>kk b o (by simpa using hb) e) f0 f1 f3 f4 f5
   refine⟨_,rfl,zH7 (s:={ s with heap:=h',toks:=tk }) (n:="range_iterator") st' rfl rfl (by decide) ⟨.int (lo+i),H,I1,⟨t,?_⟩,⟨rfl,rfl⟩,st',fun b hb=>(hf b hb).1⟩⟩
   rw[Int.mul_one]
 done:=by
   intro X hP hw hK hc i pins s σ H E I hf st hg
   subst hP hw hK
   obtain ⟨f0,f1,f2,f3,f4,f5⟩:=hf it (by simp)
   exact wpAny_pyNext_range_end (I.ok.hd hc) st (by have:n<=i:=hg;omega) fun h' eb=>⟨rfl,I.turned (t':=s.toks) (fun b o hb e=>eb b o hb e) f0 f1 f3 f4 f5⟩
 self:=fun _ _ _ _ _ st h=>wpAny_pyIter_rangeiter st h
end L2
namespace L2
open PySem PySem.Spec PyProof.Rows
section
variable {X:Cx} {tg:Expr}
noncomputable def iList (K:PySem.W.Frag) (tl:TE):TI:=fun σ H R=>tl σ H fun x H1=>∃ a,x = .ref a/\(∃ xs,SqL K H1 a xs)/\R (Itl K a) H1
noncomputable def iTup (K:PySem.W.Frag) (tl:TE):TI:=fun σ H R=>tl σ H fun x H1=>∃ a,x = .ref a/\(∃ xs,SqT K H1 a xs)/\R (Itt K a) H1
theorem zn6 {l:Expr} {tl:TE} (hl:PE X l tl):PI X tg l (iList X.K tl):=by
 intro pins s σ H R I h
 refine thn (hl pins s σ H _ I h) fun v s1 ⟨x,H1,I1,r1,q1⟩=>?_
 obtain ⟨a,e,⟨xs,hq⟩,q⟩:=q1
 subst e
 cases r1
 obtain ⟨its,rv,p,hz⟩:=I1.list hq
 refine wpAny_pyIter_list p.isList ?_
 refine⟨s1.heap.objs.size,[s1.heap.objs.size],_,_,H1,rfl,I1.kept (t':=s1.toks) fun b o e=>Heap.get?_push_of_some _ e,zB0 a _,⟨_,Heap.get?_push_size _ rfl,rfl,rfl⟩,fun b hb=>?_,q⟩
 have e:b=s1.heap.objs.size:=by simpa using hb
 subst e
 exact I1.fpOk (Nat.le_refl _) (I1.hok.fresh (Nat.le_refl _))
theorem pi_tup {l:Expr} {tl:TE} (hl:PE X l tl):PI X tg l (iTup X.K tl):=by
 intro pins s σ H R I h
 refine thn (hl pins s σ H _ I h) fun v s1 ⟨x,H1,I1,r1,q1⟩=>?_
 obtain ⟨a,e,⟨xs,hq⟩,q⟩:=q1
 subst e
 cases r1
 obtain ⟨its,rv,p,hz⟩:=I1.tuple hq
 refine wpAny_pyIter_tuple (show s1.heap.IsTuple a its.toArray from p) ?_
 refine⟨s1.heap.objs.size,[s1.heap.objs.size],_,_,H1,rfl,I1.kept (t':=s1.toks) fun b o e=>Heap.get?_push_of_some _ e,zz5 a _,⟨_,Heap.get?_push_size _ rfl,rfl,rfl⟩,fun b hb=>?_,q⟩
 have e:b=s1.heap.objs.size:=by simpa using hb
 subst e
 exact I1.fpOk (Nat.le_refl _) (I1.hok.fresh (Nat.le_refl _))
theorem range_it {pins:List (Addr×Obj)} {σ:St} {H:Hp} {s:Shared} {R:It->Hp->Prop} {E:Value->Shared->Prop} {lo hi:Int} {t u v:Tok} {tk:Nat} (I:Inv X pins σ H s) (h1:-(2 ^ 62)<=lo) (h2:lo<2 ^ 62) (h3:-(2 ^ 62)<=hi) (h4:hi<2 ^ 62)
   (q:R (Itr lo (hi-lo).toNat) H):wpAny (model X.prog X.w) X.A (pyIter (.ref s.heap.objs.size)) (PIE X pins σ tg R) E { s with heap:=s.heap.push { cls:=.type "range",data:=.fields #[.int lo t,.int hi u,.int 1 v] },toks:=tk }:=by
 refine wpAny_pyIter_range (IsRange.new ..) (small_one h1 h2 h3 h4) ?_
 have I1:Inv X pins σ H { s with heap:=s.heap.push { cls:=.type "range",data:=.fields #[.int lo t,.int hi u,.int 1 v] },toks:=tk }:=I.kept fun b o e=>Heap.get?_push_of_some _ e
 refine⟨(s.heap.push { cls:=.type "range",data:=.fields #[.int lo t,.int hi u,.int 1 v] }).objs.size,[(s.heap.push { cls:=.type "range",data:=.fields #[.int lo t,.int hi u,.int 1 v] }).objs.size],_,_,H,rfl,
   I1.kept (t':=tk) fun b o e=>Heap.get?_push_of_some _ e,turn_range _ lo (hi-lo).toNat,?_,fun b hb=>?_,q⟩
 . have e1:lo+((0:Nat):Int)*1=lo:=by simp
   have e2:(((hi-lo).toNat:Nat):Int)-((0:Nat):Int)=Builtin.Range.rangeSize lo hi 1:=by rw[rangeSize_one];split<;>omega
   show IsRangeIter _ _ (lo+((0:Nat):Int)*1) ((((hi-lo).toNat:Nat):Int)-((0:Nat):Int)) 1
   rw[e1,e2]
   exact Heap.get?_push_size _ rfl
 . have e:b=(s.heap.push { cls:=.type "range",data:=.fields #[.int lo t,.int hi u,.int 1 v] }).objs.size:=by simpa using hb
   subst e
   exact I1.fpOk (Nat.le_refl _) (I1.hok.fresh (Nat.le_refl _))
noncomputable def iRng1 (ta:TA):TI:=fun σ H R=>ta σ H fun vs H1=>∃ j:Int,vs=[.int j]/\-(2 ^ 62)<=j/\j<2 ^ 62/\R (Itr 0 j.toNat) H1
theorem zm2 {a:Expr} {ta:TA} {p pos:Pos} (hg:Gl X "range") (hm:X.mg "range" = none) (ha:PA X [a] ta) (hs:starEach [a] X.env=[(false,eval a X.env)]:=by rfl):PI X tg (.Call (.Name "range" p) [a] [] pos) (iRng1 ta):=by
 intro pins s σ H R I h
 refine Call_ (zD8 I hg hm boot_range (PyProof.Rows.callWith_type1 (thn (ha pos pins s σ H _ I h) fun us s1 ⟨vs,H1,I1,r1,q1⟩=>?_) hs rfl))
 obtain ⟨j,e,q1,q2,q⟩:=q1
 subst e
 cases r1 with
 | cons r rr =>
   cases rr
   obtain ⟨t,rfl⟩:=r
   exact call_range_1 (range_it I1 (by omega) (by omega) q1 q2 (by simpa using q))
/-! ### for -/
noncomputable def tFor (wi:TI) (g:TG) (tb:TS):TS:=fun D σ H=>wi σ H fun J H1=>∃ W:Nat->Nat->St->Hp->Prop,(∃ m,W 0 m σ H1)/\∀ i m σ H,W i m σ H →
 (J.stop i H/\D.nx σ H)\/(J.go i H/\∃ N:St->Hp->Prop,(∀ σ' H',N σ' H'->∃ m',m'<m/\W (i+1) m' σ' H')/\∀ x H',J.yld i H x H'->g x σ H' fun σ2 H2=>tb { D with nx:=N,ct:=N,bk:=D.nx } σ2 H2)
noncomputable def zr5 (fp:List Addr) (h:Heap):List (Addr×Obj):=fp.filterMap fun b=>(h.get? b).map fun o=>(b,o)
theorem zk2 {fp:List Addr} {h:Heap} {b:Addr} {o:Obj} (hb:b∈fp) (e:h.get? b=some o):(b,o)∈zr5 fp h:=List.mem_filterMap.mpr ⟨b,hb,by rw[e];rfl⟩
theorem of_pinsAt {fp:List Addr} {h:Heap} {p:Addr×Obj} (hp:p∈zr5 fp h):p.1∈fp/\h.get? p.1=some p.2:=by
 obtain ⟨b,hb,e⟩:=List.mem_filterMap.mp hp
 cases q:h.get? b with
 | none=>rw[q] at e;cases e
 | some o =>
   rw[q] at e
   have e':(b,o)=p:=Option.some.inj e
   subst e'
   exact⟨hb,q⟩
theorem Inv.pinned {pins:List (Addr×Obj)} {σ:St} {H:Hp} {s:Shared} {fp:List Addr} (I:Inv X pins σ H s) (hf:∀ b∈fp,FpOk X pins H b) (ho:∀ b∈fp,∃ o,s.heap.get? b=some o/\∀ v,o.data≠.cell v):Inv X (pins++zr5 fp s.heap) σ H s :=
 I.pins_of fun p hp=>(List.mem_append.mp hp).elim (fun z=>I.pin p (List.mem_append_right _ z)) fun z=>by
   obtain ⟨hb,e⟩:=of_pinsAt z
   obtain ⟨f0,f1,f2,_⟩:=hf p.1 hb
   obtain ⟨o,e',d⟩:=ho p.1 hb
   rw[e] at e';cases e'
   exact⟨e,f0,f1,f2,d⟩
theorem Inv.unpinned {pins pl:List (Addr×Obj)} {σ:St} {H:Hp} {s:Shared} (I:Inv X (pins++pl) σ H s):Inv X pins σ H s:=I.pins_of fun p hp=>I.pin p (List.mem_append_right _ (List.mem_append_left _ hp))
theorem zn0 {iter:Expr} {body:List Stmt} {wi:TI} {g:TG} {tb:TS} {pos:Pos} (hp:PassesOwn (model X.prog X.w) X.A X.env X.xe) (hc:X.calm=true) (hi:PI X tg iter wi) (hg:PG X tg g) (hb:PSs X body tb)
   (hs:∀ x,foldedSetIterable iter X.env x=pure x:=by intro _;rfl):PS X (.For tg iter body [] pos) (tFor wi g tb):=by
 intro pins s σ H D I h
 refine wpAny_For (thn (hi pins s σ H _ I h) fun v s1 h1=>thn h1 fun itv s2 h2=>?_) hs
 obtain ⟨it,fp,tn,J,H2,e,I2,T,st2,f2,W,⟨m0,w0⟩,turn⟩:=h2
 subst e
 have stat:∀ {H':Hp},(∀ b∈fp,H' b=none)->∀ b∈fp,FpOk X pins H' b:=fun hn b hb=>⟨hn b hb,(f2 b hb).2⟩
 refine codeAny_forLoop_any (fun n s'=>∃ i σ' H',Inv X pins σ' H' s'/\tn i s'.heap/\(∀ b∈fp,H' b=none)/\W i n σ' H') ?_ m0 ⟨0,σ,H2,I2,st2,fun b hb=>(f2 b hb).1,w0⟩
 rintro n s3 ⟨i,σ3,H3,I3,st3,fr3,w3⟩
 rcases turn i n σ3 H3 w3 with ⟨stop,qn⟩ | ⟨go,N,hN,step⟩
 . refine wpAny_passesOwn hp (thn (T.done X rfl rfl rfl hc i pins s3 σ3 H3 X.xe I3 (stat fr3) st3 stop) fun r s4 ⟨hr,I4⟩=>?_)
   subst hr
   exact wpAny_execs_nil ⟨σ3,H3,I4,qn⟩
 . refine wpAny_passesOwn hp (thn (T.item X rfl rfl rfl hc i pins s3 σ3 H3 X.xe I3 (stat fr3) st3 go) fun r s4 ⟨u,hr,h4⟩=>?_)
   subst hr
   refine wpAny_passesOwn hp (thn h4 fun _ s5 ⟨x,H5,I5,r5,y5,st5,fr5⟩=>?_)
   have I5':=I5.pinned (stat fr5) (T.obj _ _ st5)
   refine wpAny_passesOwn hp (thn (hg _ s5 σ3 H5 x u _ I5' r5 (step x H5 y5)) fun _ s6 ⟨σ6,H6,I6,q6⟩=>?_)
   refine wpAny_passesOwn hp (thn (hb _ s6 σ6 H6 _ I6 q6) fun f s7 q7=>?_)
   have again:∀ {σ7:St} {H7:Hp},Inv X (pins++zr5 fp s5.heap) σ7 H7 s7->N σ7 H7->∃ m,m<n/\∃ i σ' H',Inv X pins σ' H' s7/\tn i s7.heap/\(∀ b∈fp,H' b=none)/\W i m σ' H':=fun {σ7 H7} I7 n7=>by
     obtain ⟨m',hm,w7⟩:=hN σ7 H7 n7
     refine⟨m',hm,i+1,σ7,H7,I7.unpinned,T.keep _ _ _ st5 fun b hb o e=>(I7.pin (b,o) (List.mem_append_right _ (List.mem_append_right _ (zk2 hb e)))).1,fun b hb=>?_,w7⟩
     obtain ⟨o,e,d⟩:=T.obj _ _ st5 b hb
     exact (I7.pin (b,o) (List.mem_append_right _ (List.mem_append_right _ (zk2 hb e)))).2.1
   cases f with
   | next=>obtain ⟨σ7,H7,I7,n7⟩:=q7;exact again I7 n7
   | cont=>obtain ⟨σ7,H7,I7,n7⟩:=q7;exact again I7 n7
   | brk=>obtain ⟨σ7,H7,I7,q7⟩:=q7;exact⟨σ7,H7,I7.unpinned,q7⟩
   | ret v=>obtain ⟨x7,σ7,H7,I7,r7,q7⟩:=q7;exact⟨x7,σ7,H7,I7.unpinned,r7,q7⟩
end
/-! ### the forms one uses -/
theorem zv6 {K:PySem.W.Frag} {a:Addr} {xs:List V} {g:TG} {tb:TS} {D:Ends} {σ:St} {H:Hp} (Pv:Nat->St->Hp->Prop) (h0:Pv 0 σ H) (hl:∀ i σ H,i<=xs.length->Pv i σ H->SqL K H a xs)
   (hs:∀ i x σ H,xs[i]?=some x->Pv i σ H->g x σ H fun σ2 H2=>tb { D with nx:=Pv (i+1),ct:=Pv (i+1),bk:=D.nx } σ2 H2) (hd:∀ σ H,Pv xs.length σ H->D.nx σ H) :
   ∃ W:Nat->Nat->St->Hp->Prop,(∃ m,W 0 m σ H)/\∀ i m σ H,W i m σ H →
     ((Itl K a).stop i H/\D.nx σ H)\/((Itl K a).go i H/\∃ N:St->Hp->Prop,(∀ σ' H',N σ' H'->∃ m',m'<m/\W (i+1) m' σ' H')/\∀ x H',(Itl K a).yld i H x H'->g x σ H' fun σ2 H2=>tb { D with nx:=N,ct:=N,bk:=D.nx } σ2 H2):=by
 refine⟨fun i m σ H=>m=xs.length-i/\i<=xs.length/\Pv i σ H,⟨xs.length,by simp,Nat.zero_le _,h0⟩,?_⟩
 rintro i m σ H ⟨rfl,hi,p⟩
 have q:=hl i σ H hi p
 by_cases hlt:i<xs.length
 . refine .inr ⟨⟨xs,xs[i],q,by simp[hlt]⟩,Pv (i+1),fun σ' H' p'=>⟨xs.length-(i+1),by omega,rfl,hlt,p'⟩,fun x H' y=>?_⟩
   obtain ⟨e,y⟩:=y
   subst e
   exact hs i x σ _ (y xs q) p
 . have e:i=xs.length:=by omega
   subst e
   exact .inl ⟨⟨xs,q,Nat.le_refl _⟩,hd σ H p⟩
theorem zH8 {K:PySem.W.Frag} {a:Addr} {xs:List V} {g:TG} {tb:TS} {D:Ends} {σ:St} {H:Hp} (Pv:Nat->St->Hp->Prop) (h0:Pv 0 σ H) (hl:∀ i σ H,i<=xs.length->Pv i σ H->SqT K H a xs)
   (hs:∀ i x σ H,xs[i]?=some x->Pv i σ H->g x σ H fun σ2 H2=>tb { D with nx:=Pv (i+1),ct:=Pv (i+1),bk:=D.nx } σ2 H2) (hd:∀ σ H,Pv xs.length σ H->D.nx σ H) :
   ∃ W:Nat->Nat->St->Hp->Prop,(∃ m,W 0 m σ H)/\∀ i m σ H,W i m σ H →
     ((Itt K a).stop i H/\D.nx σ H)\/((Itt K a).go i H/\∃ N:St->Hp->Prop,(∀ σ' H',N σ' H'->∃ m',m'<m/\W (i+1) m' σ' H')/\∀ x H',(Itt K a).yld i H x H'->g x σ H' fun σ2 H2=>tb { D with nx:=N,ct:=N,bk:=D.nx } σ2 H2):=by
 refine⟨fun i m σ H=>m=xs.length-i/\i<=xs.length/\Pv i σ H,⟨xs.length,by simp,Nat.zero_le _,h0⟩,?_⟩
 rintro i m σ H ⟨rfl,hi,p⟩
 have q:=hl i σ H hi p
 by_cases hlt:i<xs.length
 . refine .inr ⟨⟨xs,xs[i],q,by simp[hlt]⟩,Pv (i+1),fun σ' H' p'=>⟨xs.length-(i+1),by omega,rfl,hlt,p'⟩,fun x H' y=>?_⟩
   obtain ⟨e,y⟩:=y
   subst e
   exact hs i x σ _ (y xs q) p
 . have e:i=xs.length:=by omega
   subst e
   exact .inl ⟨⟨xs,q,Nat.le_refl _⟩,hd σ H p⟩
theorem zk3 {lo:Int} {n:Nat} {g:TG} {tb:TS} {D:Ends} {σ:St} {H:Hp} (Pv:Nat->St->Hp->Prop) (h0:Pv 0 σ H)
   (hs:∀ i σ H,i<n->Pv i σ H->g (.int (lo+i)) σ H fun σ2 H2=>tb { D with nx:=Pv (i+1),ct:=Pv (i+1),bk:=D.nx } σ2 H2) (hd:∀ σ H,Pv n σ H->D.nx σ H) :
   ∃ W:Nat->Nat->St->Hp->Prop,(∃ m,W 0 m σ H)/\∀ i m σ H,W i m σ H →
     ((Itr lo n).stop i H/\D.nx σ H)\/((Itr lo n).go i H/\∃ N:St->Hp->Prop,(∀ σ' H',N σ' H'->∃ m',m'<m/\W (i+1) m' σ' H')/\∀ x H',(Itr lo n).yld i H x H'->g x σ H' fun σ2 H2=>tb { D with nx:=N,ct:=N,bk:=D.nx } σ2 H2):=by
 refine⟨fun i m σ H=>m=n-i/\i<=n/\Pv i σ H,⟨n,by simp,Nat.zero_le _,h0⟩,?_⟩
 rintro i m σ H ⟨rfl,hi,p⟩
 by_cases hlt:i<n
 . refine .inr ⟨hlt,Pv (i+1),fun σ' H' p'=>⟨n-(i+1),by omega,rfl,hlt,p'⟩,fun x H' y=>?_⟩
   obtain ⟨e,y⟩:=y
   subst e y
   exact hs i σ _ hlt p
 . have e:i=n:=by omega
   subst e
   exact .inl ⟨Nat.le_refl _,hd σ H p⟩
end L2
namespace L2
open PySem PySem.Spec PyProof.Rows
noncomputable abbrev R2:=V->V->Hp->VK->Prop
noncomputable def OpR (X:Cx) (f:Value->Value->Sem Value) (r:R2):Prop :=
 ∀ (pins:List (Addr×Obj)) (s:Shared) (σ:St) (H:Hp) (x y:V) (v u:Value) (Q:VK),Inv X pins σ H s->RelV x v->RelV y u->r x y H Q →
   wpAny (model X.prog X.w) X.A (f v u) (EP X pins σ Q) X.xe s
noncomputable def UnR (X:Cx) (f:Value->Sem Value) (r:V->Hp->VK->Prop):Prop :=
 ∀ (pins:List (Addr×Obj)) (s:Shared) (σ:St) (H:Hp) (x:V) (v:Value) (Q:VK),Inv X pins σ H s->RelV x v->r x H Q →
   wpAny (model X.prog X.w) X.A (f v) (EP X pins σ Q) X.xe s
noncomputable def zn7 (X:Cx) (f:Value) (r:List V->Hp->VK->Prop):Prop :=
 ∀ (pins:List (Addr×Obj)) (s:Shared) (σ:St) (H:Hp) (xs:List V) (us:List Value) (Q:VK),Inv X pins σ H s->Vals xs us->r xs H Q →
   wpAny (model X.prog X.w) X.A (call f us) (EP X pins σ Q) X.xe s
noncomputable def tOp (r:R2) (ta tb:TE):TE:=fun σ H Q=>ta σ H fun x H1=>tb σ H1 fun y H2=>r x y H2 Q
noncomputable def tUn (r:V->Hp->VK->Prop) (ta:TE):TE:=fun σ H Q=>ta σ H fun x H1=>r x H1 Q
noncomputable def rI (C:Int->Int->Prop) (g:Int->Int->V):R2:=fun x y H Q=>∃ i j,x = .int i/\y = .int j/\C i j/\Q (g i j) H
noncomputable def rI0 (g:Int->Int->V):R2:=fun x y H Q=>∃ i j,x = .int i/\y = .int j/\Q (g i j) H
noncomputable def rU (g:Int->V):V->Hp->VK->Prop:=fun x H Q=>∃ i,x = .int i/\Q (g i) H
section
variable {X:Cx} {a b c:Expr} {ta tb tc:TE} {pos:Pos}
theorem binT (ha:PE X a ta) (hb:PE X b tb) {pins:List (Addr×Obj)} {s:Shared} {σ:St} {H:Hp} {R:V->V->Hp->Prop} (I:Inv X pins σ H s)
   (h:ta σ H fun x H1=>tb σ H1 fun y H2=>R x y H2) {Q:Value->Shared->Prop} {f:Value->Value->Sem Value}
   (hf:∀ v u s2 x y H2,Inv X pins σ H2 s2->RelV x v->RelV y u->R x y H2->wpAny (model X.prog X.w) X.A (f v u) Q X.xe s2) :
   wpAny (model X.prog X.w) X.A (eval a X.env) (fun v s₁=>wpAny (model X.prog X.w) X.A (eval b X.env) (fun u s₂=>wpAny (model X.prog X.w) X.A (f v u) Q X.xe s₂) X.xe s₁) X.xe s:=by
 refine thn (ha pins s σ H _ I h) fun v s1 ⟨x,H1,I1,r1,q1⟩=>?_
 refine thn (hb pins s1 σ H1 _ I1 q1) fun u s2 ⟨y,H2,I2,r2,q2⟩=>?_
 exact hf v u s2 x y H2 I2 r1 r2 q2
theorem za8 {op:Operator} {r:R2} (ho:OpR X (binaryOp op) r) (ha:PE X a ta) (hb:PE X b tb):PE X (.BinOp a op b pos) (tOp r ta tb):=by
 intro pins s σ H Q I h
 exact wpAny_BinOp (binT ha hb I h fun v u s2 x y H2 I2 rx ry q=>ho pins s2 σ H2 x y v u Q I2 rx ry q)
theorem zG0 {op:UnaryOp} {r:V->Hp->VK->Prop} (ho:UnR X (unaryOp op) r) (ha:PE X a ta):PE X (.UnaryOp op a pos) (tUn r ta):=by
 intro pins s σ H Q I h
 exact UnaryOp_ (thn (ha pins s σ H _ I h) fun v s1 ⟨x,H1,I1,r1,q1⟩=>ho pins s1 σ H1 x v Q I1 r1 q1)
/-! ### ints -/
theorem opI {f:Value->Value->Sem Value} {C:Int->Int->Prop} {g:Int->Int->Int}
   (rule:∀ (i j:Int) (t u:Tok) (s:Shared) (Q:Value->Shared->Prop) (E:Value->Shared->Prop),C i j->Q (.int (g i j) s.toks) { s with toks:=s.toks+1 }->wpAny (model X.prog X.w) X.A (f (.int i t) (.int j u)) Q E s) :
   OpR X f (rI C fun i j=>.int (g i j)):=by
 intro pins s σ H x y v u Q I rx ry h
 obtain ⟨i,j,rfl,rfl,hc,q⟩:=h
 obtain ⟨t,rfl⟩:=rx
 obtain ⟨t',rfl⟩:=ry
 exact rule i j t t' s _ _ hc ⟨.int (g i j),H,I.tok _,⟨_,rfl⟩,q⟩
theorem opI0 {f:Value->Value->Sem Value} {g:Int->Int->Int}
   (rule:∀ (i j:Int) (t u:Tok) (s:Shared) (Q:Value->Shared->Prop) (E:Value->Shared->Prop),Q (.int (g i j) s.toks) { s with toks:=s.toks+1 }->wpAny (model X.prog X.w) X.A (f (.int i t) (.int j u)) Q E s) :
   OpR X f (rI0 fun i j=>.int (g i j)):=by
 intro pins s σ H x y v u Q I rx ry h
 obtain ⟨i,j,rfl,rfl,q⟩:=h
 obtain ⟨t,rfl⟩:=rx
 obtain ⟨t',rfl⟩:=ry
 exact rule i j t t' s _ _ ⟨.int (g i j),H,I.tok _,⟨_,rfl⟩,q⟩
theorem opB0 {f:Value->Value->Sem Value} {g:Int->Int->Bool}
   (rule:∀ (i j:Int) (t u:Tok) (s:Shared) (Q:Value->Shared->Prop) (E:Value->Shared->Prop),Q (.bool (g i j)) s->wpAny (model X.prog X.w) X.A (f (.int i t) (.int j u)) Q E s) :
   OpR X f (rI0 fun i j=>.bl (g i j)):=by
 intro pins s σ H x y v u Q I rx ry h
 obtain ⟨i,j,rfl,rfl,q⟩:=h
 obtain ⟨t,rfl⟩:=rx
 obtain ⟨t',rfl⟩:=ry
 exact rule i j t t' s _ _ ⟨.bl (g i j),H,I,rfl,q⟩
noncomputable def CDiv (i j:Int):Prop:=0<j/\j<1073741824
noncomputable def CMul (i j:Int):Prop:=(-(2 ^ 64)<i/\i<2 ^ 64)\/(-(2 ^ 64)<j/\j<2 ^ 64)
theorem CMul.ok {i j:Int} (h:CMul i j):IntMulOk i j:=by
 rcases h with ⟨h1,h2⟩ | ⟨h1,h2⟩
 . exact .of_left (intBits_le_64 h1 h2)
 . exact .of_right (intBits_le_64 h1 h2)
theorem zi4:OpR X (binaryOp .Add) (rI0 fun i j=>.int (i+j)):=opI0 fun _ _ _ _ _ _ _ q=>add_int q
theorem zx2:OpR X (binaryOp .Sub) (rI0 fun i j=>.int (i-j)):=opI0 fun _ _ _ _ _ _ _ q=>sub_int q
theorem zx3:OpR X (binaryOp .Mult) (rI CMul fun i j=>.int (i*j)):=opI fun _ _ _ _ _ _ _ hc q=>mul_int q hc.ok
theorem ze7:OpR X (binaryOp .FloorDiv) (rI CDiv fun i j=>.int (i / j)):=opI fun i j _ _ _ _ _ hc q=>by
 have h1:(0:Int)<j:=hc.1
 have h2:j<1073741824:=hc.2
 exact floordiv_int (by omega) (by rw[Int.fdiv_eq_ediv_of_nonneg i (by omega)];exact q) (.inl (PyProof.noPylong_small (by omega)))
theorem zd4:OpR X (binaryOp .Mod) (rI (fun _ j=>0<j) fun i j=>.int (i % j)):=opI fun i j _ _ _ _ _ hc q=>by
 have h1:(0:Int)<j:=hc
 exact mod_int' (by omega) (by rw[Int.fmod_eq_emod_of_nonneg i (by omega)];exact q)
theorem unI {f:Value->Sem Value} {g:Int->Int}
   (rule:∀ (i:Int) (t:Tok) (s:Shared) (Q:Value->Shared->Prop) (E:Value->Shared->Prop),Q (.int (g i) s.toks) { s with toks:=s.toks+1 }->wpAny (model X.prog X.w) X.A (f (.int i t)) Q E s) :
   UnR X f (rU fun i=>.int (g i)):=by
 intro pins s σ H x v Q I rx h
 obtain ⟨i,rfl,q⟩:=h
 obtain ⟨t,rfl⟩:=rx
 exact rule i t s _ _ ⟨.int (g i),H,I.tok _,⟨_,rfl⟩,q⟩
theorem zz6:UnR X (unaryOp .USub) (rU fun i=>.int (-i)):=unI fun _ _ _ _ _ q=>neg_int q
/-! ### bools among ints: n += (a<b) -/
end
/-! ### comparisons -/
noncomputable def scal:V->V->Bool
 | .non,.non=>true | .non,.int _=>true | .int _,.non=>true | .non,.bl _=>true | .bl _,.non=>true | .non,.str _=>true | .str _,.non=>true
 | .int _,.int _=>true | .bl _,.bl _=>true | .str _,.str _=>true | .byt _,.byt _=>true
 | .int _,.str _=>true | .str _,.int _=>true | .bl _,.str _=>true | .str _,.bl _=>true
 | _,_=>false
noncomputable def rEq:R2:=fun x y H Q=>scal x y=true/\Q (.bl (decide (x=y))) H
noncomputable def rNe:R2:=fun x y H Q=>scal x y=true/\Q (.bl (!decide (x=y))) H
theorem zH9 {i j:Int}:decide (V.int i=V.int j)=(i == j):=by
 rw[Bool.eq_iff_iff]
 simp
theorem zK2 {i j:Bool}:decide (V.bl i=V.bl j)=(i == j):=by
 rw[Bool.eq_iff_iff]
 simp
theorem zI0 {i j:Str}:decide (V.str i=V.str j)=(i == j):=by
 rw[Bool.eq_iff_iff]
 simp
theorem zI1 {i j:Array UInt8}:decide (V.byt i=V.byt j)=(i.toList == j.toList):=by
 rw[Bool.eq_iff_iff]
 cases i
 cases j
 simp
section
variable {X:Cx} {a b c:Expr} {ta tb tc:TE} {pos:Pos}
theorem zd2 {pins:List (Addr×Obj)} {σ:St} {H:Hp} {s:Shared} {Q:VK} {k k':Bool} (I:Inv X pins σ H s) (q:Q (.bl k) H) (e:k=k'):EP X pins σ Q (.bool k') s:=by
 subst e
 exact⟨.bl k,H,I,rfl,q⟩
theorem zf5:OpR X (compareOp .Eq) rEq:=by
 intro pins s σ H x y v u Q I rx ry h
 obtain ⟨hs,q⟩:=h
 cases x with
 | non =>
   cases rx
   cases y with
   | non=>cases ry;exact PySem.EqNone.eq_none_none (zd2 I q (by simp))
   | bl j=>cases ry;exact PySem.EqNone.eq_none_bool (zd2 I q (by simp))
   | int j=>obtain ⟨t',rfl⟩:=ry;exact PySem.EqNone.eq_none_int (zd2 I q (by simp))
   | str j=>obtain ⟨t',rfl⟩:=ry;exact PySem.EqNone.eq_none_str (zd2 I q (by simp))
   | _=>exact absurd (show false=true from hs) Bool.false_ne_true
 | bl i =>
   cases rx
   cases y with
   | non=>cases ry;exact PySem.EqNone.eq_bool_none (zd2 I q (by simp))
   | bl j=>cases ry;exact eq_bool (zd2 I q zK2)
   | str j=>obtain ⟨t',rfl⟩:=ry;exact PySem.EqMixed.eq_bool_str (zd2 I q (by simp))
   | _=>exact absurd (show false=true from hs) Bool.false_ne_true
 | int i =>
   obtain ⟨t,rfl⟩:=rx
   cases y with
   | non=>cases ry;exact PySem.EqNone.eq_int_none (zd2 I q (by simp))
   | int j=>obtain ⟨t',rfl⟩:=ry;exact eq_int (zd2 I q zH9)
   | str j=>obtain ⟨t',rfl⟩:=ry;exact PySem.EqMixed.eq_int_str (zd2 I q (by simp))
   | _=>exact absurd (show false=true from hs) Bool.false_ne_true
 | str i =>
   obtain ⟨t,rfl⟩:=rx
   cases y with
   | non=>cases ry;exact PySem.EqNone.eq_str_none (zd2 I q (by simp))
   | bl j=>cases ry;exact PySem.EqMixed.eq_str_bool (zd2 I q (by simp))
   | int j=>obtain ⟨t',rfl⟩:=ry;exact PySem.EqMixed.eq_str_int (zd2 I q (by simp))
   | str j=>obtain ⟨t',rfl⟩:=ry;exact eq_str (zd2 I q zI0)
   | _=>exact absurd (show false=true from hs) Bool.false_ne_true
 | byt i =>
   obtain ⟨t,rfl⟩:=rx
   cases y with
   | byt j=>obtain ⟨t',rfl⟩:=ry;exact PySem.W.eq_bytes (zd2 I q zI1)
   | _=>exact absurd (show false=true from hs) Bool.false_ne_true
 | _=>cases y<;>exact absurd (show false=true from hs) Bool.false_ne_true
theorem zn8:OpR X (compareOp .NotEq) rNe:=by
 intro pins s σ H x y v u Q I rx ry h
 obtain ⟨hs,q⟩:=h
 cases x with
 | non =>
   cases rx
   cases y with
   | non=>cases ry;exact PySem.EqNone.ne_none_none (zd2 I q (by simp))
   | bl j=>cases ry;exact PySem.EqNone.ne_none_bool (zd2 I q (by simp))
   | int j=>obtain ⟨t',rfl⟩:=ry;exact PySem.EqNone.ne_none_int (zd2 I q (by simp))
   | str j=>obtain ⟨t',rfl⟩:=ry;exact PySem.EqNone.ne_none_str (zd2 I q (by simp))
   | _=>exact absurd (show false=true from hs) Bool.false_ne_true
 | bl i =>
   cases rx
   cases y with
   | non=>cases ry;exact PySem.EqNone.ne_bool_none (zd2 I q (by simp))
   | bl j=>cases ry;exact ne_bool (zd2 I q (congrArg not zK2))
   | str j=>obtain ⟨t',rfl⟩:=ry;exact PySem.EqMixed.ne_bool_str (zd2 I q (by simp))
   | _=>exact absurd (show false=true from hs) Bool.false_ne_true
 | int i =>
   obtain ⟨t,rfl⟩:=rx
   cases y with
   | non=>cases ry;exact PySem.EqNone.ne_int_none (zd2 I q (by simp))
   | int j=>obtain ⟨t',rfl⟩:=ry;exact ne_int (zd2 I q (congrArg not zH9))
   | str j=>obtain ⟨t',rfl⟩:=ry;exact PySem.EqMixed.ne_int_str (zd2 I q (by simp))
   | _=>exact absurd (show false=true from hs) Bool.false_ne_true
 | str i =>
   obtain ⟨t,rfl⟩:=rx
   cases y with
   | non=>cases ry;exact PySem.EqNone.ne_str_none (zd2 I q (by simp))
   | bl j=>cases ry;exact PySem.EqMixed.ne_str_bool (zd2 I q (by simp))
   | int j=>obtain ⟨t',rfl⟩:=ry;exact PySem.EqMixed.ne_str_int (zd2 I q (by simp))
   | str j=>obtain ⟨t',rfl⟩:=ry;exact ne_str (zd2 I q (congrArg not zI0))
   | _=>exact absurd (show false=true from hs) Bool.false_ne_true
 | byt i =>
   obtain ⟨t,rfl⟩:=rx
   cases y with
   | byt j=>obtain ⟨t',rfl⟩:=ry;exact PySem.W.ne_bytes (zd2 I q (congrArg not zI1))
   | _=>exact absurd (show false=true from hs) Bool.false_ne_true
 | _=>cases y<;>exact absurd (show false=true from hs) Bool.false_ne_true
theorem zv7:OpR X (compareOp .Lt) (rI0 fun i j=>.bl (decide (i<j))):=opB0 fun _ _ _ _ _ _ _ q=>lt_int q
theorem op_le:OpR X (compareOp .LtE) (rI0 fun i j=>.bl (decide (i<=j))):=opB0 fun _ _ _ _ _ _ _ q=>le_int q
theorem zn9:OpR X (compareOp .Gt) (rI0 fun i j=>.bl (decide (j<i))):=opB0 fun _ _ _ _ _ _ _ q=>gt_int q
theorem zM2:OpR X (compareOp .GtE) (rI0 fun i j=>.bl (decide (j<=i))):=opB0 fun _ _ _ _ _ _ _ q=>ge_int q
theorem op_in_str:OpR X (compareOp .In) (fun x y H Q=>∃ i j,x = .str i/\y = .str j/\Q (.bl (!(Builtin.Str.occurrences j i 0 j.length 1).isEmpty)) H):=by
 intro pins s σ H x y v u Q I rx ry h
 obtain ⟨i,j,rfl,rfl,q⟩:=h
 obtain ⟨t,rfl⟩:=rx
 obtain ⟨t',rfl⟩:=ry
 exact in_str (zd2 I q rfl)
theorem op_isN:OpR X (compareOp .Is) (fun x y H Q=>y = .non/\Q (.bl (decide (x = .non))) H):=by
 intro pins s σ H x y v u Q I rx ry h
 obtain ⟨rfl,q⟩:=h
 cases ry
 refine is_none_gen (zd2 I q ?_)
 cases x<;>first
   | (cases rx;rfl)
   | (obtain ⟨t,rfl⟩:=rx;rfl)
theorem zb3 (b:Expr) {op:CmpOp} (h:op≠.In:=by decide) (h2:op≠.NotIn:=by decide):behindInMarks op b=false:=by
 have e1:(op == CmpOp.In)=false:=by cases op<;>first | rfl | exact absurd rfl h
 have e2:(op == CmpOp.NotIn)=false:=by cases op<;>first | rfl | exact absurd rfl h2
 cases b<;>simp[behindInMarks,e1,e2]
theorem zh4 {op:CmpOp} {r:R2} (ho:OpR X (compareOp op) r) (ha:PE X a ta) (hb:PE X b tb) (hm:behindInMarks op b=false):PE X (.Compare a [op] [b] pos) (tOp r ta tb):=by
 intro pins s σ H Q I h
 exact wpAny_Compare1 (binT ha hb I h fun v u s2 x y H2 I2 rx ry q=>ho pins s2 σ H2 x y v u Q I2 rx ry q) hm
noncomputable def zM3 (t:TE):TT:=fun σ H Q=>t σ H fun x H'=>∃ k,x = .bl k/\Q k H'
theorem zb0 {op:CmpOp} {r:R2} (ho:OpR X (compareOp op) r) (ha:PE X a ta) (hb:PE X b tb) (hm:behindInMarks op b=false):PT X (.Compare a [op] [b] pos) (zM3 (tOp r ta tb)):=by
 intro pins s σ H Q I h
 refine wpAny_isTrue_Compare1 (thn (ha pins s σ H _ I h) fun v s1 ⟨x,H1,I1,r1,q1⟩=>thn (hb pins s1 σ H1 _ I1 q1) fun u s2 ⟨y,H2,I2,r2,q2⟩ =>
   thn (ho pins s2 σ H2 x y v u _ I2 r1 r2 q2) fun c s3 ⟨z,H3,I3,r3,k,e,q3⟩=>?_) hm
 subst e
 cases r3
 exact wpAny_truthy_bool ⟨H3,I3,q3⟩
/-! ### truth -/
theorem zx4:(sizeLine:Nat)<2 ^ 63:=by rw[sizeLine_eq];decide
/-! ### strs and bytes -/
theorem zc7:OpR X (binaryOp .Add) (fun x y H Q=>∃ i j,x = .str i/\y = .str j/\i.length+j.length<=sizeLine/\Q (.str (i++j)) H):=by
 intro pins s σ H x y v u Q I rx ry h
 obtain ⟨i,j,rfl,rfl,hz,q⟩:=h
 obtain ⟨t,rfl⟩:=rx
 obtain ⟨t',rfl⟩:=ry
 exact add_str (fun t' tk=>⟨.str (i++j),H,I.tok _,⟨_,rfl⟩,q⟩) hz
/-! ### scalar builtins,by zn7 -/
theorem zu2 {x:V} {us:List Value} (r:Vals [x] us):∃ u,us=[u]/\RelV x u:=by
 cases r with
 | cons r1 r2=>cases r2;exact⟨_,rfl,r1⟩
theorem zM4 {x y:V} {us:List Value} (r:Vals [x,y] us):∃ u w',us=[u,w']/\RelV x u/\RelV y w':=by
 cases r with
 | cons r1 r2 =>
   cases r2 with
   | cons r3 r4=>cases r4;exact⟨_,_,rfl,r1,r3⟩
theorem call_min2 (hc:X.calm=true):zn7 X (.builtin "min") (fun xs H Q=>∃ i j,xs=[.int i,.int j]/\Q (.int (if j<i then j else i)) H):=by
 intro pins s σ H xs us Q I r h
 obtain ⟨i,j,rfl,q⟩:=h
 obtain ⟨u,w',rfl,⟨t,rfl⟩,⟨t',rfl⟩⟩:=zM4 r
 refine min_two_ints (I.ok.hd hc) fun h' tk k=>⟨_,H,I.kept k,?_,q⟩
 by_cases hj:j<i
 . rw[if_pos hj,if_pos hj];exact⟨_,rfl⟩
 . rw[if_neg hj,if_neg hj];exact⟨_,rfl⟩
theorem call_int1:zn7 X (.type "int") (fun xs H Q=>(∃ i,xs=[.int i]/\Q (.int i) H)\/∃ k,xs=[.bl k]/\Q (.int (if k then 1 else 0)) H):=by
 intro pins s σ H xs us Q I r h
 rcases h with ⟨i,rfl,q⟩ | ⟨k,rfl,q⟩
 . obtain ⟨u,rfl,t,rfl⟩:=zu2 r
   exact call_int_int ⟨.int i,H,I,⟨_,rfl⟩,q⟩
 . obtain ⟨u,rfl,r1⟩:=zu2 r
   cases r1
   exact call_int_bool ⟨.int (if k then 1 else 0),H,I.tok _,⟨_,rfl⟩,q⟩
theorem zi1:zn7 X (.type "str") (fun xs H Q=>∃ i,xs=[.int i]/\i.natAbs.log2<1920/\Q (.str (toString i)) H):=by
 intro pins s σ H xs us Q I r h
 obtain ⟨i,rfl,hz,q⟩:=h
 obtain ⟨u,rfl,t,rfl⟩:=zu2 r
 exact PySem.P.str_of_int hz ⟨.str _,H,I.tok _,⟨_,rfl⟩,q⟩
end
end L2
namespace L2
open PySem PySem.Spec PyProof.Rows
/-! ### an instance,its attributes a map -/
structure ObjM (h:Heap) (x dx C:Addr) (mA:Str->Option Value):Prop where
 obj:h.get? x=some (PySem.W.instObj C dx)
 ns:h.Ns1 dx mA
 ne:dx≠x
theorem lookIn_ns {h:Heap} {dx:Addr} {mA:Str->Option Value} (n:h.Ns1 dx mA):∃ od,h.get? dx=some od/\∀ name,PySem.W.lookIn name od=some (mA name):=by
 obtain ⟨o,es,ep,ho,hd,hk,_,hm⟩:=n
 refine⟨o,ho,fun name=>?_⟩
 have e:=hm name
 unfold nsFind findBy at e
 rw[<-Array.find?_toList] at e
 unfold PySem.W.lookIn
 rw[hd]
 dsimp only
 split
 . rename_i y q
   rw[q] at e
   exact congrArg some e
 . rename_i q
   rw[q] at e
   have a:es.toList.any (·.refKey)=false:=by
     rw[List.any_eq_false]
     intro y hy
     obtain ⟨z,t,hkey⟩:=hk y (Array.mem_toList_iff.mp hy)
     simp[DictEntry.refKey,hkey]
   have a':¬ es.toList.any (·.refKey)=true:=by rw[a];exact Bool.false_ne_true
   rw[if_neg a']
   exact congrArg some e
theorem ObjM.look {h:Heap} {x dx C:Addr} {mA:Str->Option Value} (I:ObjM h x dx C mA):∃ od,PySem.W.InstAt h x (PySem.W.instObj C dx) C (some od)/\∀ name,PySem.W.lookIn name od=some (mA name) :=
 let ⟨od,ho,hl⟩:=lookIn_ns I.ns
 ⟨od,⟨I.obj,rfl,rfl,ho⟩,hl⟩
section
variable {prog:Program} {w:World} {A:Around} {E:Value->Shared->Prop} {s:Shared} {K:PySem.W.Frag} {x dx C f:Addr} {mA:Str->Option Value} {name:Str} {v:Value}
theorem get_map {expr:Bool} {Q:Value->Shared->Prop} (X:K.In s.heap) (I:ObjM s.heap x dx C mA) (hg:PySem.W.plainGet K C name=true) (hh:PySem.W.hasDictIn K C=true)
   (ha:PySem.W.findIn K (.ref C) name=some none) (hv:mA name=some v) (hv':PySem.W.handedIn v=true) (h:Q v { s with toks:=s.toks+1 }) :
   wpAny (model prog w) A (getAttr (.ref x) name expr) Q E s:=by
 obtain ⟨od,J,hl⟩:=I.look
 exact PySem.W.get_value X J (PySem.W.plainGet_of hg).1 (PySem.W.findObj_own hh ha rfl (by rw[hl,hv])) hv' h
theorem set_map {ns:List Str} {Q:Unit->Shared->Prop} (X:K.In s.heap) (I:ObjM s.heap x dx C mA)
   (hs:PySem.W.findIn K (.ref C) "__setattr__" = some (some (.builtin "object.__setattr__"))) (hp:PySem.W.plainOver K C=true) (ht:PySem.W.takerIn K C name=some none) (hh:PySem.W.hasDictIn K C=true)
   (hw:PySem.Within mA ns) (hsz:ns.length<=sizeLine)
   (h:∀ h',ObjM h' x dx C (fun y=>if y=name then some v else mA y)->Heap.SameBut dx s.heap h'->Q () { s with heap:=h',toks:=s.toks+2 }) :
   wpAny (model prog w) A (setAttr (.ref x) name v) Q E s:=by
 obtain ⟨od,J,hl⟩:=I.look
 refine PySem.W.set_plain X J hs (PySem.W.osa_open (s:={ s with toks:=s.toks+1 }) (r:=none) X J hp ht fun b=>?_)
 obtain ⟨cd,hc,hd'⟩:=PySem.W.any_some hh
 have hx:s.heap.get? x=some ⟨.ref C,some dx,.plain,#[]⟩:=I.obj
 refine wpAny_bind (wpAny_pure (wpAny_bind (wpAny_bind (wpAny_loadPart hx (wpAny_bind (PySem.W.Looks.here (s:={ s with toks:=s.toks+1 }) (PySem.W.looks_clsIn X hc) ?_))))))
 rw[hd']
 refine wpAny_pure (a:=some dx) (wpAny_bind (wpAny_pure (wpAny_bind ?_)))
 refine wpAny_nsSet1 (s:={ s with toks:=s.toks+1 }) I.ns fun h' hn2 hs2=>?_
 obtain ⟨oD,esD,epD,hoD,hdD,hcD⟩:=hn2.count (PySem.Within.cons name v hw)
 refine wpAny_bind (wpAny_lookBehind hoD (by rw[hdD];exact pastItsLine_dict (Nat.le_trans hcD (by rw[List.length_cons];omega))) ?_)
 exact wpAny_pure (h _ ⟨(hs2.2 _ (Ne.symm I.ne)).trans I.obj,hn2,I.ne⟩ hs2)
theorem make_map {R:Result->Shared->Prop} {vs:List Value} {kw:List (Str×Value)} (X:K.In s.heap) (hm:PySem.W.makesIn K C=true)
   (hi:PySem.W.findIn K (.ref C) "__init__" = some (some (.ref f))) (hf:PySem.W.typeIn K (.ref f)=some (.type "function"))
   (h:codeAny (model prog w) (A.under (.builtin "type.__call__" ⟨.ref C::vs,kw⟩)) (.call (.ref f) ⟨.ref (s.heap.objs.size+1)::vs,kw⟩) (PySem.W.InitBack (s.heap.objs.size+1) R)
     { s with heap:=(s.heap.push PySem.W.emptyDict).push (PySem.W.instObj C s.heap.objs.size) }) :
   codeAny (model prog w) A (.call (.ref C) ⟨vs,kw⟩) R s:=by
 obtain ⟨hh,g,d,t,os⟩:=s
 exact PySem.W.make_core (PySem.W.makes_of X hm) (PySem.W.looks_findIn X hi) (fun self=>PySem.W.bind_fn X self hf) (.inl rfl) h
end
/-! ### the attributes as a list of pairs -/
noncomputable def putF (f:Str) (v:V):List (Str×V)->List (Str×V)
 | []=>[(f,v)]
 | (g,x)::r=>if g=f then (g,v)::r else (g,x)::putF f v r
theorem zd6 (f g:Str) (v:V):∀ fs:List (Str×V),(putF f v fs).lookup g=if g=f then some v else fs.lookup g
 | []=>by
   show List.lookup g [(f,v)]=_
   by_cases h:g=f
   . have hb:(g == f)=true:=beq_iff_eq.mpr h
     simp only[List.lookup,hb,if_pos h]
   . have hb:(g == f)=false:=beq_eq_false_iff_ne.mpr h
     simp only[List.lookup,hb,if_neg h]
 | (k,x)::r=>by
   have ih:=zd6 f g v r
   rw[show putF f v ((k,x)::r)=(if k=f then (k,v)::r else (k,x)::putF f v r) from rfl]
   by_cases hk:k=f
   . rw[if_pos hk]
     by_cases h:g=k
     . have hb:(g == k)=true:=beq_iff_eq.mpr h
       simp only[List.lookup,hb,if_pos (h.trans hk)]
     . have hb:(g == k)=false:=beq_eq_false_iff_ne.mpr h
       simp only[List.lookup,hb,if_neg (fun e:g=f=>h (e.trans hk.symm))]
   . rw[if_neg hk]
     by_cases h:g=k
     . have hb:(g == k)=true:=beq_iff_eq.mpr h
       simp only[List.lookup,hb,if_neg (fun e:g=f=>hk (h.symm.trans e))]
     . have hb:(g == k)=false:=beq_eq_false_iff_ne.mpr h
       simp only[List.lookup,hb]
       exact ih
theorem zp0 (f:Str) (v:V):∀ fs:List (Str×V),f∈(putF f v fs).map (·.1)/\∀ g,g∈fs.map (·.1)->g∈(putF f v fs).map (·.1)
 | []=>⟨by simp[putF],fun g h=>by simp at h⟩
 | (k,x)::r=>by
   obtain ⟨i1,i2⟩:=zp0 f v r
   rw[show putF f v ((k,x)::r)=(if k=f then (k,v)::r else (k,x)::putF f v r) from rfl]
   by_cases hk:k=f
   . rw[if_pos hk]
     subst hk
     exact⟨by simp,fun g h=>by simpa using h⟩
   . rw[if_neg hk]
     refine⟨?_,fun g h=>?_⟩
     . rw[List.map_cons]
       exact List.mem_cons_of_mem _ i1
     . rw[List.map_cons] at h ⊢
       rcases List.mem_cons.mp h with e | e
       . exact List.mem_cons.mpr (.inl e)
       . exact List.mem_cons_of_mem _ (i2 g e)
theorem zl1 (f:Str) (v:V):∀ fs:List (Str×V),(putF f v fs).length<=fs.length+1
 | []=>by simp[putF]
 | (k,x)::r=>by
   have ih:=zl1 f v r
   rw[show putF f v ((k,x)::r)=(if k=f then (k,v)::r else (k,x)::putF f v r) from rfl]
   by_cases hk:k=f
   . rw[if_pos hk,List.length_cons,List.length_cons];omega
   . rw[if_neg hk,List.length_cons,List.length_cons];omega
theorem RelO.some_of {v:V} {o:Option Value} (r:RelO (some v) o):∃ u,o=some u/\RelV v u:=by
 cases o with
 | none=>exact (show False from r).elim
 | some u=>exact⟨u,rfl,r⟩
theorem handed_of {v:V} {u:Value} (r:RelV v u):PySem.W.handedIn u=true:=by
 cases v with
 | non=>cases (show u=Value.none from r);rfl
 | bl b=>cases (show u=Value.bool b from r);rfl
 | int i=>obtain ⟨t,e⟩:=(show ∃ t,u=Value.int i t from r);cases e;rfl
 | str x=>obtain ⟨t,e⟩:=(show ∃ t,u=Value.str x t from r);cases e;rfl
 | byt b=>obtain ⟨t,e⟩:=(show ∃ t,u=Value.bytes b t from r);cases e;rfl
 | flt b=>obtain ⟨t,e⟩:=(show ∃ t,u=Value.float b t from r);cases e;rfl
 | ref a=>cases (show u=Value.ref a from r);rfl
 | ty n=>cases (show u=Value.type n from r);rfl
section
variable {P:Program} {w:World} {H H':Hp} {h h':Heap} {a C dx:Addr} {fs fs':List (Str×V)}
theorem zE1 (hok:HOk P w H h) (e:H a=some (.ins C dx fs)):∃ mA,ObjM h a dx C mA/\(∀ f,RelO (fs.lookup f) (mA f))/\PySem.Within mA (fs.map (·.1))/\fs.length<=1000/\H dx=some (.own a):=by
 obtain ⟨d,z,ne,ob,mA,n,r,q⟩:=(show zh6 P w H h a (.ins C dx fs) from hok a _ e)
 exact⟨mA,⟨ob,n,ne⟩,r,q,z,d⟩
end
/-! ### what of the text a class must have -/
structure Cls (K:PySem.W.Frag) (C:Addr):Prop where
 pg:PySem.W.plainGet K C Str.empty=true
 hd:PySem.W.hasDictIn K C=true
 po:PySem.W.plainOver K C=true
 sa:PySem.W.findIn K (.ref C) "__setattr__" = some (some (.builtin "object.__setattr__"))
theorem Cls.get {K:PySem.W.Frag} {C:Addr} (c:Cls K C) (f:Str):PySem.W.plainGet K C f=true:=c.pg
noncomputable def zf8 (K:PySem.W.Frag) (C:Addr) (f:Str):Prop:=PySem.W.findIn K (.ref C) f=some none
theorem zf8.taker {K:PySem.W.Frag} {C:Addr} {f:Str} (n:zf8 K C f):PySem.W.takerIn K C f=some none:=by
 unfold PySem.W.takerIn
 rw[show PySem.W.findIn K (.ref C) f=some none from n]
 rfl
section
variable {X:Cx} {pins:List (Addr×Obj)} {σ:St} {H:Hp} {s:Shared} {a C dx:Addr} {fs:List (Str×V)} {f:Str} {v:V} {A:Around} {E:Value->Shared->Prop}
theorem getattr_ok {b:Bool} {Q:Value->Shared->Prop} (I:Inv X pins σ H s) (e:H a=some (.ins C dx fs)) (c:Cls X.K C) (n:zf8 X.K C f) (l:fs.lookup f=some v)
   (h:∀ u s',Inv X pins σ H s'->RelV v u->Q u s'):wpAny (model X.prog X.w) A (getAttr (.ref a) f b) Q E s:=by
 obtain ⟨mA,O,r,_,_,_⟩:=zE1 I.hok e
 obtain ⟨u,hu,ru⟩:=RelO.some_of (v:=v) (o:=mA f) (by rw[<-l];exact r f)
 exact get_map I.kIn O (c.get f) c.hd n hu (handed_of ru) (h u _ (I.tok _) ru)
theorem setattr_ok {y:V} {u:Value} {Q:Unit->Shared->Prop} (I:Inv X pins σ H s) (e:H a=some (.ins C dx fs)) (c:Cls X.K C) (n:zf8 X.K C f) (hl:fs.length<1000) (ry:RelV y u)
   (h:∀ s',Inv X pins σ (upd H a (.ins C dx (putF f y fs))) s'->Q () s'):wpAny (model X.prog X.w) A (setAttr (.ref a) f u) Q E s:=by
 obtain ⟨mA,O,r,wi,_,ho⟩:=zE1 I.hok e
 have hz:(fs.map (·.1)).length<=sizeLine:=by rw[List.length_map,sizeLine_eq];omega
 refine set_map I.kIn O c.sa c.po n.taker c.hd wi hz fun h' O' sb=>h _ ?_
 have hd:∃ o,h'.get? dx=some o:=let ⟨o,_,_,e',_⟩:=O'.ns;⟨o,e'⟩
 refine I.write (x:=a) (e:=dx) (by rw[e];exact True.intro) (.inr ho) (fun b q hb z=>(sb.2 b hb).trans z) hd ?_
 refine⟨by rw[za7 O.ne];exact ho,?_,O.ne,O'.obj,_,O'.ns,fun g=>?_,fun g hg=>?_⟩
 . have:=zl1 f y fs;omega
 . show RelO ((putF f y fs).lookup g) (if g=f then some u else mA g)
   rw[zd6]
   by_cases q:g=f
   . rw[if_pos q,if_pos q];exact ry
   . rw[if_neg q,if_neg q];exact r g
 . by_cases q:g=f
   . rw[q];exact (zp0 f y fs).1
   . refine (zp0 f y fs).2 g (wi g fun z=>hg ?_)
     show (if g=f then some u else mA g)=none
     rw[if_neg q];exact z
theorem Inv.made (I:Inv X pins σ H s):Inv X pins σ (upd (upd H s.heap.objs.size (.own (s.heap.objs.size+1))) (s.heap.objs.size+1) (.ins C s.heap.objs.size []))
   { s with heap:=(s.heap.push PySem.W.emptyDict).push (PySem.W.instObj C s.heap.objs.size) }:=by
 have e1:(s.heap.push PySem.W.emptyDict).get? s.heap.objs.size=some PySem.W.emptyDict:=Heap.get?_push_size s.heap rfl
 have e2:((s.heap.push PySem.W.emptyDict).push (PySem.W.instObj C s.heap.objs.size)).get? (s.heap.objs.size+1)=some (PySem.W.instObj C s.heap.objs.size):=by
   have:=Heap.get?_push_size (s.heap.push PySem.W.emptyDict) (o:=PySem.W.instObj C s.heap.objs.size) rfl
   rwa [Heap.size_push] at this
 have e3:(s.heap.push PySem.W.emptyDict).Ns s.heap.objs.size (fun _=>none):=⟨PySem.W.emptyDict,#[],_,e1,rfl,(fun e he=>absurd he (by simp)),fun _=>rfl⟩
 have I1:=I.laid (a:=s.heap.objs.size) (o:=.own (s.heap.objs.size+1)) (h':=s.heap.push PySem.W.emptyDict) (t':=s.toks) (fun b u q=>Heap.get?_push_of_some _ q) (Nat.le_refl _) ⟨_,e1⟩
 refine I1.laid (a:=s.heap.objs.size+1) (o:=.ins C s.heap.objs.size []) (t':=s.toks) (fun b u q=>Heap.get?_push_of_some _ q) (Nat.le_of_eq (Heap.size_push _ _)) ?_
 have ne:s.heap.objs.size≠s.heap.objs.size+1:=Nat.ne_of_lt (Nat.lt_succ_self _)
 refine⟨by rw[za7 ne,za4],Nat.zero_le _,ne,e2,fun _=>none,(Heap.Ns1.of_empty e3).at fun o q=>Heap.get?_push_of_some _ q,fun _=>True.intro,fun y hy=>absurd rfl hy⟩
theorem attr_of {prog:Program} {w:World} {env:Env} {e:Expr} {f:Str} {pos:Pos} {s:Shared} {Q:Value->Shared->Prop} (hb:attributeBase e f env (eval e env)=eval e env)
   (h:wpAny (model prog w) A (eval e env) (fun o s₁=>wpAny (model prog w) A (getAttr o f true) Q E s₁) E s):wpAny (model prog w) A (eval (.Attribute e f pos) env) Q E s :=
 Attribute_any_ h (by rw[arm_eval_Attribute,hb])
end
/-! ### readings and rules -/
noncomputable def tFld (K:PySem.W.Frag) (ta:TE) (f:Str):TE:=fun σ H Q=>ta σ H fun x H1=>∃ a C dx fs v,x = .ref a/\H1 a=some (.ins C dx fs)/\Cls K C/\zf8 K C f/\fs.lookup f=some v/\Q v H1
noncomputable def sFld (K:PySem.W.Frag) (ta tv:TE) (f:Str):TS:=fun D σ H=>tv σ H fun y H1=>ta σ H1 fun x H2=>∃ a C dx fs,x = .ref a/\H2 a=some (.ins C dx fs)/\Cls K C/\zf8 K C f/\fs.length<1000 ∧
 D.nx σ (upd H2 a (.ins C dx (putF f y fs)))
section
variable {X:Cx} {o e value:Expr} {f:Str} {pos pos' tpos:Pos} {ta tv:TE}
theorem zq4 (he:PE X e ta) (hb:attributeBase e f X.env (eval e X.env)=eval e X.env):PE X (.Attribute e f pos) (tFld X.K ta f):=by
 intro pins s σ H Q I h
 refine attr_of hb (thn (he pins s σ H _ I h) fun u s1 ⟨x,H1,I1,rx,a,C,dx,fs,v,ex,ea,c,n,l,q⟩=>?_)
 subst ex
 obtain rfl:u=Value.ref a:=rx
 exact getattr_ok I1 ea c n l fun u' s2 I2 ru=>⟨v,H1,I2,ru,q⟩
theorem zE2 (ha:PE X o ta) (hv:PE X value tv) (hs:swapsWith value (some (.Attribute o f pos')) pos.line X.env=pure false):PS X (.Assign [.Attribute o f pos'] value pos) (sFld X.K ta tv f):=by
 intro pins s σ H D I h
 refine plainObj_wpAny_Assign_Attribute (thn (hv pins s σ H _ I h) fun u s1 ⟨y,H1,I1,ry,q⟩=>thn (ha pins s1 σ H1 _ I1 q) fun ov s2 ⟨x,H2,I2,rx,a,C,dx,fs,ex,ea,c,n,l,q2⟩=>?_) hs
 subst ex
 obtain rfl:ov=Value.ref a:=rx
 exact setattr_ok I2 ea c n l ry fun s3 I3=>⟨σ,_,I3,q2⟩
end
/-! ### isinstance -/
section
variable {X:Cx} {pins:List (Addr×Obj)} {σ:St} {H:Hp} {s:Shared} {A:Around} {E:Value->Shared->Prop} {Q:Value->Shared->Prop} {c:Value} {b:Bool}
inductive TyOf (K:PySem.W.Frag) (H:Hp):V->Value->Prop where
 | non:TyOf K H .non (.type "NoneType")
 | bl (x:Bool):TyOf K H (.bl x) (.type "bool")
 | int (i:Int):TyOf K H (.int i) (.type "int")
 | str (x:Str):TyOf K H (.str x) (.type "str")
 | flt (x:UInt64):TyOf K H (.flt x) (.type "float")
 | lst {a:Addr} {xs:List V} (e:H a=some (.lst xs)):TyOf K H (.ref a) (.type "list")
 | frz {a:Addr} {o:Obj} {xs:List V} (e:H a=some (.frz o (.lst xs))):TyOf K H (.ref a) (.type "list")
 | tup {a:Addr} {xs:List V} (e:H a=some (.tup xs)):TyOf K H (.ref a) (.type "tuple")
 | dK {a:Addr} {kvs:List (Key×V)} (e:H a=some (.dK kvs)):TyOf K H (.ref a) (.type "dict")
 | dT {a:Addr} {kvs:List (List Key×V)} (e:H a=some (.dT kvs)):TyOf K H (.ref a) (.type "dict")
 | ins {a C dx:Addr} {fs:List (Str×V)} (e:H a=some (.ins C dx fs)) (cl:Cls K C) (ha:PySem.W.findIn K (.ref C) "__class__" = some (some (.builtin "object.__class__")))
     (hn:PySem.W.specialIn K (.builtin "object.__class__") "__get__" = some (some (.builtin "getset_descriptor.__get__"))) (htk:PySem.W.takesIn K (.builtin "object.__class__")=some true)
     (hm:PySem.W.mroIn K C (.type "object")=some true):TyOf K H (.ref a) (.ref C)
theorem isinst_ok {x:V} {u t:Value} (I:Inv X pins σ H s) (rx:RelV x u) (ty:TyOf X.K H x t) (e:PySem.W.kitOne X.K t c=some b) (h:∀ tk,Q (.bool b) { s with toks:=tk }) :
   wpAny (model X.prog X.w) A (call (.builtin "isinstance") [u,c]) Q E s:=by
 cases ty with
 | non=>cases (show u=Value.none from rx);exact PySem.W.kia_one PySem.W.kitx_none I.kIn True.intro e (fun z=>nomatch z) h
 | bl y=>cases (show u=Value.bool y from rx);exact PySem.W.kia_one PySem.W.kitx_bool I.kIn True.intro e (fun z=>nomatch z) h
 | int i=>obtain ⟨t,q⟩:=(show ∃ t,u=Value.int i t from rx);cases q;exact PySem.W.kia_one PySem.W.kitx_int I.kIn True.intro e (fun z=>nomatch z) h
 | str y=>obtain ⟨t,q⟩:=(show ∃ t,u=Value.str y t from rx);cases q;exact PySem.W.kia_one PySem.W.kitx_str I.kIn True.intro e (fun z=>nomatch z) h
 | flt y=>obtain ⟨t,q⟩:=(show ∃ t,u=Value.float y t from rx);cases q;exact PySem.W.kia_one PySem.W.kitx_float I.kIn True.intro e (fun z=>nomatch z) h
 | @lst a xs ea =>
   cases (show u=Value.ref a from rx)
   obtain ⟨_,_,n,_,h1⟩:=(show zh6 X.prog X.w H s.heap a (.lst xs) from I.hok a _ ea)
   exact PySem.W.kia_one PySem.W.kitx_list I.kIn ⟨_,h1,rfl⟩ e (fun z=>nomatch z) h
 | @frz a ob xs ea =>
   cases (show u=Value.ref a from rx)
   obtain ⟨_,_,_,n,_,h1⟩:=(show zh6 X.prog X.w H s.heap a (.frz ob (.lst xs)) from I.hok a _ ea)
   exact PySem.W.kia_one PySem.W.kitx_list I.kIn ⟨_,h1,rfl⟩ e (fun z=>nomatch z) h
 | @tup a xs ea =>
   cases (show u=Value.ref a from rx)
   obtain ⟨_,_,_,p⟩:=(show zh6 X.prog X.w H s.heap a (.tup xs) from I.hok a _ ea)
   obtain ⟨o,h1,h2,_⟩:=p
   exact PySem.W.kia_one PySem.W.kitx_tuple I.kIn ⟨o,h1,h2⟩ e (fun z=>nomatch z) h
 | @dK a kvs ea =>
   cases (show u=Value.ref a from rx)
   obtain ⟨_,_,vs,_,p⟩:=(show zh6 X.prog X.w H s.heap a (.dK kvs) from I.hok a _ ea)
   obtain ⟨o,es,ep,h1,h2,_⟩:=p
   exact PySem.W.kia_one PySem.W.kitx_dict I.kIn ⟨o,h1,h2.1⟩ e (fun z=>nomatch z) h
 | @dT a kvs ea =>
   cases (show u=Value.ref a from rx)
   obtain ⟨_,_,xs,_,o,es,ep,h1,h2,_⟩:=(show zh6 X.prog X.w H s.heap a (.dT kvs) from I.hok a _ ea)
   exact PySem.W.kia_one PySem.W.kitx_dict I.kIn ⟨o,h1,h2.1⟩ e (fun z=>nomatch z) h
 | @ins a C dx fs ea cl ha hn htk hm =>
   cases (show u=Value.ref a from rx)
   obtain ⟨mA,O,_⟩:=zE1 I.hok ea
   obtain ⟨od,J,_⟩:=O.look
   exact PySem.W.kia_one (PySem.W.kitx_own (cl.get _) cl.hd ha hn htk hm) I.kIn J e (fun z=>nomatch z) h
end
end L2
namespace L2
open PySem PySem.Spec PyProof.Rows
/-! ### room -/
structure Room (k:Nat) (A:Around):Prop where
 hd:A.handled=none
 dp:A.depth+3*k+5<recursionLimit
 un:A.units+16*k+200<cLine
theorem Room.mono {j k:Nat} {A:Around} (r:Room k A) (h:j<=k):Room j A:=⟨r.hd,by have:=r.dp;omega,by have:=r.un;omega⟩
theorem Room.deeper {k:Nat} {A:Around} (r:Room (k+1) A) (env:Env):Room k (A.deeper env) :=
 ⟨r.hd,by have:=r.dp;show A.depth+1+3*k+5<_;omega,by have:=r.un;show A.units+3+16*k+200<_;omega⟩
theorem make_depth {A:Around} {C:Addr} {us:List Value} {kw:List (Str×Value)}:(A.under (.builtin "type.__call__" ⟨.ref C::us,kw⟩)).depth=A.depth+1:=by
 first | rfl | simp[Around.under,Code.weight,Code.isCreation,Code.isGuard,Code.isCaller,Code.frames,Code.isFrame,guardIds]
theorem make_units {A:Around} {C:Addr} {us:List Value} {kw:List (Str×Value)}:(A.under (.builtin "type.__call__" ⟨.ref C::us,kw⟩)).units=A.units+1:=by
 first | rfl | simp[Around.under,Code.cUnits,Code.frames,Code.isFrame]
theorem Room.make {k:Nat} {A:Around} (r:Room (k+1) A) (C:Addr) (us:List Value) (kw:List (Str×Value)):Room k (A.under (.builtin "type.__call__" ⟨.ref C::us,kw⟩)) :=
 ⟨r.hd,by have:=r.dp;rw[make_depth];omega,by have:=r.un;rw[make_units];omega⟩
theorem Room.depth {k:Nat} {A:Around} (r:Room k A):A.depth<recursionLimit:=by have:=r.dp;omega
theorem Room.units {k:Nat} {A:Around} (r:Room k A):A.units+64<cLine:=by have:=r.un;omega
/-! ### argument lists and displays -/
noncomputable def tNil:TA:=fun _ H Q=>Q [] H
noncomputable def zI2 (ta:TE) (tr:TA):TA:=fun σ H Q=>ta σ H fun x H1=>tr σ H1 fun xs H2=>Q (x::xs) H2
section
variable {X:Cx} {e:Expr} {es:List Expr} {te:TE} {t:TA} {pos:Pos}
theorem za3:PA X [] tNil:=fun _ _ _ _ H Q I h=>Calls.spliced_nil ⟨[],H,I,.nil,h⟩
theorem za0 (ha:PE X e te) (hr:PA X es t) (hs:starEach (e::es) X.env=(false,eval e X.env)::starEach es X.env:=by rfl):PA X (e::es) (zI2 te t):=by
 intro pos pins s σ H Q I h
 rw[hs]
 show wpAny _ _ (spliced ((false,eval e X.env)::backTo pos (starEach es X.env))) _ _ s
 refine Calls.spliced_cons (thn (ha pins s σ H _ I h) fun u s1 ⟨x,H1,I1,r1,q1⟩=>?_)
 exact thn (hr pos pins s1 σ H1 _ I1 q1) fun us s2 ⟨xs,H2,I2,r2,q2⟩=>⟨x::xs,H2,I2,.cons r1 r2,q2⟩
noncomputable def tLst (t:TA):TE:=fun σ H Q=>t σ H fun xs H1=>xs.length<=sizeLine/\∀ p,H1 p=none->Q (.ref p) (upd H1 p (.lst xs))
theorem zo6 (h:PA X es t):PE X (.List es pos) (tLst t):=by
 intro pins s σ H Q I hq
 refine wpAny_List_spliced (thn (h pos pins s σ H _ I hq) fun us s1 ⟨xs,H1,I1,r,z,q⟩=>⟨by rw[<-r.length];exact z,?_⟩)
 have hf:H1 s1.heap.objs.size=none:=I1.hok.fresh (Nat.le_refl _)
 refine⟨.ref s1.heap.objs.size,upd H1 s1.heap.objs.size (.lst xs),I1.laid (t':=s1.toks) (fun b u e=>Heap.get?_push_of_some _ e) (Nat.le_refl _) ?_,rfl,q _ hf⟩
 exact⟨z,us,0,r,Heap.get?_push_size _ rfl⟩
end
/-! ### what a def promises -/
noncomputable abbrev Sp:=List V->Hp->VK->XK->Prop
noncomputable abbrev CXT:=List Env->Hp->Shared->XK->Value->Shared->Prop
structure Env0 (P:Program) (w:World) (K:PySem.W.Frag) (mg:Str->Option Value) (base:Heap) (A:Around) (outer:List Env) (s:Shared) (H:Hp):Prop where
 frames:A.frames=some outer
 mod:Mod K mg base
 bs:∀ b o,base.get? b=some o->s.heap.get? b=some o/\H b=none
 bsz:base.objs.size<=s.heap.objs.size
 funs:s.heap.FunFrames base outer
 frf:∀ b∈frs outer,H b=none
 hok:HOk P w H s.heap
 bare:AllBare s.gens
noncomputable def CE (outer:List Env) (P:Program) (w:World) (H:Hp) (s:Shared) (Q:VK) (u:Value) (s':Shared):Prop :=
 ∃ v H',s'.os=s.os/\AllBare s'.gens/\Un (frs outer) [] H H' s.heap s'.heap/\HOk P w H' s'.heap/\RelV v u/\Q v H'
noncomputable def CR (CX:CXT) (outer:List Env) (P:Program) (w:World) (H:Hp) (s:Shared) (Q:VK) (E:XK) (r:Result) (s':Shared):Prop :=
 match r with
 | .ok (.ret u)=>CE outer P w H s Q u s'
 | .ok _=>False
 | .error e=>CX outer H s E e s'
structure FnOk (P:Program) (w:World) (K:PySem.W.Frag) (mg:Str->Option Value) (base:Heap) (CX:CXT) (k:Nat) (f:Addr) (fd:FuncData) (ps:List Str) (sp:Sp):Prop where
 len:∀ vs H Q E,sp vs H Q E->vs.length=ps.length
 run:∀ (A:Around) (outer:List Env) (s:Shared) (H:Hp) (args:Args) (us:List Value) (vs:List V) (Q:VK) (E:XK),Room k A->Env0 P w K mg base A outer s H->BindsTo s fd args (ps.zip us)->Vals vs us->sp vs H Q E →
   codeAny (model P w) A (.call (.ref f) args) (CR CX outer P w H s Q E) s
theorem Env0.make {P:Program} {w:World} {K:PySem.W.Frag} {mg:Str->Option Value} {base:Heap} {A:Around} {outer:List Env} {s:Shared} {H:Hp} (e:Env0 P w K mg base A outer s H) (C:Addr) (us:List Value) (kw:List (Str×Value)) :
 Env0 P w K mg base (A.under (.builtin "type.__call__" ⟨.ref C::us,kw⟩)) outer s H:=⟨by first | exact e.frames | (simpa [Around.under,Code.envs,Code.isFrame,pushEnvs] using e.frames),e.mod,e.bs,e.bsz,e.funs,e.frf,e.hok,e.bare⟩
section
variable {X:Cx} {pins:List (Addr×Obj)} {σ:St} {H:Hp} {s s':Shared}
theorem Inv.env0 (I:Inv X pins σ H s):Env0 X.prog X.w X.K X.mg X.base X.A X.stack s H :=
 ⟨I.ok.frames,I.ok.mod,I.bs,Nat.le_trans I.ok.bsz I.sz,I.stack,I.stkFree,I.hok,I.bare⟩
theorem Inv.after {Q:VK} {u:Value} (I:Inv X pins σ H s) (h:CE X.stack X.prog X.w H s Q u s'):EP X pins σ Q u s':=by
 obtain ⟨v,H',os,bare,un,hok,r,q⟩:=h
 obtain ⟨hh,g,d,t,os'⟩:=s'
 obtain rfl:os'=s.os:=os
 exact⟨v,H',I.call (h':=hh) (g':=g) (d':=d) (t':=t) (ch:=[]) un hok bare (fun b z=>absurd z (by simp)),r,q⟩
end
/-! ### calls -/
noncomputable def zM5 (sp:Sp) (dvs:List V) (E:XK) (t:TA):TE:=fun σ H Q=>t σ H fun vs H1=>sp (vs++dvs) H1 Q E
noncomputable def tMake (C:Addr) (sp:Sp) (dvs:List V) (E:XK) (t:TA):TE:=fun σ H Q=>t σ H fun vs H1=>∀ x dx,H1 x=none->H1 dx=none->dx≠x →
 sp (.ref x::(vs++dvs)) (upd (upd H1 dx (.own x)) x (.ins C dx [])) (fun v H2=>v = .non/\Q (.ref x) H2) E
noncomputable def zc9 (K:PySem.W.Frag) (fd:FuncData) (ps:List Str) (ds:List Value):Prop :=
 ∀ (s:Shared) (us:List Value),K.In s.heap->(us++ds).length=ps.length->BindsTo s fd ⟨us,[]⟩ (ps.zip (us++ds))
theorem zc9.all {K:PySem.W.Frag} {fd:FuncData} {ps:List Str} (h:∀ us:List Value,us.length=ps.length->bindArgs fd ⟨us,[]⟩=pure (ps.zip us)):zc9 K fd ps []:=fun s us _ hl=>by
 rw[List.append_nil] at hl ⊢
 exact .of_eq (h us hl)
noncomputable def zn1 (CX:CXT) (X:Cx) (E:XK):Prop:=∀ (pins:List (Addr×Obj)) (σ:St) (H:Hp) (s:Shared) (e:Value) (s':Shared),Inv X pins σ H s->CX X.stack H s E e s'->X.xe e s'
section
variable {X:Cx} {CX:CXT} {k:Nat} {f C:Addr} {fd:FuncData} {ps:List Str} {sp:Sp} {dvs:List V} {ds:List Value} {E:XK} {x m:Str} {p pos apos:Pos} {e o:Expr} {es:List Expr} {ta:TE} {t:TA}
theorem zK3 {pins:List (Addr×Obj)} {σ:St} {H:Hp} {s:Shared} {Q:VK} {us:List Value} {vs:List V} (F:FnOk X.prog X.w X.K X.mg X.base CX k f fd ps sp) (hr:Room k X.A) (hb:zc9 X.K fd ps ds) (hd:Vals dvs ds) (hx:zn1 CX X E)
   (I:Inv X pins σ H s) (r:Vals vs us) (h:sp (vs++dvs) H Q E):wpAny (model X.prog X.w) X.A (call (.ref f) us) (EP X pins σ Q) X.xe s:=by
 have r2:Vals (vs++dvs) (us++ds):=r.append hd
 have hl:(us++ds).length=ps.length:=by rw[<-r2.length];exact F.len _ _ _ _ h
 refine wpAny_call (codeAny_mono (F.run X.A X.stack s H ⟨us,[]⟩ (us++ds) (vs++dvs) Q E hr I.env0 (hb s us I.kIn hl) r2 h) fun r s' hq=>?_)
 cases r with
 | error e=>exact hx pins σ H s e s' I hq
 | ok fl =>
   cases fl with
   | ret u=>exact I.after hq
   | next=>exact False.elim hq
   | brk=>exact False.elim hq
   | cont=>exact False.elim hq
theorem za9 (F:FnOk X.prog X.w X.K X.mg X.base CX k f fd ps sp) (hr:Room k X.A) (hg:Gl X x) (hm:X.mg x=some (.ref f)) (hk:PySem.W.keepIn X.K (.ref f)=true) (hb:zc9 X.K fd ps ds) (hd:Vals dvs ds) (hx:zn1 CX X E)
   (ha:PA X (e::es) t) (hdb:(x == ("__debug__" : Str))=false:=by decide) (he:starEach (e::es) X.env=(false,eval e X.env)::starEach es X.env:=by rfl) (hpl:(backTo pos (starEach es X.env)).any (·.1)=false:=by rfl) :
   PE X (.Call (.Name x p) (e::es) [] pos) (zM5 sp dvs E t):=by
 intro pins s σ H Q I h
 refine wpAny_Call_Name_kw (zt4 I hg hm ?_ hdb)
 refine PySem.W.callWith_K (h₀:=X.base) I.ok.mod.kin hk (thn (ha pos pins s σ H _ I h) fun us s1 ⟨vs,H1,I1,r,q⟩=>⟨I1.kIn,?_⟩) he hpl
 exact zK3 F hr hb hd hx I1 r q
structure Mk (K:PySem.W.Frag) (C f:Addr):Prop where
 makes:PySem.W.makesIn K C=true
 init:PySem.W.findIn K (.ref C) "__init__" = some (some (.ref f))
 fn:PySem.W.isFn K (.ref f)=true
 kp:PySem.W.keepIn K (.ref C)=true
theorem run_make {pins:List (Addr×Obj)} {σ:St} {H:Hp} {s:Shared} {Q:VK} {us:List Value} {vs:List V} (M:Mk X.K C f) (F:FnOk X.prog X.w X.K X.mg X.base CX k f fd ps sp) (hr:Room (k+1) X.A) (hb:zc9 X.K fd ps ds) (hd:Vals dvs ds)
   (hx:zn1 CX X E) (I:Inv X pins σ H s) (r:Vals vs us)
   (h:∀ x dx,H x=none->H dx=none->dx≠x->sp (.ref x::(vs++dvs)) (upd (upd H dx (.own x)) x (.ins C dx [])) (fun v H2=>v = .non/\Q (.ref x) H2) E) :
   wpAny (model X.prog X.w) X.A (call (.ref C) us) (EP X pins σ Q) X.xe s:=by
 have hq:=h (s.heap.objs.size+1) s.heap.objs.size (I.hok.fresh (Nat.le_succ _)) (I.hok.fresh (Nat.le_refl _)) (Nat.ne_of_lt (Nat.lt_succ_self _))
 have I2:=Inv.made (C:=C) I
 have r2:Vals (V.ref (s.heap.objs.size+1)::(vs++dvs)) (Value.ref (s.heap.objs.size+1)::(us++ds)):=.cons rfl (r.append hd)
 have hl:(Value.ref (s.heap.objs.size+1)::us++ds).length=ps.length:=by
   have e:=r2.length
   rw[F.len _ _ _ _ hq] at e
   exact e.symm
 refine wpAny_call (make_map (f:=f) I.kIn M.makes M.init (beq_iff_eq.mp M.fn) (codeAny_mono (F.run _ X.stack _ _ ⟨Value.ref (s.heap.objs.size+1)::us,[]⟩ (Value.ref (s.heap.objs.size+1)::(us++ds)) _ _ E (hr.make C us [])
   (I2.env0.make C us []) (hb _ (Value.ref (s.heap.objs.size+1)::us) I2.kIn hl) r2 hq) fun r s' hq'=>?_))
 cases r with
 | error e=>exact hx pins σ _ _ e s' I2 hq'
 | ok fl =>
   cases fl with
   | ret u =>
     obtain ⟨v,H',I3,rv,ev,q3⟩:=I2.after hq'
     subst ev
     exact⟨rv,⟨V.ref (s.heap.objs.size+1),H',I3,rfl,q3⟩⟩
   | next=>exact False.elim hq'
   | brk=>exact False.elim hq'
   | cont=>exact False.elim hq'
theorem pe_make (M:Mk X.K C f) (F:FnOk X.prog X.w X.K X.mg X.base CX k f fd ps sp) (hr:Room (k+1) X.A) (hg:Gl X x) (hm:X.mg x=some (.ref C)) (hb:zc9 X.K fd ps ds) (hd:Vals dvs ds) (hx:zn1 CX X E)
   (ha:PA X (e::es) t) (hdb:(x == ("__debug__" : Str))=false:=by decide) (he:starEach (e::es) X.env=(false,eval e X.env)::starEach es X.env:=by rfl) (hpl:(backTo pos (starEach es X.env)).any (·.1)=false:=by rfl) :
   PE X (.Call (.Name x p) (e::es) [] pos) (tMake C sp dvs E t):=by
 intro pins s σ H Q I h
 refine wpAny_Call_Name_kw (zt4 I hg hm ?_ hdb)
 refine PySem.W.callWith_K (h₀:=X.base) I.ok.mod.kin M.kp (thn (ha pos pins s σ H _ I h) fun us s1 ⟨vs,H1,I1,r,q⟩=>⟨I1.kIn,?_⟩) he hpl
 exact run_make M F hr hb hd hx I1 r q
end
/-! ### keywords -/
section
variable {X:Cx} {CX:CXT} {k:Nat} {f C:Addr} {fd:FuncData} {ps ks:List Str} {sp:Sp} {E:XK} {x m:Str} {p pos apos kpos:Pos} {e o:Expr} {es:List Expr} {kws:List Keyword} {te ta:TE} {t tk:TA} {nm:Option Str}
variable {g:List Value->List Value->List Value} {gV:List V->List V->List V}
end
/-! ### a def's body keeps its promise -/
structure zc3 (N P:List Str) (sc:Scope):Prop where
 kind:sc.kind = .function
 co:sc.isCoroutine=false
 gen:sc.isGenerator=false
 nd:N.Nodup
 pre:N.take P.length=P
 par:∀ x∈P,sc.names.lookup x=some .local\/sc.names.lookup x=some .cell
 nofree:∀ y∈sc.names,y.2≠.free
theorem zB1 {kindOf:Str->Option NameKind} {x:Str}:∀ {binds:List (Str×Value)} {m:Str->Option Value},(∀ v,(x,v)∉binds)->bindL kindOf binds m x=m x
 | [],_,_=>rfl
 | (n,v)::r,m,h=>by
   unfold bindL
   rw[zB1 fun w hw=>h w (List.mem_cons_of_mem _ hw)]
   split
   . have:x≠n:=by rintro rfl;exact h v List.mem_cons_self
     simp[this]
   . rfl
theorem zB2 {kindOf:Str->Option NameKind} {x:Str}:∀ {binds:List (Str×Value)} {m:Str->Option Value},(∀ v,(x,v)∉binds)->bindC kindOf binds m x=m x
 | [],_,_=>rfl
 | (n,v)::r,m,h=>by
   unfold bindC
   rw[zB2 fun w hw=>h w (List.mem_cons_of_mem _ hw)]
   split
   . rfl
   . have:x≠n:=by rintro rfl;exact h v List.mem_cons_self
     simp[this]
theorem zB3 {kindOf:Str->Option NameKind} {x:Str} {v:Value}:∀ {P:List Str} {vs:List Value} {i:Nat} {m:Str->Option Value},P.Nodup->P[i]?=some x->vs[i]?=some v->kindOf x=some .local →
   bindL kindOf (P.zip vs) m x=some v
 | [],_,_,_,_,h,_,_=>by simp at h
 | _::_,[],_,_,_,_,h,_=>by simp at h
 | p::P,w::vs,0,m,nd,h1,h2,hk=>by
   simp at h1 h2;subst h1;subst h2
   show bindL kindOf ((p,w)::P.zip vs) m p=_
   unfold bindL
   rw[zB1 fun v hv=>(List.nodup_cons.mp nd).1 (List.of_mem_zip hv).1,if_pos hk]
   simp
 | p::P,w::vs,i+1,m,nd,h1,h2,hk=>by
   show bindL kindOf ((p,w)::P.zip vs) m x=_
   unfold bindL
   exact zB3 (i:=i) (List.nodup_cons.mp nd).2 (by simpa using h1) (by simpa using h2) hk
theorem zB4 {kindOf:Str->Option NameKind} {x:Str} {v:Value}:∀ {P:List Str} {vs:List Value} {i:Nat} {m:Str->Option Value},P.Nodup->P[i]?=some x->vs[i]?=some v->kindOf x≠some .local →
   bindC kindOf (P.zip vs) m x=some v
 | [],_,_,_,_,h,_,_=>by simp at h
 | _::_,[],_,_,_,_,h,_=>by simp at h
 | p::P,w::vs,0,m,nd,h1,h2,hk=>by
   simp at h1 h2;subst h1;subst h2
   show bindC kindOf ((p,w)::P.zip vs) m p=_
   unfold bindC
   rw[zB2 fun v hv=>(List.nodup_cons.mp nd).1 (List.of_mem_zip hv).1,if_neg hk]
   simp
 | p::P,w::vs,i+1,m,nd,h1,h2,hk=>by
   show bindC kindOf ((p,w)::P.zip vs) m x=_
   unfold bindC
   exact zB4 (i:=i) (List.nodup_cons.mp nd).2 (by simpa using h1) (by simpa using h2) hk
noncomputable def start (N:List Str) (vs:List V):St:=vs.map some++List.replicate (N.length-vs.length) none
noncomputable def cxOf (CX:CXT) (P:Program) (w:World) (K:PySem.W.Frag) (mg:Str->Option Value) (base:Heap) (N:List Str) (qual:Str) (scope:Scope) (f:Addr) (cd:Value) (A:Around) (outer:List Env) (s:Shared) (H:Hp) (E:XK):Cx where
 prog:=P
 w:=w
 K:=K
 mg:=mg
 base:=base
 A:=A.deeper (envOfC qual scope s.heap.objs.size f cd)
 N:=N
 s₀:=s
 H₀:=H
 env:=envOfC qual scope s.heap.objs.size f cd
 outer:=outer
 stack:=envOfC qual scope s.heap.objs.size f cd::outer
 ex:=[]
 calm:=true
 fn:=fun _=>true
 pn:=[]
 xe:=fun e s'=>wpAny (model P w) (A.deeper (envOfC qual scope s.heap.objs.size f cd)) (leaving (envOfC qual scope s.heap.objs.size f cd) e) (fun _ s''=>CX outer H s E e s'') (fun e' s''=>CX outer H s E e' s'') s'
theorem zG1 {sc:Scope} {n:Nat} {x:Str} (h:sc.names.lookup x=some .cell):∃ c,(cellsFrom n sc.names []).lookup x=some c:=by
 have q:=PySem.W.cellsFrom_some sc.names n [] (.inl h)
 exact Option.isSome_iff_exists.mp q
theorem inv_start {CX:CXT} {P:Program} {w:World} {K:PySem.W.Frag} {mg:Str->Option Value} {base:Heap} {N ps:List Str} {qual:Str} {scope:Scope} {f:Addr} {cd:Value} {A:Around} {outer:List Env} {s s1:Shared} {H:Hp} {E:XK} {us:List Value} {vs:List V}
   (S:zc3 N ps scope) (hd:A.handled=none) (e0:Env0 P w K mg base A outer s H) (hl:vs.length=ps.length) (r:Vals vs us)
   (x:InCallC s s.heap.objs.size (bindL (envOfC qual scope s.heap.objs.size f cd).kindOf (ps.zip us) fun _=>none) (cellsFrom (s.heap.objs.size+1) scope.names []) (bindC (envOfC qual scope s.heap.objs.size f cd).kindOf (ps.zip us) fun _=>none) s1) :
   Inv (cxOf CX P w K mg base N qual scope f cd A outer s H E) [] (start N vs) H s1:=by
 have hpl:ps.length<=N.length:=by have:=congrArg List.length S.pre;rw[List.length_take] at this;omega
 obtain ⟨h1,tk,rfl,hk⟩:=x.done
 have noA:∀ b:Addr,b∉(cxOf CX P w K mg base N qual scope f cd A outer s H E).ex:=fun b z=>absurd (show b∈([]:List Addr) from z) (by simp)
 refine⟨⟨e0.mod,S.kind,rfl,rfl,Nat.le_refl _,fun y z c h1 h2=>?_,fun y hy=>?_,fun y c _ h=>?_,fun _=>hd,Around.frames_deeper e0.frames,.inr ⟨rfl,rfl⟩,fun b z=>absurd z (noA b),e0.bs,e0.bsz,fun b _ _=>noA b,fun b z=>absurd z (noA b),e0.funs,e0.frf⟩,
   rfl,e0.bare,Un.kept hk,⟨_,x.toInCall.ns,fun i y v h1 h2 h3=>?_⟩,fun y c h=>⟨_,x.cell y c h⟩,e0.hok.fresh (Nat.le_refl _),fun y c h=>?_,fun p hp=>absurd (show p∈([]:List (Addr×Obj)) from hp) (by simp),e0.hok.kept hk,?_⟩
 . exact name_of_addr x.apart (PySem.mem_of_lookup h1) (PySem.mem_of_lookup h2)
 . have hy:scope.names.lookup y=some .cell\/scope.names.lookup y=some .free:=hy
   rcases hy with hy | hy
   . exact zG1 hy
   . exact absurd rfl (S.nofree _ (PySem.mem_of_lookup hy))
 . exact Nat.le_of_lt (x.above y c (PySem.mem_of_lookup h))
 . have hi:i<vs.length:=by
     unfold start at h2
     by_cases hi:i<vs.length
     . exact hi
     . rw[List.getElem?_append_right (by simpa using hi)] at h2
       rw[List.getElem?_replicate] at h2
       split at h2<;>cases h2
   have ha:vs[i]?=some v:=by
     unfold start at h2
     rw[List.getElem?_append_left (by simpa using hi),List.getElem?_map] at h2
     cases e:vs[i]? with
     | none=>rw[e] at h2;cases h2
     | some a=>rw[e] at h2;cases h2;rfl
   obtain ⟨u,hu,rv⟩:=r.get ha
   have hp:ps[i]?=some y:=by
     rw[<-S.pre,List.getElem?_take_of_lt (by omega)];exact h1
   have ndP:ps.Nodup:=by rw[<-S.pre];exact S.nd.sublist (List.take_sublist _ _)
   refine⟨u,rv,?_⟩
   rcases S.par y (List.mem_of_getElem? hp) with k | k
   . exact .inl ⟨k,zB3 ndP hp hu k⟩
   . obtain ⟨c,e⟩:=zG1 (n:=s.heap.objs.size+1) k
     refine .inr ⟨.inl k,c,e,?_⟩
     have q:=x.cell y c e
     rw[zB4 ndP hp hu (by show scope.names.lookup y≠_;rw[k];decide)] at q
     exact q
 . exact e0.hok.fresh (Nat.le_of_lt (x.above y c (PySem.mem_of_lookup h)))
 . unfold start
   show _=N.length
   rw[List.length_append,List.length_map,List.length_replicate]
   omega
theorem zK4 {CX:CXT} {P:Program} {w:World} {K:PySem.W.Frag} {mg:Str->Option Value} {base:Heap} {k:Nat} {f:Addr} {name qual:Str} {params:Arguments} {body:List Stmt} {scope:Scope} {dV kV doc pm cdv ct oc:Value} {an od:Option Addr}
   {osl:Array (Option Value)} {N ps:List Str} {sp:Sp} (lk:K.lookup f=some ⟨oc,od,.func (PySem.W.fnOf name qual params body scope dV kV doc pm an cdv ct),osl⟩) (hcd:PySem.W.codeIn K cdv qual=true) (S:zc3 N ps scope)
   (len:∀ vs H Q E,sp vs H Q E->vs.length=ps.length)
   (hbody:∀ (A:Around) (outer:List Env) (s:Shared) (H:Hp) (vs:List V) (Q:VK) (E:XK),Room k (A.deeper (envOfC qual scope s.heap.objs.size f cdv))->sp vs H Q E →
     ∃ t,PSs (cxOf CX P w K mg base N qual scope f cdv A outer s H E) body t/\t { nx:=fun _ H'=>Q .non H',rt:=Q } (start N vs) H) :
   FnOk P w K mg base CX (k+1) f (PySem.W.fnOf name qual params body scope dV kV doc pm an cdv ct) ps sp:=by
 refine⟨len,fun A outer s H args us vs Q E hr e0 hb r hsp=>?_⟩
 have hl:=len _ _ _ _ hsp
 have KX:K.In s.heap:=e0.mod.kin.keeps fun b o e=>(e0.bs b o e).1
 have lim:s.heap.NoLimit:=e0.mod.nolimit.keeps fun b o e=>(e0.bs b o e).1
 have hkind:∀ y∈ps.zip us,scope.names.lookup y.1=some .local\/(scope.names.lookup y.1=some .cell/\((cellsFrom (s.heap.objs.size+1) scope.names []).lookup y.1).isSome=true):=fun ⟨n,v⟩ hy=>by
   rcases S.par n (List.of_mem_zip hy).1 with q | q
   . exact .inl q
   . exact .inr ⟨q,PySem.W.cellsFrom_some _ _ _ (.inl q)⟩
 refine codeAny_call_function hr.depth (KX _ _ lk) rfl S.co S.gen rfl (PySem.W.codeRec_of KX hcd) (hb _ _ _ _ ?_)
 refine wpAny_newFunctionEnv_cells S.kind hkind fun env he s1 x=>?_
 subst he
 refine⟨lim.keeps x.toInCall.keep,codeAny_func ?_⟩
 obtain ⟨t,ht,hq⟩:=hbody A outer s H vs Q E (hr.deeper _) hsp
 have I:Inv (cxOf CX P w K mg base N qual scope f cdv A outer s H E) [] (start N vs) H s1:=inv_start S hr.hd e0 hl r x
 refine wpAny_mono (ht [] s1 (start N vs) H _ I hq) (fun fl s' hs=>?_) fun e s' hs=>hs
 have fin:∀ {σ':St} {H':Hp} {v:V} {u:Value},Inv (cxOf CX P w K mg base N qual scope f cdv A outer s H E) [] σ' H' s'->RelV v u->Q v H'->CE outer P w H s Q u s' :=
   fun {σ' H' v u} J rv q=>⟨v,H',J.os,J.bare,J.base,J.hok,rv,q⟩
 cases fl with
 | ret u =>
   obtain ⟨v,σ',H',J,rv,q⟩:=hs
   exact fin J rv q
 | next =>
   obtain ⟨σ',H',J,q⟩:=hs
   exact fin (v:=V.non) (u:=Value.none) J rfl q
 | brk =>
   obtain ⟨_,_,_,q⟩:=hs
   exact False.elim q
 | cont =>
   obtain ⟨_,_,_,q⟩:=hs
   exact False.elim q
end L2
namespace L2
open PySem PySem.Spec PyProof.Rows
section
variable {X:Cx} {x:Str} {p pos:Pos} {e:Expr} {es:List Expr} {t:TA} {id T:String} {r:List V->Hp->VK->Prop}
noncomputable def tCB (r:List V->Hp->VK->Prop) (t:TA):TE:=fun σ H Q=>t σ H fun vs H1=>r vs H1 Q
theorem zb6 (hc:zn7 X (.builtin id) r) (hg:Gl X x) (hm:X.mg x=none) (hv:bootBuiltins x=some (.builtin id)) (ha:PA X (e::es) t) (hn:x≠"__name__":=by decide) (hdb:(x == ("__debug__" : Str))=false:=by decide)
   (he:starEach (e::es) X.env=(false,eval e X.env)::starEach es X.env:=by rfl) (hpl:(backTo pos (starEach es X.env)).any (·.1)=false:=by rfl):PE X (.Call (.Name x p) (e::es) [] pos) (tCB r t):=by
 intro pins s σ H Q I h
 refine wpAny_Call_Name_kw (zD8 I hg hm hv ?_ hn hdb)
 exact PyProof.Rows.callWith_builtin1 (thn (ha pos pins s σ H _ I h) fun us s1 ⟨vs,H1,I1,r1,q1⟩=>hc pins s1 σ H1 vs us Q I1 r1 q1) he hpl
theorem zf9 (hc:zn7 X (.type T) r) (hg:Gl X x) (hm:X.mg x=none) (hv:bootBuiltins x=some (.type T)) (ha:PA X (e::es) t) (hn:x≠"__name__":=by decide) (hdb:(x == ("__debug__" : Str))=false:=by decide)
   (he:starEach (e::es) X.env=(false,eval e X.env)::starEach es X.env:=by rfl) (hpl:(backTo pos (starEach es X.env)).any (·.1)=false:=by rfl):PE X (.Call (.Name x p) (e::es) [] pos) (tCB r t):=by
 intro pins s σ H Q I h
 refine wpAny_Call_Name_kw (zD8 I hg hm hv ?_ hn hdb)
 exact PyProof.Rows.callWith_type1 (thn (ha pos pins s σ H _ I h) fun us s1 ⟨vs,H1,I1,r1,q1⟩=>hc pins s1 σ H1 vs us Q I1 r1 q1) he hpl
end
end L2
namespace HT
open PySem PyProof.Rows
section
open PySem.SeqAt
open PySem.AutoSeq1 (wpAny_loadPart')
open PySem.MeetsSeq PySem.MeetsSeq2 PySem.MeetsSeq3
end
section
variable {prog:Program} {w:World} {A:Around} {E:Value->Shared->Prop} {s:Shared}
/-! ### t[a:b],not the whole -/
noncomputable def sIx (n d:Nat):Option Int->Nat
 | none=>d
 | some v=>if v<0 then (v+(n:Int)).toNat else min v.toNat n
theorem sIx_none (n d:Nat):sIx n d none=d:=rfl
theorem sIx_nat (n d k:Nat):sIx n d (some (k:Int))=min k n:=by
 show (if (k:Int)<0 then ((k:Int)+(n:Int)).toNat else min (k:Int).toNat n)=min k n
 rw[if_neg (by omega),Int.toNat_natCast]
end
end HT
namespace L2
open PySem PySem.Spec PyProof.Rows
/-! ### the parts of a slice -/
noncomputable abbrev TO:=St->Hp->(Option Int->Hp->Prop)->Prop
noncomputable def PO (X:Cx) (e:Option Expr) (t:TO):Prop :=
 ∀ (pins:List (Addr×Obj)) (s:Shared) (σ:St) (H:Hp) (Q:Option Int->Hp->Prop),Inv X pins σ H s->t σ H Q →
   wpAny (model X.prog X.w) X.A (evalPart e X.env) (fun u s'=>∃ o H',Inv X pins σ H' s'/\IsPart u o/\Q o H') X.xe s
noncomputable def tNoPart:TO:=fun _ H Q=>Q none H
noncomputable def tPart (t:TE):TO:=fun σ H Q=>t σ H fun x H1=>∃ i,x = .int i/\Q (some i) H1
theorem zq5 {ns:List Int}:∀ {us:List Value},Vals (ns.map V.int) us->IntsAre us ns:=by
 induction ns with
 | nil=>intro us r;rw[List.map_nil] at r;cases r;exact .nil
 | cons n ns ih =>
   intro us r
   rw[List.map_cons] at r
   cases r with
   | cons r1 r2 =>
     obtain ⟨t,e⟩:=r1
     subst e
     exact .cons n t (ih r2)
section
variable {X:Cx} {e:Expr} {te:TE} {lo hi:Option Expr} {tl th:TO} {pos p2:Pos}
theorem ze8:PO X none tNoPart:=by
 intro pins s σ H Q I h
 rw[evalPart_none]
 exact wpAny_pure ⟨none,H,I,.none,h⟩
theorem ze9 (h:PE X e te):PO X (some e) (tPart te):=by
 intro pins s σ H Q I hw
 rw[evalPart_some]
 refine thn (h pins s σ H _ I hw) fun u s1 ⟨x,H1,I1,r1,q1⟩=>?_
 obtain ⟨i,rfl,q⟩:=q1
 obtain ⟨t,rfl⟩:=r1
 exact⟨some i,H1,I1,.int i t,q⟩
noncomputable def SlR (X:Cx) (r:V->Option Int->Option Int->Hp->VK->Prop):Prop :=
 ∀ (pins:List (Addr×Obj)) (s:Shared) (σ:St) (H:Hp) (x:V) (v vl vu:Value) (lo hi:Option Int) (sl:Addr) (Q:VK),Inv X pins σ H s->RelV x v->s.heap.IsSliceOf sl vl vu .none->IsPart vl lo->IsPart vu hi->r x lo hi H Q →
   ∃ T id,typeLookup (.type T) "__getitem__" = pure (some (.builtin id))/\s.TypeIs v T/\wpAny (model X.prog X.w) X.A (getItem v (.ref sl)) (EP X pins σ Q) X.xe s
noncomputable def tSl (r:V->Option Int->Option Int->Hp->VK->Prop) (te:TE) (tl th:TO):TE:=fun σ H Q=>te σ H fun x H1=>tl σ H1 fun l H2=>th σ H2 fun u H3=>r x l u H3 Q
theorem zd7 {r:V->Option Int->Option Int->Hp->VK->Prop} (hr:SlR X r) (he:PE X e te) (hl:PO X lo tl) (hu:PO X hi th):PE X (.Subscript e (.Slice lo hi none p2) pos) (tSl r te tl th):=by
 intro pins s σ H Q I h
 refine Subscript_ (thn (he pins s σ H _ I h) fun v s1 ⟨x,H1,I1,r1,q1⟩=>?_)
 refine wpAny_Slice (thn (hl pins s1 σ H1 _ I1 q1) fun vl s2 ⟨l,H2,I2,pl,q2⟩=>thn (hu pins s2 σ H2 _ I2 q2) fun vu s3 ⟨u,H3,I3,pu,q3⟩=>?_)
 rw[evalPart_none]
 refine wpAny_pure ?_
 have I4:Inv X pins σ H3 { s3 with heap:=s3.heap.push { cls:=.type "slice",data:=.fields #[vl,vu,.none] } }:=I3.kept (t':=s3.toks) fun b ob q=>Heap.get?_push_of_some _ q
 obtain ⟨T,id,hT,ht,hg⟩:=hr pins { s3 with heap:=s3.heap.push { cls:=.type "slice",data:=.fields #[vl,vu,.none] } } σ H3 x v vl vu l u s3.heap.objs.size Q I4 r1 (Heap.IsSliceOf.new ..) pl pu q3
 show wpAny (model X.prog X.w) X.A (subscriptTail e (.Slice lo hi none p2) v (.ref s3.heap.objs.size)) (EP X pins σ Q) X.xe { s3 with heap:=s3.heap.push { cls:=.type "slice",data:=.fields #[vl,vu,.none] } }
 exact tail_any (ops:=[.ref s3.heap.objs.size,v]) ht hT hg (by with_unfolding_all rfl)
noncomputable def cutV (xs:List V) (lo hi:Option Int):List V:=(xs.drop (HT.sIx xs.length 0 lo)).take (HT.sIx xs.length xs.length hi-HT.sIx xs.length 0 lo)
theorem zy3 (xs:List V) (lo hi:Option Int):(cutV xs lo hi).length<=xs.length:=by
 unfold cutV
 rw[List.length_take,List.length_drop]
 omega
/-! ### t<u,t+u -/
end
end L2
namespace L2
open PySem PySem.Spec PyProof.Rows
/-! ### places -/
noncomputable def ixN (n:Nat) (i:Int):Option Nat:=if 0<=i then (if i<n then some i.toNat else none) else if -(n:Int)<=i then some (i+n).toNat else none
noncomputable def atI {α:Type} (xs:List α) (i:Int):Option α:=(ixN xs.length i).bind fun j=>xs[j]?
theorem zI3 {n:Nat} {i:Int} {j:Nat} (h:ixN n i=some j):seqIndex? i n=some j/\j<n/\-(n:Int)<=i/\i<n:=by
 unfold ixN at h
 by_cases h0:0<=i
 . rw[if_pos h0] at h
   by_cases h1:i<n
   . rw[if_pos h1] at h
     have e:i.toNat=j:=Option.some.inj h
     exact⟨by rw[seqIndex_of h0 h1,e],by omega,by omega,h1⟩
   . rw[if_neg h1] at h;cases h
 . rw[if_neg h0] at h
   by_cases h1:-(n:Int)<=i
   . rw[if_pos h1] at h
     have e:(i+n).toNat=j:=Option.some.inj h
     exact⟨by rw[seqIndex_neg (by omega) h1,e],by omega,h1,by omega⟩
   . rw[if_neg h1] at h;cases h
theorem zE3 {α:Type} {xs:List α} {i:Int} {v:α} (h:atI xs i=some v):∃ j,seqIndex? i xs.length=some j/\xs[j]?=some v/\j<xs.length/\-(xs.length:Int)<=i/\i<xs.length:=by
 unfold atI at h
 cases e:ixN xs.length i with
 | none=>rw[e] at h;cases h
 | some j =>
   rw[e] at h
   obtain ⟨h1,h2,h3,h4⟩:=zI3 e
   exact⟨j,h1,h,h2,h3,h4⟩
theorem zo0 {α:Type} {xs:List α} {j:Nat} {v:α} (h:xs[j]?=some v):atI xs (j:Int)=some v:=by
 have hj:j<xs.length:=(List.getElem?_eq_some_iff.mp h).1
 have e:ixN xs.length (j:Int)=some j:=by
   unfold ixN
   rw[if_pos (by omega),if_pos (by omega)];simp
 unfold atI;rw[e];exact h
/-! ### what may be subscripted -/
noncomputable def PlainIx (b:Expr):Prop:=∀ o i,subscripted b false o i=operate [o,i] (getItem o i)
noncomputable def IxR (X:Cx) (r:R2):Prop :=
 ∀ (value slice:Expr) (pins:List (Addr×Obj)) (s:Shared) (σ:St) (H:Hp) (x y:V) (v u:Value) (Q:VK),Inv X pins σ H s->RelV x v->RelV y u->r x y H Q →
   subscripted slice false v u=operate [v,u] (getItem v u)->wpAny (model X.prog X.w) X.A (subscriptTail value slice v u) (EP X pins σ Q) X.xe s
noncomputable def MtR (X:Cx) (id:String) (r:V->List V->Hp->VK->Prop):Prop :=
 ∀ (pins:List (Addr×Obj)) (s:Shared) (σ:St) (H:Hp) (x:V) (xs:List V) (v:Value) (us:List Value) (Q:VK),Inv X pins σ H s->RelV x v->Vals xs us->r x xs H Q →
   wpAny (model X.prog X.w) X.A (call (.builtin id) (v::us)) (EP X pins σ Q) X.xe s
section
variable {X:Cx} {a b:Expr} {ta tb:TE} {pos:Pos}
theorem IxR.or {r r':R2} (h:IxR X r) (h':IxR X r'):IxR X (fun x y H Q=>r x y H Q\/r' x y H Q):=by
 intro value slice pins s σ H x y v u Q I rx ry q hs
 rcases q with q | q
 . exact h value slice pins s σ H x y v u Q I rx ry q hs
 . exact h' value slice pins s σ H x y v u Q I rx ry q hs
theorem zc2 {r:R2} (hr:IxR X r) (ha:PE X a ta) (hb:PE X b tb) (hs:PlainIx b):PE X (.Subscript a b pos) (tOp r ta tb):=by
 intro pins s σ H Q I h
 exact Subscript_ (binT ha hb I h fun v u s2 x y H2 I2 rx ry q=>hr a b pins s2 σ H2 x y v u Q I2 rx ry q (hs _ _))
noncomputable def rIxL (K:PySem.W.Frag):R2:=fun x y H Q=>∃ p xs i v,x = .ref p/\y = .int i/\SqL K H p xs/\atI xs i=some v/\Q v H
noncomputable def rIxT (K:PySem.W.Frag):R2:=fun x y H Q=>∃ p xs i v,x = .ref p/\y = .int i/\SqT K H p xs/\atI xs i=some v/\Q v H
noncomputable def rIxS:R2:=fun x y H Q=>∃ z i c,x = .str z/\y = .int i/\z.length<=sizeLine/\atI z.cps.toList i=some c/\Q (.str ⟨#[c]⟩) H
theorem zb7:IxR X (rIxL X.K):=by
 intro value slice pins s σ H x y v u Q I rx ry h hs
 obtain ⟨p,xs,i,z,rfl,rfl,hq,he,q⟩:=h
 cases rx
 obtain ⟨t,rfl⟩:=ry
 obtain ⟨its,r,pl,hz⟩:=I.list hq
 obtain ⟨j,h1,h2,h3,h4,h5⟩:=zE3 he
 obtain ⟨w,ew,rw'⟩:=r.get h2
 have hl:=r.length
 have hn:=zx4
 have fin:EP X pins σ Q w s:=⟨z,H,I,rw',q⟩
 by_cases h0:0<=i
 . have hj:i.toNat=j:=by
     rw[seqIndex_of h0 h5] at h1
     exact Option.some.inj h1
   exact item_listR pl.isList h0 (by omega) (by rw[hj];simpa using ew) fin hs
 . have hj:(i+(its.toArray.size:Int)).toNat=j:=by
     rw[seqIndex_neg (by omega) h4] at h1
     rw[List.size_toArray,<-hl]
     exact Option.some.inj h1
   exact subscriptTail_builtinR (x:=w) pl.isList.typeIs slot_list_getitem.lookup
     (wpAny_getItem_list_neg (Q:=fun r s'=>r=w/\EP X pins σ Q r s') pl.isList (by omega) (by rw[List.size_toArray]<;>omega) (by omega) (by rw[hj];simpa using ew) ⟨rfl,fin⟩) hs
theorem zK5:IxR X (rIxT X.K):=by
 intro value slice pins s σ H x y v u Q I rx ry h hs
 obtain ⟨p,xs,i,z,rfl,rfl,hq,he,q⟩:=h
 cases rx
 obtain ⟨t,rfl⟩:=ry
 obtain ⟨its,r,pl,hz⟩:=I.tuple hq
 obtain ⟨j,h1,h2,h3,h4,h5⟩:=zE3 he
 obtain ⟨w,ew,rw'⟩:=r.get h2
 have hl:=r.length
 have hn:=zx4
 have fin:EP X pins σ Q w s:=⟨z,H,I,rw',q⟩
 exact subscriptTail_builtinR (x:=w) pl.typeIs slot_tuple_getitem.lookup
   (getItem_tuple (j:=j) (Q:=fun r s'=>r=w/\EP X pins σ Q r s') pl (by omega) (by omega) (by rw[List.size_toArray,<-hl];exact h1) (by simpa using ew) ⟨rfl,fin⟩) hs
theorem zE4:IxR X rIxS:=by
 intro value slice pins s σ H x y v u Q I rx ry h hs
 obtain ⟨z,i,c,rfl,rfl,hz,he,q⟩:=h
 obtain ⟨t,rfl⟩:=rx
 obtain ⟨t',rfl⟩:=ry
 obtain ⟨j,h1,h2,h3,h4,h5⟩:=zE3 he
 have hl:z.cps.toList.length=z.length:=by simp[Str.length]
 rw[hl] at h1 h4 h5
 have hn:=zx4
 exact tail_any (typeIs_str s z t) slot_str_getitem.lookup (getItem_str (c:=c) (by
   have e1:decide (i < -(2 ^ 63:Int))=false:=decide_eq_false (by omega)
   have e2:decide (i≥2 ^ 63)=false:=decide_eq_false (by omega)
   rw[e1,e2,Bool.or_false]) (by rw[h1];simpa using h2) ⟨.str ⟨#[c]⟩,H,I.tok _,⟨_,rfl⟩,q⟩) hs
noncomputable def rIx (K:PySem.W.Frag):R2:=fun x y H Q=>rIxL K x y H Q\/rIxT K x y H Q\/rIxS x y H Q
theorem zn2:IxR X (rIx X.K):=zb7.or (zK5.or zE4)
/-! ### xs[i]=v,any sign -/
theorem mapSeq_set (its:List Value) (n j:Nat) (u:Value):Obj.mapSeq (·.setIfInBounds j u) { cls:=.type "list",data:=.seq its.toArray n } = { cls:=.type "list",data:=.seq (its.set j u).toArray n }:=by
 simp[Obj.mapSeq]
theorem Inv.lst {pins:List (Addr×Obj)} {σ:St} {H:Hp} {s:Shared} {p:Addr} {xs:List V} (I:Inv X pins σ H s) (h:H p=some (.lst xs)) :
   ∃ (its:List Value) (n:Nat),Vals xs its/\s.heap.get? p=some { cls:=.type "list",data:=.seq its.toArray n }/\xs.length<=sizeLine:=by
 obtain ⟨z,its,n,r,e⟩:=I.hok p _ h
 exact⟨its,n,r,e,z⟩
theorem Inv.lstUpd {pins:List (Addr×Obj)} {σ:St} {H:Hp} {s:Shared} {p:Addr} {xs ys:List V} {its its':List Value} {n n':Nat} {f:Obj->Obj} (I:Inv X pins σ H s) (h:H p=some (.lst xs))
   (ho:s.heap.get? p=some { cls:=.type "list",data:=.seq its.toArray n }) (hf:f { cls:=.type "list",data:=.seq its.toArray n } = { cls:=.type "list",data:=.seq its'.toArray n' }) (r:Vals ys its') (hz:ys.length<=sizeLine) (t:Nat) :
   Inv X pins σ (upd H p (.lst ys)) { s with heap:=s.heap.update p f,toks:=t }:=by
 have e:(s.heap.update p f).get? p=some { cls:=.type "list",data:=.seq its'.toArray n' }:=by
   rw[Heap.get?_update_self f ho (by rw[hf]<;>rfl),hf]
 refine I.write (x:=p) (e:=p) (by rw[h];trivial) (.inl rfl) (fun b u hb q=>(Heap.get?_update_other _ _ (Ne.symm hb)).trans q) ⟨_,e⟩ ?_
 exact⟨hz,its',n',r,e⟩
noncomputable def rSetL:V->V->V->Hp->(Hp->Prop)->Prop:=fun o i v H Q=>∃ p xs k j,o = .ref p/\i = .int k/\H p=some (.lst xs)/\ixN xs.length k=some j/\Q (upd H p (.lst (xs.set j v)))
theorem zr6:PSet X rSetL:=by
 intro pins s σ H o i v ov iv u Q I ro ri rv h
 obtain ⟨p,xs,k,j,rfl,rfl,hp,hj,q⟩:=h
 cases ro
 obtain ⟨t,rfl⟩:=ri
 obtain ⟨its,n,r,ho,hz⟩:=I.lst hp
 obtain ⟨h1,h2,h3,h4⟩:=zI3 hj
 have hl:=r.length
 have hn:=zx4
 have I':Inv X pins σ (upd H p (.lst (xs.set j v))) { s with heap:=s.heap.update p (Obj.mapSeq (·.setIfInBounds j u)) } :=
   I.lstUpd hp ho (mapSeq_set its n j u) (r.set rv j) (by rw[List.length_set];exact hz) s.toks
 by_cases h0:0<=k
 . have hk:k.toNat=j:=by
     rw[seqIndex_of h0 h4] at h1
     exact Option.some.inj h1
   exact PySem.W.ki_setAt ho h0 (by omega) (by rw[List.size_toArray,<-hl];exact h4) (by rw[hk];exact⟨_,I',q⟩)
 . have hk:(k+(its.toArray.size:Int)).toNat=j:=by
     rw[seqIndex_neg (by omega) h3] at h1
     rw[List.size_toArray,<-hl]
     exact Option.some.inj h1
   exact PySem.W.ki_setBack ho (by omega) (by rw[List.size_toArray,<-hl];exact h3) (by omega) (by rw[hk];exact⟨_,I',q⟩)
/-! ### slices -/
theorem slice_bounds (lo hi:Option Int) (n:Nat):(sliceBounds lo hi none n).1=((HT.sIx n 0 lo:Nat):Int)/\(sliceBounds lo hi none n).2.1=((HT.sIx n n hi:Nat):Int)/\(sliceBounds lo hi none n).2.2=1:=by
 refine⟨?_,?_,rfl⟩
 . cases lo with
   | none=>simp[sliceBounds,HT.sIx]
   | some i =>
     simp only[sliceBounds,HT.sIx,Option.getD_none,show (1:Int)>0 by decide,if_true]
     by_cases h:i<0
     . simp only[h,if_true]<;>omega
     . simp only[h,if_false]<;>omega
 . cases hi with
   | none=>simp[sliceBounds,HT.sIx]
   | some i =>
     simp only[sliceBounds,HT.sIx,Option.getD_none,show (1:Int)>0 by decide,if_true]
     by_cases h:i<0
     . simp only[h,if_true]<;>omega
     . simp only[h,if_false]<;>omega
theorem slicePick_cut (its:List Value) (lo hi:Option Int):slicePick its.toArray lo hi none=((its.drop (HT.sIx its.length 0 lo)).take (HT.sIx its.length its.length hi-HT.sIx its.length 0 lo)).toArray:=by
 obtain ⟨h1,h2,h3⟩:=slice_bounds lo hi its.toArray.size
 unfold slicePick
 rw[h1,h2,h3]
 simp only[sliceRange_one,pick_run,List.size_toArray]<;>rfl
noncomputable def rSlL (K:PySem.W.Frag):V->Option Int->Option Int->Hp->VK->Prop:=fun x lo hi H Q=>∃ a xs,x = .ref a/\SqL K H a xs/\∀ p,H p=none->Q (.ref p) (upd H p (.lst (cutV xs lo hi)))
theorem zI4:SlR X (rSlL X.K):=by
 intro pins s σ H x v vl vu lo hi sl Q I rx hs pl pu h
 obtain ⟨a,xs,rfl,hx,q⟩:=h
 cases rx
 obtain ⟨its,r,ht,hz⟩:=I.list hx
 have hlen:=r.length
 refine⟨"list",_,slot_list_getitem.lookup,ht.isList.typeIs,?_⟩
 refine wpAny_getItem_list_slice ht.isList hs pl pu .none (by simp) ?_ (by rw[List.size_toArray]<;>omega)
 rw[slicePick_cut,<-hlen]
 refine⟨.ref s.heap.objs.size,_,I.laid (t':=s.toks) (o:=.lst (cutV xs lo hi)) (fun b ob q=>Heap.get?_push_of_some _ q) (Nat.le_refl _) ?_,rfl,q _ (I.hok.fresh (Nat.le_refl _))⟩
 exact⟨Nat.le_trans (zy3 xs lo hi) hz,_,0,(r.drop (HT.sIx xs.length 0 lo)).take (HT.sIx xs.length xs.length hi-HT.sIx xs.length 0 lo),Heap.get?_push_size _ rfl⟩
/-! ### in,not in: flat items -/
noncomputable def zv8:V->Bool
 | .non=>true
 | .bl _=>true
 | .int _=>true
 | .str _=>true
 | _=>false
noncomputable def eqV:V->V->Bool
 | .non,.non=>true
 | .bl a,.bl b=>a == b
 | .bl a,.int b=>(if a then 1 else 0) == b
 | .int a,.bl b=>a == (if b then 1 else 0)
 | .int a,.int b=>a == b
 | .str a,.str b=>a == b
 | _,_=>false
theorem eqAt_V {A:Around} {s:Shared} {y x:V} {u v:Value} (ry:RelV y u) (rx:RelV x v) (fy:zv8 y=true) (fx:zv8 x=true):SeqAt.EqAt A s u v (eqV y x):=by
 cases y with
 | non =>
   cases ry
   cases x with
   | non=>cases rx;exact SeqAt.EqAt.same _
   | bl b=>cases rx;exact SeqAt.EqAt.none_bool b
   | int b=>obtain ⟨t,rfl⟩:=rx;exact SeqAt.EqAt.none_int b t
   | str b=>obtain ⟨t,rfl⟩:=rx;exact SeqAt.EqAt.none_str b t
   | _=>exact absurd (show false=true from fx) Bool.false_ne_true
 | bl a =>
   cases ry
   cases x with
   | non=>cases rx;exact SeqAt.EqAt.bool_none a
   | bl b=>cases rx;exact SeqAt.EqAt.bool_bool a b
   | int b=>obtain ⟨t,rfl⟩:=rx;exact SeqAt.EqAt.bool_int a b t
   | str b=>obtain ⟨t,rfl⟩:=rx;exact SeqAt.EqAt.bool_str a b t
   | _=>exact absurd (show false=true from fx) Bool.false_ne_true
 | int a =>
   obtain ⟨t',rfl⟩:=ry
   cases x with
   | non=>cases rx;exact SeqAt.EqAt.int_none a t'
   | bl b=>cases rx;exact SeqAt.EqAt.int_bool a t' b
   | int b=>obtain ⟨t,rfl⟩:=rx;exact SeqAt.EqAt.int_int a t' b t
   | str b=>obtain ⟨t,rfl⟩:=rx;exact SeqAt.EqAt.int_str a t' b t
   | _=>exact absurd (show false=true from fx) Bool.false_ne_true
 | str a =>
   obtain ⟨t',rfl⟩:=ry
   cases x with
   | non=>cases rx;exact SeqAt.EqAt.str_none a t'
   | bl b=>cases rx;exact SeqAt.EqAt.str_bool a t' b
   | int b=>obtain ⟨t,rfl⟩:=rx;exact SeqAt.EqAt.str_int a t' b t
   | str b=>obtain ⟨t,rfl⟩:=rx;exact SeqAt.EqAt.str_str a t' b t
   | _=>exact absurd (show false=true from fx) Bool.false_ne_true
 | _=>exact absurd (show false=true from fy) Bool.false_ne_true
noncomputable def eqU (x:V) (u:Value):Bool:=match u with
 | .none=>eqV .non x
 | .bool b=>eqV (.bl b) x
 | .int i _=>eqV (.int i) x
 | .str z _=>eqV (.str z) x
 | _=>false
theorem zK6 {x y:V} {u:Value} (r:RelV y u) (f:zv8 y=true):eqU x u=eqV y x:=by
 cases y with
 | non=>cases r;rfl
 | bl b=>cases r;rfl
 | int i=>obtain ⟨t,rfl⟩:=r;rfl
 | str z=>obtain ⟨t,rfl⟩:=r;rfl
 | _=>exact absurd (show false=true from f) Bool.false_ne_true
theorem zE5 {x:V}:∀ {xs:List V} {us:List Value},Vals xs us->xs.all zv8=true->us.any (eqU x)=xs.any fun y=>eqV y x
 | _,_,.nil,_=>rfl
 | y::xs,u::us,.cons r t,f=>by
   rw[List.all_cons,Bool.and_eq_true] at f
   rw[List.any_cons,List.any_cons,zK6 r f.1,zE5 t f.2]
theorem zz7 {A:Around} {s:Shared} {x:V} {v:Value} (rx:RelV x v) (fx:zv8 x=true):∀ {xs:List V} {us:List Value},Vals xs us->xs.all zv8=true->∀ u∈us,SeqAt.EqAt A s u v (eqU x u)
 | _,_,.nil,_=>fun u hu=>by cases hu
 | y::xs,u::us,.cons r t,f=>fun u' hu=>by
   rw[List.all_cons,Bool.and_eq_true] at f
   rcases List.mem_cons.mp hu with rfl | hu
   . rw[zK6 r f.1];exact eqAt_V r rx f.1 fx
   . exact zz7 rx fx t f.2 u' hu
noncomputable def inV (x:V) (xs:List V):Bool:=xs.any fun y=>eqV y x
noncomputable def rIn (K:PySem.W.Frag) (neg:Bool):R2:=fun x y H Q=>∃ p xs,y = .ref p/\(SqL K H p xs\/SqT K H p xs)/\zv8 x=true/\xs.all zv8=true/\Q (.bl (if neg then !inV x xs else inV x xs)) H
theorem op_in_seq:OpR X (compareOp .In) (rIn X.K false):=by
 intro pins s σ H x y v u Q I rx ry h
 obtain ⟨p,xs,rfl,hq,fx,fs,q⟩:=h
 cases ry
 rcases hq with hq | hq
 . obtain ⟨its,r,pl,hz⟩:=I.list hq
   refine SeqAt.in_listAt (eqU x) pl.isList (fun w hw=>zz7 rx fx r fs w (by simpa using hw)) ⟨.bl _,H,I,rfl,?_⟩
   rw[show its.toArray.any (eqU x)=its.any (eqU x) by simp,zE5 r fs]
   exact q
 . obtain ⟨its,r,pl,hz⟩:=I.tuple hq
   refine SeqAt.in_tupleAt (eqU x) pl (fun w hw=>zz7 rx fx r fs w (by simpa using hw)) ⟨.bl _,H,I,rfl,?_⟩
   rw[show its.toArray.any (eqU x)=its.any (eqU x) by simp,zE5 r fs]
   exact q
/-! ### len,list(x),tuple(x) of any list or tuple that is read -/
theorem zb9:zn7 X (.builtin "len") (fun xs H Q=>∃ p ys,xs=[.ref p]/\(SqL X.K H p ys\/SqT X.K H p ys)/\Q (.int ys.length) H):=by
 intro pins s σ H xs us Q I r h
 obtain ⟨p,ys,rfl,hq,q⟩:=h
 obtain ⟨u,rfl,rx⟩:=zu2 r
 cases rx
 have hn:=zx4
 rcases hq with hq | hq
 . obtain ⟨its,r',pl,hz⟩:=I.list hq
   have hlen:=r'.length
   exact Calls.call_len_list pl.isList (by simp only[List.size_toArray]<;>omega) ⟨.int ys.length,H,I.tok _,⟨s.toks+1,by rw[List.size_toArray,hlen]⟩,q⟩
 . obtain ⟨its,r',pl,hz⟩:=I.tuple hq
   have hlen:=r'.length
   exact len_tuple pl (by simp only[List.size_toArray]<;>omega) ⟨.int ys.length,H,I.tok _,⟨s.toks+1,by rw[List.size_toArray,hlen]⟩,q⟩
theorem ze4:zn7 X (.builtin "len") (fun xs H Q=>∃ z,xs=[.str z]/\z.length<=sizeLine/\Q (.int z.length) H):=by
 intro pins s σ H xs us Q I r h
 obtain ⟨z,rfl,hz,q⟩:=h
 obtain ⟨u,rfl,t,rfl⟩:=zu2 r
 have hn:=zx4
 exact len_str (by omega) ⟨.int z.length,H,I.tok _,⟨_,rfl⟩,q⟩
theorem zu3:zn7 X (.type "tuple") (fun xs H Q=>∃ p ys,xs=[.ref p]/\((SqL X.K H p ys/\∀ l,H l=none->Q (.ref l) (upd H l (.tup ys)))\/(SqT X.K H p ys/\Q (.ref p) H))):=by
 intro pins s σ H xs us Q I r h
 obtain ⟨p,ys,rfl,h⟩:=h
 obtain ⟨u,rfl,rx⟩:=zu2 r
 cases rx
 rcases h with ⟨hq,q⟩ | ⟨hq,q⟩
 . obtain ⟨its,r',pl,hz⟩:=I.list hq
   have hlen:=r'.length
   refine call_tuple_list pl.isList (fun h' kp=>?_) (by simp only[List.size_toArray]<;>omega)
   have I1:Inv X pins σ H { s with heap:=h' }:=I.kept (t':=s.toks) kp
   have I2:Inv X pins σ (upd H h'.objs.size (.tup ys)) { s with heap:=h'.push { cls:=.type "tuple",data:=.seq its.toArray } } :=
     I1.laid (t':=s.toks) (fun b o e=>Heap.get?_push_of_some _ e) (Nat.le_refl _) (show zh6 X.prog X.w _ _ _ (.tup ys) from ⟨hz,its,r',TupD.new _ _⟩)
   exact⟨.ref h'.objs.size,_,I2,rfl,q _ (I1.hok.fresh (Nat.le_refl _))⟩
 . obtain ⟨its,r',pl,hz⟩:=I.tuple hq
   exact call_tuple_same pl ⟨.ref p,H,I,rfl,q⟩
/-! ### the call of a builtin's method: o.m(..) -/
noncomputable def tyV (K:PySem.W.Frag) (T:String) (x:V) (H:Hp):Prop:=match x with
 | .str _=>T = "str"
 | .int _=>T = "int"
 | .ref p=>(T = "list"/\∃ xs,SqL K H p xs)\/(T = "tuple"/\∃ o,K.lookup p=some o/\o.cls = .type "tuple"/\o.dict=none) ∨
     (T = "dict"/\((∃ kvs,H p=some (.dK kvs))\/∃ kvs,H p=some (.dT kvs)))\/(T = "set"/\∃ S n,H p=some (.set S n))
 | _=>False
theorem zK7 {pins:List (Addr×Obj)} {σ:St} {H:Hp} {s:Shared} {T:String} {x:V} {v:Value} (I:Inv X pins σ H s) (r:RelV x v) (ty:tyV X.K T x H) :
   s.TypeIs v T/\∀ a,v = .ref a->∃ ob,s.heap.get? a=some ob/\ob.dict=none:=by
 cases x with
 | str z =>
   obtain ⟨t,rfl⟩:=r
   cases (show T = "str" from ty)
   exact⟨typeIs_str s z t,fun _ e=>nomatch e⟩
 | int i =>
   obtain ⟨t,rfl⟩:=r
   cases (show T = "int" from ty)
   exact⟨typeIs_int s i t,fun _ e=>nomatch e⟩
 | ref p =>
   cases r
   rcases ty with ⟨rfl,xs,hq⟩ | ⟨rfl,o,hk,hc,hd⟩ | ⟨rfl,hk⟩ | ⟨rfl,S,n,hk⟩
   . obtain ⟨its,_,pl,_⟩:=I.list hq
     refine⟨pl.isList.typeIs,fun a e=>?_⟩
     cases e
     obtain ⟨o,n,e,c,hd,_⟩:=pl
     exact⟨o,e,hd⟩
   . refine⟨⟨o,I.kIn p o hk,hc⟩,fun a e=>?_⟩
     cases e
     exact⟨o,I.kIn _ o hk,hd⟩
   . have z:∃ o,s.heap.get? p=some o/\o.ExactDict:=by
       rcases hk with ⟨kvs,hk⟩ | ⟨kvs,hk⟩
       . obtain ⟨_,_,_,_,o,_,_,e,ex,_⟩:=I.hok p _ hk
         exact⟨o,e,ex⟩
       . obtain ⟨_,_,_,_,o,_,_,e,ex,_⟩:=I.hok p _ hk
         exact⟨o,e,ex⟩
     obtain ⟨o,e,ex⟩:=z
     refine⟨⟨o,e,ex.1⟩,fun a e2=>?_⟩
     cases e2
     exact⟨o,e,ex.2.1⟩
   . obtain ⟨o,_,_,_,e,ex,_⟩:=I.hok p _ hk
     refine⟨⟨o,e,ex.1⟩,fun a e2=>?_⟩
     cases e2
     exact⟨o,e,ex.2.1⟩
 | _=>exact False.elim ty
noncomputable def tBM0 (K:PySem.W.Frag) (T:String) (r:V->List V->Hp->VK->Prop) (to:TE):TE:=fun σ H Q=>to σ H fun x H1=>tyV K T x H1/\r x [] H1 Q
noncomputable def tBM (K:PySem.W.Frag) (T:String) (r:V->List V->Hp->VK->Prop) (to:TE) (t:TA):TE:=fun σ H Q=>to σ H fun x H1=>tyV K T x H1/\t σ H1 fun xs H2=>r x xs H2 Q
variable {o e:Expr} {es:List Expr} {to:TE} {t:TA} {name:Str} {apos cpos:Pos} {T id:String} {r:V->List V->Hp->VK->Prop}
theorem pe_bm0 (pa:PlainAttrs T) (slot:Slot T name id) (hty:typeOf (.builtin id)=pure (.type "method_descriptor")) (hm:MtR X id r) (ho:PE X o to)
   (hbase:attributeBase o name X.env (eval o X.env)=eval o X.env:=by rfl) (hline:(apos.endLine == cpos.line)=true:=by rfl):PE X (.Call (.Attribute o name apos) [] [] cpos) (tBM0 X.K T r to):=by
 intro pins s σ H Q I h
 refine wpAny_Call_method0_late hbase hline (thn (ho pins s σ H _ I h) fun v s1 ⟨x,H1,I1,r1,ty,q1⟩=>?_)
 obtain ⟨h1,h2⟩:=zK7 I1 r1 ty
 exact⟨T,id,pa,slot,hty,h1,h2,Calls.callWith_builtin rfl (PySem.evalArgs_none (hm pins s1 σ H1 x [] v [] Q I1 r1 .nil q1))⟩
theorem zj1 (pa:PlainAttrs T) (slot:Slot T name id) (hty:typeOf (.builtin id)=pure (.type "method_descriptor")) (hm:MtR X id r) (ho:PE X o to) (ha:PA X (e::es) t)
   (hbase:attributeBase o name X.env (eval o X.env)=eval o X.env:=by rfl)
   (hfew:((backTo cpos (starEach (e::es) X.env)).all (fun x=>!x.1) && (backToKw cpos (keywordEach [] X.env)).all (fun x=>x.1.isSome)
     && decide ((e::es).length+([]:List Keyword).length+(if ([]:List Keyword).isEmpty then 0 else 1)<30))=true:=by rfl)
   (hline:(apos.endLine == cpos.line)=true:=by rfl) (hs:starEach (e::es) X.env=(false,eval e X.env)::starEach es X.env:=by rfl) (hplain:(backTo cpos (starEach es X.env)).any (·.1)=false:=by rfl) :
   PE X (.Call (.Attribute o name apos) (e::es) [] cpos) (tBM X.K T r to t):=by
 intro pins s σ H Q I h
 refine wpAny_Call_method_late hbase hfew hline rfl (thn (ho pins s σ H _ I h) fun v s1 ⟨x,H1,I1,r1,ty,q1⟩=>?_)
 obtain ⟨h1,h2⟩:=zK7 I1 r1 ty
 refine⟨T,id,pa,slot,hty,h1,h2,?_⟩
 have hA:=ha cpos pins s1 σ H1 _ I1 q1
 rw[hs] at hA ⊢
 refine Calls.callWith_builtin (by show (false || (backTo cpos (starEach es X.env)).any (·.1))=false;rw[hplain]<;>rfl) (Calls.evalArgs_plain ?_)
 exact thn hA fun us s2 ⟨vs,H2,I2,r2,q2⟩=>hm pins s2 σ H2 x vs v us Q I2 r1 r2 q2
/- xs.append(e),list.index on a module's tuple .. are MtR facts of 06m -/
end
end L2
namespace L2
open PySem PySem.Spec PyProof.Rows
noncomputable def MtM (X:Cx) (id:String) (r:V->List V->Hp->VK->Prop):Prop :=
 ∀ (pins:List (Addr×Obj)) (s:Shared) (σ:St) (H:Hp) (x:V) (xs:List V) (v:Value) (us:List Value) (Q:VK),Inv X pins σ H s->RelV x v->Vals xs us->r x xs H Q →
   wpAny (model X.prog X.w) X.A (call (.builtin id) (v::us)) (EP X pins σ Q) X.xe s
/-! ### lists of values -/
theorem Vals.one:∀ {x:V} {us:List Value},Vals [x] us->∃ u,us=[u]/\RelV x u
 | _,_,.cons r .nil=>⟨_,rfl,r⟩
theorem Vals.zero:∀ {us:List Value},Vals [] us->us=[]
 | _,.nil=>rfl
theorem Vals.rep {xs:List V} {us:List Value} (h:Vals xs us):∀ k:Nat,Vals (List.replicate k xs).flatten (List.replicate k us).flatten
 | 0=>.nil
 | k+1=>by
   rw[List.replicate_succ,List.replicate_succ,List.flatten_cons,List.flatten_cons]
   exact Vals.append h (Vals.rep h k)
theorem zB5 (its:List Value):∀ (k:Nat) (acc:List Value),
   List.foldl (fun x1 x2=>x1++x2) acc.toArray (List.replicate k its.toArray)=(acc++(List.replicate k its).flatten).toArray
 | 0,acc=>by simp
 | k+1,acc=>by
   have e:acc.toArray++its.toArray=(acc++its).toArray:=by simp
   have e2:(acc++its)++(List.replicate k its).flatten=acc++(List.replicate (k+1) its).flatten:=by
     rw[List.replicate_succ,List.flatten_cons,List.append_assoc]
   rw[<-e2,<-zB5 its k (acc++its),<-e,List.replicate_succ,List.foldl_cons]
section
variable {X:Cx} {pins:List (Addr×Obj)} {σ:St} {H:Hp} {s:Shared} {l b:Addr} {xs ys zs:List V}
/-! ### the two steps: a tracked list is rewritten,a new list is laid -/
theorem Inv.lset {its its':List Value} {n:Nat} {f:Array Value->Array Value} {t':Nat} (I:Inv X pins σ H s) (hH:H l=some (.lst xs))
   (e:s.heap.get? l=some { cls:=.type "list",data:=.seq its.toArray n }) (hf:f its.toArray=its'.toArray) (hv:Vals ys its') (hz:ys.length<=sizeLine) :
   Inv X pins σ (upd H l (.lst ys)) { s with heap:=s.heap.update l (Obj.mapSeq f),toks:=t' }:=by
 have q:=PySem.IsL.update e f
 rw[hf] at q
 refine I.write (x:=l) (e:=l) (by rw[hH];exact trivial) (.inl rfl) (fun b' u hb hu=>(Heap.get?_update_other s.heap (Obj.mapSeq f) (Ne.symm hb)).trans hu) ⟨_,q⟩ ?_
 exact⟨hz,its',_,hv,q⟩
theorem Inv.lnew {its:List Value} {t':Nat} (I:Inv X pins σ H s) (hv:Vals ys its) (hz:ys.length<=sizeLine) :
   Inv X pins σ (upd H s.heap.objs.size (.lst ys)) { s with heap:=s.heap.push { cls:=.type "list",data:=.seq its.toArray },toks:=t' } :=
 I.laid (fun _ _ q=>Heap.get?_push_of_some _ q) (Nat.le_refl _) ⟨hz,its,0,hv,Heap.get?_push_size _ rfl⟩
theorem Inv.fresh (I:Inv X pins σ H s):H s.heap.objs.size=none:=I.hok.fresh (Nat.le_refl _)
theorem Inv.lstM (I:Inv X pins σ H s) (hH:H l=some (.lst xs)):xs.length<=sizeLine/\∃ (its:List Value) (n:Nat),Vals xs its/\xs.length=its.length/\s.heap.get? l=some { cls:=.type "list",data:=.seq its.toArray n }:=by
 obtain ⟨z,its,n,r,e⟩:=I.hok l _ hH
 exact⟨z,its,n,r,r.length,e⟩
theorem notLongL {n:Nat} (h:n<=sizeLine):Builtin.List.listTooLong n=false:=by
 unfold Builtin.List.listTooLong
 exact decide_eq_false (by omega)
end
section
variable {X:Cx}
/-! ### methods -/
noncomputable def rAppend:V->List V->Hp->VK->Prop:=fun x vs H Q=>∃ l xs y,x = .ref l/\vs=[y]/\H l=some (.lst xs)/\xs.length<sizeLine/\Q .non (upd H l (.lst (xs++[y])))
theorem zj2:MtM X "list.append" rAppend:=by
 intro pins s σ H x vs v us Q I rx rv h
 obtain ⟨l,xs,y,rfl,rfl,hH,hz,q⟩:=h
 cases rx
 obtain ⟨u,rfl,ru⟩:=rv.one
 obtain ⟨z,its,n,r,hl,e⟩:=I.lstM hH
 refine call_meets F.slot_list_append ⟨_,e,rfl⟩ F.entry_list_append (F.args_list_append_2 _ _) (PySem.list_append l its.toArray n u (by rw[List.size_toArray];omega)) ⟨e,?_⟩
 refine⟨.non,_,I.lset (its':=its++[u]) hH e (by simp) (r.append (.cons ru .nil)) ?_,rfl,q⟩
 rw[List.length_append,List.length_singleton]
 omega
/-! ### list+list,list += list,list*int -/
noncomputable def rCat:R2:=fun x y H Q=>∃ l b xs zs,x = .ref l/\y = .ref b/\H l=some (.lst xs)/\H b=some (.lst zs)/\xs.length+zs.length<=sizeLine/\∀ p,H p=none->Q (.ref p) (upd H p (.lst (xs++zs)))
theorem zK8:OpR X (binaryOp .Add) rCat:=by
 intro pins s σ H x y v u Q I rx ry h
 obtain ⟨l,b,xs,zs,rfl,rfl,hH,hB,hz,q⟩:=h
 cases rx
 cases ry
 obtain ⟨z,its,n,r,hl,e⟩:=I.lstM hH
 obtain ⟨z2,its2,n2,r2,hl2,e2⟩:=I.lstM hB
 refine PySem.P.add_list e e2 ?_ (by rw[List.size_toArray,List.size_toArray];omega)
 have ea:its.toArray++its2.toArray=(its++its2).toArray:=by simp
 rw[ea]
 exact⟨.ref _,_,I.lnew (t':=s.toks) (r.append r2) (by rw[List.length_append];omega),rfl,q _ I.fresh⟩
noncomputable def rRep:R2:=fun x y H Q=>∃ l k xs,x = .ref l/\y = .int k/\H l=some (.lst xs)/\-(2 ^ 63)<=k/\k<2 ^ 63/\xs.length*k.toNat<=sizeLine ∧
 ∀ p,H p=none->Q (.ref p) (upd H p (.lst (List.replicate k.toNat xs).flatten))
theorem zE6 {α:Type} (xs:List α) (k:Nat):(List.replicate k xs).flatten.length=k*xs.length:=by
 induction k with
 | zero=>simp
 | succ k ih=>rw[List.replicate_succ,List.flatten_cons,List.length_append,ih,Nat.succ_mul,Nat.add_comm]
theorem zH5:OpR X (binaryOp .Mult) rRep:=by
 intro pins s σ H x y v u Q I rx ry h
 obtain ⟨l,k,xs,rfl,rfl,hH,h1,h2,hz,q⟩:=h
 cases rx
 obtain ⟨t,rfl⟩:=ry
 obtain ⟨z,its,n,r,hl,e⟩:=I.lstM hH
 have hlen:its.toArray.size*k.toNat<=sizeLine:=by rw[List.size_toArray,<-hl];exact hz
 have hcap:¬ its.toArray.size*k.toNat>(2 ^ 63-1) / 8:=by
   have:(sizeLine:Nat)<=(2 ^ 63-1) / 8:=by decide
   omega
 have hfit:¬ (!Builtin.List.listFitsIndex k)=true:=by
   rw[fitsIndex_both h1 h2]
   exact Bool.false_ne_true
 have hlong:¬ Builtin.List.listTooLong (its.toArray.size*k.toNat)=true:=by
   rw[notLongL hlen]
   exact Bool.false_ne_true
 have hnew:List.foldl (fun x1 x2=>x1++x2) #[] (List.replicate (if its.toArray.isEmpty=true then 0 else k.toNat) its.toArray)=(List.replicate k.toNat its).flatten.toArray:=by
   have f0:∀ m:Nat,List.foldl (fun x1 x2=>x1++x2) #[] (List.replicate m its.toArray)=(List.replicate m its).flatten.toArray:=fun m=>by
     have:=zB5 its m []
     rw[List.nil_append] at this
     exact this
   rw[f0]
   cases its with
   | nil=>simp
   | cons a r'=>rw[if_neg (by simp)]
 refine wpAny_binaryOp_repeat_ref (T:="list") (U:="int") (by decide) ⟨_,e,rfl⟩ (fun s'=>typeIs_int s' k t) noFill_list_mul F.fills_int_mul F.slot_int_rmul repeat_list F.slot_int_index.lookup
   (call_meets F.slot_int_rmul (typeIs_int s k t) F.entry_int_rmul (F.args_int_rmul_2 _ _) (int___rmul___int_list k t l its.toArray n)
     ⟨e,rfl,⟨_,e,rfl⟩,call_meets F.slot_list_mul ⟨_,e,rfl⟩ F.entry_list_mul (F.args_list_mul_2 _ _) (AutoListH.list___mul___list_int_3 l its.toArray n k t hfit hcap hlong) ⟨e,?_⟩⟩)
 rw[hnew]
 exact⟨.ref _,_,I.lnew (t':=s.toks) (r.rep k.toNat) (by rw[zE6,Nat.mul_comm];exact hz),rfl,q _ I.fresh⟩
/-! ### del xs[i] -/
end
/-! ### xs[a:b]=ys -/
section
variable {prog:Program} {w:World} {A:Around} {E:Value->Shared->Prop} {s:Shared}
end
section
variable {X:Cx}
end
end L2
namespace Att
open PySem PySem.W PySem.Calls PyProof.Rows
/-! ### the script -/
theorem ints_of_wellAll {P:Params} {h:Heap}:∀ (ns:List Int) (vs:List Value),WellAll P h vs (ns.map WData.int)->IntsAre vs ns:=by
 intro ns
 induction ns with
 | nil =>
   intro vs w
   rw[List.map_nil] at w
   cases w
   exact .nil
 | cons n ns ih =>
   intro vs w
   rw[List.map_cons] at w
   cases w with
   | cons a b =>
     cases a
     exact .cons _ _ (ih _ b)
theorem script_of {l:OpenLaw} {n:Nat} (hn:l.most=some n) {P:Params} {h:Heap} {args:List WData} {vals:List Value}
   (hpre:l.row.toRowW.claim.pre args=true) (hwl:WellAll P h vals args) :
   ∃ a vs ns,vals=[Value.ref a]/\args=[WData.list (ns.map WData.int)]/\h.get? a=some { cls:=.type "list",data:=.seq vs.toArray }/\IntsAre vs ns/\ns.length<=n:=by
 have hsh:WShape.hasAll [] args [.list .int]=true:=(pre_splitW hpre).1
 have hc:l.pre.holds [] { args:=args }=true:=(pre_splitW hpre).2
 obtain ⟨d,r,rfl,h1,h2⟩:=hasAllW_cons hsh
 obtain rfl:=hasAllW_nil h2
 obtain ⟨xs,rfl,h3⟩:=hasW_list h1
 obtain ⟨ns,rfl⟩:=items_int h3
 have hlen:ns.length<=n:=by
   unfold OpenLaw.pre at hc
   have h4:(WTm.not (.lt (.lit (.int (n:Int))) (.len (.arg 0)))).holds [] { args:=[.list (ns.map .int)] }=true:=by
     have h4:=(holds_andW hc).1
     rw[hn] at h4
     exact h4
   have h5:=condW_of h4 (w_not (w_lt w_lit (w_len_list (w_arg rfl))))
   rw[List.length_map] at h5
   refine Nat.le_of_not_lt fun q=>?_
   have q':(n:Int)<((ns.length:Nat):Int):=by omega
   first
     | (rw[decide_eq_true q'] at h5;exact absurd h5 (by decide))
     | (simp at h5;omega)
 cases hwl with
 | cons w1 w2 =>
   cases w2
   cases w1 with
   | list ho hall=>exact⟨_,_,ns,rfl,rfl,ho,ints_of_wellAll ns _ hall,hlen⟩
theorem post_true (l:OpenLaw) (args:List WData):l.row.toRowW.claim.post args (.bool true) args=true :=
 postW_of (r:=l.row.toRowW) (X:=(true == true))
   (show WShape.has [] (.bool true) .bool=true by first | rfl | decide | simp[WShape.has,WShape.arms,WShape.armsAll])
   (show (WTm.eq .res (.lit (.bool true))).value [] { args:=args,res:=some (.bool true),after:=args }=some (.bool (true == true)) from w_eq_bool (w_res rfl) w_lit) rfl
/-! ### the attachment: holds_open's last premise (the goal 'hc' behind k_head) from a wpAny of the law's body -/
theorem attach_call {l:OpenLaw} {n:Nat} {q:Program} {loose:List Str} {XP:(Str->Option Value)->Heap->Prop} {YP:World->Heap->Prop} {d:DefRec}
   (hn:l.most=some n) (hdf:d.params.defaults=[])
   (call:∀ (w:World) (s₀ s₁:Shared) (mg mb:Str->Option Value) (fa:Addr) (o:Obj) (pm cd doc:Value) (a:Addr) (vs:List Value) (ns:List Int),
     Ground q loose [] XP w s₀ mg mb s₁.heap->YP w s₁.heap →
     s₁.heap.get? fa=some o->o.data = .func (docDef d.name d.params d.body d.scope pm cd doc)->s₁.heap.CodeRec cd d.name->mg d.name=some (.ref fa) →
     s₁.heap.get? a=some { cls:=.type "list",data:=.seq vs.toArray }->IntsAre vs ns->ns.length<=n->s₁.gens = #[] →
     codeAny (model l.prog w) callerA (.call (.ref fa) ⟨[.ref a],[]⟩) (fun r s'=>r = .ok (.ret (.bool true))/\OldK s₁.heap s'.heap/\s'.os=s₁.os/\AllBare s'.gens) s₁) :
   WalkO q loose XP YP l.row.toRowW d [] (fun f vs=>PySem.call f vs):=by
 intro w s₀ s₁ mg mb G Y fa o pm cd doc dV kV ho hd hcd hD hmg hg args vals as hpre hlay hrd hwl hlo
 obtain rfl:dV = .none:=Dflts.none hD hdf
 obtain rfl:kV = .none:=Dflts.noKw hD
 obtain ⟨a,vs,ns,rfl,rfl,hobj,hints,hlen⟩:=script_of hn hpre hwl
 refine enter_call (codeAny_mono (call w s₀ s₁ mg mb fa o pm cd doc a vs ns G Y ho (fd_plain hd) hcd hmg hobj hints hlen hg) fun r s' hq=>?_)
 obtain ⟨rfl,h2,h3,h4⟩:=hq
 exact⟨.inl ⟨.bool true,.bool true,[],rfl,fun _=>rfl,.bool true,post_true l _,fun _=>⟨List.Pairwise.nil,fun _ hm=>(nomatch hm)⟩⟩,h2,h3,h4⟩
/-! ### rules over ANY heap (no ledger) from facts about the written part K: the library's own take a ledger (News) for what they write -/
section
variable {prog:Program} {w:World} {A:Around} {E:Value->Shared->Prop} {s:Shared} {K:Frag}
/-! the whole heap as the ledger: makes every rule that writes through a ledger a rule over any heap -/
end
end Att
namespace L2
open PySem PySem.Spec PyProof.Rows
theorem zB6:∀ {vs:List Value} {ns:List Int},IntsAre vs ns->Vals (ns.map V.int) vs
 | _,_,.nil=>.nil
 | _,_,.cons n t h=>.cons ⟨t,rfl⟩ (zB6 h)
noncomputable def Only (H:Hp):Prop:=∀ b,H b=none\/∃ o xs,H b=some (.frz o (.lst xs))
theorem law_call {P:Program} {w:World} {K:PySem.W.Frag} {mg mb:Str->Option Value} {CX:CXT} {k:Nat} {fa a:Addr} {fd:FuncData} {x:Str} {sp:Sp} {s₁:Shared} {vs:List Value} {ns:List Int}
   (KX:K.In s₁.heap) (hns:s₁.heap.Ns mainGlobals mg) (hb:s₁.heap.Ns builtinsNs mb) (hbb:∀ x:Str,x≠"__name__"->mb x=bootBuiltins x) (hlim:s₁.heap.NoLimit) (hg:s₁.gens = #[])
   (ha:s₁.heap.get? a=some { cls:=.type "list",data:=.seq vs.toArray }) (hi:IntsAre vs ns) (hl:ns.length<=sizeLine) (hr:Room k callerA)
   (F:∀ base:Heap,K.In base->base.Ns mainGlobals mg->FnOk P w K mg base CX k fa fd [x] sp) (hbind:∀ (s:Shared) (u:Value),BindsTo s fd ⟨[u],[]⟩ [(x,u)])
   (hsp:∀ H:Hp,Only H->SqL K H a (ns.map V.int)->sp [.ref a] H (fun v _=>v = .bl true) fun _ _ _=>False)
   (hCX:∀ H e s',CX [] H s₁ (fun _ _ _=>False) e s'->False) :
   codeAny (model P w) callerA (.call (.ref fa) ⟨[.ref a],[]⟩) (fun r s'=>r = .ok (.ret (.bool true))/\OldK s₁.heap s'.heap/\s'.os=s₁.os/\AllBare s'.gens) s₁:=by
 have rv:=zB6 hi
 have lenV:=hi.length
 have core:∀ H:Hp,Only H->SqL K H a (ns.map V.int)->HOk P w H s₁.heap->(∀ b,H b≠none->b=a)->(H a≠none->K.lookup a=none) →
     codeAny (model P w) callerA (.call (.ref fa) ⟨[.ref a],[]⟩) (fun r s'=>r = .ok (.ret (.bool true))/\OldK s₁.heap s'.heap/\s'.os=s₁.os/\AllBare s'.gens) s₁:=by
   intro H hO hS hok hA hK
   have base_of:∀ {b:Addr} {o:Obj},s₁.heap.get? b=some o->H b=none->(hidT s₁.heap H).get? b=some o:=fun e n=>hidT_get e n
   have noA:∀ {b:Addr} {o:Obj} {es:Array DictEntry} {ep:Nat},s₁.heap.get? b=some o->o.data = .dict es ep->H b=none:=fun {b o es ep} e d=>by
     cases q:H b with
     | none=>rfl
     | some u =>
       have e':b=a:=hA b (by rw[q];simp)
       subst e'
       rw[ha] at e;cases e
       have d':Data.seq vs.toArray _=Data.dict es ep:=d
       cases d'
   have nsK:∀ {b:Addr} {m:Str->Option Value},s₁.heap.Ns b m->(hidT s₁.heap H).Ns b m:=fun {b m} ⟨o,es,ep,e,d,r⟩=>⟨o,es,ep,base_of e (noA e d),d,r⟩
   have hKb:K.In (hidT s₁.heap H):=fun b o e=>base_of (KX b o e) (by
     cases q:H b with
     | none=>rfl
     | some u =>
       have e':b=a:=hA b (by rw[q];simp)
       subst e'
       rw[hK (by rw[q];simp)] at e;cases e)
   have hM:Mod K mg (hidT s₁.heap H):=⟨hKb,nsK hns,⟨mb,nsK hb,hbb⟩,let ⟨mc,h1,h2⟩:=hlim;⟨mc,nsK h1,h2⟩⟩
   have e0:Env0 P w K mg (hidT s₁.heap H) callerA [] s₁ H:=⟨rfl,hM,fun b o e=>of_hidT e,Nat.le_of_eq (hidT_size _ _),trivial,fun b hb=>absurd (show b∈([]:List Addr) from hb) (by simp),hok,.of_eq hg⟩
   refine codeAny_mono ((F _ hKb (nsK hns)).run callerA [] s₁ H ⟨[.ref a],[]⟩ [.ref a] [.ref a] _ _ hr e0 (hbind s₁ (.ref a)) (.cons rfl .nil) (hsp H hO hS)) fun r s' h=>?_
   cases r with
   | error e=>exact (hCX H e s' h).elim
   | ok fl =>
     cases fl with
     | next=>exact False.elim h
     | brk=>exact False.elim h
     | cont=>exact False.elim h
     | ret u =>
       obtain ⟨v,H',os,bare,un,hok',r',q⟩:=h
       have q':v = .bl true:=q
       subst q'
       obtain rfl:u=Value.bool true:=r'
       refine⟨rfl,OldK.of_keep fun b o e=>?_,os,bare⟩
       cases q:H b with
       | none=>exact un.keep b o e q (by intro z;exact absurd (show b∈([]:List Addr) from z) (by simp)) (by simp)
       | some u =>
         rcases hO b with z | ⟨ob,xs,z⟩
         . rw[q] at z;cases z
         . have z2:=un.frzs b ob _ z
           obtain ⟨e1,_⟩:=hok b _ z
           obtain ⟨e2,_⟩:=hok' b _ z2
           rw[e] at e1;cases e1
           exact e2
 cases hk:K.lookup a with
 | some o =>
   have e:=KX a o hk
   rw[ha] at e
   cases e
   refine core (fun _=>none) (fun _=>.inl rfl) (.inr ⟨_,vs.toArray,_,hk,rfl,rfl,rfl,by rw[List.size_toArray,lenV];exact hl,by simpa using rv⟩) (fun b u z=>by have z':(none:Option HO)=some u:=z;cases z') (fun b z=>absurd rfl z) fun z=>absurd rfl z
 | none =>
   refine core (fun b=>if b=a then some (.frz { cls:=.type "list",data:=.seq vs.toArray } (.lst (ns.map V.int))) else none) (fun b=>?_) (.inl (.inr ⟨{ cls:=.type "list",data:=.seq vs.toArray },if_pos rfl⟩)) (fun b u z=>?_) (fun b z=>?_) fun _=>hk
   . by_cases hb:b=a
     . exact .inr ⟨_,_,if_pos hb⟩
     . exact .inl (if_neg hb)
   . by_cases hb:b=a
     . have z':=(if_pos hb).symm.trans z
       cases z'
       subst hb
       exact⟨ha,by rw[List.length_map];exact hl,vs,_,rv,ha⟩
     . have z':=(if_neg hb).symm.trans z
       cases z'
   . by_cases hb:b=a
     . exact hb
     . exact absurd (if_neg hb) z
end L2
namespace L2
open PySem PySem.Spec PyProof.Rows
theorem walk_of {l:PySem.W.OpenLaw} {n k:Nat} {q:Program} {loose:List Str} {XP:(Str->Option Value)->Heap->Prop} {YP:World->Heap->Prop} {d:DefRec} {K:Params->PySem.W.Frag} {CX:World->CXT} {sp:World->Sp} {x:Str}
   (hn:l.most=some n) (hn2:n<=sizeLine) (hdf:d.params.defaults=[]) (hr:Room k callerA)
   (hY:∀ (w:World) (h:Heap),YP w h->(K w.params).In h)
   (F:∀ (w:World) (mg:Str->Option Value) (fa:Addr) (h:Heap),(K w.params).In h->h.Ns mainGlobals mg->mg d.name=some (.ref fa) →
     ∃ fd:FuncData,(∀ (s:Shared) (u:Value),BindsTo s fd ⟨[u],[]⟩ [(x,u)]) ∧
       ∀ base:Heap,(K w.params).In base->base.Ns mainGlobals mg->FnOk l.prog w (K w.params) mg base (CX w) k fa fd [x] (sp w))
   (hsp:∀ (w:World) (H:Hp) (a:Addr) (ns:List Int),ns.length<=n->Only H->SqL (K w.params) H a (ns.map V.int)->sp w [.ref a] H (fun v _=>v = .bl true) fun _ _ _=>False)
   (hCX:∀ (w:World) (H:Hp) (s:Shared) (e:Value) (s':Shared),CX w [] H s (fun _ _ _=>False) e s'->False) :
   PySem.W.WalkO q loose XP YP l.row.toRowW d [] (fun f vs=>PySem.call f vs):=by
 refine Att.attach_call hn hdf fun w s₀ s₁ mg mb fa o pm cd doc a vs ns G Y ho hd hcd hmg hobj hints hlen hg=>?_
 have KX:=hY w _ Y
 obtain ⟨fd,hb,hF⟩:=F w mg fa _ KX G.T.g hmg
 exact law_call KX G.T.g G.T.b G.T.builtins G.T.nolimit hg hobj hints (Nat.le_trans hlen hn2) hr hF hb (fun H hO hS=>hsp w H a ns hlen hO hS) fun H e s'=>hCX w H s₁ e s'
end L2
/-! SHORT WORDS over the layer: a def of the text,its body,what a loop and a test want. -/
namespace L2
open PySem PySem.Spec PyProof.Rows
/-! ### the text by places -/
noncomputable def zv9 (s:Stmt) (j:Nat):Stmt:=match s with
 | .ClassDef _ _ _ body _ _ _ _ _ _ _=>body.getD j (.Pass ⟨0,0,0,0⟩)
 | _=>.Pass ⟨0,0,0,0⟩
noncomputable def zc1 (s:Stmt):Arguments:=match s with
 | .FunctionDef _ a _ _ _ _ _ _ _ _=>a
 | _=>{ posonlyargs:=[],args:=[],vararg:=none,kwonlyargs:=[],kw_defaults:=[],kwarg:=none,defaults:=[] }
noncomputable def zb1 (s:Stmt):List Stmt:=match s with
 | .FunctionDef _ _ b _ _ _ _ _ _ _=>b
 | _=>[]
noncomputable def za5 (s:Stmt):Scope:=match s with
 | .FunctionDef _ _ _ _ _ _ sc _ _ _=>sc
 | _=>{ kind:=.function,names:=[],isGenerator:=false,isCoroutine:=false }
/-! ### no exception leaves a def -/
noncomputable abbrev CX0:CXT:=fun _ _ _ _ _ _=>False
noncomputable abbrev E0:XK:=fun _ _ _=>False
theorem zc4 {X:Cx}:zn1 CX0 X E0:=fun _ _ _ _ _ _ _ h=>h.elim
/-! ### a def (or method) of the text as it stands behind the top -/
structure Fun (K:PySem.W.Frag) (x qual:Str) (st:Stmt) (f:Addr) (fd:FuncData):Prop where
 ex:∃ (oc:Value) (od:Option Addr) (kV doc pm:Value) (an:Option Addr) (cdv ct:Value) (osl:Array (Option Value)),
   fd=PySem.W.fnOf x qual (zc1 st) (zb1 st) (za5 st) .none kV doc pm an cdv ct/\K.lookup f=some ⟨oc,od,.func fd,osl⟩/\PySem.W.codeIn K cdv qual=true
 kp:PySem.W.keepIn K (.ref f)=true
section
variable {P:Program} {w:World} {K:PySem.W.Frag} {mg:Str->Option Value} {base:Heap}
theorem Fun.ok {x qual:Str} {st:Stmt} {f:Addr} {fd:FuncData} {N ps:List Str} {k:Nat} {sp:Sp} (F:Fun K x qual st f fd) (S:zc3 N ps (za5 st)) (len:∀ vs H Q E,sp vs H Q E->vs.length=ps.length)
   (hbody:∀ (cdv:Value) (A:Around) (outer:List Env) (s:Shared) (H:Hp) (vs:List V) (Q:VK) (E:XK),Room k (A.deeper (envOfC qual (za5 st) s.heap.objs.size f cdv))->sp vs H Q E →
     ∃ t,PSs (cxOf CX0 P w K mg base N qual (za5 st) f cdv A outer s H E).nox (zb1 st) t/\t { nx:=fun _ H'=>Q .non H',rt:=Q } (start N vs) H):FnOk P w K mg base CX0 (k+1) f fd ps sp:=by
 obtain ⟨oc,od,kV,doc,pm,an,cdv,ct,osl,rfl,lk,hcd⟩:=F.ex
 refine zK4 lk hcd S len fun A outer s H vs Q E hr hsp=>?_
 obtain ⟨t,h,q⟩:=hbody cdv A outer s H vs Q E hr hsp
 exact⟨t,h.nox,q⟩
theorem Fun.binds {x qual:Str} {st:Stmt} {f:Addr} {fd:FuncData} {ps:List Str} (F:Fun K x qual st f fd)
   (h:∀ (kV doc pm:Value) (an:Option Addr) (cdv ct:Value) (us:List Value),us.length=ps.length->bindArgs (PySem.W.fnOf x qual (zc1 st) (zb1 st) (za5 st) .none kV doc pm an cdv ct) ⟨us,[]⟩=pure (ps.zip us)):zc9 K fd ps []:=by
 obtain ⟨oc,od,kV,doc,pm,an,cdv,ct,osl,rfl,lk,hcd⟩:=F.ex
 exact .all (h kV doc pm an cdv ct)
theorem zd5 {x qual:Str} {st:Stmt} {f:Addr} {oc:Value} {od an:Option Addr} {osl:Array (Option Value)} {kV doc pm cdv ct:Value} (l:K.lookup f=some ⟨oc,od,.func (PySem.W.fnOf x qual (zc1 st) (zb1 st) (za5 st) .none kV doc pm an cdv ct),osl⟩)
 (c:PySem.W.codeIn K cdv qual=true) (k:PySem.W.keepIn K (.ref f)=true):Fun K x qual st f (PySem.W.fnOf x qual (zc1 st) (zb1 st) (za5 st) .none kV doc pm an cdv ct):=⟨⟨oc,od,kV,doc,pm,an,cdv,ct,osl,rfl,l,c⟩,k⟩
end
theorem hu_of {A:Around} {k:Nat} (hr:Room k A):A.units+1<cLine:=Nat.lt_of_le_of_lt (Nat.add_le_add_left (by decide:1<=64) _) hr.units
theorem zg8 {n:Nat} (h:n<=1000):n<sizeLine:=Nat.lt_of_le_of_lt h (by decide)
/-! ### expressions in short: the name that stands in the i-th slot -/
section
variable {X:Cx}
theorem pv (i:Nat) {x:Str} {pos:Pos} (hN:X.N[i]?=some x:=by rfl) (hv:Vis X.env.scope x:=by first | exact Or.inl rfl | exact Or.inr (Or.inl rfl) | exact Or.inr (Or.inr rfl)) (hd:(x == ("__debug__" : Str))=false:=by decide)
 (hcd:(x == ("__classdict__" : Str))=false:=by decide):PE X (.Name x pos) (tVar i):=pe_var hN hv hd hcd
end
/-! ### tests -/
theorem iteF {A B:Prop} (h:B):if false=true then A else B:=by
 rw[if_neg Bool.false_ne_true]
 exact h
theorem iteT {A B:Prop} (h:A):if true=true then A else B:=by
 rw[if_pos rfl]
 exact h
theorem ite2 {c A B:Prop} [Decidable c] (h1:c->A) (h2:¬ c->B):if c then A else B:=by
 by_cases h:c
 . rw[if_pos h]
   exact h1 h
 . rw[if_neg h]
   exact h2 h
/-! ### heaps -/
noncomputable def Same (H H':Hp):Prop:=∀ b o,H b=some o->H' b=some o
theorem Same.refl (H:Hp):Same H H:=fun _ _ h=>h
theorem Same.trans {H H1 H2:Hp} (a:Same H H1) (b:Same H1 H2):Same H H2:=fun c o h=>b c o (a c o h)
theorem Same.free {H H':Hp} (e:Same H H') {l:Addr} (h:H' l=Option.none):H l=Option.none:=by
 cases q:H l with
 | none=>rfl
 | some o =>
   rw[e l o q] at h
   cases h
theorem Same.seq {K:PySem.W.Frag} {H H':Hp} {a:Addr} {xs:List V} (e:Same H H') (h:SqL K H a xs):SqL K H' a xs:=by
 rcases h with (h | ⟨o,h⟩) | h
 . exact .inl (.inl (e _ _ h))
 . exact .inl (.inr ⟨o,e _ _ h⟩)
 . exact .inr h
end L2
/-! COMPREHENSIONS over the layer: a list comprehension of one clause,whose block raises nothing -/
namespace L2
open PySem PySem.Spec PyProof.Rows
section
variable {prog:Program} {w:World} {A:Around} {R:Result->Shared->Prop} {s:Shared}
theorem compLoop_go {elt target iter:Expr} {ifs:List Expr} {scope:Scope} {pos:Pos} {it acc:Value} {env:Env} (I:Nat->Shared->Prop)
   (turn:∀ n s,I n s->wpAny (model prog w) A (pyNext it) (fun r s1=>match r with
     | none=>R (.ok .next) s1
     | some v=>wpAny (model prog w) A (letOwnedTupleGo target it v) (fun _ s1'=>wpAny (model prog w) A (assign target env v) (fun _ s2 =>
         wpAny (model prog w) A (forIn ifs true fun c r=>if r=true then do let ok <-isTrue c env (eval c env);pure (ForInStep.yield ok) else pure (ForInStep.yield r)) (fun ok s3 =>
           if ok=true then wpAny (model prog w) A (eval elt env) (fun x s4 =>
             wpAny (model prog w) A (call (.builtin "list.append") [acc,x]) (fun _ s5=>∃ m,m<n/\I m s5) (fun _ _=>False) s4) (fun _ _=>False) s3
           else ∃ m,m<n/\I m s3) (fun _ _=>False) s2) (fun _ _=>False) s1') (fun _ _=>False) s1) (fun _ _=>False) s)
   (n:Nat) (h:I n s) :
   codeAny (model prog w) A (.compLoop (.ListComp elt [⟨target,iter,ifs,0⟩] scope pos) 0 it acc env) R s:=by
 refine codeAny_loop rfl I (fun n s hI=>?_) n h
 show wpAny _ A ((compTurn (.ListComp elt [⟨target,iter,ifs,0⟩] scope pos) 0 it acc env).onRaise (fun x=>do noteFrame x env;theTreesLotGoes x)) _ _ s
 refine wpAny_noted ?_
 rw[compTurn_list]
 refine wpAny_bind (wpAny_standAt (wpAny_bind (wpAny_mono (turn n s hI) (fun r s1 h1=>?_) fun _ _ h'=>h'.elim)))
 cases r with
 | none=>exact wpAny_pure h1
 | some v =>
   refine wpAny_bind (wpAny_mono h1 (fun _ s1' h1'=>?_) fun _ _ h'=>h'.elim)
   refine wpAny_bind (wpAny_mono h1' (fun _ s2 h2=>wpAny_bind (wpAny_mono h2 (fun ok s3 h3=>?_) fun _ _ h'=>h'.elim)) fun _ _ h'=>h'.elim)
   cases ok with
   | false=>exact wpAny_pure ⟨rfl,h3⟩
   | true=>exact wpAny_bind (wpAny_bind (wpAny_mono h3 (fun x s4 h4=>wpAny_bind (wpAny_mono h4 (fun _ s5 h5=>wpAny_pure (wpAny_pure ⟨rfl,h5⟩)) fun _ _ h'=>h'.elim)) fun _ _ h'=>h'.elim))
end
theorem zu8 {scope:Scope} {env:Env} (h:∀ y∈scope.names,y.2 = .free->∃ c,env.cells.lookup y.1=some c) :
   ∃ cl,closureFor scope env=pure cl/\(∀ x c,cl.lookup x=some c->env.cells.lookup x=some c)/\∀ y∈scope.names,y.2 = .free->∃ c,cl.lookup y.1=some c:=by
 have all:∀ (names:List (Str×NameKind)) (acc:List (Str×Addr)) (f:Str×NameKind->List (Str×Addr)->Sem (ForInStep (List (Str×Addr)))),
     (∀ n k c,f (n,k) c=if k == .free then (do let a <-cellOf env n;pure (.yield ((n,a)::c))) else pure (.yield c)) →
     (∀ y∈names,y.2 = .free->∃ c,env.cells.lookup y.1=some c)->(∀ x c,acc.lookup x=some c->env.cells.lookup x=some c) →
     ∃ cl,forIn names acc f=pure cl/\(∀ x c,cl.lookup x=some c->env.cells.lookup x=some c)/\(∀ x c,acc.lookup x=some c->∃ c',cl.lookup x=some c')/\∀ y∈names,y.2 = .free->∃ c,cl.lookup y.1=some c:=by
   intro names
   induction names with
   | nil=>intro acc f _ _ ha;exact⟨acc,by rw[List.forIn_nil],ha,fun x c e=>⟨c,e⟩,fun y hy=>nomatch hy⟩
   | cons y r ih =>
     intro acc f hf hy ha
     obtain ⟨n,k⟩:=y
     rw[List.forIn_cons,hf]
     by_cases hk:k = .free
     . subst hk
       obtain ⟨c,hc⟩:=hy (n,.free) List.mem_cons_self rfl
       have hc':env.cells.lookup n=some c:=hc
       have ec:cellOf env n=pure c:=by unfold cellOf;rw[hc']
       rw[if_pos (by decide),ec,pure_bind,pure_bind]
       obtain ⟨cl,e,h1,h2,h3⟩:=ih ((n,c)::acc) f hf (fun y hy'=>hy y (List.mem_cons_of_mem _ hy')) (fun x c' e=>by
         rw[List.lookup_cons] at e
         cases hx:x == n with
         | true=>rw[hx] at e;cases e;rw[eq_of_beq hx];exact hc'
         | false=>rw[hx] at e;exact ha x c' e)
       refine⟨cl,e,h1,fun x c' e'=>?_,fun y hy' hk'=>?_⟩
       . cases hx:x == n with
         | true=>exact h2 x c (by rw[List.lookup_cons,hx])
         | false=>exact h2 x c' (by rw[List.lookup_cons,hx];exact e')
       . rcases List.mem_cons.mp hy' with z | z
         . subst z;exact h2 n c (by rw[List.lookup_cons];simp)
         . exact h3 y z hk'
     . have hb:(k == NameKind.free)=false:=by simpa using hk
       rw[hb]
       rw[if_neg (by decide),pure_bind]
       obtain ⟨cl,e,h1,h2,h3⟩:=ih acc f hf (fun y hy'=>hy y (List.mem_cons_of_mem _ hy')) ha
       refine⟨cl,e,h1,h2,fun y hy' hk'=>?_⟩
       rcases List.mem_cons.mp hy' with z | z
       . subst z;exact absurd hk' hk
       . exact h3 y z hk'
 have fin:∀ f:Str×NameKind->List (Str×Addr)->Sem (ForInStep (List (Str×Addr))),
     (∀ n k c,f (n,k) c=if k == .free then (do let a <-cellOf env n;pure (.yield ((n,a)::c))) else pure (.yield c)) →
     ∃ cl,(forIn scope.names [] f >>= fun r=>pure r)=pure cl/\(∀ x c,cl.lookup x=some c->env.cells.lookup x=some c)/\∀ y∈scope.names,y.2 = .free->∃ c,cl.lookup y.1=some c:=fun f hf=>by
   obtain ⟨cl,e,h1,_,h3⟩:=all scope.names [] f hf h (fun x c e=>by cases e)
   exact⟨cl,by rw[e,pure_bind],h1,h3⟩
 unfold closureFor
 exact fin _ (fun n k c=>by cases hk:k == NameKind.free<;>simp[hk])
noncomputable def Cx.comp (X:Cx) (scope:Scope) (cl:List (Str×Addr)) (C:Addr) (N':List Str) (s0:Shared) (H0:Hp) (fp:List Addr):Cx :=
 { X with N:=N',s₀:=s0,H₀:=H0,env:=compEnvC scope cl C X.env,outer:=X.stack,ex:=fp,fn:=fun _=>false,pn:=[],xe:=fun _ _=>False }
noncomputable def selS (ix:List (Option Nat)) (σ:St):St:=ix.map fun o=>o.bind fun j=>(σ[j]?).join
structure ze5 (ON:List Str) (osc scope:Scope) (N':List Str) (ix:List (Option Nat)):Prop where
 kind:scope.kind = .function
 nocell:∀ y∈scope.names,y.2≠.cell
 names:∀ y∈scope.names,y.2 = .local->scope.names.lookup y.1=some .local
 frees:∀ y∈scope.names,y.2 = .free->osc.names.lookup y.1=some .cell
 len:ix.length=N'.length
 nd:N'.Nodup
 chk:((ix.zip N').all fun p=>match p.1 with | none=>true | some j=>decide (ON[j]?=some p.2) && decide (scope.names.lookup p.2=some .free))=true
theorem ze5.sel {ON:List Str} {osc scope:Scope} {N':List Str} {ix:List (Option Nat)} (S:ze5 ON osc scope N' ix) (i j:Nat) (x:Str) (h1:ix[i]?=some (some j)) (h2:N'[i]?=some x):ON[j]?=some x/\scope.names.lookup x=some .free:=by
 have hz:(ix.zip N')[i]?=some (some j,x):=by rw[List.getElem?_zip_eq_some];exact⟨h1,h2⟩
 have:=List.all_eq_true.mp S.chk _ (List.mem_of_getElem? hz)
 simp only[Bool.and_eq_true,decide_eq_true_eq] at this
 exact this
theorem zw0 {env:Env}:∀ {names:List (Str×NameKind)} {x:Str},names.lookup x=some .free →
   ((names.map fun (n,k)=>if (k == NameKind.free && env.scope.kind == .function && env.kindOf n == some .cell) then (n,NameKind.cell) else (n,k)).lookup x=some .cell ∨
    (names.map fun (n,k)=>if (k == NameKind.free && env.scope.kind == .function && env.kindOf n == some .cell) then (n,NameKind.cell) else (n,k)).lookup x=some .free)
 | [],_,h=>by simp at h
 | (n,k)::r,x,h=>by
   have ih:=@zw0 env r x
   rw[List.map_cons]
   cases hx:x == n with
   | true =>
     rw[List.lookup_cons,hx] at h
     cases h
     by_cases hc:(NameKind.free == NameKind.free && env.scope.kind == .function && env.kindOf n == some .cell)=true
     . left;simp only[hc,if_true,List.lookup_cons,hx]
     . right
       have hc':(NameKind.free == NameKind.free && env.scope.kind == .function && env.kindOf n == some .cell)=false:=by simpa using hc
       simp only[hc',Bool.false_eq_true,if_false,List.lookup_cons,hx]
   | false =>
     rw[List.lookup_cons,hx] at h
     have ih':=ih h
     by_cases hc:(k == NameKind.free && env.scope.kind == .function && env.kindOf n == some .cell)=true
     . simp only[hc,if_true,List.lookup_cons,hx];exact ih'
     . have hc':(k == NameKind.free && env.scope.kind == .function && env.kindOf n == some .cell)=false:=by simpa using hc
       simp only[hc',Bool.false_eq_true,if_false,List.lookup_cons,hx];exact ih'
theorem zw1 {env:Env}:∀ {names:List (Str×NameKind)} {x:Str},(∀ y∈names,y.2≠.cell) →
   ((names.map fun (n,k)=>if (k == NameKind.free && env.scope.kind == .function && env.kindOf n == some .cell) then (n,NameKind.cell) else (n,k)).lookup x=some .cell ∨
    (names.map fun (n,k)=>if (k == NameKind.free && env.scope.kind == .function && env.kindOf n == some .cell) then (n,NameKind.cell) else (n,k)).lookup x=some .free)->(x,NameKind.free)∈names
 | [],_,_,h=>by simp at h
 | (n,k)::r,x,hn,h=>by
   have ih:=@zw1 env r x fun y hy=>hn y (List.mem_cons_of_mem _ hy)
   rw[List.map_cons] at h
   cases hx:x == n with
   | true =>
     have e:=eq_of_beq hx
     subst e
     by_cases hc:(k == NameKind.free && env.scope.kind == .function && env.kindOf x == some .cell)=true
     . have hk:k = .free:=by
         have:=(Bool.and_eq_true_iff.mp (Bool.and_eq_true_iff.mp hc).1).1
         exact eq_of_beq this
       subst hk;exact List.mem_cons_self
     . have hc':(k == NameKind.free && env.scope.kind == .function && env.kindOf x == some .cell)=false:=by simpa using hc
       simp only[hc',Bool.false_eq_true,if_false,List.lookup_cons,beq_self_eq_true] at h
       rcases h with h | h
       . have hk:k = .cell:=Option.some.inj h
         exact absurd hk (hn (x,k) List.mem_cons_self)
       . have hk:k = .free:=Option.some.inj h
         subst hk;exact List.mem_cons_self
   | false =>
     refine List.mem_cons_of_mem _ (ih ?_)
     by_cases hc:(k == NameKind.free && env.scope.kind == .function && env.kindOf n == some .cell)=true
     . simp only[hc,if_true,List.lookup_cons,hx] at h;exact h
     . have hc':(k == NameKind.free && env.scope.kind == .function && env.kindOf n == some .cell)=false:=by simpa using hc
       simp only[hc',Bool.false_eq_true,if_false,List.lookup_cons,hx] at h;exact h
section
variable {X:Cx} {pins:List (Addr×Obj)} {σ:St} {H:Hp} {s:Shared}
theorem Inv.comp {scope:Scope} {N':List Str} {ix:List (Option Nat)} {cl:List (Str×Addr)} {fp:List Addr} {h':Heap} {t':Nat} (I:Inv X pins σ H s) (S:ze5 X.N X.env.scope scope N' ix) (hfp:∀ b∈fp,FpOk X pins H b) (hlt:∀ b∈fp,b<s.heap.objs.size)
   (c1:∀ x c,cl.lookup x=some c->X.env.cells.lookup x=some c) (c2:∀ y∈scope.names,y.2 = .free->∃ c,cl.lookup y.1=some c)
   (ns:h'.Ns s.heap.objs.size fun _=>none) (sb:∀ b o,s.heap.get? b=some o->h'.get? b=some o) :
   Inv (X.comp scope cl s.heap.objs.size N' s H fp) [] (selS ix σ) H { s with heap:=h',toks:=t' }:=by
 have fpne:∀ b∈fp,b≠s.heap.objs.size:=fun b hb=>Nat.ne_of_lt (hlt b hb)
 have cin:∀ x c,cl.lookup x=some c->∃ v,s.heap.IsCell c v:=fun x c e=>I.cell x c (c1 x c e)
 refine⟨⟨I.ok.mod,S.kind,I.ok.glob,I.ok.blt,Nat.le_refl _,fun x y c e1 e2=>I.ok.inj x y c (c1 x c e1) (c1 y c e2),fun x hx=>?_,fun x c z=>(by cases z),I.ok.hd,I.ok.frames,.inl rfl,fun b hb=>⟨fpne b hb,fun x c e=>?_⟩,I.bs,Nat.le_trans I.ok.bsz I.sz,fun b o e hb=>?_,fun b hb hf=>?_,I.stack,I.stkFree⟩,
   rfl,I.bare,Un.kept sb,⟨_,ns,fun i x v e1 e2 e3=>?_⟩,fun x c e=>?_,I.hok.fresh (Nat.le_refl _),fun x c e=>I.freeC x c (c1 x c e),fun p hp=>(by cases hp),I.hok.kept sb,?_⟩
 . obtain ⟨c,e⟩:=c2 (x,.free) (zw1 S.nocell hx) rfl
   exact⟨c,e⟩
 . exact (hfp b hb).2.2.2.2.1 x c (c1 x c e)
 . rcases (hfp b hb).2.2.2.1 with z | z
   . exact I.ok.noex b o e z
   . exact absurd (Nat.lt_of_lt_of_le (Heap.lt_size (I.ok.bs b o e).1) z) (Nat.lt_irrefl _)
 . rcases List.mem_cons.mp (I.stkSub b hf) with z | z
   . exact (hfp b hb).2.1 z
   . exact (hfp b hb).2.2.1 z
 . -- what the block sees
   have e2':ix[i]?.map (fun o=>o.bind fun j=>(σ[j]?).join)=some (some v):=by
     have:=e2
     unfold selS at this
     rwa [List.getElem?_map] at this
   cases hi:ix[i]? with
   | none=>rw[hi] at e2';cases e2'
   | some o =>
     rw[hi] at e2'
     cases o with
     | none=>cases e2'
     | some j =>
       have e4:(σ[j]?).join=some v:=Option.some.inj e2'
       have e5:σ[j]?=some (some v):=by
         cases q:σ[j]? with
         | none=>rw[q] at e4;cases e4
         | some z=>rw[q] at e4;have:z=some v:=e4;rw[this]
       obtain ⟨hN,hfr⟩:=S.sel i j x hi e1
       have hk:=S.frees (x,.free) (PySem.mem_of_lookup hfr) rfl
       obtain ⟨m,_,hl⟩:=I.loc
       obtain ⟨u,r,lk⟩:=hl j x v hN e5 (.inr (.inl hk))
       refine⟨u,r,.inr ?_⟩
       rcases lk with ⟨k1,_⟩ | ⟨_,c,ec,hc⟩
       . exact absurd (k1.symm.trans hk) (by decide)
       . obtain ⟨c',ec'⟩:=c2 (x,.free) (PySem.mem_of_lookup hfr) rfl
         have:=c1 x c' ec'
         rw[ec] at this
         cases this
         refine⟨zw0 hfr,c,ec',?_⟩
         obtain ⟨o,ho,hd⟩:=hc
         exact⟨o,sb c o ho,hd⟩
 . obtain ⟨v,o,ho,hd⟩:=cin x c e
   exact⟨v,o,sb c o ho,hd⟩
 . show (selS ix σ).length=N'.length
   unfold selS
   rw[List.length_map]
   exact S.len
theorem Inv.uncomp {scope:Scope} {N':List Str} {cl:List (Str×Addr)} {fp:List Addr} {C:Addr} {σ':St} {H':Hp} {s':Shared} (I:Inv X pins σ H s) (hfp:∀ b∈fp,FpOk X pins H b) (hC:s.heap.objs.size<=C)
   (J:Inv (X.comp scope cl C N' s H fp) [] σ' H' s'):Inv X pins σ H' s' :=
 I.call' (ch:=fp) J.os J.base J.hok J.bare fun b hb=>by
   obtain ⟨f0,f1,f2,f3,f4,f5⟩:=hfp b hb
   exact⟨f3,f1,f4,f5⟩
end
/-! ### readings -/
noncomputable def zo1 (D:Addr) (telt:TE) (N:St->Hp->Prop):St->Hp->Prop:=fun σ H=>telt σ H fun v H1=>∃ acc,H1 D=some (.lst acc)/\acc.length<sizeLine/\N σ (upd H1 D (.lst (acc++[v])))
noncomputable def zK9 (wi:TI) (ix:List (Option Nat)) (g:TG) (tif:TT) (telt:TE):TE:=fun σ H Q=>wi σ H fun J H1=>∀ D,H1 D=none->∃ W:Nat->Nat->St->Hp->Prop,(∃ m,W 0 m (selS ix σ) (upd H1 D (.lst []))) ∧
 ∀ i m σ' H',W i m σ' H'->(J.stop i H'/\Q (.ref D) H')\/(J.go i H'/\∃ N:St->Hp->Prop,(∀ σ2 H2,N σ2 H2->∃ m',m'<m/\W (i+1) m' σ2 H2) ∧
   ∀ x H2,J.yld i H' x H2->g x σ' H2 fun σ3 H3=>tif σ3 H3 fun b H4=>if b=true then zo1 D telt N σ3 H4 else N σ3 H4)
noncomputable def PIfs (X:Cx) (ifs:List Expr) (t:TT):Prop :=
 ∀ (pins:List (Addr×Obj)) (s:Shared) (σ:St) (H:Hp) (Q:Bool->Hp->Prop),Inv X pins σ H s->t σ H Q →
   wpAny (model X.prog X.w) X.A (forIn ifs true fun c r=>if r=true then do let ok <-isTrue c X.env (eval c X.env);pure (ForInStep.yield ok) else pure (ForInStep.yield r)) (TP X pins σ Q) X.xe s
noncomputable def zu4:TT:=fun _ H Q=>Q true H
theorem zp1 {X:Cx}:PIfs X [] zu4:=fun _ _ _ H _ I h=>wpAny_tests_nil ⟨H,I,h⟩
section
variable {X:Cx} {scope:Scope} {N':List Str} {ix:List (Option Nat)} {tg iter elt:Expr} {ifs:List Expr} {pos:Pos} {wi:TI} {g:TG} {tif:TT} {telt:TE}
theorem zz8 {RR:Value->Addr->Result->Shared->Prop} {pins:List (Addr×Obj)} {σ:St} {s2:Shared} {H2:Hp} {it:Addr} {fp:List Addr} {tn:Nat->Heap->Prop} {J:It} {cl:List (Str×Addr)} {Q:VK} {E:Value->Shared->Prop}
   (hc:X.calm=true) (S:ze5 X.N X.env.scope scope N' ix)
   (c1:∀ x c,cl.lookup x=some c->X.env.cells.lookup x=some c) (c2:∀ y∈scope.names,y.2 = .free->∃ c,cl.lookup y.1=some c)
   (hg:∀ cl C s0 H0 fp,PG (X.comp scope cl C N' s0 H0 fp) tg g) (hif:∀ cl C s0 H0 fp,PIfs (X.comp scope cl C N' s0 H0 fp) ifs tif) (he:∀ cl C s0 H0 fp,PE (X.comp scope cl C N' s0 H0 fp) elt telt)
   (I2:Inv X pins σ H2 s2) (T:Turn X.prog X.w X.K tg J fp it tn) (st2:tn 0 s2.heap) (f2:∀ b∈fp,FpOk X pins H2 b)
   (body:∀ D,H2 D=none->∃ W:Nat->Nat->St->Hp->Prop,(∃ m,W 0 m (selS ix σ) (upd H2 D (.lst []))) ∧
     ∀ i m σ' H',W i m σ' H'->(J.stop i H'/\Q (.ref D) H')\/(J.go i H'/\∃ N:St->Hp->Prop,(∀ σ2 H2,N σ2 H2->∃ m',m'<m/\W (i+1) m' σ2 H2) ∧
       ∀ x H2,J.yld i H' x H2->g x σ' H2 fun σ3 H3=>tif σ3 H3 fun b H4=>if b=true then zo1 D telt N σ3 H4 else N σ3 H4))
   (hRR:∀ D C s3 s' H' m,Inv X pins σ H' s'->s2.heap.objs.size<=s3->s3<=C->s'.heap.Ns C m->FpOk X pins H' C->HOk X.prog X.w H' s'.heap->Q (.ref D) H'->RR (.ref D) C (.ok .next) s') :
   wpAny (model X.prog X.w) X.A (newList []) (fun acc s3=>wpAny (model X.prog X.w) X.A (newFunctionEnv scope X.env.globals cl [] X.env.qual none .none (some X.env)) (fun cenv s4 =>
     codeAny (model X.prog X.w) X.A (.compStart (.ListComp elt [⟨tg,iter,ifs,0⟩] scope pos) 0 (.ref it) acc { cenv with scope:=relabel scope X.env }) (RR acc cenv.locals) s4) E s3) E s2:=by
 have hlt2:∀ b∈fp,b<s2.heap.objs.size:=fun b hb=>by
   obtain ⟨o,e,_⟩:=T.obj _ _ st2 b hb
   exact Heap.lt_size e
 obtain ⟨W,⟨m0,w0⟩,turn⟩:=body s2.heap.objs.size I2.fresh
 refine wpAny_newObj_type (wpAny_newFunctionEnv S.nocell (by intro y hy;simp at hy) (fun h1 hns1 hsb1=>?_) S.kind)
 dsimp only at hns1 hsb1 ⊢
 have I3:Inv X pins σ (upd H2 s2.heap.objs.size (.lst [])) { s2 with heap:=s2.heap.push { cls:=.type "list",dict:=none,data:=.seq ([]:List Value).toArray } } :=
   Inv.lnew (its:=[]) (t':=s2.toks) I2 .nil (Nat.zero_le _)
 generalize hs3:({ s2 with heap:=s2.heap.push { cls:=.type "list",dict:=none,data:=.seq ([]:List Value).toArray } }:Shared)=s3 at I3
 have hh3:s3.heap=s2.heap.push { cls:=.type "list",dict:=none,data:=.seq ([]:List Value).toArray }:=by rw[<-hs3]
 have hsz3:s3.heap.objs.size=s2.heap.objs.size+1:=by rw[hh3,Heap.size_push]
 have hsh:({ s2 with heap:=h1,toks:=s2.toks+([]:List (Str×Value)).length }:Shared) = { s3 with heap:=h1,toks:=s2.toks+([]:List (Str×Value)).length }:=by rw[<-hs3]
 rw[<-hh3] at hns1 hsb1 ⊢
 have fpD:∀ b∈fp,b≠s2.heap.objs.size:=fun b hb=>Nat.ne_of_lt (hlt2 b hb)
 have f3:∀ b∈fp,FpOk X pins (upd H2 s2.heap.objs.size (.lst [])) b:=fun b hb=>⟨by rw[za7 (fpD b hb)];exact (f2 b hb).1,(f2 b hb).2⟩
 have old:∀ b o,s3.heap.get? b=some o->h1.get? b=some o:=fun b o e=>hsb1.extBut b o (Nat.ne_of_lt (Heap.lt_size e)) (Heap.get?_push_of_some _ e)
 have J4:Inv (X.comp scope cl s3.heap.objs.size N' s3 (upd H2 s2.heap.objs.size (.lst [])) fp) [] (selS ix σ) (upd H2 s2.heap.objs.size (.lst [])) { s3 with heap:=h1,toks:=s2.toks+([]:List (Str×Value)).length } :=
   I3.comp S f3 (fun b hb=>Nat.lt_of_lt_of_le (hlt2 b hb) (by rw[hsz3];exact Nat.le_succ _)) c1 c2 hns1 old
 have st4:tn 0 h1:=T.keep _ _ _ st2 fun b hb o e=>old b o (by rw[hh3];exact Heap.get?_push_of_some _ e)
 generalize hCC:s3.heap.objs.size=C at *
 generalize hX':X.comp scope cl C N' s3 (upd H2 s2.heap.objs.size (.lst [])) fp=X' at J4
 have stat:∀ {H':Hp},(∀ b∈fp,H' b=none)->∀ b∈fp,FpOk X' [] H' b:=fun {H'} hn b hb=>by
   subst hX'
   refine⟨hn b hb,(J4.ok.exf b hb).1,J4.ok.exfs b hb,.inl hb,(J4.ok.exf b hb).2,fun p hp=>(by cases hp)⟩
 rw[hsh]
 have loop:codeAny (model X.prog X.w) X.A (.compLoop (.ListComp elt [⟨tg,iter,ifs,0⟩] scope pos) 0 (.ref it) (.ref s2.heap.objs.size) (compEnvC scope cl C X.env)) (RR (.ref s2.heap.objs.size) C) { s3 with heap:=h1,toks:=s2.toks+([]:List (Str×Value)).length }:=by
   refine compLoop_go (fun n s'=>∃ i σ' H',Inv X' [] σ' H' s'/\tn i s'.heap/\(∀ b∈fp,H' b=none)/\W i n σ' H') ?_ m0 ⟨0,_,_,J4,st4,fun b hb=>(f3 b hb).1,w0⟩
   rintro n s5 ⟨i,σ5,H5,I5,st5,fr5,w5⟩
   rcases turn i n σ5 H5 w5 with ⟨stop,qn⟩ | ⟨go,N,hN,step⟩
   . have td:=T.done X' (by subst hX';rfl) (by subst hX';rfl) (by subst hX';rfl) (by subst hX';exact hc) i [] s5 σ5 H5 (fun _ _=>False) I5 (stat fr5) st5 stop
     have eA:X'.A=X.A:=by subst hX';rfl
     rw[eA] at td
     refine thn td fun r s6 ⟨hr,I6⟩=>?_
     subst hr
     subst hX'
     obtain ⟨m,hnm,_⟩:=I6.loc
     have I7:Inv X pins σ H5 s6:=I3.uncomp f3 (Nat.le_of_eq hCC) I6
     refine hRR s2.heap.objs.size C s3.heap.objs.size s6 H5 m I7 (by omega) (by omega) hnm ?_ I6.hok qn
     have q:=I3.fpOk (H':=H5) (b:=C) (by omega) I6.free
     exact q
   . have ti:=T.item X' (by subst hX';rfl) (by subst hX';rfl) (by subst hX';rfl) (by subst hX';exact hc) i [] s5 σ5 H5 (fun _ _=>False) I5 (stat fr5) st5 go
     have eA:X'.A=X.A:=by subst hX';rfl
     rw[eA] at ti
     refine thn ti fun r s6 ⟨u,hr,h6⟩=>?_
     subst hr
     refine thn h6 fun _ s7 ⟨x,H7,I7,r7,y7,st7,fr7⟩=>?_
     have I7':=I7.pinned (stat fr7) (T.obj _ _ st7)
     have again:∀ {pl:List (Addr×Obj)} {σ8:St} {H8:Hp} {s8:Shared},Inv X' ([]++zr5 fp s7.heap) σ8 H8 s8->N σ8 H8->∃ m,m<n/\∃ i σ' H',Inv X' [] σ' H' s8/\tn i s8.heap/\(∀ b∈fp,H' b=none)/\W i m σ' H':=fun {pl σ8 H8 s8} I8 n8=>by
       obtain ⟨m',hm,w8⟩:=hN σ8 H8 n8
       refine⟨m',hm,i+1,σ8,H8,I8.unpinned,T.keep _ _ _ st7 fun b hb o e=>(I8.pin (b,o) (List.mem_append_right _ (List.mem_append_right _ (zk2 hb e)))).1,fun b hb=>?_,w8⟩
       obtain ⟨o,e,d⟩:=T.obj _ _ st7 b hb
       exact (I8.pin (b,o) (List.mem_append_right _ (List.mem_append_right _ (zk2 hb e)))).2.1
     have eE:X'.env=compEnvC scope cl C X.env:=by subst hX';rfl
     have eP:X'.prog=X.prog:=by subst hX';rfl
     have eW:X'.w=X.w:=by subst hX';rfl
     have eX:X'.xe=fun _ _=>False:=by subst hX';rfl
     have hg':PG X' tg g:=by subst hX';exact hg _ _ _ _ _
     have hif':PIfs X' ifs tif:=by subst hX';exact hif _ _ _ _ _
     have he':PE X' elt telt:=by subst hX';exact he _ _ _ _ _
     have a1:=hg' _ s7 σ5 H7 x u _ I7' r7 (step x H7 y7)
     rw[eE,eP,eW,eA,eX] at a1
     refine thn a1 fun _ s8 ⟨σ8,H8,I8,q8⟩=>?_
     have a2:=hif' _ s8 σ8 H8 _ I8 q8
     rw[eE,eP,eW,eA,eX] at a2
     refine thn a2 fun ok s9 ⟨H9,I9,q9⟩=>?_
     cases ok with
     | false=>exact again (pl:=[]) I9 q9
     | true =>
       have q9':zo1 s2.heap.objs.size telt N σ8 H9:=q9
       have a3:=he' _ s9 σ8 H9 _ I9 q9'
       rw[eE,eP,eW,eA,eX] at a3
       show wpAny _ _ _ _ _ _
       refine thn a3 fun y s10 ⟨v,H10,I10,r10,acc,hD,hl,n10⟩=>?_
       obtain ⟨hz,its,k,rv,hgD⟩:=I10.hok s2.heap.objs.size _ hD
       have hlen:=rv.length
       refine wpAny_list_append_plain (hsz:=by rw[List.size_toArray,<-hlen];exact Nat.le_of_lt hl) ⟨k,hgD⟩ fun h11 hl11 hs11=>?_
       obtain ⟨k',hk'⟩:=hl11
       have ep:(its.toArray.push y)=(its++[y]).toArray:=by simp
       rw[ep] at hk'
       have I11:Inv X' ([]++zr5 fp s7.heap) σ8 (upd H10 s2.heap.objs.size (.lst (acc++[v]))) { s10 with heap:=h11 } :=
         I10.write (x:=s2.heap.objs.size) (e:=s2.heap.objs.size) (t':=s10.toks) (by rw[hD];exact trivial) (.inl rfl) (fun b o hb e=>hs11.extBut b o hb e) ⟨_,hk'⟩ ⟨by rw[List.length_append];exact hl,its++[y],k',rv.append (.cons r10 .nil),hk'⟩
       exact again (pl:=[]) I11 n10
 exact codeAny_compStart_list loop (T.self _ 0 _ _ _ st4 loop)
theorem zE7 (hc:X.calm=true) (S:ze5 X.N X.env.scope scope N' ix) (hi:PI X tg iter wi)
   (hg:∀ cl C s0 H0 fp,PG (X.comp scope cl C N' s0 H0 fp) tg g) (hif:∀ cl C s0 H0 fp,PIfs (X.comp scope cl C N' s0 H0 fp) ifs tif) (he:∀ cl C s0 H0 fp,PE (X.comp scope cl C N' s0 H0 fp) elt telt)
   (hs:∀ x,foldedSetIterable iter X.env x=pure x:=by intro _;rfl):PE X (.ListComp elt [⟨tg,iter,ifs,0⟩] scope pos) (zK9 wi ix g tif telt):=by
 intro pins s σ H Q I h
 obtain ⟨cl,hcl,c1,c2⟩:=zu8 (scope:=scope) (env:=X.env) fun y hy hk=>I.ok.has y.1 (.inl (S.frees y hy hk))
 rw[eval_ListComp]
 refine wpAny_comprehension_free (use:=none) rfl hs hcl S.kind S.names (thn (hi pins s σ H _ I h) fun xv s1 h1=>thn h1 fun itv s2 h2=>?_)
 obtain ⟨it,fp,tn,J,H2,e,I2,T,st2,f2,body⟩:=h2
 subst e
 refine zz8 (RR:=fun acc C=>compPost (model X.prog X.w) X.A X.xe none (EP X pins σ Q) acc C) (Q:=Q) hc S c1 c2 hg hif he I2 T st2 f2 body ?_
 intro D C s3 s' H' m I' h1 h2 hm hf hok q
 obtain ⟨f0,f1,f2',f3,f4,f5⟩:=hf
 refine⟨m,hm,fun h' sb=>⟨.ref D,H',?_,rfl,q⟩⟩
 exact I'.turned (t':=s'.toks) (fun b o hb e=>sb.extBut b o hb e) f0 f1 f3 f4 f5
theorem zI5 {i:Nat} {y:Str} {py spos:Pos} (hc:X.calm=true) (S:ze5 X.N X.env.scope scope N' ix) (hi:PI X tg iter wi)
   (hg:∀ cl C s0 H0 fp,PG (X.comp scope cl C N' s0 H0 fp) tg g) (hif:∀ cl C s0 H0 fp,PIfs (X.comp scope cl C N' s0 H0 fp) ifs tif) (he:∀ cl C s0 H0 fp,PE (X.comp scope cl C N' s0 H0 fp) elt telt)
   (hN:X.N.Nodup) (hy:X.N[i]?=some y) (hx:X.env.scope.names.lookup y=some .local)
   (hsw:swapsWith (.ListComp elt [⟨tg,iter,ifs,0⟩] scope pos) (some (.Name y py)) spos.line X.env=pure true:=by rfl)
   (hs:∀ x,foldedSetIterable iter X.env x=pure x:=by intro _;rfl):PS X (.Assign [.Name y py] (.ListComp elt [⟨tg,iter,ifs,0⟩] scope pos) spos) (tAsg (zK9 wi ix g tif telt) (zl0 i)):=by
 intro pins s σ H D0 I h
 obtain ⟨cl,hcl,c1,c2⟩:=zu8 (scope:=scope) (env:=X.env) fun y hy hk=>I.ok.has y.1 (.inl (S.frees y hy hk))
 rw[exec_Assign_Name_used _ _ _ _ hsw]
 refine wpAny_bind (wpAny_standAt (wpAny_bind ?_))
 show wpAny _ _ (do let _ <-comprehension (.ListComp elt [⟨tg,iter,ifs,0⟩] scope pos) scope X.env _ (newList []) false (eval iter X.env) (some (assign (.Name y py) X.env))) _ _ s
 refine wpAny_bind (wpAny_mono (wpAny_comprehension_free (use:=some (assign (.Name y py) X.env)) (Q:=fun _ s'=>SP X pins D0 .next s') rfl hs hcl S.kind S.names
   (thn (hi pins s σ H _ I h) fun xv s1 h1=>thn h1 fun itv s2 h2=>?_)) (fun _ s' hq=>wpAny_pure (wpAny_pure hq)) fun _ _ e=>e)
 obtain ⟨it,fp,tn,J,H2,e,I2,T,st2,f2,body⟩:=h2
 subst e
 refine zz8 (RR:=fun acc C=>compPost (model X.prog X.w) X.A X.xe (some (assign (.Name y py) X.env)) (fun _ s'=>SP X pins D0 .next s') acc C) (Q:=fun v H1=>zl0 i v σ H1 D0.nx) hc S c1 c2 hg hif he I2 T st2 f2 body ?_
 intro D C s3 s' H' m I' h1 h2 hm hf hok q
 obtain ⟨f0,f1,f2',f3,f4,f5⟩:=hf
 show wpAny _ _ (assign (.Name y py) X.env (.ref D)) _ _ _
 refine wpAny_assign_Name (zw9 I' hN hy (.inl hx) (v:=.ref D) rfl (fun s4 I4 ⟨a,sb,ha⟩=>?_) (.inr hx))
 have hCa:C≠a:=by
   rcases ha with z | z
   . rw[z];exact f1
   . exact Ne.symm (f4 y a z)
 refine⟨m,hm.sameBut sb hCa,fun h' sb'=>⟨_,H',?_,q⟩⟩
 exact I4.turned (t':=s4.toks) (fun b o hb e=>sb'.extBut b o hb e) f0 f1 f3 f4 f5
end
end L2
/-! MORE RULES: count,isinstance,sum,a list unpacked,a tuple's methods -/
namespace L2
open PySem PySem.Spec PyProof.Rows
section
variable {X:Cx}
/-! ### count of ints -/
noncomputable def rCountL (K:PySem.W.Frag):V->List V->Hp->VK->Prop:=fun x vs H Q=>∃ (l:Addr) (ns:List Int) (k:Int),x = .ref l/\vs=[.int k]/\SqL K H l (ns.map V.int)/\Q (.int (ns.count k:Nat)) H
theorem zB7:MtR X "list.count" (rCountL X.K):=by
 intro pins s σ H x vs v us Q I rx rv h
 obtain ⟨l,ns,k,rfl,rfl,hS,q⟩:=h
 cases rx
 obtain ⟨u,rfl,t,rfl⟩:=rv.one
 obtain ⟨its,r,p,hz⟩:=I.list hS
 exact count_list_ints p.isList (zq5 r) ⟨.int (ns.count k:Nat),H,I.tok _,⟨_,rfl⟩,q⟩
noncomputable def rCountT (K:PySem.W.Frag):V->List V->Hp->VK->Prop:=fun x vs H Q=>∃ (l:Addr) (ns:List Int) (k:Int),x = .ref l/\vs=[.int k]/\SqT K H l (ns.map V.int)/\Q (.int (ns.count k:Nat)) H
theorem mt_countT:MtR X "tuple.count" (rCountT X.K):=by
 intro pins s σ H x vs v us Q I rx rv h
 obtain ⟨l,ns,k,rfl,rfl,hS,q⟩:=h
 cases rx
 obtain ⟨u,rfl,t,rfl⟩:=rv.one
 obtain ⟨its,r,⟨⟨cls,dd,data,sl⟩,ho,hc,n,hd⟩,hz⟩:=I.tuple hS
 simp only at hc hd
 subst hc hd
 have hi:=zq5 r
 refine call_meets PySem.F.slot_tuple_count ⟨_,ho,rfl⟩ PySem.F.entry_tuple_count (PySem.F.args_tuple_count_2 _ _) (SeqAt.tuple_countAt l its.toArray n dd sl (.int k t) (isInt k)) ⟨ho,fun y hy=>(eq_isInt k t hi y (by simpa using hy)).at _ _,?_⟩
 rw[show its.toArray.toList=its from rfl,countP_isInt k hi]
 exact⟨.int (ns.count k:Nat),H,I.tok _,⟨_,rfl⟩,q⟩
noncomputable def tTM (r:V->List V->Hp->VK->Prop) (to:TE) (t:TA):TE:=fun σ H Q=>to σ H fun x H1=>(∃ p ys,x = .ref p/\H1 p=some (.tup ys))/\t σ H1 fun xs H2=>r x xs H2 Q
variable {o e:Expr} {es:List Expr} {to:TE} {t:TA} {name:Str} {apos cpos:Pos} {id:String} {r:V->List V->Hp->VK->Prop}
theorem pe_tm (slot:Slot "tuple" name id) (hty:typeOf (.builtin id)=pure (.type "method_descriptor")) (hm:MtR X id r) (ho:PE X o to) (ha:PA X (e::es) t)
   (hbase:attributeBase o name X.env (eval o X.env)=eval o X.env:=by rfl)
   (hfew:((backTo cpos (starEach (e::es) X.env)).all (fun x=>!x.1) && (backToKw cpos (keywordEach [] X.env)).all (fun x=>x.1.isSome)
     && decide ((e::es).length+([]:List Keyword).length+(if ([]:List Keyword).isEmpty then 0 else 1)<30))=true:=by rfl)
   (hline:(apos.endLine == cpos.line)=true:=by rfl) (hs:starEach (e::es) X.env=(false,eval e X.env)::starEach es X.env:=by rfl) (hplain:(backTo cpos (starEach es X.env)).any (·.1)=false:=by rfl) :
   PE X (.Call (.Attribute o name apos) (e::es) [] cpos) (tTM r to t):=by
 intro pins s σ H Q I h
 refine wpAny_Call_method_late hbase hfew hline rfl (thn (ho pins s σ H _ I h) fun v s1 ⟨x,H1,I1,r1,⟨p,ys,ex,hp⟩,q1⟩=>?_)
 subst ex
 cases r1
 obtain ⟨_,its,_,ob,eo,ec,ed,_⟩:=I1.hok p _ hp
 refine⟨"tuple",id,PySem.F.plainAttrs_tuple,slot,hty,⟨ob,eo,ec⟩,fun a ea=>by cases ea;exact⟨ob,eo,ed⟩,?_⟩
 have hA:=ha cpos pins s1 σ H1 _ I1 q1
 rw[hs] at hA ⊢
 refine Calls.callWith_builtin (by show (false || (backTo cpos (starEach es X.env)).any (·.1))=false;rw[hplain]<;>rfl) (Calls.evalArgs_plain ?_)
 exact thn hA fun us s2 ⟨vs,H2,I2,r2,q2⟩=>hm pins s2 σ H2 (.ref p) vs _ us Q I2 rfl r2 q2
/-! ### isinstance -/
inductive ClsV:V->Value->Prop where
 | ty (n:String):ClsV (.ty n) (.type n)
 | own (C:Addr):ClsV (.ref C) (.ref C)
noncomputable def rIsi (K:PySem.W.Frag):List V->Hp->VK->Prop:=fun xs H Q=>∃ x cv t c b,xs=[x,cv]/\ClsV cv c/\TyOf K H x t/\PySem.W.kitOne K t c=some b/\Q (.bl b) H
theorem zp2:zn7 X (.builtin "isinstance") (rIsi X.K):=by
 intro pins s σ H xs us Q I r h
 obtain ⟨x,cv,t,c,b,rfl,hc,ty,e,q⟩:=h
 obtain ⟨u,w',rfl,ru,rw'⟩:=zM4 r
 have ew:w'=c:=by
   cases hc with
   | ty n=>exact rw'
   | own C=>exact rw'
 subst ew
 exact isinst_ok I ru ty e fun tk=>⟨.bl b,H,I.tok tk,rfl,q⟩
/-! ### a list unpacked -/
theorem zB8 {prog:Program} {w:World} {A:Around} {E:Value->Shared->Prop} {it t:Addr} {items:Array Value} (hne:t≠it):∀ (n i:Nat) (s:Shared) (Q:List Value->Shared->Prop),s.heap.IsListIter it t i->s.heap.IsList t items->i+n<=items.size →
   (∀ h',h'.IsListIter it t (i+n)->Heap.SameBut it s.heap h'->Q ((items.toList.drop i).take n) { s with heap:=h' })->wpAny (model prog w) A (draw (.ref it) n) Q E s
 | 0,i,s,Q,hit,_,_,hQ=>by
   show wpAny _ _ (pure []) Q E s
   exact wpAny_pure (by simpa using hQ s.heap hit (Heap.SameBut.refl ..))
 | n+1,i,s,Q,hit,ht,hle,hQ=>by
   have hlt:i<items.size:=by omega
   show wpAny _ _ (pyNext (.ref it) >>= _) Q E s
   refine wpAny_bind (wpAny_pyNext_list_item hit ht (x:=items[i]) (by simp[hlt]) fun h1 hit1 hs1=>?_)
   refine wpAny_bind (wpAny_holding (zB8 hne n (i+1) _ _ hit1 (ht.extBut hs1.extBut hne) (by omega) fun h2 hit2 hs2=>wpAny_pure ?_))
   have hd:items.toList.drop i=items[i]::items.toList.drop (i+1):=by simp[List.drop_eq_getElem_cons,hlt]
   have:=hQ h2 (by rw[show i+(n+1)=i+1+n by omega];exact hit2) (hs1.trans hs2)
   rw[hd,List.take_succ_cons] at this
   exact this
theorem unpackItems_list {prog:Program} {w:World} {A:Around} {E:Value->Shared->Prop} {s:Shared} {t:Addr} {items:Array Value} {Q:List Value->Shared->Prop} (hh:A.handled=none) (ht:s.heap.IsList t items)
   (hQ:∀ h',Heap.ExtBut s.heap.objs.size s.heap h'->Q items.toList { s with heap:=h' }):wpAny (model prog w) A (unpackItems (.ref t) items.size none) Q E s:=by
 have hlt:t≠s.heap.objs.size:=by obtain ⟨o,ho,_⟩:=ht;exact Nat.ne_of_lt (Heap.lt_size ho)
 unfold unpackItems
 refine wpAny_bind ?_
 . unfold notIterableAtAll
   refine wpAny_bind (wpAny_specialOf ht.typeIs slot_list_iter.lookup ?_)
   refine wpAny_pure ?_
   simp only[Bool.false_eq_true,if_false]
   refine wpAny_bind (wpAny_holding (wpAny_pyIter_list ht ?_))
   refine wpAny_bind (wpAny_holding (zB8 hlt items.size 0 _ _ ⟨_,Heap.get?_push_size _ rfl,rfl,rfl⟩ (ht.push _) (by omega) fun h1 hit1 hs1=>?_))
   have hall:List.take items.size (List.drop 0 items.toList)=items.toList:=by
     rw[List.drop_zero];exact List.take_of_length_le (by simp)
   rw[hall]
   rw[if_neg (by simp)]
   have ht1:h1.IsList t items:=(ht.push _).extBut hs1.extBut hlt
   refine wpAny_bind (wpAny_holding (wpAny_pyNext_list_end hh hit1 ht1 (by simp) fun h2 he2=>?_))
   simp only[Option.isSome_none,Bool.false_eq_true,if_false]
   refine wpAny_pure (hQ h2 fun b o hb e=>he2 b o hb (hs1.extBut b o hb (Heap.get?_push_of_some _ e)))
noncomputable def gLst (K:PySem.W.Frag) (n:Nat) (t:TGs):TG:=fun v σ H Q=>∃ a xs,v = .ref a/\SqL K H a xs/\xs.length=n/\t xs σ H Q
theorem zL0 {es:List Expr} {k:Nat} {t:TGs} {n:Nat} {pos:Pos} (hc:X.calm=true) (h:PGs X es t)
   (hn:(assignEach es X.env).length=n:=by rfl) (hst:(assignEach es X.env).findIdx? (·.1)=none:=by rfl):PG X (.Tuple es k pos) (gLst X.K n t):=by
 intro pins s σ H v u Q I r hw
 obtain ⟨a,xs,e1,hq,hl,hw⟩:=hw
 subst e1
 cases r
 obtain ⟨its,rv,ht,hz⟩:=I.list hq
 have hln:=rv.length
 rw[assign_Tuple]
 refine wpAny_bind (wpAny_standAt ?_)
 unfold unpack
 have esz:(assignEach es X.env).length=its.toArray.size:=by rw[hn,<-hl,hln,List.size_toArray]
 rw[esz,hst]
 refine wpAny_bind (wpAny_holding (unpackItems_list (I.ok.hd hc) ht.isList fun h' hx=>?_))
 have I1:Inv X pins σ H { s with heap:=h' }:=I.kept (t':=s.toks) fun b o e=>hx b o (Nat.ne_of_lt (Heap.lt_size e)) e
 exact h pins _ σ H xs _ Q I1 (by simpa using rv) hw
/-! ### sum of a list of ints -/
/-! ### a list or a tuple walked -/
noncomputable def iSeq (K:PySem.W.Frag) (tl:TE):TI:=fun σ H R=>tl σ H fun x H1=>∃ a,x = .ref a/\(((∃ xs,SqL K H1 a xs)/\R (Itl K a) H1)\/((∃ xs,SqT K H1 a xs)/\R (Itt K a) H1))
theorem pi_seq {tg l:Expr} {tl:TE} (hl:PE X l tl):PI X tg l (iSeq X.K tl):=by
 intro pins s σ H R I h
 refine thn (hl pins s σ H _ I h) fun v s1 ⟨x,H1,I1,r1,q1⟩=>?_
 obtain ⟨a,e,q⟩:=q1
 subst e
 cases r1
 rcases q with ⟨⟨xs,hq⟩,q⟩ | ⟨⟨xs,hq⟩,q⟩
 . obtain ⟨its,rv,p,hz⟩:=I1.list hq
   refine wpAny_pyIter_list p.isList ?_
   refine⟨s1.heap.objs.size,[s1.heap.objs.size],_,_,H1,rfl,I1.kept (t':=s1.toks) fun b o e=>Heap.get?_push_of_some _ e,zB0 a _,⟨_,Heap.get?_push_size _ rfl,rfl,rfl⟩,fun b hb=>?_,q⟩
   have e:b=s1.heap.objs.size:=by simpa using hb
   subst e
   exact I1.fpOk (Nat.le_refl _) (I1.hok.fresh (Nat.le_refl _))
 . obtain ⟨its,rv,p,hz⟩:=I1.tuple hq
   refine wpAny_pyIter_tuple (show s1.heap.IsTuple a its.toArray from p) ?_
   refine⟨s1.heap.objs.size,[s1.heap.objs.size],_,_,H1,rfl,I1.kept (t':=s1.toks) fun b o e=>Heap.get?_push_of_some _ e,zz5 a _,⟨_,Heap.get?_push_size _ rfl,rfl,rfl⟩,fun b hb=>?_,q⟩
   have e:b=s1.heap.objs.size:=by simpa using hb
   subst e
   exact I1.fpOk (Nat.le_refl _) (I1.hok.fresh (Nat.le_refl _))
/-! ### the text by places -/
noncomputable def stE:Stmt->Expr
 | .Assign _ v _=>v
 | .Return (some v) _=>v
 | .Expr v _=>v
 | _=>.Constant .none 0 ⟨0,0,0,0⟩
noncomputable def zL1 (e:Expr) (j:Nat):Expr:=match e with
 | .Call _ as _ _=>as.getD j (.Constant .none 0 ⟨0,0,0,0⟩)
 | _=>.Constant .none 0 ⟨0,0,0,0⟩
noncomputable def zt5:Expr->Scope
 | .ListComp _ _ sc _=>sc
 | _=>{ kind:=.function,names:=[],isGenerator:=false,isCoroutine:=false }
noncomputable def stAt (l:List Stmt) (i:Nat):Stmt:=l.getD i (.Pass ⟨0,0,0,0⟩)
noncomputable def stBody:Stmt->List Stmt
 | .If _ b _ _=>b
 | .For _ _ b _ _=>b
 | .While _ b _ _=>b
 | _=>[]
end
end L2
/-! SMALL WORDS for readings -/
namespace L2
open PySem PySem.Spec PyProof.Rows
theorem iteB {c:Bool} {A B:Prop} (e:c=false) (h:B):if c=true then A else B:=by
 subst e;exact iteF h
theorem iteA {c:Bool} {A B:Prop} (e:c=true) (h:A):if c=true then A else B:=by
 subst e;exact iteT h
theorem fl0 {f:Str} {v:V}:(putF f v []).length<=1:=zl1 f v []
theorem flS {f:Str} {v:V} {fs:List (Str×V)} {k:Nat} (h:fs.length<=k):(putF f v fs).length<=k+1:=Nat.le_trans (zl1 f v fs) (Nat.succ_le_succ h)
theorem zz9 {fs:List (Str×V)} {k:Nat} (h:fs.length<=k) (hk:k<1000:=by decide):fs.length<1000:=Nat.lt_of_le_of_lt h hk
noncomputable def zk0 (p:Addr) (H H':Hp):Prop:=∀ b o,H b=some o->b≠p->H' b=some o
theorem Same.upd {H:Hp} {l:Addr} {o:HO} (h:H l=none):Same H (upd H l o):=fun b u e=>by
 rw[za7 (zb8 e h)];exact e
theorem Same.updT {H H1:Hp} {l:Addr} {o:HO} (s:Same H H1) (h:H1 l=none):Same H (L2.upd H1 l o):=s.trans (Same.upd h)
theorem Same.put {H H1:Hp} {l:Addr} {o:HO} (s:Same H H1) (h:H l=none):Same H (L2.upd H1 l o):=fun b u e=>by
 rw[za7 (zb8 e h)];exact s b u e
theorem upd_id {H:Hp} {m:Addr} {o:HO} (h:H m=some o):L2.upd H m o=H:=by
 funext b
 by_cases hb:b=m
 . subst hb;rw[za4,h]
 . rw[za7 hb]
/-! ### rules whose reading names the written part: for a comprehension's block -/
theorem ix_listK {X:Cx} (K:PySem.W.Frag) (h:X.K=K):IxR X (rIxL K):=h▸zb7
theorem zI6 {X:Cx} (K:PySem.W.Frag) (h:X.K=K):IxR X (rIxT K):=h▸zK5
/-! ### ints in a list -/
theorem zA0 {xs:List Int} {i:Nat} {v:V} (h:(xs.map V.int)[i]?=some v):∃ z,v = .int z/\xs[i]?=some z:=by
 rw[List.getElem?_map] at h
 cases e:xs[i]? with
 | none=>rw[e] at h;cases h
 | some z=>rw[e] at h;exact⟨z,(Option.some.inj h).symm,rfl⟩
theorem zy8 {xs:List Int} {j:Nat} {z:Int} (h:xs[j]?=some z):atI (xs.map V.int) (j:Int)=some (V.int z):=zo0 (by rw[List.getElem?_map,h];rfl)
theorem zr7 {xs:List Int} {i:Int} (h0:0<=i) (h1:i<xs.length):atI (xs.map V.int) i=some (.int (xs.getD i.toNat 0)):=by
 obtain ⟨j,rfl⟩:∃ j:Nat,i=j:=⟨i.toNat,by omega⟩
 have hj:j<xs.length:=by omega
 rw[zy8 (z:=xs[j]) (by simp[hj])]
 simp[hj]
theorem zj6 {a b:Int}:decide (V.int a=V.int b)=decide (a=b):=by
 by_cases h:a=b
 . subst h;simp
 . rw[decide_eq_false h,decide_eq_false];intro e;cases e;exact h rfl
/-! ### comprehensions that map -/
theorem comp_map {J:It} {H1:Hp} {D:Addr} {n:Nat} {x:Nat->V} {f:Nat->V} {j:Nat} {σc:St} {telt:TE} {Q:Hp->Prop} (hn:n<=sizeLine)
   (go:∀ i acc,i<n->J.go i (upd H1 D (.lst acc))) (st:∀ acc,J.stop n (upd H1 D (.lst acc))) (yl:∀ i acc v H',i<n->J.yld i (upd H1 D (.lst acc)) v H'->H'=upd H1 D (.lst acc)/\v=x i)
   (el:∀ i acc R,i<n->R (f i) (upd H1 D (.lst acc))->telt (σc.set j (some (x i))) (upd H1 D (.lst acc)) R) (q:Q (upd H1 D (.lst ((List.range n).map f)))) :
   ∃ W:Nat->Nat->St->Hp->Prop,(∃ m,W 0 m σc (upd H1 D (.lst []))) ∧
     ∀ i m σ' H',W i m σ' H'->(J.stop i H'/\Q H')\/(J.go i H'/\∃ N:St->Hp->Prop,(∀ σ2 H2,N σ2 H2->∃ m',m'<m/\W (i+1) m' σ2 H2) ∧
       ∀ v H2,J.yld i H' v H2->zl0 j v σ' H2 fun σ3 H3=>zu4 σ3 H3 fun b H4=>if b=true then zo1 D telt N σ3 H4 else N σ3 H4):=by
 refine⟨fun i m σ' H'=>m=n-i/\i<=n/\(∀ v,σ'.set j (some v)=σc.set j (some v))/\H'=upd H1 D (.lst ((List.range i).map f)),⟨n,by simp,Nat.zero_le _,fun _=>rfl,rfl⟩,?_⟩
 rintro i m σ' H' ⟨rfl,hi,hσ,rfl⟩
 by_cases hlt:i<n
 . refine .inr ⟨go i _ hlt,fun σ2 H2=>(∀ v,σ2.set j (some v)=σc.set j (some v))/\H2=upd H1 D (.lst ((List.range (i+1)).map f)),fun σ2 H2 ⟨h1,h2⟩=>⟨n-(i+1),by omega,rfl,hlt,h1,h2⟩,fun v H2 y=>?_⟩
   obtain ⟨rfl,rfl⟩:=yl i _ v H2 hlt y
   dsimp only[zl0,zu4]
   refine iteT ?_
   dsimp only[zo1]
   rw[hσ]
   refine el i _ _ hlt ⟨_,za4,?_,?_,?_⟩
   . rw[List.length_map,List.length_range];omega
   . intro v;simp
   . rw[zi7,List.range_succ,List.map_append];rfl
 . have e:i=n:=by omega
   subst e
   exact .inl ⟨st _,q⟩
theorem zE8 {K:PySem.W.Frag} {H:Hp} {a D:Addr} {xs:List V} {o:HO} (h:SqL K H a xs) (n:H D=none):SqL K (upd H D o) a xs:=(Same.upd n).seq h
theorem map_range_get {α β:Type} (xs:List α) (d:α) (f:α->β):(List.range xs.length).map (fun i=>f (xs.getD i d))=xs.map f:=by
 apply List.ext_getElem
 . simp
 . intro i h1 h2
   simp at h1 h2
   simp[h1]
theorem comp_list {K:PySem.W.Frag} {H1:Hp} {a D:Addr} {xs:List V} {f:V->V} {j:Nat} {σc:St} {telt:TE} {Q:Hp->Prop} (h:SqL K H1 a xs) (hD:H1 D=none) (hn:xs.length<=sizeLine)
   (el:∀ x acc R,x∈xs->R (f x) (upd H1 D (.lst acc))->telt (σc.set j (some x)) (upd H1 D (.lst acc)) R) (q:Q (upd H1 D (.lst (xs.map f)))) :
   ∃ W:Nat->Nat->St->Hp->Prop,(∃ m,W 0 m σc (upd H1 D (.lst []))) ∧
     ∀ i m σ' H',W i m σ' H'->((Itl K a).stop i H'/\Q H')\/((Itl K a).go i H'/\∃ N:St->Hp->Prop,(∀ σ2 H2,N σ2 H2->∃ m',m'<m/\W (i+1) m' σ2 H2) ∧
       ∀ v H2,(Itl K a).yld i H' v H2->zl0 j v σ' H2 fun σ3 H3=>zu4 σ3 H3 fun b H4=>if b=true then zo1 D telt N σ3 H4 else N σ3 H4):=by
 refine comp_map (J:=Itl K a) (n:=xs.length) (x:=fun i=>xs.getD i .non) (f:=fun i=>f (xs.getD i .non)) hn (fun i acc hi=>⟨xs,xs[i],zE8 h hD,by simp[hi]⟩) (fun acc=>⟨xs,zE8 h hD,Nat.le_refl _⟩) (fun i acc v H' hi y=>?_) (fun i acc R hi r=>?_) ?_
 . obtain ⟨e,y⟩:=y
   have:=y xs (zE8 h hD)
   exact⟨e,by rw[List.getD_eq_getElem?_getD,this];rfl⟩
 . refine el _ acc R ?_ r
   rw[List.getD_eq_getElem?_getD,List.getElem?_eq_getElem hi]
   exact List.getElem_mem hi
 . rw[map_range_get];exact q
end L2
/-! ZIP of two tuples,SUM of a list of ints -/
namespace L2
open PySem PySem.Spec PyProof.Rows
section
variable {prog:Program} {w:World} {A:Around} {E:Value->Shared->Prop} {s:Shared}
end
/-! ### a zip walked -/
section
variable {X:Cx} {es:List Expr} {k0:Nat} {tp:Pos}
/-! ### sum -/
end
end L2
/-! EXCEPTIONS,1: an own exception class (under ValueError,or under an own class under it) is called;its __init__ stores attributes -/
namespace L2
open PySem PySem.Spec PyProof.Rows
noncomputable abbrev bmV:List Value:=[.type "ValueError",.type "Exception",.type "BaseException",.type "object"]
noncomputable def MroV (bm:List Value):Prop:=bm=bmV\/∃ D:Addr,bm = .ref D::bmV
theorem MroV.has {bm:List Value} (m:MroV bm) {T:String} {b:Bool} (h:bmV.contains (.type T)=b):bm.contains (.type T)=b:=by
 rcases m with rfl | ⟨D,rfl⟩
 . exact h
 . rw[List.contains_cons,h];rfl
theorem MroV.self {bm:List Value} (m:MroV bm) (C:Addr) {T:String} {b:Bool} (h:bmV.contains (.type T)=b):(Value.ref C::bm).contains (.type T)=b:=by
 rw[List.contains_cons,m.has h];rfl
theorem MroV.passes {bm:List Value} (m:MroV bm) (v:Value):refuseLoop v "__setattr__" bm=pure ():=by
 rcases m with rfl | ⟨D,rfl⟩
 . exact PySem.F.store_ValueError.passes v
 . rw[refuseLoop_ref];exact PySem.F.store_ValueError.passes v
section
variable {prog:Program} {w:World} {A:Around} {E:Value->Shared->Prop} {R:Result->Shared->Prop} {h:Heap} {g:Array GenState} {d:Drawn} {t:Nat} {os:OsState}
variable {nm q:Str} {C N:Addr} {bs bm:List Value} {hdct:Bool} {sn:List Str} {sub:List Value} {ab:Bool} {col:Option Bool} {dd:Option Addr} {k0 k1 k2 k3 k5:Option Value}
theorem xnew_check {M:Model} (m:MroV bm) {rest:List Value} {Q:Unit->Shared->Prop} (hC:h.get? C=some (excClassObj nm q C N bs bm hdct sn sub ab col dd k0 k1 k2 k3 k5 "ValueError.__new__"))
   (hq:Q () ⟨h,g,d,t,os⟩):wpAny M A (checkBuiltinCall "ValueError.__new__" ⟨.ref C::rest,[]⟩) Q E ⟨h,g,d,t,os⟩:=by
 have hin:=m.self C PySem.F.excBase_ValueError.hasB
 have hst:=PySem.F.excBase_ValueError.noStar
 simp only[checkBuiltinCall,PySem.F.excBase_ValueError.newKind,PySem.F.excBase_ValueError.newSplit,PySem.F.excBase_ValueError.newRow]
 repeat (first | refine wpAny_loadPart_at hC ?_ | (refine wpAny_isSubtype_exc hC ?_;rw[hin]) | refine wpAny_staticBase_exc hC ?_ | refine wpAny_madeBy_exc hC ?_ | simp only[bne_self_eq_false,Bool.false_eq_true,if_false] | wp_step)
 exact hq
theorem xnew_code (m:MroV bm) {rest:List Value} (hC:h.get? C=some (excClassObj nm q C N bs bm hdct sn sub ab col dd k0 k1 k2 k3 k5 "ValueError.__new__"))
   (hq:R (.ok (.ret (.ref (h.objs.size+1)))) ⟨(h.push { cls:=.type "tuple",data:=.seq rest.toArray }).push { cls:=.ref C,data:=.fields #[.ref h.objs.size,.none,.none,.none,.bool false,.none] },g,d,t,os⟩)
   (hrest:rest.length<=sizeLine):codeAny (model prog w) A (.builtin "ValueError.__new__" ⟨.ref C::rest,[]⟩) R ⟨h,g,d,t,os⟩:=by
 have hends:=PySem.F.excBase_ValueError.ends
 have c1:=m.self C PySem.F.excBase_ValueError.hasB
 have c2:=m.self C PySem.F.excBase_ValueError.noAttr
 have c3:=m.self C PySem.F.excBase_ValueError.noName
 refine codeAny_builtinAt PySem.F.excBase_ValueError.entry ?_;unfold Builtin.«BaseException.__new__»
 refine PySem.wpAt_bind ?_;show PySem.wpAt _ _ _ (stack >>= _) _ _ _
 refine PySem.wpAt_bind (PySem.wpAt_stack fun p below=>PySem.wpAt_of_wpAny ?_);wp_walk
 refine PySem.wpAt_of_wpAny ?_;rw[PySem.F.excBase_ValueError.owner]
 repeat (first | with_reducible refine wpAny_madeHere_exc PySem.F.excBase_ValueError.canon hC ?_ | with_reducible refine wpAny_loadPart_at hC ?_ | (with_reducible refine wpAny_isSubtype_exc hC ?_;first | rw[c1] | rw[c2] | rw[c3]) | wp_step)
 show R _ _;rw[Heap.size_push];exact hq
theorem xcall {K:PySem.W.Frag} (X:K.In h) (m:MroV bm) {rest:List Value} {fI:Addr} {Q:Value->Shared->Prop} (hC:h.get? C=some (excClassObj nm q C N bs bm hdct sn sub ab col dd k0 k1 k2 k3 k5 "ValueError.__new__"))
   (hi:PySem.W.findIn K (.ref C) "__init__" = some (some (.ref fI))) (hf:PySem.W.isFn K (.ref fI)=true) (hrest:rest.length<=sizeLine)
   (hq:wpAny (model prog w) (A.under (.builtin "type.__call__" ⟨.ref C::rest,[]⟩)) (call (.ref fI) (.ref (h.objs.size+1)::rest)) (fun r s'=>r = .none/\Q (.ref (h.objs.size+1)) s') E
     ⟨(h.push { cls:=.type "tuple",data:=.seq rest.toArray }).push { cls:=.ref C,data:=.fields #[.ref h.objs.size,.none,.none,.none,.bool false,.none] },g,d,t,os⟩) :
   wpAny (model prog w) A (call (.ref C) rest) Q E ⟨h,g,d,t,os⟩:=by
 have f1:=tc_lookup
 have f2:=tc_bind (.ref C)
 have hT:(⟨h,g,d,t,os⟩:Shared).TypeIs (.ref C) "type":=⟨_,hC,rfl⟩
 refine wpAny_call (codeAny_of_tree ?_);show wpAny _ _ (callAny (.ref C) _) _ _ _
 repeat (any_goals (first | assumption | with_reducible refine wpAny_loadPart_at hC ?_ | wp_step))
 refine⟨rfl,?_⟩
 refine codeAny_call_builtin_at (Code.quiet_builtin _ (by decide +kernel)) entry_typeCall (wpAny_check_type_call_sub hC ?_)
 repeat (first | with_reducible refine wpAny_loadPart_at hC ?_ | with_reducible refine wpAny_madeBy_exc hC ?_ | wp_step)
 refine codeAny_call_builtin_code (Code.quiet_builtin _ PySem.F.excBase_ValueError.quiet) (xnew_check m hC (xnew_code m hC ?_ hrest))
 show wpAny _ _ _ _ _ _
 have kp:∀ b o,h.get? b=some o->((h.push { cls:=.type "tuple",data:=.seq rest.toArray }).push { cls:=.ref C,data:=.fields #[.ref h.objs.size,.none,.none,.none,.bool false,.none] }).get? b=some o:=fun b o e=>Heap.get?_push_of_some _ (Heap.get?_push_of_some _ e)
 have hC1:=kp _ _ hC
 have X1:K.In ((h.push { cls:=.type "tuple",data:=.seq rest.toArray }).push { cls:=.ref C,data:=.fields #[.ref h.objs.size,.none,.none,.none,.bool false,.none] }):=X.keeps kp
 have hg:((h.push { cls:=.type "tuple",data:=.seq rest.toArray }).push { cls:=.ref C,data:=.fields #[.ref h.objs.size,.none,.none,.none,.bool false,.none] }).get? (h.objs.size+1)=some { cls:=.ref C,data:=.fields #[.ref h.objs.size,.none,.none,.none,.bool false,.none] }:=by heap_get
 have hcc:(Value.ref C::bm).contains (.ref C)=true:=by simp
 unfold isInstance
 repeat (first | with_reducible refine wpAny_loadPart_at hg ?_ | wp_step)
 refine wpAny_isSubtype_exc hC1 ?_;rw[hcc]
 repeat (first | with_reducible refine wpAny_loadPart_at hg ?_ | wp_step)
 show wpAny _ _ (typeLookup (.ref C) _) _ _ _
 refine PySem.W.looks_findIn X1 hi _ _ _ _ (fun _ _ e=>e) ?_
 refine wpAny_holding (wpAny_bind ?_);unfold bindSpecial
 refine wpAny_bind (PySem.W.looks_typeIn X1 (beq_iff_eq.mp hf) _ _ _ _ (fun _ _ e=>e) ?_)
 rw[if_pos (by decide)]
 refine wpAny_pure (wpAny_bind (wpAny_mono hq (fun r s' hr=>?_) fun _ _ x=>x))
 obtain ⟨rfl,hQ⟩:=hr
 wp_walk
 exact hQ
end
end L2
/-! EXCEPTIONS,2: an attribute stored on an exception -/
namespace L2
open PySem PySem.Spec PyProof.Rows
open PySem.Builtin PySem.Builtin.ObjectAttr
section
variable {prog:Program} {w:World} {A:Around} {E:Value->Shared->Prop} {h:Heap} {g:Array GenState} {d:Drawn} {t:Nat} {os:OsState}
variable {nm q:Str} {C N x:Addr} {bs bm:List Value} {sn:List Str} {sub:List Value} {ab:Bool} {col:Option Bool} {dd:Option Addr} {k0 k1 k2 k3 k5:Option Value} {newId:String} {mA:Str->Option Value} {name:Str} {v:Value} {K:PySem.W.Frag}
theorem xsa_check {M:Model} (m:MroV bm) {o:Obj} {nv:Value} {Q:Unit->Shared->Prop} (hC:h.get? C=some (excClassObj nm q C N bs bm true sn sub ab col dd k0 k1 k2 k3 k5 newId)) (hx:h.get? x=some o) (hc:o.cls = .ref C) (hq:Q () ⟨h,g,d,t,os⟩) :
   wpAny M A (checkBuiltinCall "object.__setattr__" ⟨[.ref x,nv,v],[]⟩) Q E ⟨h,g,d,t,os⟩:=by
 have hin:=m.self C PySem.F.store_ValueError.hasOwner
 have ha:=PySem.F.store_ValueError.args (.ref x) nv v
 simp only[checkBuiltinCall,PySem.F.store_ValueError.kind,PySem.F.store_ValueError.split]
 refine wpAny_bind ?_;unfold isInstance
 repeat (first | (with_reducible refine wpAny_loadPart_at hx ?_;rw[hc]) | (with_reducible refine wpAny_isSubtype_exc hC ?_;rw[hin]) | wp_step)
 exact hq
theorem xsa_entry (X:K.In h) (m:MroV bm) {tk:Tok} {Q:PySem.Fin->Shared->Prop} {ns:List Str} (hC:h.get? C=some (excClassObj nm q C N bs bm true sn sub ab col dd k0 k1 k2 k3 k5 newId)) (hna:PySem.W.findIn K (.ref C) name=some none) (hxC:x≠C) (I:h.Inst x C mA)
   (hq:∀ h' tk',h'.Inst x C (fun y=>if y=name then some v else mA y) →
     (∀ b o,b≠x->(∀ o0 dx,h.get? x=some o0->o0.dict=some dx->b≠dx)->h.get? b=some o->h'.get? b=some o) →
     (∀ o0,h.get? x=some o0->∃ o1,h'.get? x=some o1/\o1.cls=o0.cls/\o1.data=o0.data/\o1.slots=o0.slots/\(∀ dx,o0.dict=some dx->o1.dict=some dx)/\(o0.dict=none->o1.dict=some h.objs.size))->Q (.done (.ret .none)) ⟨h',g,d,tk',os⟩) (hw:Within mA ns) (hsz:ns.length<=sizeLine) :
   wpAny (model prog w) A (Builtin.«object.__setattr__» ⟨[.ref x,.str name tk,v],[]⟩) Q E ⟨h,g,d,t,os⟩:=by
 obtain ⟨o,hx,hc,hnc,hd⟩:=I
 have hpass:=m.passes (.ref x)
 have lk:∀ (A:Around) (Q:Option Value->Shared->Prop) (E:Value->Shared->Prop),Q none ⟨h,g,d,t,os⟩->wpAny (model prog w) A (typeLookup (.ref C) name) Q E ⟨h,g,d,t,os⟩:=fun A Q E q=>PySem.W.looks_findIn X hna A Q E _ (fun _ _ e=>e) q
 unfold Builtin.«object.__setattr__»
 repeat (first | rw[refuse_eq] | (rw[refuseLoop_ref,hpass]) | (with_reducible refine wpAny_loadPart_at hx ?_;rw[hc]) | with_reducible refine wpAny_mroOf_exc hC ?_ | with_reducible refine lk _ _ _ ?_ | wp_step)
 rcases hd with ⟨hdn,hmA⟩ | ⟨dx,hdx,hne,hns⟩
 . rw[hdn,if_neg (by simp[typeHasDict])]
   split
   . rename_i hcd
     cases hcd
   split
   . rename_i c hcd
     exact absurd hcd (hnc c)
   . have hx1:(h.push { cls:=.type "dict",data:=.dict #[] }).get? x=some o:=Heap.get?_push_of_some _ hx
     have hxs:x≠h.objs.size:=Nat.ne_of_lt (Heap.lt_size hx)
     refine wpAny_bind (wpAny_alloc' (wpAny_bind (wpAny_update' hx1 (wpAny_pure ?_))))
     have hgd:((h.push { cls:=.type "dict",data:=.dict #[] }).update x fun o=>{ cls:=o.cls,dict:=some h.objs.size,data:=o.data,slots:=o.slots }).get? h.objs.size=some { cls:=.type "dict",data:=.dict #[] }:=(Heap.get?_update_ne _ _ _ _ hxs.symm).trans (Heap.get?_push_at rfl rfl)
     have hnd:((h.push { cls:=.type "dict",data:=.dict #[] }).update x fun o=>{ cls:=o.cls,dict:=some h.objs.size,data:=o.data,slots:=o.slots }).Ns h.objs.size (fun _=>none):=⟨_,#[],_,hgd,rfl,fun e he=>absurd he (by simp),fun _=>rfl⟩
     show wpAny _ _ (storeInDict h.objs.size (.str name tk) name v) _ _ _
     unfold storeInDict newKeyGuard
     refine wpAny_bind (wpAny_pure (wpAny_bind (wpAny_nsSet1 (Heap.Ns1.of_empty hnd) fun h' hn' hs=>?_)))
     obtain ⟨oD,esD,epD,hoD,hdD,hcD⟩:=hn'.count (Within.cons name v Within.nil)
     refine wpAny_bind (wpAny_lookBehind hoD (by rw[hdD];exact pastItsLine_dict (Nat.le_trans hcD (by rw[List.length_cons,List.length_nil,sizeLine_eq];omega))) ?_)
     wp_walk
     have hx':h'.get? x=some { cls:=o.cls,dict:=some h.objs.size,data:=o.data,slots:=o.slots }:=by
       refine (hs.2 x hxs).trans (Heap.get?_update_self _ hx1 ?_)
       have hfr:=(Heap.get?_some_iff.mp hx).2
       obtain ⟨oc,od,odt,osl⟩:=o
       cases odt<;>first | rfl | exact hfr
     refine hq h' _ ⟨_,hx',hc,hnc,.inr ⟨h.objs.size,rfl,hxs.symm,?_⟩⟩ (fun b ob hbx _ hb=>?_) (fun o0 h0=>?_)
     . obtain ⟨o',es,ep,e1,e2,e3,eu,e4⟩:=hn'
       exact⟨o',es,ep,e1,e2,e3,eu,fun y=>by rw[e4 y];by_cases hy:y=name<;>simp[hy,hmA]⟩
     . exact (hs.2 b (Nat.ne_of_lt (Heap.lt_size hb))).trans ((Heap.get?_update_ne _ _ _ _ hbx).trans (Heap.get?_push_of_some _ hb))
     . obtain rfl:o=o0:=Option.some.inj (hx.symm.trans h0)
       exact⟨_,hx',rfl,rfl,rfl,fun dx e=>(by rw[hdn] at e;cases e),fun _=>rfl⟩
 . rw[hdx]
   refine wpAny_pure ?_
   show wpAny _ _ (storeInDict dx (.str name tk) name v) _ _ _
   unfold storeInDict newKeyGuard
   refine wpAny_bind (wpAny_pure (wpAny_bind (wpAny_nsSet1 hns fun h' hn' hs=>?_)))
   obtain ⟨oD,esD,epD,hoD,hdD,hcD⟩:=hn'.count (Within.cons name v hw)
   refine wpAny_bind (wpAny_lookBehind hoD (by rw[hdD];exact pastItsLine_dict (Nat.le_trans hcD (by rw[List.length_cons];omega))) ?_)
   wp_walk
   refine hq h' _ ⟨o,(hs.2 x hne.symm).trans hx,hc,hnc,.inr ⟨dx,hdx,hne,hn'⟩⟩ (fun b ob _ hbd hb=>(hs.2 b (hbd o dx hx hdx)).trans hb) (fun o0 h0=>?_)
   obtain rfl:o=o0:=Option.some.inj (hx.symm.trans h0)
   exact⟨o,(hs.2 x hne.symm).trans hx,rfl,rfl,rfl,fun _ e=>e,fun e=>(by rw[hdx] at e;cases e)⟩
theorem zL2 (X:K.In h) (m:MroV bm) {Q:Unit->Shared->Prop} {ns:List Str} (hC:h.get? C=some (excClassObj nm q C N bs bm true sn sub ab col dd k0 k1 k2 k3 k5 newId)) (hsa:PySem.W.findIn K (.ref C) "__setattr__" = some (some (.builtin "object.__setattr__")))
   (hna:PySem.W.findIn K (.ref C) name=some none) (hxC:x≠C) (I:h.Inst x C mA)
   (hq:∀ h' tk',h'.Inst x C (fun y=>if y=name then some v else mA y) →
     (∀ b o,b≠x->(∀ o0 dx,h.get? x=some o0->o0.dict=some dx->b≠dx)->h.get? b=some o->h'.get? b=some o) →
     (∀ o0,h.get? x=some o0->∃ o1,h'.get? x=some o1/\o1.cls=o0.cls/\o1.data=o0.data/\o1.slots=o0.slots/\(∀ dx,o0.dict=some dx->o1.dict=some dx)/\(o0.dict=none->o1.dict=some h.objs.size))->Q () ⟨h',g,d,tk',os⟩) (hw:Within mA ns) (hsz:ns.length<=sizeLine) :
   wpAny (model prog w) A (setAttr (.ref x) name v) Q E ⟨h,g,d,t,os⟩:=by
 obtain ⟨o,hx,hc,_⟩:=id I
 have f3:=PySem.F.store_ValueError.slot.bind (.ref x)
 have lk:∀ (A:Around) (Q:Option Value->Shared->Prop) (E:Value->Shared->Prop) (t:Nat),Q (some (.builtin "object.__setattr__")) ⟨h,g,d,t,os⟩->wpAny (model prog w) A (typeLookup (.ref C) "__setattr__") Q E ⟨h,g,d,t,os⟩:=fun A Q E t q=>PySem.W.looks_findIn X hsa A Q E _ (fun _ _ e=>e) q
 unfold setAttr callSpecial? specialOf
 repeat (any_goals (first | assumption | (with_reducible refine wpAny_loadPart_at hx ?_;rw[hc]) | refine lk _ _ _ _ ?_ | wp_step))
 refine codeAny_call_builtin PySem.F.store_ValueError.slot.plain PySem.F.store_ValueError.entry (xsa_check m hC hx hc (xsa_entry X m hC hna hxC I (fun h' tk' I' hk hsame=>?_) hw hsz))
 repeat (any_goals (first | assumption | wp_step))
 exact hq h' tk' I' hk hsame
end
end L2
/-! EXCEPTIONS,3: the layer's rules -/
namespace L2
open PySem PySem.Spec PyProof.Rows
noncomputable def ExcO (C e:Addr) (od:Option Addr):HO:=.ext fun h=>∃ t:Addr,h.get? e=some { cls:=.ref C,dict:=od,data:=.fields #[.ref t,.none,.none,.none,.bool false,.none] }
structure XCls (K:PySem.W.Frag) (C:Addr):Prop where
 ob:∃ nm q N bs bm sn sub ab col dd k0 k1 k2 k3 k5,K.lookup C=some (excClassObj nm q C N bs bm true sn sub ab col dd k0 k1 k2 k3 k5 "ValueError.__new__")/\MroV bm
 sa:PySem.W.findIn K (.ref C) "__setattr__" = some (some (.builtin "object.__setattr__"))
 kp:PySem.W.keepIn K (.ref C)=true
section
variable {X:Cx} {pins:List (Addr×Obj)} {σ:St} {H:Hp} {s:Shared} {C x:Addr} {od:Option Addr}
theorem zE9 (I:Inv X pins σ H s) (e:H x=some (ExcO C x od)):∃ t:Addr,s.heap.get? x=some { cls:=.ref C,dict:=od,data:=.fields #[.ref t,.none,.none,.none,.bool false,.none] }:=(I.hok x _ e).1
theorem zI7 {P:Program} {w:World} {H:Hp} {h:Heap} {t:Addr} (e:h.get? x=some { cls:=.ref C,dict:=od,data:=.fields #[.ref t,.none,.none,.none,.bool false,.none] }):zh6 P w H h x (ExcO C x od) :=
 ⟨⟨t,e⟩,⟨_,e⟩,fun h1 h2 ⟨t,e1⟩ k=>⟨t,k _ e1⟩⟩
theorem cls_ne (I:Inv X pins σ H s) {o:HO} {ob:Obj} (hC:X.K.lookup C=some ob) (e:H x=some o):x≠C:=fun z=>by
 have hb:=I.ok.mod.kin _ _ hC
 have:=(I.bs _ _ hb).2
 rw[z,this] at e;cases e
noncomputable def XPut (D:St->Hp->Prop) (σ:St) (H:Hp) (a C:Addr) (od:Option Addr) (f:Str) (y:V):Prop:=match od with
 | none=>∀ dx,H dx=none->dx≠a->D σ (upd (upd H dx (.xd (putF f y []))) a (ExcO C a (some dx)))
 | some dx=>∃ fs,H dx=some (.xd fs)/\fs.length<1000/\D σ (upd H dx (.xd (putF f y fs)))
theorem zL3 {P:Program} {w:World} {H:Hp} {h:Heap} {dx:Addr} {mA:Str->Option Value} {f:Str} {y:V} {u:Value} {fs:List (Str×V)} (hl:fs.length<1000) (hn:h.Ns1 dx fun g=>if g=f then some u else mA g) (r:∀ g,RelO (fs.lookup g) (mA g)) (wi:PySem.Within mA (fs.map (·.1))) (ry:RelV y u) :
   zh6 P w H h dx (.xd (putF f y fs)):=by
 refine⟨by have:=zl1 f y fs;omega,_,hn,fun g=>?_,fun g hg=>?_⟩
 . rw[zd6]
   by_cases q:g=f
   . rw[if_pos q];simp only[q,if_true];exact ry
   . rw[if_neg q];simp only[q,if_false];exact r g
 . by_cases q:g=f
   . rw[q];exact (zp0 f y fs).1
   . refine (zp0 f y fs).2 g (wi g fun z=>hg ?_)
     simp only[q,if_false];exact z
theorem xsetattr_ok {f:Str} {y:V} {u:Value} {D:St->Hp->Prop} {A:Around} {E:Value->Shared->Prop} (I:Inv X pins σ H s) (c:XCls X.K C) (na:zf8 X.K C f) (e:H x=some (ExcO C x od)) (ry:RelV y u) (q:XPut D σ H x C od f y) :
   wpAny (model X.prog X.w) A (setAttr (.ref x) f u) (fun _ s'=>∃ H',Inv X pins σ H' s'/\D σ H') E s:=by
 obtain ⟨nm,qn,N,bs,bm,sn,sub,ab,col,dd,k0,k1,k2,k3,k5,hK,m⟩:=c.ob
 have hC:=I.kIn _ _ hK
 obtain ⟨t,hx⟩:=zE9 I e
 have hxC:=cls_ne I hK e
 cases od with
 | none =>
   have hI:s.heap.Inst x C (fun _=>none):=⟨_,hx,rfl,fun c z=>(by cases z),.inl ⟨rfl,fun _=>rfl⟩⟩
   obtain ⟨hp,g,d,tk,os⟩:=s
   refine zL2 (ns:=[]) I.kIn m hC c.sa na hxC hI (fun h' tk' I' hk hs=>?_) PySem.Within.nil (Nat.zero_le _)
   obtain ⟨o1,e1,e2,e3,e4,_,e5⟩:=hs _ hx
   have ed:=e5 rfl
   have eo:h'.get? x=some { cls:=.ref C,dict:=some hp.objs.size,data:=.fields #[.ref t,.none,.none,.none,.bool false,.none] }:=by
     rw[e1]
     obtain ⟨c1,d1,dt1,sl1⟩:=o1
     simp only at e2 e3 e4 ed
     subst e2 e3 e4 ed
     rfl
   have hkk:∀ b o,b≠x->hp.get? b=some o->h'.get? b=some o:=fun b o hb ho=>hk b o hb (fun o0 dx h0 hd=>by rw[hx] at h0;cases h0;cases hd) ho
   have fr:H hp.objs.size=none:=I.fresh
   have hxs:hp.objs.size≠x:=fun z=>by rw[<-z,fr] at e;cases e
   obtain ⟨oI,hoI,_,_,hdI⟩:=I'
   have hn1:h'.Ns1 hp.objs.size (fun g=>if g=f then some u else none):=by
     rw[eo] at hoI
     cases hoI
     rcases hdI with ⟨z,_⟩ | ⟨d',hd',_,hn⟩
     . cases z
     . cases hd';exact hn
   refine⟨_,?_,q _ fr hxs⟩
   refine I.un (t':=tk') (h':=h') ⟨fun b o ho n _ _=>?_,fun b o ho n _ _=>⟨o.slots,?_⟩,fun b o ho n _=>?_,fun b o ho _=>?_,fun b xs z=>?_,fun b o xs z=>?_,fun b ps z=>⟨#[],?_⟩⟩ fun b o z=>?_
   . exact hkk b o (fun z=>by rw[z,e] at n;cases n) ho
   . exact hkk b o (fun z=>by rw[z,e] at n;cases n) ho
   . rw[za7 (fun z=>by rw[z,e] at n;cases n),za7 (Nat.ne_of_lt (Heap.lt_size ho))];exact n
   . by_cases hb:b=x
     . subst hb;exact⟨_,eo⟩
     . exact⟨o,hkk b o hb ho⟩
   . rw[za7 (zy2 z e (by intro w;cases w)),za7 (zb8 z fr)];exact z
   . rw[za7 (zy2 z e (by intro w;cases w)),za7 (zb8 z fr)];exact z
   . rw[za7 (zy2 z e (by intro w;cases w)),za7 (zb8 z fr),z];simp
   . by_cases hb:b=x
     . subst hb
       rw[za4] at z;cases z
       exact zI7 eo
     . rw[za7 hb] at z
       by_cases hb2:b=hp.objs.size
       . subst hb2
         rw[za4] at z;cases z
         exact zL3 (mA:=fun _=>none) (by decide) hn1 (fun g=>True.intro) PySem.Within.nil ry
       . rw[za7 hb2] at z
         refine (I.hok b o z).stay (fun c v hc qv=>hkk c v ?_ qv) (fun c qc=>?_) fun c xs qc=>?_
         . rcases hc with rfl | hc
           . exact hb
           . exact zy2 hc e (by intro w;cases w)
         . rw[za7 (zy2 qc e (by intro w;cases w)),za7 (zb8 qc fr)];exact qc
         . rw[za7 (zy2 qc e (by intro w;cases w)),za7 (zb8 qc fr)];exact qc
 | some dx =>
   obtain ⟨fs,hd,hl,q⟩:=q
   obtain ⟨hl2,mA,hn,r,wi⟩:=I.hok dx _ hd
   have hdx:dx≠x:=zy2 hd e (by intro w;cases w)
   have hI:s.heap.Inst x C mA:=⟨_,hx,rfl,fun c z=>(by cases z),.inr ⟨dx,rfl,hdx,hn⟩⟩
   have hz:(fs.map (·.1)).length<=sizeLine:=by rw[List.length_map,sizeLine_eq];omega
   obtain ⟨hp,g,d,tk,os⟩:=s
   refine zL2 (ns:=fs.map (·.1)) I.kIn m hC c.sa na hxC hI (fun h' tk' I' hk hs=>?_) wi hz
   obtain ⟨o1,e1,e2,e3,e4,e5,_⟩:=hs _ hx
   have ed:=e5 dx rfl
   have eo:h'.get? x=some { cls:=.ref C,dict:=some dx,data:=.fields #[.ref t,.none,.none,.none,.bool false,.none] }:=by
     rw[e1]
     obtain ⟨c1,d1,dt1,sl1⟩:=o1
     simp only at e2 e3 e4 ed
     subst e2 e3 e4 ed
     rfl
   obtain ⟨oI,hoI,_,_,hdI⟩:=I'
   have hn1:h'.Ns1 dx (fun g=>if g=f then some u else mA g):=by
     rw[eo] at hoI
     cases hoI
     rcases hdI with ⟨z,_⟩ | ⟨d',hd',_,hn⟩
     . cases z
     . cases hd';exact hn
   refine⟨_,I.write (t':=tk') (h':=h') (x:=dx) (e:=dx) (by rw[hd];exact True.intro) (.inl rfl) (fun b o hb ho=>?_) (let ⟨o,_,_,e',_⟩:=hn1;⟨o,e'⟩) (zL3 hl hn1 r wi ry),q⟩
   by_cases hbx:b=x
   . subst hbx
     rw[show hp.get? b=_ from hx] at ho
     cases ho
     exact eo
   . exact hk b o hbx (fun o0 d0 h0 hd0=>by rw[show hp.get? x=_ from hx] at h0;cases h0;cases hd0;exact hb) ho
end
section
variable {X:Cx} {o value:Expr} {f:Str} {pos pos':Pos} {ta tv:TE}
noncomputable def sXFld (K:PySem.W.Frag) (ta tv:TE) (f:Str):TS:=fun D σ H=>tv σ H fun y H1=>ta σ H1 fun x H2=>∃ a C od,x = .ref a/\H2 a=some (ExcO C a od)/\XCls K C/\zf8 K C f/\XPut D.nx σ H2 a C od f y
theorem zI8 (ha:PE X o ta) (hv:PE X value tv) (hs:swapsWith value (some (.Attribute o f pos')) pos.line X.env=pure false):PS X (.Assign [.Attribute o f pos'] value pos) (sXFld X.K ta tv f):=by
 intro pins s σ H D I h
 refine plainObj_wpAny_Assign_Attribute (thn (hv pins s σ H _ I h) fun u s1 ⟨y,H1,I1,ry,q⟩=>thn (ha pins s1 σ H1 _ I1 q) fun ov s2 ⟨x,H2,I2,rx,a,C,od,ex,ea,c,n,q2⟩=>?_) hs
 subst ex
 obtain rfl:ov=Value.ref a:=rx
 exact thn (xsetattr_ok I2 c n ea ry q2) fun _ s3 ⟨H3,I3,q3⟩=>⟨σ,H3,I3,q3⟩
end
/-! ### C.m(..),C a class of the text -/
structure zM6 (K:PySem.W.Frag) (C:Addr) (m:Str) (f:Addr):Prop where
 ga:PySem.W.specialIn K (.ref C) "__getattribute__" = some (some (.builtin "type.__getattribute__"))
 rd:PySem.W.readsIn K C (.type "type")=true
 fd:PySem.W.findCls K (.ref C) (.type "type") m=some (.val (.ref f))
 kp:PySem.W.keepIn K (.ref f)=true
section
variable {X:Cx} {CX:CXT} {k:Nat} {f C:Addr} {fd:FuncData} {ps:List Str} {sp:Sp} {dvs:List V} {ds:List Value} {E:XK} {x m:Str} {p pos apos:Pos} {e:Expr} {es:List Expr} {t:TA}
theorem zA1 {pl:Sem Bool} (M:zM6 X.K C m f) (hg:Gl X x) (hm:X.mg x=some (.ref C)) (F:FnOk X.prog X.w X.K X.mg X.base CX k f fd ps sp) (hr:Room k X.A) (hb:zc9 X.K fd ps ds) (hd:Vals dvs ds) (hx:zn1 CX X E) (ha:PA X (e::es) t)
   (hdb:(x == ("__debug__" : Str))=false:=by decide)
   (hst:starEach (e::es) X.env=(false,eval e X.env)::starEach es X.env:=by rfl) (hpl:(backTo pos (starEach es X.env)).any (·.1)=false:=by rfl)
   (ht:eval (.Call (.Attribute (.Name x p) m apos) (e::es) [] pos) X.env=(do
     let ov <-eval (.Name x p) X.env
     standAt apos.atName
     let (f,first) <-holding [ov] (getMethod ov m pl)
     callWith pos f first (backTo pos (starEach (e::es) X.env)) (backToKw pos (keywordEach [] X.env))):=by rfl) :
   PE X (.Call (.Attribute (.Name x p) m apos) (e::es) [] pos) (zM5 sp dvs E t):=by
 intro pins s σ H Q I h
 refine PySem.W.methodCall_KW (pl:=pl) (zt4 I hg hm ?_ hdb) ht
 refine PySem.W.method_cls I.kIn M.ga (PySem.W.cls_value I.kIn M.rd M.fd (by rfl) ?_)
 refine PySem.W.callWith_K (first:=[]) (h₀:=X.base) I.ok.mod.kin M.kp (thn (ha pos pins _ σ H _ (I.tok _) h) fun us s2 ⟨vs,H2,I2,r,q2⟩=>⟨I2.kIn,?_⟩) hst hpl
 exact zK3 F hr hb hd hx I2 r q2
/-! ### an exception is made -/
end
end L2
/-! EXCEPTIONS,4: raised,passing frames,caught -/
namespace L2
open PySem PySem.Spec PyProof.Rows
noncomputable def del (H:Hp) (a:Addr):Hp:=fun b=>if b=a then none else H b
theorem zG2 (H:Hp) (a:Addr):del H a a=none:=if_pos rfl
theorem zu9 {H:Hp} {a b:Addr} (h:b≠a):del H a b=H b:=if_neg h
theorem zh6.got {P:Program} {w:World} {H:Hp} {h:Heap} {a:Addr} {o:HO} (x:zh6 P w H h a o):∃ ob,h.get? a=some ob:=by
 cases o with
 | lst xs=>obtain ⟨_,_,_,_,e⟩:=x;exact⟨_,e⟩
 | tup xs=>obtain ⟨_,_,_,_,e,_⟩:=x;exact⟨_,e⟩
 | dK kvs=>obtain ⟨_,_,_,_,o,_,_,e,_⟩:=x;exact⟨_,e⟩
 | dT kvs=>obtain ⟨_,_,_,_,o,_,_,e,_⟩:=x;exact⟨_,e⟩
 | set S n=>obtain ⟨o,_,_,_,e,_⟩:=x;exact⟨_,e⟩
 | ins C dx fs=>obtain ⟨_,_,_,e,_⟩:=x;exact⟨_,e⟩
 | own y=>obtain ⟨_,e⟩:=x;exact⟨_,e⟩
 | xd fs=>obtain ⟨_,_,⟨_,_,_,e,_⟩,_⟩:=x;exact⟨_,e⟩
 | rng lo hi=>obtain ⟨_,_,_,e⟩:=x;exact⟨_,e⟩
 | frz ob u=>obtain ⟨e,_⟩:=x;exact⟨_,e⟩
 | tbl ps=>exact⟨_,show h.get? a=some _ from x⟩
 | met f y=>exact⟨_,show h.get? a=some _ from x⟩
 | ext φ=>obtain ⟨_,⟨_,e⟩,_⟩:=x;exact⟨_,e⟩
noncomputable def Fly (h:Heap) (H:Hp) (h0:Heap) (a:Addr) (cls:Value):Prop :=
 (H a=none/\h0.get? a=none)/\∃ T a0,(H T=none/\h0.get? T=none)/\∃ oe vs oT ts,h.get? a=some oe/\(oe.cls=cls/\vs[0]?=some a0)/\oe.data = .fields vs/\vs[1]?=some (.ref T)/\T≠a/\h.get? T=some oT/\oT.data = .fields ts/\ts[3]?=some Value.none
theorem Fly.from {h:Heap} {H:Hp} {h0 h1:Heap} {a:Addr} {cls:Value} (x:Fly h H h0 a cls) (k:∀ b o,h1.get? b=some o->∃ o',h0.get? b=some o'):Fly h H h1 a cls:=by
 have g:∀ b,h0.get? b=none->h1.get? b=none:=fun b e=>by
   cases q:h1.get? b with
   | none=>rfl
   | some o=>obtain ⟨o',z⟩:=k b o q;rw[e] at z;cases z
 obtain ⟨⟨x1,x2⟩,T,a0,⟨x3,x4⟩,r⟩:=x
 exact⟨⟨x1,g _ x2⟩,T,a0,⟨x3,g _ x4⟩,r⟩
theorem Fly.flying {h:Heap} {H:Hp} {h0 B:Heap} {a:Addr} {cls:Value} {l:List Env} (x:Fly h H h0 a cls) (ff:h.FunFrames B l) :
   ∃ T a0,(H T=none/\h0.get? T=none)/\Heap.FlyingW (PySem.W.hideAll h (a::([T]++frs l))) l a cls a0 h:=by
 obtain ⟨_,T,a0,z,oe,vs,oT,ts,e1,e2,e3,e4,e5,e6,e7,e8⟩:=x
 refine⟨T,a0,z,fun b o e=>PySem.W.of_hideAll _ e,PySem.W.hideAll_none _ List.mem_cons_self,PySem.W.funFrames_hide ff fun env he b hb=>?_,oe,vs,T,oT,ts,e1,e2,e3,e4,PySem.W.hideAll_none _ (by simp),e5,e6,e7,e8⟩
 exact List.mem_cons_of_mem _ (List.mem_cons_of_mem _ (List.mem_filterMap.mpr ⟨env,he,hb⟩))
theorem zI9 {P:Program} {w:World} {fs ts:List Addr} {l l':List Env} {H0 H:Hp} {h0 h1 h2 B:Heap} {a:Addr} {cls a0:Value} (u:Un fs [] H0 H h0 h1) (ok:HOk P w H h1) (ff:h1.FunFrames B l)
   (hl:∀ b∈frs l,(b∈fs\/h0.get? b=none)/\H b=none) (ha:H a=none/\h0.get? a=none) (hts:∀ T∈ts,H T=none/\h0.get? T=none)
   (x:Heap.FlyingW (PySem.W.hideAll h1 (a::(ts++frs l))) l' a cls a0 h2) (up:h1.UpToSlots h2):Un fs [] H0 H h0 h2/\HOk P w H h2/\Fly h2 H h0 a cls:=by
 obtain ⟨st,_,_,oe,vs,T,oT,tv,e1,e2,e3,e4,e5,e6,e7,e8,e9⟩:=x
 have keep:∀ b o,b∉a::(ts++frs l)->h1.get? b=some o->h2.get? b=some o:=fun b o hb e=>st b o (PySem.W.hideAll_get _ e hb)
 have out:∀ b,b∈a::(ts++frs l)->H b=none/\(b∈frs l\/h0.get? b=none):=fun b hb=>by
   rcases List.mem_cons.mp hb with rfl | hb
   . exact⟨ha.1,.inr ha.2⟩
   . rcases List.mem_append.mp hb with hb | hb
     . exact⟨(hts b hb).1,.inr (hts b hb).2⟩
     . exact⟨(hl b hb).2,.inl hb⟩
 have slot:∀ b o,h0.get? b≠none->h1.get? b=some o->∃ sl,h2.get? b=some { o with slots:=sl }:=fun b o n e=>by
   by_cases hb:b∈a::(ts++frs l)
   . rcases (out b hb).2 with q | q
     . obtain ⟨_,o',ho,hn⟩:=ff.mem q
       rw[e] at ho;cases ho
       exact up b o e hn
     . exact absurd q n
   . exact⟨o.slots,keep b o hb e⟩
 refine⟨⟨fun b o e n hf hx=>?_,fun b o e n hf hx=>?_,u.free,fun b o e hx=>?_,u.tups,u.frzs,u.tbls⟩,fun b o q=>?_,ha,T,a0,?_,oe,vs,oT,tv,e1,e2,e3,e4,e6,e7,e8,e9⟩
 . refine keep b o (fun hb=>?_) (u.keep b o e n hf hx)
   rcases (out b hb).2 with q | q
   . rcases (hl b q).1 with q | q
     . exact hf q
     . rw[e] at q;cases q
   . rw[e] at q;cases q
 . obtain ⟨sl,q⟩:=u.slot b o e n hf hx
   obtain ⟨sl',q'⟩:=slot b _ (by rw[e];simp) q
   exact⟨sl',q'⟩
 . obtain ⟨o',q⟩:=u.there b o e hx
   obtain ⟨sl',q'⟩:=slot b _ (by rw[e];simp) q
   exact⟨_,q'⟩
 . refine (ok b o q).stay (fun c v hc qv=>keep c v (fun hm=>?_) qv) (fun _ z=>z) fun _ _ z=>z
   have n:=(out c hm).1
   rcases hc with rfl | hc
   . rw[q] at n;cases n
   . rw[hc] at n;cases n
 . by_cases hm:T∈a::(ts++frs l)
   . rcases List.mem_cons.mp hm with z | hm
     . exact absurd z e6
     . rcases List.mem_append.mp hm with hm | hm
       . exact hts T hm
       . obtain ⟨_,o',ho,hn⟩:=ff.mem hm
         obtain ⟨sl,z⟩:=up T o' ho hn
         rw[e7] at z;cases z
         exact absurd e8 (hn tv)
   . have n1:h1.get? T=none:=by
       cases q:h1.get? T with
       | none=>rfl
       | some o=>rw[PySem.W.hideAll_get _ q hm] at e5;cases e5
     refine⟨?_,?_⟩
     . cases q:H T with
       | none=>rfl
       | some o=>obtain ⟨ob,z⟩:=(ok T o q).got;rw[n1] at z;cases z
     . cases q:h0.get? T with
       | none=>rfl
       | some o=>obtain ⟨ob,z⟩:=u.there T o q (by simp);rw[n1] at z;cases z
noncomputable def CXE (P:Program) (w:World):CXT:=fun outer H s E e s'=>∃ a cls H',e = .ref a/\s'.os=s.os/\AllBare s'.gens/\Un (frs outer) [] H H' s.heap s'.heap/\HOk P w H' s'.heap/\Fly s'.heap H' s.heap a cls/\E cls none H'
noncomputable def zL4 (X:Cx) (E:XK):Prop:=∀ (pins:List (Addr×Obj)) (σ:St) (H:Hp) (s:Shared) (x C:Addr) (od:Option Addr),Inv X pins σ H s->H x=some (ExcO C x od)->X.s₀.heap.get? x=none->E (.ref C) none (del H x)->X.xe (.ref x) s
section
variable {X:Cx} {pins:List (Addr×Obj)} {σ:St} {H H':Hp} {s s':Shared} {C x a:Addr} {od:Option Addr} {cls a0:Value}
theorem Inv.del (I:Inv X pins σ H s) (e:H x=some (ExcO C x od)):Inv X pins σ (L2.del H x) s:=by
 have ne:∀ b u,H b=some u->(∀ φ,u≠.ext φ)->b≠x:=fun b u q n z=>by rw[z,e] at q;cases q;exact n _ rfl
 have:=I.un (t':=s.toks) (h':=s.heap) (H':=L2.del H x) ⟨fun b o ho n _ _=>ho,fun b o ho n _ _=>⟨o.slots,ho⟩,fun b o ho n _=>?_,fun b o ho _=>⟨o,ho⟩,fun b xs z=>?_,fun b o xs z=>?_,fun b ps z=>⟨#[],?_⟩⟩ fun b o z=>?_
 . exact this
 . unfold L2.del;split
   . rfl
   . exact n
 . rw[zu9 (ne b _ z fun φ w=>by cases w)];exact z
 . rw[zu9 (ne b _ z fun φ w=>by cases w)];exact z
 . rw[zu9 (ne b _ z fun φ w=>by cases w),z];simp
 . have hb:b≠x:=fun q=>by rw[q,zG2] at z;cases z
   rw[zu9 hb] at z
   exact (I.hok b o z).stay (fun _ _ _ q=>q) (fun c q=>by rw[zu9 (ne c _ q fun φ w=>by cases w)];exact q) fun c xs q=>by rw[zu9 (ne c _ q fun φ w=>by cases w)];exact q
theorem Inv.left {ts:List Addr} {h2:Heap} {l':List Env} (I:Inv X pins σ H s) (hex:X.ex=[]) (ha:H a=none/\X.s₀.heap.get? a=none) (hts:∀ T∈ts,H T=none/\X.s₀.heap.get? T=none)
   (x:Heap.FlyingW (PySem.W.hideAll s.heap (a::(ts++frs X.stack))) l' a cls a0 h2) (up:s.heap.UpToSlots h2):Un X.fs [] X.H₀ H X.s₀.heap h2/\HOk X.prog X.w H h2/\Fly h2 H X.s₀.heap a cls:=by
 have u:=I.base
 rw[hex] at u
 refine zI9 u I.hok I.stack (fun b hb=>⟨?_,I.stkFree b hb⟩) ha hts x up
 rcases List.mem_cons.mp (I.stkSub b hb) with z | z
 . right;rw[z];exact Heap.get?_none_of_le I.ok.above
 . exact .inl z
end
section
variable {P:Program} {w:World} {K:PySem.W.Frag} {mg:Str->Option Value} {base:Heap} {N:List Str} {qual:Str} {scope:Scope} {f:Addr} {cd:Value} {A:Around} {outer:List Env} {s:Shared} {H:Hp} {E:XK}
theorem zf0:zL4 (cxOf (CXE P w) P w K mg base N qual scope f cd A outer s H E) E:=by
 intro pins σ H1 s1 x C od I e n q
 obtain ⟨t,hx⟩:=zE9 I e
 have J:=I.del e
 have hd:del H1 x x=none:=zG2 _ _
 refine wpAny_leaving_firstW (base:=PySem.W.hideAll s1.heap (x::([]++frs (cxOf (CXE P w) P w K mg base N qual scope f cd A outer s H E).stack))) (outer:=outer) (L:=s.heap.objs.size) (a0:=.ref t) I.ok.frames ?_ rfl hx (fun b o z=>PySem.W.of_hideAll _ z) (PySem.W.hideAll_none _ List.mem_cons_self) rfl rfl rfl fun h' hL=>?_
 . exact PySem.W.funFrames_hide I.stack fun env he b hb=>List.mem_cons_of_mem _ (List.mem_filterMap.mpr ⟨env,he,hb⟩)
 . obtain ⟨k1,k2,k3,k4⟩:=hL
   obtain ⟨u,ok,fl⟩:=J.left (ts:=[]) rfl ⟨hd,n⟩ (fun _ z=>nomatch z) ⟨k1,PySem.W.hideAll_none _ List.mem_cons_self,k2,k3⟩ k4
   exact⟨x,.ref C,_,rfl,I.os,I.bare,u,ok,fl,q⟩
theorem ze3:zn1 (CXE P w) (cxOf (CXE P w) P w K mg base N qual scope f cd A outer s H E) E:=by
 intro pins σ H1 s1 e s2 I q
 obtain ⟨a,cls,H',rfl,os,bare,un,ok,fl,q⟩:=q
 have J:=I.call' (ch:=[]) os un ok bare fun b z=>nomatch z
 have fl':Fly s2.heap H' s.heap a cls:=fl.from fun b o z=>I.base.there b o z (fun z=>nomatch z)
 obtain ⟨T,a0,z,fw⟩:=fl'.flying J.stack
 refine wpAny_leaves_onW J.ok.frames rfl fw fun h' fw' up=>?_
 obtain ⟨u,ok',f2⟩:=J.left (ts:=[T]) rfl fl'.1 (fun b hb=>by rw[List.mem_singleton.mp hb];exact z) fw' up
 exact⟨a,cls,H',rfl,J.os,J.bare,u,ok',f2,q⟩
end
end L2
/-! EXCEPTIONS,5: the statements raise and try;defs that raise -/
namespace L2
open PySem PySem.Spec PyProof.Rows
section
variable {M:Model} {A:Around} {E:Value->Shared->Prop} {env:Env}
variable {nm q:Str} {C N:Addr} {bs bm:List Value} {hdct:Bool} {sn:List Str} {sub:List Value} {ab:Bool} {col:Option Bool} {dd:Option Addr} {k0 k1 k2 k3 k5:Option Value} {newId:String}
theorem xraise {s:Shared} {x:Sem Value} {Q:Flow->Shared->Prop} (m:MroV bm) (hh:A.handled=none)
   (h:wpAny M A x (fun v s₁=>∃ e od t,v = .ref e/\s₁.heap.get? C=some (excClassObj nm q C N bs bm hdct sn sub ab col dd k0 k1 k2 k3 k5 newId)/\s₁.heap.get? e=some { cls:=.ref C,dict:=od,data:=.fields #[.ref t,.none,.none,.none,.bool false,.none] }/\E (.ref e) s₁) E s) :
   wpAny M A (raiseStmt env (some x) none) Q E s:=by
 have hcB:(Value.ref C::bm).contains (.type "BaseException")=true:=m.self C (by decide)
 unfold raiseStmt
 refine wpAny_bind (wpAny_mono h (fun v s₁ h₁=>?_) fun _ _ x=>x)
 obtain ⟨e,od,t,rfl,hC,he,hE⟩:=h₁
 obtain ⟨hp,g,d,tk,os⟩:=s₁
 repeat (first | with_reducible refine wpAny_loadPart_at he ?_ | with_reducible refine wpAny_loadPart_at hC ?_ | (with_reducible refine wpAny_isSubtype_exc hC ?_;rw[hcB]) | wp_step)
 exact wpAny_raiseNew_none hh hE
end
section
variable {X:Cx} {CX:CXT} {k:Nat} {f C:Addr} {fd:FuncData} {ps:List Str} {sp:Sp} {dvs:List V} {ds:List Value} {E Ei:XK} {x m:Str} {p pos cpos apos:Pos} {e:Expr} {es:List Expr} {t:TA}
theorem run_xmake2 {pins:List (Addr×Obj)} {σ:St} {H:Hp} {s:Shared} {Q:Addr->Hp->Prop} {us:List Value} {vs:List V} (c:XCls X.K C) (hi:PySem.W.findIn X.K (.ref C) "__init__" = some (some (.ref f))) (hf:PySem.W.isFn X.K (.ref f)=true) (F:FnOk X.prog X.w X.K X.mg X.base CX k f fd ps sp) (hr:Room (k+1) X.A) (hb:zc9 X.K fd ps ds) (hd:Vals dvs ds)
   (hx:zn1 CX X E) (I:Inv X pins σ H s) (r:Vals vs us) (hv:vs.length<=sizeLine)
   (h:∀ x,H x=none->sp (.ref x::(vs++dvs)) (upd H x (ExcO C x none)) (fun v H2=>v = .non/\Q x H2) E) :
   wpAny (model X.prog X.w) X.A (call (.ref C) us) (fun v s'=>v = .ref (s.heap.objs.size+1)/\∃ H',Inv X pins σ H' s'/\Q (s.heap.objs.size+1) H') X.xe s:=by
 obtain ⟨nm,qn,N,bs,bm,sn,sub,ab,col,dd,k0,k1,k2,k3,k5,hK,m⟩:=c.ob
 have hC:=I.kIn _ _ hK
 have hq:=h (s.heap.objs.size+1) (I.hok.fresh (Nat.le_succ _))
 have I1:Inv X pins σ H { s with heap:=s.heap.push { cls:=.type "tuple",data:=.seq us.toArray } }:=I.kept (t':=s.toks) fun b o e=>Heap.get?_push_of_some _ e
 have sz1:(s.heap.push { cls:=.type "tuple",data:=.seq us.toArray }).objs.size=s.heap.objs.size+1:=Heap.size_push ..
 have I2:Inv X pins σ (upd H (s.heap.objs.size+1) (ExcO C (s.heap.objs.size+1) none)) { s with heap:=(s.heap.push { cls:=.type "tuple",data:=.seq us.toArray }).push { cls:=.ref C,data:=.fields #[.ref s.heap.objs.size,.none,.none,.none,.bool false,.none] } }:=by
   refine I1.laid (t':=s.toks) (fun b o e=>Heap.get?_push_of_some _ e) (Nat.le_of_eq sz1) (zI7 (t:=s.heap.objs.size) ?_)
   rw[<-sz1];exact Heap.get?_push_size _ rfl
 have r2:Vals (V.ref (s.heap.objs.size+1)::(vs++dvs)) (Value.ref (s.heap.objs.size+1)::(us++ds)):=.cons rfl (r.append hd)
 have hl:(Value.ref (s.heap.objs.size+1)::us++ds).length=ps.length:=by
   have e:=r2.length
   rw[F.len _ _ _ _ hq] at e
   exact e.symm
 obtain ⟨hp,g,d,tk,os⟩:=s
 refine xcall I.kIn m hC hi hf (by rw[<-r.length];exact hv) ?_
 refine wpAny_call (codeAny_mono (F.run _ X.stack _ _ ⟨Value.ref (hp.objs.size+1)::us,[]⟩ (Value.ref (hp.objs.size+1)::(us++ds)) _ _ E (hr.make C us []) (I2.env0.make C us []) (hb _ (Value.ref (hp.objs.size+1)::us) I2.kIn hl) r2 hq) fun r s' hq'=>?_)
 cases r with
 | error e=>exact hx pins σ _ _ e s' I2 hq'
 | ok fl =>
   cases fl with
   | ret u =>
     obtain ⟨v,H',I3,rv,ev,q3⟩:=I2.after hq'
     subst ev
     exact⟨rv,rfl,H',I3,q3⟩
   | next=>exact False.elim hq'
   | brk=>exact False.elim hq'
   | cont=>exact False.elim hq'
noncomputable def tRaise (C:Addr) (sp:Sp) (dvs:List V) (Ei E:XK) (t:TA):TS:=fun _ σ H=>t σ H fun vs H1=>vs.length<=sizeLine/\∀ x,H1 x=none →
 sp (.ref x::(vs++dvs)) (upd H1 x (ExcO C x none)) (fun v H2=>v = .non/\∃ od,H2 x=some (ExcO C x od)/\E (.ref C) none (del H2 x)) Ei
theorem zg0 (R:zL4 X E) (hc:X.calm=true) (c:XCls X.K C) (hi:PySem.W.findIn X.K (.ref C) "__init__" = some (some (.ref f))) (hf:PySem.W.isFn X.K (.ref f)=true) (F:FnOk X.prog X.w X.K X.mg X.base CX k f fd ps sp) (hr:Room (k+1) X.A) (hg:Gl X x) (hm:X.mg x=some (.ref C)) (hb:zc9 X.K fd ps ds) (hd:Vals dvs ds) (hx:zn1 CX X Ei)
   (ha:PA X (e::es) t) (hdb:(x == ("__debug__" : Str))=false:=by decide) (he:starEach (e::es) X.env=(false,eval e X.env)::starEach es X.env:=by rfl) (hpl:(backTo cpos (starEach es X.env)).any (·.1)=false:=by rfl) :
   PS X (.Raise (some (.Call (.Name x p) (e::es) [] cpos)) none pos) (tRaise C sp dvs Ei E t):=by
 intro pins s σ H D I h
 obtain ⟨nm,qn,N,bs,bm,sn,sub,ab,col,dd,k0,k1,k2,k3,k5,hK,m⟩:=c.ob
 rw[arm_exec_Raise]
 simp only[evalOpt,Option.map]
 refine wpAny_bind (wpAny_standAt (xraise (C:=C) m (I.ok.hd hc) (hdct:=true) (nm:=nm) (q:=qn) (N:=N) (bs:=bs) (sn:=sn) (sub:=sub) (ab:=ab) (col:=col) (dd:=dd) (k0:=k0) (k1:=k1) (k2:=k2) (k3:=k3) (k5:=k5) (newId:="ValueError.__new__") ?_))
 refine wpAny_bind (wpAny_mono (wpAny_Call_Name_kw (zt4 I hg hm ?_ hdb)) (fun v s3 h3=>wpAny_bind (wpAny_standAt (wpAny_pure h3))) fun _ _ z=>z)
 refine PySem.W.callWith_K (h₀:=X.base) I.ok.mod.kin c.kp (thn (ha cpos pins s σ H _ I h) fun us s1 ⟨vs,H1,I1,r,hv,q⟩=>⟨I1.kIn,?_⟩) he hpl
 refine thn (run_xmake2 (Q:=fun x H2=>∃ od,H2 x=some (ExcO C x od)/\E (.ref C) none (del H2 x)) c hi hf F hr hb hd hx I1 r hv q) fun v s2 ⟨ev,H2,I2,od,e2,q2⟩=>?_
 obtain ⟨t2,hx2⟩:=zE9 I2 e2
 exact⟨_,_,_,ev,I2.kIn _ _ hK,hx2,R pins σ H2 s2 _ C od I2 e2 (Heap.get?_none_of_le (Nat.le_trans I1.sz (Nat.le_succ _))) q2⟩
end
/-! ### try -/
noncomputable def Cx.inTry (X:Cx) (pins:List (Addr×Obj)) (E:XK):Cx:={ X with pn:=X.pn++pins,xe:=fun e s1=>∃ σ H s,Inv X pins σ H s/\CXE X.prog X.w X.stack H s E e s1 }
noncomputable def Cx.caught (X:Cx) (e:Value):Cx:={ X with A:=X.A.mark (some e),calm:=false,xe:=fun _ _=>False }
section
variable {X:Cx} {pins pins':List (Addr×Obj)} {σ:St} {H:Hp} {s:Shared} {E:XK} {e:Value} {D:Ends} {f:Flow}
theorem Inv.inTry (I:Inv X pins σ H s) (E:XK):Inv (X.inTry pins E) [] σ H s :=
 let ok:=I.ok
 ⟨⟨ok.mod,ok.kind,ok.glob,ok.blt,ok.above,ok.inj,ok.has,ok.cab,ok.hd,ok.frames,ok.stk,ok.exf,ok.bs,ok.bsz,ok.noex,ok.exfs,ok.funs,ok.frf⟩,I.os,I.bare,I.base,I.loc,I.cell,I.free,I.freeC,fun p hp=>I.pin p (by
   rw[List.append_nil] at hp;exact hp),I.hok,I.len⟩
theorem Inv.outTry (I:Inv (X.inTry pins E) pins' σ H s):Inv X pins σ H s :=
 let ok:=I.ok
 ⟨⟨ok.mod,ok.kind,ok.glob,ok.blt,ok.above,ok.inj,ok.has,ok.cab,ok.hd,ok.frames,ok.stk,ok.exf,ok.bs,ok.bsz,ok.noex,ok.exfs,ok.funs,ok.frf⟩,I.os,I.bare,I.base,I.loc,I.cell,I.free,I.freeC,fun p hp=>I.pin p (List.mem_append_left _ hp),I.hok,I.len⟩
theorem Inv.caught (I:Inv X pins σ H s) (e:Value):Inv (X.caught e) pins σ H s :=
 let ok:=I.ok
 ⟨⟨ok.mod,ok.kind,ok.glob,ok.blt,ok.above,ok.inj,ok.has,ok.cab,(fun z=>nomatch z),ok.frames,ok.stk,ok.exf,ok.bs,ok.bsz,ok.noex,ok.exfs,ok.funs,ok.frf⟩,I.os,I.bare,I.base,I.loc,I.cell,I.free,I.freeC,I.pin,I.hok,I.len⟩
theorem Inv.uncaught (hd:X.calm=true->X.A.handled=none) (I:Inv (X.caught e) pins σ H s):Inv X pins σ H s :=
 let ok:=I.ok
 ⟨⟨ok.mod,ok.kind,ok.glob,ok.blt,ok.above,ok.inj,ok.has,ok.cab,hd,ok.frames,ok.stk,ok.exf,ok.bs,ok.bsz,ok.noex,ok.exfs,ok.funs,ok.frf⟩,I.os,I.bare,I.base,I.loc,I.cell,I.free,I.freeC,I.pin,I.hok,I.len⟩
theorem SP.outTry (h:SP (X.inTry pins E) pins' D f s):SP X pins D f s:=by
 cases f with
 | next=>obtain ⟨σ',H',I,q⟩:=h;exact⟨σ',H',I.outTry,q⟩
 | brk=>obtain ⟨σ',H',I,q⟩:=h;exact⟨σ',H',I.outTry,q⟩
 | cont=>obtain ⟨σ',H',I,q⟩:=h;exact⟨σ',H',I.outTry,q⟩
 | ret u=>obtain ⟨v,σ',H',I,r,q⟩:=h;exact⟨v,σ',H',I.outTry,r,q⟩
theorem SP.uncaught (hd:X.calm=true->X.A.handled=none) (h:SP (X.caught e) pins D f s):SP X pins D f s:=by
 cases f with
 | next=>obtain ⟨σ',H',I,q⟩:=h;exact⟨σ',H',I.uncaught hd,q⟩
 | brk=>obtain ⟨σ',H',I,q⟩:=h;exact⟨σ',H',I.uncaught hd,q⟩
 | cont=>obtain ⟨σ',H',I,q⟩:=h;exact⟨σ',H',I.uncaught hd,q⟩
 | ret u=>obtain ⟨v,σ',H',I,r,q⟩:=h;exact⟨v,σ',H',I.uncaught hd,r,q⟩
theorem passes_try:zn1 (CXE X.prog X.w) (X.inTry pins E) E:=fun pins' σ H s e s' I q=>⟨σ,H,s,I.outTry,q⟩
end
section
variable {X:Cx} {C:Addr} {E:XK} {x:Str} {p pos hpos:Pos} {body suite:List Stmt} {b₀:Stmt} {tb th:TS}
end
/-! ### a def (or method) of the text whose defaults are any -/
structure FunD (K:PySem.W.Frag) (x qual:Str) (st:Stmt) (f:Addr) (fd:FuncData):Prop where
 ex:∃ (oc:Value) (od:Option Addr) (dV kV doc pm:Value) (an:Option Addr) (cdv ct:Value) (osl:Array (Option Value)),
   fd=PySem.W.fnOf x qual (zc1 st) (zb1 st) (za5 st) dV kV doc pm an cdv ct/\K.lookup f=some ⟨oc,od,.func fd,osl⟩/\PySem.W.codeIn K cdv qual=true
 kp:PySem.W.keepIn K (.ref f)=true
section
variable {P:Program} {w:World} {K:PySem.W.Frag} {mg:Str->Option Value} {base:Heap} {CX:CXT}
theorem Fun.d {x qual:Str} {st:Stmt} {f:Addr} {fd:FuncData} (F:Fun K x qual st f fd):FunD K x qual st f fd:=by
 obtain ⟨oc,od,kV,doc,pm,an,cdv,ct,osl,h⟩:=F.ex
 exact⟨⟨oc,od,.none,kV,doc,pm,an,cdv,ct,osl,h⟩,F.kp⟩
theorem FunD.ok {x qual:Str} {st:Stmt} {f:Addr} {fd:FuncData} {N ps:List Str} {k:Nat} {sp:Sp} (F:FunD K x qual st f fd) (S:zc3 N ps (za5 st)) (len:∀ vs H Q E,sp vs H Q E->vs.length=ps.length)
   (hbody:∀ (cdv:Value) (A:Around) (outer:List Env) (s:Shared) (H:Hp) (vs:List V) (Q:VK) (E:XK),Room k (A.deeper (envOfC qual (za5 st) s.heap.objs.size f cdv))->sp vs H Q E →
     ∃ t,PSs (cxOf CX0 P w K mg base N qual (za5 st) f cdv A outer s H E).nox (zb1 st) t/\t { nx:=fun _ H'=>Q .non H',rt:=Q } (start N vs) H):FnOk P w K mg base CX0 (k+1) f fd ps sp:=by
 obtain ⟨oc,od,dV,kV,doc,pm,an,cdv,ct,osl,rfl,lk,hcd⟩:=F.ex
 refine zK4 lk hcd S len fun A outer s H vs Q E hr hsp=>?_
 obtain ⟨t,h,q⟩:=hbody cdv A outer s H vs Q E hr hsp
 exact⟨t,h.nox,q⟩
theorem FunD.okE {x qual:Str} {st:Stmt} {f:Addr} {fd:FuncData} {N ps:List Str} {k:Nat} {sp:Sp} (F:FunD K x qual st f fd) (S:zc3 N ps (za5 st)) (len:∀ vs H Q E,sp vs H Q E->vs.length=ps.length)
   (hbody:∀ (cdv:Value) (A:Around) (outer:List Env) (s:Shared) (H:Hp) (vs:List V) (Q:VK) (E:XK),Room k (A.deeper (envOfC qual (za5 st) s.heap.objs.size f cdv))->sp vs H Q E →
     ∃ t,PSs (cxOf (CXE P w) P w K mg base N qual (za5 st) f cdv A outer s H E) (zb1 st) t/\t { nx:=fun _ H'=>Q .non H',rt:=Q } (start N vs) H):FnOk P w K mg base (CXE P w) (k+1) f fd ps sp:=by
 obtain ⟨oc,od,dV,kV,doc,pm,an,cdv,ct,osl,rfl,lk,hcd⟩:=F.ex
 refine zK4 lk hcd S len fun A outer s H vs Q E hr hsp=>?_
 obtain ⟨t,h,q⟩:=hbody cdv A outer s H vs Q E hr hsp
 exact⟨t,h,q⟩
theorem zy9 {x qual:Str} {st:Stmt} {f:Addr} {oc:Value} {od an:Option Addr} {osl:Array (Option Value)} {dV kV doc pm cdv ct:Value} (l:K.lookup f=some ⟨oc,od,.func (PySem.W.fnOf x qual (zc1 st) (zb1 st) (za5 st) dV kV doc pm an cdv ct),osl⟩)
 (c:PySem.W.codeIn K cdv qual=true) (k:PySem.W.keepIn K (.ref f)=true):FunD K x qual st f (PySem.W.fnOf x qual (zc1 st) (zb1 st) (za5 st) dV kV doc pm an cdv ct):=⟨⟨oc,od,dV,kV,doc,pm,an,cdv,ct,osl,rfl,l,c⟩,k⟩
end
end L2
namespace L2
open PySem PySem.Spec PyProof.Rows
/-! ### within try: readings that name K itself -/
end L2
/-! EXCEPTIONS,6: loops in a def that raises;a list against the empty list -/
namespace L2
open PySem PySem.Spec PyProof.Rows
theorem zo7 {P:Program} {w:World} {K:PySem.W.Frag} {mg:Str->Option Value} {base:Heap} {N:List Str} {qual:Str} {scope:Scope} {f:Addr} {cd:Value} {A:Around} {outer:List Env} {s:Shared} {H:Hp} {E:XK} :
   PassesOwn (model (cxOf (CXE P w) P w K mg base N qual scope f cd A outer s H E).prog (cxOf (CXE P w) P w K mg base N qual scope f cd A outer s H E).w) (cxOf (CXE P w) P w K mg base N qual scope f cd A outer s H E).A (cxOf (CXE P w) P w K mg base N qual scope f cd A outer s H E).env (cxOf (CXE P w) P w K mg base N qual scope f cd A outer s H E).xe :=
 PassesOwn.leaving
end L2
/-! EXCEPTIONS,7: try whose handler knows the names' values;the class named by except may be a base -/
namespace L2
open PySem PySem.Spec PyProof.Rows
section
variable {X:Cx} {pins pins':List (Addr×Obj)} {σ:St} {H:Hp} {s:Shared} {Ex:St->XK} {D:Ends} {fl:Flow}
end
section
variable {X:Cx} {CX:CXT} {k:Nat} {f C:Addr} {fd:FuncData} {ps:List Str} {sp:Sp} {dvs:List V} {ds:List Value} {Ex:St->XK} {x m:Str} {p pos apos:Pos} {e o:Expr} {es:List Expr} {ta:TE} {t:TA}
end
section
variable {X:Cx} {D:Addr} {Ex:St->XK} {x:Str} {p pos hpos:Pos} {body suite:List Stmt} {b₀:Stmt} {tb th:TS}
end
end L2
/-! EXCEPTIONS,8: except D as n -/
namespace L2
open PySem PySem.Spec PyProof.Rows
section
variable {X:Cx} {pins:List (Addr×Obj)} {σ:St} {H:Hp} {s:Shared}
end
section
variable {X:Cx} {D:Addr} {Ex:St->XK} {x n:Str} {i:Nat} {p pos hpos:Pos} {body suite:List Stmt} {b₀:Stmt} {tb th:TS}
end
end L2
namespace L2
open PySem PySem.Spec PyProof.Rows
theorem zq6 {K:PySem.W.Frag} {c:Value} {D:Addr} {b:Bool} (h1:PySem.W.subIn K (.ref D) (.type "BaseException")=some true) (h2:(PySem.W.clsIn K D).isSome=true) (h3:PySem.W.typeIn K (.ref D)=some (.type "type")) (h4:PySem.W.subIn K c (.ref D)=some b) :
   PySem.W.exmOne K c (.ref D)=some b:=by
 unfold PySem.W.exmOne PySem.W.kitCls
 simp[h1,h2,h3,h4]
end L2
namespace L2
open PySem PySem.Spec PyProof.Rows
section
variable {X:Cx}
end
end L2
namespace L2
open PySem PySem.Spec PyProof.Rows
theorem zG3 {J:It} {H1:Hp} {D:Addr} {n:Nat} {x:Nat->V} {j:Nat} {σc:St} {tif:TT} {telt:TE} {Q:Hp->Prop} (Iv:Nat->Hp->Prop) (h0:Iv 0 (upd H1 D (.lst [])))
   (go:∀ i H',i<n->Iv i H'->J.go i H') (st:∀ H',Iv n H'->J.stop n H') (yl:∀ i v H' H2,i<n->Iv i H'->J.yld i H' v H2->H2=H'/\v=x i)
   (step:∀ i H' (N:St->Hp->Prop),i<n->Iv i H'->(∀ H2,Iv (i+1) H2->N (σc.set j (some (x i))) H2)->tif (σc.set j (some (x i))) H' fun b H4=>if b=true then zo1 D telt N (σc.set j (some (x i))) H4 else N (σc.set j (some (x i))) H4)
   (q:∀ H',Iv n H'->Q H') :
   ∃ W:Nat->Nat->St->Hp->Prop,(∃ m,W 0 m σc (upd H1 D (.lst []))) ∧
     ∀ i m σ' H',W i m σ' H'->(J.stop i H'/\Q H')\/(J.go i H'/\∃ N:St->Hp->Prop,(∀ σ2 H2,N σ2 H2->∃ m',m'<m/\W (i+1) m' σ2 H2) ∧
       ∀ v H2,J.yld i H' v H2->zl0 j v σ' H2 fun σ3 H3=>tif σ3 H3 fun b H4=>if b=true then zo1 D telt N σ3 H4 else N σ3 H4):=by
 refine⟨fun i m σ' H'=>m=n-i/\i<=n/\(∀ v,σ'.set j (some v)=σc.set j (some v))/\Iv i H',⟨n,by simp,Nat.zero_le _,fun _=>rfl,h0⟩,?_⟩
 rintro i m σ' H' ⟨rfl,hi,hσ,iv⟩
 by_cases hlt:i<n
 . refine .inr ⟨go i _ hlt iv,fun σ2 H2=>(∀ v,σ2.set j (some v)=σc.set j (some v))/\Iv (i+1) H2,fun σ2 H2 ⟨h1,h2⟩=>⟨n-(i+1),by omega,rfl,hlt,h1,h2⟩,fun v H2 y=>?_⟩
   obtain ⟨rfl,rfl⟩:=yl i v _ H2 hlt iv y
   dsimp only[zl0]
   rw[hσ]
   exact step i _ _ hlt iv fun H2 h2=>⟨fun v=>by simp,h2⟩
 . have e:i=n:=by omega
   subst e
   exact .inl ⟨st _ iv,q _ iv⟩
theorem zv0 {K:PySem.W.Frag} {H1:Hp} {D a:Addr} {xs:List V} {j:Nat} {σc:St} {tif:TT} {telt:TE} {Q:Hp->Prop} (Iv:Nat->Hp->Prop) (h0:Iv 0 (upd H1 D (.lst [])))
   (hs:∀ i H',Iv i H'->SqL K H' a xs)
   (step:∀ i x H' (N:St->Hp->Prop),xs[i]?=some x->Iv i H'->(∀ H2,Iv (i+1) H2->N (σc.set j (some x)) H2)->tif (σc.set j (some x)) H' fun b H4=>if b=true then zo1 D telt N (σc.set j (some x)) H4 else N (σc.set j (some x)) H4)
   (q:∀ H',Iv xs.length H'->Q H') :
   ∃ W:Nat->Nat->St->Hp->Prop,(∃ m,W 0 m σc (upd H1 D (.lst []))) ∧
     ∀ i m σ' H',W i m σ' H'->((Itl K a).stop i H'/\Q H')\/((Itl K a).go i H'/\∃ N:St->Hp->Prop,(∀ σ2 H2,N σ2 H2->∃ m',m'<m/\W (i+1) m' σ2 H2) ∧
       ∀ v H2,(Itl K a).yld i H' v H2->zl0 j v σ' H2 fun σ3 H3=>tif σ3 H3 fun b H4=>if b=true then zo1 D telt N σ3 H4 else N σ3 H4):=by
 refine zG3 (J:=Itl K a) (n:=xs.length) (x:=fun i=>xs.getD i .non) Iv h0 (fun i H' hi iv=>⟨xs,xs[i],hs _ _ iv,by simp[hi]⟩) (fun H' iv=>⟨xs,hs _ _ iv,Nat.le_refl _⟩) (fun i v H' H2 hi iv y=>?_) (fun i H' N hi iv hN=>?_) q
 . obtain ⟨e,y⟩:=y
   have:=y xs (hs _ _ iv)
   exact⟨e,by rw[List.getD_eq_getElem?_getD,this];rfl⟩
 . have e:xs[i]?=some (xs.getD i .non):=by rw[List.getD_eq_getElem?_getD,List.getElem?_eq_getElem hi];rfl
   exact step i _ H' N e iv hN
end L2
/-! EXCEPTIONS WITH THEIR DICT,1: the flight -/
namespace L2
open PySem PySem.Spec PyProof.Rows
section
variable {M:Model} {A:Around} {E:Value->Shared->Prop} {s:Shared} {base:Heap} {env:Env} {outer l:List Env} {L e:Addr} {cls fl:Value} {od:Option Addr} {Q:Unit->Shared->Prop}
end
end L2
/-! EXCEPTIONS WITH THEIR DICT,2: raised,passing frames,caught -/
namespace L2
open PySem PySem.Spec PyProof.Rows
section
variable {P:Program} {w:World} {K:PySem.W.Frag} {mg:Str->Option Value} {base:Heap} {N:List Str} {qual:Str} {scope:Scope} {f:Addr} {cd:Value} {A:Around} {outer:List Env} {s:Shared} {H:Hp} {E:XK}
end
section
variable {X:Cx} {CX:CXT} {k:Nat} {f C:Addr} {fd:FuncData} {ps:List Str} {sp:Sp} {dvs:List V} {ds:List Value} {E Ei:XK} {x m:Str} {p pos cpos apos:Pos} {e:Expr} {es:List Expr} {t:TA}
end
/-! ### try .. except D as n -/
section
variable {X:Cx} {pins pins':List (Addr×Obj)} {σ:St} {H:Hp} {s:Shared} {Ex:St->XK} {D:Ends} {fl:Flow}
end
section
variable {X:Cx} {D:Addr} {Ex:St->XK} {x n:Str} {i:Nat} {p pos hpos:Pos} {body suite:List Stmt} {b₀:Stmt} {tb th:TS}
end
end L2
/-! EXCEPTIONS WITH THEIR DICT,3: a landed exception's fields,isinstance of it -/
namespace L2
open PySem PySem.Spec PyProof.Rows
/-! ### an exception is asked: its __getattribute__ is BaseException's -/
section
variable {X:Cx} {pins:List (Addr×Obj)} {σ:St} {H:Hp} {s:Shared}
theorem kit_self {K:PySem.W.Frag} {C:Addr}:PySem.W.kitOne K (.ref C) (.ref C)=some true:=by
 unfold PySem.W.kitOne
 rw[if_pos (by simp)]
end
/-! ### readings that name K itself -/
end L2
/-! TEXTS over the layer: methods,slices,walks,int of a text,all of bools -/
namespace L2
open PySem PySem.Spec PyProof.Rows
section
variable {X:Cx}
theorem strsAre_of:∀ {ys:List Str} {us:List Value},Vals (ys.map V.str) us->StrsAre us ys:=by
 intro ys
 induction ys with
 | nil=>intro us r;rw[List.map_nil] at r;cases r;exact .nil
 | cons y ys ih =>
   intro us r
   rw[List.map_cons] at r
   cases r with
   | cons r1 r2 =>
     obtain ⟨t,e⟩:=r1
     subst e
     exact .cons y t (ih r2)
theorem zB9:∀ (l:List (Str×Tok)),Vals ((l.map (·.1)).map V.str) (strValues l)
 | []=>.nil
 | (y,t)::l=>.cons ⟨t,rfl⟩ (zB9 l)
noncomputable def rStarts:V->List V->Hp->VK->Prop:=fun x vs H Q=>∃ z y,x = .str z/\vs=[.str y]/\Q (.bl (Txt.startswith z y)) H
theorem zC0:MtR X "str.startswith" rStarts:=by
 intro pins s σ H x vs v us Q I rx rv h
 obtain ⟨z,y,rfl,rfl,q⟩:=h
 obtain ⟨t,rfl⟩:=rx
 obtain ⟨u,rfl,t',rfl⟩:=rv.one
 exact SC.startswith ⟨.bl _,H,I,rfl,q⟩
noncomputable def rIsdig:V->List V->Hp->VK->Prop:=fun x vs H Q=>∃ z,x = .str z/\vs=[]/\Q (.bl (Txt.isdigit z)) H
theorem mt_isdig:MtR X "str.isdigit" rIsdig:=by
 intro pins s σ H x vs v us Q I rx rv h
 obtain ⟨z,rfl,rfl,q⟩:=h
 obtain ⟨t,rfl⟩:=rx
 have hus:=rv.zero
 subst hus
 exact SC.isdigit ⟨.bl _,H,I,rfl,q⟩
noncomputable def rJoin (K:PySem.W.Frag):V->List V->Hp->VK->Prop:=fun x vs H Q=>∃ (z:Str) (l:Addr) (ys:List Str),x = .str z/\vs=[.ref l]/\SqL K H l (ys.map V.str)/\(ys.map (·.length)).sum+ys.length*z.length<=16777216/\Q (.str (Txt.join z ys)) H
theorem zJ0:MtR X "str.join" (rJoin X.K):=by
 intro pins s σ H x vs v us Q I rx rv h
 obtain ⟨z,l,ys,rfl,rfl,hS,hz,q⟩:=h
 obtain ⟨t,rfl⟩:=rx
 obtain ⟨u,rfl,ru⟩:=rv.one
 cases ru
 obtain ⟨its,r,p,_⟩:=I.list hS
 exact join_list p.isList (strsAre_of r) hz fun t' k=>⟨.str (Txt.join z ys),H,I.tok _,⟨_,rfl⟩,q⟩
noncomputable def rSplit:V->List V->Hp->VK->Prop:=fun x vs H Q=>∃ (z y:Str),x = .str z/\vs=[.str y]/\(y.length == 0)=false/\z.length<=1000000/\∀ l,H l=none->Q (.ref l) (upd H l (.lst ((Txt.split z y).map V.str)))
theorem mt_split:MtR X "str.split" rSplit:=by
 intro pins s σ H x vs v us Q I rx rv h
 obtain ⟨x,y,rfl,rfl,hy,hz,q⟩:=h
 obtain ⟨t,rfl⟩:=rx
 obtain ⟨_,rfl,u,rfl⟩:=rv.one
 have hsl:sizeLine=16777216:=by decide
 have hq:=q _ I.fresh
 have hlen:=split_le x y
 have fin:∀ (l:List (Str×Tok)) (k:Nat),l.map (·.1)=Txt.split x y->EP X pins σ Q (.ref s.heap.objs.size) { s with heap:=s.heap.push { cls:=.type "list",data:=.seq (strValues l).toArray },toks:=k }:=fun l k e=>by
   refine⟨.ref s.heap.objs.size,_,?_,rfl,hq⟩
   have hv:=zB9 l
   rw[e] at hv
   exact I.lnew hv (by rw[List.length_map];omega)
 cases h1:(decide (x.length<y.length) || decide (Builtin.Str.strKind x<Builtin.Str.strKind y))
 . cases hf:(Builtin.Str.occurrences x y 0 x.length (x.length+1)).isEmpty
   . have es:Txt.split x y=Builtin.Str.partsBetween x (Builtin.Str.occurrences x y 0 x.length (x.length+1)) y.length:=(if_neg (ne_true_of_eq_false h1)).trans (if_neg (ne_true_of_eq_false hf))
     refine call_meets F.slot_str_split (typeIs_str _ _ _) F.entry_str_split (F.args_str_split_2 _ _) (meets_str_split_sep x y t u h1 hy hf (by omega) (by rw[<-es];omega)) ?_
     show EP X pins σ Q _ { s with toks:=_,heap:=s.heap.push { cls:=.type "list",data:=.seq (strsFrom s.toks (Builtin.Str.partsBetween x (Builtin.Str.occurrences x y 0 x.length (x.length+1)) y.length)).toArray } }
     rw[strsFrom_eq]
     exact fin (numbered s.toks _) _ ((numbered_texts _ _).trans es.symm)
   . exact call_meets F.slot_str_split (typeIs_str _ _ _) F.entry_str_split (F.args_str_split_2 _ _) (meets_str_split_not_found x y t u h1 hy hf)
       (fin [(x,t)] s.toks ((if_neg (ne_true_of_eq_false h1)).trans (if_pos hf)).symm)
 . exact call_meets F.slot_str_split (typeIs_str _ _ _) F.entry_str_split (F.args_str_split_2 _ _) (meets_str_split_cannot_occur x y t u h1)
     (fin [(x,t)] s.toks (if_pos h1).symm)
/-! ### x[lo:hi] of a text -/
noncomputable def rSlS:V->Option Int->Option Int->Hp->VK->Prop:=fun x lo hi H Q=>∃ z,x = .str z/\z.length<=sizeLine/\Q (.str (Txt.slice z lo hi)) H
theorem zJ1 {v:Value} {p:Option Int} (h:IsPart v p):∃ q:Option (Int×Tok),v=partValue q/\q.map (·.1)=p:=by
 cases h with
 | none=>exact⟨none,rfl,rfl⟩
 | int i t=>exact⟨some (i,t),rfl,rfl⟩
theorem zq7:SlR X rSlS:=by
 intro pins s σ H x v vl vu lo hi sl Q I rx hs pl pu h
 obtain ⟨z,rfl,hz,q⟩:=h
 obtain ⟨t,rfl⟩:=rx
 obtain ⟨l,rfl,rfl⟩:=zJ1 pl
 obtain ⟨u,rfl,rfl⟩:=zJ1 pu
 refine⟨"str",_,F.slot_str_getitem.lookup,typeIs_str _ _ _,wpAny_getItem_str_slice (l:=l) (u:=u) (st:=none) hs rfl
   (post_val_or_str ⟨Nat.le_trans (Txt.slice_le z _ _) hz,fun t' k=>⟨.str _,H,I.tok _,⟨_,rfl⟩,q⟩⟩)⟩
/-! ### int(text) -/
theorem zu5:zn7 X (.type "int") (fun xs H Q=>∃ x n,xs=[.str x]/\intText? x=some n/\x.length<=640/\Q (.int n) H):=by
 intro pins s σ H xs us Q I r h
 obtain ⟨x,n,rfl,hn,hl,q⟩:=h
 obtain ⟨u,rfl,t,rfl⟩:=zu2 r
 exact PySem.W.KIN.call_text hn hl ⟨.int n,H,I.tok _,⟨_,rfl⟩,q⟩
/-! ### all of bools -/
theorem bools_at:∀ {bs:List Bool} {us:List Value},Vals (bs.map V.bl) us->us=bs.map Value.bool:=by
 intro bs
 induction bs with
 | nil=>intro us r;rw[List.map_nil] at r;cases r;rfl
 | cons b bs ih =>
   intro us r
   rw[List.map_cons] at r
   cases r with
   | cons r1 r2 =>
     cases r1
     rw[ih r2]
     rfl
theorem all_range (bs:List Bool):((List.range bs.length).all fun i=>(bs[i]?).getD true)=bs.all id:=by
 induction bs with
 | nil=>rfl
 | cons b bs ih =>
   rw[List.length_cons,List.range_succ_eq_map,List.all_cons,List.all_map,List.all_cons]
   have e:((fun i=>((b::bs)[i]?).getD true) ∘ Nat.succ)=fun i=>(bs[i]?).getD true:=by
     funext i
     simp
   rw[e,ih]
   simp
theorem call_all (hc:X.calm=true):zn7 X (.builtin "all") (fun xs H Q=>∃ (l:Addr) (bs:List Bool),xs=[.ref l]/\SqL X.K H l (bs.map V.bl)/\Q (.bl (bs.all id)) H):=by
 intro pins s σ H xs us Q I r h
 obtain ⟨l,bs,rfl,hS,q⟩:=h
 obtain ⟨u,rfl,ru⟩:=zu2 r
 cases ru
 obtain ⟨its,rv,p,hz⟩:=I.list hS
 have ei:=bools_at rv
 have hl:=p.isList
 have hlt:l<s.heap.objs.size:=by obtain ⟨_,e,_⟩:=hl;exact Heap.lt_size e
 have hh:X.A.handled=none:=I.ok.hd hc
 refine call_all_walk (wpAny_pyIter_list hl ?_)
 refine⟨s.heap.objs.size,[s.heap.objs.size,l],[s.heap.objs.size],its.toArray.size,_,_,fun i=>(bs[i]?).getD true,rfl,Walks.list (A:=X.A.in1) hh _ l (Nat.ne_of_lt hlt) its.toArray,
   ⟨⟨_,Heap.get?_push_size _ rfl,rfl,rfl⟩,hl.push _⟩,fun i v s' Q' E' hP hQ=>?_,fun h' tk hk=>?_⟩
 . have hP':its[i]?=some v:=by simpa using hP
   rw[ei,List.getElem?_map] at hP'
   cases e:bs[i]? with
   | none=>rw[e] at hP';cases hP'
   | some b =>
     rw[e] at hP'
     cases hP'
     simp only[e,Option.getD_some] at hQ
     exact wpAny_truthy_bool hQ
 . have e:((List.range its.toArray.size).all fun i=>(bs[i]?).getD true)=bs.all id:=by
     rw[List.size_toArray,ei,List.length_map];exact all_range bs
   rw[e]
   exact⟨.bl _,H,I.kept (t':=tk) fun b x e=>hk b x (fun hm=>by rw[List.mem_singleton.mp hm] at e;exact Nat.lt_irrefl _ (Heap.lt_size e)) (Heap.get?_push_of_some _ e),rfl,q⟩
/-! ### a text walked -/
noncomputable def Its (z:Str):It:=⟨fun i _=>i<z.cps.size,fun i H x H'=>H'=H/\∃ c,z.cps[i]?=some c/\x = .str ⟨#[c]⟩,fun i _=>z.cps.size<=i⟩
noncomputable def iStr (tl:TE):TI:=fun σ H R=>tl σ H fun x H1=>∃ z,x = .str z/\R (Its z) H1
theorem zG4 {P:Program} {w:World} {K:PySem.W.Frag} {tg:Expr} {z:Str} {t:Tok} {it:Addr} {ty:String} (hty:["enumerate","zip","dict_itemiterator","dict_reverseitemiterator","odict_iterator","itertools.zip_longest","itertools.pairwise"].contains ty=false)
   (W:∀ A':Around,A'.handled=none->Walks P w A' it [it] [it] z.cps.size (SignAt z) (fun i h=>h.IsStrIter it ty z t i)) (hself:∀ (A:Around) (i:Nat) (s:Shared) (Q:Value->Shared->Prop) (E:Value->Shared->Prop),s.heap.IsStrIter it ty z t i->Q (.ref it) s->wpAny (model P w) A (pyIter (.ref it)) Q E s) :
   Turn P w K tg (Its z) [it] it (fun i h=>i<=z.cps.size/\h.IsStrIter it ty z t i) where
 mem:=by simp
 obj:=fun i h st b hb=>by
   have e:b=it:=by simpa using hb
   subst e
   obtain ⟨_,o,e,c,d⟩:=st
   exact⟨o,e,fun v z=>by rw[d] at z;cases z⟩
 keep:=fun i h h' st k=>by
   obtain ⟨hi,o,e,c,d⟩:=st
   exact⟨hi,o,k it (by simp) o e,c,d⟩
 item:=by
   intro X hP hw hK hc i pins s σ H E I hf st hg
   subst hP hw hK
   obtain ⟨f0,f1,f2,f3,f4,f5⟩:=hf it (by simp)
   refine (W X.A (I.ok.hd hc)).item i s _ _ hg st.2 fun v h' tk hP st' kp=>?_
   obtain ⟨c,u,hc',rfl⟩:=hP
   have I1:Inv X pins σ H { s with heap:=h',toks:=tk }:=I.turned (t':=tk) (fun b o hb e=>kp b o (by simpa using hb) e) f0 f1 f3 f4 f5
   obtain ⟨o,e,cc,d⟩:=id st'
   exact⟨_,rfl,zH7 (s:={ s with heap:=h',toks:=tk }) e cc d hty ⟨.str ⟨#[c]⟩,H,I1,⟨_,rfl⟩,⟨rfl,c,hc',rfl⟩,⟨hg,st'⟩,fun b hb=>(hf b hb).1⟩⟩
 done:=by
   intro X hP hw hK hc i pins s σ H E I hf st hg
   subst hP hw hK
   obtain ⟨f0,f1,f2,f3,f4,f5⟩:=hf it (by simp)
   have ei:i=z.cps.size:=Nat.le_antisymm st.1 hg
   subst ei
   exact (W X.A (I.ok.hd hc)).done s _ _ st.2 fun h' tk kp=>⟨rfl,I.turned (t':=tk) (fun b o hb e=>kp b o (by simpa using hb) e) f0 f1 f3 f4 f5⟩
 self:=fun A i s Q E st h=>hself A i s Q E st.2 h
theorem pi_str {tg l:Expr} {tl:TE} (hl:PE X l tl):PI X tg l (iStr tl):=by
 intro pins s σ H R I h
 refine thn (hl pins s σ H _ I h) fun v s1 ⟨x,H1,I1,r1,q1⟩=>?_
 obtain ⟨z,e,q⟩:=q1
 subst e
 obtain ⟨t,rfl⟩:=r1
 have fin:∀ (o:Obj) (tn:Nat->Heap->Prop),Turn X.prog X.w X.K tg (Its z) [s1.heap.objs.size] s1.heap.objs.size tn->tn 0 (s1.heap.push o)->PIE X pins σ tg R (.ref s1.heap.objs.size) { s1 with heap:=s1.heap.push o }:=fun o tn T st=>by
   refine⟨s1.heap.objs.size,[s1.heap.objs.size],tn,Its z,H1,rfl,I1.kept (t':=s1.toks) fun b o e=>Heap.get?_push_of_some _ e,T,st,fun b hb=>?_,q⟩
   have e:b=s1.heap.objs.size:=by simpa using hb
   subst e
   exact I1.fpOk (Nat.le_refl _) (I1.hok.fresh (Nat.le_refl _))
 cases ha:z.cps.all (· < 128)
 . exact wpAny_pyIter_wide ha (fin _ _ (zG4 (t:=t) (ty:="str_iterator") (by decide) (fun A' hA=>Walks.strWide hA _ z t) fun A i s Q E st h=>wpAny_pyIter_striter_wide st h) ⟨Nat.zero_le _,_,Heap.get?_push_size _ rfl,rfl,rfl⟩)
 . exact wpAny_pyIter_ascii ha (fin _ _ (zG4 (t:=t) (ty:="str_ascii_iterator") (by decide) (fun A' hA=>Walks.strAscii hA _ z t) fun A i s Q E st h=>wpAny_pyIter_striter_ascii st h) ⟨Nat.zero_le _,_,Heap.get?_push_size _ rfl,rfl,rfl⟩)
theorem comp_str {H1:Hp} {D:Addr} {z:Str} {f:Nat->V} {j:Nat} {σc:St} {telt:TE} {Q:Hp->Prop} (hn:z.cps.size<=sizeLine)
   (step:∀ c acc (R:V->Hp->Prop),c∈z.cps.toList->R (f c) (upd H1 D (.lst acc))->telt (σc.set j (some (.str ⟨#[c]⟩))) (upd H1 D (.lst acc)) R)
   (q:Q (upd H1 D (.lst (z.cps.toList.map f)))) :
   ∃ W:Nat->Nat->St->Hp->Prop,(∃ m,W 0 m σc (upd H1 D (.lst []))) ∧
     ∀ i m σ' H',W i m σ' H'->((Its z).stop i H'/\Q H')\/((Its z).go i H'/\∃ N:St->Hp->Prop,(∀ σ2 H2,N σ2 H2->∃ m',m'<m/\W (i+1) m' σ2 H2) ∧
       ∀ v H2,(Its z).yld i H' v H2->zl0 j v σ' H2 fun σ3 H3=>zu4 σ3 H3 fun b H4=>if b=true then zo1 D telt N σ3 H4 else N σ3 H4):=by
 refine zG3 (J:=Its z) (n:=z.cps.size) (x:=fun i=>.str ⟨#[z.cps.toList.getD i 0]⟩) (fun i H'=>H'=upd H1 D (.lst ((z.cps.toList.take i).map f))) rfl (fun i H' hi _=>hi) (fun H' _=>Nat.le_refl _) (fun i v H' H2 hi _ y=>?_) (fun i H' N hi iv hN=>?_) (fun H' e=>?_)
 . obtain ⟨e,c,hc,rfl⟩:=y
   refine⟨e,?_⟩
   have:z.cps.toList[i]?=some c:=by simpa using hc
   rw[List.getD_eq_getElem?_getD,this]
   rfl
 . subst iv
   have hi':i<z.cps.toList.length:=by simpa using hi
   have e:z.cps.toList[i]?=some (z.cps.toList.getD i 0):=by rw[List.getD_eq_getElem?_getD,List.getElem?_eq_getElem hi'];rfl
   dsimp only[zu4]
   refine iteT (step _ _ _ (List.mem_of_getElem? e) ⟨_,za4,by rw[List.length_map,List.length_take];omega,?_⟩)
   refine hN _ ?_
   rw[zi7,List.take_succ,List.map_append,e]
   rfl
 . rw[e,List.take_of_length_le (by simp)]
   exact q
noncomputable def zr8:List Expr->Option (List Str)
 | []=>some []
 | .Constant (.str x) _ _::r=>(zr8 r).map (x::·)
 | _=>none
theorem zJ2 {X:Cx}:∀ {es:List Expr} {ws:List Str},zr8 es=some ws->PA X es (fun _ H Q=>Q (ws.map V.str) H):=by
 intro es
 induction es with
 | nil=>intro ws h;cases h;exact za3
 | cons e r ih =>
   intro ws h
   unfold zr8 at h
   split at h
   . rename_i heq
     cases heq
   . rename_i heq
     injection heq with h1 h2
     subst h1 h2
     cases hr:zr8 r with
     | none=>rw[hr] at h;cases h
     | some vs =>
       rw[hr] at h
       injection h with h
       subst h
       exact za0 zb5 (ih hr)
   . cases h
theorem ps_lst_gen {X:Cx} {i:Nat} {x:Str} {es:List Expr} {ws:List Str} {pos pos' pos2:Pos} (h:zr8 es=some ws) (hN:X.N.Nodup) (hi:X.N[i]?=some x) (hx:Loc X.env.scope x) (hf:X.fn x=true\/X.env.scope.names.lookup x=some .local:=by first | exact .inl rfl | exact .inr rfl | assumption) :
 PS X (.Assign [.Name x pos'] (.List es pos) pos2) (tAsg (tLst (fun _ H Q=>Q (ws.map V.str) H)) (zl0 i)):=zb2 hN hi hx (zo6 (zJ2 h)) rfl hf
theorem ps_cat_gen {X:Cx} {i:Nat} {x y:Str} {es:List Expr} {ws:List Str} {pos pos' pos2 py bp:Pos} (h:zr8 es=some ws) (hN:X.N.Nodup) (hi:X.N[i]?=some x) (hx:Loc X.env.scope x) {ty:TE} (hy:PE X (.Name y py) ty) (hf:X.fn x=true\/X.env.scope.names.lookup x=some .local:=by first | exact .inl rfl | exact .inr rfl | assumption) :
 PS X (.Assign [.Name x pos'] (.BinOp (.Name y py) .Add (.List es pos) bp) pos2) (tAsg (tOp rCat ty (tLst (fun _ H Q=>Q (ws.map V.str) H))) (zl0 i)):=zb2 hN hi hx (za8 zK8 hy (zo6 (zJ2 h))) rfl hf
noncomputable def exElt (e:Expr) (j:Nat):Expr:=match e with
 | .Tuple es _ _=>es.getD j (.Constant .none 0 ⟨0,0,0,0⟩)
 | _=>.Constant .none 0 ⟨0,0,0,0⟩
/-! ### for x,y in zip(..) -/
/-! ### a list == [] -/
noncomputable def rEqE (K:PySem.W.Frag):R2:=fun x y H Q=>∃ a b xs,x = .ref a/\y = .ref b/\SqL K H a xs/\SqL K H b []/\Q (.bl xs.isEmpty) H
theorem op_eqE {X:Cx} (hu:X.A.units<cLine):OpR X (compareOp .Eq) (rEqE X.K):=by
 intro pins s σ H x y v u Q I rx ry h
 obtain ⟨a,b,xs,rfl,rfl,ha,hb,q⟩:=h
 cases rx
 cases ry
 obtain ⟨its,r,⟨o1,n1,g1,g2,_,g3⟩,hz⟩:=I.list ha
 obtain ⟨its2,r2,⟨o2,n2,g4,g5,_,g6⟩,hz2⟩:=I.list hb
 have ht:s.heap.IsList a its.toArray:=⟨o1,g1,g2,n1,g3⟩
 have ht2:s.heap.IsList b its2.toArray:=⟨o2,g4,g5,n2,g6⟩
 obtain rfl:its2=[]:=by cases r2;rfl
 cases xs with
 | nil =>
   obtain rfl:its=[]:=by cases r;rfl
   exact (PySem.SeqAt.RcAt.lists (e:=fun _=>true) ht ht2 rfl hu (fun i hi=>absurd hi (by simp))) _ _ _ _ ⟨.bl true,H,I,rfl,q⟩
 | cons x xs =>
   have hl:=r.length
   refine (PySem.SeqAt.RcAt.lists_lengths ht ht2 ?_ hu) _ _ _ _ ⟨.bl false,H,I,rfl,q⟩
   simp only[List.size_toArray,List.length_nil,<-hl,List.length_cons]
   simp
/-! ### xs.insert(i,v),0<=i<=len -/
end
end L2
/-! TEXTS: numbers,places,words -/
namespace L2
open PySem PySem.NumText
theorem zF0 {a b:Str} (h:a.cps.toList=b.cps.toList):a=b:=by
 cases a;cases b
 congr 1
 exact Array.toList_inj.mp h
theorem zz0 (a b:Str):(a++b).cps.toList=a.cps.toList++b.cps.toList:=by
 show (a.cps++b.cps).toList=_
 simp
theorem zw2 (x y:Str):Txt.split x y≠[]:=fun e=>by
 have:=PyProof.Rows.split_pos x y
 rw[e] at this
 exact absurd this (by decide)
theorem at_0 {α:Type} {x:α} {r:List α}:atI (x::r) 0=some x:=(zo0 (j:=0) (xs:=x::r) rfl)
theorem at_1 {α:Type} {x y:α} {r:List α}:atI (x::y::r) 1=some y:=(zo0 (j:=1) (xs:=x::y::r) rfl)
theorem at_2 {α:Type} {x y z:α} {r:List α}:atI (x::y::z::r) 2=some z:=(zo0 (j:=2) (xs:=x::y::z::r) rfl)
noncomputable def sI (n:Int):Str:=Str.ofString (toString n)
theorem ze1 (a b:Str):(a++b).length=a.length+b.length:=by
 show (a.cps++b.cps).size=_
 simp[Str.length]
theorem zA2 {n:Int} (h0:0<=n) (h:n<=1000000):(sI n).length<=10:=PySem.W.KT.len_num h0 (by omega)
theorem figures:(Str.ofString "0123456789").cps.toList=[48,49,50,51,52,53,54,55,56,57]:=by decide
theorem fig_in (c:Nat):(!(Builtin.Str.occurrences (Str.ofString "0123456789") ⟨#[c]⟩ 0 (Str.ofString "0123456789").length 1).isEmpty)=decide (48<=c/\c<=57):=by
 rw[StrLaws.found_one,figures]
 by_cases h:48<=c/\c<=57
 . rw[decide_eq_true h]
   have:c=48\/c=49\/c=50\/c=51\/c=52\/c=53\/c=54\/c=55\/c=56\/c=57:=by omega
   rcases this with rfl | rfl | rfl | rfl | rfl | rfl | rfl | rfl | rfl | rfl<;>decide
 . rw[decide_eq_false h]
   refine decide_eq_false fun hm=>h ?_
   simp at hm
   omega
noncomputable def zv1 (x:Int):Str:=if x=0 then Str.ofString "tray" else Str.ofString (toString x)
noncomputable def zp3 (z:Str):Bool:=if Txt.startswith z (Str.ofString "0")=true then decide (z=Str.ofString "0") else if z.length=0\/4<z.length then false else z.cps.toList.all fun c=>decide (48<=c/\c<=57)
noncomputable def ze2 (z:Str):Option Int:=if zp3 z=true then some ((digitsVal z.cps.toList:Nat):Int) else none
noncomputable def zm0 (z:Str):Option Int :=
 if z=Str.ofString "tray" then some 0 else
 match ze2 (if Txt.startswith z (Str.ofString "-")=true then Txt.slice z (some 1) none else z) with
 | none=>none
 | some n=>if n=0 then none else some (if Txt.startswith z (Str.ofString "-")=true then -n else n)
theorem zq8 {z:Str} (h:zp3 z=true):AllDigits z.cps.toList/\z.cps.toList≠[]/\z.length<=4:=by
 unfold zp3 at h
 split at h
 . have e:=of_decide_eq_true h
   subst e
   exact⟨by unfold AllDigits;decide,by decide,by decide⟩
 . split at h
   . cases h
   . rename_i h1 h2
     refine⟨fun c hc=>of_decide_eq_true (List.all_eq_true.mp h c hc),fun e=>h2 (.inl ?_),by omega⟩
     have:z.cps.toList.length=z.length:=by simp[Str.length]
     rw[<-this,e]
     rfl
theorem zC1 {z:Str} (h:zp3 z=true):intText? z=some ((digitsVal z.cps.toList:Nat):Int):=by
 obtain ⟨h1,h2,h3⟩:=zq8 h
 exact intText_digits h1 h2 (by omega)
end L2
/-! COMPREHENSIONS whose block may raise,in a def that raises -/
namespace L2
open PySem PySem.Spec PyProof.Rows
section
variable {prog:Program} {w:World} {A:Around} {R:Result->Shared->Prop} {s:Shared}
theorem compLoop_goE {elt target iter:Expr} {ifs:List Expr} {scope:Scope} {pos:Pos} {it acc:Value} {env:Env} {E0:Value->Shared->Prop} (hE:∀ e s',E0 e s'->notedBy (model prog w) A env (fun e s''=>R (.error e) s'') e s') (I:Nat->Shared->Prop)
   (turn:∀ n s,I n s->wpAny (model prog w) A (pyNext it) (fun r s1=>match r with
     | none=>R (.ok .next) s1
     | some v=>wpAny (model prog w) A (letOwnedTupleGo target it v) (fun _ s1'=>wpAny (model prog w) A (assign target env v) (fun _ s2 =>
         wpAny (model prog w) A (forIn ifs true fun c r=>if r=true then do let ok <-isTrue c env (eval c env);pure (ForInStep.yield ok) else pure (ForInStep.yield r)) (fun ok s3 =>
           if ok=true then wpAny (model prog w) A (eval elt env) (fun x s4 =>
             wpAny (model prog w) A (call (.builtin "list.append") [acc,x]) (fun _ s5=>∃ m,m<n/\I m s5) E0 s4) E0 s3
           else ∃ m,m<n/\I m s3) E0 s2) E0 s1') E0 s1) E0 s)
   (n:Nat) (h:I n s) :
   codeAny (model prog w) A (.compLoop (.ListComp elt [⟨target,iter,ifs,0⟩] scope pos) 0 it acc env) R s:=by
 refine codeAny_loop rfl I (fun n s hI=>?_) n h
 show wpAny _ A ((compTurn (.ListComp elt [⟨target,iter,ifs,0⟩] scope pos) 0 it acc env).onRaise (fun x=>do noteFrame x env;theTreesLotGoes x)) _ _ s
 refine wpAny_noted ?_
 rw[compTurn_list]
 refine wpAny_bind (wpAny_standAt (wpAny_bind (wpAny_mono (turn n s hI) (fun r s1 h1=>?_) hE)))
 cases r with
 | none=>exact wpAny_pure h1
 | some v =>
   refine wpAny_bind (wpAny_mono h1 (fun _ s1' h1'=>?_) hE)
   refine wpAny_bind (wpAny_mono h1' (fun _ s2 h2=>wpAny_bind (wpAny_mono h2 (fun ok s3 h3=>?_) hE)) hE)
   cases ok with
   | false=>exact wpAny_pure ⟨rfl,h3⟩
   | true=>exact wpAny_bind (wpAny_bind (wpAny_mono h3 (fun x s4 h4=>wpAny_bind (wpAny_mono h4 (fun _ s5 h5=>wpAny_pure (wpAny_pure ⟨rfl,h5⟩)) hE)) hE))
end
noncomputable def Cx.compE (X:Cx) (scope:Scope) (cl:List (Str×Addr)) (C:Addr) (N':List Str) (s0:Shared) (H0:Hp) (fp:List Addr) (Ex:XK):Cx :=
 { X.comp scope cl C N' s0 H0 fp with xe:=fun e s1=>∃ pins σ H s,Inv (X.comp scope cl C N' s0 H0 fp) pins σ H s/\CXE X.prog X.w X.stack H s Ex e s1 }
section
variable {X:Cx} {scope:Scope} {cl:List (Str×Addr)} {C:Addr} {N':List Str} {s0:Shared} {H0:Hp} {fp:List Addr} {Ex:XK} {pins:List (Addr×Obj)} {σ:St} {H:Hp} {s:Shared}
theorem Inv.toE (I:Inv (X.comp scope cl C N' s0 H0 fp) pins σ H s):Inv (X.compE scope cl C N' s0 H0 fp Ex) pins σ H s :=
 let ok:=I.ok
 ⟨⟨ok.mod,ok.kind,ok.glob,ok.blt,ok.above,ok.inj,ok.has,ok.cab,ok.hd,ok.frames,ok.stk,ok.exf,ok.bs,ok.bsz,ok.noex,ok.exfs,ok.funs,ok.frf⟩,I.os,I.bare,I.base,I.loc,I.cell,I.free,I.freeC,I.pin,I.hok,I.len⟩
theorem Inv.ofE (I:Inv (X.compE scope cl C N' s0 H0 fp Ex) pins σ H s):Inv (X.comp scope cl C N' s0 H0 fp) pins σ H s :=
 let ok:=I.ok
 ⟨⟨ok.mod,ok.kind,ok.glob,ok.blt,ok.above,ok.inj,ok.has,ok.cab,ok.hd,ok.frames,ok.stk,ok.exf,ok.bs,ok.bsz,ok.noex,ok.exfs,ok.funs,ok.frf⟩,I.os,I.bare,I.base,I.loc,I.cell,I.free,I.freeC,I.pin,I.hok,I.len⟩
theorem passes_compE:zn1 (CXE X.prog X.w) (X.compE scope cl C N' s0 H0 fp Ex) Ex:=fun pins σ H s e s' I q=>⟨pins,σ,H,s,I.ofE,q⟩
end
section
variable {X:Cx} {scope:Scope} {N':List Str} {ix:List (Option Nat)} {tg iter elt:Expr} {ifs:List Expr} {pos:Pos} {wi:TI} {g:TG} {tif:TT} {telt:TE}
theorem comp_blockE {Ex:XK} {RR:Value->Addr->Result->Shared->Prop} {pins:List (Addr×Obj)} {σ:St} {s2:Shared} {H2:Hp} {it:Addr} {fp:List Addr} {tn:Nat->Heap->Prop} {J:It} {cl:List (Str×Addr)} {Q:VK} {E:Value->Shared->Prop}
   (hc:X.calm=true) (S:ze5 X.N X.env.scope scope N' ix)
   (c1:∀ x c,cl.lookup x=some c->X.env.cells.lookup x=some c) (c2:∀ y∈scope.names,y.2 = .free->∃ c,cl.lookup y.1=some c)
   (hg:∀ cl C s0 H0 fp,PG (X.compE scope cl C N' s0 H0 fp Ex) tg g) (hif:∀ cl C s0 H0 fp,PIfs (X.compE scope cl C N' s0 H0 fp Ex) ifs tif) (he:∀ cl C s0 H0 fp,PE (X.compE scope cl C N' s0 H0 fp Ex) elt telt)
   (I2:Inv X pins σ H2 s2) (T:Turn X.prog X.w X.K tg J fp it tn) (st2:tn 0 s2.heap) (f2:∀ b∈fp,FpOk X pins H2 b)
   (body:∀ D,H2 D=none->∃ W:Nat->Nat->St->Hp->Prop,(∃ m,W 0 m (selS ix σ) (upd H2 D (.lst []))) ∧
     ∀ i m σ' H',W i m σ' H'->(J.stop i H'/\Q (.ref D) H')\/(J.go i H'/\∃ N:St->Hp->Prop,(∀ σ2 H2,N σ2 H2->∃ m',m'<m/\W (i+1) m' σ2 H2) ∧
       ∀ x H2,J.yld i H' x H2->g x σ' H2 fun σ3 H3=>tif σ3 H3 fun b H4=>if b=true then zo1 D telt N σ3 H4 else N σ3 H4))
   (hRR:∀ D C s3 s' H' m,Inv X pins σ H' s'->s2.heap.objs.size<=s3->s3<=C->s'.heap.Ns C m->FpOk X pins H' C->HOk X.prog X.w H' s'.heap->Q (.ref D) H'->RR (.ref D) C (.ok .next) s')
   (hex:X.ex=[]) (hRE:∀ D C a cls s3 s' H' m,Inv X pins σ H' s'->X.s₀.heap.objs.size<=s3->s3<=C->s'.heap.Ns C m->FpOk X pins H' C->Fly s'.heap H' X.s₀.heap a cls->Ex cls none H'->notedBy (model X.prog X.w) X.A X.env (fun e s''=>RR (.ref D) C (.error e) s'') (.ref a) s') :
   wpAny (model X.prog X.w) X.A (newList []) (fun acc s3=>wpAny (model X.prog X.w) X.A (newFunctionEnv scope X.env.globals cl [] X.env.qual none .none (some X.env)) (fun cenv s4 =>
     codeAny (model X.prog X.w) X.A (.compStart (.ListComp elt [⟨tg,iter,ifs,0⟩] scope pos) 0 (.ref it) acc { cenv with scope:=relabel scope X.env }) (RR acc cenv.locals) s4) E s3) E s2:=by
 have hlt2:∀ b∈fp,b<s2.heap.objs.size:=fun b hb=>by
   obtain ⟨o,e,_⟩:=T.obj _ _ st2 b hb
   exact Heap.lt_size e
 obtain ⟨W,⟨m0,w0⟩,turn⟩:=body s2.heap.objs.size I2.fresh
 refine wpAny_newObj_type (wpAny_newFunctionEnv S.nocell (by intro y hy;simp at hy) (fun h1 hns1 hsb1=>?_) S.kind)
 dsimp only at hns1 hsb1 ⊢
 have I3:Inv X pins σ (upd H2 s2.heap.objs.size (.lst [])) { s2 with heap:=s2.heap.push { cls:=.type "list",dict:=none,data:=.seq ([]:List Value).toArray } } :=
   Inv.lnew (its:=[]) (t':=s2.toks) I2 .nil (Nat.zero_le _)
 generalize hs3:({ s2 with heap:=s2.heap.push { cls:=.type "list",dict:=none,data:=.seq ([]:List Value).toArray } }:Shared)=s3 at I3
 have hh3:s3.heap=s2.heap.push { cls:=.type "list",dict:=none,data:=.seq ([]:List Value).toArray }:=by rw[<-hs3]
 have hsz3:s3.heap.objs.size=s2.heap.objs.size+1:=by rw[hh3,Heap.size_push]
 have hsh:({ s2 with heap:=h1,toks:=s2.toks+([]:List (Str×Value)).length }:Shared) = { s3 with heap:=h1,toks:=s2.toks+([]:List (Str×Value)).length }:=by rw[<-hs3]
 rw[<-hh3] at hns1 hsb1 ⊢
 have fpD:∀ b∈fp,b≠s2.heap.objs.size:=fun b hb=>Nat.ne_of_lt (hlt2 b hb)
 have f3:∀ b∈fp,FpOk X pins (upd H2 s2.heap.objs.size (.lst [])) b:=fun b hb=>⟨by rw[za7 (fpD b hb)];exact (f2 b hb).1,(f2 b hb).2⟩
 have old:∀ b o,s3.heap.get? b=some o->h1.get? b=some o:=fun b o e=>hsb1.extBut b o (Nat.ne_of_lt (Heap.lt_size e)) (Heap.get?_push_of_some _ e)
 have J4:Inv (X.comp scope cl s3.heap.objs.size N' s3 (upd H2 s2.heap.objs.size (.lst [])) fp) [] (selS ix σ) (upd H2 s2.heap.objs.size (.lst [])) { s3 with heap:=h1,toks:=s2.toks+([]:List (Str×Value)).length } :=
   I3.comp S f3 (fun b hb=>Nat.lt_of_lt_of_le (hlt2 b hb) (by rw[hsz3];exact Nat.le_succ _)) c1 c2 hns1 old
 have st4:tn 0 h1:=T.keep _ _ _ st2 fun b hb o e=>old b o (by rw[hh3];exact Heap.get?_push_of_some _ e)
 generalize hCC:s3.heap.objs.size=C at *
 have J4':=J4.toE (Ex:=Ex)
 generalize hX':X.compE scope cl C N' s3 (upd H2 s2.heap.objs.size (.lst [])) fp Ex=X' at J4'
 have stat:∀ {H':Hp},(∀ b∈fp,H' b=none)->∀ b∈fp,FpOk X' [] H' b:=fun {H'} hn b hb=>by
   subst hX'
   refine⟨hn b hb,(J4'.ok.exf b hb).1,J4'.ok.exfs b hb,.inl hb,(J4'.ok.exf b hb).2,fun p hp=>(by cases hp)⟩
 rw[hsh]
 have HERR:∀ e s',X'.xe e s'->notedBy (model X.prog X.w) X.A (compEnvC scope cl C X.env) (fun e s''=>RR (.ref s2.heap.objs.size) C (.error e) s'') e s':=fun e s' hxe=>by
   subst hX'
   obtain ⟨pi0,σ0,H0,s0,I0,a,cls,H',rfl,os,bare,un,ok,fl,qq⟩:=hxe
   have I00:Inv X pins σ H0 s0:=I3.uncomp f3 (Nat.le_of_eq hCC) (I0.pins_of fun p hp=>nomatch hp)
   have J0:=I0.call' (ch:=[]) os un ok bare fun b z=>nomatch z
   obtain ⟨m,hnm,_⟩:=J0.loc
   have J7:Inv X pins σ H' s':=I3.uncomp f3 (Nat.le_of_eq hCC) (J0.pins_of fun p hp=>nomatch hp)
   have fp7:FpOk X pins H' C:=I3.fpOk (H':=H') (b:=C) (by omega) J0.free
   have fl':Fly s'.heap H' X.s₀.heap a cls:=fl.from fun b o z=>I00.base.there b o z (by rw[hex];exact fun z=>nomatch z)
   exact hRE s2.heap.objs.size C a cls s3.heap.objs.size s' H' m J7 I3.sz (by omega) hnm fp7 fl' qq
 have loop:codeAny (model X.prog X.w) X.A (.compLoop (.ListComp elt [⟨tg,iter,ifs,0⟩] scope pos) 0 (.ref it) (.ref s2.heap.objs.size) (compEnvC scope cl C X.env)) (RR (.ref s2.heap.objs.size) C) { s3 with heap:=h1,toks:=s2.toks+([]:List (Str×Value)).length }:=by
   refine compLoop_goE (E0:=X'.xe) HERR (fun n s'=>∃ i σ' H',Inv X' [] σ' H' s'/\tn i s'.heap/\(∀ b∈fp,H' b=none)/\W i n σ' H') ?_ m0 ⟨0,_,_,J4',st4,fun b hb=>(f3 b hb).1,w0⟩
   rintro n s5 ⟨i,σ5,H5,I5,st5,fr5,w5⟩
   rcases turn i n σ5 H5 w5 with ⟨stop,qn⟩ | ⟨go,N,hN,step⟩
   . have td:=T.done X' (by subst hX';rfl) (by subst hX';rfl) (by subst hX';rfl) (by subst hX';exact hc) i [] s5 σ5 H5 X'.xe I5 (stat fr5) st5 stop
     have eA:X'.A=X.A:=by subst hX';rfl
     rw[eA] at td
     refine thn td fun r s6 ⟨hr,I6⟩=>?_
     subst hr
     subst hX'
     obtain ⟨m,hnm,_⟩:=I6.loc
     have I7:Inv X pins σ H5 s6:=I3.uncomp f3 (Nat.le_of_eq hCC) I6.ofE
     refine hRR s2.heap.objs.size C s3.heap.objs.size s6 H5 m I7 (by omega) (by omega) hnm ?_ I6.hok qn
     have q:=I3.fpOk (H':=H5) (b:=C) (by omega) I6.free
     exact q
   . have ti:=T.item X' (by subst hX';rfl) (by subst hX';rfl) (by subst hX';rfl) (by subst hX';exact hc) i [] s5 σ5 H5 X'.xe I5 (stat fr5) st5 go
     have eA:X'.A=X.A:=by subst hX';rfl
     rw[eA] at ti
     refine thn ti fun r s6 ⟨u,hr,h6⟩=>?_
     subst hr
     refine thn h6 fun _ s7 ⟨x,H7,I7,r7,y7,st7,fr7⟩=>?_
     have I7':=I7.pinned (stat fr7) (T.obj _ _ st7)
     have again:∀ {pl:List (Addr×Obj)} {σ8:St} {H8:Hp} {s8:Shared},Inv X' ([]++zr5 fp s7.heap) σ8 H8 s8->N σ8 H8->∃ m,m<n/\∃ i σ' H',Inv X' [] σ' H' s8/\tn i s8.heap/\(∀ b∈fp,H' b=none)/\W i m σ' H':=fun {pl σ8 H8 s8} I8 n8=>by
       obtain ⟨m',hm,w8⟩:=hN σ8 H8 n8
       refine⟨m',hm,i+1,σ8,H8,I8.unpinned,T.keep _ _ _ st7 fun b hb o e=>(I8.pin (b,o) (List.mem_append_right _ (List.mem_append_right _ (zk2 hb e)))).1,fun b hb=>?_,w8⟩
       obtain ⟨o,e,d⟩:=T.obj _ _ st7 b hb
       exact (I8.pin (b,o) (List.mem_append_right _ (List.mem_append_right _ (zk2 hb e)))).2.1
     have eE:X'.env=compEnvC scope cl C X.env:=by subst hX';rfl
     have eP:X'.prog=X.prog:=by subst hX';rfl
     have eW:X'.w=X.w:=by subst hX';rfl
     have hg':PG X' tg g:=by subst hX';exact hg _ _ _ _ _
     have hif':PIfs X' ifs tif:=by subst hX';exact hif _ _ _ _ _
     have he':PE X' elt telt:=by subst hX';exact he _ _ _ _ _
     have a1:=hg' _ s7 σ5 H7 x u _ I7' r7 (step x H7 y7)
     rw[eE,eP,eW,eA] at a1
     refine thn a1 fun _ s8 ⟨σ8,H8,I8,q8⟩=>?_
     have a2:=hif' _ s8 σ8 H8 _ I8 q8
     rw[eE,eP,eW,eA] at a2
     refine thn a2 fun ok s9 ⟨H9,I9,q9⟩=>?_
     cases ok with
     | false=>exact again (pl:=[]) I9 q9
     | true =>
       have q9':zo1 s2.heap.objs.size telt N σ8 H9:=q9
       have a3:=he' _ s9 σ8 H9 _ I9 q9'
       rw[eE,eP,eW,eA] at a3
       show wpAny _ _ _ _ _ _
       refine thn a3 fun y s10 ⟨v,H10,I10,r10,acc,hD,hl,n10⟩=>?_
       obtain ⟨hz,its,k,rv,hgD⟩:=I10.hok s2.heap.objs.size _ hD
       have hlen:=rv.length
       refine wpAny_list_append_plain (hsz:=by rw[List.size_toArray,<-hlen];exact Nat.le_of_lt hl) ⟨k,hgD⟩ fun h11 hl11 hs11=>?_
       obtain ⟨k',hk'⟩:=hl11
       have ep:(its.toArray.push y)=(its++[y]).toArray:=by simp
       rw[ep] at hk'
       have I11:Inv X' ([]++zr5 fp s7.heap) σ8 (upd H10 s2.heap.objs.size (.lst (acc++[v]))) { s10 with heap:=h11 } :=
         I10.write (x:=s2.heap.objs.size) (e:=s2.heap.objs.size) (t':=s10.toks) (by rw[hD];exact trivial) (.inl rfl) (fun b o hb e=>hs11.extBut b o hb e) ⟨_,hk'⟩ ⟨by rw[List.length_append];exact hl,its++[y],k',rv.append (.cons r10 .nil),hk'⟩
       exact again (pl:=[]) I11 n10
 exact codeAny_compStart_list loop (T.self _ 0 _ _ _ st4 loop)
end
/-! ### the way of an exception out of a block -/
section
variable {M:Model} {A:Around} {E:Value->Shared->Prop} {s:Shared}
theorem zh7 {h:Heap} {T b:Addr} {v:Value} (hb:b≠T):(h.update T (Obj.mapFields (·.setIfInBounds 3 v))).get? b=h.get? b:=Heap.get?_update_other _ _ (Ne.symm hb)
theorem setFlight_any {B:Heap} {l:List Env} {x:Addr} {cls a0 fl:Value} {fr:Option Addr} {Q:Unit->Shared->Prop} (hB:B.StaysIn s.heap) (hl:s.heap.FunFrames B l) (ht:s.heap.TracedAtW B x cls a0 fl)
   (h:∀ h',B.StaysIn h'->h'.FunFrames B l->h'.TracedAtW B x cls a0 (fr.elim .none fun f=>rawInt f)->(∀ b o,s.heap.get? b=some o->(∀ vs,o.data≠.fields vs)->h'.get? b=some o)->Q () { s with heap:=h' }) :
   wpAny M A (setFlight (.ref x) fr) Q E s:=by
 obtain ⟨ox,us,T,oT,ts,gx,cx,dx,u1,nT,neT,gT,dT,t3⟩:=ht
 have apart:∀ b o,s.heap.get? b=some o->(∀ vs,o.data≠.fields vs)->b≠T:=fun b o gb nf z=>by
   subst z
   rw[gT] at gb
   cases gb
   exact nf _ dT
 have lt3:3<ts.size:=(Array.getElem?_eq_some_iff.mp t3).1
 unfold setFlight
 refine wpAny_bind (wpAny_field gx dx u1 ?_)
 rw[if_pos (by simp)]
 refine wpAny_setField gT dT lt3 (h _ (fun b o gb=>?_) (hl.of_keeps fun b o gb nf=>⟨o,(zh7 (apart b o gb nf)).trans gb,rfl⟩) ?_ fun b o gb nf=>(zh7 (apart b o gb nf)).trans gb)
 . have nb:b≠T:=fun z=>by rw[z,nT] at gb;cases gb
   exact (zh7 nb).trans (hB b o gb)
 . refine⟨ox,us,T,_,_,(zh7 neT.symm).trans gx,cx,dx,u1,nT,neT,Heap.get?_update_self _ gT (Obj.isFreed_of_fields (Obj.data_mapFields dT _)),Obj.data_mapFields dT _,?_⟩
   simp[lt3]
theorem leaving_any {B:Heap} {env:Env} {outer:List Env} {L x:Addr} {cls a0 fl:Value} {Q:Unit->Shared->Prop} (hfr:A.frames=some (env::outer)) (hf:env.frame=some L)
   (hB:B.StaysIn s.heap) (hx:B.get? x=none) (hl:s.heap.FunFrames B (env::outer)) (ht:s.heap.TracedAtW B x cls a0 fl)
   (h:∀ h',Heap.FlyingW B (env::outer) x cls a0 h'->s.heap.UpToSlots h'->Q () { s with heap:=h' }):wpAny M A (leaving env (.ref x)) Q E s:=by
 by_cases hL:fl=rawInt L
 . subst hL
   unfold leaving
   exact wpAny_bind (wpAny_noteFrame_againW hf ht (wpAny_landsW ⟨hB,hx,hl,ht⟩ fun h' f u=>h h' f u))
 . obtain ⟨ox,us,T,oT,ts,gx,cx,dx,u1,nT,neT,gT,dT,t3⟩:=ht
   have apart:∀ b o,s.heap.get? b=some o->(∀ vs,o.data≠.fields vs)->b≠T:=fun b o gb nf z=>by
     subst z
     rw[gT] at gb
     cases gb
     exact nf _ dT
   unfold leaving
   refine wpAny_bind ?_
   unfold noteFrame
   simp only[hf]
   refine wpAny_bind (wpAny_field gx dx u1 ?_)
   rw[if_pos (by simp)]
   refine wpAny_bind (wpAny_field gT dT t3 ?_)
   rw[if_neg (by simpa using hL)]
   refine wpAny_bind (wpAny_setField gT dT (Array.getElem?_eq_some_iff.mp t3).1 ?_)
   refine wpAny_entryW hfr (hl.of_keeps fun b o gb nf=>⟨o,(zh7 (apart b o gb nf)).trans gb,rfl⟩) hf ((zh7 neT.symm).trans gx)
     (fun b o gb=>(zh7 fun z=>by rw[z,nT] at gb;cases gb).trans (hB b o gb)) hx dx (Array.getElem?_eq_some_iff.mp u1).1 cx.2 fun h1 ⟨n1,n2,n3,n4⟩=>?_
   rw[cx.1] at n3
   refine wpAny_landsW ⟨n1,hx,n2,n3⟩ fun h2 f u=>h h2 f ?_
   intro b o gb nf
   obtain ⟨sl,e1⟩:=n4 b o ((zh7 (apart b o gb nf)).trans gb) nf
   exact u b { o with slots:=sl } e1 nf
end
theorem zu6 {h h' B:Heap} {C:Addr} (k:Heap.SameBut C h h'):∀ {l:List Env},C∉frs l->h.FunFrames B l->h'.FunFrames B l
 | [],_,_=>trivial
 | env::l,hC,⟨a1,⟨L,o,hf,b1,b2,b3⟩,r⟩=>by
   have hL:L≠C:=fun z=>hC (by
     unfold frs
     rw[List.filterMap_cons,hf]
     exact List.mem_cons.mpr (.inl z.symm))
   refine⟨a1,⟨L,o,hf,b1,(k.2 L hL).trans b2,b3⟩,zu6 k (fun z=>hC ?_) r⟩
   unfold frs at z ⊢
   rw[List.filterMap_cons,hf]
   exact List.mem_cons_of_mem _ z
theorem stationC {P:Program} {w:World} {fs ts:List Addr} {l l':List Env} {H0 H:Hp} {h0 h1 h2 B:Heap} {a:Addr} {cls a0:Value} (u:Un fs [] H0 H h0 h1) (ok:HOk P w H h1) (ff:h1.FunFrames B l)
   (hl:∀ b∈frs l,(b∈fs\/h0.get? b=none)/\H b=none) (ha:H a=none/\h0.get? a=none) (hts:∀ T∈ts,H T=none/\h0.get? T=none)
   (x:Heap.FlyingW (PySem.W.hideAll h1 (a::(ts++frs l))) l' a cls a0 h2) (up:∀ b o,b∈frs l->h1.get? b=some o->(∀ vs,o.data≠.fields vs)->∃ sl,h2.get? b=some { o with slots:=sl }):Un fs [] H0 H h0 h2/\HOk P w H h2/\Fly h2 H h0 a cls:=by
 obtain ⟨st,_,_,oe,vs,T,oT,tv,e1,e2,e3,e4,e5,e6,e7,e8,e9⟩:=x
 have keep:∀ b o,b∉a::(ts++frs l)->h1.get? b=some o->h2.get? b=some o:=fun b o hb e=>st b o (PySem.W.hideAll_get _ e hb)
 have out:∀ b,b∈a::(ts++frs l)->H b=none/\(b∈frs l\/h0.get? b=none):=fun b hb=>by
   rcases List.mem_cons.mp hb with rfl | hb
   . exact⟨ha.1,.inr ha.2⟩
   . rcases List.mem_append.mp hb with hb | hb
     . exact⟨(hts b hb).1,.inr (hts b hb).2⟩
     . exact⟨(hl b hb).2,.inl hb⟩
 have slot:∀ b o,h0.get? b≠none->h1.get? b=some o->∃ sl,h2.get? b=some { o with slots:=sl }:=fun b o n e=>by
   by_cases hb:b∈a::(ts++frs l)
   . rcases (out b hb).2 with q | q
     . obtain ⟨_,o',ho,hn⟩:=ff.mem q
       rw[e] at ho;cases ho
       exact up b o q e hn
     . exact absurd q n
   . exact⟨o.slots,keep b o hb e⟩
 refine⟨⟨fun b o e n hf hx=>?_,fun b o e n hf hx=>?_,u.free,fun b o e hx=>?_,u.tups,u.frzs,u.tbls⟩,fun b o q=>?_,ha,T,a0,?_,oe,vs,oT,tv,e1,e2,e3,e4,e6,e7,e8,e9⟩
 . refine keep b o (fun hb=>?_) (u.keep b o e n hf hx)
   rcases (out b hb).2 with q | q
   . rcases (hl b q).1 with q | q
     . exact hf q
     . rw[e] at q;cases q
   . rw[e] at q;cases q
 . obtain ⟨sl,q⟩:=u.slot b o e n hf hx
   obtain ⟨sl',q'⟩:=slot b _ (by rw[e];simp) q
   exact⟨sl',q'⟩
 . obtain ⟨o',q⟩:=u.there b o e hx
   obtain ⟨sl',q'⟩:=slot b _ (by rw[e];simp) q
   exact⟨_,q'⟩
 . refine (ok b o q).stay (fun c v hc qv=>keep c v (fun hm=>?_) qv) (fun _ z=>z) fun _ _ z=>z
   have n:=(out c hm).1
   rcases hc with rfl | hc
   . rw[q] at n;cases n
   . rw[hc] at n;cases n
 . by_cases hm:T∈a::(ts++frs l)
   . rcases List.mem_cons.mp hm with z | hm
     . exact absurd z e6
     . rcases List.mem_append.mp hm with hm | hm
       . exact hts T hm
       . obtain ⟨_,o',ho,hn⟩:=ff.mem hm
         obtain ⟨sl,z⟩:=up T o' hm ho hn
         rw[e7] at z;cases z
         exact absurd e8 (hn tv)
   . have n1:h1.get? T=none:=by
       cases q:h1.get? T with
       | none=>rfl
       | some o=>rw[PySem.W.hideAll_get _ q hm] at e5;cases e5
     refine⟨?_,?_⟩
     . cases q:H T with
       | none=>rfl
       | some o=>obtain ⟨ob,z⟩:=(ok T o q).got;rw[n1] at z;cases z
     . cases q:h0.get? T with
       | none=>rfl
       | some o=>obtain ⟨ob,z⟩:=u.there T o q (by simp);rw[n1] at z;cases z
section
variable {P:Program} {w:World} {K:PySem.W.Frag} {mg:Str->Option Value} {base:Heap} {N:List Str} {qual:Str} {scope:Scope} {f:Addr} {cd:Value} {A:Around} {outer:List Env} {s:Shared} {H:Hp} {E:XK}
theorem leaves_block {pins:List (Addr×Obj)} {σ:St} {Q:Value->Shared->Prop} {D C a:Addr} {cls:Value} {n3:Nat} {s':Shared} {H':Hp} {m:Str->Option Value} {us:Option (Value->Sem Unit)}
   (I:Inv (cxOf (CXE P w) P w K mg base N qual scope f cd A outer s H E) pins σ H' s') (hn:s.heap.objs.size<=n3) (hC:n3<=C) (hN:s'.heap.Ns C m) (fC:FpOk (cxOf (CXE P w) P w K mg base N qual scope f cd A outer s H E) pins H' C) (fl:Fly s'.heap H' s.heap a cls) (q:E cls none H') :
   notedBy (model P w) (A.deeper (envOfC qual scope s.heap.objs.size f cd)) (envOfC qual scope s.heap.objs.size f cd) (fun e s''=>compPost (model P w) (A.deeper (envOfC qual scope s.heap.objs.size f cd)) (cxOf (CXE P w) P w K mg base N qual scope f cd A outer s H E).xe us Q (.ref D) C (.error e) s'') (.ref a) s':=by
 obtain ⟨f0,f1,f2,f3,f4,f5⟩:=fC
 have ff:=I.stack
 obtain ⟨T,a0,z,fw⟩:=fl.flying ff
 have hC0:s.heap.get? C=none:=Heap.get?_none_of_le (Nat.le_trans hn hC)
 have hCf:C∉frs (cxOf (CXE P w) P w K mg base N qual scope f cd A outer s H E).stack:=fun hm=>by
   rcases List.mem_cons.mp (I.stkSub C hm) with e | e
   . exact f1 e
   . exact f2 e
 have kk:(PySem.W.hideAll s'.heap (a::([T,C]++frs (cxOf (CXE P w) P w K mg base N qual scope f cd A outer s H E).stack))).StaysIn (PySem.W.hideAll s'.heap (a::([T]++frs (cxOf (CXE P w) P w K mg base N qual scope f cd A outer s H E).stack))):=fun b o gb=>by
   refine PySem.W.hideAll_get _ (PySem.W.of_hideAll _ gb) fun hm=>?_
   have:b∈a::([T,C]++frs (cxOf (CXE P w) P w K mg base N qual scope f cd A outer s H E).stack):=by
     simp only[List.mem_cons,List.mem_append,List.not_mem_nil,or_false] at hm ⊢
     rcases hm with h | h | h
     . exact .inl h
     . exact .inr (.inl (.inl h))
     . exact .inr (.inr h)
   rw[PySem.W.hideAll_none _ this] at gb
   cases gb
 have fw2:=PySem.W.flyingW_base kk fw
 have bC:(PySem.W.hideAll s'.heap (a::([T,C]++frs (cxOf (CXE P w) P w K mg base N qual scope f cd A outer s H E).stack))).get? C=none:=PySem.W.hideAll_none _ (by simp)
 generalize hB:PySem.W.hideAll s'.heap (a::([T,C]++frs (cxOf (CXE P w) P w K mg base N qual scope f cd A outer s H E).stack))=B at fw2 bC
 refine wpAny_looks_onW (L:=s.heap.objs.size) I.ok.frames rfl fw2 fun h1 held up1=>?_
 have N1:h1.Ns C m:=up1.ns hN
 refine⟨m,N1,fun h2 sb cenv _=>?_⟩
 obtain ⟨k1,k2,k3,ox,us',T1,oT,ts,gx,cx,dx,u1,nT,neT,gT,dT,t3⟩:=held
 obtain ⟨oC,es,ep,gC,dC,_⟩:=N1
 have ne1:a≠C:=fun e=>by rw[e,gC] at gx;cases gx;rw[dC] at dx;cases dx
 have ne2:T1≠C:=fun e=>by rw[e,gC] at gT;cases gT;rw[dC] at dT;cases dT
 have B2:B.StaysIn h2:=fun b o gb=>by
   have nb:b≠C:=fun e=>by rw[e,bC] at gb;cases gb
   exact (sb.2 b nb).trans (k1 b o gb)
 have gx2:=(sb.2 a ne1).trans gx
 have F2:=zu6 sb hCf k3
 have T2:h2.TracedAtW B a cls a0 (rawInt s.heap.objs.size):=⟨ox,us',T1,oT,ts,gx2,cx,dx,u1,nT,neT,(sb.2 T1 ne2).trans gT,dT,t3⟩
 unfold PySem.passOn
 refine wpAny_bind (wpAny_field gx2 dx u1 ?_)
 rw[if_neg (by simp)]
 refine wpAny_bind ?_
 refine setFlight_any (s:={ s' with heap:=h2 }) B2 F2 T2 fun h3 B3 F3 T3 kp3=>wpAny_throw ?_
 show wpAny _ _ (leaving _ (.ref a)) _ _ _
 refine leaving_any (s:={ s' with heap:=h3 }) I.ok.frames rfl B3 k2 F3 T3 fun h4 fw4 up4=>?_
 have up:∀ b o,b∈frs (cxOf (CXE P w) P w K mg base N qual scope f cd A outer s H E).stack->s'.heap.get? b=some o->(∀ vs,o.data≠.fields vs)->∃ sl,h4.get? b=some { o with slots:=sl }:=fun b o hb gb nf=>by
   obtain ⟨sl,e1⟩:=up1 b o gb nf
   have nb:b≠C:=fun e=>hCf (e▸hb)
   exact up4 b { o with slots:=sl } (kp3 b _ ((sb.2 b nb).trans e1) nf) nf
 subst hB
 obtain ⟨u,ok',fl4⟩:=stationC (ts:=[T,C]) I.base I.hok ff (fun b hb=>⟨by
     rcases List.mem_cons.mp (I.stkSub b hb) with e | e
     . right;rw[e];exact Heap.get?_none_of_le I.ok.above
     . exact .inl e,I.stkFree b hb⟩) fl.1 (fun b hb=>by
     simp only[List.mem_cons,List.not_mem_nil,or_false] at hb
     rcases hb with e | e
     . rw[e];exact z
     . rw[e];exact⟨f0,hC0⟩) fw4 up
 exact⟨a,cls,H',rfl,I.os,I.bare,u,ok',fl4,q⟩
end
section
variable {P:Program} {w:World} {K:PySem.W.Frag} {mg:Str->Option Value} {base:Heap} {N:List Str} {qual:Str} {fsc:Scope} {f:Addr} {cd:Value} {A:Around} {outer:List Env} {ss:Shared} {HH:Hp} {E:XK}
variable {scope:Scope} {N':List Str} {ix:List (Option Nat)} {tg iter elt:Expr} {ifs:List Expr} {pos:Pos} {wi:TI} {g:TG} {tif:TT} {telt:TE}
theorem ps_compE {i:Nat} {y:Str} {py spos:Pos} (hc:(cxOf (CXE P w) P w K mg base N qual fsc f cd A outer ss HH E).calm=true) (S:ze5 (cxOf (CXE P w) P w K mg base N qual fsc f cd A outer ss HH E).N (cxOf (CXE P w) P w K mg base N qual fsc f cd A outer ss HH E).env.scope scope N' ix) (hi:PI (cxOf (CXE P w) P w K mg base N qual fsc f cd A outer ss HH E) tg iter wi)
   (hg:∀ cl C s0 H0 fp,PG ((cxOf (CXE P w) P w K mg base N qual fsc f cd A outer ss HH E).compE scope cl C N' s0 H0 fp E) tg g) (hif:∀ cl C s0 H0 fp,PIfs ((cxOf (CXE P w) P w K mg base N qual fsc f cd A outer ss HH E).compE scope cl C N' s0 H0 fp E) ifs tif) (he:∀ cl C s0 H0 fp,PE ((cxOf (CXE P w) P w K mg base N qual fsc f cd A outer ss HH E).compE scope cl C N' s0 H0 fp E) elt telt)
   (hN:(cxOf (CXE P w) P w K mg base N qual fsc f cd A outer ss HH E).N.Nodup) (hy:(cxOf (CXE P w) P w K mg base N qual fsc f cd A outer ss HH E).N[i]?=some y) (hx:(cxOf (CXE P w) P w K mg base N qual fsc f cd A outer ss HH E).env.scope.names.lookup y=some .local)
   (hsw:swapsWith (.ListComp elt [⟨tg,iter,ifs,0⟩] scope pos) (some (.Name y py)) spos.line (cxOf (CXE P w) P w K mg base N qual fsc f cd A outer ss HH E).env=pure true:=by rfl)
   (hs:∀ x,foldedSetIterable iter (cxOf (CXE P w) P w K mg base N qual fsc f cd A outer ss HH E).env x=pure x:=by intro _;rfl):PS (cxOf (CXE P w) P w K mg base N qual fsc f cd A outer ss HH E) (.Assign [.Name y py] (.ListComp elt [⟨tg,iter,ifs,0⟩] scope pos) spos) (tAsg (zK9 wi ix g tif telt) (zl0 i)):=by
 intro pins s σ H D0 I h
 obtain ⟨cl,hcl,c1,c2⟩:=zu8 (scope:=scope) (env:=(cxOf (CXE P w) P w K mg base N qual fsc f cd A outer ss HH E).env) fun y hy hk=>I.ok.has y.1 (.inl (S.frees y hy hk))
 rw[exec_Assign_Name_used _ _ _ _ hsw]
 refine wpAny_bind (wpAny_standAt (wpAny_bind ?_))
 show wpAny _ _ (do let _ <-comprehension (.ListComp elt [⟨tg,iter,ifs,0⟩] scope pos) scope (cxOf (CXE P w) P w K mg base N qual fsc f cd A outer ss HH E).env _ (newList []) false (eval iter (cxOf (CXE P w) P w K mg base N qual fsc f cd A outer ss HH E).env) (some (assign (.Name y py) (cxOf (CXE P w) P w K mg base N qual fsc f cd A outer ss HH E).env))) _ _ s
 refine wpAny_bind (wpAny_mono (wpAny_comprehension_free (use:=some (assign (.Name y py) (cxOf (CXE P w) P w K mg base N qual fsc f cd A outer ss HH E).env)) (Q:=fun _ s'=>SP (cxOf (CXE P w) P w K mg base N qual fsc f cd A outer ss HH E) pins D0 .next s') rfl hs hcl S.kind S.names
   (thn (hi pins s σ H _ I h) fun xv s1 h1=>thn h1 fun itv s2 h2=>?_)) (fun _ s' hq=>wpAny_pure (wpAny_pure hq)) fun _ _ e=>e)
 obtain ⟨it,fp,tn,J,H2,e,I2,T,st2,f2,body⟩:=h2
 subst e
 refine comp_blockE (Ex:=E) (RR:=fun acc C=>compPost (model (cxOf (CXE P w) P w K mg base N qual fsc f cd A outer ss HH E).prog (cxOf (CXE P w) P w K mg base N qual fsc f cd A outer ss HH E).w) (cxOf (CXE P w) P w K mg base N qual fsc f cd A outer ss HH E).A (cxOf (CXE P w) P w K mg base N qual fsc f cd A outer ss HH E).xe (some (assign (.Name y py) (cxOf (CXE P w) P w K mg base N qual fsc f cd A outer ss HH E).env)) (fun _ s'=>SP (cxOf (CXE P w) P w K mg base N qual fsc f cd A outer ss HH E) pins D0 .next s') acc C) (Q:=fun v H1=>zl0 i v σ H1 D0.nx) hc S c1 c2 hg hif he I2 T st2 f2 body ?_ rfl fun D C a cls n3 s' H' m I' h1 h2 hm hf fl q=>leaves_block I' h1 h2 hm hf fl q
 intro D C s3 s' H' m I' h1 h2 hm hf hok q
 obtain ⟨f0,f1,f2',f3,f4,f5⟩:=hf
 show wpAny _ _ (assign (.Name y py) (cxOf (CXE P w) P w K mg base N qual fsc f cd A outer ss HH E).env (.ref D)) _ _ _
 refine wpAny_assign_Name (zw9 I' hN hy (.inl hx) (v:=.ref D) rfl (fun s4 I4 ⟨a,sb,ha⟩=>?_) (.inr hx))
 have hCa:C≠a:=by
   rcases ha with z | z
   . rw[z];exact f1
   . exact Ne.symm (f4 y a z)
 refine⟨m,hm.sameBut sb hCa,fun h' sb'=>⟨_,H',?_,q⟩⟩
 exact I4.turned (t':=s4.toks) (fun b o hb e=>sb'.extBut b o hb e) f0 f1 f3 f4 f5
end
end L2
namespace L2
open PySem PySem.Spec PyProof.Rows
section
variable {X:Cx} {C1 C2:Addr} {E:XK} {x1 x2:Str} {p1 p2 pos hp1 hp2:Pos} {body su1 su2:List Stmt} {b₁ b₂:Stmt} {tb th1 th2:TS}
end
end L2
/-! ### sorted() of any length: the sort's own steps,over keys that are all told apart -/
namespace Sx
open PySem PyProof.Rows
section
variable {M:Model} {A:Around} {E:Value->Shared->Prop} {s:Shared}
end
end Sx
namespace Sx
open PySem PyProof.Rows
section
variable {α:Type} {R:α->α->Prop} {T out A B A1 A2 B1 B2:List α} {z:α}
end
section
variable {α:Type} {R:α->α->Prop} {T:List α}
end
end Sx
namespace Sx
open PySem PyProof.Rows
section
variable {M:Model} {A:Around} {E:Value->Shared->Prop} {s:Shared} {κ:SortKind} {lt:Keyed->Keyed->Bool} {T T':List Keyed}
end
end Sx
namespace Sx
inductive Aa6 (p0 p1 p2 p3 p4 p5:Prop):Prop | mk (h0:p0) (h1:p1) (h2:p2) (h3:p3) (h4:p4) (h5:p5):Aa6 p0 p1 p2 p3 p4 p5
inductive Aa8 (p0 p1 p2 p3 p4 p5 p6 p7:Prop):Prop | mk (h0:p0) (h1:p1) (h2:p2) (h3:p3) (h4:p4) (h5:p5) (h6:p6) (h7:p7):Aa8 p0 p1 p2 p3 p4 p5 p6 p7
inductive Ex4 {α β γ δ:Type} (p:α->β->γ->δ->Prop):Prop | mk (a0:α) (a1:β) (a2:γ) (a3:δ) (h:p a0 a1 a2 a3):Ex4 p
inductive Ex5 {α β γ δ ε:Type} (p:α->β->γ->δ->ε->Prop):Prop | mk (a0:α) (a1:β) (a2:γ) (a3:δ) (a4:ε) (h:p a0 a1 a2 a3 a4):Ex5 p
inductive Ex7 {α β γ δ ε ζ η:Type} (p:α->β->γ->δ->ε->ζ->η->Prop):Prop | mk (a0:α) (a1:β) (a2:γ) (a3:δ) (a4:ε) (a5:ζ) (a6:η) (h:p a0 a1 a2 a3 a4 a5 a6):Ex7 p
open PySem PyProof.Rows
section
variable {M:Model} {A:Around} {E:Value->Shared->Prop} {s:Shared} {κ:SortKind} {lt:Keyed->Keyed->Bool} {T:List Keyed}
end
end Sx
namespace Sx
open PySem PyProof.Rows
section
variable {α:Type} {R:α->α->Prop} {T:List α}
end
section
variable {M:Model} {A:Around} {E:Value->Shared->Prop} {s:Shared} {κ:SortKind} {lt:Keyed->Keyed->Bool} {T:List Keyed}
end
end Sx
namespace Sx
open PySem PyProof.Rows
section
variable {α:Type}
end
section
variable {lt:Keyed->Keyed->Bool}
end
section
variable {M:Model} {A:Around} {E:Value->Shared->Prop} {s:Shared} {κ:SortKind} {lt:Keyed->Keyed->Bool} {T:List Keyed}
end
end Sx
namespace Sx
open PySem PyProof.Rows
section
variable {M:Model} {A:Around} {E:Value->Shared->Prop} {s:Shared} {κ:SortKind} {lt:Keyed->Keyed->Bool} {T:List Keyed} {ar:Array Keyed} {pd:Array (Nat×Nat×Nat)} {g:Nat}
end
end Sx
namespace Sx
open PySem PyProof.Rows
section
variable {M:Model} {A:Around} {E:Value->Shared->Prop} {s:Shared} {κ:SortKind} {lt:Keyed->Keyed->Bool} {T:List Keyed}
end
end Sx
/-! ### a dict walked by its entries,whatever its keys are -/
namespace Sx
open PySem PySem.W PySem.Calls PyProof.Rows
section
variable {prog:Program} {w:World} {A:Around} {E:Value->Shared->Prop} {s:Shared} {d it:Addr} {es:Array DictEntry} {ep i:Nat}
end
end Sx
namespace Sx
open PySem PySem.W PySem.Calls PyProof.Rows
section
variable {prog:Program} {w:World} {A:Around} {E:Value->Shared->Prop} {s:Shared}
end
end Sx
namespace L2
open PySem PySem.Spec PyProof.Rows
/-! ### lists of pairs as tables -/
section
variable {κ:Type} [DecidableEq κ]
end
/-! ### a tracked dict,its keys ints and texts or tuples of these -/
section
variable {P:Program} {w:World} {H:Hp} {h:Heap} {a:Addr}
end
section
variable {X:Cx} {pins:List (Addr×Obj)} {σ:St} {H:Hp} {s:Shared} {a:Addr} {y v:V} {u r:Value} {o:Option V} {A:Around} {E:Value->Shared->Prop}
end
section
variable {X:Cx} {o i e value:Expr} {pos pos' tpos:Pos} {td ty tv:TE}
end
end L2
namespace L2
open PySem PySem.Spec PyProof.Rows
section
variable {X:Cx}
end
end L2
/-! ### sets of ints from 1 to 5: their table,told whole,so that they can be walked -/
namespace Sx
open PySem PySem.W PySem.Calls PyProof.Rows
end Sx
namespace Sx
open PySem PySem.W PySem.Calls PyProof.Rows
section
variable {prog:Program} {w:World} {A:Around} {E:Value->Shared->Prop} {s:Shared} {byT:Bool} {a:Addr} {ns:List Int} {ep:Nat}
theorem pick5 {α:Type} (es:Array α) (e2:es.size=5):(#[0,1,2,3,4]:Array Nat).filterMap (es[·]?)=es:=by
 obtain ⟨L⟩:=es
 match L,e2 with
 | [_,_,_,_,_],_=>rfl
end
end Sx
namespace Sx
open PySem PySem.W PySem.Calls PyProof.Rows
section
variable {prog:Program} {w:World} {A:Around} {E:Value->Shared->Prop} {s:Shared}
end
end Sx
namespace Sx
open PySem PySem.W PySem.Calls PyProof.Rows
section
variable {prog:Program} {w:World} {A:Around} {E:Value->Shared->Prop} {s:Shared}
end
end Sx
namespace Sx
open PySem PySem.W PySem.Calls PyProof.Rows
end Sx
namespace Sx
open PySem PySem.W PySem.Calls PyProof.Rows
section
variable {prog:Program} {w:World} {A:Around} {E:Value->Shared->Prop} {s:Shared} {a it:Addr} {es:Array (Int×Value)} {ep:Nat} {t:SetTable}
end
end Sx
namespace L2
open PySem PySem.Spec PyProof.Rows
section
variable {X:Cx}
end
end L2
namespace L2
open PySem
theorem zk0.put {H H1:Hp} {l a:Addr} {o:HO} (s:zk0 l H H1) (h:H a=none):zk0 l H (L2.upd H1 a o):=fun b u e hb=>by rw[za7 (zb8 e h)];exact s b u e hb
end L2
namespace L2
open PySem PySem.Spec PyProof.Rows
/-! ### the rules behind a wrapper,so that what is written in a display is not run while the rules are matched -/
section
variable {X:Cx}
end
/-! ### max and min of a list of ints -/
theorem call_maxL {X:Cx} (hc:X.calm=true):zn7 X (.builtin "max") (fun xs H Q=>∃ p zs,xs=[.ref p]/\SqL X.K H p (List.map V.int zs)/\0<zs.length/\∀ M,M∈zs->(∀ a∈zs,a<=M)->Q (.int M) H):=by
 intro pins s σ H xs us Q I r h
 obtain ⟨p,zs,rfl,hq,hne,q⟩:=h
 obtain ⟨u,rfl,rx⟩:=zu2 r
 cases rx
 obtain ⟨its,r',pl,hz⟩:=I.list hq
 have hi:IntsAre its zs:=zq5 r'
 obtain ⟨ys,e⟩:=hi.allInts.items
 have hns:zs=ys.toList.map (·.1):=by
   rw[<-hi.numsOf,<-nums_intItems,<-e]
 have hsz:0<ys.size:=by
   have h3:=hne;rw[hns,List.length_map,Array.length_toList] at h3;exact h3
 have hl:=pl.isList
 rw[e] at hl
 refine max_intList (I.ok.hd hc) hl hsz fun v h' tk hv hk=>?_
 obtain ⟨t,rfl⟩:=intItems_at hv
 obtain ⟨h1,h2⟩:=argBest_gt (numAt ys) (ys.size-1)
 refine⟨.int _,H,I.kept hk,⟨t,rfl⟩,q _ ?_ fun a ha=>?_⟩
 . have hlt:argBest (fun i j=>decide (numAt ys i>numAt ys j)) (ys.size-1)<(ys.toList.map (·.1)).length:=by rw[List.length_map,Array.length_toList];omega
   rw[hns,numAt_eq,List.getD_eq_getElem?_getD,List.getElem?_eq_getElem hlt]
   exact List.getElem_mem hlt
 . rw[hns] at ha
   obtain ⟨j,hj,rfl⟩:=mem_getD ha
   rw[List.length_map,Array.length_toList] at hj
   rw[<-numAt_eq];exact h2 j (by omega)
theorem zC2 {X:Cx} (hc:X.calm=true):zn7 X (.builtin "min") (fun xs H Q=>∃ p zs,xs=[.ref p]/\SqL X.K H p (List.map V.int zs)/\0<zs.length/\∀ M,M∈zs->(∀ a∈zs,M<=a)->Q (.int M) H):=by
 intro pins s σ H xs us Q I r h
 obtain ⟨p,zs,rfl,hq,hne,q⟩:=h
 obtain ⟨u,rfl,rx⟩:=zu2 r
 cases rx
 obtain ⟨its,r',pl,hz⟩:=I.list hq
 have hi:IntsAre its zs:=zq5 r'
 obtain ⟨ys,e⟩:=hi.allInts.items
 have hns:zs=ys.toList.map (·.1):=by
   rw[<-hi.numsOf,<-nums_intItems,<-e]
 have hsz:0<ys.size:=by
   have h3:=hne;rw[hns,List.length_map,Array.length_toList] at h3;exact h3
 have hl:=pl.isList
 rw[e] at hl
 refine min_intList (I.ok.hd hc) hl hsz fun v h' tk hv hk=>?_
 obtain ⟨t,rfl⟩:=intItems_at hv
 obtain ⟨h1,h2⟩:=argBest_lt (numAt ys) (ys.size-1)
 refine⟨.int _,H,I.kept hk,⟨t,rfl⟩,q _ ?_ fun a ha=>?_⟩
 . have hlt:argBest (fun i j=>decide (numAt ys i<numAt ys j)) (ys.size-1)<(ys.toList.map (·.1)).length:=by rw[List.length_map,Array.length_toList];omega
   rw[hns,numAt_eq,List.getD_eq_getElem?_getD,List.getElem?_eq_getElem hlt]
   exact List.getElem_mem hlt
 . rw[hns] at ha
   obtain ⟨j,hj,rfl⟩:=mem_getD ha
   rw[List.length_map,Array.length_toList] at hj
   rw[<-numAt_eq];exact h2 j (by omega)
end L2
open PySem
namespace L2
/-! ### two tuples or two lists compared,their items scalars -/
section
variable {X:Cx}
end
end L2
namespace L2
open PySem PySem.Spec PyProof.Rows
/-! ### {} ,a dict for tuples as keys -/
/-! ### a tuple of ints in a list of tuples of ints -/
open Classical in
open Classical in
section
variable {X:Cx}
end
end L2
namespace L2
open PySem PySem.Spec PyProof.Rows
end L2
namespace L2
open PySem PySem.Spec PyProof.Rows
section
variable {X:Cx}
end
end L2
namespace L2
open PySem PySem.Spec PyProof.Rows
/-! ### xs.remove(i),ints,i among them -/
section
variable {X:Cx}
end
end L2
namespace L2
open PySem PySem.W PySem.Calls PyProof.Rows
section
variable {prog:Program} {w:World} {A:Around} {E:Value->Shared->Prop} {s:Shared}
end
end L2
namespace L2
open PySem PySem.W PySem.Calls PyProof.Rows
section
variable {prog:Program} {w:World} {A:Around} {E:Value->Shared->Prop} {s:Shared}
end
end L2
namespace L2
open PySem PySem.Spec PyProof.Rows
section
variable {X:Cx}
end
end L2
namespace L2
open PySem PySem.Spec PyProof.Rows
section
variable {X:Cx}
end
end L2
namespace L2
open PySem PySem.Spec PyProof.Rows
end L2
namespace L2
open PySem PySem.Spec PyProof.Rows
section
variable {X:Cx} {e k:Expr} {te:TE} {tk:TO} {pos p2:Pos}
end
end L2
namespace L2
open PySem PySem.Spec PyProof.Rows
section
variable {X:Cx}
end
end L2
namespace L2
open PySem PySem.Spec PyProof.Rows
end L2
namespace L2
open PySem PySem.Spec PyProof.Rows
section
variable {X:Cx}
end
end L2
namespace L2
open PySem PySem.Spec PyProof.Rows
section
variable {X:Cx} {tg l:Expr} {tl:TE}
end
end L2
/-! ZIP of two lists -/
namespace L2
open PySem PySem.Spec PyProof.Rows
section
variable {prog:Program} {w:World} {A:Around} {E:Value->Shared->Prop} {s:Shared}
end
/-! ### a zip walked -/
section
variable {X:Cx} {es:List Expr} {k0:Nat} {tp:Pos}
end
end L2
/-! a method of one's own that raises,within try,the names' values known -/
namespace L2
open PySem PySem.Spec PyProof.Rows
section
variable {X:Cx} {CX:CXT} {k:Nat} {f C:Addr} {fd:FuncData} {ps:List Str} {sp:Sp} {dvs:List V} {ds:List Value} {Ex:St->XK} {x m:Str} {p pos apos:Pos} {e o:Expr} {es:List Expr} {ta:TE} {t:TA}
end
end L2
/-! NEW OBJECTS: the rules that make one,with the heap behind them unnamed -/
namespace L2
open PySem PySem.Spec PyProof.Rows
noncomputable abbrev Nw (H:Hp) (o:HO) (Q:VK):Prop:=∀ l H',Same H H'->H l=none->H' l=some o->Q (.ref l) H'
theorem Nw.go {H:Hp} {o:HO} {Q:VK} (q:Nw H o Q):∀ p,H p=none->Q (.ref p) (upd H p o):=fun p hp=>q p _ (Same.upd hp) hp za4
section
variable {X:Cx} {es:List Expr} {t:TA} {pos:Pos}
noncomputable def tLstS (t:TA):TE:=fun σ H Q=>t σ H fun xs H1=>xs.length<=sizeLine/\Nw H1 (.lst xs) Q
noncomputable def tTupS (t:TA):TE:=fun σ H Q=>t σ H fun xs H1=>xs.length<=sizeLine/\Nw H1 (.tup xs) Q
theorem zF1 {x1} (h:PA X es t):PE X (.Tuple es x1 pos) (tTupS t):=by
 intro pins s σ H Q I hq
 refine wpAny_Tuple_spliced (thn (h pos pins s σ H _ I hq) fun us s1 ⟨xs,H1,I1,r,z,q⟩=>⟨by rw[<-r.length];exact z,?_⟩)
 have hf:H1 s1.heap.objs.size=none:=I1.hok.fresh (Nat.le_refl _)
 refine⟨.ref s1.heap.objs.size,upd H1 s1.heap.objs.size (.tup xs),I1.laid (t':=s1.toks) (fun b u e=>Heap.get?_push_of_some _ e) (Nat.le_refl _) ?_,rfl,q.go _ hf⟩
 exact⟨z,us,r,⟨_,Heap.get?_push_size _ rfl,rfl,rfl,_,rfl⟩⟩
theorem zf2 (h:PA X es t):PE X (.List es pos) (tLstS t):=by
 intro pins s σ H Q I hq
 refine wpAny_List_spliced (thn (h pos pins s σ H _ I hq) fun us s1 ⟨xs,H1,I1,r,z,q⟩=>⟨by rw[<-r.length];exact z,?_⟩)
 have hf:H1 s1.heap.objs.size=none:=I1.hok.fresh (Nat.le_refl _)
 refine⟨.ref s1.heap.objs.size,upd H1 s1.heap.objs.size (.lst xs),I1.laid (t':=s1.toks) (fun b u e=>Heap.get?_push_of_some _ e) (Nat.le_refl _) ?_,rfl,q.go _ hf⟩
 exact⟨z,us,0,r,Heap.get?_push_size _ rfl⟩
noncomputable def rSlLS (K:PySem.W.Frag):V->Option Int->Option Int->Hp->VK->Prop:=fun x lo hi H Q=>∃ a xs,x = .ref a/\SqL K H a xs/\Nw H (.lst (cutV xs lo hi)) Q
theorem zj7:SlR X (rSlLS X.K):=fun pins s σ H x v vl vu lo hi sl Q I rx hs pl pu ⟨a,xs,e,hx,q⟩=>zI4 pins s σ H x v vl vu lo hi sl Q I rx hs pl pu ⟨a,xs,e,hx,q.go⟩
noncomputable def rCatS:R2:=fun x y H Q=>∃ l b xs zs,x = .ref l/\y = .ref b/\H l=some (.lst xs)/\H b=some (.lst zs)/\xs.length+zs.length<=sizeLine/\Nw H (.lst (xs++zs)) Q
theorem zk9:OpR X (binaryOp .Add) rCatS:=fun pins s σ H x y v u Q I rx ry ⟨l,b,xs,zs,e1,e2,h1,h2,z,q⟩=>zK8 pins s σ H x y v u Q I rx ry ⟨l,b,xs,zs,e1,e2,h1,h2,z,q.go⟩
noncomputable def rRepS:R2:=fun x y H Q=>∃ l k xs,x = .ref l/\y = .int k/\H l=some (.lst xs)/\-(2 ^ 63)<=k/\k<2 ^ 63/\xs.length*k.toNat<=sizeLine/\Nw H (.lst (List.replicate k.toNat xs).flatten) Q
theorem op_repS:OpR X (binaryOp .Mult) rRepS:=fun pins s σ H x y v u Q I rx ry ⟨l,k,xs,e1,e2,h1,z1,z2,z,q⟩=>zH5 pins s σ H x y v u Q I rx ry ⟨l,k,xs,e1,e2,h1,z1,z2,z,q.go⟩
noncomputable def rSplitS:V->List V->Hp->VK->Prop:=fun x vs H Q=>∃ (z y:Str),x = .str z/\vs=[.str y]/\(y.length == 0)=false/\z.length<=1000000/\Nw H (.lst ((Txt.split z y).map V.str)) Q
theorem zm3:MtR X "str.split" rSplitS:=fun pins s σ H x vs v us Q I rx rv ⟨z,y,e1,e2,h1,h2,q⟩=>mt_split pins s σ H x vs v us Q I rx rv ⟨z,y,e1,e2,h1,h2,q.go⟩
end
end L2
/-! TRY with any number of handlers without a name,exceptions with their dict -/
namespace L2
open PySem PySem.Spec PyProof.Rows
noncomputable def tHs (K:PySem.W.Frag) (cls:Value):List (Addr×TS)->Ends->St->Hp->Prop
 | []=>fun _ _ _=>False
 | (C,th)::r=>fun D σ H=>(PySem.W.exmOne K cls (.ref C)=some true/\th D σ H)\/(PySem.W.exmOne K cls (.ref C)=some false/\tHs K cls r D σ H)
inductive PHs (X:Cx):List ExceptHandler->List (Addr×TS)->Prop
 | nil:PHs X [] []
 | cons {x:Str} {p hp:Pos} {b:Stmt} {su:List Stmt} {C:Addr} {th:TS} {l:List ExceptHandler} {L:List (Addr×TS)} (hg:Gl X x) (hm:X.mg x=some (.ref C)) (hd:(x == ("__debug__" : Str))=false) (hh:∀ e,PSs (X.caught e) (b::su) th) (r:PHs X l L) :
     PHs X (.ExceptHandler (some (.Name x p)) none (b::su) hp::l) ((C,th)::L)
section
variable {X:Cx} {Ex:St->XK} {pos:Pos} {body:List Stmt} {tb:TS} {h0:ExceptHandler} {l:List ExceptHandler} {L:List (Addr×TS)}
end
end L2
namespace L2
open PySem PySem.Spec PyProof.Rows
section
variable {X:Cx} {E:XK} {pos:Pos} {body:List Stmt} {tb:TS} {h0:ExceptHandler} {l:List ExceptHandler} {L:List (Addr×TS)}
noncomputable def tTryHsE (K:PySem.W.Frag) (E:XK) (L:List (Addr×TS)) (tb:TS):TS:=fun D σ H=>tb D σ H/\∀ σ' cls H',E cls none H'->tHs K cls L D σ' H'
theorem ps_tryHsE (hs:X.stack=X.env::X.outer/\X.env.frame=some X.env.locals) (hb:∀ pins,PSs (X.inTry pins E) body tb) (P:PHs X (h0::l) L):PS X (.Try body (h0::l) [] [] pos) (tTryHsE X.K E L tb):=by
 intro pins s σ H D' I h
 obtain ⟨h1,h2⟩:=h
 refine wpAny_Try_except (wpAny_mono (hb pins [] s σ H D' (I.inTry E) h1) (fun f s1 q=>?_) fun e s1 q=>?_)
 . cases f with
   | next=>exact wpAny_execs_nil (SP.outTry (f:=.next) q)
   | brk=>exact SP.outTry (f:=.brk) q
   | cont=>exact SP.outTry (f:=.cont) q
   | ret u=>exact SP.outTry (f:=.ret u) q
 . obtain ⟨σ0,H0,s0,I0,a,cls,H',rfl,os,bare,un,ok,fl,q⟩:=q
   have qh:=h2 σ0 cls H' q
   clear h1 h2
   have J:=I0.call' (ch:=[]) os un ok bare fun b z=>nomatch z
   have ff:=J.stack
   obtain ⟨T,a0,z,fw⟩:=fl.flying ff
   have fr:X.A.frames=some (X.env::X.outer):=by rw[<-hs.1];exact J.ok.frames
   rw[hs.1] at fw
   refine wpAny_looks_onW fr hs.2 fw fun h1 held up1=>?_
   refine wpAny_landsW held fun h2 fw2 up2=>?_
   have st:∀ (h':Heap),Heap.FlyingW (PySem.W.hideAll s1.heap (a::([T]++frs (X.env::X.outer)))) (X.env::X.outer) a cls a0 h'->s1.heap.UpToSlots h'->Inv X pins σ0 H' { s1 with heap:=h' }:=fun h' fw' up'=>by
     obtain ⟨u,ok',_⟩:=zI9 (l:=X.env::X.outer) un ok (by rw[<-hs.1];exact ff) (fun b hb=>by rw[<-hs.1] at hb;exact⟨.inl hb,J.stkFree b hb⟩) fl.1 (ts:=[T]) (fun b hb=>by rw[List.mem_singleton.mp hb];exact z) fw' up'
     exact I0.call' (ch:=[]) (s':={ s1 with heap:=h' }) os u ok' bare fun b z=>nomatch z
   have J2:=st h2 fw2 (up1.trans up2)
   obtain ⟨oe,he,hcls⟩:=fw2.there
   have LT:PySem.W.Looks (model X.prog X.w) h2 (typeOf (.ref a)) cls:=by
     subst hcls
     exact (PySem.W.Looks.ld he).andThen .now
   revert qh
   clear q hb
   generalize h0::l=hl at P ⊢
   intro qh
   induction P with
   | nil=>exact qh.elim
   | cons hg hm hd hh r ih =>
     refine wpAny_handleBy_cons (codeAny_handlers_test ?_) (by intro q;cases q)
     refine zt4 (X:=X.caught (.ref a)) (J2.caught _) hg hm ?_ hd
     rcases qh with ⟨e1,qh⟩ | ⟨e1,qh⟩
     . refine (PySem.W.exm_one J2.kIn LT e1) _ _ _ _ (fun _ _ e=>e) ?_
       show codeAny _ _ _ _ _
       refine codeAny_handlers_suite (lands_againW fw2 fun h3 fw3 up3=>?_)
       have J3:=st h3 fw3 ((up1.trans up2).trans up3)
       exact wpAny_mono (hh (.ref a) pins _ σ0 H' D' (J3.caught _) qh) (fun f s' r=>SP.uncaught I.ok.hd r) fun _ _ z=>False.elim z
     . refine (PySem.W.exm_one J2.kIn LT e1) _ _ _ _ (fun _ _ e=>e) ?_
       show wpAny _ _ _ _ _ _
       exact ih qh
end
end L2
namespace Bt
open PySem L2
/-! ### the text by places -/
noncomputable def top (i:Nat):Stmt:=PySem.Challenge.pw_beamtender_k17_beam_text_near.main.body.getD i (.Pass ⟨0,0,0,0⟩)
noncomputable abbrev zd1:Stmt:=zv9 (top 1) 0
noncomputable abbrev zd8:Stmt:=zv9 (top 3) 0
noncomputable abbrev zc8:Stmt:=zv9 (top 4) 0
noncomputable abbrev zd9:Stmt:=zv9 (top 2) 0
noncomputable abbrev zj3:Stmt:=zv9 (top 12) 0
noncomputable abbrev zm4:Stmt:=top 13
noncomputable abbrev zg1:Stmt:=top 14
noncomputable abbrev zg9:Stmt:=top 15
noncomputable abbrev ze6:Stmt:=top 16
noncomputable abbrev zh0:Stmt:=top 17
noncomputable abbrev ze0:Stmt:=top 21
noncomputable abbrev zh1:Stmt:=top 22
noncomputable abbrev zg2:Stmt:=top 23
noncomputable abbrev zi2:Stmt:=top 24
noncomputable abbrev zh2:Stmt:=top 25
noncomputable abbrev zg3:Stmt:=top 26
noncomputable abbrev zx5:Stmt:=top 28
noncomputable abbrev zm5:Stmt:=top 29
noncomputable abbrev zp4:Stmt:=top 30
noncomputable abbrev zj4:Stmt:=top 31
noncomputable abbrev zt6:Stmt:=top 32
noncomputable abbrev zp5:Stmt:=top 33
noncomputable abbrev zt7:Stmt:=top 34
noncomputable abbrev zk4:Stmt:=top 35
noncomputable abbrev zp6:Stmt:=top 36
noncomputable abbrev zp7:Stmt:=top 37
noncomputable abbrev zm6:Stmt:=top 38
noncomputable abbrev zl2:Stmt:=top 39
noncomputable abbrev zf3:Stmt:=top 40
noncomputable abbrev zl3:Stmt:=top 41
noncomputable abbrev zf1:Stmt:=top 42
noncomputable abbrev zk5:Stmt:=top 43
noncomputable abbrev zm7:Stmt:=top 44
noncomputable abbrev zp8:Stmt:=top 45
noncomputable abbrev zC3:Stmt:=top 46
theorem sc_BeamError_init:zc3 ["self","reason","word"] ["self","reason","word"] (za5 zd1):=⟨rfl,rfl,rfl,by decide +kernel,rfl,by decide +kernel,by decide +kernel⟩
theorem sc_BadBeam_init:zc3 ["self","reason"] ["self","reason"] (za5 zd8):=⟨rfl,rfl,rfl,by decide +kernel,rfl,by decide +kernel,by decide +kernel⟩
theorem sc_BadStanding_init:zc3 ["self","reason"] ["self","reason"] (za5 zc8):=⟨rfl,rfl,rfl,by decide +kernel,rfl,by decide +kernel,by decide +kernel⟩
theorem sc_BadText_init:zc3 ["self","reason"] ["self","reason"] (za5 zd9):=⟨rfl,rfl,rfl,by decide +kernel,rfl,by decide +kernel,by decide +kernel⟩
theorem sc_Beam_init:zc3 ["self","notches","room","hefts","limit"] ["self","notches","room","hefts","limit"] (za5 zj3):=⟨rfl,rfl,rfl,by decide +kernel,rfl,by decide +kernel,by decide +kernel⟩
theorem sc_outside:zc3 ["number","low","high"] ["number","low","high"] (za5 zm4):=⟨rfl,rfl,rfl,by decide +kernel,rfl,by decide +kernel,by decide +kernel⟩
theorem sc_check_bounds:zc3 ["notches","room","limit"] ["notches","room","limit"] (za5 zg1):=⟨rfl,rfl,rfl,by decide +kernel,rfl,by decide +kernel,by decide +kernel⟩
theorem zr9:zc3 ["hefts","heft"] ["hefts"] (za5 zg9):=⟨rfl,rfl,rfl,by decide +kernel,rfl,by decide +kernel,by decide +kernel⟩
theorem zg4:zc3 ["notches","weights","many","weight"] ["notches","weights"] (za5 ze6):=⟨rfl,rfl,rfl,by decide +kernel,rfl,by decide +kernel,by decide +kernel⟩
theorem zn3:zc3 ["beam","standing","places","place"] ["beam","standing"] (za5 zh0):=⟨rfl,rfl,rfl,by decide +kernel,rfl,by decide +kernel,by decide +kernel⟩
theorem zg5:zc3 ["text","rows","notches","room","limit","weights","beam"] ["text"] (za5 ze0):=⟨rfl,rfl,rfl,by decide +kernel,rfl,by decide +kernel,by decide +kernel⟩
theorem zs0:ze5 ["text","rows","notches","room","limit","weights","beam"] (za5 ze0) (zt5 (stE (stAt (zb1 ze0) 5))) ["row"] [none]:=⟨rfl,by decide +kernel,by decide +kernel,by decide +kernel,rfl,by decide +kernel,by decide +kernel⟩
theorem zs1:ze5 ["text","rows","notches","room","limit","weights","beam"] (za5 ze0) (zt5 (zL1 (stE (stAt (zb1 ze0) 6)) 2)) ["weight"] [none]:=⟨rfl,by decide +kernel,by decide +kernel,by decide +kernel,rfl,by decide +kernel,by decide +kernel⟩
theorem zs2:ze5 ["text","rows","notches","room","limit","weights","beam"] (za5 ze0) (zt5 (zL1 (exElt (stE (stAt (zb1 ze0) 7)) 1) 1)) ["weight"] [none]:=⟨rfl,by decide +kernel,by decide +kernel,by decide +kernel,rfl,by decide +kernel,by decide +kernel⟩
theorem zs3:zc3 ["row","words"] ["row"] (za5 zh1):=⟨rfl,rfl,rfl,by decide +kernel,rfl,by decide +kernel,by decide +kernel⟩
theorem zr2:zc3 ["front","row","many","words"] ["front","row","many"] (za5 zg2):=⟨rfl,rfl,rfl,by decide +kernel,rfl,by decide +kernel,by decide +kernel⟩
theorem zo8:zc3 ["text","left","size"] ["text"] (za5 zi2):=⟨rfl,rfl,rfl,by decide +kernel,rfl,by decide +kernel,by decide +kernel⟩
theorem sc_read_number:zc3 ["text"] ["text"] (za5 zh2):=⟨rfl,rfl,rfl,by decide +kernel,rfl,by decide +kernel,by decide +kernel⟩
theorem sc_is_number:zc3 ["text"] ["text"] (za5 zg3):=⟨rfl,rfl,rfl,by decide +kernel,rfl,by decide +kernel,by decide +kernel⟩
theorem zs4:ze5 ["text"] (za5 zg3) (zt5 (zL1 (stE (stAt (zb1 zg3) 2)) 0)) ["sign"] [none]:=⟨rfl,by decide +kernel,by decide +kernel,by decide +kernel,rfl,by decide +kernel,by decide +kernel⟩
theorem sc_w_at:zc3 ["_law_script","_law_k"] ["_law_script","_law_k"] (za5 zx5):=⟨rfl,rfl,rfl,by decide +kernel,rfl,by decide +kernel,by decide +kernel⟩
theorem sc_w_whole:zc3 ["_law_found"] ["_law_found"] (za5 zm5):=⟨rfl,rfl,rfl,by decide +kernel,rfl,by decide +kernel,by decide +kernel⟩
theorem zk6:zc3 ["_law_cell","_law_count","_law_base","_law_mix","_law_made","_law_rest","_law_k"] ["_law_cell","_law_count","_law_base","_law_mix"] (za5 zp4):=⟨rfl,rfl,rfl,by decide +kernel,rfl,by decide +kernel,by decide +kernel⟩
theorem zg6:zc3 ["_law_script","_law_cell","_law_notches","_law_count","_law_room","_law_mode","_law_hefts"] ["_law_script"] (za5 zj4):=⟨rfl,rfl,rfl,by decide +kernel,rfl,by decide +kernel,by decide +kernel⟩
theorem zw3:ze5 ["_law_script","_law_cell","_law_notches","_law_count","_law_room","_law_mode","_law_hefts"] (za5 zj4) (zt5 (stE (stAt (zb1 zj4) 5))) ["_law_x"] [none]:=⟨rfl,by decide +kernel,by decide +kernel,by decide +kernel,rfl,by decide +kernel,by decide +kernel⟩
theorem zh8:zc3 ["_law_script","_law_k","_law_more","_law_shape_here","_law_notches","_law_room","_law_hefts","_law_mix","_law_cell","_law_made","_law_x","_law_place"] ["_law_script","_law_k","_law_more","_law_shape_here"] (za5 zt6):=⟨rfl,rfl,rfl,by decide +kernel,rfl,by decide +kernel,by decide +kernel⟩
theorem zC4:zc3 ["_law_found","_law_due","_law_k"] ["_law_found","_law_due"] (za5 zp5):=⟨rfl,rfl,rfl,by decide +kernel,rfl,by decide +kernel,by decide +kernel⟩
theorem sc_w_say:zc3 ["_law_place"] ["_law_place"] (za5 zt7):=⟨rfl,rfl,rfl,by decide +kernel,rfl,by decide +kernel,by decide +kernel⟩
theorem sc_w_number:zc3 ["_law_word"] ["_law_word"] (za5 zk4):=⟨rfl,rfl,rfl,by decide +kernel,rfl,by decide +kernel,by decide +kernel⟩
theorem zx6:zc3 ["_law_word","_law_minus","_law_size"] ["_law_word"] (za5 zp6):=⟨rfl,rfl,rfl,by decide +kernel,rfl,by decide +kernel,by decide +kernel⟩
theorem zp9:zc3 ["_law_text","_law_cell","_law_signs","_law_kind","_law_there","_law_sign"] ["_law_text","_law_cell"] (za5 zp7):=⟨rfl,rfl,rfl,by decide +kernel,rfl,by decide +kernel,by decide +kernel⟩
theorem zh9:zc3 ["_law_cell","_law_count","_law_signs","_law_text","_law_rest","_law_k"] ["_law_cell","_law_count"] (za5 zm6):=⟨rfl,rfl,rfl,by decide +kernel,rfl,by decide +kernel,by decide +kernel⟩
theorem zx7:zc3 ["_law_cell","_law_words"] ["_law_cell"] (za5 zl2):=⟨rfl,rfl,rfl,by decide +kernel,rfl,by decide +kernel,by decide +kernel⟩
theorem zq0:zc3 ["_law_notches","_law_room","_law_count","_law_spots","_law_place"] ["_law_notches","_law_room","_law_count","_law_spots"] (za5 zf3):=⟨rfl,rfl,rfl,by decide +kernel,rfl,by decide +kernel,by decide +kernel⟩
theorem zj5:zc3 ["_law_script","_law_shape_here","_law_spots","_law_base","_law_figures","_law_rows_here","_law_k"] ["_law_script"] (za5 zl3):=⟨rfl,rfl,rfl,by decide +kernel,rfl,by decide +kernel,by decide +kernel⟩
theorem zy4:ze5 ["_law_script","_law_shape_here","_law_spots","_law_base","_law_figures","_law_rows_here","_law_k"] (za5 zl3) (zt5 (stE (stAt (stBody (stAt (zb1 zl3) 2)) 2))) ["_law_x","_law_shape_here"] [none,some 1]:=⟨rfl,by decide +kernel,by decide +kernel,by decide +kernel,rfl,by decide +kernel,by decide +kernel⟩
theorem zc6:zc3 ["_law_rows_here","_law_cell","_law_kind","_law_more","_law_one","_law_two","_law_words"] ["_law_rows_here","_law_cell"] (za5 zf1):=⟨rfl,rfl,rfl,by decide +kernel,rfl,by decide +kernel,by decide +kernel⟩
theorem zf6:zc3 ["_law_text","_law_rows_here","_law_sizes","_law_k","_law_words","_law_hefts","_law_spots","_law_row"] ["_law_text"] (za5 zk5):=⟨rfl,rfl,rfl,by decide +kernel,rfl,by decide +kernel,by decide +kernel⟩
theorem zk7:zc3 ["_law_read","_law_notches","_law_room","_law_hefts","_law_limit","_law_spots"] ["_law_read"] (za5 zm7):=⟨rfl,rfl,rfl,by decide +kernel,rfl,by decide +kernel,by decide +kernel⟩
theorem sc_w_told:zc3 ["_law_text"] ["_law_text"] (za5 zp8):=⟨rfl,rfl,rfl,by decide +kernel,rfl,by decide +kernel,by decide +kernel⟩
theorem zs5:zc3 ["_law_script","_law_rows_here","_law_text","_law_read","_law_found","_law_told_here"] ["_law_script"] (za5 zC3):=⟨rfl,rfl,rfl,by decide +kernel,rfl,by decide +kernel,by decide +kernel⟩
/-! ### what the top has written -/
set_option genInjectivity false in
set_option genSizeOf false in
structure Adr where
 a_BeamError_init:Addr
 d_BeamError_init:FuncData
 a_BadBeam_init:Addr
 d_BadBeam_init:FuncData
 a_BadStanding_init:Addr
 d_BadStanding_init:FuncData
 a_BadText_init:Addr
 d_BadText_init:FuncData
 a_Beam_init:Addr
 d_Beam_init:FuncData
 a_outside:Addr
 d_outside:FuncData
 a_check_bounds:Addr
 d_check_bounds:FuncData
 a_check_hefts:Addr
 d_check_hefts:FuncData
 a_check_standings:Addr
 d_check_standings:FuncData
 a_as_standing:Addr
 d_as_standing:FuncData
 a_read_beam:Addr
 d_read_beam:FuncData
 a_read_weight:Addr
 d_read_weight:FuncData
 a_words_behind:Addr
 d_words_behind:FuncData
 a_read_place:Addr
 d_read_place:FuncData
 a_read_number:Addr
 d_read_number:FuncData
 a_is_number:Addr
 d_is_number:FuncData
 a_w_at:Addr
 d_w_at:FuncData
 a_w_whole:Addr
 d_w_whole:FuncData
 a_w_figs:Addr
 d_w_figs:FuncData
 a_w_shape:Addr
 d_w_shape:FuncData
 a_w_put:Addr
 d_w_put:FuncData
 a_w_same:Addr
 d_w_same:FuncData
 a_w_say:Addr
 d_w_say:FuncData
 a_w_number:Addr
 d_w_number:FuncData
 a_w_spot:Addr
 d_w_spot:FuncData
 a_w_edit:Addr
 d_w_edit:FuncData
 a_w_spell:Addr
 d_w_spell:FuncData
 a_w_menu:Addr
 d_w_menu:FuncData
 a_w_is_standing:Addr
 d_w_is_standing:FuncData
 a_w_rows:Addr
 d_w_rows:FuncData
 a_w_rows_changed:Addr
 d_w_rows_changed:FuncData
 a_w_parsed:Addr
 d_w_parsed:FuncData
 a_w_sized:Addr
 d_w_sized:FuncData
 a_w_told:Addr
 d_w_told:FuncData
 a_law:Addr
 d_law:FuncData
 c_Beam:Addr
 c_BadBeam:Addr
 c_BadStanding:Addr
 c_BadText:Addr
 c_BeamError:Addr
 q_MOST_NOTCHES:Tok
 q_MOST_ROOM:Tok
 q_MOST_LIMIT:Tok
 q_MOST_WEIGHTS:Tok
 q_MOST_HEFT:Tok
 q_MOST_STANDINGS:Tok
 q_MOST_FIGURES:Tok
 q_FIGURES:Tok
structure Txt (K:PySem.W.Frag) (mg:Str->Option Value) (t:Adr):Prop where
 F_BeamError_init:FunD K "__init__" "BeamError.__init__" zd1 t.a_BeamError_init t.d_BeamError_init
 b_BeamError_init:zc9 K t.d_BeamError_init ["self","reason","word"] []
 k_BeamError_init:PySem.W.keepIn K (.ref t.a_BeamError_init)=true
 F_BadBeam_init:FunD K "__init__" "BadBeam.__init__" zd8 t.a_BadBeam_init t.d_BadBeam_init
 b_BadBeam_init:zc9 K t.d_BadBeam_init ["self","reason"] []
 k_BadBeam_init:PySem.W.keepIn K (.ref t.a_BadBeam_init)=true
 F_BadStanding_init:FunD K "__init__" "BadStanding.__init__" zc8 t.a_BadStanding_init t.d_BadStanding_init
 b_BadStanding_init:zc9 K t.d_BadStanding_init ["self","reason"] []
 k_BadStanding_init:PySem.W.keepIn K (.ref t.a_BadStanding_init)=true
 F_BadText_init:FunD K "__init__" "BadText.__init__" zd9 t.a_BadText_init t.d_BadText_init
 b_BadText_init:zc9 K t.d_BadText_init ["self","reason"] []
 k_BadText_init:PySem.W.keepIn K (.ref t.a_BadText_init)=true
 F_Beam_init:Fun K "__init__" "Beam.__init__" zj3 t.a_Beam_init t.d_Beam_init
 b_Beam_init:zc9 K t.d_Beam_init ["self","notches","room","hefts","limit"] []
 k_Beam_init:PySem.W.keepIn K (.ref t.a_Beam_init)=true
 F_outside:Fun K "outside" "outside" zm4 t.a_outside t.d_outside
 b_outside:zc9 K t.d_outside ["number","low","high"] []
 m_outside:mg "outside" = some (.ref t.a_outside)
 k_outside:PySem.W.keepIn K (.ref t.a_outside)=true
 F_check_bounds:Fun K "check_bounds" "check_bounds" zg1 t.a_check_bounds t.d_check_bounds
 b_check_bounds:zc9 K t.d_check_bounds ["notches","room","limit"] []
 m_check_bounds:mg "check_bounds" = some (.ref t.a_check_bounds)
 k_check_bounds:PySem.W.keepIn K (.ref t.a_check_bounds)=true
 F_check_hefts:Fun K "check_hefts" "check_hefts" zg9 t.a_check_hefts t.d_check_hefts
 b_check_hefts:zc9 K t.d_check_hefts ["hefts"] []
 m_check_hefts:mg "check_hefts" = some (.ref t.a_check_hefts)
 k_check_hefts:PySem.W.keepIn K (.ref t.a_check_hefts)=true
 F_check_standings:Fun K "check_standings" "check_standings" ze6 t.a_check_standings t.d_check_standings
 b_check_standings:zc9 K t.d_check_standings ["notches","weights"] []
 m_check_standings:mg "check_standings" = some (.ref t.a_check_standings)
 k_check_standings:PySem.W.keepIn K (.ref t.a_check_standings)=true
 F_as_standing:Fun K "as_standing" "as_standing" zh0 t.a_as_standing t.d_as_standing
 b_as_standing:zc9 K t.d_as_standing ["beam","standing"] []
 m_as_standing:mg "as_standing" = some (.ref t.a_as_standing)
 k_as_standing:PySem.W.keepIn K (.ref t.a_as_standing)=true
 F_read_beam:Fun K "read_beam" "read_beam" ze0 t.a_read_beam t.d_read_beam
 b_read_beam:zc9 K t.d_read_beam ["text"] []
 m_read_beam:mg "read_beam" = some (.ref t.a_read_beam)
 k_read_beam:PySem.W.keepIn K (.ref t.a_read_beam)=true
 F_read_weight:Fun K "read_weight" "read_weight" zh1 t.a_read_weight t.d_read_weight
 b_read_weight:zc9 K t.d_read_weight ["row"] []
 m_read_weight:mg "read_weight" = some (.ref t.a_read_weight)
 k_read_weight:PySem.W.keepIn K (.ref t.a_read_weight)=true
 F_words_behind:Fun K "words_behind" "words_behind" zg2 t.a_words_behind t.d_words_behind
 b_words_behind:zc9 K t.d_words_behind ["front","row","many"] []
 m_words_behind:mg "words_behind" = some (.ref t.a_words_behind)
 k_words_behind:PySem.W.keepIn K (.ref t.a_words_behind)=true
 F_read_place:Fun K "read_place" "read_place" zi2 t.a_read_place t.d_read_place
 b_read_place:zc9 K t.d_read_place ["text"] []
 m_read_place:mg "read_place" = some (.ref t.a_read_place)
 k_read_place:PySem.W.keepIn K (.ref t.a_read_place)=true
 F_read_number:Fun K "read_number" "read_number" zh2 t.a_read_number t.d_read_number
 b_read_number:zc9 K t.d_read_number ["text"] []
 m_read_number:mg "read_number" = some (.ref t.a_read_number)
 k_read_number:PySem.W.keepIn K (.ref t.a_read_number)=true
 F_is_number:Fun K "is_number" "is_number" zg3 t.a_is_number t.d_is_number
 b_is_number:zc9 K t.d_is_number ["text"] []
 m_is_number:mg "is_number" = some (.ref t.a_is_number)
 k_is_number:PySem.W.keepIn K (.ref t.a_is_number)=true
 F_w_at:Fun K "_law_at" "_law_at" zx5 t.a_w_at t.d_w_at
 b_w_at:zc9 K t.d_w_at ["_law_script","_law_k"] []
 m_w_at:mg "_law_at" = some (.ref t.a_w_at)
 k_w_at:PySem.W.keepIn K (.ref t.a_w_at)=true
 F_w_whole:Fun K "_law_whole" "_law_whole" zm5 t.a_w_whole t.d_w_whole
 b_w_whole:zc9 K t.d_w_whole ["_law_found"] []
 m_w_whole:mg "_law_whole" = some (.ref t.a_w_whole)
 k_w_whole:PySem.W.keepIn K (.ref t.a_w_whole)=true
 F_w_figs:Fun K "_law_figs" "_law_figs" zp4 t.a_w_figs t.d_w_figs
 b_w_figs:zc9 K t.d_w_figs ["_law_cell","_law_count","_law_base","_law_mix"] []
 m_w_figs:mg "_law_figs" = some (.ref t.a_w_figs)
 k_w_figs:PySem.W.keepIn K (.ref t.a_w_figs)=true
 F_w_shape:Fun K "_law_shape" "_law_shape" zj4 t.a_w_shape t.d_w_shape
 b_w_shape:zc9 K t.d_w_shape ["_law_script"] []
 m_w_shape:mg "_law_shape" = some (.ref t.a_w_shape)
 k_w_shape:PySem.W.keepIn K (.ref t.a_w_shape)=true
 F_w_put:Fun K "_law_put" "_law_put" zt6 t.a_w_put t.d_w_put
 b_w_put:zc9 K t.d_w_put ["_law_script","_law_k","_law_more","_law_shape_here"] []
 m_w_put:mg "_law_put" = some (.ref t.a_w_put)
 k_w_put:PySem.W.keepIn K (.ref t.a_w_put)=true
 F_w_same:Fun K "_law_same" "_law_same" zp5 t.a_w_same t.d_w_same
 b_w_same:zc9 K t.d_w_same ["_law_found","_law_due"] []
 m_w_same:mg "_law_same" = some (.ref t.a_w_same)
 k_w_same:PySem.W.keepIn K (.ref t.a_w_same)=true
 F_w_say:Fun K "_law_say" "_law_say" zt7 t.a_w_say t.d_w_say
 b_w_say:zc9 K t.d_w_say ["_law_place"] []
 m_w_say:mg "_law_say" = some (.ref t.a_w_say)
 k_w_say:PySem.W.keepIn K (.ref t.a_w_say)=true
 F_w_number:Fun K "_law_number" "_law_number" zk4 t.a_w_number t.d_w_number
 b_w_number:zc9 K t.d_w_number ["_law_word"] []
 m_w_number:mg "_law_number" = some (.ref t.a_w_number)
 k_w_number:PySem.W.keepIn K (.ref t.a_w_number)=true
 F_w_spot:Fun K "_law_spot" "_law_spot" zp6 t.a_w_spot t.d_w_spot
 b_w_spot:zc9 K t.d_w_spot ["_law_word"] []
 m_w_spot:mg "_law_spot" = some (.ref t.a_w_spot)
 k_w_spot:PySem.W.keepIn K (.ref t.a_w_spot)=true
 F_w_edit:Fun K "_law_edit" "_law_edit" zp7 t.a_w_edit t.d_w_edit
 b_w_edit:zc9 K t.d_w_edit ["_law_text","_law_cell"] []
 m_w_edit:mg "_law_edit" = some (.ref t.a_w_edit)
 k_w_edit:PySem.W.keepIn K (.ref t.a_w_edit)=true
 F_w_spell:Fun K "_law_spell" "_law_spell" zm6 t.a_w_spell t.d_w_spell
 b_w_spell:zc9 K t.d_w_spell ["_law_cell","_law_count"] []
 m_w_spell:mg "_law_spell" = some (.ref t.a_w_spell)
 k_w_spell:PySem.W.keepIn K (.ref t.a_w_spell)=true
 F_w_menu:Fun K "_law_menu" "_law_menu" zl2 t.a_w_menu t.d_w_menu
 b_w_menu:zc9 K t.d_w_menu ["_law_cell"] []
 m_w_menu:mg "_law_menu" = some (.ref t.a_w_menu)
 k_w_menu:PySem.W.keepIn K (.ref t.a_w_menu)=true
 F_w_is_standing:Fun K "_law_is_standing" "_law_is_standing" zf3 t.a_w_is_standing t.d_w_is_standing
 b_w_is_standing:zc9 K t.d_w_is_standing ["_law_notches","_law_room","_law_count","_law_spots"] []
 m_w_is_standing:mg "_law_is_standing" = some (.ref t.a_w_is_standing)
 k_w_is_standing:PySem.W.keepIn K (.ref t.a_w_is_standing)=true
 F_w_rows:Fun K "_law_rows" "_law_rows" zl3 t.a_w_rows t.d_w_rows
 b_w_rows:zc9 K t.d_w_rows ["_law_script"] []
 m_w_rows:mg "_law_rows" = some (.ref t.a_w_rows)
 k_w_rows:PySem.W.keepIn K (.ref t.a_w_rows)=true
 F_w_rows_changed:Fun K "_law_rows_changed" "_law_rows_changed" zf1 t.a_w_rows_changed t.d_w_rows_changed
 b_w_rows_changed:zc9 K t.d_w_rows_changed ["_law_rows_here","_law_cell"] []
 m_w_rows_changed:mg "_law_rows_changed" = some (.ref t.a_w_rows_changed)
 k_w_rows_changed:PySem.W.keepIn K (.ref t.a_w_rows_changed)=true
 F_w_parsed:Fun K "_law_parsed" "_law_parsed" zk5 t.a_w_parsed t.d_w_parsed
 b_w_parsed:zc9 K t.d_w_parsed ["_law_text"] []
 m_w_parsed:mg "_law_parsed" = some (.ref t.a_w_parsed)
 k_w_parsed:PySem.W.keepIn K (.ref t.a_w_parsed)=true
 F_w_sized:Fun K "_law_sized" "_law_sized" zm7 t.a_w_sized t.d_w_sized
 b_w_sized:zc9 K t.d_w_sized ["_law_read"] []
 m_w_sized:mg "_law_sized" = some (.ref t.a_w_sized)
 k_w_sized:PySem.W.keepIn K (.ref t.a_w_sized)=true
 F_w_told:Fun K "_law_told" "_law_told" zp8 t.a_w_told t.d_w_told
 b_w_told:zc9 K t.d_w_told ["_law_text"] []
 m_w_told:mg "_law_told" = some (.ref t.a_w_told)
 k_w_told:PySem.W.keepIn K (.ref t.a_w_told)=true
 F_law:Fun K "law" "law" zC3 t.a_law t.d_law
 b_law:zc9 K t.d_law ["_law_script"] []
 m_law:mg "law" = some (.ref t.a_law)
 k_law:PySem.W.keepIn K (.ref t.a_law)=true
 cl_Beam:Cls K t.c_Beam
 m_Beam:mg "Beam" = some (.ref t.c_Beam)
 mk_Beam:Mk K t.c_Beam t.a_Beam_init
 na_Beam_notches:zf8 K t.c_Beam "notches"
 na_Beam_room:zf8 K t.c_Beam "room"
 na_Beam_hefts:zf8 K t.c_Beam "hefts"
 na_Beam_limit:zf8 K t.c_Beam "limit"
 ic_Beam:PySem.W.findIn K (.ref t.c_Beam) "__class__" = some (some (.builtin "object.__class__"))/\PySem.W.specialIn K (.builtin "object.__class__") "__get__" = some (some (.builtin "getset_descriptor.__get__"))/\PySem.W.takesIn K (.builtin "object.__class__")=some true/\PySem.W.mroIn K t.c_Beam (.type "object")=some true
 m_BadBeam:mg "BadBeam" = some (.ref t.c_BadBeam)
 m_BadStanding:mg "BadStanding" = some (.ref t.c_BadStanding)
 m_BadText:mg "BadText" = some (.ref t.c_BadText)
 m_BeamError:mg "BeamError" = some (.ref t.c_BeamError)
 x_BadBeam:XCls K t.c_BadBeam
 x_BadStanding:XCls K t.c_BadStanding
 x_BadText:XCls K t.c_BadText
 i_BadBeam:PySem.W.findIn K (.ref t.c_BadBeam) "__init__" = some (some (.ref t.a_BadBeam_init))
 if_BadBeam:PySem.W.isFn K (.ref t.a_BadBeam_init)=true
 na_BadBeam_reason:zf8 K t.c_BadBeam "reason"
 na_BadBeam_word:zf8 K t.c_BadBeam "word"
 i_BadStanding:PySem.W.findIn K (.ref t.c_BadStanding) "__init__" = some (some (.ref t.a_BadStanding_init))
 if_BadStanding:PySem.W.isFn K (.ref t.a_BadStanding_init)=true
 na_BadStanding_reason:zf8 K t.c_BadStanding "reason"
 na_BadStanding_word:zf8 K t.c_BadStanding "word"
 i_BadText:PySem.W.findIn K (.ref t.c_BadText) "__init__" = some (some (.ref t.a_BadText_init))
 if_BadText:PySem.W.isFn K (.ref t.a_BadText_init)=true
 na_BadText_reason:zf8 K t.c_BadText "reason"
 na_BadText_word:zf8 K t.c_BadText "word"
 xm_BadBeam_BadText:PySem.W.exmOne K (.ref t.c_BadBeam) (.ref t.c_BadText)=some false
 xm_BadBeam_BadBeam:PySem.W.exmOne K (.ref t.c_BadBeam) (.ref t.c_BadBeam)=some true
 xm_BadBeam_BadStanding:PySem.W.exmOne K (.ref t.c_BadBeam) (.ref t.c_BadStanding)=some false
 xm_BadStanding_BadText:PySem.W.exmOne K (.ref t.c_BadStanding) (.ref t.c_BadText)=some false
 xm_BadStanding_BadBeam:PySem.W.exmOne K (.ref t.c_BadStanding) (.ref t.c_BadBeam)=some false
 xm_BadStanding_BadStanding:PySem.W.exmOne K (.ref t.c_BadStanding) (.ref t.c_BadStanding)=some true
 xm_BadText_BadText:PySem.W.exmOne K (.ref t.c_BadText) (.ref t.c_BadText)=some true
 xm_BadText_BadBeam:PySem.W.exmOne K (.ref t.c_BadText) (.ref t.c_BadBeam)=some false
 xm_BadText_BadStanding:PySem.W.exmOne K (.ref t.c_BadText) (.ref t.c_BadStanding)=some false
 cm_BeamError:zM6 K t.c_BeamError "__init__" t.a_BeamError_init
 n_tuple:mg "tuple" = none
 n_len:mg "len" = none
 n_range:mg "range" = none
 n_int:mg "int" = none
 n_all:mg "all" = none
 n_isinstance:mg "isinstance" = none
 n_bool:mg "bool" = none
 n_min:mg "min" = none
 n_str:mg "str" = none
 n_max:mg "max" = none
 g_MOST_NOTCHES:mg "MOST_NOTCHES" = some (.int 4 t.q_MOST_NOTCHES)
 g_MOST_ROOM:mg "MOST_ROOM" = some (.int 3 t.q_MOST_ROOM)
 g_MOST_LIMIT:mg "MOST_LIMIT" = some (.int 400 t.q_MOST_LIMIT)
 g_MOST_WEIGHTS:mg "MOST_WEIGHTS" = some (.int 5 t.q_MOST_WEIGHTS)
 g_MOST_HEFT:mg "MOST_HEFT" = some (.int 20 t.q_MOST_HEFT)
 g_MOST_STANDINGS:mg "MOST_STANDINGS" = some (.int 1000 t.q_MOST_STANDINGS)
 g_MOST_FIGURES:mg "MOST_FIGURES" = some (.int 4 t.q_MOST_FIGURES)
 g_FIGURES:mg "FIGURES" = some (.str (Str.ofString "0123456789") t.q_FIGURES)
end Bt
namespace Bt
open PySem L2
/-! ### mathematics -/
noncomputable def zl7 (cell base:Int) (mix:Bool):Nat->Int×List Int
 | 0=>(if mix=true then cell*48271 % 2147483647 else cell,[])
 | i+1 =>
   if mix=true then (((zl7 cell base mix i).1+(0+(i:Int))+1)*69621 % 2147483647,(zl7 cell base mix i).2++[(((zl7 cell base mix i).1+(0+(i:Int))+1)*69621 % 2147483647) / 8 % base])
   else ((zl7 cell base mix i).1 / base,(zl7 cell base mix i).2++[(zl7 cell base mix i).1 % base])
noncomputable def figs (cell:Int) (n:Nat) (base:Int) (mix:Bool):List Int:=(zl7 cell base mix n).2
theorem zs6 (cell base:Int) (mix:Bool) (n:Nat):(figs cell n base mix).length=n:=by
 unfold figs
 induction n with
 | zero=>rfl
 | succ n ih =>
   unfold zl7
   cases mix
   . rw[if_neg (by decide)];simp[ih]
   . rw[if_pos rfl];simp[ih]
theorem zz1 {cell base:Int} {mix:Bool} (hb:0<base) (n:Nat):∀ x∈figs cell n base mix,0<=x/\x<base:=by
 unfold figs
 induction n with
 | zero=>intro x hx;cases hx
 | succ n ih =>
   unfold zl7
   have key:∀ z:Int,0<=z % base/\z % base<base:=fun z=>⟨Int.emod_nonneg _ (by omega),Int.emod_lt_of_pos _ hb⟩
   intro x hx
   cases mix
   . rw[if_neg (by decide)] at hx
     rcases List.mem_append.mp hx with h | h
     . exact ih x h
     . obtain rfl:=List.mem_singleton.mp h;exact key _
   . rw[if_pos rfl] at hx
     rcases List.mem_append.mp hx with h | h
     . exact ih x h
     . obtain rfl:=List.mem_singleton.mp h;exact key _
structure zi5 (n r:Int) (hs:List Int) (lim:Int):Prop where
 n1:1<=n
 n2:n<=4
 r1:1<=r
 r2:r<=3
 l1:0<=lim
 l2:lim<=400
 w:hs.length<=5
 h:∀ x∈hs,1<=x/\x<=20
 most:(2*n+1) ^ hs.length<=1000
structure zo2 (n r:Int) (w:Nat) (xs:List Int):Prop where
 len:xs.length=w
 on:∀ x∈xs,-n<=x/\x<=n
 room:∀ x∈xs,x≠0->(xs.count x:Int)<=r
/-! ### the shape and the standing that a script draws -/
noncomputable abbrev at0 (ns:List Int) (k:Nat):Int:=ns.getD k 0
noncomputable def zk1 (ns:List Int):Bool:=decide (V.int (at0 ns 0 % 2)=V.int 1)
noncomputable def shN (ns:List Int):Int:=([2,3,1,4]:List Int).getD (at0 ns 1 % 4).toNat 0
noncomputable def shW (ns:List Int):Int :=
 if ([3,2,4,1,5,0]:List Int).getD (at0 ns 1 / 4 % 6).toNat 0<([5,4,3,3]:List Int).getD (shN ns-1).toNat 0 then ([3,2,4,1,5,0]:List Int).getD (at0 ns 1 / 4 % 6).toNat 0 else ([5,4,3,3]:List Int).getD (shN ns-1).toNat 0
noncomputable def shR (ns:List Int):Int:=1+at0 ns 1 / 24 % 3
noncomputable def shH0 (ns:List Int):List Int:=(figs (at0 ns 2) (shW ns).toNat 20 (zk1 ns)).map fun x=>1+x
noncomputable def shH (ns:List Int):List Int :=
 if at0 ns 0 / 2 % 5=1 then (List.replicate (shW ns).toNat ((shH0 ns).take 1)).flatten else if at0 ns 0 / 2 % 5=2 then (List.replicate (shW ns).toNat [20]).flatten else shH0 ns
theorem zx8 (ns:List Int):shN ns=2\/shN ns=3\/shN ns=1\/shN ns=4:=by
 unfold shN
 have h1:0<=at0 ns 1 % 4:=Int.emod_nonneg _ (by decide)
 have h2:at0 ns 1 % 4<4:=Int.emod_lt_of_pos _ (by decide)
 have:at0 ns 1 % 4=0\/at0 ns 1 % 4=1\/at0 ns 1 % 4=2\/at0 ns 1 % 4=3:=by omega
 rcases this with e | e | e | e<;>rw[e]<;>decide
theorem cap_of {n:Int}:n=2\/n=3\/n=1\/n=4->([5,4,3,3]:List Int).getD (n-1).toNat 0=(if n=1 then 5 else if n=2 then 4 else 3):=by
 rintro (rfl | rfl | rfl | rfl)<;>decide
theorem six_of (z:Int):0<=([3,2,4,1,5,0]:List Int).getD (z % 6).toNat 0/\([3,2,4,1,5,0]:List Int).getD (z % 6).toNat 0<=5:=by
 have h1:0<=z % 6:=Int.emod_nonneg _ (by decide)
 have h2:z % 6<6:=Int.emod_lt_of_pos _ (by decide)
 have:z % 6=0\/z % 6=1\/z % 6=2\/z % 6=3\/z % 6=4\/z % 6=5:=by omega
 rcases this with e | e | e | e | e | e<;>rw[e]<;>decide
theorem zL5 (ns:List Int):0<=shW ns/\shW ns<=(if shN ns=1 then 5 else if shN ns=2 then 4 else 3):=by
 unfold shW
 obtain ⟨h1,h2⟩:=six_of (at0 ns 1 / 4)
 rw[cap_of (zx8 ns)]
 have h3:(0:Int)<=(if shN ns=1 then 5 else if shN ns=2 then 4 else 3):=by repeat (first | decide | split)
 split<;>omega
theorem pow_cap {n:Int} (h:n=2\/n=3\/n=1\/n=4) {w:Nat} (hw:(w:Int)<=(if n=1 then 5 else if n=2 then 4 else 3)):(2*n+1) ^ w<=1000:=by
 have h5:(if n=1 then (5:Int) else if n=2 then 4 else 3)<=5:=by repeat (first | decide | split)
 have:w=0\/w=1\/w=2\/w=3\/w=4\/w=5:=by omega
 rcases h with rfl | rfl | rfl | rfl<;>rcases this with rfl | rfl | rfl | rfl | rfl | rfl<;>first | decide | (exfalso;revert hw;decide)
theorem zG5 (ns:List Int):(shH0 ns).length=(shW ns).toNat:=by unfold shH0;rw[List.length_map,zs6]
theorem shH_len (ns:List Int):(shH ns).length=(shW ns).toNat:=by
 unfold shH
 have h0:=zG5 ns
 split
 . rw[zE6,List.length_take,h0]
   by_cases h:(shW ns).toNat=0
   . rw[h];simp
   . rw[Nat.min_eq_left (by omega),Nat.mul_one]
 . split
   . rw[zE6];simp
   . exact h0
theorem zJ3 (ns:List Int):∀ x∈shH0 ns,1<=x/\x<=20:=by
 intro x hx
 unfold shH0 at hx
 obtain ⟨y,hy,rfl⟩:=List.mem_map.mp hx
 have:=zz1 (by decide) _ y hy
 omega
theorem zL6 (ns:List Int):∀ x∈shH ns,1<=x/\x<=20:=by
 intro x hx
 unfold shH at hx
 split at hx
 . obtain ⟨l,hl,hx⟩:=List.mem_flatten.mp hx
   obtain ⟨_,rfl⟩:=List.mem_replicate.mp hl
   exact zJ3 ns x (List.mem_of_mem_take hx)
 . split at hx
   . obtain ⟨l,hl,hx⟩:=List.mem_flatten.mp hx
     obtain ⟨_,rfl⟩:=List.mem_replicate.mp hl
     obtain rfl:=List.mem_singleton.mp hx
     omega
   . exact zJ3 ns x hx
theorem sh_ok (ns:List Int) {lim:Int} (h1:0<=lim) (h2:lim<=400):zi5 (shN ns) (shR ns) (shH ns) lim:=by
 have hN:=zx8 ns
 have hW:=zL5 ns
 have hl:=shH_len ns
 have h5:(if shN ns=1 then (5:Int) else if shN ns=2 then 4 else 3)<=5:=by repeat (first | decide | split)
 have hR1:0<=at0 ns 1 / 24 % 3:=Int.emod_nonneg _ (by decide)
 have hR2:at0 ns 1 / 24 % 3<3:=Int.emod_lt_of_pos _ (by decide)
 exact⟨by omega,by omega,by unfold shR;omega,by unfold shR;omega,h1,h2,by omega,zL6 ns,pow_cap hN (by omega)⟩
noncomputable def zm1 (n r:Int) (last:Bool) (made:List Int) (x:Int):List Int :=
 made++[if (if last=true then n else x-n)≠0/\r<=(made.count (if last=true then n else x-n):Int) then 0 else (if last=true then n else x-n)]
noncomputable def putL (n r:Int) (last:Bool) (xs:List Int):List Int:=xs.foldl (zm1 n r last) []
noncomputable def zJ4 (ns:List Int) (k:Nat) (more n r:Int) (w:Nat):List Int :=
 putL n r (decide (V.int ((at0 ns k+more) % 13)=V.int 12)) (figs (at0 ns k+more) w (2*n+1) (zk1 ns))
theorem zC5 (n r:Int) (last:Bool) (xs:List Int) (x:Int):putL n r last (xs++[x])=zm1 n r last (putL n r last xs) x:=by
 unfold putL;rw[List.foldl_append];rfl
theorem zJ5 {n r:Int} (last:Bool) (hn:0<=n) (hr:1<=r) (xs:List Int) (hx:∀ x∈xs,0<=x/\x<2*n+1) :
   (putL n r last xs).length=xs.length/\(∀ y∈putL n r last xs,-n<=y/\y<=n)/\∀ y,y≠0->((putL n r last xs).count y:Int)<=r:=by
 have main:∀ (k:Nat) (xs:List Int),xs.length=k->(∀ x∈xs,0<=x/\x<2*n+1)->(putL n r last xs).length=xs.length/\(∀ y∈putL n r last xs,-n<=y/\y<=n)/\∀ y,y≠0->((putL n r last xs).count y:Int)<=r:=by
   intro k
   induction k with
   | zero =>
     intro xs hk _
     have:xs=[]:=List.eq_nil_of_length_eq_zero hk
     subst this
     exact⟨rfl,(fun y hy=>nomatch hy),fun y _=>by show ((([]:List Int).count y:Nat):Int)<=r;simp;omega⟩
   | succ k ih =>
     intro xs hk hx
     obtain ⟨ys,x,rfl⟩:∃ ys x,xs=ys++[x]:=⟨xs.dropLast,xs.getLast (by intro e;rw[e] at hk;cases hk),(List.dropLast_concat_getLast _).symm⟩
     have hk':ys.length=k:=by rw[List.length_append,List.length_singleton] at hk;omega
     obtain ⟨h1,h2,h3⟩:=ih ys hk' fun z hz=>hx z (List.mem_append_left _ hz)
     have hx0:=hx x (List.mem_append_right _ (List.mem_singleton.mpr rfl))
     rw[zC5]
     unfold zm1
     have hp:-n<=(if last=true then n else x-n)/\(if last=true then n else x-n)<=n:=by split<;>omega
     generalize (if last=true then n else x-n)=p at hp ⊢
     refine⟨by rw[List.length_append,List.length_append,h1];rfl,fun y hy=>?_,fun y hy=>?_⟩
     . rcases List.mem_append.mp hy with hy | hy
       . exact h2 y hy
       . obtain rfl:=List.mem_singleton.mp hy
         split<;>omega
     . rw[List.count_append,List.count_singleton]
       have h3y:=h3 y hy
       by_cases hc:p≠0/\r<=((putL n r last ys).count p:Int)
       . rw[if_pos hc]
         have:((0:Int) == y)=false:=by simpa using fun e=>hy e.symm
         rw[this]
         simpa using h3y
       . rw[if_neg hc]
         by_cases e:p=y
         . subst e
           have:¬ r<=((putL n r last ys).count p:Int):=fun z=>hc ⟨hy,z⟩
           simp
           omega
         . have:(p == y)=false:=by simpa using e
           rw[this]
           simpa using h3y
 exact main xs.length xs rfl hx
theorem put_ok (ns:List Int) (k:Nat) (more:Int) {n r:Int} (w:Nat) (hn:1<=n) (hr:1<=r):zo2 n r w (zJ4 ns k more n r w):=by
 unfold zJ4
 obtain ⟨h1,h2,h3⟩:=zJ5 (n:=n) (r:=r) (decide (V.int ((at0 ns k+more) % 13)=V.int 12)) (by omega) hr (figs (at0 ns k+more) w (2*n+1) (zk1 ns)) (zz1 (by omega) w)
 exact⟨by rw[h1,zs6],h2,fun x _ h0=>h3 x h0⟩
/-! ### the data -/
noncomputable def zw4 (n r:Int) (h:Addr) (lim:Int):List (Str×V):=putF "limit" (.int lim) (putF "hefts" (.ref h) (putF "room" (.int r) (putF "notches" (.int n) [])))
theorem zx9 (n r:Int) (h:Addr) (lim:Int):(zw4 n r h lim).lookup ("notches" : Str)=some (V.int n):=by
 unfold zw4
 rw[zd6,if_neg (by decide +kernel),zd6,if_neg (by decide +kernel),zd6,if_neg (by decide +kernel),zd6,if_pos rfl]
theorem zL7 (n r:Int) (h:Addr) (lim:Int):(zw4 n r h lim).lookup ("room" : Str)=some (V.int r):=by
 unfold zw4
 rw[zd6,if_neg (by decide +kernel),zd6,if_neg (by decide +kernel),zd6,if_pos rfl]
theorem zF2 (n r:Int) (h:Addr) (lim:Int):(zw4 n r h lim).lookup ("hefts" : Str)=some (V.ref h):=by
 unfold zw4
 rw[zd6,if_neg (by decide +kernel),zd6,if_pos rfl]
theorem b_limit (n r:Int) (h:Addr) (lim:Int):(zw4 n r h lim).lookup ("limit" : Str)=some (V.int lim):=by
 unfold zw4
 rw[zd6,if_pos rfl]
noncomputable def zv2 (t:Adr) (H:Hp) (b:Addr) (n r:Int) (hs:List Int) (lim:Int):Prop :=
 zi5 n r hs lim/\∃ dx h,H b=some (.ins t.c_Beam dx (zw4 n r h lim))/\H h=some (.tup (hs.map V.int))
theorem zv2.same {t:Adr} {H H':Hp} {b:Addr} {n r:Int} {hs:List Int} {lim:Int} (B:zv2 t H b n r hs lim) (s:Same H H'):zv2 t H' b n r hs lim:=by
 obtain ⟨ok,dx,h,e1,e2⟩:=B
 exact⟨ok,dx,h,s _ _ e1,s _ _ e2⟩
/-! ### promises -/
noncomputable def zq9 (K:PySem.W.Frag) (t:Adr):Sp:=fun vs H Q _=>∃ a lo hi:Int,vs=[.int a,.int lo,.int hi]/\Q (.bl (decide (a<lo) || decide (hi<a))) H
noncomputable def zr3 (K:PySem.W.Frag) (t:Adr):Sp:=fun vs H Q E=>∃ n r l:Int,vs=[.int n,.int r,.int l]/\((1<=n/\n<=4/\1<=r/\r<=3/\0<=l/\l<=400)->Q .non H)/\(¬ (1<=n/\n<=4/\1<=r/\r<=3/\0<=l/\l<=400)->∀ H',Same H H'->E (.ref t.c_BadBeam) none H')
noncomputable def zs7 (K:PySem.W.Frag) (t:Adr):Sp:=fun vs H Q E=>∃ (a:Addr) (hs:List Int),vs=[.ref a]/\(SqL K H a (hs.map V.int)\/SqT K H a (hs.map V.int))/\((hs.length<=5/\∀ x∈hs,1<=x/\x<=20)->Q .non H)/\(¬ (hs.length<=5/\∀ x∈hs,1<=x/\x<=20)->∀ H',Same H H'->E (.ref t.c_BadBeam) none H')
noncomputable def zn4 (K:PySem.W.Frag) (t:Adr):Sp:=fun vs H Q E=>∃ (n:Int) (w:Nat),vs=[.int n,.int w]/\(1<=n/\n<=4/\w<=5)/\((2*n+1) ^ w<=1000->Q .non H)/\(¬ (2*n+1) ^ w<=1000->∀ H',Same H H'->E (.ref t.c_BadBeam) none H')
noncomputable def zw5 (K:PySem.W.Frag) (t:Adr):Sp:=fun vs H Q E=>∃ (p dx a:Addr) (n r lim:Int) (hs:List Int),vs=[.ref p,.int n,.int r,.ref a,.int lim]/\H p=some (.ins t.c_Beam dx []) ∧
 (SqL K H a (hs.map V.int)\/H a=some (.tup (hs.map V.int)))/\(zi5 n r hs lim->∀ H',zv2 t H' p n r hs lim->zk0 p H H'->Q .non H')/\(¬ zi5 n r hs lim->∀ H',Same H H'->E (.ref t.c_BadBeam) none H')
noncomputable def zw6 (K:PySem.W.Frag) (t:Adr):Sp:=fun vs H Q _=>∃ (a:Addr) (ns:List Int) (k:Nat),vs=[.ref a,.int k]/\SqL K H a (ns.map V.int)/\Q (.int (ns.getD k 0)) H
noncomputable def zA3 (K:PySem.W.Frag) (t:Adr):Sp:=fun vs H Q _=>∃ i:Int,vs=[.int i]/\Q (.bl true) H
noncomputable def zt8 (K:PySem.W.Frag) (t:Adr):Sp:=fun vs H Q _=>∃ (cell base:Int) (n:Nat) (mix:Bool),vs=[.int cell,.int n,.int base,.bl mix]/\(n<=1000/\0<base/\base<1000) ∧
 ∀ l,H l=none->Q (.ref l) (upd H l (.lst ((figs cell n base mix).map V.int)))
noncomputable def zC6 (K:PySem.W.Frag) (t:Adr):Sp:=fun vs H Q _=>∃ (a b:Addr) (xs ys:List Int),vs=[.ref a,.ref b]/\(SqL K H a (xs.map V.int)\/SqT K H a (xs.map V.int))/\(SqL K H b (ys.map V.int)\/SqT K H b (ys.map V.int))/\ys.length<=1000/\Q (.bl (decide (xs=ys))) H
noncomputable def zA4 (K:PySem.W.Frag) (t:Adr):Sp:=fun vs H Q _=>∃ (a:Addr) (ns:List Int),vs=[.ref a]/\SqL K H a (ns.map V.int) ∧
 ∀ l h H',Same H H'->H l=none->H h=none->H' h=some (.lst ((shH ns).map V.int))->H' l=some (.lst [.int (shN ns),.int (shR ns),.ref h])->Q (.ref l) H'
noncomputable def zG6 (K:PySem.W.Frag) (t:Adr):Sp:=fun vs H Q _=>∃ (a sh h:Addr) (ns:List Int) (k:Nat) (more n r:Int) (hs:List Int),vs=[.ref a,.int k,.int more,.ref sh]/\SqL K H a (ns.map V.int) ∧
 H sh=some (.lst [.int n,.int r,.ref h])/\SqL K H h (hs.map V.int)/\(1<=n/\n<=4/\1<=r/\hs.length<=5) ∧
 ∀ l H',Same H H'->H l=none->H' l=some (.lst ((zJ4 ns k more n r hs.length).map V.int))->Q (.ref l) H'
noncomputable def zG7 (K:PySem.W.Frag):Sp:=fun vs H Q _=>∃ (a:Addr) (ns:List Int),vs=[.ref a]/\SqL K H a (ns.map V.int)/\ns.length<=63/\∀ H',Q (.bl true) H'
noncomputable def sp_law (K:PySem.W.Frag) (t:Adr):Sp:=zG7 K
section
variable {P:Program} {w:World} {K:PySem.W.Frag} {mg:Str->Option Value} {base:Heap} {t:Adr}
noncomputable def zh5 (K:PySem.W.Frag) (t:Adr):Sp:=fun vs H Q _=>∃ (x C:Addr) (u v:V),vs=[.ref x,u,v]/\H x=some (ExcO C x none)/\XCls K C/\zf8 K C "reason"/\zf8 K C "word" ∧
 ∀ H',(∃ od,H' x=some (ExcO C x od))->zk0 x H H'->Q .non H'
theorem zj8 (T:Txt K mg t):FnOk P w K mg base CX0 1 t.a_BeamError_init t.d_BeamError_init ["self","reason","word"] (zh5 K t):=by
 refine T.F_BeamError_init.ok sc_BeamError_init (fun vs H Q E h=>?_) (fun cdv A outer s H vs Q E hr h=>?_)
 . obtain ⟨x,C,u,v,rfl,hx,hc,n1,n2,q⟩:=h
   rfl
 . obtain ⟨x,C,u,v,rfl,hx,hc,n1,n2,q⟩:=h
   refine⟨_,(za2 (zI8 (pv 0) (pv 1) rfl)
     (za6 (zI8 (pv 0) (pv 2) rfl))),?_⟩
   refine⟨_,rfl,_,rfl,x,C,none,rfl,hx,hc,n1,fun dx fdx ndx=>?_⟩
   refine⟨_,rfl,_,rfl,x,C,some dx,rfl,za4,hc,n2,putF "reason" u [],by rw[za7 ndx];exact za4,by show (1:Nat)<1000;decide,?_⟩
   refine q _ ⟨some dx,by rw[za7 ndx.symm];exact za4⟩ fun b o e hb=>?_
   rw[za7 (zb8 e fdx),za7 hb,za7 (zb8 e fdx)]
   exact e
noncomputable def zi8 (K:PySem.W.Frag) (t:Adr):Sp:=fun vs H Q _=>∃ (x:Addr) (u:V),vs=[.ref x,u]/\H x=some (ExcO t.c_BadBeam x none) ∧
 ∀ H',(∃ od,H' x=some (ExcO t.c_BadBeam x od))->zk0 x H H'->Q .non H'
theorem zl4 (T:Txt K mg t):FnOk P w K mg base CX0 2 t.a_BadBeam_init t.d_BadBeam_init ["self","reason"] (zi8 K t):=by
 have G_BeamError_init:FnOk P w K mg base CX0 1 t.a_BeamError_init t.d_BeamError_init ["self","reason","word"] (zh5 K t):=zj8 T
 refine T.F_BadBeam_init.ok sc_BadBeam_init (fun vs H Q E h=>?_) (fun cdv A outer s H vs Q E hr h=>?_)
 . obtain ⟨x,u,rfl,hx,q⟩:=h
   rfl
 . obtain ⟨x,u,rfl,hx,q⟩:=h
   have hr_BeamError_init:Room 1 _:=hr.mono (by decide)
   refine⟨_,(za6 (zh3 (zA1 T.cm_BeamError rfl T.m_BeamError G_BeamError_init hr_BeamError_init T.b_BeamError_init .nil zc4 (za0 (pv 0) (za0 (pv 1) (za0 zb5 za3)))))),?_⟩
   exact⟨_,rfl,_,rfl,x,t.c_BadBeam,u,_,rfl,hx,T.x_BadBeam,T.na_BadBeam_reason,T.na_BadBeam_word,fun H' h1 h2=>q H' h1 h2⟩
noncomputable def zl8 (K:PySem.W.Frag) (t:Adr):Sp:=fun vs H Q _=>∃ (x:Addr) (u:V),vs=[.ref x,u]/\H x=some (ExcO t.c_BadStanding x none) ∧
 ∀ H',(∃ od,H' x=some (ExcO t.c_BadStanding x od))->zk0 x H H'->Q .non H'
theorem ok_BadStanding_init (T:Txt K mg t):FnOk P w K mg base CX0 2 t.a_BadStanding_init t.d_BadStanding_init ["self","reason"] (zl8 K t):=by
 have G_BeamError_init:FnOk P w K mg base CX0 1 t.a_BeamError_init t.d_BeamError_init ["self","reason","word"] (zh5 K t):=zj8 T
 refine T.F_BadStanding_init.ok sc_BadStanding_init (fun vs H Q E h=>?_) (fun cdv A outer s H vs Q E hr h=>?_)
 . obtain ⟨x,u,rfl,hx,q⟩:=h
   rfl
 . obtain ⟨x,u,rfl,hx,q⟩:=h
   have hr_BeamError_init:Room 1 _:=hr.mono (by decide)
   refine⟨_,(za6 (zh3 (zA1 T.cm_BeamError rfl T.m_BeamError G_BeamError_init hr_BeamError_init T.b_BeamError_init .nil zc4 (za0 (pv 0) (za0 (pv 1) (za0 zb5 za3)))))),?_⟩
   exact⟨_,rfl,_,rfl,x,t.c_BadStanding,u,_,rfl,hx,T.x_BadStanding,T.na_BadStanding_reason,T.na_BadStanding_word,fun H' h1 h2=>q H' h1 h2⟩
noncomputable def zg7 (K:PySem.W.Frag) (t:Adr):Sp:=fun vs H Q _=>∃ (x:Addr) (u:V),vs=[.ref x,u]/\H x=some (ExcO t.c_BadText x none) ∧
 ∀ H',(∃ od,H' x=some (ExcO t.c_BadText x od))->zk0 x H H'->Q .non H'
theorem zi9 (T:Txt K mg t):FnOk P w K mg base CX0 2 t.a_BadText_init t.d_BadText_init ["self","reason"] (zg7 K t):=by
 have G_BeamError_init:FnOk P w K mg base CX0 1 t.a_BeamError_init t.d_BeamError_init ["self","reason","word"] (zh5 K t):=zj8 T
 refine T.F_BadText_init.ok sc_BadText_init (fun vs H Q E h=>?_) (fun cdv A outer s H vs Q E hr h=>?_)
 . obtain ⟨x,u,rfl,hx,q⟩:=h
   rfl
 . obtain ⟨x,u,rfl,hx,q⟩:=h
   have hr_BeamError_init:Room 1 _:=hr.mono (by decide)
   refine⟨_,(za6 (zh3 (zA1 T.cm_BeamError rfl T.m_BeamError G_BeamError_init hr_BeamError_init T.b_BeamError_init .nil zc4 (za0 (pv 0) (za0 (pv 1) (za0 zb5 za3)))))),?_⟩
   exact⟨_,rfl,_,rfl,x,t.c_BadText,u,_,rfl,hx,T.x_BadText,T.na_BadText_reason,T.na_BadText_word,fun H' h1 h2=>q H' h1 h2⟩
theorem Same.raised {H H1 H':Hp} {x:Addr} {o:HO} (s:Same H H1) (fx:H1 x=none) (sx:zk0 x (upd H1 x o) H'):Same H (del H' x):=fun b u e=>by
 have e1:=s b u e
 have hb:b≠x:=zb8 e1 fx
 rw[zu9 hb]
 exact sx b u (by rw[za7 hb];exact e1) hb
theorem zi3 {xs:List Int} {i:Nat} {z:Int} {φ:Int->Prop} (hz:xs[i]?=some z) (h:∀ y∈xs.take i,φ y) (h2:φ z):∀ y∈xs.take (i+1),φ y:=fun y hy=>by
 rw[List.take_succ,hz] at hy
 rcases List.mem_append.mp hy with hy | hy
 . exact h y hy
 . obtain rfl:y=z:=by simpa using hy
   exact h2
theorem zv3 (T:Txt K mg t):FnOk P w K mg base CX0 1 t.a_outside t.d_outside ["number","low","high"] (zq9 K t):=by
 refine T.F_outside.ok sc_outside (fun vs H Q E h=>?_) (fun cdv A outer s H vs Q E hr h=>?_)
 . obtain ⟨a,lo,hi,rfl,q⟩:=h
   rfl
 . obtain ⟨a,lo,hi,rfl,q⟩:=h
   refine⟨_,(za6 (zc0 (zM1 (zh4 zv7 (pv 0) (pv 1) (zb3 _)) (zz3 (zh4 zn9 (pv 0) (pv 2) (zb3 _)))))),?_⟩
   refine⟨_,rfl,_,rfl,_,_,rfl,rfl,_,rfl,?_⟩
   refine ite2 (fun h1=>?_) (fun h1=>?_)
   . rw[h1] at q
     exact q
   . rw[Bool.eq_false_iff.mpr h1] at q
     exact⟨_,rfl,_,rfl,_,_,rfl,rfl,q⟩
theorem ok_check_bounds (T:Txt K mg t):FnOk P w K mg base (CXE P w) 4 t.a_check_bounds t.d_check_bounds ["notches","room","limit"] (zr3 K t):=by
 have G_outside:FnOk P w K mg base CX0 1 t.a_outside t.d_outside ["number","low","high"] (zq9 K t):=zv3 T
 have G_BadBeam_init:FnOk P w K mg base CX0 2 t.a_BadBeam_init t.d_BadBeam_init ["self","reason"] (zi8 K t):=zl4 T
 refine T.F_check_bounds.d.okE sc_check_bounds (fun vs H Q E h=>?_) (fun cdv A outer s H vs Q E hr h=>?_)
 . obtain ⟨n,r,l,rfl,q,qe⟩:=h
   rfl
 . obtain ⟨n,r,l,rfl,q,qe⟩:=h
   have hr_outside:Room 1 _:=hr.mono (by decide)
   have hr_BadBeam:Room 3 _:=hr.mono (by decide)
   refine⟨_,(za2 (zc5 (zf7 (za9 G_outside hr_outside rfl T.m_outside T.k_outside T.b_outside .nil zc4 (za0 (pv 0) (za0 za1 (za0 (zl9 (v:=.int 4) rfl T.g_MOST_NOTCHES ⟨_,rfl⟩) za3))))) (za6 (zg0 zf0 rfl T.x_BadBeam T.i_BadBeam T.if_BadBeam G_BadBeam_init hr_BadBeam rfl T.m_BadBeam T.b_BadBeam_init .nil zc4 (za0 zb5 za3))) zb4)
     (za2 (zc5 (zf7 (za9 G_outside hr_outside rfl T.m_outside T.k_outside T.b_outside .nil zc4 (za0 (pv 1) (za0 za1 (za0 (zl9 (v:=.int 3) rfl T.g_MOST_ROOM ⟨_,rfl⟩) za3))))) (za6 (zg0 zf0 rfl T.x_BadBeam T.i_BadBeam T.if_BadBeam G_BadBeam_init hr_BadBeam rfl T.m_BadBeam T.b_BadBeam_init .nil zc4 (za0 zb5 za3))) zb4)
     (za6 (zc5 (zf7 (za9 G_outside hr_outside rfl T.m_outside T.k_outside T.b_outside .nil zc4 (za0 (pv 2) (za0 za1 (za0 (zl9 (v:=.int 400) rfl T.g_MOST_LIMIT ⟨_,rfl⟩) za3))))) (za6 (zg0 zf0 rfl T.x_BadBeam T.i_BadBeam T.if_BadBeam G_BadBeam_init hr_BadBeam rfl T.m_BadBeam T.b_BadBeam_init .nil zc4 (za0 zb5 za3))) zb4)))),?_⟩
   refine⟨_,rfl,_,_,_,rfl,_,rfl,?_⟩
   refine ite2 (fun h1=>?_) (fun h1=>?_)
   . have hb:¬ (1<=n/\n<=4/\1<=r/\r<=3/\0<=l/\l<=400):=fun z=>by simp at h1;omega
     exact⟨(by show 1<=sizeLine;decide),fun x fx=>⟨x,_,rfl,za4,fun H' ⟨od,hx⟩ sx=>⟨rfl,od,hx,qe hb _ (Same.raised (Same.refl _) fx sx)⟩⟩⟩
   refine⟨_,rfl,_,_,_,rfl,_,rfl,?_⟩
   refine ite2 (fun h2=>?_) (fun h2=>?_)
   . have hb:¬ (1<=n/\n<=4/\1<=r/\r<=3/\0<=l/\l<=400):=fun z=>by simp at h2;omega
     exact⟨(by show 1<=sizeLine;decide),fun x fx=>⟨x,_,rfl,za4,fun H' ⟨od,hx⟩ sx=>⟨rfl,od,hx,qe hb _ (Same.raised (Same.refl _) fx sx)⟩⟩⟩
   refine⟨_,rfl,_,_,_,rfl,_,rfl,?_⟩
   refine ite2 (fun h3=>?_) (fun h3=>?_)
   . have hb:¬ (1<=n/\n<=4/\1<=r/\r<=3/\0<=l/\l<=400):=fun z=>by simp at h3;omega
     exact⟨(by show 1<=sizeLine;decide),fun x fx=>⟨x,_,rfl,za4,fun H' ⟨od,hx⟩ sx=>⟨rfl,od,hx,qe hb _ (Same.raised (Same.refl _) fx sx)⟩⟩⟩
   exact q (by simp at h1 h2 h3;omega)
theorem ok_check_hefts (T:Txt K mg t):FnOk P w K mg base (CXE P w) 4 t.a_check_hefts t.d_check_hefts ["hefts"] (zs7 K t):=by
 have G_BadBeam_init:FnOk P w K mg base CX0 2 t.a_BadBeam_init t.d_BadBeam_init ["self","reason"] (zi8 K t):=zl4 T
 have G_outside:FnOk P w K mg base CX0 1 t.a_outside t.d_outside ["number","low","high"] (zq9 K t):=zv3 T
 refine T.F_check_hefts.d.okE zr9 (fun vs H Q E h=>?_) (fun cdv A outer s H vs Q E hr h=>?_)
 . obtain ⟨a,hs,rfl,hS,q,qe⟩:=h
   rfl
 . obtain ⟨a,hs,rfl,hS,q,qe⟩:=h
   have hr_BadBeam:Room 3 _:=hr.mono (by decide)
   have hr_outside:Room 1 _:=hr.mono (by decide)
   refine⟨_,(za2 (zc5 (zb0 zn9 (zb6 zb9 rfl T.n_len PySem.boot_len (za0 (pv 0) za3)) (zl9 (v:=.int 5) rfl T.g_MOST_WEIGHTS ⟨_,rfl⟩) (zb3 _)) (za6 (zg0 zf0 rfl T.x_BadBeam T.i_BadBeam T.if_BadBeam G_BadBeam_init hr_BadBeam rfl T.m_BadBeam T.b_BadBeam_init .nil zc4 (za0 zb5 za3))) zb4)
     (za6 (zn0 zo7 rfl (pi_seq (pv 0)) (zd3 (i:=1) zr9.nd rfl (Or.inl rfl)) (za6 (zc5 (zf7 (za9 G_outside hr_outside rfl T.m_outside T.k_outside T.b_outside .nil zc4 (za0 (pv 1) (za0 za1 (za0 (zl9 (v:=.int 20) rfl T.g_MOST_HEFT ⟨_,rfl⟩) za3))))) (za6 (zg0 zf0 rfl T.x_BadBeam T.i_BadBeam T.if_BadBeam G_BadBeam_init hr_BadBeam rfl T.m_BadBeam T.b_BadBeam_init .nil zc4 (za0 zb5 za3))) zb4))))),?_⟩
   refine⟨_,rfl,a,hs.map V.int,rfl,hS,_,_,rfl,rfl,_,rfl,?_⟩
   rw[List.length_map]
   refine ite2 (fun h1=>?_) (fun h1=>?_)
   . have hb:¬ (hs.length<=5/\∀ x∈hs,1<=x/\x<=20):=fun z=>by simp at h1;omega
     exact⟨(by show 1<=sizeLine;decide),fun x fx=>⟨x,_,rfl,za4,fun H' ⟨od,hx⟩ sx=>⟨rfl,od,hx,qe hb _ (Same.raised (Same.refl _) fx sx)⟩⟩⟩
   have hl5:hs.length<=5:=by simp at h1;omega
   refine⟨_,rfl,a,rfl,?_⟩
   have turn:∀ (i:Nat) x,(hs.map V.int)[i]?=some x->∃ z,x = .int z/\hs[i]?=some z:=fun i x e=>by
     obtain ⟨z,rfl,hz⟩:=zA0 e
     exact⟨z,rfl,hz⟩
   rcases hS with hS | hS
   . refine .inl ⟨⟨_,hS⟩,zv6 (K:=K) (a:=a) (xs:=hs.map V.int) (fun i σ H'=>∃ v,σ=[some (.ref a),v]/\H'=H/\∀ y∈hs.take i,1<=y/\y<=20) ⟨_,rfl,rfl,by simp⟩ (fun i σ H' _ ⟨_,_,e,_⟩=>e▸hS) ?_ ?_⟩
     . rintro i x σ H' hi ⟨v,rfl,rfl,hok⟩
       obtain ⟨z,rfl,hz⟩:=turn i x hi
       refine⟨_,rfl,_,_,_,rfl,_,rfl,?_⟩
       refine ite2 (fun h2=>?_) (fun h2=>?_)
       . have hb:¬ (hs.length<=5/\∀ x∈hs,1<=x/\x<=20):=fun w=>by have:=w.2 z (List.mem_of_getElem? hz);simp at h2;omega
         exact⟨(by show 1<=sizeLine;decide),fun x fx=>⟨x,_,rfl,za4,fun H' ⟨od,hx⟩ sx=>⟨rfl,od,hx,qe hb _ (Same.raised (Same.refl _) fx sx)⟩⟩⟩
       . exact⟨_,rfl,rfl,zi3 hz hok (by simp at h2;omega)⟩
     . rintro σ H' ⟨v,rfl,rfl,hok⟩
       exact q ⟨hl5,fun y hy=>hok y (by rw[List.length_map,List.take_length];exact hy)⟩
   . refine .inr ⟨⟨_,hS⟩,zH8 (K:=K) (a:=a) (xs:=hs.map V.int) (fun i σ H'=>∃ v,σ=[some (.ref a),v]/\H'=H/\∀ y∈hs.take i,1<=y/\y<=20) ⟨_,rfl,rfl,by simp⟩ (fun i σ H' _ ⟨_,_,e,_⟩=>e▸hS) ?_ ?_⟩
     . rintro i x σ H' hi ⟨v,rfl,rfl,hok⟩
       obtain ⟨z,rfl,hz⟩:=turn i x hi
       refine⟨_,rfl,_,_,_,rfl,_,rfl,?_⟩
       refine ite2 (fun h2=>?_) (fun h2=>?_)
       . have hb:¬ (hs.length<=5/\∀ x∈hs,1<=x/\x<=20):=fun w=>by have:=w.2 z (List.mem_of_getElem? hz);simp at h2;omega
         exact⟨(by show 1<=sizeLine;decide),fun x fx=>⟨x,_,rfl,za4,fun H' ⟨od,hx⟩ sx=>⟨rfl,od,hx,qe hb _ (Same.raised (Same.refl _) fx sx)⟩⟩⟩
       . exact⟨_,rfl,rfl,zi3 hz hok (by simp at h2;omega)⟩
     . rintro σ H' ⟨v,rfl,rfl,hok⟩
       exact q ⟨hl5,fun y hy=>hok y (by rw[List.length_map,List.take_length];exact hy)⟩
theorem ok_check_standings (T:Txt K mg t):FnOk P w K mg base (CXE P w) 4 t.a_check_standings t.d_check_standings ["notches","weights"] (zn4 K t):=by
 have G_BadBeam_init:FnOk P w K mg base CX0 2 t.a_BadBeam_init t.d_BadBeam_init ["self","reason"] (zi8 K t):=zl4 T
 refine T.F_check_standings.d.okE zg4 (fun vs H Q E h=>?_) (fun cdv A outer s H vs Q E hr h=>?_)
 . obtain ⟨n,w,rfl,⟨h1,h2,h3⟩,q,qe⟩:=h
   rfl
 . obtain ⟨n,w,rfl,⟨h1,h2,h3⟩,q,qe⟩:=h
   have hr_BadBeam:Room 3 _:=hr.mono (by decide)
   refine⟨_,(za2 (zb2 (i:=2) zg4.nd rfl (Or.inl rfl) za1)
     (za2 (zn0 zo7 rfl (zm2 rfl T.n_range (za0 (pv 1) za3)) (zd3 (i:=3) zg4.nd rfl (Or.inl rfl)) (za6 (zb2 (i:=2) zg4.nd rfl (Or.inl rfl) (za8 zx3 (pv 2) (za8 zi4 (za8 zx3 za1 (pv 0)) za1)))))
     (za6 (zc5 (zb0 zn9 (pv 2) (zl9 (v:=.int 1000) rfl T.g_MOST_STANDINGS ⟨_,rfl⟩) (zb3 _)) (za6 (zg0 zf0 rfl T.x_BadBeam T.i_BadBeam T.if_BadBeam G_BadBeam_init hr_BadBeam rfl T.m_BadBeam T.b_BadBeam_init .nil zc4 (za0 zb5 za3))) zb4)))),?_⟩
   refine⟨_,rfl,_,rfl,by omega,by omega,zk3 (n:=(w:Int).toNat) (fun i σ H'=>∃ v,σ=[some (.int n),some (.int w),some (.int ((2*n+1) ^ i)),v]/\H'=H) ⟨none,by rw[Int.pow_zero];rfl,rfl⟩ ?_ ?_⟩
   . rintro i σ H' hi ⟨v,rfl,rfl⟩
     exact⟨_,rfl,_,rfl,_,_,rfl,rfl,.inl ⟨by decide,by decide⟩,_,_,rfl,rfl,_,_,rfl,rfl,.inr ⟨by omega,by omega⟩,_,by rw[Int.pow_succ];rfl,rfl⟩
   . rintro σ H' ⟨v,rfl,rfl⟩
     refine⟨_,rfl,_,_,rfl,rfl,_,rfl,?_⟩
     rw[Int.toNat_natCast]
     refine ite2 (fun h4=>?_) (fun h4=>?_)
     . have hb:¬ (2*n+1) ^ w<=1000:=fun z=>by have:=of_decide_eq_true h4;omega
       exact⟨(by show 1<=sizeLine;decide),fun x fx=>⟨x,_,rfl,za4,fun H' ⟨od,hx⟩ sx=>⟨rfl,od,hx,qe hb _ (Same.raised (Same.refl _) fx sx)⟩⟩⟩
     . exact q (by have:¬ (2*n+1) ^ w>1000:=fun e=>h4 (decide_eq_true e);omega)
theorem ok_Beam_init (T:Txt K mg t):FnOk P w K mg base (CXE P w) 5 t.a_Beam_init t.d_Beam_init ["self","notches","room","hefts","limit"] (zw5 K t):=by
 have G_check_bounds:FnOk P w K mg base (CXE P w) 4 t.a_check_bounds t.d_check_bounds ["notches","room","limit"] (zr3 K t):=ok_check_bounds T
 have G_check_hefts:FnOk P w K mg base (CXE P w) 4 t.a_check_hefts t.d_check_hefts ["hefts"] (zs7 K t):=ok_check_hefts T
 have G_check_standings:FnOk P w K mg base (CXE P w) 4 t.a_check_standings t.d_check_standings ["notches","weights"] (zn4 K t):=ok_check_standings T
 refine T.F_Beam_init.d.okE sc_Beam_init (fun vs H Q E h=>?_) (fun cdv A outer s H vs Q E hr h=>?_)
 . obtain ⟨p,dx,a,n,r,lim,hs,rfl,hp,hS,q,qe⟩:=h
   rfl
 . obtain ⟨p,dx,a,n,r,lim,hs,rfl,hp,hS,q,qe⟩:=h
   have hr_check_bounds:Room 4 _:=hr.mono (by decide)
   have hr_check_hefts:Room 4 _:=hr.mono (by decide)
   have hr_check_standings:Room 4 _:=hr.mono (by decide)
   refine⟨_,(za2 (zh3 (za9 G_check_bounds hr_check_bounds rfl T.m_check_bounds T.k_check_bounds T.b_check_bounds .nil ze3 (za0 (pv 1) (za0 (pv 2) (za0 (pv 4) za3)))))
     (za2 (zh3 (za9 G_check_hefts hr_check_hefts rfl T.m_check_hefts T.k_check_hefts T.b_check_hefts .nil ze3 (za0 (pv 3) za3)))
     (za2 (zh3 (za9 G_check_standings hr_check_standings rfl T.m_check_standings T.k_check_standings T.b_check_standings .nil ze3 (za0 (pv 1) (za0 (zb6 zb9 rfl T.n_len PySem.boot_len (za0 (pv 3) za3)) za3))))
     (za2 (zE2 (pv 0) (pv 1) rfl)
     (za2 (zE2 (pv 0) (pv 2) rfl)
     (za2 (zE2 (pv 0) (zf9 zu3 rfl T.n_tuple PyProof.Rows.boot_tuple (za0 (pv 3) za3)) rfl)
     (za6 (zE2 (pv 0) (pv 4) rfl)))))))),?_⟩
   have hS':SqL K H a (hs.map V.int)\/SqT K H a (hs.map V.int):=hS.imp id SqT.of
   refine⟨_,rfl,_,rfl,_,rfl,n,r,lim,rfl,fun b1=>?_,fun nb=>qe fun B=>nb ⟨B.n1,B.n2,B.r1,B.r2,B.l1,B.l2⟩⟩
   refine⟨_,rfl,a,hs,rfl,hS',fun b2=>?_,fun nb=>qe fun B=>nb ⟨B.w,B.h⟩⟩
   refine⟨_,rfl,_,rfl,a,_,rfl,hS',n,hs.length,by rw[List.length_map];rfl,⟨b1.1,b1.2.1,b2.1⟩,fun b3=>?_,fun nb=>qe fun B=>nb B.most⟩
   have B:zi5 n r hs lim:=⟨b1.1,b1.2.1,b1.2.2.1,b1.2.2.2.1,b1.2.2.2.2.1,b1.2.2.2.2.2,b2.1,b2.2,b3⟩
   replace q:=q B
   refine⟨_,rfl,_,rfl,p,_,dx,_,rfl,hp,T.cl_Beam,T.na_Beam_notches,by decide,?_⟩
   refine⟨_,rfl,_,rfl,p,_,dx,_,rfl,za4,T.cl_Beam,T.na_Beam_room,zz9 fl0,?_⟩
   have hne:∀ {b:Addr} {o:HO},H b=some o->o≠.ins t.c_Beam dx []->b≠p:=fun e ne=>zy2 e hp ne
   refine⟨_,rfl,a,hs.map V.int,rfl,?_⟩
   rcases hS with hS | hS
   . have nap:∀ o,SqL K (upd (upd H p o) p o) a (hs.map V.int)->True:=fun _ _=>trivial
     refine .inl ⟨?_,fun l hl=>?_⟩
     . rcases hS with (hS | ⟨ob,hS⟩) | hS
       . exact .inl (.inl (by rw[za7 (hne hS (by intro z;cases z)),za7 (hne hS (by intro z;cases z))];exact hS))
       . exact .inl (.inr ⟨ob,by rw[za7 (hne hS (by intro z;cases z)),za7 (hne hS (by intro z;cases z))];exact hS⟩)
       . exact .inr hS
     . have hlp:l≠p:=fun z=>by rw[z,za4] at hl;cases hl
       have hl0:H l=none:=by rw[za7 hlp,za7 hlp] at hl;exact hl
       refine⟨_,rfl,p,_,dx,_,rfl,(by rw[za7 hlp.symm];exact za4),T.cl_Beam,T.na_Beam_hefts,zz9 (flS fl0),?_⟩
       refine⟨_,rfl,_,rfl,p,_,dx,_,rfl,za4,T.cl_Beam,T.na_Beam_limit,zz9 (flS (flS fl0)),?_⟩
       refine q _ ⟨B,dx,l,za4,by rw[za7 hlp,za7 hlp,za4]⟩ fun b o e hb=>?_
       rw[za7 hb,za7 hb,za7 (zb8 e hl0),za7 hb,za7 hb]
       exact e
   . have hap:a≠p:=hne hS (by intro z;cases z)
     refine .inr ⟨SqT.of (by rw[za7 hap,za7 hap];exact hS),?_⟩
     refine⟨_,rfl,p,_,dx,_,rfl,za4,T.cl_Beam,T.na_Beam_hefts,zz9 (flS fl0),?_⟩
     refine⟨_,rfl,_,rfl,p,_,dx,_,rfl,za4,T.cl_Beam,T.na_Beam_limit,zz9 (flS (flS fl0)),?_⟩
     refine q _ ⟨B,dx,a,za4,by rw[za7 hap,za7 hap,za7 hap,za7 hap];exact hS⟩ fun b o e hb=>?_
     rw[za7 hb,za7 hb,za7 hb,za7 hb]
     exact e
theorem zG8 {R:Hp->Prop} {S:Hp->Prop} {G:Prop} (main:(∀ o,S o->R o)->G) (fin:∀ o,S o->R o):G:=main fin
noncomputable def okP (n r:Int) (xs:List Int) (y:Int):Prop:=(-n<=y/\y<=n)/\(y≠0->(xs.count y:Int)<=r)
theorem zG9 {n r:Int} {w:Nat} {xs:List Int} (h:xs.length=w) (k:∀ y∈xs,okP n r xs y):zo2 n r w xs:=⟨h,fun x hx=>(k x hx).1,fun x hx=>(k x hx).2⟩
noncomputable def zs8 (K:PySem.W.Frag) (t:Adr):Sp:=fun vs H Q E=>∃ (b a:Addr) (n r lim:Int) (hs xs:List Int),vs=[.ref b,.ref a]/\zv2 t H b n r hs lim/\SqL K H a (xs.map V.int) ∧
 (zo2 n r hs.length xs->∀ l H',Same H H'->H' l=some (.tup (xs.map V.int))->Q (.ref l) H')/\(¬ zo2 n r hs.length xs->∀ H',Same H H'->E (.ref t.c_BadStanding) none H')
theorem ok_as_standing (T:Txt K mg t):FnOk P w K mg base (CXE P w) 4 t.a_as_standing t.d_as_standing ["beam","standing"] (zs8 K t):=by
 have G_BadStanding_init:FnOk P w K mg base CX0 2 t.a_BadStanding_init t.d_BadStanding_init ["self","reason"] (zl8 K t):=ok_BadStanding_init T
 have G_outside:FnOk P w K mg base CX0 1 t.a_outside t.d_outside ["number","low","high"] (zq9 K t):=zv3 T
 refine T.F_as_standing.d.okE zn3 (fun vs H Q E h=>?_) (fun cdv A outer s H vs Q E hr h=>?_)
 . obtain ⟨b,a,n,r,lim,hs,xs,rfl,B,hS,q,qe⟩:=h
   rfl
 . obtain ⟨b,a,n,r,lim,hs,xs,rfl,B,hS,q,qe⟩:=h
   have hr_BadStanding:Room 3 _:=hr.mono (by decide)
   have hr_outside:Room 1 _:=hr.mono (by decide)
   refine⟨_,(za2 (zb2 (i:=2) zn3.nd rfl (Or.inl rfl) (zf9 zu3 rfl T.n_tuple PyProof.Rows.boot_tuple (za0 (pv 1) za3)))
     (za2 (zc5 (zb0 zn8 (zb6 zb9 rfl T.n_len PySem.boot_len (za0 (pv 2) za3)) (zb6 zb9 rfl T.n_len PySem.boot_len (za0 (zq4 (pv 0) rfl) za3)) (zb3 _)) (za6 (zg0 zf0 rfl T.x_BadStanding T.i_BadStanding T.if_BadStanding G_BadStanding_init hr_BadStanding rfl T.m_BadStanding T.b_BadStanding_init .nil zc4 (za0 zb5 za3))) zb4)
     (za2 (zn0 zo7 rfl (pi_tup (pv 2)) (zd3 (i:=3) zn3.nd rfl (Or.inl rfl)) (za2 (zc5 (zf7 (za9 G_outside hr_outside rfl T.m_outside T.k_outside T.b_outside .nil zc4 (za0 (pv 3) (za0 (zG0 zz6 (zq4 (pv 0) rfl)) (za0 (zq4 (pv 0) rfl) za3))))) (za6 (zg0 zf0 rfl T.x_BadStanding T.i_BadStanding T.if_BadStanding G_BadStanding_init hr_BadStanding rfl T.m_BadStanding T.b_BadStanding_init .nil zc4 (za0 zb5 za3))) zb4)
     (za6 (zc5 (PW.pt (zD9 (zb0 zn8 (pv 3) za1 (zb3 _)) (zy7 (zb0 zn9 (pe_tm PySem.F.slot_tuple_count PySem.F.type_tuple_count mt_countT (pv 2) (za0 (pv 3) za3)) (zq4 (pv 0) rfl) (zb3 _))))) (za6 (zg0 zf0 rfl T.x_BadStanding T.i_BadStanding T.if_BadStanding G_BadStanding_init hr_BadStanding rfl T.m_BadStanding T.b_BadStanding_init .nil zc4 (za0 zb5 za3))) zb4))))
     (za6 (zc0 (pv 2)))))),?_⟩
   refine⟨_,rfl,a,xs.map V.int,rfl,.inl ⟨hS,fun l hl=>?_⟩⟩
   have s1:Same H (upd H l (.tup (xs.map V.int))):=Same.upd hl
   have hT:(upd H l (.tup (xs.map V.int))) l=some (.tup (xs.map V.int)):=za4
   revert s1 hT
   generalize upd H l (.tup (xs.map V.int))=H1
   intro s1 hT
   have bad:¬ zo2 n r hs.length xs->∀ x,H1 x=none->∀ H',zk0 x (upd H1 x (ExcO t.c_BadStanding x none)) H'->E (.ref t.c_BadStanding) none (del H' x):=fun v x fx H' sx=>qe v _ (Same.raised s1 fx sx)
   replace q:=fun v=>q v l _ s1 hT
   obtain ⟨ok,dx,h,hb,hh⟩:=B.same s1
   refine⟨_,rfl,_,_,rfl,.inr (SqT.of hT),_,rfl,b,_,dx,_,_,rfl,hb,T.cl_Beam,T.na_Beam_hefts,zF2 _ _ _ _,h,_,rfl,.inr (SqT.of hh),rfl,_,rfl,?_⟩
   rw[List.length_map,List.length_map,zj6]
   refine ite2 (fun h1=>?_) (fun h1=>?_)
   . have hne:xs.length≠hs.length:=fun e=>by rw[e] at h1;simp at h1
     exact⟨(by show 1<=sizeLine;decide),fun x fx=>⟨x,_,rfl,za4,fun H' ⟨od,hx⟩ sx=>⟨rfl,od,hx,bad (fun v=>hne v.len) x fx H' sx⟩⟩⟩
   have hle:xs.length=hs.length:=by simp at h1;omega
   refine⟨_,rfl,_,rfl,⟨_,SqT.of hT⟩,zH8 (K:=K) (xs:=xs.map V.int) (fun i σ H'=>∃ v,σ=[some (.ref b),some (.ref a),some (.ref l),v]/\H'=H1/\∀ y∈xs.take i,okP n r xs y) ⟨none,rfl,rfl,by simp⟩ (fun i σ H' _ ⟨_,_,e,_⟩=>e▸SqT.of hT) ?_ ?_⟩
   . rintro i x σ H' hi ⟨v,rfl,rfl,hok⟩
     obtain ⟨z,rfl,hz⟩:=zA0 hi
     have hm:=List.mem_of_getElem? hz
     refine⟨_,rfl,_,rfl,b,_,dx,_,_,rfl,hb,T.cl_Beam,T.na_Beam_notches,zx9 _ _ _ _,_,rfl,_,rfl,b,_,dx,_,_,rfl,hb,T.cl_Beam,T.na_Beam_notches,zx9 _ _ _ _,z,-n,n,rfl,_,rfl,?_⟩
     refine ite2 (fun h2=>?_) (fun h2=>?_)
     . have hbad:¬ zo2 n r hs.length xs:=fun v=>by have:=v.on z hm;simp at h2;omega
       exact⟨(by show 1<=sizeLine;decide),fun x fx=>⟨x,_,rfl,za4,fun H' ⟨od,hx⟩ sx=>⟨rfl,od,hx,bad hbad x fx H' sx⟩⟩⟩
     . have hzn:-n<=z/\z<=n:=by simp at h2;omega
       refine⟨_,rfl,rfl,_,rfl,?_⟩
       rw[zj6]
       refine ite2 (fun h3=>?_) (fun h3=>?_)
       . have hz0:z≠0:=fun e=>by subst e;simp at h3
         refine⟨_,rfl,⟨_,_,rfl,hT⟩,_,rfl,_,xs,z,rfl,rfl,SqT.of hT,_,rfl,b,_,dx,_,_,rfl,hb,T.cl_Beam,T.na_Beam_room,zL7 _ _ _ _,_,_,rfl,rfl,_,rfl,?_⟩
         refine ite2 (fun h4=>?_) (fun h4=>?_)
         . have hbad:¬ zo2 n r hs.length xs:=fun v=>by have:=v.room z hm hz0;simp at h4;omega
           exact⟨(by show 1<=sizeLine;decide),fun x fx=>⟨x,_,rfl,za4,fun H' ⟨od,hx⟩ sx=>⟨rfl,od,hx,bad hbad x fx H' sx⟩⟩⟩
         . exact⟨_,rfl,rfl,zi3 hz hok ⟨hzn,fun _=>by simp at h4;omega⟩⟩
       . exact iteF ⟨_,rfl,rfl,zi3 hz hok ⟨hzn,fun e=>absurd (by simpa using e) h3⟩⟩
   . rintro σ H' ⟨v,rfl,rfl,hok⟩
     exact⟨_,rfl,q (zG9 hle fun y hy=>hok y (by rw[List.length_map,List.take_length];exact hy))⟩
/-! ### texts of plain signs -/
open NumText in
noncomputable def Asc (z:Str):Prop:=∀ c∈z.cps.toList,c<128
theorem Asc.app {a b:Str} (ha:Asc a) (hb:Asc b):Asc (a++b):=fun c hc=>by
 rw[zz0] at hc
 rcases List.mem_append.mp hc with h | h
 . exact ha c h
 . exact hb c h
theorem sl_mem {x:Str} {l u:Option Int} {c:Nat} (h:c∈(Txt.slice x l u).cps.toList):c∈x.cps.toList:=by
 unfold Txt.slice at h
 split at h
 . exact h
 . rw[List.toList_toArray] at h
   obtain ⟨i,_,hi⟩:=List.mem_filterMap.mp h
   have:x.cps.toList[i]?=some c:=by simpa using hi
   exact List.mem_of_getElem? this
theorem Asc.sl {x:Str} {l u:Option Int} (h:Asc x):Asc (Txt.slice x l u):=fun c hc=>h c (sl_mem hc)
theorem sl_from {x:Str} {i:Int} (h0:0<=i):(Txt.slice x (some i) none).cps.toList=x.cps.toList.drop i.toNat:=by
 have hl:x.cps.toList.length=x.length:=by simp[Str.length]
 by_cases h:i<=x.length
 . rw[PyProof.Rows.slice_from_eq (b:=(x.length:Int)) h0 h rfl,List.toList_toArray]
   exact List.take_of_length_le (by rw[List.length_drop];omega)
 . rw[PyProof.Rows.slice_beyond (by omega),List.drop_eq_nil_of_le (by omega)]
   rfl
theorem zL8 (x:Str):(Txt.slice x none (some 1)).cps.toList=x.cps.toList.take 1:=by
 have hl:x.cps.toList.length=x.length:=by simp[Str.length]
 by_cases h:1<=x.length
 . have e:=beq_iff_eq.mp (PyProof.Rows.slice_closes_to (x:=x) (j:=1) ⟨by decide,by omega⟩)
   rw[e]
   simp
 . have h1:=Txt.slice_le x none (some 1)
   have h2:(Txt.slice x none (some 1)).cps.toList.length=(Txt.slice x none (some 1)).length:=by simp[Str.length]
   rw[List.eq_nil_of_length_eq_zero (show (Txt.slice x none (some 1)).cps.toList.length=0 by omega),List.eq_nil_of_length_eq_zero (show x.cps.toList.length=0 by omega)]
   rfl
theorem zF3 (z:Str) (c:Nat):Txt.startswith z ⟨#[c]⟩=decide (z.cps.toList[0]?=some c):=by
 have h:=StrLaws.subAt_one z c 0
 unfold Txt.startswith
 by_cases e:z.cps.toList[0]?=some c
 . obtain ⟨h1,h2⟩:=h.mpr e
   rw[decide_eq_true e,decide_eq_true h1,h2]
   rfl
 . rw[decide_eq_false e]
   cases h3:(decide (0+(⟨#[c]⟩:Str).length<=z.length) && Builtin.Str.subAt z ⟨#[c]⟩ 0) with
   | false=>rfl
   | true =>
     rw[Bool.and_eq_true] at h3
     exact absurd (h.mp ⟨of_decide_eq_true h3.1,h3.2⟩) e
theorem zJ6:Str.ofString "0" = ⟨#[48]⟩:=by decide
theorem minus1:Str.ofString "-" = ⟨#[45]⟩:=by decide
theorem zF4 {z:Str} {c:Nat}:z=⟨#[c]⟩↔z.cps.toList=[c]:=⟨fun e=>by rw[e],fun e=>zF0 (by rw[e])⟩
theorem zC7 {z:Str} (h:Asc z):Txt.isdigit z=true↔(z.cps.toList≠[]/\NumText.AllDigits z.cps.toList):=by
 unfold Txt.isdigit
 have hl:z.cps.toList.length=z.length:=by simp[Str.length]
 have key:∀ c,c<128->(Unicode.isDigit c=true↔48<=c/\c<=57):=by decide +kernel
 rw[Bool.and_eq_true,decide_eq_true_iff,<-Array.all_toList,List.all_eq_true]
 constructor
 . rintro⟨h1,h2⟩
   exact⟨fun e=>by rw[e] at hl;simp at hl;omega,fun c hc=>(key c (h c hc)).mp (h2 c hc)⟩
 . rintro⟨h1,h2⟩
   refine⟨?_,fun c hc=>(key c (h c hc)).mpr (h2 c hc)⟩
   rcases Nat.eq_zero_or_pos z.length with e | e
   . exact absurd (List.eq_nil_of_length_eq_zero (by omega)) h1
   . exact e
theorem zm8 {z:Str}:zp3 z=true↔(1<=z.length/\z.length<=4/\NumText.AllDigits z.cps.toList/\(1<z.length->z.cps.toList[0]?≠some 48)):=by
 have hl:z.cps.toList.length=z.length:=by simp[Str.length]
 constructor
 . intro h
   obtain ⟨h1,h2,h3⟩:=zq8 h
   refine⟨?_,h3,h1,fun h4 h5=>?_⟩
   . rcases Nat.eq_zero_or_pos z.length with e | e
     . exact absurd (List.eq_nil_of_length_eq_zero (by omega)) h2
     . exact e
   . unfold zp3 at h
     rw[zJ6,zF3,decide_eq_true h5,if_pos rfl] at h
     have:=of_decide_eq_true h
     rw[this] at h4
     exact absurd h4 (by decide)
 . rintro⟨h1,h2,h3,h4⟩
   unfold zp3
   rw[zJ6,zF3]
   by_cases e:z.cps.toList[0]?=some 48
   . rw[decide_eq_true e,if_pos rfl]
     refine decide_eq_true (zF4.mpr ?_)
     have hl1:z.cps.toList.length=1:=by
       rcases Nat.lt_or_ge 1 z.length with h | h
       . exact absurd e (h4 h)
       . omega
     match hz:z.cps.toList,hl1,e with
     | [a],_,e=>simpa using e
   . rw[decide_eq_false e,if_neg Bool.false_ne_true,if_neg (by omega),List.all_eq_true]
     exact fun c hc=>decide_eq_true (h3 c hc)
theorem zA5 {z:Str} {n:Int} (h:ze2 z=some n):0<=n/\zp3 z=true/\n=((NumText.digitsVal z.cps.toList:Nat):Int):=by
 unfold ze2 at h
 split at h
 . rename_i h1
   injection h with h
   exact⟨by omega,h1,h.symm⟩
 . cases h
theorem zH0 {y:Str} {c:Nat}:∀ {ws:List Str} {p:Str},p∈ws->c∈p.cps.toList->c∈(Str.join y ws).cps.toList
 | [],_,h,_=>nomatch h
 | [a],p,h,hc=>by
   obtain rfl:=List.mem_singleton.mp h
   exact hc
 | a::b::r,p,h,hc=>by
   show c∈((a++y)++Str.join y (b::r)).cps.toList
   rw[zz0,zz0]
   rcases List.mem_cons.mp h with rfl | h
   . exact List.mem_append_left _ (List.mem_append_left _ hc)
   . exact List.mem_append_right _ (zH0 h hc)
theorem Asc.part {z y p:Str} (h:Asc z) (hp:p∈Txt.split z y):Asc p:=fun c hc=>by
 have:=zH0 (y:=y) hp hc
 rw[StrLaws.join_split] at this
 exact h c this
theorem zH1 {y:Str} (hy:Asc y):∀ {ws:List Str},(∀ w∈ws,Asc w)->Asc (Str.join y ws)
 | [],_=>fun c hc=>by cases hc
 | [a],h=>h a (List.mem_singleton.mpr rfl)
 | a::b::r,h=>by
   show Asc ((a++y)++Str.join y (b::r))
   exact ((h a List.mem_cons_self).app hy).app (zH1 hy fun w hw=>h w (List.mem_cons_of_mem _ hw))
theorem zJ7 (z:Str):Txt.slice z (some 0) none=z:=zF0 (by rw[sl_from (by decide)];rfl)
theorem one_minus (z:Str):decide (V.str (Txt.slice z none (some 1))=V.str (Str.ofString "-"))=Txt.startswith z (Str.ofString "-"):=by
 rw[minus1,zF3]
 have e:(V.str (Txt.slice z none (some 1))=V.str ⟨#[45]⟩)↔z.cps.toList[0]?=some 45:=by
   constructor
   . intro h
     injection h with h
     rw[zF4,zL8] at h
     cases hz:z.cps.toList with
     | nil=>rw[hz] at h;cases h
     | cons a r=>rw[hz] at h;simpa using h
   . intro h
     congr 1
     rw[zF4,zL8]
     cases hz:z.cps.toList with
     | nil=>rw[hz] at h;cases h
     | cons a r=>rw[hz] at h;simpa using h
 by_cases h:z.cps.toList[0]?=some 45
 . rw[decide_eq_true h,decide_eq_true (e.mpr h)]
 . rw[decide_eq_false h,decide_eq_false fun z=>h (e.mp z)]
/-! ### texts read,with refusals -/
noncomputable def zH2 (K:PySem.W.Frag) (t:Adr):Sp:=fun vs H Q _=>∃ i:Int,vs=[.int i]/\i.natAbs<=100000/\Q (.str (zv1 i)) H
noncomputable def zw7 (K:PySem.W.Frag) (t:Adr):Sp:=fun vs H Q _=>∃ z:Str,vs=[.str z]/\z.length<=1000000/\∀ H',Same H H'->Q (.bl (zp3 z)) H'
noncomputable def zj9 (K:PySem.W.Frag) (t:Adr):Sp:=fun vs H Q E=>∃ z:Str,vs=[.str z]/\z.length<=1000000/\(∀ n,ze2 z=some n->∀ H',Same H H'->Q (.int n) H')/\(ze2 z=none->∀ H',Same H H'->E (.ref t.c_BadText) none H')
noncomputable def zu7 (K:PySem.W.Frag) (t:Adr):Sp:=fun vs H Q E=>∃ z:Str,vs=[.str z]/\z.length<=1000000/\(∀ n,zm0 z=some n->∀ H',Same H H'->Q (.int n) H')/\(zm0 z=none->∀ H',Same H H'->E (.ref t.c_BadText) none H')
theorem zk8 {i:Int} (h:i.natAbs<=100000):i.natAbs.log2<1920:=by
 by_cases h0:i.natAbs=0
 . rw[h0];decide
 . have:i.natAbs.log2<17:=(Nat.log2_lt h0).mpr (by omega)
   omega
theorem zi0 {n:Nat} (h:n<=1000000):n<=sizeLine:=Nat.le_trans h (by decide)
theorem ok_w_say (T:Txt K mg t):FnOk P w K mg base CX0 1 t.a_w_say t.d_w_say ["_law_place"] (zH2 K t):=by
 refine T.F_w_say.ok sc_w_say (fun vs H Q E h=>?_) (fun cdv A outer s H vs Q E hr h=>?_)
 . obtain ⟨i,rfl,hi,q⟩:=h
   rfl
 . obtain ⟨i,rfl,hi,q⟩:=h
   refine⟨_,(za2 (zc5 (zb0 zf5 (pv 0) za1 (zb3 _)) (za6 (zc0 zb5)) zb4)
     (za6 (zc0 (zf9 zi1 rfl T.n_str PyProof.Rows.boot_str (za0 (pv 0) za3))))),?_⟩
   refine⟨_,rfl,rfl,_,rfl,?_⟩
   unfold zv1 at q
   refine ite2 (fun h1=>?_) (fun h1=>?_)
   . have e:i=0:=by simpa using h1
     rw[if_pos e] at q
     exact q
   . have e:i≠0:=by simpa using h1
     rw[if_neg e] at q
     exact⟨_,rfl,i,rfl,zk8 hi,q⟩
theorem ok_is_number (T:Txt K mg t):FnOk P w K mg base CX0 1 t.a_is_number t.d_is_number ["text"] (zw7 K t):=by
 refine T.F_is_number.ok sc_is_number (fun vs H Q E h=>?_) (fun cdv A outer s H vs Q E hr h=>?_)
 . obtain ⟨z,rfl,hz,q⟩:=h
   rfl
 . obtain ⟨z,rfl,hz,q⟩:=h
   refine⟨_,(za2 (zc5 (zf7 (zj1 PySem.F.plainAttrs_str PySem.F.slot_str_startswith PySem.F.type_str_startswith zC0 (pv 0) (za0 zb5 za3))) (za6 (zc0 (zh4 zf5 (pv 0) zb5 (zb3 _)))) zb4)
     (za2 (zc5 (PW.pt (zl6 (zb0 zf5 (zb6 ze4 rfl T.n_len PySem.boot_len (za0 (pv 0) za3)) za1 (zb3 _)) (zm9 (zb0 zn9 (zb6 ze4 rfl T.n_len PySem.boot_len (za0 (pv 0) za3)) (zl9 (v:=.int 4) rfl T.g_MOST_FIGURES ⟨_,rfl⟩) (zb3 _))))) (za6 (zc0 zo9)) zb4)
     (za6 (zc0 (zb6 (call_all rfl) rfl T.n_all PyProof.Rows.boot_all (za0 (zE7 rfl zs4 (pi_str (pv 0)) (fun _ _ _ _ _=>(zd3 (i:=0) zs4.nd rfl (Or.inl rfl))) (fun _ _ _ _ _=>zp1) (fun _ _ _ _ _=>(zh4 op_in_str (pv 0) (zl9 (v:=.str (Str.ofString "0123456789")) rfl T.g_FIGURES ⟨_,rfl⟩) rfl))) za3)))))),?_⟩
   refine⟨_,rfl,rfl,_,_,rfl,rfl,_,rfl,?_⟩
   unfold zp3 at q
   refine ite2 (fun h1=>?_) (fun h1=>?_)
   . simp only[h1,if_true] at q
     refine⟨_,rfl,rfl,?_⟩
     have:=q H (Same.refl _)
     have e:decide (V.str z=V.str (Str.ofString "0"))=decide (z=Str.ofString "0"):=by
       by_cases h:z=Str.ofString "0"
       . rw[decide_eq_true h,decide_eq_true (by rw[h])]
       . rw[decide_eq_false h,decide_eq_false (fun z=>h (by injection z))]
     rw[e]
     exact this
   . have e1:Txt.startswith z (Str.ofString "0")=false:=Bool.eq_false_iff.mpr h1
     simp only[e1,Bool.false_eq_true,if_false] at q
     refine⟨_,rfl,_,rfl,zi0 hz,rfl,_,rfl,?_⟩
     refine ite2 (fun h2=>?_) (fun h2=>?_)
     . have e2:z.length=0\/4<z.length:=.inl (by simpa using h2)
       rw[if_pos e2] at q
       exact iteT (q H (Same.refl _))
     . have n0:¬ z.length=0:=by simpa using h2
       refine⟨_,rfl,_,rfl,zi0 hz,_,_,rfl,rfl,_,rfl,?_⟩
       refine ite2 (fun h3=>?_) (fun h3=>?_)
       . have e2:z.length=0\/4<z.length:=.inr (by have:=of_decide_eq_true h3;omega)
         rw[if_pos e2] at q
         exact q H (Same.refl _)
       . have n4:¬ 4<z.length:=fun h=>h3 (decide_eq_true (by omega))
         rw[if_neg (by omega)] at q
         refine⟨_,rfl,_,rfl,fun D hD=>?_⟩
         refine comp_str (f:=fun c=>V.bl (decide (48<=c/\c<=57))) (zi0 hz) (fun c acc R hc h=>?_) ?_
         . refine⟨_,rfl,_,_,rfl,rfl,?_⟩
           rw[fig_in]
           exact h
         . refine⟨D,z.cps.toList.map fun c=>decide (48<=c/\c<=57),rfl,SqL.of (by rw[za4,List.map_map];rfl),?_⟩
           have:=q _ (Same.upd (o:=.lst (z.cps.toList.map fun c=>V.bl (decide (48<=c/\c<=57)))) hD)
           rw[List.all_map]
           exact this
theorem zn5 (T:Txt K mg t):FnOk P w K mg base (CXE P w) 4 t.a_read_number t.d_read_number ["text"] (zj9 K t):=by
 have G_is_number:FnOk P w K mg base CX0 1 t.a_is_number t.d_is_number ["text"] (zw7 K t):=ok_is_number T
 have G_BadText_init:FnOk P w K mg base CX0 2 t.a_BadText_init t.d_BadText_init ["self","reason"] (zg7 K t):=zi9 T
 refine T.F_read_number.d.okE sc_read_number (fun vs H Q E h=>?_) (fun cdv A outer s H vs Q E hr h=>?_)
 . obtain ⟨z,rfl,hz,q,qe⟩:=h
   rfl
 . obtain ⟨z,rfl,hz,q,qe⟩:=h
   have hr_is_number:Room 1 _:=hr.mono (by decide)
   have hr_BadText:Room 3 _:=hr.mono (by decide)
   refine⟨_,(za2 (zc5 (zo5 (zf7 (za9 G_is_number hr_is_number rfl T.m_is_number T.k_is_number T.b_is_number .nil zc4 (za0 (pv 0) za3)))) (za6 (zg0 zf0 rfl T.x_BadText T.i_BadText T.if_BadText G_BadText_init hr_BadText rfl T.m_BadText T.b_BadText_init .nil zc4 (za0 zb5 za3))) zb4)
     (za6 (zc0 (zf9 zu5 rfl T.n_int PyProof.Rows.boot_int (za0 (pv 0) za3))))),?_⟩
   refine⟨_,rfl,_,rfl,hz,fun H1 s1=>⟨_,rfl,?_⟩⟩
   refine ite2 (fun h1=>?_) (fun h1=>?_)
   . have hn:ze2 z=none:=by
       unfold ze2
       rw[if_neg (by simpa using h1)]
     exact⟨(by show 1<=sizeLine;decide),fun x fx=>⟨x,_,rfl,za4,fun H' ⟨od,hx⟩ sx=>⟨rfl,od,hx,qe hn _ (Same.raised s1 fx sx)⟩⟩⟩
   . have h2:zp3 z=true:=by simpa using h1
     have hn:ze2 z=some ((NumText.digitsVal z.cps.toList:Nat):Int):=by
       unfold ze2
       rw[if_pos h2]
     exact⟨_,rfl,_,_,rfl,zC1 h2,by have:=(zq8 h2).2.2;omega,q _ hn _ s1⟩
theorem ok_read_place (T:Txt K mg t):FnOk P w K mg base (CXE P w) 5 t.a_read_place t.d_read_place ["text"] (zu7 K t):=by
 have G_read_number:FnOk P w K mg base (CXE P w) 4 t.a_read_number t.d_read_number ["text"] (zj9 K t):=zn5 T
 have G_BadText_init:FnOk P w K mg base CX0 2 t.a_BadText_init t.d_BadText_init ["self","reason"] (zg7 K t):=zi9 T
 refine T.F_read_place.d.okE zo8 (fun vs H Q E h=>?_) (fun cdv A outer s H vs Q E hr h=>?_)
 . obtain ⟨z,rfl,hz,q,qe⟩:=h
   rfl
 . obtain ⟨z,rfl,hz,q,qe⟩:=h
   have hr_read_number:Room 4 _:=hr.mono (by decide)
   have hr_BadText:Room 3 _:=hr.mono (by decide)
   refine⟨_,(za2 (zc5 (zb0 zf5 (pv 0) zb5 (zb3 _)) (za6 (zc0 za1)) zb4)
     (za2 (zb2 (i:=1) zo8.nd rfl (Or.inl rfl) (zj1 PySem.F.plainAttrs_str PySem.F.slot_str_startswith PySem.F.type_str_startswith zC0 (pv 0) (za0 zb5 za3)))
     (za2 (zb2 (i:=2) zo8.nd rfl (Or.inl rfl) (za9 G_read_number hr_read_number rfl T.m_read_number T.k_read_number T.b_read_number .nil ze3 (za0 (zF9 (zf7 (pv 1)) (zd7 zq7 (pv 0) (ze9 za1) ze8) (pv 0)) za3)))
     (za2 (zc5 (zb0 zf5 (pv 2) za1 (zb3 _)) (za6 (zg0 zf0 rfl T.x_BadText T.i_BadText T.if_BadText G_BadText_init hr_BadText rfl T.m_BadText T.b_BadText_init .nil zc4 (za0 zb5 za3))) zb4)
     (za6 (zc0 (zF9 (zf7 (pv 1)) (zG0 zz6 (pv 2)) (pv 2)))))))),?_⟩
   refine⟨_,rfl,rfl,_,rfl,?_⟩
   unfold zm0 at q qe
   refine ite2 (fun h1=>?_) (fun h1=>?_)
   . have e:z=Str.ofString "tray":=by simpa using h1
     exact q 0 (by rw[if_pos e]) _ (Same.refl _)
   . have e:¬ z=Str.ofString "tray":=by simpa using h1
     rw[if_neg e] at qe
     have q':=fun n h=>q n (by rw[if_neg e];exact h)
     clear q
     refine⟨_,rfl,rfl,_,_,rfl,rfl,_,rfl,_,rfl,?_⟩
     refine ite2 (fun h2=>?_) (fun h2=>?_)
     . simp only[h2,if_true] at q' qe
       refine⟨_,rfl,_,rfl,z,rfl,zi0 hz,_,rfl,Nat.le_trans (Txt.slice_le z _ _) hz,fun m hm H1 s1=>?_,fun hm H1 s1=>qe (by rw[hm]) H1 s1⟩
       rw[hm] at qe
       refine⟨_,rfl,rfl,_,rfl,?_⟩
       refine ite2 (fun h3=>?_) (fun h3=>?_)
       . have e0:m=0:=by simpa using h3
         exact⟨(by show 1<=sizeLine;decide),fun x fx=>⟨x,_,rfl,za4,fun H' ⟨od,hx⟩ sx=>⟨rfl,od,hx,qe (by simp[e0]) _ (Same.raised s1 fx sx)⟩⟩⟩
       . have e0:m≠0:=by simpa using h3
         exact⟨_,rfl,_,rfl,iteA h2 ⟨_,rfl,_,rfl,q' (-m) (by rw[hm];simp[e0]) _ s1⟩⟩
     . have e2:Txt.startswith z (Str.ofString "-")=false:=Bool.eq_false_iff.mpr h2
       simp only[e2,Bool.false_eq_true,if_false] at q' qe
       refine⟨_,rfl,_,rfl,hz,fun m hm H1 s1=>?_,fun hm H1 s1=>qe (by rw[hm]) H1 s1⟩
       rw[hm] at qe
       refine⟨_,rfl,rfl,_,rfl,?_⟩
       refine ite2 (fun h3=>?_) (fun h3=>?_)
       . have e0:m=0:=by simpa using h3
         exact⟨(by show 1<=sizeLine;decide),fun x fx=>⟨x,_,rfl,za4,fun H' ⟨od,hx⟩ sx=>⟨rfl,od,hx,qe (by simp[e0]) _ (Same.raised s1 fx sx)⟩⟩⟩
       . have e0:m≠0:=by simpa using h3
         exact⟨_,rfl,_,rfl,iteB e2 ⟨_,rfl,q' m (by rw[hm];simp[e0]) _ s1⟩⟩
end
end Bt
namespace Bt
open PySem L2
section
variable {P:Program} {w:World} {K:PySem.W.Frag} {mg:Str->Option Value} {base:Heap} {t:Adr}
/-! ### the text of a beam,read,with refusals -/
noncomputable def wb (front:Str) (k:Nat) (row:Str):Option (List Str):=match Txt.split row (Str.ofString " ") with
 | w::ws=>if w=front/\ws.length=k then some ws else none
 | []=>none
noncomputable def fldN (front row:Str):Option Int:=match wb front 1 row with
 | some [a]=>ze2 a
 | _=>none
noncomputable def rdW (row:Str):Option (Int×Int):=match wb (Str.ofString "weight") 2 row with
 | some [a,b]=>match ze2 a,zm0 b with
   | some h,some x=>some (h,x)
   | _,_=>none
 | _=>none
noncomputable def allW:List Str->Option (List (Int×Int))
 | []=>some []
 | w::ws=>match rdW w,allW ws with
   | some x,some xs=>some (x::xs)
   | _,_=>none
noncomputable def zj0:List Str->Option (Int×Int×Int×List (Int×Int))
 | z0::z1::z2::zs=>(fldN (Str.ofString "notches") z0).bind fun n=>(fldN (Str.ofString "room") z1).bind fun r=>(fldN (Str.ofString "limit") z2).bind fun l=>(allW zs).bind fun ws=>some (n,r,l,ws)
 | _=>none
noncomputable def rdB (z:Str):Option (Int×Int×Int×List (Int×Int)):=zj0 (Txt.split z (Str.ofString "\n"))
theorem rdRows_short:∀ {rows:List Str},rows.length<3->zj0 rows=none
 | [],_=>rfl
 | [_],_=>rfl
 | [_,_],_=>rfl
 | _::_::_::_,h=>by simp only[List.length_cons] at h;omega
theorem zL9 {front row:Str} {k:Nat} {ws:List Str} (h:wb front k row=some ws):ws.length=k/\Txt.split row (Str.ofString " ")=front::ws:=by
 unfold wb at h
 split at h
 . rename_i w r e
   split at h
   . rename_i c
     injection h with h
     subst h
     exact⟨c.2,by rw[e,c.1]⟩
   . cases h
 . cases h
theorem zF5 {front row:Str} {ws:List Str} (h:wb front 1 row=some ws):∃ a,ws=[a]/\fldN front row=ze2 a/\a∈Txt.split row (Str.ofString " "):=by
 obtain ⟨hl,hsp⟩:=zL9 h
 match ws,hl with
 | [a],_=>exact⟨a,rfl,by unfold fldN;rw[h],by rw[hsp];simp⟩
theorem zt9 {front row:Str} (h:wb front 1 row=none):fldN front row=none:=by unfold fldN;rw[h]
theorem zC8 {ws:List Str} {i:Nat} {w:Str} (h:ws[i]?=some w) (e:rdW w=none):allW ws=none:=by
 induction ws generalizing i with
 | nil=>simp at h
 | cons x r ih =>
   cases i with
   | zero =>
     obtain rfl:x=w:=by simpa using h
     simp[allW,e]
   | succ i=>simp[allW,ih (i:=i) (by simpa using h)]
theorem zC9:∀ {ws:List Str} {xs:List (Int×Int)},ws.map rdW=xs.map some->allW ws=some xs
 | [],[],_=>rfl
 | [],_::_,h=>by simp at h
 | _::_,[],h=>by simp at h
 | w::ws,x::xs,h=>by
   injection h with h1 h2
   simp[allW,h1,zC9 h2]
noncomputable def BT (t:Adr) (H:Hp) (E:XK):Prop:=∀ H',Same H H'->E (.ref t.c_BadText) none H'
noncomputable def zl5 (K:PySem.W.Frag) (t:Adr):Sp:=fun vs H Q E=>∃ (front row:Str) (k:Nat),vs=[.str front,.str row,.int k]/\row.length<=1000000 ∧
 (∀ ws,wb front k row=some ws->∀ l H',Same H H'->H' l=some (.lst (ws.map V.str))->Q (.ref l) H')/\(wb front k row=none->BT t H E)
noncomputable def zs9 (K:PySem.W.Frag) (t:Adr):Sp:=fun vs H Q E=>∃ row:Str,vs=[.str row]/\row.length<=1000000 ∧
 (∀ h x,rdW row=some (h,x)->∀ l H',Same H H'->H l=none->H' l=some (.tup [.int h,.int x])->Q (.ref l) H')/\(rdW row=none->BT t H E)
noncomputable def zw8 (K:PySem.W.Frag) (t:Adr):Sp:=fun vs H Q E=>∃ z:Str,vs=[.str z]/\z.length<=1000000/\(rdB z=none->BT t H E) ∧
 ∀ n r lim ws,rdB z=some (n,r,lim,ws)->(¬ zi5 n r (ws.map (·.1)) lim->∀ H',Same H H'->E (.ref t.c_BadBeam) none H')/\(zi5 n r (ws.map (·.1)) lim->¬ zo2 n r (ws.map (·.1)).length (ws.map (·.2))->∀ H',Same H H'->E (.ref t.c_BadStanding) none H') ∧
   (zi5 n r (ws.map (·.1)) lim->zo2 n r (ws.map (·.1)).length (ws.map (·.2))->∀ l b p H',Same H H'->zv2 t H' b n r (ws.map (·.1)) lim->H' p=some (.tup ((ws.map (·.2)).map V.int))->H' l=some (.tup [.ref b,.ref p])->Q (.ref l) H')
theorem cutS {α:Type} (xs:List V) (k:Nat) (hk:k<=xs.length):cutV xs (some (k:Int)) none=xs.drop k:=by
 unfold cutV
 rw[HT.sIx_nat,HT.sIx_none,Nat.min_eq_left hk,List.take_of_length_le (by rw[List.length_drop];omega)]
theorem zr4 (T:Txt K mg t):FnOk P w K mg base (CXE P w) 4 t.a_words_behind t.d_words_behind ["front","row","many"] (zl5 K t):=by
 have G_BadText_init:FnOk P w K mg base CX0 2 t.a_BadText_init t.d_BadText_init ["self","reason"] (zg7 K t):=zi9 T
 refine T.F_words_behind.d.okE zr2 (fun vs H Q E h=>?_) (fun cdv A outer s H vs Q E hr h=>?_)
 . obtain ⟨front,row,k,rfl,hz,q,qe⟩:=h
   rfl
 . obtain ⟨front,row,k,rfl,hz,q,qe⟩:=h
   have hr_BadText:Room 3 _:=hr.mono (by decide)
   refine⟨_,(za2 (zb2 (i:=3) zr2.nd rfl (Or.inl rfl) (zj1 PySem.F.plainAttrs_str PySem.F.slot_str_split PySem.F.type_str_split zm3 (pv 1) (za0 zb5 za3)))
     (za2 (zc5 (PW.pt (zl6 (zb0 zn8 (zc2 zb7 (pv 3) za1 (fun _ _=>rfl)) (pv 0) (zb3 _)) (zm9 (zb0 zn8 (zb6 zb9 rfl T.n_len PySem.boot_len (za0 (pv 3) za3)) (za8 zi4 (pv 2) za1) (zb3 _))))) (za6 (zg0 zf0 rfl T.x_BadText T.i_BadText T.if_BadText G_BadText_init hr_BadText rfl T.m_BadText T.b_BadText_init .nil zc4 (za0 zb5 za3))) zb4)
     (za6 (zc0 (zd7 zj7 (pv 3) (ze9 za1) ze8))))),?_⟩
   refine⟨_,rfl,rfl,_,_,rfl,rfl,by decide,hz,fun l H1 s1 f1 h1=>?_⟩
   have hle:=PyProof.Rows.split_le row (Str.ofString " ")
   unfold wb at q qe
   cases hsp:Txt.split row (Str.ofString " ") with
   | nil=>exact absurd hsp (zw2 _ _)
   | cons w ws =>
     rw[hsp] at h1 q qe hle
     have bad:¬ (w=front/\ws.length=k)->BT t H E:=fun h=>qe (if_neg h)
     refine⟨_,rfl,l,_,_,V.str w,rfl,rfl,SqL.of h1,at_0,_,rfl,rfl,_,rfl,?_⟩
     have raise:¬ (w=front/\ws.length=k)->∀ y,H1 y=none->∀ H' od,H' y=some (ExcO t.c_BadText y od)->zk0 y (upd H1 y (ExcO t.c_BadText y none)) H'->E (.ref t.c_BadText) none (del H' y):=fun h y fy H' od hy sx=>bad h _ (Same.raised s1 fy sx)
     refine zG8 (R:=?R) (S:=fun H'=>H'=H1/\¬ (w=front/\ws.length=k)) (fun fin=>?main) ?fin
     case main =>
       refine ite2 (fun g1=>?ca) (fun g1=>?cb)
       case cb =>
         have g1':w=front:=by simpa using g1
         refine⟨_,rfl,l,_,rfl,.inl (SqL.of h1),_,rfl,_,_,rfl,rfl,rfl,_,rfl,?_⟩
         refine ite2 (fun g2=>?cc) (fun g2=>?cd)
         case cc =>
           refine fin H1 ⟨rfl,fun z=>?_⟩
           rw[List.length_map,List.length_cons,z.2] at g2
           simp at g2
         case cd =>
           rw[List.length_map,List.length_cons] at g2
           have g2':ws.length=k:=by simp at g2;omega
           refine⟨_,rfl,_,rfl,l,_,rfl,SqL.of h1,fun l2 H2 s2 f2 h2=>?_⟩
           have e:cutV ((w::ws).map V.str) (some 1) none=ws.map V.str:=by
             have:=cutS (α:=V) ((w::ws).map V.str) 1 (by simp)
             exact this
           rw[e] at h2
           exact q ws (if_pos ⟨g1',g2'⟩) l2 H2 (s1.trans s2) h2
       case ca =>
         refine fin H1 ⟨rfl,fun z=>?_⟩
         rw[z.1] at g1
         simp at g1
     case fin =>
       rintro H9 ⟨rfl,hb⟩
       exact⟨(by show 1<=sizeLine;decide),fun y fy=>⟨y,_,rfl,za4,fun H' ⟨od,hx⟩ sx=>⟨rfl,od,hx,raise hb y fy H' od hx sx⟩⟩⟩
theorem ok_read_weight (T:Txt K mg t):FnOk P w K mg base (CXE P w) 6 t.a_read_weight t.d_read_weight ["row"] (zs9 K t):=by
 have G_words_behind:FnOk P w K mg base (CXE P w) 4 t.a_words_behind t.d_words_behind ["front","row","many"] (zl5 K t):=zr4 T
 have G_read_number:FnOk P w K mg base (CXE P w) 4 t.a_read_number t.d_read_number ["text"] (zj9 K t):=zn5 T
 have G_read_place:FnOk P w K mg base (CXE P w) 5 t.a_read_place t.d_read_place ["text"] (zu7 K t):=ok_read_place T
 refine T.F_read_weight.d.okE zs3 (fun vs H Q E h=>?_) (fun cdv A outer s H vs Q E hr h=>?_)
 . obtain ⟨row,rfl,hz,q,qe⟩:=h
   rfl
 . obtain ⟨row,rfl,hz,q,qe⟩:=h
   have hr_words_behind:Room 4 _:=hr.mono (by decide)
   have hr_read_number:Room 4 _:=hr.mono (by decide)
   have hr_read_place:Room 5 _:=hr.mono (by decide)
   refine⟨_,(za2 (zb2 (i:=1) zs3.nd rfl (Or.inl rfl) (za9 G_words_behind hr_words_behind rfl T.m_words_behind T.k_words_behind T.b_words_behind .nil ze3 (za0 zb5 (za0 (pv 0) (za0 za1 za3)))))
     (za6 (zc0 (zF1 (za0 (za9 G_read_number hr_read_number rfl T.m_read_number T.k_read_number T.b_read_number .nil ze3 (za0 (zc2 zb7 (pv 1) za1 (fun _ _=>rfl)) za3)) (za0 (za9 G_read_place hr_read_place rfl T.m_read_place T.k_read_place T.b_read_place .nil ze3 (za0 (zc2 zb7 (pv 1) za1 (fun _ _=>rfl)) za3)) za3)))))),?_⟩
   unfold rdW at q qe
   refine⟨_,rfl,_,row,2,rfl,hz,fun ws hws l H1 s1 h1=>?_,fun hn=>qe (by rw[hn])⟩
   obtain ⟨hl,hsp⟩:=zL9 hws
   obtain ⟨a,b,rfl⟩:∃ a b,ws=[a,b]:=by
     match ws,hl with
     | [a,b],_=>exact⟨a,b,rfl⟩
   rw[hws] at q qe
   have hal:a.length<=1000000:=Nat.le_trans (PyProof.Rows.part_short (x:=row) (y:=Str.ofString " ") (by rw[hsp];simp)) hz
   have hbl:b.length<=1000000:=Nat.le_trans (PyProof.Rows.part_short (x:=row) (y:=Str.ofString " ") (by rw[hsp];simp)) hz
   dsimp only at q qe
   refine⟨_,rfl,l,_,_,_,rfl,rfl,SqL.of h1,rfl,a,rfl,hal,fun h hh H2 s2=>?_,fun hn H' s'=>qe (by rw[hn]) H' (s1.trans s')⟩
   refine⟨_,rfl,l,_,_,_,rfl,rfl,SqL.of (s2 _ _ h1),rfl,b,rfl,hbl,fun x hx H3 s3=>?_,fun hn H' s'=>qe (by rw[hh,hn]) H' ((s1.trans s2).trans s')⟩
   have s13:=(s1.trans s2).trans s3
   exact⟨(by show 2<=sizeLine;decide),fun p H4 s4 f4 h4=>q h x (by rw[hh,hx]) p H4 (s13.trans s4) (s13.free f4) h4⟩
theorem ok_read_beam (T:Txt K mg t):FnOk P w K mg base (CXE P w) 7 t.a_read_beam t.d_read_beam ["text"] (zw8 K t):=by
 have G_read_number:FnOk P w K mg base (CXE P w) 4 t.a_read_number t.d_read_number ["text"] (zj9 K t):=zn5 T
 have G_Beam_init:FnOk P w K mg base (CXE P w) 5 t.a_Beam_init t.d_Beam_init ["self","notches","room","hefts","limit"] (zw5 K t):=ok_Beam_init T
 have G_BadText_init:FnOk P w K mg base CX0 2 t.a_BadText_init t.d_BadText_init ["self","reason"] (zg7 K t):=zi9 T
 have G_read_weight:FnOk P w K mg base (CXE P w) 6 t.a_read_weight t.d_read_weight ["row"] (zs9 K t):=ok_read_weight T
 have G_as_standing:FnOk P w K mg base (CXE P w) 4 t.a_as_standing t.d_as_standing ["beam","standing"] (zs8 K t):=ok_as_standing T
 have G_words_behind:FnOk P w K mg base (CXE P w) 4 t.a_words_behind t.d_words_behind ["front","row","many"] (zl5 K t):=zr4 T
 refine T.F_read_beam.d.okE zg5 (fun vs H Q E h=>?_) (fun cdv A outer s H vs Q E hr h=>?_)
 . obtain ⟨z,rfl,hz,qe,q⟩:=h
   rfl
 . obtain ⟨z,rfl,hz,qe,q⟩:=h
   have hr_read_number:Room 4 _:=hr.mono (by decide)
   have hr_Beam:Room 6 _:=hr.mono (by decide)
   have hr_BadText:Room 3 _:=hr.mono (by decide)
   have hr_read_weight:Room 6 _:=hr.mono (by decide)
   have hr_as_standing:Room 4 _:=hr.mono (by decide)
   have hr_words_behind:Room 4 _:=hr.mono (by decide)
   refine⟨_,(za2 (zb2 (i:=1) zg5.nd rfl (Or.inl rfl) (zj1 PySem.F.plainAttrs_str PySem.F.slot_str_split PySem.F.type_str_split zm3 (pv 0) (za0 zb5 za3)))
     (za2 (zc5 (zb0 zv7 (zb6 zb9 rfl T.n_len PySem.boot_len (za0 (pv 1) za3)) za1 (zb3 _)) (za6 (zg0 zf0 rfl T.x_BadText T.i_BadText T.if_BadText G_BadText_init hr_BadText rfl T.m_BadText T.b_BadText_init .nil zc4 (za0 zb5 za3))) zb4)
     (za2 (zb2 (i:=2) zg5.nd rfl (Or.inl rfl) (za9 G_read_number hr_read_number rfl T.m_read_number T.k_read_number T.b_read_number .nil ze3 (za0 (zc2 zb7 (za9 G_words_behind hr_words_behind rfl T.m_words_behind T.k_words_behind T.b_words_behind .nil ze3 (za0 zb5 (za0 (zc2 zb7 (pv 1) za1 (fun _ _=>rfl)) (za0 za1 za3)))) za1 (fun _ _=>rfl)) za3)))
     (za2 (zb2 (i:=3) zg5.nd rfl (Or.inl rfl) (za9 G_read_number hr_read_number rfl T.m_read_number T.k_read_number T.b_read_number .nil ze3 (za0 (zc2 zb7 (za9 G_words_behind hr_words_behind rfl T.m_words_behind T.k_words_behind T.b_words_behind .nil ze3 (za0 zb5 (za0 (zc2 zb7 (pv 1) za1 (fun _ _=>rfl)) (za0 za1 za3)))) za1 (fun _ _=>rfl)) za3)))
     (za2 (zb2 (i:=4) zg5.nd rfl (Or.inl rfl) (za9 G_read_number hr_read_number rfl T.m_read_number T.k_read_number T.b_read_number .nil ze3 (za0 (zc2 zb7 (za9 G_words_behind hr_words_behind rfl T.m_words_behind T.k_words_behind T.b_words_behind .nil ze3 (za0 zb5 (za0 (zc2 zb7 (pv 1) za1 (fun _ _=>rfl)) (za0 za1 za3)))) za1 (fun _ _=>rfl)) za3)))
     (za2 (ps_compE (i:=5) rfl zs0 (zn6 (zd7 zj7 (pv 1) (ze9 za1) ze8)) (fun _ _ _ _ _=>(zd3 (i:=0) zs0.nd rfl (Or.inl rfl))) (fun _ _ _ _ _=>zp1) (fun _ _ _ _ _=>(za9 G_read_weight hr_read_weight rfl T.m_read_weight T.k_read_weight T.b_read_weight .nil passes_compE (za0 (pv 0) za3))) zg5.nd rfl rfl)
     (za2 (zb2 (i:=6) zg5.nd rfl (Or.inl rfl) (pe_make T.mk_Beam G_Beam_init hr_Beam rfl T.m_Beam T.b_Beam_init .nil ze3 (za0 (pv 2) (za0 (pv 3) (za0 (zE7 rfl zs1 (zn6 (pv 5)) (fun _ _ _ _ _=>(zd3 (i:=0) zs1.nd rfl (Or.inl rfl))) (fun _ _ _ _ _=>zp1) (fun _ _ _ _ _=>(zc2 (zI6 K rfl) (pv 0) za1 (fun _ _=>rfl)))) (za0 (pv 4) za3))))))
     (za6 (zc0 (zF1 (za0 (pv 6) (za0 (za9 G_as_standing hr_as_standing rfl T.m_as_standing T.k_as_standing T.b_as_standing .nil ze3 (za0 (pv 6) (za0 (zE7 rfl zs2 (zn6 (pv 5)) (fun _ _ _ _ _=>(zd3 (i:=0) zs2.nd rfl (Or.inl rfl))) (fun _ _ _ _ _=>zp1) (fun _ _ _ _ _=>(zc2 (zI6 K rfl) (pv 0) za1 (fun _ _=>rfl)))) za3))) za3)))))))))))),?_⟩
   have short:∀ w∈Txt.split z (Str.ofString "\n"),w.length<=1000000:=fun w hw=>Nat.le_trans (PyProof.Rows.part_short hw) hz
   have hle:=PyProof.Rows.split_le z (Str.ofString "\n")
   refine⟨_,rfl,rfl,_,_,rfl,rfl,by decide,hz,fun l H1 s1 f1 h1=>?_⟩
   refine⟨_,rfl,l,_,rfl,.inl (SqL.of h1),_,_,rfl,rfl,_,rfl,?_⟩
   rw[List.length_map]
   unfold rdB at q qe
   generalize Txt.split z (Str.ofString "\n")=rows at *
   refine ite2 (fun g1=>?_) (fun g1=>?_)
   . exact⟨(by show 1<=sizeLine;decide),fun y fy=>⟨y,_,rfl,za4,fun H' ⟨od,hx⟩ sx=>⟨rfl,od,hx,qe (rdRows_short (by have:=of_decide_eq_true g1;omega)) _ (Same.raised s1 fy sx)⟩⟩⟩
   have g1':3<=rows.length:=by have:¬ (rows.length:Int)<3:=fun e=>g1 (decide_eq_true e);omega
   match rows,g1' with
   | z0::z1::z2::zs,_ =>
   have m0:=short z0 (by simp)
   have m1:=short z1 (by simp)
   have m2:=short z2 (by simp)
   have mz:∀ w∈zs,w.length<=1000000:=fun w hw=>short w (by simp[hw])
   clear g1 g1'
   refine⟨_,rfl,l,_,_,V.str z0,rfl,rfl,SqL.of h1,at_0,_,z0,1,rfl,m0,fun ws hws l2 H2 s2 h2=>?_,fun hn H' s'=>qe (by simp[zj0,zt9 hn]) H' (s1.trans s')⟩
   obtain ⟨a0,rfl,e0,ma0⟩:=zF5 hws
   refine⟨l2,_,_,V.str a0,rfl,rfl,SqL.of h2,rfl,a0,rfl,Nat.le_trans (PyProof.Rows.part_short ma0) m0,fun n hn H3 s3=>?_,fun hn H' s'=>qe (by simp[zj0,e0,hn]) H' ((s1.trans s2).trans s')⟩
   have s13:=s2.trans s3
   refine⟨_,rfl,l,_,_,V.str z1,rfl,rfl,SqL.of (s13 _ _ h1),at_1,_,z1,1,rfl,m1,fun ws hws1 l4 H4 s4 h4=>?_,fun hn1 H' s'=>qe (by simp[zj0,e0,hn,zt9 hn1]) H' ((s1.trans s13).trans s')⟩
   obtain ⟨a1,rfl,e1,ma1⟩:=zF5 hws1
   refine⟨l4,_,_,V.str a1,rfl,rfl,SqL.of h4,rfl,a1,rfl,Nat.le_trans (PyProof.Rows.part_short ma1) m1,fun r hr1 H5 s5=>?_,fun hn1 H' s'=>qe (by simp[zj0,e0,hn,e1,hn1]) H' (((s1.trans s13).trans s4).trans s')⟩
   have s15:=(s13.trans s4).trans s5
   refine⟨_,rfl,l,_,_,V.str z2,rfl,rfl,SqL.of (s15 _ _ h1),at_2,_,z2,1,rfl,m2,fun ws hws2 l6 H6 s6 h6=>?_,fun hn2 H' s'=>qe (by simp[zj0,e0,hn,e1,hr1,zt9 hn2]) H' ((s1.trans s15).trans s')⟩
   obtain ⟨a2,rfl,e2,ma2⟩:=zF5 hws2
   refine⟨l6,_,_,V.str a2,rfl,rfl,SqL.of h6,rfl,a2,rfl,Nat.le_trans (PyProof.Rows.part_short ma2) m2,fun lim hlim H7 s7=>?_,fun hn2 H' s'=>qe (by simp[zj0,e0,hn,e1,hr1,e2,hn2]) H' (((s1.trans s15).trans s6).trans s')⟩
   have s17:=(s15.trans s6).trans s7
   have s07:=s1.trans s17
   have h17:=s17 _ _ h1
   have ek:zj0 (z0::z1::z2::zs)=(allW zs).bind fun ws=>some (n,r,lim,ws):=by simp[zj0,e0,hn,e1,hr1,e2,hlim]
   rw[ek] at qe
   have q':=fun ws (h:allW zs=some ws)=>q n r lim ws (by rw[ek,h];rfl)
   clear q ek hws hws1 hws2 e0 e1 e2 ma0 ma1 ma2 s2 s3 s4 s5 s6 s7 h2 h4 h6 s13 s15 m0 m1 m2 short
   have hzs:zs.length<=1000001:=by simp only[List.length_cons] at hle;omega
   refine⟨_,rfl,_,rfl,l,_,rfl,SqL.of h17,fun p H8 s8 fp h8=>?_⟩
   have ec:cutV ((z0::z1::z2::zs).map V.str) (some 3) none=zs.map V.str:=cutS (α:=V) ((z0::z1::z2::zs).map V.str) 3 (by simp)
   rw[ec] at h8
   have s08:=s07.trans s8
   refine⟨p,rfl,⟨_,SqL.of h8⟩,fun D hD=>?_⟩
   have hsl:sizeLine=16777216:=by decide
   refine zv0 (K:=K) (a:=p) (xs:=zs.map V.str) (fun i H'=>Same H8 H'/\∃ (rs:List Addr) (ys:List (Int×Int)),(zs.take i).map rdW=ys.map some/\rs.length=ys.length/\H' D=some (.lst (rs.map V.ref))/\∀ (j:Nat) c y,rs[j]?=some c->ys[j]?=some y->H' c=some (.tup [.int y.1,.int y.2]))
     ⟨Same.upd hD,[],[],rfl,rfl,za4,fun j c y e=>by simp at e⟩ (fun i H' iv=>SqL.of (iv.1 _ _ h8)) (fun i x H' N hi iv hN=>?_) (fun H' iv=>?_)
   . dsimp only[zu4]
     rw[List.getElem?_map] at hi
     cases hw:zs[i]? with
     | none=>rw[hw] at hi;cases hi
     | some wd =>
       rw[hw] at hi
       cases hi
       obtain ⟨s9,rs,ys,hys,hlr,hDr,hrs⟩:=iv
       have hil:i<zs.length:=(List.getElem?_eq_some_iff.mp hw).1
       have hyl:ys.length=i:=by
         have:=congrArg List.length hys
         rw[List.length_map,List.length_map,List.length_take] at this
         omega
       refine iteT ⟨_,rfl,wd,rfl,mz _ (List.mem_of_getElem? hw),fun h x hrd c H2 s2 fc hc=>⟨_,s2 _ _ hDr,?_,hN _ ⟨(s9.trans s2).put hD,rs++[c],ys++[(h,x)],?_,?_,?_,?_⟩⟩,fun hrd H2 s2=>qe (by rw[zC8 hw hrd];rfl) H2 ((s08.trans s9).trans s2)⟩
       . rw[List.length_map];omega
       . rw[List.take_succ,hw,List.map_append,hys,List.map_append]
         simp[hrd]
       . rw[List.length_append,List.length_append,hlr];rfl
       . rw[za4,List.map_append];rfl
       . intro j c' y e1 e2
         have cD:c≠D:=fun e=>by rw[e,hDr] at fc;cases fc
         rcases Nat.lt_or_ge j rs.length with hj | hj
         . rw[List.getElem?_append_left hj] at e1
           rw[List.getElem?_append_left (by omega)] at e2
           have h0:=hrs j c' y e1 e2
           have c'D:c'≠D:=fun e=>by rw[e,hDr] at h0;cases h0
           rw[za7 c'D]
           exact s2 _ _ h0
         . rw[List.getElem?_append_right hj] at e1
           rw[List.getElem?_append_right (by omega)] at e2
           have ej:j-rs.length=0:=by
             rcases Nat.eq_zero_or_pos (j-rs.length) with h | h
             . exact h
             . rw[List.getElem?_eq_none (by simp;omega)] at e1;cases e1
           rw[ej] at e1
           rw[show j-ys.length=0 by omega] at e2
           cases e1
           cases e2
           rw[za7 cD]
           exact hc
   . obtain ⟨s9,rs,ys,hys,hlr,hDr,hrs⟩:=iv
     rw[List.length_map,List.take_length] at hys
     have hyz:ys.length=zs.length:=by
       have:=congrArg List.length hys
       rw[List.length_map,List.length_map] at this
       omega
     obtain ⟨qb,qs,q⟩:=q' ys (zC9 hys)
     have s09:=s08.trans s9
     clear qe q' s17 h17 h1 h8 s1 s07 s8 s9 s08 hys
     have pick:∀ (H9:Hp) (D2:Addr),Same H' H9->H9 D2=none->∀ (k:Int) (vs:List Int),vs.length=rs.length->(∀ (j:Nat) c,rs[j]?=some c->∃ y,vs[j]?=some y/\∃ xs,H' c=some (.tup xs)/\atI xs k=some (.int y))->vs.length<=sizeLine →
         ∀ Q2:Hp->Prop,Q2 (upd H9 D2 (.lst (vs.map V.int)))->∃ W:Nat->Nat->St->Hp->Prop,(∃ m,W 0 m [none] (upd H9 D2 (.lst [])))/\∀ i m σ' H',W i m σ' H'->((Itl K D).stop i H'/\Q2 H')\/((Itl K D).go i H'/\∃ N:St->Hp->Prop,(∀ σ2 H2,N σ2 H2->∃ m',m'<m/\W (i+1) m' σ2 H2) ∧
           ∀ v H2,(Itl K D).yld i H' v H2->zl0 0 v σ' H2 fun σ3 H3=>zu4 σ3 H3 fun b H4=>if b=true then zo1 D2 (tOp (rIxT K) (tVar 0) (tC (V.int k))) N σ3 H4 else N σ3 H4):=fun H9 D2 sm hD2 k vs hvl hv hvs Q2 q2=>by
       have nD:D≠D2:=fun e=>by rw[<-e] at hD2;rw[sm _ _ hDr] at hD2;cases hD2
       refine zv0 (K:=K) (a:=D) (xs:=rs.map V.ref) (fun i H''=>H''=upd H9 D2 (.lst ((vs.take i).map V.int))) rfl (fun i H'' iv=>by rw[iv];exact SqL.of (by rw[za7 nD];exact sm _ _ hDr)) (fun i x H'' N hi iv hN=>?_) (fun H'' iv=>?_)
       . subst iv
         dsimp only[zu4]
         rw[List.getElem?_map] at hi
         cases hc:rs[i]? with
         | none=>rw[hc] at hi;cases hi
         | some c =>
           rw[hc] at hi
           cases hi
           obtain ⟨y,ey,tx,htx,hat⟩:=hv i c hc
           have hil:i<vs.length:=(List.getElem?_eq_some_iff.mp ey).1
           have nc:c≠D2:=fun e=>by rw[<-e] at hD2;rw[sm _ _ htx] at hD2;cases hD2
           refine iteT ⟨_,rfl,c,tx,_,_,rfl,rfl,SqT.of (by rw[za7 nc];exact sm _ _ htx),hat,_,za4,?_,hN _ ?_⟩
           . rw[List.length_map,List.length_take];omega
           . rw[zi7,List.take_succ,List.map_append,ey]
             rfl
       . rw[List.length_map,<-hvl,List.take_length] at iv
         rw[iv]
         exact q2
     have hrl:rs.length<=sizeLine:=by omega
     refine⟨_,rfl,_,rfl,_,rfl,D,rfl,⟨_,SqL.of hDr⟩,fun D2 hD2=>?_⟩
     refine pick H' D2 (Same.refl _) hD2 0 (ys.map (·.1)) (by rw[List.length_map];omega) (fun j c hj=>?_) (by rw[List.length_map];omega) _ ?_
     . have hjl:j<ys.length:=by have:=(List.getElem?_eq_some_iff.mp hj).1;omega
       exact⟨(ys[j]).1,by simp[hjl],_,hrs j c _ hj (List.getElem?_eq_getElem hjl),at_0⟩
     have s2:=Same.upd (o:=.lst ((ys.map (·.1)).map V.int)) hD2
     have h2:(upd H' D2 (.lst ((ys.map (·.1)).map V.int))) D2=some (.lst ((ys.map (·.1)).map V.int)):=za4
     revert s2 h2
     generalize upd H' D2 (.lst ((ys.map (·.1)).map V.int))=H10
     intro s2 h2
     refine⟨_,rfl,fun b dx fb fdx ndx=>?_⟩
     have s4:Same H10 (upd (upd H10 dx (.own b)) b (.ins t.c_Beam dx [])):=(Same.upd fdx).updT (by rw[za7 (Ne.symm ndx)];exact fb)
     have e3b:D2≠b:=fun e=>by rw[<-e,h2] at fb;cases fb
     have e3d:D2≠dx:=fun e=>by rw[<-e,h2] at fdx;cases fdx
     refine⟨b,dx,D2,n,r,lim,ys.map (·.1),rfl,za4,.inl (SqL.of (by rw[za7 e3b,za7 e3d];exact h2)),fun ok H5 B5 s5=>⟨rfl,?_⟩,fun nb H9 s9=>qb nb H9 (((s09.trans s2).trans s4).trans s9)⟩
     have s25:Same H10 H5:=fun c o e=>s5 c o (s4 c o e) (zb8 e fb)
     have s9:=s2.trans s25
     refine⟨_,rfl,_,rfl,_,rfl,D,rfl,⟨_,SqL.of (s9 _ _ hDr)⟩,fun D3 hD3=>?_⟩
     refine pick H5 D3 s9 hD3 1 (ys.map (·.2)) (by rw[List.length_map];omega) (fun j c hj=>?_) (by rw[List.length_map];omega) _ ?_
     . have hjl:j<ys.length:=by have:=(List.getElem?_eq_some_iff.mp hj).1;omega
       exact⟨(ys[j]).2,by simp[hjl],_,hrs j c _ hj (List.getElem?_eq_getElem hjl),at_1⟩
     have s6:=Same.upd (o:=.lst ((ys.map (·.2)).map V.int)) hD3
     refine⟨b,D3,n,r,lim,ys.map (·.1),ys.map (·.2),rfl,B5.same s6,SqL.of za4,fun V0 l7 H7 s7 h7=>?_,fun nv H7 s7=>qs ok nv H7 (((s09.trans s9).trans s6).trans s7)⟩
     refine⟨(by show 2<=sizeLine;decide),fun l8 H8' s8 f8 h8=>?_⟩
     have s68:=(s6.trans s7).trans s8
     exact q ok V0 l8 b l7 _ ((s09.trans s9).trans s68) (B5.same s68) (s8 _ _ h7) h8
end
end Bt
namespace Bt
open PySem L2
section
variable {P:Program} {w:World} {K:PySem.W.Frag} {mg:Str->Option Value} {base:Heap} {t:Adr}
/-! ### the law's own reading -/
noncomputable def zd0 (z:Str):Int:=match ze2 z with
 | some n=>n
 | none=>-1
noncomputable def optV:Option Int->V
 | some n=>.int n
 | none=>.non
noncomputable def zt0 (K:PySem.W.Frag) (t:Adr):Sp:=fun vs H Q _=>∃ z:Str,vs=[.str z]/\z.length<=1000000/\Asc z/\Q (.int (zd0 z)) H
noncomputable def zD0 (K:PySem.W.Frag) (t:Adr):Sp:=fun vs H Q _=>∃ z:Str,vs=[.str z]/\z.length<=1000000/\Asc z/\∀ H',Same H H'->Q (optV (zm0 z)) H'
theorem zu0 {z:Str} (h:¬ zp3 z=true):zd0 z = -1:=by
 unfold zd0 ze2
 rw[if_neg h]
theorem zy5 (T:Txt K mg t):FnOk P w K mg base CX0 1 t.a_w_number t.d_w_number ["_law_word"] (zt0 K t):=by
 refine T.F_w_number.ok sc_w_number (fun vs H Q E h=>?_) (fun cdv A outer s H vs Q E hr h=>?_)
 . obtain ⟨z,rfl,hz,ha,q⟩:=h
   rfl
 . obtain ⟨z,rfl,hz,ha,q⟩:=h
   refine⟨_,(za2 (zc5 (PW.pt (zl6 (zb0 zv7 (zb6 ze4 rfl T.n_len PySem.boot_len (za0 (pv 0) za3)) za1 (zb3 _)) (zl6 (zb0 zn9 (zb6 ze4 rfl T.n_len PySem.boot_len (za0 (pv 0) za3)) za1 (zb3 _)) (zm9 (zo5 (zf7 (pe_bm0 PySem.F.plainAttrs_str PySem.F.slot_str_isdigit PySem.F.type_str_isdigit mt_isdig (pv 0)))))))) (za6 (zc0 (zG0 zz6 za1))) zb4)
     (za2 (zc5 (PW.pt (zD9 (zb0 zn9 (zb6 ze4 rfl T.n_len PySem.boot_len (za0 (pv 0) za3)) za1 (zb3 _)) (zy7 (zb0 zf5 (zc2 zE4 (pv 0) za1 (fun _ _=>rfl)) zb5 (zb3 _))))) (za6 (zc0 (zG0 zz6 za1))) zb4)
     (za6 (zc0 (zf9 zu5 rfl T.n_int PyProof.Rows.boot_int (za0 (pv 0) za3)))))),?_⟩
   have hl:z.cps.toList.length=z.length:=by simp[Str.length]
   refine⟨_,rfl,_,rfl,zi0 hz,_,_,rfl,rfl,_,rfl,?_⟩
   refine ite2 (fun h1=>?_) (fun h1=>?_)
   . have h1':(z.length:Int)<1:=of_decide_eq_true h1
     rw[zu0 fun e=>by have:=zm8.mp e;omega] at q
     exact iteT ⟨_,rfl,q⟩
   . have g1:¬ (z.length:Int)<1:=fun e=>h1 (decide_eq_true e)
     refine⟨_,rfl,_,rfl,zi0 hz,_,_,rfl,rfl,_,rfl,?_⟩
     refine ite2 (fun h2=>?_) (fun h2=>?_)
     . have h2':(4:Int)<z.length:=of_decide_eq_true h2
       rw[zu0 fun e=>by have:=zm8.mp e;omega] at q
       exact iteT ⟨_,rfl,q⟩
     . have g2:¬ (4:Int)<z.length:=fun e=>h2 (decide_eq_true e)
       refine⟨_,rfl,rfl,_,rfl,rfl,_,rfl,?_⟩
       refine ite2 (fun h3=>?_) (fun h3=>?_)
       . have h3':Txt.isdigit z=false:=by simpa using h3
         rw[zu0 fun e=>by
           obtain ⟨a1,a2,a3,a4⟩:=zm8.mp e
           have:=(zC7 ha).mpr ⟨fun e0=>by rw[e0] at hl;simp at hl;omega,a3⟩
           rw[h3'] at this
           cases this] at q
         exact⟨_,rfl,q⟩
       . have h3':Txt.isdigit z=true:=by simpa using h3
         obtain ⟨d1,d2⟩:=(zC7 ha).mp h3'
         obtain ⟨c,r,hc⟩:∃ c r,z.cps.toList=c::r:=by
           cases hz0:z.cps.toList with
           | nil=>exact absurd hz0 d1
           | cons c r=>exact⟨c,r,rfl⟩
         refine⟨_,rfl,_,rfl,zi0 hz,_,_,rfl,rfl,_,rfl,?_⟩
         have done:zp3 z=true->tRet (tCB (fun xs H Q=>∃ x n,xs=[.str x]/\intText? x=some n/\x.length<=640/\Q (.int n) H) (zI2 (tVar 0) tNil)) { nx:=fun _ H'=>Q V.non H',rt:=Q } [some (.str z)] H:=fun e=>by
           have hr0:ze2 z=some ((NumText.digitsVal z.cps.toList:Nat):Int):=by unfold ze2;rw[if_pos e]
           unfold zd0 at q
           rw[hr0] at q
           exact⟨_,rfl,z,_,rfl,zC1 e,by omega,q⟩
         refine ite2 (fun h4=>?_) (fun h4=>?_)
         . have g4:(1:Int)<z.length:=of_decide_eq_true h4
           refine⟨_,rfl,z,0,c,rfl,rfl,zi0 hz,by rw[hc];exact at_0,rfl,_,rfl,?_⟩
           refine ite2 (fun h5=>?_) (fun h5=>?_)
           . have h5':c=48:=by
               have:=of_decide_eq_true h5
               injection this with this
               rw[zJ6,zF4] at this
               simpa using this
             rw[zu0 fun e=>by
               obtain ⟨a1,a2,a3,a4⟩:=zm8.mp e
               exact a4 (by omega) (by rw[hc,h5'];rfl)] at q
             exact⟨_,rfl,q⟩
           . refine done (zm8.mpr ⟨by omega,by omega,d2,fun _ e=>h5 (decide_eq_true ?_)⟩)
             rw[hc] at e
             have e':c=48:=by simpa using e
             rw[e',zJ6]
         . have g4:¬ (1:Int)<z.length:=fun e=>h4 (decide_eq_true e)
           refine iteF (done (zm8.mpr ⟨by omega,by omega,d2,fun e=>?_⟩))
           omega
theorem ok_w_spot (T:Txt K mg t):FnOk P w K mg base CX0 2 t.a_w_spot t.d_w_spot ["_law_word"] (zD0 K t):=by
 have G_w_number:FnOk P w K mg base CX0 1 t.a_w_number t.d_w_number ["_law_word"] (zt0 K t):=zy5 T
 refine T.F_w_spot.ok zx6 (fun vs H Q E h=>?_) (fun cdv A outer s H vs Q E hr h=>?_)
 . obtain ⟨z,rfl,hz,ha,q⟩:=h
   rfl
 . obtain ⟨z,rfl,hz,ha,q⟩:=h
   have hr_w_number:Room 1 _:=hr.mono (by decide)
   refine⟨_,(za2 (zc5 (zb0 zf5 (pv 0) zb5 (zb3 _)) (za6 (zc0 za1)) zb4)
     (za2 (zb2 (i:=1) zx6.nd rfl (Or.inl rfl) (zf9 call_int1 rfl T.n_int PyProof.Rows.boot_int (za0 (zh4 zf5 (zd7 zq7 (pv 0) ze8 (ze9 za1)) zb5 (zb3 _)) za3)))
     (za2 (zb2 (i:=2) zx6.nd rfl (Or.inl rfl) (za9 G_w_number hr_w_number rfl T.m_w_number T.k_w_number T.b_w_number .nil zc4 (za0 (zd7 zq7 (pv 0) (ze9 (pv 1)) ze8) za3)))
     (za2 (zc5 (zb0 zv7 (pv 2) za1 (zb3 _)) (za6 (zc0 zx0)) zb4)
     (za6 (zc0 (zc2 zb7 (zo6 (za0 (pv 2) (za0 (za8 zx2 za1 (pv 2)) za3))) (pv 1) (fun _ _=>rfl)))))))),?_⟩
   refine⟨_,rfl,rfl,_,rfl,?_⟩
   unfold zm0 at q
   refine ite2 (fun h1=>?_) (fun h1=>?_)
   . have e:z=Str.ofString "tray":=by simpa using h1
     rw[if_pos e] at q
     exact q _ (Same.refl _)
   . have e:¬ z=Str.ofString "tray":=by simpa using h1
     rw[if_neg e] at q
     refine⟨_,rfl,_,rfl,z,rfl,zi0 hz,rfl,.inr ⟨_,rfl,?_⟩⟩
     rw[one_minus]
     have fin:∀ (z':Str) (m:Int) (i:Int),(m=1/\i=1\/m=0/\i=0)->(zd0 z'<1->∀ H',Same H H'->Q .non H')->(¬ zd0 z'<1->∀ H',Same H H'->Q (.int (if m=1 then 0-zd0 z' else zd0 z')) H') →
         (tSeq (tIfS (zM3 (tOp (rI0 fun i j=>V.bl (decide (i<j))) (tVar 2) (tC (V.int 1)))) (tRet (tC V.non)) zK1)
           (tRet (tOp (rIxL K) (tLst (zI2 (tVar 2) (zI2 (tOp (rI0 fun i j=>V.int (i-j)) (tC (V.int 0)) (tVar 2)) tNil))) (tVar 1)))) { nx:=fun x H'=>Q V.non H',rt:=Q } [some (.str z),some (.int m),some (.int (zd0 z'))] H:=fun z' m i hm q1 q2=>by
       refine⟨_,rfl,_,_,rfl,rfl,_,rfl,?_⟩
       refine ite2 (fun h3=>?_) (fun h3=>?_)
       . exact q1 (of_decide_eq_true h3) _ (Same.refl _)
       . have h3':¬ zd0 z'<1:=fun e=>h3 (decide_eq_true e)
         refine⟨_,rfl,_,rfl,_,_,rfl,rfl,(by show 2<=sizeLine;decide),fun l hl=>?_⟩
         refine⟨_,rfl,l,_,_,_,rfl,rfl,SqL.of za4,?_,q2 h3' _ (Same.upd hl)⟩
         rcases hm with ⟨rfl,_⟩ | ⟨rfl,_⟩
         . rw[if_pos rfl];exact at_1
         . rw[if_neg (by decide)];exact at_0
     cases h2:Txt.startswith z (Str.ofString "-") with
     | true =>
       rw[h2] at q
       simp only[if_true] at q ⊢
       refine⟨_,rfl,_,rfl,_,rfl,z,rfl,zi0 hz,_,rfl,Nat.le_trans (Txt.slice_le z _ _) hz,ha.sl,?_⟩
       refine fin _ 1 1 (.inl ⟨rfl,rfl⟩) (fun h3 H' s'=>?_) (fun h3 H' s'=>?_)
       . have:=q H' s'
         unfold zd0 at h3
         cases hn:ze2 (Txt.slice z (some 1) none) with
         | none=>rw[hn] at this;exact this
         | some n =>
           rw[hn] at this h3
           have hp:=(zA5 hn).1
           have e0:n=0:=by dsimp only at h3;omega
           subst e0
           exact this
       . have:=q H' s'
         unfold zd0 at h3 ⊢
         cases hn:ze2 (Txt.slice z (some 1) none) with
         | none=>rw[hn] at h3;exact absurd h3 (by decide)
         | some n =>
           rw[hn] at this h3
           dsimp only at this h3 ⊢
           rw[if_neg (by omega)] at this
           rw[if_pos rfl]
           have e1:(0:Int)-n = -n:=by omega
           rw[e1]
           exact this
     | false =>
       rw[h2] at q
       simp only[Bool.false_eq_true,if_false] at q ⊢
       refine⟨_,rfl,_,rfl,_,rfl,z,rfl,zi0 hz,_,rfl,Nat.le_trans (Txt.slice_le z _ _) hz,ha.sl,?_⟩
       refine fin _ 0 0 (.inr ⟨rfl,rfl⟩) (fun h3 H' s'=>?_) (fun h3 H' s'=>?_)
       . rw[zJ7] at h3
         have:=q H' s'
         unfold zd0 at h3
         cases hn:ze2 z with
         | none=>rw[hn] at this;exact this
         | some n =>
           rw[hn] at this h3
           have hp:=(zA5 hn).1
           have e0:n=0:=by dsimp only at h3;omega
           subst e0
           exact this
       . rw[zJ7] at h3 ⊢
         have:=q H' s'
         unfold zd0 at h3 ⊢
         cases hn:ze2 z with
         | none=>rw[hn] at h3;exact absurd h3 (by decide)
         | some n =>
           rw[hn] at this h3
           dsimp only at this h3 ⊢
           rw[if_neg (by omega)] at this
           rw[if_neg (by decide)]
           exact this
end
end Bt
namespace Bt
open PySem L2
section
variable {P:Program} {w:World} {K:PySem.W.Frag} {mg:Str->Option Value} {base:Heap} {t:Adr}
/-! ### the law's own texts -/
noncomputable def zD1 (K:PySem.W.Frag) (t:Adr):Sp:=fun vs H Q _=>∃ (z:Str) (c:Int),vs=[.str z,.int c]/\z.length<=100000/\Asc z/\∀ z':Str,Asc z'->z'.length<=2*z.length+1->Q (.str z') H
noncomputable def zA6 (K:PySem.W.Frag) (t:Adr):Sp:=fun vs H Q _=>∃ (c:Int) (n:Nat),vs=[.int c,.int n]/\n<=1000/\∀ z':Str,Asc z'->z'.length<=n->Q (.str z') H
noncomputable def zD2 (K:PySem.W.Frag) (t:Adr):Sp:=fun vs H Q _=>∃ c:Int,vs=[.int c]/\∀ (z':Str) H',Same H H'->Asc z'->z'.length<=10->Q (.str z') H'
noncomputable instance (z:Str):Decidable (Asc z):=inferInstanceAs (Decidable (∀ c∈z.cps.toList,c<128))
theorem zJ8 {α:Type} {xs:List α} {i:Int} (h0:0<=i) (h1:i<xs.length):∃ x,x∈xs/\atI xs i=some x:=by
 obtain ⟨j,rfl⟩:∃ j:Nat,i=j:=⟨i.toNat,by omega⟩
 have hj:j<xs.length:=by omega
 exact⟨xs[j],List.getElem_mem _,zo0 (by simp[hj])⟩
theorem zD3 {z:Str} (ha:Asc z) {i:Int} (h0:0<=i) (h1:i<z.length):∃ c,c<128/\atI z.cps.toList i=some c:=by
 have hl:z.cps.toList.length=z.length:=by simp[Str.length]
 obtain ⟨c,hc,e⟩:=zJ8 (xs:=z.cps.toList) h0 (by omega)
 exact⟨c,ha c hc,e⟩
theorem asc1 {c:Nat} (h:c<128):Asc ⟨#[c]⟩:=fun d hd=>by
 have:d=c:=by simpa using hd
 omega
noncomputable def zt1:Str:=Str.ofString "0123456789- tray\nnoe+~.wlST"
theorem signs1_ok:Asc zt1/\zt1.length=27:=by decide +kernel
theorem ok_w_edit (T:Txt K mg t):FnOk P w K mg base CX0 1 t.a_w_edit t.d_w_edit ["_law_text","_law_cell"] (zD1 K t):=by
 refine T.F_w_edit.ok zp9 (fun vs H Q E h=>?_) (fun cdv A outer s H vs Q E hr h=>?_)
 . obtain ⟨z,c,rfl,hz,ha,q⟩:=h
   rfl
 . obtain ⟨z,c,rfl,hz,ha,q⟩:=h
   refine⟨_,(za2 (zb2 (i:=2) zp9.nd rfl (Or.inl rfl) zb5)
     (za2 (zb2 (i:=3) zp9.nd rfl (Or.inl rfl) (za8 zd4 (pv 1) za1))
     (za2 (zb2 (i:=4) zp9.nd rfl (Or.inl rfl) (za8 zd4 (za8 ze7 (pv 1) za1) (za8 zi4 (zb6 ze4 rfl T.n_len PySem.boot_len (za0 (pv 0) za3)) za1)))
     (za2 (zb2 (i:=5) zp9.nd rfl (Or.inl rfl) (zc2 zE4 (pv 2) (za8 zd4 (za8 ze7 (za8 ze7 (pv 1) za1) (za8 zi4 (zb6 ze4 rfl T.n_len PySem.boot_len (za0 (pv 0) za3)) za1)) (zb6 ze4 rfl T.n_len PySem.boot_len (za0 (pv 2) za3))) (fun _ _=>rfl)))
     (za2 (zc5 (zb0 zf5 (pv 3) za1 (zb3 _)) (za6 (zc0 (za8 zc7 (za8 zc7 (zd7 zq7 (pv 0) ze8 (ze9 (pv 4))) (pv 5)) (zd7 zq7 (pv 0) (ze9 (pv 4)) ze8)))) zb4)
     (za2 (zc5 (zb0 zf5 (pv 3) za1 (zb3 _)) (za6 (zc0 (za8 zc7 (zd7 zq7 (pv 0) ze8 (ze9 (pv 4))) (zd7 zq7 (pv 0) (ze9 (za8 zi4 (pv 4) za1)) ze8)))) zb4)
     (za2 (zc5 (zb0 zf5 (pv 3) za1 (zb3 _)) (za6 (zc0 (za8 zc7 (za8 zc7 (zd7 zq7 (pv 0) ze8 (ze9 (pv 4))) (pv 5)) (zd7 zq7 (pv 0) (ze9 (za8 zi4 (pv 4) za1)) ze8)))) zb4)
     (za6 (zc0 (pv 0)))))))))),?_⟩
   have hsl:sizeLine=16777216:=by decide
   have hs2:=signs1_ok
   have l27:=hs2.2
   have hpos:(0:Int)<(z.length:Int)+1:=by omega
   refine⟨_,rfl,_,_,rfl,rfl,(by show (0:Int)<9;decide),?_⟩
   refine⟨_,rfl,_,_,rfl,rfl,⟨by decide,by decide⟩,_,rfl,_,rfl,by omega,_,_,rfl,rfl,_,_,rfl,rfl,hpos,?_⟩
   have t0:0<=c / 9 % ((z.length:Int)+1):=Int.emod_nonneg _ (by omega)
   refine⟨_,rfl,_,rfl,_,_,rfl,rfl,⟨by decide,by decide⟩,_,rfl,_,rfl,by omega,_,_,rfl,rfl,_,_,rfl,rfl,⟨hpos,by omega⟩,_,rfl,_,rfl,(by show zt1.length<=sizeLine;omega),_,_,rfl,rfl,(by show (0:Int)<((zt1.length:Nat):Int);omega),?_⟩
   have w0:0<=c / 9 / ((z.length:Int)+1) % ((zt1.length:Nat):Int):=Int.emod_nonneg _ (by omega)
   have w1:c / 9 / ((z.length:Int)+1) % ((zt1.length:Nat):Int)<((zt1.length:Nat):Int):=Int.emod_lt_of_pos _ (by omega)
   obtain ⟨d,hd,ed⟩:=zD3 hs2.1 w0 w1
   refine⟨_,_,d,rfl,rfl,(by show zt1.length<=sizeLine;omega),ed,?_⟩
   have q1:∀ a b:Option Int,∀ x y:Option Int,Q (.str ((Txt.slice z a b++⟨#[d]⟩)++Txt.slice z x y)) H:=fun a b x y=>q _ ((ha.sl.app (asc1 hd)).app ha.sl) (by
     rw[ze1,ze1]
     have:=Txt.slice_le z a b
     have:=Txt.slice_le z x y
     have e1:(⟨#[d]⟩:Str).length=1:=rfl
     omega)
   have q2:∀ a b:Option Int,∀ x y:Option Int,Q (.str (Txt.slice z a b++Txt.slice z x y)) H:=fun a b x y=>q _ (ha.sl.app ha.sl) (by
     rw[ze1]
     have:=Txt.slice_le z a b
     have:=Txt.slice_le z x y
     omega)
   have sl1:∀ a b,(Txt.slice z a b).length<=100000:=fun a b=>Nat.le_trans (Txt.slice_le z a b) hz
   have e1:(⟨#[d]⟩:Str).length=1:=rfl
   have hz6:z.length<=sizeLine:=by omega
   have b1:∀ a b,(Txt.slice z a b).length+(⟨#[d]⟩:Str).length<=sizeLine:=fun a b=>by have:=sl1 a b;omega
   have b2:∀ a b x y,(Txt.slice z a b++⟨#[d]⟩).length+(Txt.slice z x y).length<=sizeLine:=fun a b x y=>by rw[ze1];have:=sl1 a b;have:=sl1 x y;omega
   have b3:∀ a b x y,(Txt.slice z a b).length+(Txt.slice z x y).length<=sizeLine:=fun a b x y=>by have:=sl1 a b;have:=sl1 x y;omega
   refine⟨_,rfl,rfl,_,rfl,?_⟩
   refine ite2 (fun _=>?_) (fun _=>?_)
   . exact⟨_,rfl,_,rfl,_,rfl,z,rfl,hz6,_,rfl,_,_,rfl,rfl,b1 _ _,_,rfl,_,rfl,_,rfl,z,rfl,hz6,_,_,rfl,rfl,b2 _ _ _ _,q1 _ _ _ _⟩
   refine⟨_,rfl,rfl,_,rfl,?_⟩
   refine ite2 (fun _=>?_) (fun _=>?_)
   . exact⟨_,rfl,_,rfl,_,rfl,z,rfl,hz6,_,rfl,_,rfl,_,_,rfl,rfl,_,rfl,z,rfl,hz6,_,_,rfl,rfl,b3 _ _ _ _,q2 _ _ _ _⟩
   refine⟨_,rfl,rfl,_,rfl,?_⟩
   refine ite2 (fun _=>?_) (fun _=>?_)
   . exact⟨_,rfl,_,rfl,_,rfl,z,rfl,hz6,_,rfl,_,_,rfl,rfl,b1 _ _,_,rfl,_,rfl,_,_,rfl,rfl,_,rfl,z,rfl,hz6,_,_,rfl,rfl,b2 _ _ _ _,q1 _ _ _ _⟩
   . exact⟨_,rfl,q z ha (by omega)⟩
noncomputable def zr0:Str:=Str.ofString " 0123456789-tray\nnoewighlmvsfxbcdjkpquz"++Str.ofString "ABCDEFGHIJKLMNOPQRSTUVWXYZ!\"#$&'()*+,./:;<=>?@\x5b\\]^_`{|}~"
theorem signs2_ok:Asc zr0/\0<zr0.length/\zr0.length<=200:=by decide +kernel
theorem ok_w_spell (T:Txt K mg t):FnOk P w K mg base CX0 1 t.a_w_spell t.d_w_spell ["_law_cell","_law_count"] (zA6 K t):=by
 refine T.F_w_spell.ok zh9 (fun vs H Q E h=>?_) (fun cdv A outer s H vs Q E hr h=>?_)
 . obtain ⟨c,n,rfl,hn,q⟩:=h
   rfl
 . obtain ⟨c,n,rfl,hn,q⟩:=h
   refine⟨_,(za2 (zb2 (i:=2) zh9.nd rfl (Or.inl rfl) zb5)
     (za2 (zb2 (i:=2) zh9.nd rfl (Or.inl rfl) (za8 zc7 (pv 2) zb5))
     (za2 (zb2 (i:=3) zh9.nd rfl (Or.inl rfl) zb5)
     (za2 (zb2 (i:=4) zh9.nd rfl (Or.inl rfl) (pv 0))
     (za2 (zn0 PassesOwn.never rfl (zm2 rfl T.n_range (za0 (pv 1) za3)) (zd3 (i:=5) zh9.nd rfl (Or.inl rfl)) (za2 (zb2 (i:=3) zh9.nd rfl (Or.inl rfl) (za8 zc7 (pv 3) (zc2 zE4 (pv 2) (za8 zd4 (pv 4) (zb6 ze4 rfl T.n_len PySem.boot_len (za0 (pv 2) za3))) (fun _ _=>rfl))))
     (za6 (zb2 (i:=4) zh9.nd rfl (Or.inl rfl) (za8 ze7 (pv 4) (zb6 ze4 rfl T.n_len PySem.boot_len (za0 (pv 2) za3)))))))
     (za6 (zc0 (pv 3)))))))),?_⟩
   have hsl:sizeLine=16777216:=by decide
   obtain ⟨a2,l0,l2⟩:=signs2_ok
   have hl2:((Str.ofString " 0123456789-tray\nnoewighlmvsfxbcdjkpquz").length+(Str.ofString "ABCDEFGHIJKLMNOPQRSTUVWXYZ!\"#$&'()*+,./:;<=>?@\x5b\\]^_`{|}~").length<=sizeLine):=by
     rw[<-ze1]
     show zr0.length<=sizeLine
     omega
   refine⟨_,rfl,_,_,rfl,rfl,hl2,?_⟩
   refine⟨_,rfl,?_⟩
   refine⟨_,rfl,_,rfl,by omega,by omega,zk3 (n:=(n:Int).toNat) (fun i σ H'=>∃ (z:Str) (r:Int) (v:Option V),σ=[some (.int c),some (.int n),some (.str zr0),some (.str z),some (.int r),v]/\H'=H/\Asc z/\z.length<=i) ⟨Str.ofString "",c,none,rfl,rfl,by decide,by decide⟩ ?_ ?_⟩
   . rintro i σ H' hi ⟨z,r,v,rfl,rfl,az,lz⟩
     have hi':i<n:=by simpa using hi
     have w0:0<=r % ((zr0.length:Nat):Int):=Int.emod_nonneg _ (by omega)
     have w1:r % ((zr0.length:Nat):Int)<((zr0.length:Nat):Int):=Int.emod_lt_of_pos _ (by omega)
     obtain ⟨d,hd,ed⟩:=zD3 a2 w0 w1
     have e1:(⟨#[d]⟩:Str).length=1:=rfl
     refine⟨_,rfl,_,rfl,_,rfl,_,rfl,_,rfl,by omega,_,_,rfl,rfl,by omega,zr0,_,d,rfl,rfl,by omega,ed,_,_,rfl,rfl,by omega,?_⟩
     refine⟨_,rfl,_,rfl,_,rfl,by omega,_,_,rfl,rfl,⟨by omega,by omega⟩,?_⟩
     exact⟨_,_,_,rfl,rfl,az.app (asc1 hd),by rw[ze1];omega⟩
   . rintro σ H' ⟨z,r,v,rfl,rfl,az,lz⟩
     exact⟨_,rfl,q z az (by simpa using lz)⟩
noncomputable def zq1:List Str:=[Str.ofString "0",Str.ofString "-0",Str.ofString "00",Str.ofString "01",Str.ofString "-01",Str.ofString "+1",Str.ofString "1",Str.ofString "-1",Str.ofString "tray",Str.ofString "none",Str.ofString "-",Str.ofString "",Str.ofString "--1",Str.ofString "12345",Str.ofString "-9999"]
noncomputable def zq2:List Str:=[Str.ofString "9999",Str.ofString "Tray",Str.ofString "trays",Str.ofString "1.",Str.ofString "-12345",Str.ofString "tray\n",Str.ofString "2",Str.ofString "-2",Str.ofString "5",Str.ofString "1_0",Str.ofString "400",Str.ofString "21"]
theorem menu_ok:∀ w∈zq1++zq2,Asc w/\w.length<=10:=by decide +kernel
theorem menu_body:∃ (es0 es1:List Expr) (p1 q1 r1 p2 p3 q2 b2 r2:Pos),zb1 zl2=[.Assign [.Name (Str.ofString "_law_words") p1] (.List es0 q1) r1,.Assign [.Name (Str.ofString "_law_words") p2] (.BinOp (.Name (Str.ofString "_law_words") p3) .Add (.List es1 q2) b2) r2,stAt (zb1 zl2) 2]/\zr8 es0=some zq1/\zr8 es1=some zq2 :=
 ⟨_,_,_,_,_,_,_,_,_,_,rfl,by decide +kernel,by decide +kernel⟩
theorem ok_w_menu (T:Txt K mg t):FnOk P w K mg base CX0 1 t.a_w_menu t.d_w_menu ["_law_cell"] (zD2 K t):=by
 refine T.F_w_menu.ok zx7 (fun vs H Q E h=>?_) (fun cdv A outer s H vs Q E hr h=>?_)
 . obtain ⟨c,rfl,q⟩:=h
   rfl
 . obtain ⟨c,rfl,q⟩:=h
   obtain ⟨es0,es1,p1,q1,r1,p2,p3,q2,b2,r2,hb,hm1,hm2⟩:=menu_body
   rw[hb]
   refine⟨_,(za2 (ps_lst_gen (i:=1) hm1 zx7.nd rfl (Or.inl rfl)) (za2 (ps_cat_gen (i:=1) hm2 zx7.nd rfl (Or.inl rfl) (pv 1))
     (za6 (zc0 (zc2 zb7 (pv 1) (za8 zd4 (pv 0) (zb6 zb9 rfl T.n_len PySem.boot_len (za0 (pv 1) za3))) (fun _ _=>rfl)))))),?_⟩
   have hsl:sizeLine=16777216:=by decide
   refine⟨(by show 15<=sizeLine;omega),fun l1 f1=>?_⟩
   refine⟨_,rfl,(by show 12<=sizeLine;omega),fun l2 f2=>?_⟩
   have s1:Same H (upd H l1 (.lst (zq1.map V.str))):=Same.upd f1
   have s2:=Same.upd (o:=.lst (zq2.map V.str)) f2
   refine⟨l1,l2,zq1.map V.str,zq2.map V.str,rfl,rfl,s2 _ _ za4,za4,(by show 15+12<=sizeLine;omega),fun l3 f3=>?_⟩
   rw[<-List.map_append]
   have s3:=Same.upd (o:=.lst ((zq1++zq2).map V.str)) f3
   have h3:upd (upd (upd H l1 (.lst (zq1.map V.str))) l2 (.lst (zq2.map V.str))) l3 (.lst ((zq1++zq2).map V.str)) l3=some (.lst ((zq1++zq2).map V.str)):=za4
   have ln:((zq1++zq2).map V.str).length=27:=rfl
   have w0:0<=c % (((((zq1++zq2).map V.str).length:Nat)):Int):=Int.emod_nonneg _ (by omega)
   have w1:c % (((((zq1++zq2).map V.str).length:Nat)):Int)<(((((zq1++zq2).map V.str).length:Nat)):Int):=Int.emod_lt_of_pos _ (by omega)
   obtain ⟨x,hx,ex⟩:=zJ8 w0 w1
   obtain ⟨y,hy,rfl⟩:=List.mem_map.mp hx
   obtain ⟨y1,y2⟩:=menu_ok y hy
   exact⟨_,rfl,_,rfl,_,rfl,l3,_,rfl,.inl (SqL.of h3),_,_,rfl,rfl,(by show (0:Int)<((((zq1++zq2).map V.str).length:Nat):Int);rw[ln];decide),l3,_,_,_,rfl,rfl,SqL.of h3,ex,q y _ ((s1.trans s2).trans s3) y1 y2⟩
theorem zz2 (T:Txt K mg t):FnOk P w K mg base CX0 1 t.a_w_at t.d_w_at ["_law_script","_law_k"] (zw6 K t):=by
 refine T.F_w_at.ok sc_w_at (fun vs H Q E h=>?_) (fun cdv A outer s H vs Q E hr h=>?_)
 . obtain ⟨a,ns,k,rfl,hS,q⟩:=h
   rfl
 . obtain ⟨a,ns,k,rfl,hS,q⟩:=h
   refine⟨_,(za2 (zc5 (zb0 zv7 (pv 1) (zb6 zb9 rfl T.n_len PySem.boot_len (za0 (pv 0) za3)) (zb3 _)) (za6 (zc0 (zc2 zb7 (pv 0) (pv 1) (fun _ _=>rfl)))) zb4)
     (za6 (zc0 za1))),?_⟩
   refine⟨_,rfl,_,rfl,a,_,rfl,.inl hS,_,_,rfl,rfl,_,rfl,?_⟩
   rw[List.length_map]
   refine ite2 (fun h1=>?_) (fun h1=>?_)
   . have hk:k<ns.length:=by have:=of_decide_eq_true h1;omega
     have e:ns.getD k 0=ns[k]:=by simp[hk]
     rw[e] at q
     exact⟨_,rfl,_,rfl,a,_,_,_,rfl,rfl,hS,zy8 (by simp[hk]),q⟩
   . have hk:¬ k<ns.length:=fun z=>h1 (decide_eq_true (by omega))
     have e:ns.getD k 0=0:=by simp[hk]
     rw[e] at q
     exact q
theorem ok_w_whole (T:Txt K mg t):FnOk P w K mg base CX0 1 t.a_w_whole t.d_w_whole ["_law_found"] (zA3 K t):=by
 refine T.F_w_whole.ok sc_w_whole (fun vs H Q E h=>?_) (fun cdv A outer s H vs Q E hr h=>?_)
 . obtain ⟨i,rfl,q⟩:=h
   rfl
 . obtain ⟨i,rfl,q⟩:=h
   refine⟨_,(za6 (zc0 (zH4 (zb6 zp2 rfl T.n_isinstance PyProof.Rows.boot_isinstance (za0 (pv 0) (za0 (zv5 (v:=.ty "int") rfl T.n_int PyProof.Rows.boot_int rfl) za3))) (zz3 (pe_not (zb6 zp2 rfl T.n_isinstance PyProof.Rows.boot_isinstance (za0 (pv 0) (za0 (zv5 (v:=.ty "bool") rfl T.n_bool PyProof.Rows.boot_bool rfl) za3)))))))),?_⟩
   refine⟨_,rfl,_,_,_,_,_,rfl,.ty _,.int _,rfl,_,rfl,iteT ?_⟩
   exact⟨_,rfl,_,_,_,_,_,rfl,.ty _,.int _,rfl,_,rfl,q⟩
theorem zy0 (T:Txt K mg t):FnOk P w K mg base CX0 1 t.a_w_figs t.d_w_figs ["_law_cell","_law_count","_law_base","_law_mix"] (zt8 K t):=by
 refine T.F_w_figs.ok zk6 (fun vs H Q E h=>?_) (fun cdv A outer s H vs Q E hr h=>?_)
 . obtain ⟨cell,base0,n,mix,rfl,⟨hn,hb,hb2⟩,q⟩:=h
   rfl
 . obtain ⟨cell,base0,n,mix,rfl,⟨hn,hb,hb2⟩,q⟩:=h
   refine⟨_,(za2 (zb2 (i:=4) zk6.nd rfl (Or.inl rfl) (zo6 za3))
     (za2 (zb2 (i:=5) zk6.nd rfl (Or.inl rfl) (pv 0))
     (za2 (zc5 (zf7 (pv 3)) (za6 (zb2 (i:=5) zk6.nd rfl (Or.inl rfl) (za8 zd4 (za8 zx3 (pv 0) za1) za1))) zb4)
     (za2 (zn0 PassesOwn.never rfl (zm2 rfl T.n_range (za0 (pv 1) za3)) (zd3 (i:=6) zk6.nd rfl (Or.inl rfl)) (za6 (zc5 (zf7 (pv 3)) (za2 (zb2 (i:=5) zk6.nd rfl (Or.inl rfl) (za8 zd4 (za8 zx3 (za8 zi4 (za8 zi4 (pv 5) (pv 6)) za1) za1) za1))
     (za6 (zh3 (zj1 PySem.F.plainAttrs_list PySem.F.slot_list_append PySem.F.type_list_append zj2 (pv 4) (za0 (za8 zd4 (za8 ze7 (pv 5) za1) (pv 2)) za3))))) (za2 (zh3 (zj1 PySem.F.plainAttrs_list PySem.F.slot_list_append PySem.F.type_list_append zj2 (pv 4) (za0 (za8 zd4 (pv 5) (pv 2)) za3)))
     (za6 (zb2 (i:=5) zk6.nd rfl (Or.inl rfl) (za8 ze7 (pv 5) (pv 2))))))))
     (za6 (zc0 (pv 4))))))),?_⟩
   refine⟨Nat.zero_le _,fun l hl=>?_⟩
   refine⟨_,rfl,_,rfl,_,rfl,?_⟩
   have e0:(zl7 cell base0 mix 0).2=[]:=rfl
   cases mix
   . refine iteF ?_
     refine⟨_,rfl,_,rfl,by omega,by omega,zk3 (n:=(n:Int).toNat) (fun i σ H'=>∃ v,σ=[some (.int cell),some (.int n),some (.int base0),some (.bl false),some (.ref l),some (.int (zl7 cell base0 false i).1),v]/\H'=upd H l (.lst ((zl7 cell base0 false i).2.map V.int))/\(zl7 cell base0 false i).2.length=i) ⟨none,rfl,rfl,rfl⟩ ?_ ?_⟩
     . rintro i σ H' hi ⟨v,rfl,rfl,hlen⟩
       refine⟨_,rfl,_,rfl,iteF ?_⟩
       refine⟨_,rfl,.inl ⟨rfl,_,SqL.of za4⟩,_,rfl,_,rfl,_,_,rfl,rfl,hb,l,_,_,rfl,rfl,za4,zg8 (by rw[List.length_map];omega),?_⟩
       refine⟨_,rfl,_,rfl,_,_,rfl,rfl,⟨hb,by omega⟩,_,rfl,?_,?_⟩
       . rw[zi7]
         show upd H l (.lst (_++[V.int _]))=upd H l (.lst ((_++[_]).map V.int))
         rw[List.map_append]
         rfl
       . show (_++[_]).length=i+1
         rw[List.length_append,hlen]
         rfl
     . rintro σ H' ⟨v,rfl,rfl,hlen⟩
       exact⟨_,rfl,q l hl⟩
   . refine iteT ?_
     refine⟨_,rfl,_,_,rfl,rfl,.inr ⟨by decide,by decide⟩,_,_,rfl,rfl,(by show (0:Int)<2147483647;decide),?_⟩
     refine⟨_,rfl,_,rfl,by omega,by omega,zk3 (n:=(n:Int).toNat) (fun i σ H'=>∃ v,σ=[some (.int cell),some (.int n),some (.int base0),some (.bl true),some (.ref l),some (.int (zl7 cell base0 true i).1),v]/\H'=upd H l (.lst ((zl7 cell base0 true i).2.map V.int))/\(zl7 cell base0 true i).2.length=i) ⟨none,rfl,rfl,rfl⟩ ?_ ?_⟩
     . rintro i σ H' hi ⟨v,rfl,rfl,hlen⟩
       refine⟨_,rfl,_,rfl,iteT ?_⟩
       refine⟨_,rfl,_,rfl,_,_,rfl,rfl,_,_,rfl,rfl,_,_,rfl,rfl,.inr ⟨by decide,by decide⟩,_,_,rfl,rfl,(by show (0:Int)<2147483647;decide),?_⟩
       refine⟨_,rfl,.inl ⟨rfl,_,SqL.of za4⟩,_,rfl,_,_,rfl,rfl,⟨by decide,by decide⟩,_,rfl,_,_,rfl,rfl,hb,l,_,_,rfl,rfl,za4,zg8 (by rw[List.length_map];omega),?_⟩
       refine⟨_,rfl,?_,?_⟩
       . rw[zi7]
         show upd H l (.lst (_++[V.int _]))=upd H l (.lst ((_++[_]).map V.int))
         rw[List.map_append]
         rfl
       . show (_++[_]).length=i+1
         rw[List.length_append,hlen]
         rfl
     . rintro σ H' ⟨v,rfl,rfl,hlen⟩
       exact⟨_,rfl,q l hl⟩
theorem ok_w_same (T:Txt K mg t):FnOk P w K mg base CX0 2 t.a_w_same t.d_w_same ["_law_found","_law_due"] (zC6 K t):=by
 have G_w_whole:FnOk P w K mg base CX0 1 t.a_w_whole t.d_w_whole ["_law_found"] (zA3 K t):=ok_w_whole T
 refine T.F_w_same.ok zC4 (fun vs H Q E h=>?_) (fun cdv A outer s H vs Q E hr h=>?_)
 . obtain ⟨a,b,xs,ys,rfl,hA,hB,hl,q⟩:=h
   rfl
 . obtain ⟨a,b,xs,ys,rfl,hA,hB,hl,q⟩:=h
   have hr_w_whole:Room 1 _:=hr.mono (by decide)
   refine⟨_,(za2 (zc5 (zb0 zn8 (zb6 zb9 rfl T.n_len PySem.boot_len (za0 (pv 0) za3)) (zb6 zb9 rfl T.n_len PySem.boot_len (za0 (pv 1) za3)) (zb3 _)) (za6 (zc0 zo9)) zb4)
     (za2 (zn0 PassesOwn.never rfl (zm2 rfl T.n_range (za0 (zb6 zb9 rfl T.n_len PySem.boot_len (za0 (pv 1) za3)) za3)) (zd3 (i:=2) zC4.nd rfl (Or.inl rfl)) (za6 (zc5 (PW.pt (zl6 (zo5 (zf7 (za9 G_w_whole hr_w_whole rfl T.m_w_whole T.k_w_whole T.b_w_whole .nil zc4 (za0 (zc2 zn2 (pv 0) (pv 2) (fun _ _=>rfl)) za3)))) (zm9 (zb0 zn8 (zc2 zn2 (pv 0) (pv 2) (fun _ _=>rfl)) (zc2 zn2 (pv 1) (pv 2) (fun _ _=>rfl)) (zb3 _))))) (za6 (zc0 zo9)) zb4)))
     (za6 (zc0 zo9)))),?_⟩
   refine⟨_,rfl,a,_,rfl,hA,_,rfl,b,_,rfl,hB,rfl,_,rfl,?_⟩
   rw[List.length_map,List.length_map]
   refine ite2 (fun h1=>?_) (fun h1=>?_)
   . have ne:xs≠ys:=by
       intro e
       subst e
       simp at h1
     rw[decide_eq_false ne] at q
     exact q
   . have hlen:xs.length=ys.length:=by
       simp at h1
       omega
     refine⟨_,rfl,b,_,rfl,hB,_,rfl,by omega,by rw[List.length_map];omega,zk3 (n:=((ys.map V.int).length:Int).toNat) (fun i σ H'=>∃ v,σ=[some (.ref a),some (.ref b),v]/\H'=H/\xs.take i=ys.take i) ⟨none,rfl,rfl,rfl⟩ ?_ ?_⟩
     . rintro i σ H' hi ⟨v,rfl,rfl,ht⟩
       have hiy:i<ys.length:=by simpa using hi
       have hix:i<xs.length:=by omega
       have ex:xs[i]?=some xs[i]:=by simp[hix]
       have ey:ys[i]?=some ys[i]:=by simp[hiy]
       have e0:(0:Int)+(i:Int)=(i:Int):=by omega
       have ax:atI (xs.map V.int) (0+(i:Int))=some (.int xs[i]):=by rw[e0];exact zy8 ex
       have ay:atI (ys.map V.int) (0+(i:Int))=some (.int ys[i]):=by rw[e0];exact zy8 ey
       have ixA:∀ (Q':VK),Q' (.int xs[i]) H'->rIx K (.ref a) (.int (0+(i:Int))) H' Q':=fun Q' h=>by
         rcases hA with hA | hA
         . exact .inl ⟨a,_,_,_,rfl,rfl,hA,ax,h⟩
         . exact .inr (.inl ⟨a,_,_,_,rfl,rfl,hA,ax,h⟩)
       have ixB:∀ (Q':VK),Q' (.int ys[i]) H'->rIx K (.ref b) (.int (0+(i:Int))) H' Q':=fun Q' h=>by
         rcases hB with hB | hB
         . exact .inl ⟨b,_,_,_,rfl,rfl,hB,ay,h⟩
         . exact .inr (.inl ⟨b,_,_,_,rfl,rfl,hB,ay,h⟩)
       refine⟨_,rfl,_,rfl,ixA _ ⟨_,rfl,_,rfl,iteF ?_⟩⟩
       refine⟨_,rfl,_,rfl,ixA _ ⟨_,rfl,_,rfl,ixB _ ⟨rfl,_,rfl,?_⟩⟩⟩
       refine ite2 (fun h2=>?_) (fun h2=>?_)
       . have ne:xs≠ys:=by
           intro e
           subst e
           simp at h2
         rw[decide_eq_false ne] at q
         exact q
       . refine⟨_,rfl,rfl,?_⟩
         have e2:xs[i]=ys[i]:=by
           simp at h2
           exact h2
         rw[List.take_succ,List.take_succ,ht,ex,ey,e2]
     . rintro σ H' ⟨v,rfl,rfl,ht⟩
       have e:xs=ys:=by
         have e1:((ys.map V.int).length:Int).toNat=ys.length:=by simp
         rw[e1] at ht
         rw[<-List.take_length (l:=ys),<-ht,<-hlen,List.take_length]
       rw[decide_eq_true e] at q
       exact q
theorem ok_w_shape (T:Txt K mg t):FnOk P w K mg base CX0 2 t.a_w_shape t.d_w_shape ["_law_script"] (zA4 K t):=by
 have G_w_at:FnOk P w K mg base CX0 1 t.a_w_at t.d_w_at ["_law_script","_law_k"] (zw6 K t):=zz2 T
 have G_w_figs:FnOk P w K mg base CX0 1 t.a_w_figs t.d_w_figs ["_law_cell","_law_count","_law_base","_law_mix"] (zt8 K t):=zy0 T
 refine T.F_w_shape.ok zg6 (fun vs H Q E h=>?_) (fun cdv A outer s H vs Q E hr h=>?_)
 . obtain ⟨a,ns,rfl,hS,q⟩:=h
   rfl
 . obtain ⟨a,ns,rfl,hS,q⟩:=h
   have hr_w_at:Room 1 _:=hr.mono (by decide)
   have hr_w_figs:Room 1 _:=hr.mono (by decide)
   refine⟨_,(za2 (zb2 (i:=1) zg6.nd rfl (Or.inl rfl) (za9 G_w_at hr_w_at rfl T.m_w_at T.k_w_at T.b_w_at .nil zc4 (za0 (pv 0) (za0 za1 za3))))
     (za2 (zb2 (i:=2) zg6.nd rfl (Or.inl rfl) (zc2 zb7 (zo6 (za0 za1 (za0 za1 (za0 za1 (za0 za1 za3))))) (za8 zd4 (pv 1) za1) (fun _ _=>rfl)))
     (za2 (zb2 (i:=3) zg6.nd rfl (Or.inl rfl) (zb6 (call_min2 rfl) rfl T.n_min PyProof.Rows.boot_min (za0 (zc2 zb7 (zo6 (za0 za1 (za0 za1 (za0 za1 (za0 za1 za3))))) (za8 zx2 (pv 2) za1) (fun _ _=>rfl)) (za0 (zc2 zb7 (zo6 (za0 za1 (za0 za1 (za0 za1 (za0 za1 (za0 za1 (za0 za1 za3))))))) (za8 zd4 (za8 ze7 (pv 1) za1) za1) (fun _ _=>rfl)) za3))))
     (za2 (zb2 (i:=4) zg6.nd rfl (Or.inl rfl) (za8 zi4 za1 (za8 zd4 (za8 ze7 (pv 1) za1) za1)))
     (za2 (zb2 (i:=5) zg6.nd rfl (Or.inl rfl) (za9 G_w_at hr_w_at rfl T.m_w_at T.k_w_at T.b_w_at .nil zc4 (za0 (pv 0) (za0 za1 za3))))
     (za2 (zI5 (i:=6) rfl zw3 (zn6 (za9 G_w_figs hr_w_figs rfl T.m_w_figs T.k_w_figs T.b_w_figs .nil zc4 (za0 (za9 G_w_at hr_w_at rfl T.m_w_at T.k_w_at T.b_w_at .nil zc4 (za0 (pv 0) (za0 za1 za3))) (za0 (pv 3) (za0 za1 (za0 (zh4 zf5 (za8 zd4 (pv 5) za1) za1 (zb3 _)) za3)))))) (fun _ _ _ _ _=>(zd3 (i:=0) zw3.nd rfl (Or.inl rfl))) (fun _ _ _ _ _=>zp1) (fun _ _ _ _ _=>(za8 zi4 za1 (pv 0))) zg6.nd rfl rfl)
     (za2 (zc5 (zb0 zf5 (za8 zd4 (za8 ze7 (pv 5) za1) za1) za1 (zb3 _)) (za6 (zb2 (i:=6) zg6.nd rfl (Or.inl rfl) (za8 zH5 (zd7 zI4 (pv 6) ze8 (ze9 za1)) (pv 3)))) zb4)
     (za2 (zc5 (zb0 zf5 (za8 zd4 (za8 ze7 (pv 5) za1) za1) za1 (zb3 _)) (za6 (zb2 (i:=6) zg6.nd rfl (Or.inl rfl) (za8 zH5 (zo6 (za0 za1 za3)) (pv 3)))) zb4)
     (za6 (zc0 (zo6 (za0 (pv 2) (za0 (pv 4) (za0 (pv 6) za3)))))))))))))),?_⟩
   have hm1:0<=at0 ns 1 % 4:=Int.emod_nonneg _ (by decide)
   have hm2:at0 ns 1 % 4<4:=Int.emod_lt_of_pos _ (by decide)
   have hm3:0<=at0 ns 1 / 4 % 6:=Int.emod_nonneg _ (by decide)
   have hm4:at0 ns 1 / 4 % 6<6:=Int.emod_lt_of_pos _ (by decide)
   have hN:=zx8 ns
   obtain ⟨hW0,hW5⟩:=zL5 ns
   have h5:(if shN ns=1 then (5:Int) else if shN ns=2 then 4 else 3)<=5:=by repeat (first | decide | split)
   refine⟨_,rfl,a,ns,1,rfl,hS,?_⟩
   refine⟨by decide,fun l1 f1=>⟨_,rfl,_,_,rfl,rfl,(by show (0:Int)<4;decide),l1,_,_,_,rfl,rfl,SqL.of za4,zr7 (xs:=[2,3,1,4]) hm1 hm2,?_⟩⟩
   have s1:Same H (upd H l1 (.lst [.int 2,.int 3,.int 1,.int 4])):=Same.upd f1
   generalize upd H l1 (.lst [.int 2,.int 3,.int 1,.int 4])=H1 at s1 ⊢
   refine⟨by decide,fun l2 f2=>⟨_,rfl,_,_,rfl,rfl,l2,_,_,_,rfl,rfl,SqL.of za4,zr7 (xs:=[5,4,3,3]) (by show 0<=shN ns-1;omega) (by show shN ns-1<4;omega),?_⟩⟩
   have s2:Same H (upd H1 l2 (.lst [.int 5,.int 4,.int 3,.int 3])):=s1.updT f2
   generalize upd H1 l2 (.lst [.int 5,.int 4,.int 3,.int 3])=H2 at s2 ⊢
   refine⟨by decide,fun l3 f3=>⟨_,rfl,_,_,rfl,rfl,⟨by decide,by decide⟩,_,_,rfl,rfl,(by show (0:Int)<6;decide),l3,_,_,_,rfl,rfl,SqL.of za4,zr7 (xs:=[3,2,4,1,5,0]) hm3 hm4,_,_,rfl,?_⟩⟩
   have s3:Same H (upd H2 l3 (.lst [.int 3,.int 2,.int 4,.int 1,.int 5,.int 0])):=s2.updT f3
   generalize upd H2 l3 (.lst [.int 3,.int 2,.int 4,.int 1,.int 5,.int 0])=H3 at s3 ⊢
   refine⟨_,rfl,_,_,rfl,rfl,⟨by decide,by decide⟩,_,_,rfl,rfl,(by show (0:Int)<3;decide),_,_,rfl,rfl,?_⟩
   refine⟨_,rfl,a,ns,0,rfl,s3.seq hS,?_⟩
   have eW:(((shW ns).toNat:Nat):Int)=shW ns:=by omega
   refine⟨_,rfl,a,ns,2,rfl,s3.seq hS,_,rfl,_,rfl,_,_,rfl,rfl,(by show (0:Int)<2;decide),rfl,at0 ns 2,20,(shW ns).toNat,zk1 ns,?_,⟨by omega,by decide,by decide⟩,fun l4 f4=>⟨l4,rfl,⟨_,SqL.of za4⟩,fun D hD=>?_⟩⟩
   . rw[eW];rfl
   have s4:Same H (upd H3 l4 (.lst ((figs (at0 ns 2) (shW ns).toNat 20 (zk1 ns)).map V.int))):=s3.updT f4
   refine comp_list (f:=fun v=>match v with | .int z=>V.int (1+z) | v=>v) (SqL.of za4) hD (Nat.le_of_lt (zg8 (by rw[List.length_map,zs6];omega))) (fun x acc R hx h=>?_) ?_
   . obtain ⟨z,hz,rfl⟩:=List.mem_map.mp hx
     exact⟨_,rfl,_,_,rfl,rfl,h⟩
   have em:((figs (at0 ns 2) (shW ns).toNat 20 (zk1 ns)).map V.int).map (fun v=>match v with | .int z=>V.int (1+z) | v=>v)=(shH0 ns).map V.int:=by
     unfold shH0
     rw[List.map_map,List.map_map];rfl
   rw[em]
   have s5:=s4.updT (o:=.lst ((shH0 ns).map V.int)) hD
   have fD:H D=none:=s4.free hD
   have hHD:(upd (upd H3 l4 (.lst ((figs (at0 ns 2) (shW ns).toNat 20 (zk1 ns)).map V.int))) D (.lst ((shH0 ns).map V.int))) D=some (.lst ((shH0 ns).map V.int)):=za4
   clear em
   revert s5 hHD
   generalize upd (upd H3 l4 (.lst ((figs (at0 ns 2) (shW ns).toNat 20 (zk1 ns)).map V.int))) D (.lst ((shH0 ns).map V.int))=H5
   intro s5 hHD
   have hl0:=zG5 ns
   refine⟨_,rfl,_,_,rfl,rfl,⟨by decide,by decide⟩,_,_,rfl,rfl,(by show (0:Int)<5;decide),rfl,_,rfl,?_⟩
   show (if decide (V.int (at0 ns 0 / 2 % 5)=V.int 1)=true then _ else _)
   rw[zj6]
   by_cases m1:at0 ns 0 / 2 % 5=1
   . rw[decide_eq_true m1]
     refine iteT ?_
     refine⟨_,rfl,1,rfl,D,_,rfl,SqL.of hHD,fun l6 f6=>⟨_,rfl,l6,_,_,rfl,rfl,za4,(by show -(2 ^ 63)<=shW ns;omega),(by show shW ns<2 ^ 63;omega),?_,fun l7 f7=>?_⟩⟩
     . refine Nat.le_of_lt (zg8 ?_)
       have h1:(cutV ((shH0 ns).map V.int) none (some 1)).length<=(shW ns).toNat:=by rw[<-hl0,<-List.length_map (f:=V.int)];exact zy3 _ _ _
       have h2:(shW ns).toNat<=5:=by omega
       exact Nat.le_trans (Nat.mul_le_mul (Nat.le_trans h1 h2) h2) (by decide)
     have s6:=(s5.updT (o:=.lst (cutV ((shH0 ns).map V.int) none (some 1))) f6).updT (o:=.lst (List.replicate (shW ns).toNat (cutV ((shH0 ns).map V.int) none (some 1))).flatten) f7
     have f7':H l7=none:=(s5.updT (o:=.lst (cutV ((shH0 ns).map V.int) none (some 1))) f6).free f7
     refine⟨_,rfl,_,_,rfl,rfl,⟨by decide,by decide⟩,_,_,rfl,rfl,(by show (0:Int)<5;decide),rfl,_,rfl,?_⟩
     show (if decide (V.int (at0 ns 0 / 2 % 5)=V.int 2)=true then _ else _)
     rw[zj6,decide_eq_false (by omega)]
     refine iteF ?_
     refine⟨_,rfl,_,rfl,_,rfl,(by show 3<=sizeLine;decide),fun l8 f8=>?_⟩
     refine q l8 l7 _ (s6.updT f8) (s6.free f8) f7' ?_ za4
     rw[za7 (fun e=>by rw[<-e] at f8;rw[za4] at f8;cases f8),za4]
     have ec:cutV ((shH0 ns).map V.int) none (some 1)=((shH0 ns).take 1).map V.int:=by
       unfold cutV
       rw[HT.sIx_none,show (some (1:Int))=some ((1:Nat):Int) from rfl,HT.sIx_nat,List.drop_zero,Nat.sub_zero,List.map_take,List.length_map]
       by_cases h:1<=(shH0 ns).length
       . rw[Nat.min_eq_left h]
       . have:shH0 ns=[]:=List.eq_nil_of_length_eq_zero (by omega)
         rw[this];rfl
     have ef:(List.replicate (shW ns).toNat (((shH0 ns).take 1).map V.int)).flatten=(shH ns).map V.int:=by
       unfold shH
       rw[if_pos m1,List.map_flatten,List.map_replicate]
     show some (HO.lst (List.replicate (shW ns).toNat (cutV ((shH0 ns).map V.int) none (some 1))).flatten)=_
     rw[ec,ef]
   . rw[decide_eq_false m1]
     refine iteF ?_
     refine⟨_,rfl,_,_,rfl,rfl,⟨by decide,by decide⟩,_,_,rfl,rfl,(by show (0:Int)<5;decide),rfl,_,rfl,?_⟩
     show (if decide (V.int (at0 ns 0 / 2 % 5)=V.int 2)=true then _ else _)
     rw[zj6]
     by_cases m2:at0 ns 0 / 2 % 5=2
     . rw[decide_eq_true m2]
       refine iteT ?_
       refine⟨by decide,fun l6 f6=>⟨_,rfl,l6,_,_,rfl,rfl,za4,(by show -(2 ^ 63)<=shW ns;omega),(by show shW ns<2 ^ 63;omega),?_,fun l7 f7=>?_⟩⟩
       . refine Nat.le_of_lt (zg8 ?_)
         show 1*(shW ns).toNat<=1000
         omega
       have s6:=(s5.updT (o:=.lst [.int 20]) f6).updT (o:=.lst (List.replicate (shW ns).toNat [V.int 20]).flatten) f7
       have f7':H l7=none:=(s5.updT (o:=.lst [.int 20]) f6).free f7
       refine⟨_,rfl,_,rfl,_,rfl,(by show 3<=sizeLine;decide),fun l8 f8=>?_⟩
       refine q l8 l7 _ (s6.updT f8) (s6.free f8) f7' ?_ za4
       rw[za7 (fun e=>by rw[<-e] at f8;rw[za4] at f8;cases f8),za4]
       have ef:(List.replicate (shW ns).toNat [V.int 20]).flatten=(shH ns).map V.int:=by
         unfold shH
         rw[if_neg m1,if_pos m2,List.map_flatten,List.map_replicate]
         rfl
       show some (HO.lst (List.replicate (shW ns).toNat [V.int 20]).flatten)=_
       rw[ef]
     . rw[decide_eq_false m2]
       refine iteF ?_
       refine⟨_,rfl,_,rfl,_,rfl,(by show 3<=sizeLine;decide),fun l8 f8=>?_⟩
       refine q l8 D _ (s5.updT f8) (s5.free f8) fD ?_ za4
       rw[za7 (fun e=>by rw[<-e] at f8;rw[hHD] at f8;cases f8),hHD]
       have ef:shH ns=shH0 ns:=by
         unfold shH
         rw[if_neg m1,if_neg m2]
       rw[ef]
theorem ok_w_put (T:Txt K mg t):FnOk P w K mg base CX0 2 t.a_w_put t.d_w_put ["_law_script","_law_k","_law_more","_law_shape_here"] (zG6 K t):=by
 have G_w_figs:FnOk P w K mg base CX0 1 t.a_w_figs t.d_w_figs ["_law_cell","_law_count","_law_base","_law_mix"] (zt8 K t):=zy0 T
 have G_w_at:FnOk P w K mg base CX0 1 t.a_w_at t.d_w_at ["_law_script","_law_k"] (zw6 K t):=zz2 T
 refine T.F_w_put.ok zh8 (fun vs H Q E h=>?_) (fun cdv A outer s H vs Q E hr h=>?_)
 . obtain ⟨a,sh,h,ns,k,more,n,r,hs,rfl,hS,hsh,hh,⟨n1,n2,r1,hw⟩,q⟩:=h
   rfl
 . obtain ⟨a,sh,h,ns,k,more,n,r,hs,rfl,hS,hsh,hh,⟨n1,n2,r1,hw⟩,q⟩:=h
   have hr_w_figs:Room 1 _:=hr.mono (by decide)
   have hr_w_at:Room 1 _:=hr.mono (by decide)
   refine⟨_,(za2 (zx1 (pv 3) (zL0 rfl (zi6 (zd3 (i:=4) zh8.nd rfl (Or.inl rfl)) (zi6 (zd3 (i:=5) zh8.nd rfl (Or.inl rfl)) (zi6 (zd3 (i:=6) zh8.nd rfl (Or.inl rfl)) zE0)))))
     (za2 (zb2 (i:=7) zh8.nd rfl (Or.inl rfl) (zh4 zf5 (za8 zd4 (za9 G_w_at hr_w_at rfl T.m_w_at T.k_w_at T.b_w_at .nil zc4 (za0 (pv 0) (za0 za1 za3))) za1) za1 (zb3 _)))
     (za2 (zb2 (i:=8) zh8.nd rfl (Or.inl rfl) (za8 zi4 (za9 G_w_at hr_w_at rfl T.m_w_at T.k_w_at T.b_w_at .nil zc4 (za0 (pv 0) (za0 (pv 1) za3))) (pv 2)))
     (za2 (zb2 (i:=9) zh8.nd rfl (Or.inl rfl) (zo6 za3))
     (za2 (zn0 PassesOwn.never rfl (zn6 (za9 G_w_figs hr_w_figs rfl T.m_w_figs T.k_w_figs T.b_w_figs .nil zc4 (za0 (pv 8) (za0 (zb6 zb9 rfl T.n_len PySem.boot_len (za0 (pv 6) za3)) (za0 (za8 zi4 (za8 zx3 za1 (pv 4)) za1) (za0 (pv 7) za3)))))) (zd3 (i:=10) zh8.nd rfl (Or.inl rfl)) (za2 (zb2 (i:=11) zh8.nd rfl (Or.inl rfl) (za8 zx2 (pv 10) (pv 4)))
     (za2 (zc5 (zb0 zf5 (za8 zd4 (pv 8) za1) za1 (zb3 _)) (za6 (zb2 (i:=11) zh8.nd rfl (Or.inl rfl) (pv 4))) zb4)
     (za2 (zc5 (PW.pt (zD9 (zb0 zn8 (pv 11) za1 (zb3 _)) (zy7 (zb0 zM2 (zj1 PySem.F.plainAttrs_list PySem.F.slot_list_count PySem.F.type_list_count zB7 (pv 9) (za0 (pv 11) za3)) (pv 5) (zb3 _))))) (za6 (zb2 (i:=11) zh8.nd rfl (Or.inl rfl) za1)) zb4)
     (za6 (zh3 (zj1 PySem.F.plainAttrs_list PySem.F.slot_list_append PySem.F.type_list_append zj2 (pv 9) (za0 (pv 11) za3))))))))
     (za6 (zc0 (pv 9)))))))),?_⟩
   refine⟨_,rfl,sh,_,rfl,SqL.of hsh,rfl,_,_,rfl,_,_,rfl,_,_,rfl,rfl,?_⟩
   refine⟨_,rfl,a,ns,0,rfl,hS,_,_,rfl,rfl,(by show (0:Int)<2;decide),rfl,?_⟩
   refine⟨_,rfl,_,rfl,a,ns,k,rfl,hS,_,rfl,_,_,rfl,rfl,?_⟩
   refine⟨Nat.zero_le _,fun m fm=>?_⟩
   have s1:Same H (upd H m (.lst [])):=Same.upd fm
   refine⟨_,rfl,_,rfl,h,_,rfl,.inl (s1.seq hh),_,rfl,_,_,rfl,rfl,.inl ⟨by decide,by decide⟩,_,_,rfl,rfl,_,rfl,at0 ns k+more,2*n+1,hs.length,zk1 ns,?_,⟨by omega,by omega,by omega⟩,fun f ff=>⟨f,rfl,⟨_,SqL.of za4⟩,?_⟩⟩
   . rw[List.length_map];rfl
   have hfm:f≠m:=fun e=>by rw[e,za4] at ff;cases ff
   have ff0:H f=none:=s1.free ff
   have hlen:(figs (at0 ns k+more) hs.length (2*n+1) (zk1 ns)).length=hs.length:=zs6 _ _ _ _
   have hin:=zz1 (cell:=at0 ns k+more) (mix:=zk1 ns) (show (0:Int)<2*n+1 by omega) hs.length
   have hq:∀ H',Same H H'->H' m=some (.lst ((putL n r (decide (V.int ((at0 ns k+more) % 13)=V.int 12)) (figs (at0 ns k+more) hs.length (2*n+1) (zk1 ns))).map V.int))->Q (.ref m) H':=fun H' s' e=>q m H' s' fm e
   generalize figs (at0 ns k+more) hs.length (2*n+1) (zk1 ns)=fs at hlen hin hq ⊢
   have hput:∀ i,(putL n r (decide (V.int ((at0 ns k+more) % 13)=V.int 12)) (fs.take i)).length<=5:=fun i=>by
     rw[(zJ5 _ (by omega) r1 (fs.take i) fun x hx=>hin x (List.mem_of_mem_take hx)).1,List.length_take];omega
   refine zv6 (K:=K) (a:=f) (xs:=fs.map V.int) (fun i σ H'=>∃ v10 v11,σ=[some (.ref a),some (.int k),some (.int more),some (.ref sh),some (.int n),some (.int r),some (.ref h),some (.bl (zk1 ns)),some (.int (at0 ns k+more)),some (.ref m),v10,v11] ∧
     H'=upd (upd (upd H m (.lst [])) f (.lst (fs.map V.int))) m (.lst ((putL n r (decide (V.int ((at0 ns k+more) % 13)=V.int 12)) (fs.take i)).map V.int))) ⟨none,none,rfl,?_⟩ ?_ ?_ ?_
   . exact (upd_id (by rw[za7 (Ne.symm hfm),za4];rfl)).symm
   . rintro i σ H' _ ⟨_,_,_,rfl⟩
     exact SqL.of (by rw[za7 hfm,za4])
   . rintro i x σ H' hi ⟨v10,v11,rfl,rfl⟩
     obtain ⟨z,rfl,hz⟩:=zA0 hi
     have etk:fs.take (i+1)=fs.take i++[z]:=by rw[List.take_succ,hz];rfl
     have hpi:=hput i
     generalize hlast:decide (V.int ((at0 ns k+more) % 13)=V.int 12)=last at hput hpi hq ⊢
     generalize hmade:putL n r last (fs.take i)=made at hpi
     have enext:putL n r last (fs.take (i+1))=zm1 n r last made z:=by rw[etk,zC5,hmade]
     have tail:∀ (p:Int),p=(if last=true then n else z-n)->True:=fun _ _=>trivial
     refine⟨_,rfl,_,rfl,_,_,rfl,rfl,?_⟩
     refine⟨_,rfl,_,_,rfl,rfl,(by show (0:Int)<13;decide),rfl,_,rfl,?_⟩
     show (if decide (V.int ((at0 ns k+more) % 13)=V.int 12)=true then _ else _)
     rw[hlast]
     cases last
     . refine iteF ?_
       refine⟨_,rfl,rfl,_,rfl,?_⟩
       refine ite2 (fun h1=>?_) (fun h1=>?_)
       . have hp0:z-n≠0:=fun e=>by
           have h1':(!decide (V.int (z-n)=V.int 0))=true:=h1
           rw[e] at h1';simp at h1'
         refine⟨_,rfl,.inl ⟨rfl,_,SqL.of za4⟩,_,rfl,m,made,z-n,rfl,rfl,SqL.of za4,_,rfl,_,_,rfl,rfl,_,rfl,?_⟩
         refine ite2 (fun h2=>?_) (fun h2=>?_)
         . have h2':r<=(made.count (z-n):Int):=of_decide_eq_true h2
           refine⟨_,rfl,.inl ⟨rfl,_,SqL.of za4⟩,_,rfl,m,_,_,rfl,rfl,za4,zg8 (by rw[List.length_map];omega),_,_,rfl,?_⟩
           rw[zi7,enext]
           unfold zm1
           rw[if_neg (show ¬ (false=true) by decide),if_pos ⟨hp0,h2'⟩,List.map_append]
           rfl
         . have h2':¬ r<=(made.count (z-n):Int):=fun e=>h2 (decide_eq_true e)
           refine⟨_,rfl,.inl ⟨rfl,_,SqL.of za4⟩,_,rfl,m,_,_,rfl,rfl,za4,zg8 (by rw[List.length_map];omega),_,_,rfl,?_⟩
           rw[zi7,enext]
           unfold zm1
           rw[if_neg (show ¬ (false=true) by decide),if_neg (fun e=>h2' e.2),List.map_append]
           rfl
       . have hp0:z-n=0:=by
           have h1':¬ (!decide (V.int (z-n)=V.int 0))=true:=h1
           rw[zj6] at h1'
           simpa using h1'
         refine iteF ?_
         refine⟨_,rfl,.inl ⟨rfl,_,SqL.of za4⟩,_,rfl,m,_,_,rfl,rfl,za4,zg8 (by rw[List.length_map];omega),_,_,rfl,?_⟩
         rw[zi7,enext]
         unfold zm1
         rw[if_neg (show ¬ (false=true) by decide),if_neg (fun e=>e.1 hp0),List.map_append]
         rfl
     . refine iteT ?_
       refine⟨_,rfl,?_⟩
       refine⟨_,rfl,rfl,_,rfl,?_⟩
       have hn0:n≠0:=by omega
       refine iteA (by show (!decide (V.int n=V.int 0))=true;rw[zj6];simpa using hn0) ?_
       refine⟨_,rfl,.inl ⟨rfl,_,SqL.of za4⟩,_,rfl,m,made,n,rfl,rfl,SqL.of za4,_,rfl,_,_,rfl,rfl,_,rfl,?_⟩
       refine ite2 (fun h2=>?_) (fun h2=>?_)
       . have h2':r<=(made.count n:Int):=of_decide_eq_true h2
         refine⟨_,rfl,.inl ⟨rfl,_,SqL.of za4⟩,_,rfl,m,_,_,rfl,rfl,za4,zg8 (by rw[List.length_map];omega),_,_,rfl,?_⟩
         rw[zi7,enext]
         unfold zm1
         rw[if_pos rfl,if_pos ⟨hn0,h2'⟩,List.map_append]
         rfl
       . have h2':¬ r<=(made.count n:Int):=fun e=>h2 (decide_eq_true e)
         refine⟨_,rfl,.inl ⟨rfl,_,SqL.of za4⟩,_,rfl,m,_,_,rfl,rfl,za4,zg8 (by rw[List.length_map];omega),_,_,rfl,?_⟩
         rw[zi7,enext]
         unfold zm1
         rw[if_pos rfl,if_neg (fun e=>h2' e.2),List.map_append]
         rfl
   . rintro σ H' ⟨v10,v11,rfl,rfl⟩
     rw[List.length_map,List.take_length]
     refine⟨_,rfl,hq _ ?_ za4⟩
     exact ((s1.updT ff).put fm)
end
end Bt
namespace Bt
open PySem L2
section
variable {P:Program} {w:World} {K:PySem.W.Frag} {mg:Str->Option Value} {base:Heap} {t:Adr}
noncomputable def zq3 (K:PySem.W.Frag) (t:Adr):Sp:=fun vs H Q _=>∃ (a:Addr) (n r:Int) (w:Nat) (xs:List Int),vs=[.int n,.int r,.int w,.ref a]/\SqL K H a (xs.map V.int)/\(zo2 n r w xs->Q (.bl true) H)/\(¬ zo2 n r w xs->Q (.bl false) H)
theorem ok_w_is_standing (T:Txt K mg t):FnOk P w K mg base CX0 1 t.a_w_is_standing t.d_w_is_standing ["_law_notches","_law_room","_law_count","_law_spots"] (zq3 K t):=by
 refine T.F_w_is_standing.ok zq0 (fun vs H Q E h=>?_) (fun cdv A outer s H vs Q E hr h=>?_)
 . obtain ⟨a,n,r,w,xs,rfl,hS,qt,qf⟩:=h
   rfl
 . obtain ⟨a,n,r,w,xs,rfl,hS,qt,qf⟩:=h
   refine⟨_,(za2 (zc5 (zb0 zn8 (zb6 zb9 rfl T.n_len PySem.boot_len (za0 (pv 3) za3)) (pv 2) (zb3 _)) (za6 (zc0 zo9)) zb4)
     (za2 (zn0 PassesOwn.never rfl (zn6 (pv 3)) (zd3 (i:=4) zq0.nd rfl (Or.inl rfl)) (za2 (zc5 (PW.pt (zl6 (zb0 zv7 (pv 4) (zG0 zz6 (pv 0)) (zb3 _)) (zm9 (zb0 zn9 (pv 4) (pv 0) (zb3 _))))) (za6 (zc0 zo9)) zb4)
     (za6 (zc5 (PW.pt (zD9 (zb0 zn8 (pv 4) za1 (zb3 _)) (zy7 (zb0 zn9 (zj1 PySem.F.plainAttrs_list PySem.F.slot_list_count PySem.F.type_list_count zB7 (pv 3) (za0 (pv 4) za3)) (pv 1) (zb3 _))))) (za6 (zc0 zo9)) zb4))))
     (za6 (zc0 zo9)))),?_⟩
   refine⟨_,rfl,a,_,rfl,.inl hS,_,rfl,rfl,_,rfl,?_⟩
   rw[List.length_map,zj6]
   refine ite2 (fun h1=>?_) (fun h1=>?_)
   . exact qf fun v=>by rw[v.len] at h1;simp at h1
   have hle:xs.length=w:=by simp at h1;omega
   refine⟨_,rfl,a,rfl,⟨_,hS⟩,zv6 (K:=K) (a:=a) (xs:=xs.map V.int) (fun i σ H'=>∃ v,σ=[some (.int n),some (.int r),some (.int w),some (.ref a),v]/\H'=H/\∀ y∈xs.take i,okP n r xs y) ⟨none,rfl,rfl,by simp⟩ (fun i σ H' _ ⟨_,_,e,_⟩=>e▸hS) ?_ ?_⟩
   . rintro i x σ H' hi ⟨v,rfl,rfl,hok⟩
     obtain ⟨z,rfl,hz⟩:=zA0 hi
     have hm:=List.mem_of_getElem? hz
     refine⟨_,rfl,_,rfl,_,rfl,_,_,rfl,rfl,_,rfl,?_⟩
     refine ite2 (fun h2=>?_) (fun h2=>?_)
     . exact iteT (qf fun v=>by have:=v.on z hm;simp at h2;omega)
     . refine⟨_,rfl,_,rfl,_,_,rfl,rfl,_,rfl,?_⟩
       refine ite2 (fun h3=>?_) (fun h3=>?_)
       . exact qf fun v=>by have:=v.on z hm;simp at h3;omega
       . have hzn:-n<=z/\z<=n:=by simp at h2 h3;omega
         refine⟨_,rfl,rfl,_,rfl,?_⟩
         rw[zj6]
         refine ite2 (fun h4=>?_) (fun h4=>?_)
         . have hz0:z≠0:=fun e=>by subst e;simp at h4
           refine⟨_,rfl,.inl ⟨rfl,_,hS⟩,_,rfl,a,xs,z,rfl,rfl,hS,_,rfl,_,_,rfl,rfl,_,rfl,?_⟩
           refine ite2 (fun h5=>?_) (fun h5=>?_)
           . exact qf fun v=>by have:=v.room z hm hz0;simp at h5;omega
           . exact⟨_,rfl,rfl,zi3 hz hok ⟨hzn,fun _=>by simp at h5;omega⟩⟩
         . exact iteF ⟨_,rfl,rfl,zi3 hz hok ⟨hzn,fun e=>absurd (by simpa using e) h4⟩⟩
   . rintro σ H' ⟨v,rfl,rfl,hok⟩
     exact qt (zG9 hle fun y hy=>hok y (by rw[List.length_map,List.take_length];exact hy))
theorem zH3 {m:Nat}:∀ c∈(sI (m:Int)).cps.toList,c<128:=by
 intro c hc
 unfold sI at hc
 rw[PySem.W.KIN.signs_num] at hc
 obtain ⟨ch,hch,e⟩:=List.mem_map.mp hc
 have r:=PyProof.Rows.digit_range (Nat.isDigit_of_mem_toDigits (by decide) (by decide) hch)
 omega
theorem sI_neg (k:Nat):sI (-(((k+1:Nat)):Int))=Str.ofString "-"++sI (((k+1:Nat)):Int):=by
 have e:toString (-(((k+1:Nat)):Int)) = "-"++toString (k+1):=rfl
 have e5:toString (((k+1:Nat)):Int)=toString (k+1):=rfl
 unfold sI
 rw[e,e5]
 refine zF0 ?_
 rw[zz0,PySem.Str.ofString_eq_toList,PySem.Str.ofString_eq_toList,PySem.Str.ofString_eq_toList]
 simp
theorem zy1 (n:Int):Asc (sI n):=by
 by_cases h:0<=n
 . obtain ⟨m,rfl⟩:=Int.eq_ofNat_of_zero_le h
   exact zH3
 . obtain ⟨k,rfl⟩:∃ k:Nat,n = -(((k+1:Nat)):Int):=⟨(-n).toNat-1,by omega⟩
   rw[sI_neg]
   exact Asc.app (by decide) zH3
theorem wPlace_asc (x:Int):Asc (zv1 x):=by
 unfold zv1
 split
 . decide
 . exact zy1 x
/-! ### the rows -/
noncomputable def GL (L:Nat) (w:Str):Prop:=Asc w/\w.length<=L
theorem GL.mono {L M:Nat} {w:Str} (h:GL L w) (k:L<=M):GL M w:=⟨h.1,Nat.le_trans h.2 k⟩
theorem cutA (rows:List Str) (i:Nat):cutV (rows.map V.str) none (some (i:Int))=(rows.take i).map V.str:=by
 unfold cutV
 rw[HT.sIx_nat,HT.sIx_none,List.drop_zero,Nat.sub_zero,List.map_take,List.length_map]
 by_cases h:i<=rows.length
 . rw[Nat.min_eq_left h]
 . rw[Nat.min_eq_right (by omega),List.take_of_length_le (by rw[List.length_map];exact Nat.le_refl _),List.take_of_length_le (by rw[List.length_map];omega)]
theorem cutB (rows:List Str) (i:Nat):cutV (rows.map V.str) (some (i:Int)) none=(rows.drop i).map V.str:=by
 unfold cutV
 rw[HT.sIx_nat,HT.sIx_none,List.take_of_length_le (by rw[List.length_drop];omega),List.map_drop,List.length_map]
 by_cases h:i<=rows.length
 . rw[Nat.min_eq_left h]
 . rw[Nat.min_eq_right (by omega),List.drop_of_length_le (by rw[List.length_map];exact Nat.le_refl _),List.drop_of_length_le (by rw[List.length_map];omega)]
theorem zD4 {y:Str} (hy:Asc y) {ws:List Str} (h:∀ w∈ws,Asc w):Asc (Txt.join y ws):=by
 show Asc (Builtin.Str.glued y ws)
 rw[StrLaws.glued_eq_join]
 exact zH1 hy h
theorem zu1 (y:Str) (ws:List Str):(Txt.join y ws).length=(ws.map (·.length)).sum+(ws.length-1)*y.length:=size_glued y ws
theorem len_split (y z:Str):((Txt.split z y).map (·.length)).sum+((Txt.split z y).length-1)*y.length=z.length:=by
 rw[<-zu1]
 show (Builtin.Str.glued y (Txt.split z y)).length=z.length
 rw[StrLaws.glued_eq_join,StrLaws.join_split]
theorem zF6:∀ (ws:List Str) (i:Nat) (v:Str),((ws.set i v).map (·.length)).sum<=(ws.map (·.length)).sum+v.length
 | [],_,_=>by simp
 | w::ws,0,v=>by simp only[List.set_cons_zero,List.map_cons,List.sum_cons];omega
 | w::ws,i+1,v=>by
   have:=zF6 ws i v
   simp only[List.set_cons_succ,List.map_cons,List.sum_cons]
   omega
theorem zt2 {α:Type} {xs:List α} {i:Nat} {v y:α} (h:y∈xs.set i v):y∈xs\/y=v:=List.mem_or_eq_of_mem_set h
theorem use_fin4 {R:Addr->Option V->Option V->Hp->Prop} {S:Addr->Hp->Prop} {G:Prop} (main:(∀ o u v H',S o H'->R o u v H')->G) (fin:∀ o u v H',S o H'->R o u v H'):G:=main fin
theorem zD5 {xs:List Int} {i:Nat} (hi:i<xs.length):xs.getD i 0∈xs:=by
 rw[List.getD_eq_getElem?_getD,List.getElem?_eq_getElem hi]
 exact List.getElem_mem hi
theorem wPlace_len5 {x:Int} (h1:-5<=x) (h2:x<=5):(zv1 x).length<=4:=by
 have:x = -5\/x = -4\/x = -3\/x = -2\/x = -1\/x=0\/x=1\/x=2\/x=3\/x=4\/x=5:=by omega
 rcases this with rfl | rfl | rfl | rfl | rfl | rfl | rfl | rfl | rfl | rfl | rfl<;>decide +kernel
noncomputable def zD6 (K:PySem.W.Frag) (t:Adr):Sp:=fun vs H Q _=>∃ (a:Addr) (ns:List Int),vs=[.ref a]/\SqL K H a (ns.map V.int)/\∀ (l:Addr) (rows:List Str) H',Same H H'->H l=none->H' l=some (.lst (rows.map V.str))->3<=rows.length->rows.length<=8->(∀ w∈rows,GL 40 w)->Q (.ref l) H'
theorem ok_w_rows (T:Txt K mg t):FnOk P w K mg base CX0 3 t.a_w_rows t.d_w_rows ["_law_script"] (zD6 K t):=by
 have G_w_shape:FnOk P w K mg base CX0 2 t.a_w_shape t.d_w_shape ["_law_script"] (zA4 K t):=ok_w_shape T
 have G_w_put:FnOk P w K mg base CX0 2 t.a_w_put t.d_w_put ["_law_script","_law_k","_law_more","_law_shape_here"] (zG6 K t):=ok_w_put T
 have G_w_figs:FnOk P w K mg base CX0 1 t.a_w_figs t.d_w_figs ["_law_cell","_law_count","_law_base","_law_mix"] (zt8 K t):=zy0 T
 have G_w_at:FnOk P w K mg base CX0 1 t.a_w_at t.d_w_at ["_law_script","_law_k"] (zw6 K t):=zz2 T
 have G_w_say:FnOk P w K mg base CX0 1 t.a_w_say t.d_w_say ["_law_place"] (zH2 K t):=ok_w_say T
 refine T.F_w_rows.ok zj5 (fun vs H Q E h=>?_) (fun cdv A outer s H vs Q E hr h=>?_)
 . obtain ⟨a,ns,rfl,hS,q⟩:=h
   rfl
 . obtain ⟨a,ns,rfl,hS,q⟩:=h
   have hr_w_shape:Room 2 _:=hr.mono (by decide)
   have hr_w_put:Room 2 _:=hr.mono (by decide)
   have hr_w_figs:Room 1 _:=hr.mono (by decide)
   have hr_w_at:Room 1 _:=hr.mono (by decide)
   have hr_w_say:Room 1 _:=hr.mono (by decide)
   refine⟨_,(za2 (zb2 (i:=1) zj5.nd rfl (Or.inr rfl) (za9 G_w_shape hr_w_shape rfl T.m_w_shape T.k_w_shape T.b_w_shape .nil zc4 (za0 (pv 0) za3)))
     (za2 (zb2 (i:=2) zj5.nd rfl (Or.inl rfl) (za9 G_w_put hr_w_put rfl T.m_w_put T.k_w_put T.b_w_put .nil zc4 (za0 (pv 0) (za0 za1 (za0 za1 (za0 (pv 1) za3))))))
     (za2 (zc5 (zb0 zf5 (za8 zd4 (za9 G_w_at hr_w_at rfl T.m_w_at T.k_w_at T.b_w_at .nil zc4 (za0 (pv 0) (za0 za1 za3))) za1) za1 (zb3 _)) (za2 (zb2 (i:=3) zj5.nd rfl (Or.inl rfl) (za8 zi4 (za8 zx3 za1 (zc2 zb7 (pv 1) za1 (fun _ _=>rfl))) za1))
     (za2 (zb2 (i:=4) zj5.nd rfl (Or.inl rfl) (za9 G_w_figs hr_w_figs rfl T.m_w_figs T.k_w_figs T.b_w_figs .nil zc4 (za0 (za9 G_w_at hr_w_at rfl T.m_w_at T.k_w_at T.b_w_at .nil zc4 (za0 (pv 0) (za0 za1 za3))) (za0 (zb6 zb9 rfl T.n_len PySem.boot_len (za0 (pv 2) za3)) (za0 (pv 3) (za0 (zh4 zf5 (za8 zd4 (za9 G_w_at hr_w_at rfl T.m_w_at T.k_w_at T.b_w_at .nil zc4 (za0 (pv 0) (za0 za1 za3))) za1) za1 (zb3 _)) za3))))))
     (za6 (zI5 (i:=2) rfl zy4 (zn6 (pv 4)) (fun _ _ _ _ _=>(zd3 (i:=0) zy4.nd rfl (Or.inl rfl))) (fun _ _ _ _ _=>zp1) (fun _ _ _ _ _=>(za8 zx2 (za8 zx2 (pv 0) (zc2 (ix_listK K rfl) (pv 1) za1 (fun _ _=>rfl))) za1)) zj5.nd rfl rfl)))) zb4)
     (za2 (zb2 (i:=5) zj5.nd rfl (Or.inl rfl) (zf2 (za0 (za8 zc7 zb5 (zf9 zi1 rfl T.n_str PyProof.Rows.boot_str (za0 (zc2 zb7 (pv 1) za1 (fun _ _=>rfl)) za3))) (za0 (za8 zc7 zb5 (zf9 zi1 rfl T.n_str PyProof.Rows.boot_str (za0 (zc2 zb7 (pv 1) za1 (fun _ _=>rfl)) za3))) za3))))
     (za2 (zh3 (zj1 PySem.F.plainAttrs_list PySem.F.slot_list_append PySem.F.type_list_append zj2 (pv 5) (za0 (za8 zc7 zb5 (zf9 zi1 rfl T.n_str PyProof.Rows.boot_str (za0 (za8 zd4 (za9 G_w_at hr_w_at rfl T.m_w_at T.k_w_at T.b_w_at .nil zc4 (za0 (pv 0) (za0 za1 za3))) za1) za3))) za3)))
     (za2 (zn0 PassesOwn.never rfl (zm2 rfl T.n_range (za0 (zb6 zb9 rfl T.n_len PySem.boot_len (za0 (pv 2) za3)) za3)) (zd3 (i:=6) zj5.nd rfl (Or.inl rfl)) (za6 (zh3 (zj1 PySem.F.plainAttrs_list PySem.F.slot_list_append PySem.F.type_list_append zj2 (pv 5) (za0 (za8 zc7 (za8 zc7 (za8 zc7 zb5 (zf9 zi1 rfl T.n_str PyProof.Rows.boot_str (za0 (zc2 zb7 (zc2 zb7 (pv 1) za1 (fun _ _=>rfl)) (pv 6) (fun _ _=>rfl)) za3))) zb5) (za9 G_w_say hr_w_say rfl T.m_w_say T.k_w_say T.b_w_say .nil zc4 (za0 (zc2 zb7 (pv 2) (pv 6) (fun _ _=>rfl)) za3))) za3)))))
     (za6 (zc0 (pv 5))))))))),?_⟩
   have hsl:sizeLine=16777216:=by decide
   refine⟨_,rfl,a,ns,rfl,hS,fun sh h H1 s1 fsh fh hh hsh=>?_⟩
   have ok:=sh_ok ns (lim:=0) (by decide) (by decide)
   have hw5:=ok.w
   have on1:=ok.n1
   have on2:=ok.n2
   refine⟨_,rfl,_,rfl,a,sh,h,ns,3,0,shN ns,shR ns,shH ns,rfl,s1.seq hS,hsh,SqL.of hh,⟨ok.n1,ok.n2,ok.r1,ok.w⟩,fun sp H2 s2 fsp hsp=>?_⟩
   have V0:=put_ok ns 3 0 (shH ns).length ok.n1 ok.r1
   generalize zJ4 ns 3 0 (shN ns) (shR ns) (shH ns).length=xs at V0 hsp
   have hx0:=V0.len
   have s02:=s1.trans s2
   have hsh2:=s2 _ _ hsh
   have hh2:=s2 _ _ hh
   refine⟨_,rfl,a,ns,10,rfl,s02.seq hS,_,_,rfl,rfl,(by show (0:Int)<4;decide),rfl,_,rfl,?_⟩
   refine use_fin4 (R:=?R) (S:=fun o H'=>Same H2 H'/\∃ ys:List Int,H' o=some (.lst (ys.map V.int))/\ys.length=(shH ns).length/\∀ y∈ys,-5<=y/\y<=5) (fun fin=>?main) ?fin
   case main =>
     refine ite2 (fun h1=>?ca) (fun h1=>?cb)
     case ca =>
       refine⟨_,rfl,sh,_,_,_,rfl,rfl,SqL.of hsh2,rfl,_,_,rfl,rfl,.inl ⟨by decide,by decide⟩,_,_,rfl,rfl,?_⟩
       refine⟨_,rfl,a,ns,10,rfl,s02.seq hS,_,rfl,sp,_,rfl,.inl (SqL.of hsp),_,rfl,_,rfl,a,ns,0,rfl,s02.seq hS,_,_,rfl,rfl,(by show (0:Int)<2;decide),rfl,at0 ns 10,2*shN ns+3,(shH ns).length,zk1 ns,?_,⟨by omega,by omega,by omega⟩,fun f ff=>?_⟩
       . rw[List.length_map,hx0];rfl
       have hfl:=zs6 (at0 ns 10) (2*shN ns+3) (zk1 ns) (shH ns).length
       have hfi:=zz1 (cell:=at0 ns 10) (mix:=zk1 ns) (show (0:Int)<2*shN ns+3 by omega) (shH ns).length
       generalize figs (at0 ns 10) (shH ns).length (2*shN ns+3) (zk1 ns)=fs at hfl hfi ⊢
       have s3:Same H2 (upd H2 f (.lst (fs.map V.int))):=Same.upd ff
       have hf:(upd H2 f (.lst (fs.map V.int))) f=some (.lst (fs.map V.int)):=za4
       revert s3 hf
       generalize upd H2 f (.lst (fs.map V.int))=H3
       intro s3 hf
       refine⟨_,rfl,f,rfl,⟨_,SqL.of hf⟩,fun D hD=>?_⟩
       have hsh3:=s3 _ _ hsh2
       refine zv0 (K:=K) (a:=f) (xs:=fs.map V.int) (fun i H''=>H''=upd H3 D (.lst (((fs.take i).map fun x=>x-shN ns-1).map V.int))) rfl (fun i H'' iv=>by rw[iv];exact Same.upd hD |>.seq (SqL.of hf)) (fun i x H'' N hi iv hN=>?_) (fun H'' iv=>?_)
       . subst iv
         dsimp only[zu4]
         obtain ⟨z,rfl,hz⟩:=zA0 hi
         have hil:i<fs.length:=(List.getElem?_eq_some_iff.mp hz).1
         refine iteT ⟨_,rfl,_,rfl,sh,_,_,_,rfl,rfl,SqL.of (Same.upd hD _ _ hsh3),rfl,_,_,rfl,rfl,_,_,rfl,rfl,_,za4,?_,hN _ ?_⟩
         . rw[List.length_map,List.length_map,List.length_take];omega
         . rw[zi7,List.take_succ,hz,List.map_append,List.map_append]
           rfl
       . rw[List.length_map,List.take_length] at iv
         subst iv
         have s4:Same H3 (upd H3 D (.lst ((fs.map fun x=>x-shN ns-1).map V.int))):=Same.upd hD
         have h4:(upd H3 D (.lst ((fs.map fun x=>x-shN ns-1).map V.int))) D=some (.lst ((fs.map fun x=>x-shN ns-1).map V.int)):=za4
         show (fun v9 H9=>zl0 2 v9 _ H9 _) (V.ref D) (upd H3 D (.lst ((fs.map fun x=>x-shN ns-1).map V.int)))
         dsimp only
         revert s4 h4
         generalize upd H3 D (.lst ((fs.map fun x=>x-shN ns-1).map V.int))=H4
         intro s4 h4
         dsimp only[List.set,L2.start]
         generalize hu:some (V.ref f)=u
         generalize hv:some (V.int (2*shN ns+3))=v
         exact fin D v u H4 ⟨s3.trans s4,_,h4,by rw[List.length_map];exact hfl,fun y hy=>by
           obtain ⟨x,hx,rfl⟩:=List.mem_map.mp hy
           have:=hfi x hx
           omega⟩
     case cb=>exact fin sp none none H2 ⟨Same.refl _,xs,hsp,hx0,fun y hy=>by have:=V0.on y hy;omega⟩
   case fin =>
     rintro o v3 v4 H3 ⟨s3,ys,ho,hyl,hys⟩
     have hsh3:=s3 _ _ hsh2
     have hh3:=s3 _ _ hh2
     have s03:=s02.trans s3
     have or1:=ok.r1
     have or2:=ok.r2
     have e1:(Str.ofString "notches ").length=8:=by decide
     have e2:(Str.ofString "room ").length=5:=by decide
     have e3:(Str.ofString "limit ").length=6:=by decide
     have e4:(Str.ofString "weight ").length=7:=by decide
     have e5:(Str.ofString " ").length=1:=by decide
     have i1:=zA2 (n:=shN ns) (by omega) (by omega)
     have i2:=zA2 (n:=shR ns) (by omega) (by omega)
     have m0:0<=at0 ns 5 % 401:=Int.emod_nonneg _ (by decide)
     have m1:at0 ns 5 % 401<401:=Int.emod_lt_of_pos _ (by decide)
     have i3:=zA2 (n:=at0 ns 5 % 401) m0 (by omega)
     refine⟨_,rfl,sh,_,_,_,rfl,rfl,SqL.of hsh3,rfl,shN ns,rfl,zk8 (by omega),_,_,rfl,rfl,(by show (Str.ofString "notches ").length+(sI (shN ns)).length<=sizeLine;omega),_,rfl,sh,_,_,_,rfl,rfl,SqL.of hsh3,rfl,shR ns,rfl,zk8 (by omega),_,_,rfl,rfl,(by show (Str.ofString "room ").length+(sI (shR ns)).length<=sizeLine;omega),(by show 2<=sizeLine;omega),fun l H4 s4 f4 h4=>?_⟩
     have s04:=s03.trans s4
     have nlo:l≠o:=(zb8 ho f4).symm
     refine⟨_,rfl,.inl ⟨rfl,_,SqL.of h4⟩,_,rfl,a,ns,5,rfl,s04.seq hS,_,_,rfl,rfl,(by show (0:Int)<401;decide),at0 ns 5 % 401,rfl,zk8 (by omega),_,_,rfl,rfl,(by show (Str.ofString "limit ").length+(sI (at0 ns 5 % 401)).length<=sizeLine;omega),l,_,_,rfl,rfl,h4,(by show 2<sizeLine;omega),?_⟩
     have s5:Same H3 (upd H4 l (.lst ([Str.ofString "notches "++sI (shN ns),Str.ofString "room "++sI (shR ns),Str.ofString "limit "++sI (at0 ns 5 % 401)].map V.str))):=s4.put f4
     have h5:(upd H4 l (.lst ([Str.ofString "notches "++sI (shN ns),Str.ofString "room "++sI (shR ns),Str.ofString "limit "++sI (at0 ns 5 % 401)].map V.str))) l=some (.lst ([Str.ofString "notches "++sI (shN ns),Str.ofString "room "++sI (shR ns),Str.ofString "limit "++sI (at0 ns 5 % 401)].map V.str)):=za4
     have g5:∀ w∈[Str.ofString "notches "++sI (shN ns),Str.ofString "room "++sI (shR ns),Str.ofString "limit "++sI (at0 ns 5 % 401)],GL 40 w:=fun w hw=>by
       simp only[List.mem_cons,List.not_mem_nil,or_false] at hw
       rcases hw with rfl | rfl | rfl
       . exact⟨Asc.app (by decide) (zy1 _),by rw[ze1];omega⟩
       . exact⟨Asc.app (by decide) (zy1 _),by rw[ze1];omega⟩
       . exact⟨Asc.app (by decide) (zy1 _),by rw[ze1];omega⟩
     generalize hrows:[Str.ofString "notches "++sI (shN ns),Str.ofString "room "++sI (shR ns),Str.ofString "limit "++sI (at0 ns 5 % 401)]=rows0 at s5 h5 g5
     have hl0:rows0.length=3:=by rw[<-hrows];rfl
     show tSeq _ _ _ _ (upd H4 l (.lst ([Str.ofString "notches "++sI (shN ns),Str.ofString "room "++sI (shR ns),Str.ofString "limit "++sI (at0 ns 5 % 401)].map V.str)))
     rw[hrows]
     clear hrows
     revert s5 h5
     generalize upd H4 l (.lst (rows0.map V.str))=H5
     intro s5 h5
     have f3:H3 l=none:=f4
     refine⟨_,rfl,o,_,rfl,.inl (SqL.of (s5 _ _ ho)),_,rfl,by rw[List.length_map];omega,by rw[List.length_map];omega,zk3 (n:=((ys.map V.int).length:Int).toNat) (fun i σ H'=>∃ v6 rows,σ=[some (.ref a),some (.ref sh),some (.ref o),v3,v4,some (.ref l),v6]/\Same H3 H'/\H' l=some (.lst (List.map V.str rows))/\rows.length=3+i/\∀ w∈rows,GL 40 w) ⟨none,rows0,rfl,s5,h5,by omega,g5⟩ ?_ ?_⟩
     . rintro i σ H6 hi ⟨v6,rows,rfl,s6,h6,hl6,g6⟩
       have hi':i<ys.length:=by rw[List.length_map] at hi;simpa using hi
       have e0:(0:Int)+(i:Int)=(i:Int):=by omega
       have ax:atI ((shH ns).map V.int) (0+(i:Int))=some (.int ((shH ns).getD i 0)):=by rw[e0];exact zr7 (by omega) (by omega)
       have ay:atI (ys.map V.int) (0+(i:Int))=some (.int (ys.getD i 0)):=by rw[e0];exact zr7 (by omega) (by omega)
       have hh1:=zL6 ns ((shH ns).getD i 0) (zD5 (by omega))
       have hy1:=hys (ys.getD i 0) (zD5 hi')
       generalize (shH ns).getD i 0=hv at ax hh1
       generalize ys.getD i 0=yv at ay hy1
       have i4:=zA2 (n:=hv) (by omega) (by omega)
       have i5:=wPlace_len5 hy1.1 hy1.2
       have h06:=s6 _ _ hsh3
       refine⟨_,rfl,.inl ⟨rfl,_,SqL.of h6⟩,_,rfl,sh,_,_,_,rfl,rfl,SqL.of h06,rfl,_,rfl,h,_,_,_,rfl,rfl,SqL.of (s6 _ _ hh3),ax,hv,rfl,zk8 (by omega),_,_,rfl,rfl,(by show (Str.ofString "weight ").length+(sI hv).length<=sizeLine;omega),_,_,rfl,rfl,(by show (Str.ofString "weight "++sI hv).length+(Str.ofString " ").length<=sizeLine;rw[ze1];omega),_,rfl,_,rfl,o,_,_,_,rfl,rfl,SqL.of (s6 _ _ ho),ay,yv,rfl,by omega,_,_,rfl,rfl,(by show ((Str.ofString "weight "++sI hv)++Str.ofString " ").length+(zv1 yv).length<=sizeLine;rw[ze1,ze1];omega),l,_,_,rfl,rfl,h6,by rw[List.length_map];omega,?_⟩
       refine⟨_,rows++[((Str.ofString "weight "++sI hv)++Str.ofString " ")++zv1 yv],rfl,s6.put f3,by rw[za4,List.map_append];rfl,by rw[List.length_append,hl6];rfl,fun w hw=>?_⟩
       rcases List.mem_append.mp hw with hw | hw
       . exact g6 w hw
       . obtain rfl:=List.mem_singleton.mp hw
         exact⟨((Asc.app (by decide) (zy1 _)).app (by decide)).app (wPlace_asc _),by rw[ze1,ze1,ze1];omega⟩
     . rintro σ H6 ⟨v6,rows,rfl,s6,h6,hl6,g6⟩
       rw[List.length_map,Int.toNat_natCast] at hl6
       exact⟨_,rfl,q l rows H6 (s03.trans s6) (s03.free f3) h6 (by omega) (by omega) g6⟩
end
end Bt
namespace Bt
open PySem L2
section
variable {P:Program} {w:World} {K:PySem.W.Frag} {mg:Str->Option Value} {base:Heap} {t:Adr}
noncomputable def zo3 (K:PySem.W.Frag) (t:Adr):Sp:=fun vs H Q _=>∃ (l:Addr) (cell:Int) (rows:List Str) (M:Nat),vs=[.ref l,.int cell]/\H l=some (.lst (rows.map V.str))/\(1<=rows.length/\rows.length<=20/\40<=M/\M<=100)/\(∀ w∈rows,GL M w) ∧
 ∀ (l':Addr) (rows':List Str) H',(l'=l\/H l'=none)->zk0 l H H'->H' l'=some (.lst (rows'.map V.str))->rows.length<=rows'.length+1->rows'.length<=rows.length+3->(∀ w∈rows',GL (M+10) w)->Q (.ref l') H'
theorem zt3 {H H1:Hp} (s:Same H H1) (p:Addr):zk0 p H H1:=fun b u e _=>s b u e
theorem zk0.put {H H1:Hp} {p:Addr} {o:HO} (s:Same H H1):zk0 p H (upd H1 p o):=fun b u e hb=>by rw[za7 hb];exact s b u e
theorem ixS {rows:List Str} {i:Nat} (h:i<rows.length):ixN (rows.map V.str).length (i:Int)=some i:=by
 unfold ixN
 rw[List.length_map,if_pos (by omega),if_pos (by omega),Int.toNat_natCast]
theorem ixS' {rows:List Str} {i:Nat} {k:Nat} {v:V} (h:i<rows.length):ixN ((rows.map V.str).set k v).length (i:Int)=some i:=by
 rw[List.length_set]
 exact ixS h
theorem ok_w_rows_changed (T:Txt K mg t):FnOk P w K mg base CX0 2 t.a_w_rows_changed t.d_w_rows_changed ["_law_rows_here","_law_cell"] (zo3 K t):=by
 have G_w_menu:FnOk P w K mg base CX0 1 t.a_w_menu t.d_w_menu ["_law_cell"] (zD2 K t):=ok_w_menu T
 refine T.F_w_rows_changed.ok zc6 (fun vs H Q E h=>?_) (fun cdv A outer s H vs Q E hr h=>?_)
 . obtain ⟨l,cell,rows,M,rfl,h0,⟨hr1,hr2,hM1,hM2⟩,gR,q⟩:=h
   rfl
 . obtain ⟨l,cell,rows,M,rfl,h0,⟨hr1,hr2,hM1,hM2⟩,gR,q⟩:=h
   have hr_w_menu:Room 1 _:=hr.mono (by decide)
   refine⟨_,(za2 (zb2 (i:=2) zc6.nd rfl (Or.inl rfl) (za8 zd4 (pv 1) za1))
     (za2 (zb2 (i:=3) zc6.nd rfl (Or.inl rfl) (za8 ze7 (pv 1) za1))
     (za2 (zb2 (i:=4) zc6.nd rfl (Or.inl rfl) (za8 zd4 (pv 3) (zb6 zb9 rfl T.n_len PySem.boot_len (za0 (pv 0) za3))))
     (za2 (zb2 (i:=5) zc6.nd rfl (Or.inl rfl) (za8 zd4 (za8 ze7 (pv 3) za1) (zb6 zb9 rfl T.n_len PySem.boot_len (za0 (pv 0) za3))))
     (za2 (zb2 (i:=6) zc6.nd rfl (Or.inl rfl) (zj1 PySem.F.plainAttrs_str PySem.F.slot_str_split PySem.F.type_str_split zm3 (zc2 zb7 (pv 0) (pv 4) (fun _ _=>rfl)) (za0 zb5 za3)))
     (za2 (zc5 (zb0 zf5 (pv 2) za1 (zb3 _)) (za6 (zx1 (zF1 (za0 (zc2 zb7 (pv 0) (pv 5) (fun _ _=>rfl)) (za0 (zc2 zb7 (pv 0) (pv 4) (fun _ _=>rfl)) za3))) (pg_tup rfl (zi6 (zz4 (pv 0) (pv 4) zr6) (zi6 (zz4 (pv 0) (pv 5) zr6) zE0))))) zb4)
     (za2 (zc5 (zb0 zf5 (pv 2) za1 (zb3 _)) (za6 (zb2 (i:=0) zc6.nd rfl (Or.inl rfl) (za8 zk9 (zd7 zj7 (pv 0) ze8 (ze9 (pv 4))) (zd7 zj7 (pv 0) (ze9 (za8 zi4 (pv 4) za1)) ze8)))) zb4)
     (za2 (zc5 (zb0 zf5 (pv 2) za1 (zb3 _)) (za6 (zb2 (i:=0) zc6.nd rfl (Or.inl rfl) (za8 zk9 (za8 zk9 (zd7 zj7 (pv 0) ze8 (ze9 (pv 5))) (zf2 (za0 (zc2 zb7 (pv 0) (pv 4) (fun _ _=>rfl)) za3))) (zd7 zj7 (pv 0) (ze9 (pv 5)) ze8)))) zb4)
     (za2 (zc5 (zb0 zn9 (pv 2) za1 (zb3 _)) (za2 (zx1 (za9 G_w_menu hr_w_menu rfl T.m_w_menu T.k_w_menu T.b_w_menu .nil zc4 (za0 (za8 ze7 (pv 3) za1) za3)) (zz4 (pv 6) (za8 zd4 (za8 ze7 (pv 3) za1) (zb6 zb9 rfl T.n_len PySem.boot_len (za0 (pv 6) za3))) zr6))
     (za6 (zx1 (zj1 PySem.F.plainAttrs_str PySem.F.slot_str_join PySem.F.type_str_join zJ0 zb5 (za0 (pv 6) za3)) (zz4 (pv 0) (pv 4) zr6)))) zb4)
     (za2 (zc5 (zb0 zf5 (pv 2) za1 (zb3 _)) (za6 (zb2 (i:=0) zc6.nd rfl (Or.inl rfl) (za8 zk9 (pv 0) (za8 op_repS (zf2 (za0 (za8 zc7 (za8 zc7 zb5 (zf9 zi1 rfl T.n_str PyProof.Rows.boot_str (za0 (za8 zi4 za1 (za8 zd4 (pv 3) za1)) za3))) zb5) za3)) (za8 zi4 za1 (za8 zd4 (za8 ze7 (pv 3) za1) za1)))))) zb4)
     (za2 (zc5 (zb0 zf5 (pv 2) za1 (zb3 _)) (za6 (zb2 (i:=0) zc6.nd rfl (Or.inl rfl) (zc2 zb7 (zf2 (za0 (za8 zk9 (za8 zk9 (zd7 zj7 (pv 0) ze8 (ze9 (pv 4))) (zf2 (za0 zb5 za3))) (zd7 zj7 (pv 0) (ze9 (pv 4)) ze8)) (za0 (za8 zk9 (pv 0) (zf2 (za0 zb5 za3))) (za0 (za8 zk9 (zf2 (za0 zb5 za3)) (pv 0)) za3)))) (za8 zd4 (za8 ze7 (pv 3) za1) za1) (fun _ _=>rfl)))) zb4)
     (za2 (zc5 (zb0 zf5 (pv 2) za1 (zb3 _)) (za6 (zx1 (zc2 zb7 (zf2 (za0 (za8 zc7 (zc2 zb7 (pv 0) (pv 4) (fun _ _=>rfl)) zb5) (za0 (za8 zc7 zb5 (zc2 zb7 (pv 0) (pv 4) (fun _ _=>rfl))) (za0 (za8 zc7 (zc2 zb7 (pv 0) (pv 4) (fun _ _=>rfl)) zb5) (za0 (za8 zc7 (zc2 zb7 (pv 0) (pv 4) (fun _ _=>rfl)) zb5) za3))))) (za8 zd4 (za8 ze7 (pv 3) za1) za1) (fun _ _=>rfl)) (zz4 (pv 0) (pv 4) zr6))) zb4)
     (za6 (zc0 (pv 0))))))))))))))),?_⟩
   have hsl:sizeLine=16777216:=by decide
   have gM:∀ w∈rows,GL (M+10) w:=fun w hw=>(gR w hw).mono (by omega)
   have hpos:(0:Int)<((rows.map V.str).length:Int):=by rw[List.length_map];omega
   refine⟨_,rfl,_,_,rfl,rfl,(by show (0:Int)<16;decide),?_⟩
   refine⟨_,rfl,_,_,rfl,rfl,⟨by decide,by decide⟩,?_⟩
   refine⟨_,rfl,_,rfl,l,_,rfl,.inl (SqL.of h0),_,_,rfl,rfl,hpos,?_⟩
   refine⟨_,rfl,_,_,rfl,rfl,⟨by decide,by decide⟩,_,rfl,l,_,rfl,.inl (SqL.of h0),_,_,rfl,rfl,hpos,?_⟩
   dsimp only
   rw[List.length_map] at hpos ⊢
   have a0:0<=cell / 16 % (rows.length:Int):=Int.emod_nonneg _ (by omega)
   have a1:cell / 16 % (rows.length:Int)<rows.length:=Int.emod_lt_of_pos _ hpos
   have b0:0<=cell / 16 / 9 % (rows.length:Int):=Int.emod_nonneg _ (by omega)
   have b1:cell / 16 / 9 % (rows.length:Int)<rows.length:=Int.emod_lt_of_pos _ hpos
   obtain ⟨i,ei⟩:∃ i:Nat,cell / 16 % (rows.length:Int)=(i:Int):=⟨_,(Int.toNat_of_nonneg a0).symm⟩
   obtain ⟨j,ej⟩:∃ j:Nat,cell / 16 / 9 % (rows.length:Int)=(j:Int):=⟨_,(Int.toNat_of_nonneg b0).symm⟩
   rw[ei,ej]
   have hi:i<rows.length:=by omega
   have hj:j<rows.length:=by omega
   have at1:atI (rows.map V.str) (i:Int)=some (.str rows[i]):=zo0 (by simp[hi])
   have at2:atI (rows.map V.str) (j:Int)=some (.str rows[j]):=zo0 (by simp[hj])
   have li:=(gR _ (List.getElem_mem hi)).2
   refine⟨_,rfl,_,rfl,l,_,_,_,rfl,rfl,SqL.of h0,at1,rfl,_,_,rfl,rfl,by decide,by omega,fun wl H1 s1 fw hw1=>?_⟩
   have h1:=s1 _ _ h0
   have nlw:l≠wl:=zb8 h0 fw
   have wsA:∀ w∈Txt.split rows[i] (Str.ofString " "),GL M w:=fun w hw=>⟨(gR _ (List.getElem_mem hi)).1.part hw,Nat.le_trans (PyProof.Rows.part_short hw) li⟩
   have wsL:=len_split (Str.ofString " ") rows[i]
   rw[show (Str.ofString " ").length=1 by decide] at wsL
   have wsP:1<=(Txt.split rows[i] (Str.ofString " ")).length:=Nat.pos_of_ne_zero fun z=>zw2 _ _ (List.eq_nil_of_length_eq_zero z)
   generalize Txt.split rows[i] (Str.ofString " ")=ws at hw1 wsA wsL wsP
   have e4:(Str.ofString "weight ").length=7:=by decide
   have e9:(Str.ofString " tray").length=5:=by decide
   have ne:∀ k:Int,cell % 16≠k->decide (V.int (cell % 16)=V.int k)=false:=fun k h=>decide_eq_false fun z=>h (by injection z)
   have hk:cell % 16=1\/cell % 16=2\/cell % 16=3\/11<cell % 16\/cell % 16=4\/cell % 16=5\/cell % 16=6\/(cell % 16≠1/\cell % 16≠2/\cell % 16≠3/\cell % 16<=11/\cell % 16≠4/\cell % 16≠5/\cell % 16≠6):=by omega
   rcases hk with hc | hc | hc | hc | hc | hc | hc | hc
   . refine⟨_,rfl,rfl,_,rfl,iteA (decide_eq_true (by rw[hc])) ?_⟩
     refine⟨_,rfl,_,rfl,l,_,_,_,rfl,rfl,SqL.of h1,at2,_,rfl,_,rfl,l,_,_,_,rfl,rfl,SqL.of h1,at1,(by show 2<=sizeLine;omega),fun tp H2 s2 f2 h2=>?_⟩
     refine⟨tp,_,rfl,SqT.of h2,rfl,_,_,rfl,_,rfl,_,rfl,l,_,_,i,rfl,rfl,s2 _ _ h1,ixS hi,_,_,rfl,_,rfl,_,rfl,l,_,_,j,rfl,rfl,za4,ixS' hj,rfl,?_⟩
     rw[zi7,<-List.map_set,<-List.map_set]
     refine⟨_,rfl,rfl,_,rfl,iteB (ne 2 (by omega)) ?_⟩
     refine⟨_,rfl,rfl,_,rfl,iteB (ne 3 (by omega)) ?_⟩
     refine⟨_,rfl,_,_,rfl,rfl,_,rfl,iteB (decide_eq_false (by omega)) ?_⟩
     refine⟨_,rfl,rfl,_,rfl,iteB (ne 4 (by omega)) ?_⟩
     refine⟨_,rfl,rfl,_,rfl,iteB (ne 5 (by omega)) ?_⟩
     refine⟨_,rfl,rfl,_,rfl,iteB (ne 6 (by omega)) ?_⟩
     exact⟨_,rfl,q l ((rows.set i (rows[j])).set j (rows[i])) _ (.inl rfl) (zk0.put (s1.trans s2)) za4 (by rw[List.length_set,List.length_set];omega) (by rw[List.length_set,List.length_set];omega) fun w hw=>by
       rcases zt2 hw with hw | rfl
       . rcases zt2 hw with hw | rfl
         . exact gM w hw
         . exact gM _ (List.getElem_mem _)
       . exact gM _ (List.getElem_mem _)⟩
   . refine⟨_,rfl,rfl,_,rfl,iteB (ne 1 (by omega)) ?_⟩
     refine⟨_,rfl,rfl,_,rfl,iteA (decide_eq_true (by rw[hc])) ?_⟩
     refine⟨_,rfl,_,rfl,_,rfl,l,_,rfl,SqL.of h1,fun l2 H2 s2 f2 h2=>?_⟩
     rw[show cutV (rows.map V.str) none (some (i:Int))=(rows.take i).map V.str from cutA rows i] at h2
     refine⟨_,rfl,_,rfl,_,_,rfl,rfl,_,rfl,l,_,rfl,SqL.of (s2 _ _ h1),fun l3 H3 s3 f3 h3=>?_⟩
     rw[show cutV (rows.map V.str) (some ((i:Int)+1)) none=(rows.drop (i+1)).map V.str from cutB rows (i+1)] at h3
     refine⟨l2,l3,_,_,rfl,rfl,s3 _ _ h2,h3,by rw[List.length_map,List.length_map,List.length_take,List.length_drop];omega,fun l4 H4 s4 f4 h4=>?_⟩
     rw[<-List.map_append] at h4
     refine⟨_,rfl,rfl,_,rfl,iteB (ne 3 (by omega)) ?_⟩
     refine⟨_,rfl,_,_,rfl,rfl,_,rfl,iteB (decide_eq_false (by omega)) ?_⟩
     refine⟨_,rfl,rfl,_,rfl,iteB (ne 4 (by omega)) ?_⟩
     refine⟨_,rfl,rfl,_,rfl,iteB (ne 5 (by omega)) ?_⟩
     refine⟨_,rfl,rfl,_,rfl,iteB (ne 6 (by omega)) ?_⟩
     exact⟨_,rfl,q l4 (rows.take i++rows.drop (i+1)) H4 (.inr (((s1.trans s2).trans s3).free f4)) (zt3 (((s1.trans s2).trans s3).trans s4) l) h4 (by rw[List.length_append,List.length_take,List.length_drop];omega) (by rw[List.length_append,List.length_take,List.length_drop];omega) fun w hw=>(List.mem_append.mp hw).elim (fun z=>gM w (List.mem_of_mem_take z)) fun z=>gM w (List.mem_of_mem_drop z)⟩
   . refine⟨_,rfl,rfl,_,rfl,iteB (ne 1 (by omega)) ?_⟩
     refine⟨_,rfl,rfl,_,rfl,iteB (ne 2 (by omega)) ?_⟩
     refine⟨_,rfl,rfl,_,rfl,iteA (decide_eq_true (by rw[hc])) ?_⟩
     refine⟨_,rfl,_,rfl,_,rfl,l,_,rfl,SqL.of h1,fun l2 H2 s2 f2 h2=>?_⟩
     rw[show cutV (rows.map V.str) none (some (j:Int))=(rows.take j).map V.str from cutA rows j] at h2
     refine⟨_,rfl,_,rfl,l,_,_,_,rfl,rfl,SqL.of (s2 _ _ h1),at1,(by show 1<=sizeLine;omega),fun l3 H3 s3 f3 h3=>?_⟩
     refine⟨l2,l3,_,_,rfl,rfl,s3 _ _ h2,h3,by rw[List.length_map,List.length_take];show _+1<=_;omega,fun l4 H4 s4 f4 h4=>?_⟩
     refine⟨_,rfl,_,rfl,_,rfl,l,_,rfl,SqL.of (s4 _ _ (s3 _ _ (s2 _ _ h1))),fun l5 H5 s5 f5 h5=>?_⟩
     rw[show cutV (rows.map V.str) (some (j:Int)) none=(rows.drop j).map V.str from cutB rows j] at h5
     refine⟨l4,l5,_,_,rfl,rfl,s5 _ _ h4,h5,by rw[List.length_append,List.length_map,List.length_map,List.length_take,List.length_drop];show _+1+_<=_;omega,fun l6 H6 s6 f6 h6=>?_⟩
     have e6:(rows.take j).map V.str++[V.str rows[i]]++(rows.drop j).map V.str=(rows.take j++[rows[i]]++rows.drop j).map V.str:=by rw[List.map_append,List.map_append];rfl
     rw[e6] at h6
     refine⟨_,rfl,_,_,rfl,rfl,_,rfl,iteB (decide_eq_false (by omega)) ?_⟩
     refine⟨_,rfl,rfl,_,rfl,iteB (ne 4 (by omega)) ?_⟩
     refine⟨_,rfl,rfl,_,rfl,iteB (ne 5 (by omega)) ?_⟩
     refine⟨_,rfl,rfl,_,rfl,iteB (ne 6 (by omega)) ?_⟩
     exact⟨_,rfl,q l6 (rows.take j++[rows[i]]++rows.drop j) H6 (.inr (((((s1.trans s2).trans s3).trans s4).trans s5).free f6)) (zt3 (((((s1.trans s2).trans s3).trans s4).trans s5).trans s6) l) h6 (by rw[List.length_append,List.length_append,List.length_take,List.length_drop];show _<=_+1+_+1;omega) (by rw[List.length_append,List.length_append,List.length_take,List.length_drop];show _+1+_<=_;omega) fun w hw=>by
       rcases List.mem_append.mp hw with hw | hw
       . rcases List.mem_append.mp hw with hw | hw
         . exact gM w (List.mem_of_mem_take hw)
         . obtain rfl:=List.mem_singleton.mp hw
           exact gM _ (List.getElem_mem _)
       . exact gM w (List.mem_of_mem_drop hw)⟩
   . refine⟨_,rfl,rfl,_,rfl,iteB (ne 1 (by omega)) ?_⟩
     refine⟨_,rfl,rfl,_,rfl,iteB (ne 2 (by omega)) ?_⟩
     refine⟨_,rfl,rfl,_,rfl,iteB (ne 3 (by omega)) ?_⟩
     refine⟨_,rfl,_,_,rfl,rfl,_,rfl,iteA (decide_eq_true (by omega)) ?_⟩
     refine⟨_,rfl,_,_,rfl,rfl,⟨by decide,by decide⟩,_,rfl,fun v H2 s2 av lv=>?_⟩
     refine⟨_,rfl,_,rfl,_,_,rfl,rfl,⟨by decide,by decide⟩,_,rfl,wl,_,rfl,.inl (SqL.of (s2 _ _ hw1)),?_⟩
     rw[List.length_map]
     have u0:0<=cell / 16 / 9 % (ws.length:Int):=Int.emod_nonneg _ (by omega)
     have u1:cell / 16 / 9 % (ws.length:Int)<ws.length:=Int.emod_lt_of_pos _ (by omega)
     refine⟨_,_,rfl,rfl,(by show (0:Int)<(ws.length:Int);omega),wl,_,_,(cell / 16 / 9 % (ws.length:Int)).toNat,rfl,rfl,s2 _ _ hw1,?_,?_⟩
     . unfold ixN
       rw[List.length_map,if_pos u0,if_pos u1]
     rw[<-List.map_set]
     generalize (cell / 16 / 9 % (ws.length:Int)).toNat=u
     have hl2:=s2 _ _ h1
     have hl3:(upd H2 wl (.lst ((ws.set u v).map V.str))) l=some (.lst (rows.map V.str)):=by rw[za7 nlw];exact hl2
     have hw3:(upd H2 wl (.lst ((ws.set u v).map V.str))) wl=some (.lst ((ws.set u v).map V.str)):=za4
     have s3:Same H (upd H2 wl (.lst ((ws.set u v).map V.str))):=(s1.trans s2).put fw
     revert hl3 hw3 s3
     generalize upd H2 wl (.lst ((ws.set u v).map V.str))=H3
     intro hl3 hw3 s3
     have aj:∀ w∈ws.set u v,Asc w:=fun w hw=>(zt2 hw).elim (fun z=>(wsA w z).1) fun z=>by rw[z];exact av
     have lj:(Txt.join (Str.ofString " ") (ws.set u v)).length<=M+10:=by
       rw[zu1,List.length_set,show (Str.ofString " ").length=1 by decide,Nat.mul_one]
       have:=zF6 ws u v
       omega
     refine⟨rfl,_,rfl,Str.ofString " ",wl,ws.set u v,rfl,rfl,SqL.of hw3,by have:=zu1 (Str.ofString " ") (ws.set u v);have:=zF6 ws u v;rw[List.length_set,show (Str.ofString " ").length=1 by decide];omega,?_⟩
     refine⟨_,rfl,_,rfl,l,_,_,i,rfl,rfl,hl3,ixS hi,?_⟩
     rw[<-List.map_set]
     refine⟨_,rfl,rfl,_,rfl,iteB (ne 4 (by omega)) ?_⟩
     refine⟨_,rfl,rfl,_,rfl,iteB (ne 5 (by omega)) ?_⟩
     refine⟨_,rfl,rfl,_,rfl,iteB (ne 6 (by omega)) ?_⟩
     exact⟨_,rfl,q l (rows.set i (Txt.join (Str.ofString " ") (ws.set u v))) _ (.inl rfl) (zk0.put s3) za4 (by rw[List.length_set];omega) (by rw[List.length_set];omega) fun w hw=>(zt2 hw).elim (fun z=>gM w z) fun z=>by rw[z];exact⟨zD4 (by decide) aj,lj⟩⟩
   . refine⟨_,rfl,rfl,_,rfl,iteB (ne 1 (by omega)) ?_⟩
     refine⟨_,rfl,rfl,_,rfl,iteB (ne 2 (by omega)) ?_⟩
     refine⟨_,rfl,rfl,_,rfl,iteB (ne 3 (by omega)) ?_⟩
     refine⟨_,rfl,_,_,rfl,rfl,_,rfl,iteB (decide_eq_false (by omega)) ?_⟩
     refine⟨_,rfl,rfl,_,rfl,iteA (decide_eq_true (by rw[hc])) ?_⟩
     have w0:0<=cell / 16 % 20:=Int.emod_nonneg _ (by decide)
     have w1:cell / 16 % 20<20:=Int.emod_lt_of_pos _ (by decide)
     have i4:=zA2 (n:=1+cell / 16 % 20) (by omega) (by omega)
     refine⟨_,rfl,_,rfl,_,_,rfl,rfl,(by show (0:Int)<20;decide),_,_,rfl,rfl,1+cell / 16 % 20,rfl,zk8 (by omega),_,_,rfl,rfl,(by show (Str.ofString "weight ").length+(sI (1+cell / 16 % 20)).length<=sizeLine;omega),_,_,rfl,rfl,(by show (Str.ofString "weight "++sI (1+cell / 16 % 20)).length+(Str.ofString " tray").length<=sizeLine;rw[ze1];omega),(by show 1<=sizeLine;omega),fun l2 H2 s2 f2 h2=>?_⟩
     have gv:GL (M+10) ((Str.ofString "weight "++sI (1+cell / 16 % 20))++Str.ofString " tray"):=⟨((Asc.app (by decide) (zy1 _)).app (by decide)),by rw[ze1,ze1];omega⟩
     replace h2:H2 l2=some (.lst [V.str ((Str.ofString "weight "++sI (1+cell / 16 % 20))++Str.ofString " tray")]):=h2
     generalize (Str.ofString "weight "++sI (1+cell / 16 % 20))++Str.ofString " tray" = vv at gv h2
     have k0:0<=cell / 16 / 20 % 3:=Int.emod_nonneg _ (by decide)
     have k1:cell / 16 / 20 % 3<3:=Int.emod_lt_of_pos _ (by decide)
     refine⟨_,rfl,_,_,rfl,rfl,⟨by decide,by decide⟩,_,_,rfl,rfl,(by show (0:Int)<3;decide),_,_,rfl,rfl,l2,_,_,rfl,rfl,h2,(by show -(2 ^ 63)<=1+cell / 16 / 20 % 3;omega),(by show 1+cell / 16 / 20 % 3<2 ^ 63;omega),(by show 1*(1+cell / 16 / 20 % 3).toNat<=sizeLine;omega),fun l3 H3 s3 f3 h3=>?_⟩
     replace h3:H3 l3=some (.lst ((List.replicate (1+cell / 16 / 20 % 3).toNat vv).map V.str)):=by rw[h3,List.flatten_replicate_singleton,List.map_replicate]
     refine⟨l,l3,_,_,rfl,rfl,s3 _ _ (s2 _ _ h1),h3,by rw[List.length_map,List.length_map,List.length_replicate];omega,fun l4 H4 s4 f4 h4=>?_⟩
     rw[<-List.map_append] at h4
     refine⟨_,rfl,rfl,_,rfl,iteB (ne 5 (by omega)) ?_⟩
     refine⟨_,rfl,rfl,_,rfl,iteB (ne 6 (by omega)) ?_⟩
     exact⟨_,rfl,q l4 (rows++List.replicate (1+cell / 16 / 20 % 3).toNat vv) H4 (.inr (((s1.trans s2).trans s3).free f4)) (zt3 (((s1.trans s2).trans s3).trans s4) l) h4 (by rw[List.length_append,List.length_replicate];omega) (by rw[List.length_append,List.length_replicate];omega) fun w hw=>(List.mem_append.mp hw).elim (fun z=>gM w z) fun z=>by rw[List.eq_of_mem_replicate z];exact gv⟩
   . refine⟨_,rfl,rfl,_,rfl,iteB (ne 1 (by omega)) ?_⟩
     refine⟨_,rfl,rfl,_,rfl,iteB (ne 2 (by omega)) ?_⟩
     refine⟨_,rfl,rfl,_,rfl,iteB (ne 3 (by omega)) ?_⟩
     refine⟨_,rfl,_,_,rfl,rfl,_,rfl,iteB (decide_eq_false (by omega)) ?_⟩
     refine⟨_,rfl,rfl,_,rfl,iteB (ne 4 (by omega)) ?_⟩
     refine⟨_,rfl,rfl,_,rfl,iteA (decide_eq_true (by rw[hc])) ?_⟩
     refine⟨_,rfl,_,rfl,_,rfl,l,_,rfl,SqL.of h1,fun l2 H2 s2 f2 h2=>?_⟩
     rw[show cutV (rows.map V.str) none (some (i:Int))=(rows.take i).map V.str from cutA rows i] at h2
     refine⟨(by show 1<=sizeLine;omega),fun l3 H3 s3 f3 h3=>?_⟩
     refine⟨l2,l3,_,_,rfl,rfl,s3 _ _ h2,h3,by rw[List.length_map,List.length_take];show _+1<=_;omega,fun l4 H4 s4 f4 h4=>?_⟩
     refine⟨_,rfl,_,rfl,_,rfl,l,_,rfl,SqL.of (s4 _ _ (s3 _ _ (s2 _ _ h1))),fun l5 H5 s5 f5 h5=>?_⟩
     rw[show cutV (rows.map V.str) (some (i:Int)) none=(rows.drop i).map V.str from cutB rows i] at h5
     refine⟨l4,l5,_,_,rfl,rfl,s5 _ _ h4,h5,by rw[List.length_append,List.length_map,List.length_map,List.length_take,List.length_drop];show _+1+_<=_;omega,fun l6 H6 s6 f6 h6=>?_⟩
     have e6:(rows.take i).map V.str++[V.str (Str.ofString "")]++(rows.drop i).map V.str=(rows.take i++[Str.ofString ""]++rows.drop i).map V.str:=by rw[List.map_append,List.map_append];rfl
     rw[e6] at h6
     have s16:=((((s2.trans s3).trans s4).trans s5).trans s6)
     refine⟨_,rfl,(by show 1<=sizeLine;omega),fun l7 H7 s7 f7 h7=>⟨l,l7,_,_,rfl,rfl,(s16.trans s7) _ _ h1,h7,by rw[List.length_map];show _+1<=_;omega,fun l8 H8 s8 f8 h8=>?_⟩⟩
     have e8:rows.map V.str++[V.str (Str.ofString "")]=(rows++[Str.ofString ""]).map V.str:=by rw[List.map_append];rfl
     rw[e8] at h8
     have s18:=(s16.trans s7).trans s8
     refine⟨(by show 1<=sizeLine;omega),fun l9 H9 s9 f9 h9=>⟨_,rfl,l9,l,_,_,rfl,rfl,h9,(s18.trans s9) _ _ h1,by rw[List.length_map];show 1+_<=_;omega,fun la Ha sa fa ha=>?_⟩⟩
     have ea:[V.str (Str.ofString "")]++rows.map V.str=([Str.ofString ""]++rows).map V.str:=by rw[List.map_append];rfl
     rw[ea] at ha
     have s1a:=(s18.trans s9).trans sa
     refine⟨(by show 3<=sizeLine;omega),fun lb Hb sb fb hb=>?_⟩
     have gE:GL (M+10) (Str.ofString ""):=⟨by decide,by show (Str.ofString "").length<=_;rw[show (Str.ofString "").length=0 by decide];omega⟩
     have h6b:Hb l6=_:=sb _ _ (sa _ _ (s9 _ _ (s8 _ _ (s7 _ _ h6))))
     have h8b:Hb l8=_:=sb _ _ (sa _ _ (s9 _ _ h8))
     have hab:Hb la=_:=sb _ _ ha
     obtain ⟨lr,rows',hf0,hat,hlr,b1,b2,b3⟩:∃ lr rows',H lr=none/\atI [V.ref l6,V.ref l8,V.ref la] (cell / 16 / 9 % 3)=some (.ref lr)/\Hb lr=some (.lst (List.map V.str rows'))/\rows.length<=rows'.length+1/\rows'.length<=rows.length+3/\∀ w∈rows',GL (M+10) w:=by
       have:cell / 16 / 9 % 3=0\/cell / 16 / 9 % 3=1\/cell / 16 / 9 % 3=2:=by omega
       rcases this with e | e | e<;>rw[e]
       . refine⟨l6,_,(s1.trans (((s2.trans s3).trans s4).trans s5)).free f6,rfl,h6b,by rw[List.length_append,List.length_append,List.length_take,List.length_drop];show _<=_+1+_+1;omega,by rw[List.length_append,List.length_append,List.length_take,List.length_drop];show _+1+_<=_;omega,fun w hw=>?_⟩
         rcases List.mem_append.mp hw with hw | hw
         . rcases List.mem_append.mp hw with hw | hw
           . exact gM w (List.mem_of_mem_take hw)
           . obtain rfl:=List.mem_singleton.mp hw
             exact gE
         . exact gM w (List.mem_of_mem_drop hw)
       . refine⟨l8,_,(s1.trans (s16.trans s7)).free f8,rfl,h8b,by rw[List.length_append,List.length_singleton];omega,by rw[List.length_append,List.length_singleton];omega,fun w hw=>?_⟩
         rcases List.mem_append.mp hw with hw | hw
         . exact gM w hw
         . obtain rfl:=List.mem_singleton.mp hw
           exact gE
       . refine⟨la,_,(s1.trans (s18.trans s9)).free fa,rfl,hab,by rw[List.length_append,List.length_singleton];omega,by rw[List.length_append,List.length_singleton];omega,fun w hw=>?_⟩
         rcases List.mem_append.mp hw with hw | hw
         . obtain rfl:=List.mem_singleton.mp hw
           exact gE
         . exact gM w hw
     refine⟨_,rfl,_,_,rfl,rfl,⟨by decide,by decide⟩,_,_,rfl,rfl,(by show (0:Int)<3;decide),lb,_,_,_,rfl,rfl,SqL.of hb,hat,?_⟩
     refine⟨_,rfl,rfl,_,rfl,iteB (ne 6 (by omega)) ?_⟩
     exact⟨_,rfl,q lr rows' Hb (.inr hf0) (zt3 ((s1.trans s1a).trans sb) l) hlr b1 b2 b3⟩
   . refine⟨_,rfl,rfl,_,rfl,iteB (ne 1 (by omega)) ?_⟩
     refine⟨_,rfl,rfl,_,rfl,iteB (ne 2 (by omega)) ?_⟩
     refine⟨_,rfl,rfl,_,rfl,iteB (ne 3 (by omega)) ?_⟩
     refine⟨_,rfl,_,_,rfl,rfl,_,rfl,iteB (decide_eq_false (by omega)) ?_⟩
     refine⟨_,rfl,rfl,_,rfl,iteB (ne 4 (by omega)) ?_⟩
     refine⟨_,rfl,rfl,_,rfl,iteB (ne 5 (by omega)) ?_⟩
     refine⟨_,rfl,rfl,_,rfl,iteA (decide_eq_true (by rw[hc])) ?_⟩
     have e5:(Str.ofString " tray").length=5:=by decide
     have e6:(Str.ofString " 1").length=2:=by decide
     have e7:(Str.ofString " ").length=1:=by decide
     refine⟨_,rfl,_,rfl,l,_,_,_,rfl,rfl,SqL.of h1,at1,_,_,rfl,rfl,(by show (rows[i]).length+(Str.ofString " ").length<=sizeLine;omega),_,rfl,_,rfl,l,_,_,_,rfl,rfl,SqL.of h1,at1,_,_,rfl,rfl,(by show (Str.ofString " ").length+(rows[i]).length<=sizeLine;omega),_,rfl,_,rfl,l,_,_,_,rfl,rfl,SqL.of h1,at1,_,_,rfl,rfl,(by show (rows[i]).length+(Str.ofString " 1").length<=sizeLine;omega),_,rfl,_,rfl,l,_,_,_,rfl,rfl,SqL.of h1,at1,_,_,rfl,rfl,(by show (rows[i]).length+(Str.ofString " tray").length<=sizeLine;omega),(by show 4<=sizeLine;omega),fun l2 H2 s2 f2 h2=>?_⟩
     obtain ⟨v,hat,gv⟩:∃ v:Str,atI [V.str (rows[i]++Str.ofString " "),V.str (Str.ofString " "++rows[i]),V.str (rows[i]++Str.ofString " 1"),V.str (rows[i]++Str.ofString " tray")] (cell / 16 / 9 % 4)=some (.str v)/\GL (M+10) v:=by
       have ai:=(gR _ (List.getElem_mem hi)).1
       have:cell / 16 / 9 % 4=0\/cell / 16 / 9 % 4=1\/cell / 16 / 9 % 4=2\/cell / 16 / 9 % 4=3:=by omega
       rcases this with e | e | e | e<;>rw[e]
       . exact⟨_,rfl,ai.app (by decide),by rw[ze1];omega⟩
       . exact⟨_,rfl,Asc.app (by decide) ai,by rw[ze1];omega⟩
       . exact⟨_,rfl,ai.app (by decide),by rw[ze1];omega⟩
       . exact⟨_,rfl,ai.app (by decide),by rw[ze1];omega⟩
     refine⟨_,rfl,_,_,rfl,rfl,⟨by decide,by decide⟩,_,_,rfl,rfl,(by show (0:Int)<4;decide),l2,_,_,_,rfl,rfl,SqL.of h2,hat,?_⟩
     refine⟨_,rfl,_,rfl,l,_,_,i,rfl,rfl,s2 _ _ h1,ixS hi,?_⟩
     rw[<-List.map_set]
     skip
     exact⟨_,rfl,q l (rows.set i v) _ (.inl rfl) (zk0.put (s1.trans s2)) za4 (by rw[List.length_set];omega) (by rw[List.length_set];omega) fun w hw=>(zt2 hw).elim (fun z=>gM w z) fun z=>by rw[z];exact gv⟩
   . refine⟨_,rfl,rfl,_,rfl,iteB (ne 1 (by omega)) ?_⟩
     refine⟨_,rfl,rfl,_,rfl,iteB (ne 2 (by omega)) ?_⟩
     refine⟨_,rfl,rfl,_,rfl,iteB (ne 3 (by omega)) ?_⟩
     refine⟨_,rfl,_,_,rfl,rfl,_,rfl,iteB (decide_eq_false (by omega)) ?_⟩
     refine⟨_,rfl,rfl,_,rfl,iteB (ne 4 (by omega)) ?_⟩
     refine⟨_,rfl,rfl,_,rfl,iteB (ne 5 (by omega)) ?_⟩
     refine⟨_,rfl,rfl,_,rfl,iteB (ne 6 (by omega)) ?_⟩
     exact⟨_,rfl,q l rows _ (.inl rfl) (zt3 s1 l) h1 (by omega) (by omega) gM⟩
end
end Bt
namespace Bt
open PySem L2
section
variable {P:Program} {w:World} {K:PySem.W.Frag} {mg:Str->Option Value} {base:Heap} {t:Adr}
theorem zv4 {z:Str}:zd0 z<0↔ze2 z=none:=by
 unfold zd0
 cases h:ze2 z with
 | none=>exact⟨fun _=>rfl,fun _=>by decide⟩
 | some n=>exact⟨fun e=>absurd (zA5 h).1 (by dsimp only at e;omega),fun e=>nomatch e⟩
theorem zo4 {z:Str} (h:¬ zd0 z<0):ze2 z=some (zd0 z):=by
 cases e:ze2 z with
 | none=>exact absurd (zv4.mpr e) h
 | some n=>unfold zd0;rw[e]
theorem zA7 (f:Str):wb f 1 (Str.ofString "")=none:=by
 unfold wb
 rw[show Txt.split (Str.ofString "") (Str.ofString " ")=[Str.ofString ""] by decide +kernel]
 exact if_neg fun h=>nomatch h.2
noncomputable def fronts:List Str:=[Str.ofString "notches",Str.ofString "room",Str.ofString "limit"]
noncomputable def pad (rows:List Str):List Str:=rows++[Str.ofString "",Str.ofString "",Str.ofString ""]
noncomputable def zr1 (k:Nat):Str:=fronts.getD k (Str.ofString "")
noncomputable def padN (rows:List Str) (k:Nat):Str:=(pad rows).getD k (Str.ofString "")
theorem pad_no {rows:List Str} {k:Nat} (hk:k<3) (h:wb (zr1 k) 1 (padN rows k)=none):zj0 rows=none:=by
 match rows,k,hk,h with
 | [],_,_,_=>rfl
 | [_],_,_,_=>rfl
 | [_,_],_,_,_=>rfl
 | z0::z1::z2::zs,0,_,h=>simp only[zj0,zt9 (show wb (Str.ofString "notches") 1 z0=none from h)];rfl
 | z0::z1::z2::zs,1,_,h =>
   simp only[zj0,zt9 (show wb (Str.ofString "room") 1 z1=none from h)]
   cases fldN (Str.ofString "notches") z0<;>rfl
 | z0::z1::z2::zs,2,_,h =>
   simp only[zj0,zt9 (show wb (Str.ofString "limit") 1 z2=none from h)]
   cases fldN (Str.ofString "notches") z0<;>cases fldN (Str.ofString "room") z1<;>rfl
 | _::_::_::_,k+3,h,_=>omega
theorem pad_yes {rows:List Str} {as:List Str} (hl:as.length=3) (h:∀ k,k<3->∃ a,as[k]?=some a/\wb (zr1 k) 1 (padN rows k)=some [a]) :
   ∃ z0 z1 z2 zs a0 a1 a2,rows=z0::z1::z2::zs/\as=[a0,a1,a2]/\fldN (Str.ofString "notches") z0=ze2 a0/\fldN (Str.ofString "room") z1=ze2 a1/\fldN (Str.ofString "limit") z2=ze2 a2:=by
 obtain ⟨a0,a1,a2,rfl⟩:∃ a0 a1 a2,as=[a0,a1,a2]:=by
   match as,hl with
   | [a,b,c],_=>exact⟨a,b,c,rfl⟩
 obtain ⟨_,e0,h0⟩:=h 0 (by decide)
 obtain ⟨_,e1,h1⟩:=h 1 (by decide)
 obtain ⟨_,e2,h2⟩:=h 2 (by decide)
 cases e0
 cases e1
 cases e2
 match rows,h0,h1,h2 with
 | [],h0,_,_=>rw[show padN [] 0=Str.ofString "" from rfl,zA7] at h0;cases h0
 | [z0],_,h1,_=>rw[show padN [z0] 1=Str.ofString "" from rfl,zA7] at h1;cases h1
 | [z0,z1],_,_,h2=>rw[show padN [z0,z1] 2=Str.ofString "" from rfl,zA7] at h2;cases h2
 | z0::z1::z2::zs,h0,h1,h2 =>
   refine⟨z0,z1,z2,zs,a0,a1,a2,rfl,rfl,?_,?_,?_⟩<;>unfold fldN
   . rw[show wb (Str.ofString "notches") 1 z0=some [a0] from h0]
   . rw[show wb (Str.ofString "room") 1 z1=some [a1] from h1]
   . rw[show wb (Str.ofString "limit") 1 z2=some [a2] from h2]
noncomputable def lawW (row:Str):Option (Int×Option Int):=match wb (Str.ofString "weight") 2 row with
 | some [a,b]=>some (zd0 a,zm0 b)
 | _=>none
theorem lawW_no {row:Str} (h:wb (Str.ofString "weight") 2 row=none):lawW row=none/\rdW row=none:=by
 unfold lawW rdW
 rw[h]
 exact⟨rfl,rfl⟩
theorem lawW_yes {row a b:Str} (h:wb (Str.ofString "weight") 2 row=some [a,b]):lawW row=some (zd0 a,zm0 b):=by
 unfold lawW
 rw[h]
theorem rdW_of {row:Str} {p:Int×Option Int} (h:lawW row=some p):(p.1<0->rdW row=none)/\(p.2=none->rdW row=none)/\(∀ x,¬ p.1<0->p.2=some x->rdW row=some (p.1,x)):=by
 unfold lawW at h
 unfold rdW
 split at h
 . rename_i a b e
   injection h with h
   subst h
   try rw[e]
   dsimp only
   refine⟨fun h=>by rw[zv4.mp h],fun h=>?_,fun x h1 h2=>by rw[zo4 h1,h2]⟩
   rw[h]
   cases ze2 a<;>rfl
 . cases h
theorem zJ9:∀ {zs:List Str} {ps:List (Int×Option Int)},zs.map lawW=ps.map some->((∃ p∈ps,p.1<0\/p.2=none)->allW zs=none)/\((∀ p∈ps,¬ p.1<0/\p.2≠none)->∃ ws,allW zs=some ws/\ws.map (·.1)=ps.map (·.1)/\ws.map (fun w=>some w.2)=ps.map (·.2))
 | [],[],_=>⟨fun ⟨_,h,_⟩=>(nomatch h),fun _=>⟨[],rfl,rfl,rfl⟩⟩
 | [],_::_,h=>by simp at h
 | _::_,[],h=>by simp at h
 | z::zs,p::ps,h=>by
   injection h with h1 h2
   obtain ⟨i1,i2⟩:=zJ9 h2
   obtain ⟨r1,r2,r3⟩:=rdW_of h1
   constructor
   . rintro⟨p',hp,hb⟩
     rcases List.mem_cons.mp hp with rfl | hp
     . have:rdW z=none:=hb.elim r1 r2
       simp[allW,this]
     . simp[allW,i1 ⟨p',hp,hb⟩]
   . intro hall
     obtain ⟨ws,e1,e2,e3⟩:=i2 fun p' hp=>hall p' (List.mem_cons_of_mem _ hp)
     obtain ⟨n1,n2⟩:=hall p List.mem_cons_self
     obtain ⟨x,hx⟩:=Option.ne_none_iff_exists'.mp n2
     refine⟨(p.1,x)::ws,by simp[allW,r3 x n1 hx,e1],?_,?_⟩
     . rw[List.map_cons,List.map_cons,e2]
     . rw[List.map_cons,List.map_cons,e3,hx]
theorem zK0 {ps:List (Int×Option Int)}:inV .non (ps.map fun p=>optV p.2)=true↔∃ p∈ps,p.2=none:=by
 unfold inV
 rw[List.any_map,List.any_eq_true]
 constructor
 . rintro⟨p,hp,h⟩
   cases e:p.2 with
   | none=>exact⟨p,hp,e⟩
   | some n =>
     have h:eqV (optV p.2) V.non=true:=h
     rw[e] at h
     cases h
 . rintro⟨p,hp,e⟩
   refine⟨p,hp,?_⟩
   show eqV (optV p.2) V.non=true
   rw[e]
   rfl
noncomputable def zy6 (K:PySem.W.Frag) (t:Adr):Sp:=fun vs H Q _=>∃ z:Str,vs=[.str z]/\z.length<=100000/\Asc z/\(rdB z=none->∀ H',Same H H'->Q .non H') ∧
 ∀ n r lim ws,rdB z=some (n,r,lim,ws)->(0<=n/\0<=r/\0<=lim/\∀ w∈ws,0<=w.1)->ws.length<=100001->∀ l h s H',Same H H'->H' h=some (.lst ((ws.map (·.1)).map V.int))->H' s=some (.lst ((ws.map (·.2)).map V.int))->H' l=some (.lst [.int n,.int r,.ref h,.int lim,.ref s])->Q (.ref l) H'
theorem ok_w_parsed (T : Txt K mg t) : FnOk P w K mg base CX0 3 t.a_w_parsed t.d_w_parsed ["_law_text"] (zy6 K t) := by
  have G_w_number : FnOk P w K mg base CX0 1 t.a_w_number t.d_w_number ["_law_word"] (zt0 K t) := zy5 T
  have G_w_spot : FnOk P w K mg base CX0 2 t.a_w_spot t.d_w_spot ["_law_word"] (zD0 K t) := ok_w_spot T
  refine T.F_w_parsed.ok zf6 (fun vs H Q E h => ?_) (fun cdv A outer s H vs Q E hr h => ?_)
  · obtain ⟨z, rfl, hz, ha, qn, q⟩ := h
    rfl
  · obtain ⟨z, rfl, hz, ha, qn, q⟩ := h
    have hr_w_number : Room 1 _ := hr.mono (by decide)
    have hr_w_spot : Room 2 _ := hr.mono (by decide)
    refine ⟨_, (za2 (zb2 (i := 1) zf6.nd rfl (Or.inl rfl) (zj1 PySem.F.plainAttrs_str PySem.F.slot_str_split PySem.F.type_str_split zm3 (pv 0) (za0 zb5 za3)))
      (za2 (zb2 (i := 2) zf6.nd rfl (Or.inl rfl) (zf2 za3))
      (za2 (zn0 PassesOwn.never rfl (zm2 rfl T.n_range (za0 za1 za3)) (zd3 (i := 3) zf6.nd rfl (Or.inl rfl)) (za2 (zb2 (i := 4) zf6.nd rfl (Or.inl rfl) (zj1 PySem.F.plainAttrs_str PySem.F.slot_str_split PySem.F.type_str_split zm3 (zc2 zb7 (za8 zk9 (pv 1) (zf2 (za0 zb5 (za0 zb5 (za0 zb5 za3))))) (pv 3) (fun _ _ => rfl)) (za0 zb5 za3)))
      (za2 (zc5 (PW.pt (zl6 (zb0 zn8 (zb6 zb9 rfl T.n_len PySem.boot_len (za0 (pv 4) za3)) za1 (zb3 _)) (zm9 (zb0 zn8 (zc2 zb7 (pv 4) za1 (fun _ _ => rfl)) (zc2 zb7 (zf2 (za0 zb5 (za0 zb5 (za0 zb5 za3)))) (pv 3) (fun _ _ => rfl)) (zb3 _))))) (za6 (zc0 zx0)) zb4)
      (za6 (zh3 (zj1 PySem.F.plainAttrs_list PySem.F.slot_list_append PySem.F.type_list_append zj2 (pv 2) (za0 (za9 G_w_number hr_w_number rfl T.m_w_number T.k_w_number T.b_w_number .nil zc4 (za0 (zc2 zb7 (pv 4) za1 (fun _ _ => rfl)) za3)) za3)))))))
      (za2 (zb2 (i := 5) zf6.nd rfl (Or.inl rfl) (zf2 za3))
      (za2 (zb2 (i := 6) zf6.nd rfl (Or.inl rfl) (zf2 za3))
      (za2 (zn0 PassesOwn.never rfl (zn6 (zd7 zj7 (pv 1) (ze9 za1) ze8)) (zd3 (i := 7) zf6.nd rfl (Or.inl rfl)) (za2 (zb2 (i := 4) zf6.nd rfl (Or.inl rfl) (zj1 PySem.F.plainAttrs_str PySem.F.slot_str_split PySem.F.type_str_split zm3 (pv 7) (za0 zb5 za3)))
      (za2 (zc5 (PW.pt (zl6 (zb0 zn8 (zb6 zb9 rfl T.n_len PySem.boot_len (za0 (pv 4) za3)) za1 (zb3 _)) (zm9 (zb0 zn8 (zc2 zb7 (pv 4) za1 (fun _ _ => rfl)) zb5 (zb3 _))))) (za6 (zc0 zx0)) zb4)
      (za2 (zh3 (zj1 PySem.F.plainAttrs_list PySem.F.slot_list_append PySem.F.type_list_append zj2 (pv 5) (za0 (za9 G_w_number hr_w_number rfl T.m_w_number T.k_w_number T.b_w_number .nil zc4 (za0 (zc2 zb7 (pv 4) za1 (fun _ _ => rfl)) za3)) za3)))
      (za6 (zh3 (zj1 PySem.F.plainAttrs_list PySem.F.slot_list_append PySem.F.type_list_append zj2 (pv 6) (za0 (za9 G_w_spot hr_w_spot rfl T.m_w_spot T.k_w_spot T.b_w_spot .nil zc4 (za0 (zc2 zb7 (pv 4) za1 (fun _ _ => rfl)) za3)) za3))))))))
      (za2 (zc5 (PW.pt (zl6 (zb0 zv7 (zb6 (zC2 rfl) rfl T.n_min PyProof.Rows.boot_min (za0 (za8 zk9 (pv 2) (pv 5)) za3)) za1 (zb3 _)) (zm9 (zb0 op_in_seq zx0 (pv 6) rfl)))) (za6 (zc0 zx0)) zb4)
      (za6 (zc0 (zf2 (za0 (zc2 zb7 (pv 2) za1 (fun _ _ => rfl)) (za0 (zc2 zb7 (pv 2) za1 (fun _ _ => rfl)) (za0 (pv 5) (za0 (zc2 zb7 (pv 2) za1 (fun _ _ => rfl)) (za0 (pv 6) za3))))))))))))))), ?_⟩
    have hsl : sizeLine = 16777216 := by decide
    have short : ∀ w ∈ Txt.split z (Str.ofString "\n"), w.length ≤ 100000 ∧ Asc w := fun w hw => ⟨Nat.le_trans (PyProof.Rows.part_short hw) hz, ha.part hw⟩
    have hle := PyProof.Rows.split_le z (Str.ofString "\n")
    refine ⟨_, rfl, rfl, _, _, rfl, rfl, by decide, by omega, fun l H1 s1 f1 h1 => ?_⟩
    unfold rdB at q qn
    generalize Txt.split z (Str.ofString "\n") = rows at *
    refine ⟨Nat.zero_le _, fun sz H2 s2 f2 h2 => ?_⟩
    have s02 := s1.trans s2
    have h12 := s2 _ _ h1
    have shortP : ∀ k, (padN rows k).length ≤ 100000 ∧ Asc (padN rows k) := fun k => by
      unfold padN
      rw [List.getD_eq_getElem?_getD]
      cases e : (pad rows)[k]? with
      | none => exact ⟨by rw [Option.getD_none, show (Str.ofString "").length = 0 by decide]; omega, by rw [Option.getD_none]; decide⟩
      | some w =>
        rw [Option.getD_some]
        have hm := List.mem_of_getElem? e
        unfold pad at hm
        rcases List.mem_append.mp hm with hm | hm
        · exact short w hm
        · simp only [List.mem_cons, List.not_mem_nil, or_false] at hm
          rcases hm with rfl | rfl | rfl <;> exact ⟨by rw [show (Str.ofString "").length = 0 by decide]; omega, by decide⟩
    refine ⟨_, rfl, by decide, by decide, zk3 (n := 3) (fun i σ H' => ∃ v3 v4 as, σ = [some (.str z), some (.ref l), some (.ref sz), v3, v4, none, none, none] ∧ Same H H' ∧ H' l = some (.lst (rows.map V.str)) ∧ H' sz = some (.lst ((as.map zd0).map V.int)) ∧ as.length = i ∧ ∀ k, k < i → ∃ a, as[k]? = some a ∧ wb (zr1 k) 1 (padN rows k) = some [a]) ⟨none, none, [], rfl, s02, h12, h2, rfl, fun k hk => absurd hk (Nat.not_lt_zero _)⟩ ?_ ?_⟩
    · rintro i σ H3 hi ⟨v3, v4, as, rfl, s3, hl3, hz3, hlen, hP⟩
      refine ⟨_, rfl, (by show 3 ≤ sizeLine; omega), fun pl H4 s4 f4 h4 => ?_⟩
      refine ⟨l, pl, _, _, rfl, rfl, s4 _ _ hl3, h4, by rw [List.length_map]; show _ + 3 ≤ _; omega, fun pd H5 s5 f5 h5 => ?_⟩
      have ep : rows.map V.str ++ [V.str (Str.ofString ""), V.str (Str.ofString ""), V.str (Str.ofString "")] = (pad rows).map V.str := by unfold pad; rw [List.map_append]; rfl
      rw [ep] at h5
      have hpl : i < (pad rows).length := by unfold pad; rw [List.length_append]; show i < _ + 3; omega
      have eat : atI ((pad rows).map V.str) (0 + (i : Int)) = some (.str (padN rows i)) := by
        rw [show (0 : Int) + (i : Int) = (i : Int) by omega]
        refine zo0 ?_
        rw [List.getElem?_map]
        unfold padN
        rw [List.getD_eq_getElem?_getD, List.getElem?_eq_getElem hpl]
        rfl
      refine ⟨_, rfl, pd, _, _, _, rfl, rfl, SqL.of h5, eat, rfl, _, _, rfl, rfl, by decide, by have := (shortP i).1; omega, fun wl H6 s6 f6 h6 => ?_⟩
      have s36 := (s4.trans s5).trans s6
      have hws := PyProof.Rows.split_le (padN rows i) (Str.ofString " ")
      have wsS : ∀ w ∈ Txt.split (padN rows i) (Str.ofString " "), w.length ≤ 1000000 ∧ Asc w := fun w hw => ⟨by have := PyProof.Rows.part_short hw; have := (shortP i).1; omega, (shortP i).2.part hw⟩
      have ewb : wb (zr1 i) 1 (padN rows i) = match Txt.split (padN rows i) (Str.ofString " ") with
  | w :: ws => if w = zr1 i ∧ ws.length = 1 then some ws else none
  | [] => none := rfl
      have bad : wb (zr1 i) 1 (padN rows i) = none → ∀ H', Same H H' → Q .non H' := fun h => qn (pad_no hi h)
      cases hsp : Txt.split (padN rows i) (Str.ofString " ") with
      | nil => exact absurd hsp (zw2 _ _)
      | cons w ws =>
        rw [hsp] at h6 wsS ewb
        dsimp only at ewb
        refine ⟨_, rfl, wl, _, rfl, .inl (SqL.of h6), rfl, _, rfl, ?_⟩
        refine zG8 (R := ?R) (S := fun H' => Same H H' ∧ ¬ (w = zr1 i ∧ ws.length = 1)) (fun fin => ?main) ?fin
        case main =>
          refine ite2 (fun g1 => ?ca) (fun g1 => ?cb)
          case cb =>
            have g1' : ws.length = 1 := by rw [List.length_map, List.length_cons] at g1; simp at g1; omega
            refine ⟨_, rfl, wl, _, _, V.str w, rfl, rfl, SqL.of h6, at_0, (by show 3 ≤ sizeLine; omega), fun fl H7 s7 f7 h7 => ?_⟩
            have ef : atI [V.str (Str.ofString "notches"), V.str (Str.ofString "room"), V.str (Str.ofString "limit")] (0 + (i : Int)) = some (.str (zr1 i)) := by
              match i, hi with
              | 0, _ => rfl
              | 1, _ => rfl
              | 2, _ => rfl
            refine ⟨_, rfl, fl, _, _, _, rfl, rfl, SqL.of h7, ef, rfl, _, rfl, ?_⟩
            refine ite2 (fun g2 => ?cc) (fun g2 => ?cd)
            case cc =>
              have s07 : Same H H7 := (s3.trans s36).trans s7
              exact fin H7 ⟨s07, fun e => by rw [e.1] at g2; simp at g2⟩
            case cd =>
              have g2' : w = zr1 i := by simpa using g2
              obtain ⟨a, rfl⟩ : ∃ a, ws = [a] := by
                match ws, g1' with
                | [a], _ => exact ⟨a, rfl⟩
              rw [if_pos ⟨g2', rfl⟩] at ewb
              obtain ⟨la, aa⟩ := wsS a (by simp)
              have s37 := s36.trans s7
              have hz7 := s37 _ _ hz3
              refine ⟨_, rfl, .inl ⟨rfl, _, SqL.of hz7⟩, _, rfl, wl, _, _, V.str a, rfl, rfl, SqL.of (s7 _ _ h6), at_1, a, rfl, la, aa, sz, _, _, rfl, rfl, hz7, by rw [List.length_map, List.length_map]; omega, ?_⟩
              refine ⟨_, _, as ++ [a], rfl, fun b o e => by rw [za7 (zb8 (s1 _ _ e) f2)]; exact s37 _ _ (s3 _ _ e), by rw [za7 (zb8 h1 f2)]; exact s37 _ _ hl3, by rw [za4, List.map_append, List.map_append]; rfl, by rw [List.length_append, hlen]; rfl, fun k hk => ?_⟩
              rcases Nat.lt_or_ge k i with h | h
              · obtain ⟨a', e1, e2⟩ := hP k h
                exact ⟨a', by rw [List.getElem?_append_left (by omega)]; exact e1, e2⟩
              · obtain rfl : k = i := by omega
                exact ⟨a, by rw [List.getElem?_append_right (by omega), hlen, Nat.sub_self]; rfl, ewb⟩
          case ca =>
            have g1' : ws.length ≠ 1 := fun e => by rw [List.length_map, List.length_cons, e] at g1; simp at g1
            exact iteT (fin H6 ⟨s3.trans s36, fun e => g1' e.2⟩)
        case fin =>
          rintro H9 ⟨s9, hb⟩
          exact bad (by rw [ewb, if_neg hb]) H9 s9
    · rintro σ H3 ⟨v3, v4, as, rfl, s3, hl3, hz3, hlen, hP⟩
      obtain ⟨z0, z1, z2, zs, a0, a1, a2, rfl, rfl, e0, e1, e2⟩ := pad_yes hlen hP
      simp only [List.length_cons] at hle
      have hzl : zs.length ≤ 100001 := by omega
      have shortZ : ∀ w ∈ zs, w.length ≤ 100000 ∧ Asc w := fun w hw => short w (by simp [hw])
      have ek : zj0 (z0 :: z1 :: z2 :: zs) = (ze2 a0).bind fun n => (ze2 a1).bind fun r => (ze2 a2).bind fun l => (allW zs).bind fun ws => some (n, r, l, ws) := by show (fldN _ z0).bind _ = _; rw [e0, e1, e2]
      rw [ek] at qn
      have noW : allW zs = none → ∀ H', Same H H' → Q .non H' := fun h => qn (by
        rw [h]
        cases ze2 a0 <;> cases ze2 a1 <;> cases ze2 a2 <;> rfl)
      refine ⟨Nat.zero_le _, fun hf H4 s4 f4 h4 => ⟨Nat.zero_le _, fun sp H5 s5 f5 h5 => ?_⟩⟩
      have s35 := s4.trans s5
      have s05 := s3.trans s35
      refine ⟨_, rfl, _, rfl, l, _, rfl, SqL.of (s35 _ _ hl3), fun rl H6 s6 f6 h6 => ?_⟩
      have ec : cutV ((z0 :: z1 :: z2 :: zs).map V.str) (some 3) none = zs.map V.str := cutS (α := V) ((z0 :: z1 :: z2 :: zs).map V.str) 3 (by simp)
      rw [ec] at h6
      have s36 := s35.trans s6
      have fh0 : H hf = none := s3.free f4
      have fs0 : H sp = none := (s3.trans s4).free f5
      have n1 : sp ≠ hf := (zb8 h4 f5).symm
      have n2 : sz ≠ hf := zb8 hz3 f4
      have n3 : sz ≠ sp := zb8 (s4 _ _ hz3) f5
      have n4 : rl ≠ hf := (zb8 (s5 _ _ h4) f6).symm
      have n5 : rl ≠ sp := (zb8 h5 f6).symm
      refine ⟨rl, rfl, ⟨_, SqL.of h6⟩, zv6 (K := K) (a := rl) (xs := zs.map V.str) (fun i σ H' => ∃ v3 v4 v7 ps, σ = [some (.str z), some (.ref l), some (.ref sz), v3, v4, some (.ref hf), some (.ref sp), v7] ∧ Same H H' ∧ H' sz = some (.lst (([a0, a1, a2].map zd0).map V.int)) ∧ H' rl = some (.lst (zs.map V.str)) ∧ H' hf = some (.lst ((ps.map fun (p : Int × Option Int) => p.1).map V.int)) ∧ H' sp = some (.lst (ps.map fun p => optV p.2)) ∧ (zs.take i).map lawW = ps.map some) ⟨v3, v4, none, [], rfl, s05.trans s6, s36 _ _ hz3, h6, s6 _ _ (s5 _ _ h4), s6 _ _ h5, rfl⟩ (fun i σ H' _ ⟨_, _, _, _, _, _, _, h, _⟩ => SqL.of h) ?_ ?_⟩
      · rintro i x σ H7 hi ⟨v3, v4, v7, ps, rfl, s7, hz7, hr7, hh7, hs7, hps⟩
        rw [List.getElem?_map] at hi
        cases hw : zs[i]? with
        | none => rw [hw] at hi; cases hi
        | some row =>
          rw [hw] at hi
          cases hi
          have hil : i < zs.length := (List.getElem?_eq_some_iff.mp hw).1
          have hpl : ps.length = i := by
            have := congrArg List.length hps
            rw [List.length_map, List.length_map, List.length_take] at this
            omega
          obtain ⟨lr, ar⟩ := shortZ row (List.mem_of_getElem? hw)
          refine ⟨_, rfl, rfl, _, _, rfl, rfl, by decide, by omega, fun wl H8 s8 f8 h8 => ?_⟩
          have wsS : ∀ w ∈ Txt.split row (Str.ofString " "), w.length ≤ 1000000 ∧ Asc w := fun w hw => ⟨by have := PyProof.Rows.part_short hw; omega, ar.part hw⟩
          have ewb : wb (Str.ofString "weight") 2 row = match Txt.split row (Str.ofString " ") with
  | w :: ws => if w = Str.ofString "weight" ∧ ws.length = 2 then some ws else none
  | [] => none := rfl
          have bad : wb (Str.ofString "weight") 2 row = none → ∀ H', Same H H' → Q .non H' := fun h => noW (zC8 hw (lawW_no h).2)
          have s08 := s7.trans s8
          cases hsp : Txt.split row (Str.ofString " ") with
          | nil => exact absurd hsp (zw2 _ _)
          | cons w ws =>
            rw [hsp] at h8 wsS ewb
            dsimp only at ewb
            refine ⟨_, rfl, wl, _, rfl, .inl (SqL.of h8), rfl, _, rfl, ?_⟩
            refine ite2 (fun g1 => ?_) (fun g1 => ?_)
            · have g1' : ws.length ≠ 2 := fun e => by rw [List.length_map, List.length_cons, e] at g1; simp at g1
              exact iteT (bad (by rw [ewb, if_neg fun e => g1' e.2]) H8 s08)
            have g1' : ws.length = 2 := by rw [List.length_map, List.length_cons] at g1; simp at g1; omega
            refine ⟨_, rfl, wl, _, _, V.str w, rfl, rfl, SqL.of h8, at_0, rfl, _, rfl, ?_⟩
            refine ite2 (fun g2 => ?_) (fun g2 => ?_)
            · exact bad (by rw [ewb, if_neg fun e => by rw [e.1] at g2; simp at g2]) H8 s08
            have g2' : w = Str.ofString "weight" := by simpa using g2
            obtain ⟨a, b, rfl⟩ : ∃ a b, ws = [a, b] := by
              match ws, g1' with
              | [a, b], _ => exact ⟨a, b, rfl⟩
            rw [if_pos ⟨g2', rfl⟩] at ewb
            obtain ⟨la, aa⟩ := wsS a (by simp)
            obtain ⟨lb, ab⟩ := wsS b (by simp)
            have hh8 := s8 _ _ hh7
            have hs8 := s8 _ _ hs7
            refine ⟨_, rfl, .inl ⟨rfl, _, SqL.of hh8⟩, _, rfl, wl, _, _, V.str a, rfl, rfl, SqL.of h8, at_1, a, rfl, la, aa, hf, _, _, rfl, rfl, hh8, by rw [List.length_map, List.length_map]; omega, ?_⟩
            have nwh : wl ≠ hf := (zb8 hh7 f8).symm
            have nws : wl ≠ sp := (zb8 hs7 f8).symm
            have k9 : ∀ {b : Addr} {o : HO}, H8 b = some o → b ≠ hf → (upd H8 hf (.lst ((ps.map fun (p : Int × Option Int) => p.1).map V.int ++ [.int (zd0 a)]))) b = some o := fun e n => by rw [za7 n]; exact e
            have hw9 := k9 h8 nwh
            have hs9 := k9 hs8 n1
            have hz9 := k9 (s8 _ _ hz7) n2
            have hr9 := k9 (s8 _ _ hr7) n4
            have hh9 : (upd H8 hf (.lst ((ps.map fun (p : Int × Option Int) => p.1).map V.int ++ [.int (zd0 a)]))) hf = some (.lst ((ps.map fun (p : Int × Option Int) => p.1).map V.int ++ [.int (zd0 a)])) := za4
            have s09 : Same H (upd H8 hf (.lst ((ps.map fun (p : Int × Option Int) => p.1).map V.int ++ [.int (zd0 a)]))) := s08.put fh0
            clear k9
            revert hw9 hs9 hz9 hr9 hh9 s09
            generalize upd H8 hf (.lst ((ps.map fun (p : Int × Option Int) => p.1).map V.int ++ [.int (zd0 a)])) = H9
            intro hw9 hs9 hz9 hr9 hh9 s09
            refine ⟨_, rfl, .inl ⟨rfl, _, SqL.of hs9⟩, _, rfl, wl, _, _, V.str b, rfl, rfl, SqL.of hw9, at_2, b, rfl, lb, ab, fun H10 s10 => ⟨sp, _, _, rfl, rfl, s10 _ _ hs9, by rw [List.length_map]; omega, ?_⟩⟩
            refine ⟨_, _, _, ps ++ [(zd0 a, zm0 b)], rfl, (s09.trans s10).put fs0, by rw [za7 n3]; exact s10 _ _ hz9, by rw [za7 n5]; exact s10 _ _ hr9, by rw [za7 n1.symm, List.map_append, List.map_append]; exact s10 _ _ hh9, by rw [za4, List.map_append]; rfl, ?_⟩
            rw [List.take_succ, hw, List.map_append, hps, List.map_append]
            simp [lawW_yes ewb]
      · rintro σ H7 ⟨v3, v4, v7, ps, rfl, s7, hz7, hr7, hh7, hs7, hps⟩
        rw [List.length_map, List.take_length] at hps
        obtain ⟨w1, w2⟩ := zJ9 hps
        have hpl : ps.length = zs.length := by
          have := congrArg List.length hps
          rw [List.length_map, List.length_map] at this
          omega
        refine ⟨_, rfl, _, rfl, sz, hf, _, _, rfl, rfl, hz7, hh7, by rw [List.length_map, List.length_map, List.length_map, List.length_map]; show 3 + _ ≤ _; omega, fun ml H8 s8 f8 h8 => ?_⟩
        rw [← List.map_append] at h8
        refine ⟨ml, [a0, a1, a2].map zd0 ++ ps.map (fun p => p.1), rfl, SqL.of h8, by rw [List.length_append]; show 0 < 3 + _; omega, fun M hM hmin => ⟨_, _, rfl, rfl, _, rfl, ?_⟩⟩
        have s08 := s7.trans s8
        refine ite2 (fun g1 => ?_) (fun g1 => ?_)
        · have g1' : M < 0 := of_decide_eq_true g1
          refine iteT ?_
          rcases List.mem_append.mp hM with hm | hm
          · refine qn ?_ H8 s08
            simp only [List.map_cons, List.map_nil, List.mem_cons, List.not_mem_nil, or_false] at hm
            rcases hm with rfl | rfl | rfl <;> rw [zv4.mp g1']
            · rfl
            · cases ze2 a0 <;> rfl
            · cases ze2 a0 <;> cases ze2 a1 <;> rfl
          · obtain ⟨p, hp, rfl⟩ := List.mem_map.mp hm
            exact noW (w1 ⟨p, hp, .inl g1'⟩) H8 s08
        have g1' : ¬ M < 0 := fun e => g1 (decide_eq_true e)
        refine ⟨_, rfl, sp, _, rfl, .inl (SqL.of (s8 _ _ hs7)), rfl, ?_, _, rfl, ?_⟩
        · rw [List.all_map]
          refine List.all_eq_true.mpr fun p _ => ?_
          show zv8 (optV p.2) = true
          cases p.2 <;> rfl
        refine ite2 (fun g2 => ?_) (fun g2 => ?_)
        · exact noW (w1 (let ⟨p, hp, e⟩ := zK0.mp g2; ⟨p, hp, .inr e⟩)) H8 s08
        have hz8 := s8 _ _ hz7
        refine ⟨_, rfl, sz, _, _, _, rfl, rfl, SqL.of hz8, at_0, _, rfl, sz, _, _, _, rfl, rfl, SqL.of hz8, at_1, _, rfl, _, rfl, sz, _, _, _, rfl, rfl, SqL.of hz8, at_2, _, rfl, (by show 5 ≤ sizeLine; omega), fun ll H9 s9 f9 h9 => ?_⟩
        have p0 := hmin (zd0 a0) (by simp)
        have p1 := hmin (zd0 a1) (by simp)
        have p2 := hmin (zd0 a2) (by simp)
        have pp : ∀ p ∈ ps, ¬ p.1 < 0 := fun p hp => by have := hmin p.1 (List.mem_append_right _ (List.mem_map_of_mem hp)); omega
        obtain ⟨ws, x1, x2, x3⟩ := w2 fun p hp => ⟨pp p hp, fun e => g2 (zK0.mpr ⟨p, hp, e⟩)⟩
        have hwl : ws.length = ps.length := by
          have := congrArg List.length x2
          rwa [List.length_map, List.length_map] at this
        have x4 : ps.map (fun p => optV p.2) = (ws.map (·.2)).map V.int := by
          have := congrArg (List.map optV) x3
          rw [List.map_map, List.map_map] at this
          rw [List.map_map]
          exact this.symm
        have s89 := s8.trans s9
        refine q (zd0 a0) (zd0 a1) (zd0 a2) ws ?_ ⟨by omega, by omega, by omega, fun w hw => ?_⟩ (by omega) ll hf sp H9 (s08.trans s9) (by rw [x2]; exact s89 _ _ hh7) (by rw [← x4]; exact s89 _ _ hs7) h9
        · rw [ek, zo4 (z := a0) (by omega), zo4 (z := a1) (by omega), zo4 (z := a2) (by omega), x1]
          rfl
        · have : w.1 ∈ ps.map (·.1) := by rw [← x2]; exact List.mem_map_of_mem hw
          obtain ⟨p, hp, e⟩ := List.mem_map.mp this
          have := pp p hp
          omega
noncomputable def zA8 (K:PySem.W.Frag) (t:Adr):Sp:=fun vs H Q _=>∃ (l h s:Addr) (n r lim:Int) (hs:List Int),vs=[.ref l]/\H l=some (.lst [.int n,.int r,.ref h,.int lim,.ref s])/\H h=some (.lst (hs.map V.int))/\0<=lim/\(zi5 n r hs lim->∀ H',Same H H'->Q (.bl true) H')/\(¬ zi5 n r hs lim->∀ H',Same H H'->Q (.bl false) H')
theorem most_of {n:Int} {w:Nat} (h1:1<=n) (h2:n<=4) (hw:w<=5):((2*n+1) ^ w<=1000↔(w:Int)<=if n=1 then 5 else if n=2 then 4 else 3):=by
 have hn:n=1\/n=2\/n=3\/n=4:=by omega
 have hw':w=0\/w=1\/w=2\/w=3\/w=4\/w=5:=by omega
 rcases hn with rfl | rfl | rfl | rfl<;>rcases hw' with rfl | rfl | rfl | rfl | rfl | rfl<;>decide
theorem ok_w_sized (T:Txt K mg t):FnOk P w K mg base CX0 1 t.a_w_sized t.d_w_sized ["_law_read"] (zA8 K t):=by
 refine T.F_w_sized.ok zk7 (fun vs H Q E h=>?_) (fun cdv A outer s H vs Q E hr h=>?_)
 . obtain ⟨l,h,s,n,r,lim,hs,rfl,hl,hh,h0,qt,qf⟩:=h
   rfl
 . obtain ⟨l,h,s,n,r,lim,hs,rfl,hl,hh,h0,qt,qf⟩:=h
   refine⟨_,(za2 (zx1 (pv 0) (zL0 rfl (zi6 (zd3 (i:=1) zk7.nd rfl (Or.inl rfl)) (zi6 (zd3 (i:=2) zk7.nd rfl (Or.inl rfl)) (zi6 (zd3 (i:=3) zk7.nd rfl (Or.inl rfl)) (zi6 (zd3 (i:=4) zk7.nd rfl (Or.inl rfl)) (zi6 (zd3 (i:=5) zk7.nd rfl (Or.inl rfl)) zE0)))))))
     (za2 (zc5 (PW.pt (zl6 (zb0 zv7 (pv 1) za1 (zb3 _)) (zl6 (zb0 zn9 (pv 1) za1 (zb3 _)) (zl6 (zb0 zv7 (pv 2) za1 (zb3 _)) (zl6 (zb0 zn9 (pv 2) za1 (zb3 _)) (zm9 (zb0 zn9 (pv 4) za1 (zb3 _)))))))) (za6 (zc0 zo9)) zb4)
     (za2 (zc5 (zb0 zn9 (zb6 zb9 rfl T.n_len PySem.boot_len (za0 (pv 3) za3)) (zc2 zb7 (zf2 (za0 za1 (za0 za1 (za0 za1 (za0 za1 za3))))) (za8 zx2 (pv 1) za1) (fun _ _=>rfl)) (zb3 _)) (za6 (zc0 zo9)) zb4)
     (za6 (zc0 (zM1 (zh4 (op_eqE (Nat.lt_of_succ_lt (hu_of hr))) (pv 3) (zf2 za3) (zb3 _)) (zz3 (zH4 (zh4 zM2 (zb6 (zC2 rfl) rfl T.n_min PyProof.Rows.boot_min (za0 (pv 3) za3)) za1 (zb3 _)) (zz3 (zh4 op_le (zb6 (call_maxL rfl) rfl T.n_max PyProof.Rows.boot_max (za0 (pv 3) za3)) za1 (zb3 _))))))))))),?_⟩
   have hsl:sizeLine=16777216:=by decide
   refine⟨_,rfl,l,_,rfl,SqL.of hl,rfl,_,_,rfl,_,_,rfl,_,_,rfl,_,_,rfl,_,_,rfl,rfl,?_⟩
   refine⟨_,rfl,_,_,rfl,rfl,_,rfl,ite2 (fun g1=>?_) (fun g1=>?_)⟩
   . exact iteT (qf (fun B=>by have:=B.n1;have:=of_decide_eq_true g1;omega) H (Same.refl _))
   have g1':¬ n<1:=fun e=>g1 (decide_eq_true e)
   refine⟨_,rfl,_,_,rfl,rfl,_,rfl,ite2 (fun g2=>?_) (fun g2=>?_)⟩
   . exact iteT (qf (fun B=>by have:=B.n2;have:=of_decide_eq_true g2;omega) H (Same.refl _))
   have g2':¬ 4<n:=fun e=>g2 (decide_eq_true e)
   refine⟨_,rfl,_,_,rfl,rfl,_,rfl,ite2 (fun g3=>?_) (fun g3=>?_)⟩
   . exact iteT (qf (fun B=>by have:=B.r1;have:=of_decide_eq_true g3;omega) H (Same.refl _))
   have g3':¬ r<1:=fun e=>g3 (decide_eq_true e)
   refine⟨_,rfl,_,_,rfl,rfl,_,rfl,ite2 (fun g4=>?_) (fun g4=>?_)⟩
   . exact iteT (qf (fun B=>by have:=B.r2;have:=of_decide_eq_true g4;omega) H (Same.refl _))
   have g4':¬ 3<r:=fun e=>g4 (decide_eq_true e)
   refine⟨_,rfl,_,_,rfl,rfl,_,rfl,ite2 (fun g5=>?_) (fun g5=>?_)⟩
   . exact qf (fun B=>by have:=B.l2;have:=of_decide_eq_true g5;omega) H (Same.refl _)
   have g5':¬ 400<lim:=fun e=>g5 (decide_eq_true e)
   have hn:n=1\/n=2\/n=3\/n=4:=by omega
   have hat:atI [V.int 5,V.int 4,V.int 3,V.int 3] (n-1)=some (.int (if n=1 then 5 else if n=2 then 4 else 3)):=by rcases hn with rfl | rfl | rfl | rfl<;>rfl
   have hX:(if n=1 then 5 else if n=2 then 4 else 3:Int)<=5:=by rcases hn with rfl | rfl | rfl | rfl<;>decide
   have hmost:=fun w hw=>most_of (n:=n) (w:=w) (by omega) (by omega) hw
   generalize (if n=1 then 5 else if n=2 then 4 else 3:Int)=X at hat hX hmost
   refine⟨_,rfl,h,_,rfl,.inl (SqL.of hh),(by show 4<=sizeLine;omega),fun fl H1 s1 f1 h1=>?_⟩
   refine⟨_,rfl,_,_,rfl,rfl,fl,_,_,_,rfl,rfl,SqL.of h1,hat,_,_,rfl,rfl,_,rfl,?_⟩
   rw[List.length_map]
   refine ite2 (fun g6=>?_) (fun g6=>?_)
   . have g6':X<(hs.length:Int):=of_decide_eq_true g6
     exact qf (fun B=>by have:=(hmost hs.length B.w).mp B.most;omega) H1 s1
   have g6':(hs.length:Int)<=X:=by have:¬ X<(hs.length:Int):=fun e=>g6 (decide_eq_true e);omega
   have hw5:hs.length<=5:=by omega
   have mk:(∀ x∈hs,1<=x/\x<=20)->zi5 n r hs lim:=fun hx=>⟨by omega,by omega,by omega,by omega,h0,by omega,hw5,hx,(hmost hs.length hw5).mpr g6'⟩
   refine⟨_,rfl,Nat.zero_le _,fun el H2 s2 f2 h2=>?_⟩
   have s02:=s1.trans s2
   have hh2:=s02 _ _ hh
   refine⟨h,el,_,rfl,rfl,SqL.of hh2,SqL.of h2,_,rfl,?_⟩
   refine ite2 (fun g7=>?_) (fun g7=>?_)
   . have:hs=[]:=by
       cases hs with
       | nil=>rfl
       | cons _ _=>cases g7
     exact qt (mk fun x hx=>by rw[this] at hx;cases hx) H2 s02
   have hpos:0<hs.length:=by
     cases hs with
     | nil=>exact absurd rfl g7
     | cons _ _=>simp
   refine⟨_,rfl,h,hs,rfl,SqL.of hh2,hpos,fun M hM hmin=>⟨_,_,rfl,rfl,_,rfl,?_⟩⟩
   refine ite2 (fun g8=>?_) (fun g8=>?_)
   . have g8':1<=M:=of_decide_eq_true g8
     refine⟨_,rfl,h,hs,rfl,SqL.of hh2,hpos,fun N hN hmax=>⟨_,_,rfl,rfl,?_⟩⟩
     by_cases g9:N<=20
     . show Q (.bl (decide (N<=20))) H2
       rw[decide_eq_true g9]
       exact qt (mk fun x hx=>⟨by have:=hmin x hx;omega,by have:=hmax x hx;omega⟩) H2 s02
     . show Q (.bl (decide (N<=20))) H2
       rw[decide_eq_false g9]
       exact qf (fun B=>g9 (B.h N hN).2) H2 s02
   . exact qf (fun B=>g8 (decide_eq_true (B.h M hM).1)) H2 s02
noncomputable def zD7 (K:PySem.W.Frag) (t:Adr):Sp:=fun vs H Q _=>∃ z:Str,vs=[.str z]/\z.length<=1000000/\(rdB z=none->∀ H',Same H H'->Q (.str (Str.ofString "text")) H') ∧
 ∀ n r lim ws,rdB z=some (n,r,lim,ws)->(¬ zi5 n r (ws.map (·.1)) lim->∀ H',Same H H'->Q (.str (Str.ofString "beam")) H')/\(zi5 n r (ws.map (·.1)) lim->¬ zo2 n r (ws.map (·.1)).length (ws.map (·.2))->∀ H',Same H H'->Q (.str (Str.ofString "standing")) H') ∧
   (zi5 n r (ws.map (·.1)) lim->zo2 n r (ws.map (·.1)).length (ws.map (·.2))->∀ l b p H',Same H H'->zv2 t H' b n r (ws.map (·.1)) lim->H' p=some (.tup ((ws.map (·.2)).map V.int))->H' l=some (.tup [.ref b,.ref p])->Q (.ref l) H')
theorem ok_w_told (T:Txt K mg t):FnOk P w K mg base CX0 8 t.a_w_told t.d_w_told ["_law_text"] (zD7 K t):=by
 have G_read_beam:FnOk P w K mg base (CXE P w) 7 t.a_read_beam t.d_read_beam ["text"] (zw8 K t):=ok_read_beam T
 refine T.F_w_told.ok sc_w_told (fun vs H Q E h=>?_) (fun cdv A outer s H vs Q E hr h=>?_)
 . obtain ⟨z,rfl,hz,qn,q⟩:=h
   rfl
 . obtain ⟨z,rfl,hz,qn,q⟩:=h
   have hr_read_beam:Room 7 _:=hr.mono (by decide)
   refine⟨_,(za6 (ps_tryHsE (E:=fun cls _ H'=>(cls = .ref t.c_BadText/\rdB z=none/\Same H H')\/(∃ (n r lim:Int) (ws:List (Int×Int)),rdB z=some (n,r,lim,ws)/\Same H H'/\((cls = .ref t.c_BadBeam/\¬ zi5 n r (ws.map Prod.fst) lim)\/(cls = .ref t.c_BadStanding/\zi5 n r (ws.map Prod.fst) lim/\¬ zo2 n r (ws.map Prod.fst).length (ws.map Prod.snd))))) ⟨rfl,rfl⟩ (fun _=>(za6 (zc0 (za9 G_read_beam hr_read_beam rfl T.m_read_beam T.k_read_beam T.b_read_beam .nil passes_try (za0 (pv 0) za3))))) (.cons rfl T.m_BadText (by decide) (fun _=>(za6 (zc0 zb5))) (.cons rfl T.m_BadBeam (by decide) (fun _=>(za6 (zc0 zb5))) (.cons rfl T.m_BadStanding (by decide) (fun _=>(za6 (zc0 zb5))) .nil))))),?_⟩
   refine⟨⟨_,rfl,z,rfl,hz,fun hn H' s'=>.inl ⟨rfl,hn,s'⟩,fun n r lim ws he=>⟨fun nb H' s'=>.inr ⟨n,r,lim,ws,he,s',.inl ⟨rfl,nb⟩⟩,fun ok nv H' s'=>.inr ⟨n,r,lim,ws,he,s',.inr ⟨rfl,ok,nv⟩⟩,(q n r lim ws he).2.2⟩⟩,fun σ' cls H' hE=>?_⟩
   rcases hE with ⟨rfl,hn,se⟩ | ⟨n,r,lim,ws,he,se,⟨rfl,nb⟩ | ⟨rfl,ok,nv⟩⟩
   . exact .inl ⟨T.xm_BadText_BadText,qn hn H' se⟩
   . exact .inr ⟨T.xm_BadBeam_BadText,.inl ⟨T.xm_BadBeam_BadBeam,(q n r lim ws he).1 nb H' se⟩⟩
   . exact .inr ⟨T.xm_BadStanding_BadText,.inr ⟨T.xm_BadStanding_BadBeam,.inl ⟨T.xm_BadStanding_BadStanding,(q n r lim ws he).2.1 ok nv H' se⟩⟩⟩
end
end Bt
namespace Bt
open PySem L2
section
variable {P:Program} {w:World} {K:PySem.W.Frag} {mg:Str->Option Value} {base:Heap} {t:Adr}
theorem use_finLH {R:Addr->Hp->Prop} {S:Addr->Hp->Prop} {G:Prop} (main:(∀ o H',S o H'->R o H')->G) (fin:∀ o H',S o H'->R o H'):G:=main fin
theorem use_finT {R:Str->Prop} {S:Str->Prop} {G:Prop} (main:(∀ o,S o->R o)->G) (fin:∀ o,S o->R o):G:=main fin
theorem zA9 {M:Nat}:∀ {rows:List Str},(∀ w∈rows,GL M w)->(rows.map (·.length)).sum<=rows.length*M
 | [],_=>by simp
 | w::ws,h=>by
   have:=zA9 fun x hx=>h x (List.mem_cons_of_mem _ hx)
   have:=(h w List.mem_cons_self).2
   simp only[List.map_cons,List.sum_cons,List.length_cons,Nat.add_mul,Nat.one_mul]
   omega
theorem ok_law (T:Txt K mg t):FnOk P w K mg base CX0 9 t.a_law t.d_law ["_law_script"] (sp_law K t):=by
 have G_w_rows_changed:FnOk P w K mg base CX0 2 t.a_w_rows_changed t.d_w_rows_changed ["_law_rows_here","_law_cell"] (zo3 K t):=ok_w_rows_changed T
 have G_w_edit:FnOk P w K mg base CX0 1 t.a_w_edit t.d_w_edit ["_law_text","_law_cell"] (zD1 K t):=ok_w_edit T
 have G_w_parsed:FnOk P w K mg base CX0 3 t.a_w_parsed t.d_w_parsed ["_law_text"] (zy6 K t):=ok_w_parsed T
 have G_w_told:FnOk P w K mg base CX0 8 t.a_w_told t.d_w_told ["_law_text"] (zD7 K t):=ok_w_told T
 have G_w_rows:FnOk P w K mg base CX0 3 t.a_w_rows t.d_w_rows ["_law_script"] (zD6 K t):=ok_w_rows T
 have G_w_at:FnOk P w K mg base CX0 1 t.a_w_at t.d_w_at ["_law_script","_law_k"] (zw6 K t):=zz2 T
 have G_w_spell:FnOk P w K mg base CX0 1 t.a_w_spell t.d_w_spell ["_law_cell","_law_count"] (zA6 K t):=ok_w_spell T
 have G_w_sized:FnOk P w K mg base CX0 1 t.a_w_sized t.d_w_sized ["_law_read"] (zA8 K t):=ok_w_sized T
 have G_w_is_standing:FnOk P w K mg base CX0 1 t.a_w_is_standing t.d_w_is_standing ["_law_notches","_law_room","_law_count","_law_spots"] (zq3 K t):=ok_w_is_standing T
 have G_w_same:FnOk P w K mg base CX0 2 t.a_w_same t.d_w_same ["_law_found","_law_due"] (zC6 K t):=ok_w_same T
 refine T.F_law.ok zs5 (fun vs H Q E h=>?_) (fun cdv A outer s H vs Q E hr h=>?_)
 . obtain ⟨a,ns,rfl,hS,hlen,q⟩:=h
   rfl
 . obtain ⟨a,ns,rfl,hS,hlen,q⟩:=h
   have hr_w_rows_changed:Room 2 _:=hr.mono (by decide)
   have hr_w_edit:Room 1 _:=hr.mono (by decide)
   have hr_w_parsed:Room 3 _:=hr.mono (by decide)
   have hr_w_told:Room 8 _:=hr.mono (by decide)
   have hr_w_rows:Room 3 _:=hr.mono (by decide)
   have hr_w_at:Room 1 _:=hr.mono (by decide)
   have hr_w_spell:Room 1 _:=hr.mono (by decide)
   have hr_w_sized:Room 1 _:=hr.mono (by decide)
   have hr_w_is_standing:Room 1 _:=hr.mono (by decide)
   have hr_w_same:Room 2 _:=hr.mono (by decide)
   refine⟨_,(za2 (zb2 (i:=1) zs5.nd rfl (Or.inl rfl) (za9 G_w_rows_changed hr_w_rows_changed rfl T.m_w_rows_changed T.k_w_rows_changed T.b_w_rows_changed .nil zc4 (za0 (za9 G_w_rows hr_w_rows rfl T.m_w_rows T.k_w_rows T.b_w_rows .nil zc4 (za0 (pv 0) za3)) (za0 (za9 G_w_at hr_w_at rfl T.m_w_at T.k_w_at T.b_w_at .nil zc4 (za0 (pv 0) (za0 za1 za3))) za3))))
     (za2 (zc5 (zb0 zf5 (za8 zd4 (za9 G_w_at hr_w_at rfl T.m_w_at T.k_w_at T.b_w_at .nil zc4 (za0 (pv 0) (za0 za1 za3))) za1) za1 (zb3 _)) (za6 (zb2 (i:=1) zs5.nd rfl (Or.inl rfl) (za9 G_w_rows_changed hr_w_rows_changed rfl T.m_w_rows_changed T.k_w_rows_changed T.b_w_rows_changed .nil zc4 (za0 (pv 1) (za0 (za8 ze7 (za9 G_w_at hr_w_at rfl T.m_w_at T.k_w_at T.b_w_at .nil zc4 (za0 (pv 0) (za0 za1 za3))) za1) za3))))) zb4)
     (za2 (zb2 (i:=2) zs5.nd rfl (Or.inl rfl) (za9 G_w_edit hr_w_edit rfl T.m_w_edit T.k_w_edit T.b_w_edit .nil zc4 (za0 (zj1 PySem.F.plainAttrs_str PySem.F.slot_str_join PySem.F.type_str_join zJ0 zb5 (za0 (pv 1) za3)) (za0 (za9 G_w_at hr_w_at rfl T.m_w_at T.k_w_at T.b_w_at .nil zc4 (za0 (pv 0) (za0 za1 za3))) za3))))
     (za2 (zc5 (zb0 zf5 (za8 zd4 (za9 G_w_at hr_w_at rfl T.m_w_at T.k_w_at T.b_w_at .nil zc4 (za0 (pv 0) (za0 za1 za3))) za1) za1 (zb3 _)) (za6 (zb2 (i:=2) zs5.nd rfl (Or.inl rfl) (za9 G_w_spell hr_w_spell rfl T.m_w_spell T.k_w_spell T.b_w_spell .nil zc4 (za0 (za9 G_w_at hr_w_at rfl T.m_w_at T.k_w_at T.b_w_at .nil zc4 (za0 (pv 0) (za0 za1 za3))) (za0 (za8 zd4 (za8 ze7 (za9 G_w_at hr_w_at rfl T.m_w_at T.k_w_at T.b_w_at .nil zc4 (za0 (pv 0) (za0 za1 za3))) za1) za1) za3))))) zb4)
     (za2 (zb2 (i:=3) zs5.nd rfl (Or.inl rfl) (za9 G_w_parsed hr_w_parsed rfl T.m_w_parsed T.k_w_parsed T.b_w_parsed .nil zc4 (za0 (pv 2) za3)))
     (za2 (zb2 (i:=4) zs5.nd rfl (Or.inl rfl) (za9 G_w_told hr_w_told rfl T.m_w_told T.k_w_told T.b_w_told .nil zc4 (za0 (pv 2) za3)))
     (za2 (zc5 (zb0 op_isN (pv 3) zx0 (zb3 _)) (za6 (zc0 (zh4 zf5 (pv 4) zb5 (zb3 _)))) zb4)
     (za2 (zc5 (zo5 (zf7 (za9 G_w_sized hr_w_sized rfl T.m_w_sized T.k_w_sized T.b_w_sized .nil zc4 (za0 (pv 3) za3)))) (za6 (zc0 (zh4 zf5 (pv 4) zb5 (zb3 _)))) zb4)
     (za2 (zc5 (zo5 (zf7 (za9 G_w_is_standing hr_w_is_standing rfl T.m_w_is_standing T.k_w_is_standing T.b_w_is_standing .nil zc4 (za0 (zc2 zb7 (pv 3) za1 (fun _ _=>rfl)) (za0 (zc2 zb7 (pv 3) za1 (fun _ _=>rfl)) (za0 (zb6 zb9 rfl T.n_len PySem.boot_len (za0 (zc2 zb7 (pv 3) za1 (fun _ _=>rfl)) za3)) (za0 (zc2 zb7 (pv 3) za1 (fun _ _=>rfl)) za3))))))) (za6 (zc0 (zh4 zf5 (pv 4) zb5 (zb3 _)))) zb4)
     (za2 (zc5 (PW.pt (zl6 (zo5 (zf7 (zb6 zp2 rfl T.n_isinstance PyProof.Rows.boot_isinstance (za0 (pv 4) (za0 (zv5 (v:=.ty "tuple") rfl T.n_tuple PyProof.Rows.boot_tuple rfl) za3))))) (zl6 (zb0 zn8 (zb6 zb9 rfl T.n_len PySem.boot_len (za0 (pv 4) za3)) za1 (zb3 _)) (zm9 (zo5 (zf7 (zb6 zp2 rfl T.n_isinstance PyProof.Rows.boot_isinstance (za0 (zc2 zn2 (pv 4) za1 (fun _ _=>rfl)) (za0 (zl9 (v:=.ref t.c_Beam) rfl T.m_Beam rfl) za3))))))))) (za6 (zc0 zo9)) zb4)
     (za2 (zb2 (i:=5) zs5.nd rfl (Or.inl rfl) (zf2 (za0 (zq4 (zc2 zn2 (pv 4) za1 (fun _ _=>rfl)) rfl) (za0 (zq4 (zc2 zn2 (pv 4) za1 (fun _ _=>rfl)) rfl) (za0 (zq4 (zc2 zn2 (pv 4) za1 (fun _ _=>rfl)) rfl) za3)))))
     (za2 (zc5 (zo5 (zf7 (za9 G_w_same hr_w_same rfl T.m_w_same T.k_w_same T.b_w_same .nil zc4 (za0 (pv 5) (za0 (zf2 (za0 (zc2 zb7 (pv 3) za1 (fun _ _=>rfl)) (za0 (zc2 zb7 (pv 3) za1 (fun _ _=>rfl)) (za0 (zc2 zb7 (pv 3) za1 (fun _ _=>rfl)) za3)))) za3))))) (za6 (zc0 zo9)) zb4)
     (za2 (zc5 (PW.pt (zl6 (zo5 (zf7 (zb6 zp2 rfl T.n_isinstance PyProof.Rows.boot_isinstance (za0 (zq4 (zc2 zn2 (pv 4) za1 (fun _ _=>rfl)) rfl) (za0 (zv5 (v:=.ty "tuple") rfl T.n_tuple PyProof.Rows.boot_tuple rfl) za3))))) (zm9 (zo5 (zf7 (za9 G_w_same hr_w_same rfl T.m_w_same T.k_w_same T.b_w_same .nil zc4 (za0 (zq4 (zc2 zn2 (pv 4) za1 (fun _ _=>rfl)) rfl) (za0 (zc2 zb7 (pv 3) za1 (fun _ _=>rfl)) za3)))))))) (za6 (zc0 zo9)) zb4)
     (za6 (zc0 (zH4 (zb6 zp2 rfl T.n_isinstance PyProof.Rows.boot_isinstance (za0 (zc2 zn2 (pv 4) za1 (fun _ _=>rfl)) (za0 (zv5 (v:=.ty "tuple") rfl T.n_tuple PyProof.Rows.boot_tuple rfl) za3))) (zz3 (za9 G_w_same hr_w_same rfl T.m_w_same T.k_w_same T.b_w_same .nil zc4 (za0 (zc2 zn2 (pv 4) za1 (fun _ _=>rfl)) (za0 (zc2 zb7 (pv 3) za1 (fun _ _=>rfl)) za3)))))))))))))))))))),?_⟩
   have hsl:sizeLine=16777216:=by decide
   refine⟨_,rfl,a,ns,rfl,hS,fun l rows H1 s1 f1 h1 g3 g8 gl=>?_⟩
   refine⟨_,rfl,a,ns,6,rfl,s1.seq hS,l,at0 ns 6,rows,40,rfl,h1,⟨by omega,by omega,by decide,by decide⟩,gl,fun l2 rows2 H2 e2 x2 h2 b1 b2 g2=>?_⟩
   have s2:Same H H2:=fun b o e=>x2 b o (s1 b o e) (zb8 e f1)
   have f2:H l2=none:=e2.elim (fun e=>e▸f1) (fun e=>s1.free e)
   clear x2 e2 h1 gl
   refine⟨_,rfl,a,ns,7,rfl,s2.seq hS,_,_,rfl,rfl,(by show (0:Int)<3;decide),rfl,_,rfl,?_⟩
   refine use_finLH (R:=?R) (S:=fun o H'=>Same H H'/\∃ rs:List Str,H' o=some (.lst (rs.map V.str))/\rs.length<=20/\∀ w∈rs,GL 60 w) (fun fin=>?main) ?fin
   case main =>
     refine ite2 (fun c1=>?ca) (fun c1=>?cb)
     case ca =>
       refine⟨_,rfl,_,rfl,a,ns,7,rfl,s2.seq hS,_,_,rfl,rfl,⟨by decide,by decide⟩,l2,at0 ns 7 / 3,rows2,50,rfl,h2,⟨by omega,by omega,by decide,by decide⟩,g2,fun l3 rows3 H3 e3 x3 h3 b3 b4 g3'=>?_⟩
       exact fin l3 H3 ⟨fun b o e=>x3 b o (s2 b o e) (zb8 e f2),rows3,h3,by omega,g3'⟩
     case cb=>exact fin l2 H2 ⟨s2,rows2,h2,by omega,fun w hw=>(g2 w hw).mono (by decide)⟩
   case fin =>
     rintro o H3 ⟨s3,rs,h3,hrl,hrs⟩
     clear h2 g2 s2 f2 f1 s1
     have aj:Asc (Txt.join (Str.ofString "\n") rs):=zD4 (by decide) fun w hw=>(hrs w hw).1
     have lj:(Txt.join (Str.ofString "\n") rs).length<=2000:=by
       rw[zu1,show (Str.ofString "\n").length=1 by decide,Nat.mul_one]
       have:=zA9 hrs
       have:rs.length*60<=20*60:=Nat.mul_le_mul_right _ hrl
       omega
     have lsz:(rs.map (·.length)).sum+rs.length*(Str.ofString "\n").length<=16777216:=by
       rw[show (Str.ofString "\n").length=1 by decide,Nat.mul_one]
       have:=zA9 hrs
       have:rs.length*60<=20*60:=Nat.mul_le_mul_right _ hrl
       omega
     refine⟨rfl,_,rfl,Str.ofString "\n",o,rs,rfl,rfl,SqL.of h3,lsz,_,rfl,a,ns,8,rfl,s3.seq hS,_,at0 ns 8,rfl,by omega,aj,fun z1 az1 lz1=>?_⟩
     refine⟨_,rfl,a,ns,11,rfl,s3.seq hS,_,_,rfl,rfl,(by show (0:Int)<6;decide),rfl,_,rfl,?_⟩
     refine use_finT (R:=?R2) (S:=fun z=>Asc z/\z.length<=100000) (fun fin2=>?main2) ?fin2
     case main2 =>
       refine ite2 (fun c1=>?ca) (fun c1=>?cb)
       case ca =>
         have k0:0<=at0 ns 11 / 6 % 121:=Int.emod_nonneg _ (by decide)
         have k1:at0 ns 11 / 6 % 121<121:=Int.emod_lt_of_pos _ (by decide)
         refine⟨_,rfl,a,ns,12,rfl,s3.seq hS,_,rfl,a,ns,11,rfl,s3.seq hS,_,_,rfl,rfl,⟨by decide,by decide⟩,_,_,rfl,rfl,(by show (0:Int)<121;decide),at0 ns 12,(at0 ns 11 / 6 % 121).toNat,?_,by omega,fun z2 az2 lz2=>?_⟩
         . rw[Int.toNat_of_nonneg k0];rfl
         . show zK1 _ (_:St) _
           exact fin2 z2 ⟨az2,by omega⟩
       case cb=>exact fin2 z1 ⟨az1,by omega⟩
     case fin2 =>
       rintro z ⟨az,lz⟩
       clear az1 lz1 aj lj lsz h3 hrs hrl
       have lz6:z.length<=1000000:=by omega
       refine⟨_,rfl,z,rfl,lz,az,fun hn H4 s4=>?_,fun n r lim ws he nn hwl ll h s H4 s4 hh hs hl=>?_⟩
       . refine⟨_,rfl,z,rfl,lz6,fun _ H5 s5=>?_,fun n r lim ws he=>absurd (hn.symm.trans he) (fun z=>nomatch z)⟩
         refine⟨_,rfl,rfl,_,rfl,iteA (decide_eq_true rfl) ⟨_,rfl,rfl,?_⟩⟩
         rw[decide_eq_true rfl]
         exact q _
       . refine⟨_,rfl,z,rfl,lz6,fun hn=>absurd (hn.symm.trans he) (fun z=>nomatch z),fun n' r' lim' ws' he'=>?_⟩
         have e:=he'.symm.trans he
         injection e with e
         obtain ⟨rfl,rfl,rfl,rfl⟩:n'=n/\r'=r/\lim'=lim/\ws'=ws:=by
           injection e with e1 e2
           injection e2 with e2 e3
           injection e3 with e3 e4
           exact⟨e1,e2,e3,e4⟩
         have hhl:(ws'.map (·.1)).length<=100001:=by rw[List.length_map];exact hwl
         refine⟨fun nb H5 s5=>?_,fun ok nv H5 s5=>?_,fun ok V0 l b2 p H5 s5 B2 hp hlf=>?_⟩
         . refine⟨_,rfl,rfl,_,rfl,iteB (decide_eq_false (fun z=>nomatch z)) ?_⟩
           refine⟨_,rfl,ll,h,s,n',r',lim',ws'.map (·.1),rfl,s5 _ _ hl,s5 _ _ hh,nn.2.2.1,fun ok=>absurd ok nb,fun _ H6 s6=>⟨_,rfl,iteT ⟨_,rfl,rfl,?_⟩⟩⟩
           rw[decide_eq_true rfl]
           exact q _
         . refine⟨_,rfl,rfl,_,rfl,iteB (decide_eq_false (fun z=>nomatch z)) ?_⟩
           refine⟨_,rfl,ll,h,s,n',r',lim',ws'.map (·.1),rfl,s5 _ _ hl,s5 _ _ hh,nn.2.2.1,fun _ H6 s6=>⟨_,rfl,iteF ?_⟩,fun nb=>absurd ok nb⟩
           have s56:=s5.trans s6
           have hl6:=s56 _ _ hl
           refine⟨_,rfl,ll,_,_,_,rfl,rfl,SqL.of hl6,at_0,_,rfl,ll,_,_,_,rfl,rfl,SqL.of hl6,at_1,_,rfl,ll,_,_,_,rfl,rfl,SqL.of hl6,at_2,h,_,rfl,.inl (SqL.of (s56 _ _ hh)),_,rfl,ll,_,_,_,rfl,rfl,SqL.of hl6,rfl,s,n',r',(ws'.map (·.1)).length,ws'.map (·.2),by rw[List.length_map];rfl,SqL.of (s56 _ _ hs),fun v=>absurd v nv,fun _=>⟨_,rfl,iteT ⟨_,rfl,rfl,?_⟩⟩⟩
           rw[decide_eq_true rfl]
           exact q _
         . refine⟨_,rfl,rfl,_,rfl,iteB (decide_eq_false (fun z=>nomatch z)) ?_⟩
           refine⟨_,rfl,ll,h,s,n',r',lim',ws'.map (·.1),rfl,s5 _ _ hl,s5 _ _ hh,nn.2.2.1,fun _ H6 s6=>⟨_,rfl,iteF ?_⟩,fun nb=>absurd ok nb⟩
           have s56:=s5.trans s6
           have hl6:=s56 _ _ hl
           have hh6:=s56 _ _ hh
           have hs6:=s56 _ _ hs
           refine⟨_,rfl,ll,_,_,_,rfl,rfl,SqL.of hl6,at_0,_,rfl,ll,_,_,_,rfl,rfl,SqL.of hl6,at_1,_,rfl,ll,_,_,_,rfl,rfl,SqL.of hl6,at_2,h,_,rfl,.inl (SqL.of hh6),_,rfl,ll,_,_,_,rfl,rfl,SqL.of hl6,rfl,s,n',r',(ws'.map (·.1)).length,ws'.map (·.2),by rw[List.length_map];rfl,SqL.of hs6,fun _=>⟨_,rfl,iteF ?_⟩,fun nv=>absurd V0 nv⟩
           have hl2:=s6 _ _ hlf
           have hp2:=s6 _ _ hp
           obtain ⟨_,dx2,g2,hb2,hg2⟩:=B2.same s6
           refine⟨_,rfl,_,_,_,_,_,rfl,.ty _,.tup hl2,rfl,_,rfl,iteF ?_⟩
           refine⟨_,rfl,l,_,rfl,.inr (SqT.of hl2),rfl,_,rfl,iteB (by simp) ?_⟩
           have ix0:∀ (H3:Hp) (Q':VK),H3 l=some (.tup [.ref b2,.ref p])->Q' (.ref b2) H3->rIx K (.ref l) (.int 0) H3 Q':=fun H3 Q' e h=>.inr (.inl ⟨l,_,_,_,rfl,rfl,SqT.of e,at_0,h⟩)
           have ix1:∀ (H3:Hp) (Q':VK),H3 l=some (.tup [.ref b2,.ref p])->Q' (.ref p) H3->rIx K (.ref l) (.int 1) H3 Q':=fun H3 Q' e h=>.inr (.inl ⟨l,_,_,_,rfl,rfl,SqT.of e,at_1,h⟩)
           refine⟨_,rfl,ix0 _ _ hl2 ?_⟩
           refine⟨_,_,_,_,_,rfl,.own _,.ins hb2 T.cl_Beam T.ic_Beam.1 T.ic_Beam.2.1 T.ic_Beam.2.2.1 T.ic_Beam.2.2.2,kit_self,_,rfl,iteF ?_⟩
           refine⟨_,rfl,ix0 _ _ hl2 ⟨b2,_,dx2,_,_,rfl,hb2,T.cl_Beam,T.na_Beam_notches,zx9 _ _ _ _,?_⟩⟩
           refine⟨_,rfl,ix0 _ _ hl2 ⟨b2,_,dx2,_,_,rfl,hb2,T.cl_Beam,T.na_Beam_room,zL7 _ _ _ _,?_⟩⟩
           refine⟨_,rfl,ix0 _ _ hl2 ⟨b2,_,dx2,_,_,rfl,hb2,T.cl_Beam,T.na_Beam_limit,b_limit _ _ _ _,?_⟩⟩
           refine⟨(by show 3<=sizeLine;decide),fun l3 H7 s7 f7 h7=>?_⟩
           have hl7:=s7 _ _ hl6
           refine⟨_,rfl,_,rfl,ll,_,_,_,rfl,rfl,SqL.of hl7,at_0,_,rfl,ll,_,_,_,rfl,rfl,SqL.of hl7,at_1,_,rfl,ll,_,_,_,rfl,rfl,SqL.of hl7,rfl,(by show 3<=sizeLine;decide),fun l4 H8 s8 f8 h8=>?_⟩
           refine⟨l3,l4,[n',r',lim'],[n',r',lim'],rfl,.inl (SqL.of (s8 _ _ h7)),.inl (SqL.of h8),(by show 3<=1000;decide),_,rfl,?_⟩
           refine iteB (by rw[decide_eq_true rfl];rfl) ?_
           have s78:=s7.trans s8
           have hl4:=s78 _ _ hl2
           have hb4:=s78 _ _ hb2
           have hg4:=s78 _ _ hg2
           have hp4:=s78 _ _ hp2
           have hw:=ok.w
           rw[List.length_map] at hw
           refine⟨_,rfl,ix0 _ _ hl4 ⟨b2,_,dx2,_,_,rfl,hb4,T.cl_Beam,T.na_Beam_hefts,zF2 _ _ _ _,?_⟩⟩
           refine⟨_,_,_,_,_,rfl,.ty _,.tup hg4,rfl,_,rfl,iteF ?_⟩
           refine⟨_,rfl,ix0 _ _ hl4 ⟨b2,_,dx2,_,_,rfl,hb4,T.cl_Beam,T.na_Beam_hefts,zF2 _ _ _ _,?_⟩⟩
           refine⟨_,rfl,ll,_,_,_,rfl,rfl,SqL.of (s78 _ _ hl6),at_2,g2,h,ws'.map (·.1),ws'.map (·.1),rfl,.inr (SqT.of hg4),.inl (SqL.of (s78 _ _ hh6)),(by rw[List.length_map];omega),_,rfl,?_⟩
           refine iteB (by rw[decide_eq_true rfl];rfl) ?_
           refine⟨_,rfl,ix1 _ _ hl4 ⟨_,_,_,_,_,rfl,.ty _,.tup hp4,rfl,_,rfl,iteT ?_⟩⟩
           refine⟨_,rfl,ix1 _ _ hl4 ⟨_,rfl,ll,_,_,_,rfl,rfl,SqL.of (s78 _ _ hl6),rfl,p,s,ws'.map (·.2),ws'.map (·.2),rfl,.inr (SqT.of hp4),.inl (SqL.of (s78 _ _ hs6)),(by rw[List.length_map];omega),?_⟩⟩
           rw[decide_eq_true rfl]
           exact q _
end
end Bt
namespace Bt
open PySem L2
theorem ar1 {us:List Value} (h:us.length=1):∃ x0,us=[x0]:=by
 match us,h with
 | [a0],_=>exact⟨a0,rfl⟩
theorem ar2 {us:List Value} (h:us.length=2):∃ x0 x1,us=[x0,x1]:=by
 match us,h with
 | [a0,a1],_=>exact⟨a0,a1,rfl⟩
theorem ar3 {us:List Value} (h:us.length=3):∃ x0 x1 x2,us=[x0,x1,x2]:=by
 match us,h with
 | [a0,a1,a2],_=>exact⟨a0,a1,a2,rfl⟩
theorem ar4 {us:List Value} (h:us.length=4):∃ x0 x1 x2 x3,us=[x0,x1,x2,x3]:=by
 match us,h with
 | [a0,a1,a2,a3],_=>exact⟨a0,a1,a2,a3,rfl⟩
theorem ar5 {us:List Value} (h:us.length=5):∃ x0 x1 x2 x3 x4,us=[x0,x1,x2,x3,x4]:=by
 match us,h with
 | [a0,a1,a2,a3,a4],_=>exact⟨a0,a1,a2,a3,a4,rfl⟩
theorem all_mk {l:PySem.W.OpenLaw} {w:World} {K:PySem.W.Frag} {h:Heap} {mg:Str->Option Value} {fa:Addr} (X:K.In h) (G:h.Ns mainGlobals mg) (hfa:mg "law" = some (.ref fa))
   {oc_BeamError_init kV_BeamError_init dc_BeamError_init pm_BeamError_init cd_BeamError_init ct_BeamError_init:Value} {od_BeamError_init an_BeamError_init:Option Addr} {sl_BeamError_init:Array (Option Value)} {f_BeamError_init:Addr}
   {T_BeamError_init:Addr} {tc_BeamError_init:Value} {td_BeamError_init:Option Addr} {tn_BeamError_init:Nat} {ts_BeamError_init:Array (Option Value)} {e0_BeamError_init e1_BeamError_init:Value}
   {oc_BadBeam_init kV_BadBeam_init dc_BadBeam_init pm_BadBeam_init cd_BadBeam_init ct_BadBeam_init:Value} {od_BadBeam_init an_BadBeam_init:Option Addr} {sl_BadBeam_init:Array (Option Value)} {f_BadBeam_init:Addr}
   {T_BadBeam_init:Addr} {tc_BadBeam_init:Value} {td_BadBeam_init:Option Addr} {tn_BadBeam_init:Nat} {ts_BadBeam_init:Array (Option Value)} {e0_BadBeam_init:Value}
   {oc_BadStanding_init kV_BadStanding_init dc_BadStanding_init pm_BadStanding_init cd_BadStanding_init ct_BadStanding_init:Value} {od_BadStanding_init an_BadStanding_init:Option Addr} {sl_BadStanding_init:Array (Option Value)} {f_BadStanding_init:Addr}
   {T_BadStanding_init:Addr} {tc_BadStanding_init:Value} {td_BadStanding_init:Option Addr} {tn_BadStanding_init:Nat} {ts_BadStanding_init:Array (Option Value)} {e0_BadStanding_init:Value}
   {oc_BadText_init kV_BadText_init dc_BadText_init pm_BadText_init cd_BadText_init ct_BadText_init:Value} {od_BadText_init an_BadText_init:Option Addr} {sl_BadText_init:Array (Option Value)} {f_BadText_init:Addr}
   {T_BadText_init:Addr} {tc_BadText_init:Value} {td_BadText_init:Option Addr} {tn_BadText_init:Nat} {ts_BadText_init:Array (Option Value)} {e0_BadText_init:Value}
   {oc_Beam_init kV_Beam_init dc_Beam_init pm_Beam_init cd_Beam_init ct_Beam_init:Value} {od_Beam_init an_Beam_init:Option Addr} {sl_Beam_init:Array (Option Value)} {f_Beam_init:Addr}
   {oc_outside kV_outside dc_outside pm_outside cd_outside ct_outside:Value} {od_outside an_outside:Option Addr} {sl_outside:Array (Option Value)} {f_outside:Addr}
   {oc_check_bounds kV_check_bounds dc_check_bounds pm_check_bounds cd_check_bounds ct_check_bounds:Value} {od_check_bounds an_check_bounds:Option Addr} {sl_check_bounds:Array (Option Value)} {f_check_bounds:Addr}
   {oc_check_hefts kV_check_hefts dc_check_hefts pm_check_hefts cd_check_hefts ct_check_hefts:Value} {od_check_hefts an_check_hefts:Option Addr} {sl_check_hefts:Array (Option Value)} {f_check_hefts:Addr}
   {oc_check_standings kV_check_standings dc_check_standings pm_check_standings cd_check_standings ct_check_standings:Value} {od_check_standings an_check_standings:Option Addr} {sl_check_standings:Array (Option Value)} {f_check_standings:Addr}
   {oc_as_standing kV_as_standing dc_as_standing pm_as_standing cd_as_standing ct_as_standing:Value} {od_as_standing an_as_standing:Option Addr} {sl_as_standing:Array (Option Value)} {f_as_standing:Addr}
   {oc_read_beam kV_read_beam dc_read_beam pm_read_beam cd_read_beam ct_read_beam:Value} {od_read_beam an_read_beam:Option Addr} {sl_read_beam:Array (Option Value)} {f_read_beam:Addr}
   {oc_read_weight kV_read_weight dc_read_weight pm_read_weight cd_read_weight ct_read_weight:Value} {od_read_weight an_read_weight:Option Addr} {sl_read_weight:Array (Option Value)} {f_read_weight:Addr}
   {oc_words_behind kV_words_behind dc_words_behind pm_words_behind cd_words_behind ct_words_behind:Value} {od_words_behind an_words_behind:Option Addr} {sl_words_behind:Array (Option Value)} {f_words_behind:Addr}
   {oc_read_place kV_read_place dc_read_place pm_read_place cd_read_place ct_read_place:Value} {od_read_place an_read_place:Option Addr} {sl_read_place:Array (Option Value)} {f_read_place:Addr}
   {oc_read_number kV_read_number dc_read_number pm_read_number cd_read_number ct_read_number:Value} {od_read_number an_read_number:Option Addr} {sl_read_number:Array (Option Value)} {f_read_number:Addr}
   {oc_is_number kV_is_number dc_is_number pm_is_number cd_is_number ct_is_number:Value} {od_is_number an_is_number:Option Addr} {sl_is_number:Array (Option Value)} {f_is_number:Addr}
   {oc_w_at kV_w_at dc_w_at pm_w_at cd_w_at ct_w_at:Value} {od_w_at an_w_at:Option Addr} {sl_w_at:Array (Option Value)} {f_w_at:Addr}
   {oc_w_whole kV_w_whole dc_w_whole pm_w_whole cd_w_whole ct_w_whole:Value} {od_w_whole an_w_whole:Option Addr} {sl_w_whole:Array (Option Value)} {f_w_whole:Addr}
   {oc_w_figs kV_w_figs dc_w_figs pm_w_figs cd_w_figs ct_w_figs:Value} {od_w_figs an_w_figs:Option Addr} {sl_w_figs:Array (Option Value)} {f_w_figs:Addr}
   {oc_w_shape kV_w_shape dc_w_shape pm_w_shape cd_w_shape ct_w_shape:Value} {od_w_shape an_w_shape:Option Addr} {sl_w_shape:Array (Option Value)} {f_w_shape:Addr}
   {oc_w_put kV_w_put dc_w_put pm_w_put cd_w_put ct_w_put:Value} {od_w_put an_w_put:Option Addr} {sl_w_put:Array (Option Value)} {f_w_put:Addr}
   {oc_w_same kV_w_same dc_w_same pm_w_same cd_w_same ct_w_same:Value} {od_w_same an_w_same:Option Addr} {sl_w_same:Array (Option Value)} {f_w_same:Addr}
   {oc_w_say kV_w_say dc_w_say pm_w_say cd_w_say ct_w_say:Value} {od_w_say an_w_say:Option Addr} {sl_w_say:Array (Option Value)} {f_w_say:Addr}
   {oc_w_number kV_w_number dc_w_number pm_w_number cd_w_number ct_w_number:Value} {od_w_number an_w_number:Option Addr} {sl_w_number:Array (Option Value)} {f_w_number:Addr}
   {oc_w_spot kV_w_spot dc_w_spot pm_w_spot cd_w_spot ct_w_spot:Value} {od_w_spot an_w_spot:Option Addr} {sl_w_spot:Array (Option Value)} {f_w_spot:Addr}
   {oc_w_edit kV_w_edit dc_w_edit pm_w_edit cd_w_edit ct_w_edit:Value} {od_w_edit an_w_edit:Option Addr} {sl_w_edit:Array (Option Value)} {f_w_edit:Addr}
   {oc_w_spell kV_w_spell dc_w_spell pm_w_spell cd_w_spell ct_w_spell:Value} {od_w_spell an_w_spell:Option Addr} {sl_w_spell:Array (Option Value)} {f_w_spell:Addr}
   {oc_w_menu kV_w_menu dc_w_menu pm_w_menu cd_w_menu ct_w_menu:Value} {od_w_menu an_w_menu:Option Addr} {sl_w_menu:Array (Option Value)} {f_w_menu:Addr}
   {oc_w_is_standing kV_w_is_standing dc_w_is_standing pm_w_is_standing cd_w_is_standing ct_w_is_standing:Value} {od_w_is_standing an_w_is_standing:Option Addr} {sl_w_is_standing:Array (Option Value)} {f_w_is_standing:Addr}
   {oc_w_rows kV_w_rows dc_w_rows pm_w_rows cd_w_rows ct_w_rows:Value} {od_w_rows an_w_rows:Option Addr} {sl_w_rows:Array (Option Value)} {f_w_rows:Addr}
   {oc_w_rows_changed kV_w_rows_changed dc_w_rows_changed pm_w_rows_changed cd_w_rows_changed ct_w_rows_changed:Value} {od_w_rows_changed an_w_rows_changed:Option Addr} {sl_w_rows_changed:Array (Option Value)} {f_w_rows_changed:Addr}
   {oc_w_parsed kV_w_parsed dc_w_parsed pm_w_parsed cd_w_parsed ct_w_parsed:Value} {od_w_parsed an_w_parsed:Option Addr} {sl_w_parsed:Array (Option Value)} {f_w_parsed:Addr}
   {oc_w_sized kV_w_sized dc_w_sized pm_w_sized cd_w_sized ct_w_sized:Value} {od_w_sized an_w_sized:Option Addr} {sl_w_sized:Array (Option Value)} {f_w_sized:Addr}
   {oc_w_told kV_w_told dc_w_told pm_w_told cd_w_told ct_w_told:Value} {od_w_told an_w_told:Option Addr} {sl_w_told:Array (Option Value)} {f_w_told:Addr}
   {oc_law kV_law dc_law pm_law cd_law ct_law:Value} {od_law an_law:Option Addr} {sl_law:Array (Option Value)} {f_law:Addr}
   {C_Beam:Addr}
   {C_BadBeam:Addr}
   {C_BadStanding:Addr}
   {C_BadText:Addr}
   {C_BeamError:Addr}
   {nm_BadBeam qn_BadBeam:Str} {N_BadBeam:Addr} {bs_BadBeam bm_BadBeam:List Value} {sn_BadBeam:List Str} {sub_BadBeam:List Value} {ab_BadBeam:Bool} {col_BadBeam:Option Bool} {dd_BadBeam:Option Addr} {k0_BadBeam k1_BadBeam k2_BadBeam k3_BadBeam k5_BadBeam:Option Value}
   {nm_BadStanding qn_BadStanding:Str} {N_BadStanding:Addr} {bs_BadStanding bm_BadStanding:List Value} {sn_BadStanding:List Str} {sub_BadStanding:List Value} {ab_BadStanding:Bool} {col_BadStanding:Option Bool} {dd_BadStanding:Option Addr} {k0_BadStanding k1_BadStanding k2_BadStanding k3_BadStanding k5_BadStanding:Option Value}
   {nm_BadText qn_BadText:Str} {N_BadText:Addr} {bs_BadText bm_BadText:List Value} {sn_BadText:List Str} {sub_BadText:List Value} {ab_BadText:Bool} {col_BadText:Option Bool} {dd_BadText:Option Addr} {k0_BadText k1_BadText k2_BadText k3_BadText k5_BadText:Option Value}
   {cdx_BadText:ClassData}
   {cdx_BadBeam:ClassData}
   {cdx_BadStanding:ClassData}
   {q_MOST_NOTCHES:Tok}
   {q_MOST_ROOM:Tok}
   {q_MOST_LIMIT:Tok}
   {q_MOST_WEIGHTS:Tok}
   {q_MOST_HEFT:Tok}
   {q_MOST_STANDINGS:Tok}
   {q_MOST_FIGURES:Tok}
   {q_FIGURES:Tok}
   (a_Beam:PySem.W.nsIn K mainGlobals "Beam" = some (some (.ref C_Beam)))
   (a_BadBeam:PySem.W.nsIn K mainGlobals "BadBeam" = some (some (.ref C_BadBeam)))
   (a_BadStanding:PySem.W.nsIn K mainGlobals "BadStanding" = some (some (.ref C_BadStanding)))
   (a_BadText:PySem.W.nsIn K mainGlobals "BadText" = some (some (.ref C_BadText)))
   (a_BeamError:PySem.W.nsIn K mainGlobals "BeamError" = some (some (.ref C_BeamError)))
   (a_BeamError_init:PySem.W.findIn K (.ref C_BeamError) "__init__" = some (some (.ref f_BeamError_init)))
   (i_BeamError_init:PySem.W.isFn K (.ref f_BeamError_init)=true)
   (l_BeamError_init:K.lookup f_BeamError_init=some ⟨oc_BeamError_init,od_BeamError_init,.func (PySem.W.fnOf "__init__" "BeamError.__init__" (zc1 zd1) (zb1 zd1) (za5 zd1) (.ref T_BeamError_init) kV_BeamError_init dc_BeamError_init pm_BeamError_init an_BeamError_init cd_BeamError_init ct_BeamError_init),sl_BeamError_init⟩)
   (c_BeamError_init:PySem.W.codeIn K cd_BeamError_init "BeamError.__init__" = true) (k_BeamError_init:PySem.W.keepIn K (.ref f_BeamError_init)=true)
   (dt_BeamError_init:K.lookup T_BeamError_init=some ⟨tc_BeamError_init,td_BeamError_init,.seq #[e0_BeamError_init,e1_BeamError_init] tn_BeamError_init,ts_BeamError_init⟩)
   (a_BadBeam_init:PySem.W.findIn K (.ref C_BadBeam) "__init__" = some (some (.ref f_BadBeam_init)))
   (i_BadBeam_init:PySem.W.isFn K (.ref f_BadBeam_init)=true)
   (l_BadBeam_init:K.lookup f_BadBeam_init=some ⟨oc_BadBeam_init,od_BadBeam_init,.func (PySem.W.fnOf "__init__" "BadBeam.__init__" (zc1 zd8) (zb1 zd8) (za5 zd8) (.ref T_BadBeam_init) kV_BadBeam_init dc_BadBeam_init pm_BadBeam_init an_BadBeam_init cd_BadBeam_init ct_BadBeam_init),sl_BadBeam_init⟩)
   (c_BadBeam_init:PySem.W.codeIn K cd_BadBeam_init "BadBeam.__init__" = true) (k_BadBeam_init:PySem.W.keepIn K (.ref f_BadBeam_init)=true)
   (dt_BadBeam_init:K.lookup T_BadBeam_init=some ⟨tc_BadBeam_init,td_BadBeam_init,.seq #[e0_BadBeam_init] tn_BadBeam_init,ts_BadBeam_init⟩)
   (a_BadStanding_init:PySem.W.findIn K (.ref C_BadStanding) "__init__" = some (some (.ref f_BadStanding_init)))
   (i_BadStanding_init:PySem.W.isFn K (.ref f_BadStanding_init)=true)
   (l_BadStanding_init:K.lookup f_BadStanding_init=some ⟨oc_BadStanding_init,od_BadStanding_init,.func (PySem.W.fnOf "__init__" "BadStanding.__init__" (zc1 zc8) (zb1 zc8) (za5 zc8) (.ref T_BadStanding_init) kV_BadStanding_init dc_BadStanding_init pm_BadStanding_init an_BadStanding_init cd_BadStanding_init ct_BadStanding_init),sl_BadStanding_init⟩)
   (c_BadStanding_init:PySem.W.codeIn K cd_BadStanding_init "BadStanding.__init__" = true) (k_BadStanding_init:PySem.W.keepIn K (.ref f_BadStanding_init)=true)
   (dt_BadStanding_init:K.lookup T_BadStanding_init=some ⟨tc_BadStanding_init,td_BadStanding_init,.seq #[e0_BadStanding_init] tn_BadStanding_init,ts_BadStanding_init⟩)
   (a_BadText_init:PySem.W.findIn K (.ref C_BadText) "__init__" = some (some (.ref f_BadText_init)))
   (i_BadText_init:PySem.W.isFn K (.ref f_BadText_init)=true)
   (l_BadText_init:K.lookup f_BadText_init=some ⟨oc_BadText_init,od_BadText_init,.func (PySem.W.fnOf "__init__" "BadText.__init__" (zc1 zd9) (zb1 zd9) (za5 zd9) (.ref T_BadText_init) kV_BadText_init dc_BadText_init pm_BadText_init an_BadText_init cd_BadText_init ct_BadText_init),sl_BadText_init⟩)
   (c_BadText_init:PySem.W.codeIn K cd_BadText_init "BadText.__init__" = true) (k_BadText_init:PySem.W.keepIn K (.ref f_BadText_init)=true)
   (dt_BadText_init:K.lookup T_BadText_init=some ⟨tc_BadText_init,td_BadText_init,.seq #[e0_BadText_init] tn_BadText_init,ts_BadText_init⟩)
   (a_Beam_init:PySem.W.findIn K (.ref C_Beam) "__init__" = some (some (.ref f_Beam_init)))
   (i_Beam_init:PySem.W.isFn K (.ref f_Beam_init)=true)
   (l_Beam_init:K.lookup f_Beam_init=some ⟨oc_Beam_init,od_Beam_init,.func (PySem.W.fnOf "__init__" "Beam.__init__" (zc1 zj3) (zb1 zj3) (za5 zj3) .none kV_Beam_init dc_Beam_init pm_Beam_init an_Beam_init cd_Beam_init ct_Beam_init),sl_Beam_init⟩)
   (c_Beam_init:PySem.W.codeIn K cd_Beam_init "Beam.__init__" = true) (k_Beam_init:PySem.W.keepIn K (.ref f_Beam_init)=true)
   (a_outside:PySem.W.nsIn K mainGlobals "outside" = some (some (.ref f_outside)))
   (l_outside:K.lookup f_outside=some ⟨oc_outside,od_outside,.func (PySem.W.fnOf "outside" "outside" (zc1 zm4) (zb1 zm4) (za5 zm4) .none kV_outside dc_outside pm_outside an_outside cd_outside ct_outside),sl_outside⟩)
   (c_outside:PySem.W.codeIn K cd_outside "outside" = true) (k_outside:PySem.W.keepIn K (.ref f_outside)=true)
   (a_check_bounds:PySem.W.nsIn K mainGlobals "check_bounds" = some (some (.ref f_check_bounds)))
   (l_check_bounds:K.lookup f_check_bounds=some ⟨oc_check_bounds,od_check_bounds,.func (PySem.W.fnOf "check_bounds" "check_bounds" (zc1 zg1) (zb1 zg1) (za5 zg1) .none kV_check_bounds dc_check_bounds pm_check_bounds an_check_bounds cd_check_bounds ct_check_bounds),sl_check_bounds⟩)
   (c_check_bounds:PySem.W.codeIn K cd_check_bounds "check_bounds" = true) (k_check_bounds:PySem.W.keepIn K (.ref f_check_bounds)=true)
   (a_check_hefts:PySem.W.nsIn K mainGlobals "check_hefts" = some (some (.ref f_check_hefts)))
   (l_check_hefts:K.lookup f_check_hefts=some ⟨oc_check_hefts,od_check_hefts,.func (PySem.W.fnOf "check_hefts" "check_hefts" (zc1 zg9) (zb1 zg9) (za5 zg9) .none kV_check_hefts dc_check_hefts pm_check_hefts an_check_hefts cd_check_hefts ct_check_hefts),sl_check_hefts⟩)
   (c_check_hefts:PySem.W.codeIn K cd_check_hefts "check_hefts" = true) (k_check_hefts:PySem.W.keepIn K (.ref f_check_hefts)=true)
   (a_check_standings:PySem.W.nsIn K mainGlobals "check_standings" = some (some (.ref f_check_standings)))
   (l_check_standings:K.lookup f_check_standings=some ⟨oc_check_standings,od_check_standings,.func (PySem.W.fnOf "check_standings" "check_standings" (zc1 ze6) (zb1 ze6) (za5 ze6) .none kV_check_standings dc_check_standings pm_check_standings an_check_standings cd_check_standings ct_check_standings),sl_check_standings⟩)
   (c_check_standings:PySem.W.codeIn K cd_check_standings "check_standings" = true) (k_check_standings:PySem.W.keepIn K (.ref f_check_standings)=true)
   (a_as_standing:PySem.W.nsIn K mainGlobals "as_standing" = some (some (.ref f_as_standing)))
   (l_as_standing:K.lookup f_as_standing=some ⟨oc_as_standing,od_as_standing,.func (PySem.W.fnOf "as_standing" "as_standing" (zc1 zh0) (zb1 zh0) (za5 zh0) .none kV_as_standing dc_as_standing pm_as_standing an_as_standing cd_as_standing ct_as_standing),sl_as_standing⟩)
   (c_as_standing:PySem.W.codeIn K cd_as_standing "as_standing" = true) (k_as_standing:PySem.W.keepIn K (.ref f_as_standing)=true)
   (a_read_beam:PySem.W.nsIn K mainGlobals "read_beam" = some (some (.ref f_read_beam)))
   (l_read_beam:K.lookup f_read_beam=some ⟨oc_read_beam,od_read_beam,.func (PySem.W.fnOf "read_beam" "read_beam" (zc1 ze0) (zb1 ze0) (za5 ze0) .none kV_read_beam dc_read_beam pm_read_beam an_read_beam cd_read_beam ct_read_beam),sl_read_beam⟩)
   (c_read_beam:PySem.W.codeIn K cd_read_beam "read_beam" = true) (k_read_beam:PySem.W.keepIn K (.ref f_read_beam)=true)
   (a_read_weight:PySem.W.nsIn K mainGlobals "read_weight" = some (some (.ref f_read_weight)))
   (l_read_weight:K.lookup f_read_weight=some ⟨oc_read_weight,od_read_weight,.func (PySem.W.fnOf "read_weight" "read_weight" (zc1 zh1) (zb1 zh1) (za5 zh1) .none kV_read_weight dc_read_weight pm_read_weight an_read_weight cd_read_weight ct_read_weight),sl_read_weight⟩)
   (c_read_weight:PySem.W.codeIn K cd_read_weight "read_weight" = true) (k_read_weight:PySem.W.keepIn K (.ref f_read_weight)=true)
   (a_words_behind:PySem.W.nsIn K mainGlobals "words_behind" = some (some (.ref f_words_behind)))
   (l_words_behind:K.lookup f_words_behind=some ⟨oc_words_behind,od_words_behind,.func (PySem.W.fnOf "words_behind" "words_behind" (zc1 zg2) (zb1 zg2) (za5 zg2) .none kV_words_behind dc_words_behind pm_words_behind an_words_behind cd_words_behind ct_words_behind),sl_words_behind⟩)
   (c_words_behind:PySem.W.codeIn K cd_words_behind "words_behind" = true) (k_words_behind:PySem.W.keepIn K (.ref f_words_behind)=true)
   (a_read_place:PySem.W.nsIn K mainGlobals "read_place" = some (some (.ref f_read_place)))
   (l_read_place:K.lookup f_read_place=some ⟨oc_read_place,od_read_place,.func (PySem.W.fnOf "read_place" "read_place" (zc1 zi2) (zb1 zi2) (za5 zi2) .none kV_read_place dc_read_place pm_read_place an_read_place cd_read_place ct_read_place),sl_read_place⟩)
   (c_read_place:PySem.W.codeIn K cd_read_place "read_place" = true) (k_read_place:PySem.W.keepIn K (.ref f_read_place)=true)
   (a_read_number:PySem.W.nsIn K mainGlobals "read_number" = some (some (.ref f_read_number)))
   (l_read_number:K.lookup f_read_number=some ⟨oc_read_number,od_read_number,.func (PySem.W.fnOf "read_number" "read_number" (zc1 zh2) (zb1 zh2) (za5 zh2) .none kV_read_number dc_read_number pm_read_number an_read_number cd_read_number ct_read_number),sl_read_number⟩)
   (c_read_number:PySem.W.codeIn K cd_read_number "read_number" = true) (k_read_number:PySem.W.keepIn K (.ref f_read_number)=true)
   (a_is_number:PySem.W.nsIn K mainGlobals "is_number" = some (some (.ref f_is_number)))
   (l_is_number:K.lookup f_is_number=some ⟨oc_is_number,od_is_number,.func (PySem.W.fnOf "is_number" "is_number" (zc1 zg3) (zb1 zg3) (za5 zg3) .none kV_is_number dc_is_number pm_is_number an_is_number cd_is_number ct_is_number),sl_is_number⟩)
   (c_is_number:PySem.W.codeIn K cd_is_number "is_number" = true) (k_is_number:PySem.W.keepIn K (.ref f_is_number)=true)
   (a_w_at:PySem.W.nsIn K mainGlobals "_law_at" = some (some (.ref f_w_at)))
   (l_w_at:K.lookup f_w_at=some ⟨oc_w_at,od_w_at,.func (PySem.W.fnOf "_law_at" "_law_at" (zc1 zx5) (zb1 zx5) (za5 zx5) .none kV_w_at dc_w_at pm_w_at an_w_at cd_w_at ct_w_at),sl_w_at⟩)
   (c_w_at:PySem.W.codeIn K cd_w_at "_law_at" = true) (k_w_at:PySem.W.keepIn K (.ref f_w_at)=true)
   (a_w_whole:PySem.W.nsIn K mainGlobals "_law_whole" = some (some (.ref f_w_whole)))
   (l_w_whole:K.lookup f_w_whole=some ⟨oc_w_whole,od_w_whole,.func (PySem.W.fnOf "_law_whole" "_law_whole" (zc1 zm5) (zb1 zm5) (za5 zm5) .none kV_w_whole dc_w_whole pm_w_whole an_w_whole cd_w_whole ct_w_whole),sl_w_whole⟩)
   (c_w_whole:PySem.W.codeIn K cd_w_whole "_law_whole" = true) (k_w_whole:PySem.W.keepIn K (.ref f_w_whole)=true)
   (a_w_figs:PySem.W.nsIn K mainGlobals "_law_figs" = some (some (.ref f_w_figs)))
   (l_w_figs:K.lookup f_w_figs=some ⟨oc_w_figs,od_w_figs,.func (PySem.W.fnOf "_law_figs" "_law_figs" (zc1 zp4) (zb1 zp4) (za5 zp4) .none kV_w_figs dc_w_figs pm_w_figs an_w_figs cd_w_figs ct_w_figs),sl_w_figs⟩)
   (c_w_figs:PySem.W.codeIn K cd_w_figs "_law_figs" = true) (k_w_figs:PySem.W.keepIn K (.ref f_w_figs)=true)
   (a_w_shape:PySem.W.nsIn K mainGlobals "_law_shape" = some (some (.ref f_w_shape)))
   (l_w_shape:K.lookup f_w_shape=some ⟨oc_w_shape,od_w_shape,.func (PySem.W.fnOf "_law_shape" "_law_shape" (zc1 zj4) (zb1 zj4) (za5 zj4) .none kV_w_shape dc_w_shape pm_w_shape an_w_shape cd_w_shape ct_w_shape),sl_w_shape⟩)
   (c_w_shape:PySem.W.codeIn K cd_w_shape "_law_shape" = true) (k_w_shape:PySem.W.keepIn K (.ref f_w_shape)=true)
   (a_w_put:PySem.W.nsIn K mainGlobals "_law_put" = some (some (.ref f_w_put)))
   (l_w_put:K.lookup f_w_put=some ⟨oc_w_put,od_w_put,.func (PySem.W.fnOf "_law_put" "_law_put" (zc1 zt6) (zb1 zt6) (za5 zt6) .none kV_w_put dc_w_put pm_w_put an_w_put cd_w_put ct_w_put),sl_w_put⟩)
   (c_w_put:PySem.W.codeIn K cd_w_put "_law_put" = true) (k_w_put:PySem.W.keepIn K (.ref f_w_put)=true)
   (a_w_same:PySem.W.nsIn K mainGlobals "_law_same" = some (some (.ref f_w_same)))
   (l_w_same:K.lookup f_w_same=some ⟨oc_w_same,od_w_same,.func (PySem.W.fnOf "_law_same" "_law_same" (zc1 zp5) (zb1 zp5) (za5 zp5) .none kV_w_same dc_w_same pm_w_same an_w_same cd_w_same ct_w_same),sl_w_same⟩)
   (c_w_same:PySem.W.codeIn K cd_w_same "_law_same" = true) (k_w_same:PySem.W.keepIn K (.ref f_w_same)=true)
   (a_w_say:PySem.W.nsIn K mainGlobals "_law_say" = some (some (.ref f_w_say)))
   (l_w_say:K.lookup f_w_say=some ⟨oc_w_say,od_w_say,.func (PySem.W.fnOf "_law_say" "_law_say" (zc1 zt7) (zb1 zt7) (za5 zt7) .none kV_w_say dc_w_say pm_w_say an_w_say cd_w_say ct_w_say),sl_w_say⟩)
   (c_w_say:PySem.W.codeIn K cd_w_say "_law_say" = true) (k_w_say:PySem.W.keepIn K (.ref f_w_say)=true)
   (a_w_number:PySem.W.nsIn K mainGlobals "_law_number" = some (some (.ref f_w_number)))
   (l_w_number:K.lookup f_w_number=some ⟨oc_w_number,od_w_number,.func (PySem.W.fnOf "_law_number" "_law_number" (zc1 zk4) (zb1 zk4) (za5 zk4) .none kV_w_number dc_w_number pm_w_number an_w_number cd_w_number ct_w_number),sl_w_number⟩)
   (c_w_number:PySem.W.codeIn K cd_w_number "_law_number" = true) (k_w_number:PySem.W.keepIn K (.ref f_w_number)=true)
   (a_w_spot:PySem.W.nsIn K mainGlobals "_law_spot" = some (some (.ref f_w_spot)))
   (l_w_spot:K.lookup f_w_spot=some ⟨oc_w_spot,od_w_spot,.func (PySem.W.fnOf "_law_spot" "_law_spot" (zc1 zp6) (zb1 zp6) (za5 zp6) .none kV_w_spot dc_w_spot pm_w_spot an_w_spot cd_w_spot ct_w_spot),sl_w_spot⟩)
   (c_w_spot:PySem.W.codeIn K cd_w_spot "_law_spot" = true) (k_w_spot:PySem.W.keepIn K (.ref f_w_spot)=true)
   (a_w_edit:PySem.W.nsIn K mainGlobals "_law_edit" = some (some (.ref f_w_edit)))
   (l_w_edit:K.lookup f_w_edit=some ⟨oc_w_edit,od_w_edit,.func (PySem.W.fnOf "_law_edit" "_law_edit" (zc1 zp7) (zb1 zp7) (za5 zp7) .none kV_w_edit dc_w_edit pm_w_edit an_w_edit cd_w_edit ct_w_edit),sl_w_edit⟩)
   (c_w_edit:PySem.W.codeIn K cd_w_edit "_law_edit" = true) (k_w_edit:PySem.W.keepIn K (.ref f_w_edit)=true)
   (a_w_spell:PySem.W.nsIn K mainGlobals "_law_spell" = some (some (.ref f_w_spell)))
   (l_w_spell:K.lookup f_w_spell=some ⟨oc_w_spell,od_w_spell,.func (PySem.W.fnOf "_law_spell" "_law_spell" (zc1 zm6) (zb1 zm6) (za5 zm6) .none kV_w_spell dc_w_spell pm_w_spell an_w_spell cd_w_spell ct_w_spell),sl_w_spell⟩)
   (c_w_spell:PySem.W.codeIn K cd_w_spell "_law_spell" = true) (k_w_spell:PySem.W.keepIn K (.ref f_w_spell)=true)
   (a_w_menu:PySem.W.nsIn K mainGlobals "_law_menu" = some (some (.ref f_w_menu)))
   (l_w_menu:K.lookup f_w_menu=some ⟨oc_w_menu,od_w_menu,.func (PySem.W.fnOf "_law_menu" "_law_menu" (zc1 zl2) (zb1 zl2) (za5 zl2) .none kV_w_menu dc_w_menu pm_w_menu an_w_menu cd_w_menu ct_w_menu),sl_w_menu⟩)
   (c_w_menu:PySem.W.codeIn K cd_w_menu "_law_menu" = true) (k_w_menu:PySem.W.keepIn K (.ref f_w_menu)=true)
   (a_w_is_standing:PySem.W.nsIn K mainGlobals "_law_is_standing" = some (some (.ref f_w_is_standing)))
   (l_w_is_standing:K.lookup f_w_is_standing=some ⟨oc_w_is_standing,od_w_is_standing,.func (PySem.W.fnOf "_law_is_standing" "_law_is_standing" (zc1 zf3) (zb1 zf3) (za5 zf3) .none kV_w_is_standing dc_w_is_standing pm_w_is_standing an_w_is_standing cd_w_is_standing ct_w_is_standing),sl_w_is_standing⟩)
   (c_w_is_standing:PySem.W.codeIn K cd_w_is_standing "_law_is_standing" = true) (k_w_is_standing:PySem.W.keepIn K (.ref f_w_is_standing)=true)
   (a_w_rows:PySem.W.nsIn K mainGlobals "_law_rows" = some (some (.ref f_w_rows)))
   (l_w_rows:K.lookup f_w_rows=some ⟨oc_w_rows,od_w_rows,.func (PySem.W.fnOf "_law_rows" "_law_rows" (zc1 zl3) (zb1 zl3) (za5 zl3) .none kV_w_rows dc_w_rows pm_w_rows an_w_rows cd_w_rows ct_w_rows),sl_w_rows⟩)
   (c_w_rows:PySem.W.codeIn K cd_w_rows "_law_rows" = true) (k_w_rows:PySem.W.keepIn K (.ref f_w_rows)=true)
   (a_w_rows_changed:PySem.W.nsIn K mainGlobals "_law_rows_changed" = some (some (.ref f_w_rows_changed)))
   (l_w_rows_changed:K.lookup f_w_rows_changed=some ⟨oc_w_rows_changed,od_w_rows_changed,.func (PySem.W.fnOf "_law_rows_changed" "_law_rows_changed" (zc1 zf1) (zb1 zf1) (za5 zf1) .none kV_w_rows_changed dc_w_rows_changed pm_w_rows_changed an_w_rows_changed cd_w_rows_changed ct_w_rows_changed),sl_w_rows_changed⟩)
   (c_w_rows_changed:PySem.W.codeIn K cd_w_rows_changed "_law_rows_changed" = true) (k_w_rows_changed:PySem.W.keepIn K (.ref f_w_rows_changed)=true)
   (a_w_parsed:PySem.W.nsIn K mainGlobals "_law_parsed" = some (some (.ref f_w_parsed)))
   (l_w_parsed:K.lookup f_w_parsed=some ⟨oc_w_parsed,od_w_parsed,.func (PySem.W.fnOf "_law_parsed" "_law_parsed" (zc1 zk5) (zb1 zk5) (za5 zk5) .none kV_w_parsed dc_w_parsed pm_w_parsed an_w_parsed cd_w_parsed ct_w_parsed),sl_w_parsed⟩)
   (c_w_parsed:PySem.W.codeIn K cd_w_parsed "_law_parsed" = true) (k_w_parsed:PySem.W.keepIn K (.ref f_w_parsed)=true)
   (a_w_sized:PySem.W.nsIn K mainGlobals "_law_sized" = some (some (.ref f_w_sized)))
   (l_w_sized:K.lookup f_w_sized=some ⟨oc_w_sized,od_w_sized,.func (PySem.W.fnOf "_law_sized" "_law_sized" (zc1 zm7) (zb1 zm7) (za5 zm7) .none kV_w_sized dc_w_sized pm_w_sized an_w_sized cd_w_sized ct_w_sized),sl_w_sized⟩)
   (c_w_sized:PySem.W.codeIn K cd_w_sized "_law_sized" = true) (k_w_sized:PySem.W.keepIn K (.ref f_w_sized)=true)
   (a_w_told:PySem.W.nsIn K mainGlobals "_law_told" = some (some (.ref f_w_told)))
   (l_w_told:K.lookup f_w_told=some ⟨oc_w_told,od_w_told,.func (PySem.W.fnOf "_law_told" "_law_told" (zc1 zp8) (zb1 zp8) (za5 zp8) .none kV_w_told dc_w_told pm_w_told an_w_told cd_w_told ct_w_told),sl_w_told⟩)
   (c_w_told:PySem.W.codeIn K cd_w_told "_law_told" = true) (k_w_told:PySem.W.keepIn K (.ref f_w_told)=true)
   (a_law:PySem.W.nsIn K mainGlobals "law" = some (some (.ref f_law)))
   (l_law:K.lookup f_law=some ⟨oc_law,od_law,.func (PySem.W.fnOf "law" "law" (zc1 zC3) (zb1 zC3) (za5 zC3) .none kV_law dc_law pm_law an_law cd_law ct_law),sl_law⟩)
   (c_law:PySem.W.codeIn K cd_law "law" = true) (k_law:PySem.W.keepIn K (.ref f_law)=true)
   (pg_Beam:PySem.W.plainGet K C_Beam Str.empty=true) (hd_Beam:PySem.W.hasDictIn K C_Beam=true) (po_Beam:PySem.W.plainOver K C_Beam=true) (sa_Beam:PySem.W.findIn K (.ref C_Beam) "__setattr__" = some (some (.builtin "object.__setattr__"))) (mk_Beam:PySem.W.makesIn K C_Beam=true) (kc_Beam:PySem.W.keepIn K (.ref C_Beam)=true)
   (na_Beam_notches:PySem.W.findIn K (.ref C_Beam) "notches" = some none)
   (na_Beam_room:PySem.W.findIn K (.ref C_Beam) "room" = some none)
   (na_Beam_hefts:PySem.W.findIn K (.ref C_Beam) "hefts" = some none)
   (na_Beam_limit:PySem.W.findIn K (.ref C_Beam) "limit" = some none)
   (ob_BadBeam:K.lookup C_BadBeam=some (excClassObj nm_BadBeam qn_BadBeam C_BadBeam N_BadBeam bs_BadBeam bm_BadBeam true sn_BadBeam sub_BadBeam ab_BadBeam col_BadBeam dd_BadBeam k0_BadBeam k1_BadBeam k2_BadBeam k3_BadBeam k5_BadBeam "ValueError.__new__")) (mv_BadBeam:MroV bm_BadBeam) (sa_BadBeam:PySem.W.findIn K (.ref C_BadBeam) "__setattr__" = some (some (.builtin "object.__setattr__"))) (kc_BadBeam:PySem.W.keepIn K (.ref C_BadBeam)=true)
   (ob_BadStanding:K.lookup C_BadStanding=some (excClassObj nm_BadStanding qn_BadStanding C_BadStanding N_BadStanding bs_BadStanding bm_BadStanding true sn_BadStanding sub_BadStanding ab_BadStanding col_BadStanding dd_BadStanding k0_BadStanding k1_BadStanding k2_BadStanding k3_BadStanding k5_BadStanding "ValueError.__new__")) (mv_BadStanding:MroV bm_BadStanding) (sa_BadStanding:PySem.W.findIn K (.ref C_BadStanding) "__setattr__" = some (some (.builtin "object.__setattr__"))) (kc_BadStanding:PySem.W.keepIn K (.ref C_BadStanding)=true)
   (ob_BadText:K.lookup C_BadText=some (excClassObj nm_BadText qn_BadText C_BadText N_BadText bs_BadText bm_BadText true sn_BadText sub_BadText ab_BadText col_BadText dd_BadText k0_BadText k1_BadText k2_BadText k3_BadText k5_BadText "ValueError.__new__")) (mv_BadText:MroV bm_BadText) (sa_BadText:PySem.W.findIn K (.ref C_BadText) "__setattr__" = some (some (.builtin "object.__setattr__"))) (kc_BadText:PySem.W.keepIn K (.ref C_BadText)=true)
   (na_BadBeam_reason:PySem.W.findIn K (.ref C_BadBeam) "reason" = some none)
   (na_BadBeam_word:PySem.W.findIn K (.ref C_BadBeam) "word" = some none)
   (na_BadStanding_reason:PySem.W.findIn K (.ref C_BadStanding) "reason" = some none)
   (na_BadStanding_word:PySem.W.findIn K (.ref C_BadStanding) "word" = some none)
   (na_BadText_reason:PySem.W.findIn K (.ref C_BadText) "reason" = some none)
   (na_BadText_word:PySem.W.findIn K (.ref C_BadText) "word" = some none)
   (cx_BadText:PySem.W.clsIn K C_BadText=some cdx_BadText) (ty_BadText:PySem.W.typeIn K (.ref C_BadText)=some (.type "type")) (be_BadText:PySem.W.subIn K (.ref C_BadText) (.type "BaseException")=some true)
   (cx_BadBeam:PySem.W.clsIn K C_BadBeam=some cdx_BadBeam) (ty_BadBeam:PySem.W.typeIn K (.ref C_BadBeam)=some (.type "type")) (be_BadBeam:PySem.W.subIn K (.ref C_BadBeam) (.type "BaseException")=some true)
   (cx_BadStanding:PySem.W.clsIn K C_BadStanding=some cdx_BadStanding) (ty_BadStanding:PySem.W.typeIn K (.ref C_BadStanding)=some (.type "type")) (be_BadStanding:PySem.W.subIn K (.ref C_BadStanding) (.type "BaseException")=some true)
   (sb_BadBeam_BadText:PySem.W.subIn K (.ref C_BadBeam) (.ref C_BadText)=some false)
   (sb_BadBeam_BadBeam:PySem.W.subIn K (.ref C_BadBeam) (.ref C_BadBeam)=some true)
   (sb_BadBeam_BadStanding:PySem.W.subIn K (.ref C_BadBeam) (.ref C_BadStanding)=some false)
   (sb_BadStanding_BadText:PySem.W.subIn K (.ref C_BadStanding) (.ref C_BadText)=some false)
   (sb_BadStanding_BadBeam:PySem.W.subIn K (.ref C_BadStanding) (.ref C_BadBeam)=some false)
   (sb_BadStanding_BadStanding:PySem.W.subIn K (.ref C_BadStanding) (.ref C_BadStanding)=some true)
   (sb_BadText_BadText:PySem.W.subIn K (.ref C_BadText) (.ref C_BadText)=some true)
   (sb_BadText_BadBeam:PySem.W.subIn K (.ref C_BadText) (.ref C_BadBeam)=some false)
   (sb_BadText_BadStanding:PySem.W.subIn K (.ref C_BadText) (.ref C_BadStanding)=some false)
   (ga_BeamError:PySem.W.specialIn K (.ref C_BeamError) "__getattribute__" = some (some (.builtin "type.__getattribute__"))) (rd_BeamError:PySem.W.readsIn K C_BeamError (.type "type")=true) (fd_BeamError:PySem.W.findCls K (.ref C_BeamError) (.type "type") "__init__" = some (.val (.ref f_BeamError_init)))
   (ic0_Beam:PySem.W.findIn K (.ref C_Beam) "__class__" = some (some (.builtin "object.__class__")))
   (ic1_Beam:PySem.W.specialIn K (.builtin "object.__class__") "__get__" = some (some (.builtin "getset_descriptor.__get__")))
   (ic2_Beam:PySem.W.takesIn K (.builtin "object.__class__")=some true)
   (ic3_Beam:PySem.W.mroIn K C_Beam (.type "object")=some true)
   (n_tuple:PySem.W.nsIn K mainGlobals "tuple" = some none)
   (n_len:PySem.W.nsIn K mainGlobals "len" = some none)
   (n_range:PySem.W.nsIn K mainGlobals "range" = some none)
   (n_int:PySem.W.nsIn K mainGlobals "int" = some none)
   (n_all:PySem.W.nsIn K mainGlobals "all" = some none)
   (n_isinstance:PySem.W.nsIn K mainGlobals "isinstance" = some none)
   (n_bool:PySem.W.nsIn K mainGlobals "bool" = some none)
   (n_min:PySem.W.nsIn K mainGlobals "min" = some none)
   (n_str:PySem.W.nsIn K mainGlobals "str" = some none)
   (n_max:PySem.W.nsIn K mainGlobals "max" = some none)
   (g_MOST_NOTCHES:PySem.W.nsIn K mainGlobals "MOST_NOTCHES" = some (some (.int 4 q_MOST_NOTCHES)))
   (g_MOST_ROOM:PySem.W.nsIn K mainGlobals "MOST_ROOM" = some (some (.int 3 q_MOST_ROOM)))
   (g_MOST_LIMIT:PySem.W.nsIn K mainGlobals "MOST_LIMIT" = some (some (.int 400 q_MOST_LIMIT)))
   (g_MOST_WEIGHTS:PySem.W.nsIn K mainGlobals "MOST_WEIGHTS" = some (some (.int 5 q_MOST_WEIGHTS)))
   (g_MOST_HEFT:PySem.W.nsIn K mainGlobals "MOST_HEFT" = some (some (.int 20 q_MOST_HEFT)))
   (g_MOST_STANDINGS:PySem.W.nsIn K mainGlobals "MOST_STANDINGS" = some (some (.int 1000 q_MOST_STANDINGS)))
   (g_MOST_FIGURES:PySem.W.nsIn K mainGlobals "MOST_FIGURES" = some (some (.int 4 q_MOST_FIGURES)))
   (g_FIGURES:PySem.W.nsIn K mainGlobals "FIGURES" = some (some (.str (Str.ofString "0123456789") q_FIGURES))) :
   ∃ fd:FuncData,(∀ (s:Shared) (v:Value),BindsTo s fd ⟨[v],[]⟩ [("_law_script",v)])/\∀ base:Heap,K.In base->base.Ns mainGlobals mg->FnOk l.prog w K mg base CX0 9 fa fd ["_law_script"] (zG7 K):=by
 have e:=hfa.symm.trans (PySem.W.mg_of X G a_law)
 cases e
 have F_BeamError_init:=zy9 (st:=zd1) l_BeamError_init c_BeamError_init k_BeamError_init
 have b_BeamError_init:zc9 K _ ["self","reason","word"] []:=fun s us X hl=>by
   rw[List.append_nil] at hl ⊢
   match us,hl with
   | [_,_,_],_=>exact BindsTo.of_defaults (fd:=PySem.W.fnOf "__init__" "BeamError.__init__" (zc1 zd1) (zb1 zd1) (za5 zd1) (.ref T_BeamError_init) kV_BeamError_init dc_BeamError_init pm_BeamError_init an_BeamError_init cd_BeamError_init ct_BeamError_init) rfl (X _ _ dt_BeamError_init) rfl rfl rfl
 have F_BadBeam_init:=zy9 (st:=zd8) l_BadBeam_init c_BadBeam_init k_BadBeam_init
 have b_BadBeam_init:zc9 K _ ["self","reason"] []:=fun s us X hl=>by
   rw[List.append_nil] at hl ⊢
   match us,hl with
   | [_,_],_=>exact BindsTo.of_defaults (fd:=PySem.W.fnOf "__init__" "BadBeam.__init__" (zc1 zd8) (zb1 zd8) (za5 zd8) (.ref T_BadBeam_init) kV_BadBeam_init dc_BadBeam_init pm_BadBeam_init an_BadBeam_init cd_BadBeam_init ct_BadBeam_init) rfl (X _ _ dt_BadBeam_init) rfl rfl rfl
 have F_BadStanding_init:=zy9 (st:=zc8) l_BadStanding_init c_BadStanding_init k_BadStanding_init
 have b_BadStanding_init:zc9 K _ ["self","reason"] []:=fun s us X hl=>by
   rw[List.append_nil] at hl ⊢
   match us,hl with
   | [_,_],_=>exact BindsTo.of_defaults (fd:=PySem.W.fnOf "__init__" "BadStanding.__init__" (zc1 zc8) (zb1 zc8) (za5 zc8) (.ref T_BadStanding_init) kV_BadStanding_init dc_BadStanding_init pm_BadStanding_init an_BadStanding_init cd_BadStanding_init ct_BadStanding_init) rfl (X _ _ dt_BadStanding_init) rfl rfl rfl
 have F_BadText_init:=zy9 (st:=zd9) l_BadText_init c_BadText_init k_BadText_init
 have b_BadText_init:zc9 K _ ["self","reason"] []:=fun s us X hl=>by
   rw[List.append_nil] at hl ⊢
   match us,hl with
   | [_,_],_=>exact BindsTo.of_defaults (fd:=PySem.W.fnOf "__init__" "BadText.__init__" (zc1 zd9) (zb1 zd9) (za5 zd9) (.ref T_BadText_init) kV_BadText_init dc_BadText_init pm_BadText_init an_BadText_init cd_BadText_init ct_BadText_init) rfl (X _ _ dt_BadText_init) rfl rfl rfl
 have F_Beam_init:=zd5 (st:=zj3) l_Beam_init c_Beam_init k_Beam_init
 have b_Beam_init:=F_Beam_init.binds (ps:=["self","notches","room","hefts","limit"]) fun _ _ _ _ _ _ us hl=>by obtain ⟨x0,x1,x2,x3,x4,rfl⟩:=ar5 hl;rfl
 have F_outside:=zd5 (st:=zm4) l_outside c_outside k_outside
 have b_outside:=F_outside.binds (ps:=["number","low","high"]) fun _ _ _ _ _ _ us hl=>by obtain ⟨x0,x1,x2,rfl⟩:=ar3 hl;rfl
 have F_check_bounds:=zd5 (st:=zg1) l_check_bounds c_check_bounds k_check_bounds
 have b_check_bounds:=F_check_bounds.binds (ps:=["notches","room","limit"]) fun _ _ _ _ _ _ us hl=>by obtain ⟨x0,x1,x2,rfl⟩:=ar3 hl;rfl
 have F_check_hefts:=zd5 (st:=zg9) l_check_hefts c_check_hefts k_check_hefts
 have b_check_hefts:=F_check_hefts.binds (ps:=["hefts"]) fun _ _ _ _ _ _ us hl=>by obtain ⟨x0,rfl⟩:=ar1 hl;rfl
 have F_check_standings:=zd5 (st:=ze6) l_check_standings c_check_standings k_check_standings
 have b_check_standings:=F_check_standings.binds (ps:=["notches","weights"]) fun _ _ _ _ _ _ us hl=>by obtain ⟨x0,x1,rfl⟩:=ar2 hl;rfl
 have F_as_standing:=zd5 (st:=zh0) l_as_standing c_as_standing k_as_standing
 have b_as_standing:=F_as_standing.binds (ps:=["beam","standing"]) fun _ _ _ _ _ _ us hl=>by obtain ⟨x0,x1,rfl⟩:=ar2 hl;rfl
 have F_read_beam:=zd5 (st:=ze0) l_read_beam c_read_beam k_read_beam
 have b_read_beam:=F_read_beam.binds (ps:=["text"]) fun _ _ _ _ _ _ us hl=>by obtain ⟨x0,rfl⟩:=ar1 hl;rfl
 have F_read_weight:=zd5 (st:=zh1) l_read_weight c_read_weight k_read_weight
 have b_read_weight:=F_read_weight.binds (ps:=["row"]) fun _ _ _ _ _ _ us hl=>by obtain ⟨x0,rfl⟩:=ar1 hl;rfl
 have F_words_behind:=zd5 (st:=zg2) l_words_behind c_words_behind k_words_behind
 have b_words_behind:=F_words_behind.binds (ps:=["front","row","many"]) fun _ _ _ _ _ _ us hl=>by obtain ⟨x0,x1,x2,rfl⟩:=ar3 hl;rfl
 have F_read_place:=zd5 (st:=zi2) l_read_place c_read_place k_read_place
 have b_read_place:=F_read_place.binds (ps:=["text"]) fun _ _ _ _ _ _ us hl=>by obtain ⟨x0,rfl⟩:=ar1 hl;rfl
 have F_read_number:=zd5 (st:=zh2) l_read_number c_read_number k_read_number
 have b_read_number:=F_read_number.binds (ps:=["text"]) fun _ _ _ _ _ _ us hl=>by obtain ⟨x0,rfl⟩:=ar1 hl;rfl
 have F_is_number:=zd5 (st:=zg3) l_is_number c_is_number k_is_number
 have b_is_number:=F_is_number.binds (ps:=["text"]) fun _ _ _ _ _ _ us hl=>by obtain ⟨x0,rfl⟩:=ar1 hl;rfl
 have F_w_at:=zd5 (st:=zx5) l_w_at c_w_at k_w_at
 have b_w_at:=F_w_at.binds (ps:=["_law_script","_law_k"]) fun _ _ _ _ _ _ us hl=>by obtain ⟨x0,x1,rfl⟩:=ar2 hl;rfl
 have F_w_whole:=zd5 (st:=zm5) l_w_whole c_w_whole k_w_whole
 have b_w_whole:=F_w_whole.binds (ps:=["_law_found"]) fun _ _ _ _ _ _ us hl=>by obtain ⟨x0,rfl⟩:=ar1 hl;rfl
 have F_w_figs:=zd5 (st:=zp4) l_w_figs c_w_figs k_w_figs
 have b_w_figs:=F_w_figs.binds (ps:=["_law_cell","_law_count","_law_base","_law_mix"]) fun _ _ _ _ _ _ us hl=>by obtain ⟨x0,x1,x2,x3,rfl⟩:=ar4 hl;rfl
 have F_w_shape:=zd5 (st:=zj4) l_w_shape c_w_shape k_w_shape
 have b_w_shape:=F_w_shape.binds (ps:=["_law_script"]) fun _ _ _ _ _ _ us hl=>by obtain ⟨x0,rfl⟩:=ar1 hl;rfl
 have F_w_put:=zd5 (st:=zt6) l_w_put c_w_put k_w_put
 have b_w_put:=F_w_put.binds (ps:=["_law_script","_law_k","_law_more","_law_shape_here"]) fun _ _ _ _ _ _ us hl=>by obtain ⟨x0,x1,x2,x3,rfl⟩:=ar4 hl;rfl
 have F_w_same:=zd5 (st:=zp5) l_w_same c_w_same k_w_same
 have b_w_same:=F_w_same.binds (ps:=["_law_found","_law_due"]) fun _ _ _ _ _ _ us hl=>by obtain ⟨x0,x1,rfl⟩:=ar2 hl;rfl
 have F_w_say:=zd5 (st:=zt7) l_w_say c_w_say k_w_say
 have b_w_say:=F_w_say.binds (ps:=["_law_place"]) fun _ _ _ _ _ _ us hl=>by obtain ⟨x0,rfl⟩:=ar1 hl;rfl
 have F_w_number:=zd5 (st:=zk4) l_w_number c_w_number k_w_number
 have b_w_number:=F_w_number.binds (ps:=["_law_word"]) fun _ _ _ _ _ _ us hl=>by obtain ⟨x0,rfl⟩:=ar1 hl;rfl
 have F_w_spot:=zd5 (st:=zp6) l_w_spot c_w_spot k_w_spot
 have b_w_spot:=F_w_spot.binds (ps:=["_law_word"]) fun _ _ _ _ _ _ us hl=>by obtain ⟨x0,rfl⟩:=ar1 hl;rfl
 have F_w_edit:=zd5 (st:=zp7) l_w_edit c_w_edit k_w_edit
 have b_w_edit:=F_w_edit.binds (ps:=["_law_text","_law_cell"]) fun _ _ _ _ _ _ us hl=>by obtain ⟨x0,x1,rfl⟩:=ar2 hl;rfl
 have F_w_spell:=zd5 (st:=zm6) l_w_spell c_w_spell k_w_spell
 have b_w_spell:=F_w_spell.binds (ps:=["_law_cell","_law_count"]) fun _ _ _ _ _ _ us hl=>by obtain ⟨x0,x1,rfl⟩:=ar2 hl;rfl
 have F_w_menu:=zd5 (st:=zl2) l_w_menu c_w_menu k_w_menu
 have b_w_menu:=F_w_menu.binds (ps:=["_law_cell"]) fun _ _ _ _ _ _ us hl=>by obtain ⟨x0,rfl⟩:=ar1 hl;rfl
 have F_w_is_standing:=zd5 (st:=zf3) l_w_is_standing c_w_is_standing k_w_is_standing
 have b_w_is_standing:=F_w_is_standing.binds (ps:=["_law_notches","_law_room","_law_count","_law_spots"]) fun _ _ _ _ _ _ us hl=>by obtain ⟨x0,x1,x2,x3,rfl⟩:=ar4 hl;rfl
 have F_w_rows:=zd5 (st:=zl3) l_w_rows c_w_rows k_w_rows
 have b_w_rows:=F_w_rows.binds (ps:=["_law_script"]) fun _ _ _ _ _ _ us hl=>by obtain ⟨x0,rfl⟩:=ar1 hl;rfl
 have F_w_rows_changed:=zd5 (st:=zf1) l_w_rows_changed c_w_rows_changed k_w_rows_changed
 have b_w_rows_changed:=F_w_rows_changed.binds (ps:=["_law_rows_here","_law_cell"]) fun _ _ _ _ _ _ us hl=>by obtain ⟨x0,x1,rfl⟩:=ar2 hl;rfl
 have F_w_parsed:=zd5 (st:=zk5) l_w_parsed c_w_parsed k_w_parsed
 have b_w_parsed:=F_w_parsed.binds (ps:=["_law_text"]) fun _ _ _ _ _ _ us hl=>by obtain ⟨x0,rfl⟩:=ar1 hl;rfl
 have F_w_sized:=zd5 (st:=zm7) l_w_sized c_w_sized k_w_sized
 have b_w_sized:=F_w_sized.binds (ps:=["_law_read"]) fun _ _ _ _ _ _ us hl=>by obtain ⟨x0,rfl⟩:=ar1 hl;rfl
 have F_w_told:=zd5 (st:=zp8) l_w_told c_w_told k_w_told
 have b_w_told:=F_w_told.binds (ps:=["_law_text"]) fun _ _ _ _ _ _ us hl=>by obtain ⟨x0,rfl⟩:=ar1 hl;rfl
 have F_law:=zd5 (st:=zC3) l_law c_law k_law
 have b_law:=F_law.binds (ps:=["_law_script"]) fun _ _ _ _ _ _ us hl=>by obtain ⟨x0,rfl⟩:=ar1 hl;rfl
 have T:Txt K mg { a_BeamError_init:=f_BeamError_init,d_BeamError_init:=_,a_BadBeam_init:=f_BadBeam_init,d_BadBeam_init:=_,a_BadStanding_init:=f_BadStanding_init,d_BadStanding_init:=_,a_BadText_init:=f_BadText_init,d_BadText_init:=_,a_Beam_init:=f_Beam_init,d_Beam_init:=_,a_outside:=f_outside,d_outside:=_,a_check_bounds:=f_check_bounds,d_check_bounds:=_,a_check_hefts:=f_check_hefts,d_check_hefts:=_,a_check_standings:=f_check_standings,d_check_standings:=_,a_as_standing:=f_as_standing,d_as_standing:=_,a_read_beam:=f_read_beam,d_read_beam:=_,a_read_weight:=f_read_weight,d_read_weight:=_,a_words_behind:=f_words_behind,d_words_behind:=_,a_read_place:=f_read_place,d_read_place:=_,a_read_number:=f_read_number,d_read_number:=_,a_is_number:=f_is_number,d_is_number:=_,a_w_at:=f_w_at,d_w_at:=_,a_w_whole:=f_w_whole,d_w_whole:=_,a_w_figs:=f_w_figs,d_w_figs:=_,a_w_shape:=f_w_shape,d_w_shape:=_,a_w_put:=f_w_put,d_w_put:=_,a_w_same:=f_w_same,d_w_same:=_,a_w_say:=f_w_say,d_w_say:=_,a_w_number:=f_w_number,d_w_number:=_,a_w_spot:=f_w_spot,d_w_spot:=_,a_w_edit:=f_w_edit,d_w_edit:=_,a_w_spell:=f_w_spell,d_w_spell:=_,a_w_menu:=f_w_menu,d_w_menu:=_,a_w_is_standing:=f_w_is_standing,d_w_is_standing:=_,a_w_rows:=f_w_rows,d_w_rows:=_,a_w_rows_changed:=f_w_rows_changed,d_w_rows_changed:=_,a_w_parsed:=f_w_parsed,d_w_parsed:=_,a_w_sized:=f_w_sized,d_w_sized:=_,a_w_told:=f_w_told,d_w_told:=_,a_law:=fa,d_law:=_,c_Beam:=C_Beam,c_BadBeam:=C_BadBeam,c_BadStanding:=C_BadStanding,c_BadText:=C_BadText,c_BeamError:=C_BeamError,q_MOST_NOTCHES:=q_MOST_NOTCHES,q_MOST_ROOM:=q_MOST_ROOM,q_MOST_LIMIT:=q_MOST_LIMIT,q_MOST_WEIGHTS:=q_MOST_WEIGHTS,q_MOST_HEFT:=q_MOST_HEFT,q_MOST_STANDINGS:=q_MOST_STANDINGS,q_MOST_FIGURES:=q_MOST_FIGURES,q_FIGURES:=q_FIGURES }:={ F_BeamError_init:=F_BeamError_init,b_BeamError_init:=b_BeamError_init,k_BeamError_init:=k_BeamError_init,F_BadBeam_init:=F_BadBeam_init,b_BadBeam_init:=b_BadBeam_init,k_BadBeam_init:=k_BadBeam_init,F_BadStanding_init:=F_BadStanding_init,b_BadStanding_init:=b_BadStanding_init,k_BadStanding_init:=k_BadStanding_init,F_BadText_init:=F_BadText_init,b_BadText_init:=b_BadText_init,k_BadText_init:=k_BadText_init,F_Beam_init:=F_Beam_init,b_Beam_init:=b_Beam_init,k_Beam_init:=k_Beam_init,F_outside:=F_outside,b_outside:=b_outside,m_outside:=PySem.W.mg_of X G a_outside,k_outside:=k_outside,F_check_bounds:=F_check_bounds,b_check_bounds:=b_check_bounds,m_check_bounds:=PySem.W.mg_of X G a_check_bounds,k_check_bounds:=k_check_bounds,F_check_hefts:=F_check_hefts,b_check_hefts:=b_check_hefts,m_check_hefts:=PySem.W.mg_of X G a_check_hefts,k_check_hefts:=k_check_hefts,F_check_standings:=F_check_standings,b_check_standings:=b_check_standings,m_check_standings:=PySem.W.mg_of X G a_check_standings,k_check_standings:=k_check_standings,F_as_standing:=F_as_standing,b_as_standing:=b_as_standing,m_as_standing:=PySem.W.mg_of X G a_as_standing,k_as_standing:=k_as_standing,F_read_beam:=F_read_beam,b_read_beam:=b_read_beam,m_read_beam:=PySem.W.mg_of X G a_read_beam,k_read_beam:=k_read_beam,F_read_weight:=F_read_weight,b_read_weight:=b_read_weight,m_read_weight:=PySem.W.mg_of X G a_read_weight,k_read_weight:=k_read_weight,F_words_behind:=F_words_behind,b_words_behind:=b_words_behind,m_words_behind:=PySem.W.mg_of X G a_words_behind,k_words_behind:=k_words_behind,F_read_place:=F_read_place,b_read_place:=b_read_place,m_read_place:=PySem.W.mg_of X G a_read_place,k_read_place:=k_read_place,F_read_number:=F_read_number,b_read_number:=b_read_number,m_read_number:=PySem.W.mg_of X G a_read_number,k_read_number:=k_read_number,F_is_number:=F_is_number,b_is_number:=b_is_number,m_is_number:=PySem.W.mg_of X G a_is_number,k_is_number:=k_is_number,F_w_at:=F_w_at,b_w_at:=b_w_at,m_w_at:=PySem.W.mg_of X G a_w_at,k_w_at:=k_w_at,F_w_whole:=F_w_whole,b_w_whole:=b_w_whole,m_w_whole:=PySem.W.mg_of X G a_w_whole,k_w_whole:=k_w_whole,F_w_figs:=F_w_figs,b_w_figs:=b_w_figs,m_w_figs:=PySem.W.mg_of X G a_w_figs,k_w_figs:=k_w_figs,F_w_shape:=F_w_shape,b_w_shape:=b_w_shape,m_w_shape:=PySem.W.mg_of X G a_w_shape,k_w_shape:=k_w_shape,F_w_put:=F_w_put,b_w_put:=b_w_put,m_w_put:=PySem.W.mg_of X G a_w_put,k_w_put:=k_w_put,F_w_same:=F_w_same,b_w_same:=b_w_same,m_w_same:=PySem.W.mg_of X G a_w_same,k_w_same:=k_w_same,F_w_say:=F_w_say,b_w_say:=b_w_say,m_w_say:=PySem.W.mg_of X G a_w_say,k_w_say:=k_w_say,F_w_number:=F_w_number,b_w_number:=b_w_number,m_w_number:=PySem.W.mg_of X G a_w_number,k_w_number:=k_w_number,F_w_spot:=F_w_spot,b_w_spot:=b_w_spot,m_w_spot:=PySem.W.mg_of X G a_w_spot,k_w_spot:=k_w_spot,F_w_edit:=F_w_edit,b_w_edit:=b_w_edit,m_w_edit:=PySem.W.mg_of X G a_w_edit,k_w_edit:=k_w_edit,F_w_spell:=F_w_spell,b_w_spell:=b_w_spell,m_w_spell:=PySem.W.mg_of X G a_w_spell,k_w_spell:=k_w_spell,F_w_menu:=F_w_menu,b_w_menu:=b_w_menu,m_w_menu:=PySem.W.mg_of X G a_w_menu,k_w_menu:=k_w_menu,F_w_is_standing:=F_w_is_standing,b_w_is_standing:=b_w_is_standing,m_w_is_standing:=PySem.W.mg_of X G a_w_is_standing,k_w_is_standing:=k_w_is_standing,F_w_rows:=F_w_rows,b_w_rows:=b_w_rows,m_w_rows:=PySem.W.mg_of X G a_w_rows,k_w_rows:=k_w_rows,F_w_rows_changed:=F_w_rows_changed,b_w_rows_changed:=b_w_rows_changed,m_w_rows_changed:=PySem.W.mg_of X G a_w_rows_changed,k_w_rows_changed:=k_w_rows_changed,F_w_parsed:=F_w_parsed,b_w_parsed:=b_w_parsed,m_w_parsed:=PySem.W.mg_of X G a_w_parsed,k_w_parsed:=k_w_parsed,F_w_sized:=F_w_sized,b_w_sized:=b_w_sized,m_w_sized:=PySem.W.mg_of X G a_w_sized,k_w_sized:=k_w_sized,F_w_told:=F_w_told,b_w_told:=b_w_told,m_w_told:=PySem.W.mg_of X G a_w_told,k_w_told:=k_w_told,F_law:=F_law,b_law:=b_law,m_law:=PySem.W.mg_of X G a_law,k_law:=k_law,cl_Beam:=⟨pg_Beam,hd_Beam,po_Beam,sa_Beam⟩,m_Beam:=PySem.W.mg_of X G a_Beam,mk_Beam:=⟨mk_Beam,a_Beam_init,i_Beam_init,kc_Beam⟩,na_Beam_notches:=na_Beam_notches,na_Beam_room:=na_Beam_room,na_Beam_hefts:=na_Beam_hefts,na_Beam_limit:=na_Beam_limit,ic_Beam:=⟨ic0_Beam,ic1_Beam,ic2_Beam,ic3_Beam⟩,m_BadBeam:=PySem.W.mg_of X G a_BadBeam,m_BadStanding:=PySem.W.mg_of X G a_BadStanding,m_BadText:=PySem.W.mg_of X G a_BadText,m_BeamError:=PySem.W.mg_of X G a_BeamError,x_BadBeam:=⟨⟨_,_,_,_,_,_,_,_,_,_,_,_,_,_,_,ob_BadBeam,mv_BadBeam⟩,sa_BadBeam,kc_BadBeam⟩,x_BadStanding:=⟨⟨_,_,_,_,_,_,_,_,_,_,_,_,_,_,_,ob_BadStanding,mv_BadStanding⟩,sa_BadStanding,kc_BadStanding⟩,x_BadText:=⟨⟨_,_,_,_,_,_,_,_,_,_,_,_,_,_,_,ob_BadText,mv_BadText⟩,sa_BadText,kc_BadText⟩,i_BadBeam:=a_BadBeam_init,if_BadBeam:=i_BadBeam_init,na_BadBeam_reason:=na_BadBeam_reason,na_BadBeam_word:=na_BadBeam_word,i_BadStanding:=a_BadStanding_init,if_BadStanding:=i_BadStanding_init,na_BadStanding_reason:=na_BadStanding_reason,na_BadStanding_word:=na_BadStanding_word,i_BadText:=a_BadText_init,if_BadText:=i_BadText_init,na_BadText_reason:=na_BadText_reason,na_BadText_word:=na_BadText_word,xm_BadBeam_BadText:=zq6 be_BadText (by rw[cx_BadText];rfl) ty_BadText sb_BadBeam_BadText,xm_BadBeam_BadBeam:=zq6 be_BadBeam (by rw[cx_BadBeam];rfl) ty_BadBeam sb_BadBeam_BadBeam,xm_BadBeam_BadStanding:=zq6 be_BadStanding (by rw[cx_BadStanding];rfl) ty_BadStanding sb_BadBeam_BadStanding,xm_BadStanding_BadText:=zq6 be_BadText (by rw[cx_BadText];rfl) ty_BadText sb_BadStanding_BadText,xm_BadStanding_BadBeam:=zq6 be_BadBeam (by rw[cx_BadBeam];rfl) ty_BadBeam sb_BadStanding_BadBeam,xm_BadStanding_BadStanding:=zq6 be_BadStanding (by rw[cx_BadStanding];rfl) ty_BadStanding sb_BadStanding_BadStanding,xm_BadText_BadText:=zq6 be_BadText (by rw[cx_BadText];rfl) ty_BadText sb_BadText_BadText,xm_BadText_BadBeam:=zq6 be_BadBeam (by rw[cx_BadBeam];rfl) ty_BadBeam sb_BadText_BadBeam,xm_BadText_BadStanding:=zq6 be_BadStanding (by rw[cx_BadStanding];rfl) ty_BadStanding sb_BadText_BadStanding,cm_BeamError:=⟨ga_BeamError,rd_BeamError,fd_BeamError,k_BeamError_init⟩,n_tuple:=PySem.W.mg_none_of X G n_tuple,n_len:=PySem.W.mg_none_of X G n_len,n_range:=PySem.W.mg_none_of X G n_range,n_int:=PySem.W.mg_none_of X G n_int,n_all:=PySem.W.mg_none_of X G n_all,n_isinstance:=PySem.W.mg_none_of X G n_isinstance,n_bool:=PySem.W.mg_none_of X G n_bool,n_min:=PySem.W.mg_none_of X G n_min,n_str:=PySem.W.mg_none_of X G n_str,n_max:=PySem.W.mg_none_of X G n_max,g_MOST_NOTCHES:=PySem.W.mg_of X G g_MOST_NOTCHES,g_MOST_ROOM:=PySem.W.mg_of X G g_MOST_ROOM,g_MOST_LIMIT:=PySem.W.mg_of X G g_MOST_LIMIT,g_MOST_WEIGHTS:=PySem.W.mg_of X G g_MOST_WEIGHTS,g_MOST_HEFT:=PySem.W.mg_of X G g_MOST_HEFT,g_MOST_STANDINGS:=PySem.W.mg_of X G g_MOST_STANDINGS,g_MOST_FIGURES:=PySem.W.mg_of X G g_MOST_FIGURES,g_FIGURES:=PySem.W.mg_of X G g_FIGURES }
 exact⟨_,fun s v=>.of_eq rfl,fun base _ _=>ok_law T⟩
theorem walk {l:PySem.W.OpenLaw} {q:Program} {loose:List Str} {XP:(Str->Option Value)->Heap->Prop} {YP:World->Heap->Prop} {d:DefRec} {K:Params->PySem.W.Frag} (hn:l.most=some 63) (hdf:d.params.defaults=[])
   (hY:∀ (w:World) (h:Heap),YP w h->(K w.params).In h)
   (F:∀ (w:World) (mg:Str->Option Value) (fa:Addr) (h:Heap),(K w.params).In h->h.Ns mainGlobals mg->mg d.name=some (.ref fa) →
     ∃ fd:FuncData,(∀ (s:Shared) (u:Value),BindsTo s fd ⟨[u],[]⟩ [("_law_script",u)])/\∀ base:Heap,(K w.params).In base->base.Ns mainGlobals mg->FnOk l.prog w (K w.params) mg base CX0 9 fa fd ["_law_script"] (zG7 (K w.params))) :
   PySem.W.WalkO q loose XP YP l.row.toRowW d [] (fun f vs=>PySem.call f vs) :=
 L2.walk_of (n:=63) (k:=9) (x:="_law_script") (CX:=fun _=>CX0) (sp:=fun w=>zG7 (K w.params)) hn (by decide) hdf ⟨rfl,by decide,by decide⟩ hY F (fun _ _ a ns hl _ hS=>⟨a,ns,rfl,hS,hl,fun _=>rfl⟩) fun _ _ _ _ _ z=>z
theorem walkZ {l:PySem.W.OpenLaw} {q:Program} {loose:List Str} {XP:(Str->Option Value)->Heap->Prop} {d:DefRec} {K:Params->PySem.W.Frag} (hn:l.most=some 63) (hdf:d.params.defaults=[])
 (F:∀ (w:World) (mg:Str->Option Value) (fa:Addr) (h:Heap),(K w.params).In h->h.Ns mainGlobals mg->mg d.name=some (.ref fa) →
   ∃ fd:FuncData,(∀ (s:Shared) (u:Value),BindsTo s fd ⟨[u],[]⟩ [("_law_script",u)])/\∀ base:Heap,(K w.params).In base->base.Ns mainGlobals mg->FnOk l.prog w (K w.params) mg base CX0 9 fa fd ["_law_script"] (zG7 (K w.params))) :
 PySem.W.WalkO q loose XP (fun w h=>(K w.params).In h) l.row.toRowW d [] (fun f vs=>PySem.call f vs):=walk hn hdf (fun _ _ Y=>Y) F
end Bt
namespace PySem.W.Fast
noncomputable def tw15505937815210400342:Unit:=()
noncomputable def tw710950022215083712:Unit:=()
noncomputable def tw11496988726516141927:Unit:=()
noncomputable def tw15443752030470309298:Unit:=()
noncomputable def tw15726019234146039084:Unit:=()
noncomputable def tw3177094521681438637:Unit:=()
noncomputable def tw2709492901823309030:Unit:=()
noncomputable def tw13663975906422039456:Unit:=()
noncomputable def tw13569550615557285618:Unit:=()
noncomputable def tw7596741769167426412:Unit:=()
noncomputable def tw5101783374964262546:Unit:=()
noncomputable def tw15812624396806368965:Unit:=()
noncomputable def tw2862049400740450118:Unit:=()
noncomputable def tw15255124347314487051:Unit:=()
noncomputable def tw5321890336884518637:Unit:=()
noncomputable def tw17283617127906764538:Unit:=()
noncomputable def tw13480112600381885162:Unit:=()
noncomputable def tw3433329019172011604:Unit:=()
noncomputable def tw17403106081307559967:Unit:=()
noncomputable def tw9798824093174922087:Unit:=()
noncomputable def tw9752898731221311136:Unit:=()
noncomputable def tw12064167362932529512:Unit:=()
noncomputable def tw14918742524675283723:Unit:=()
noncomputable def tw12287460891532681092:Unit:=()
noncomputable def tw5546530622068034267:Unit:=()
noncomputable def tw15082179712948074719:Unit:=()
noncomputable def tw10488668610675104507:Unit:=()
noncomputable def tw9467929233005334613:Unit:=()
noncomputable def tw18166397860238768969:Unit:=()
noncomputable def tw1633182497072954653:Unit:=()
noncomputable def tw5314798498808407585:Unit:=()
noncomputable def tw5439762645248923793:Unit:=()
noncomputable def tw7369151332947475277:Unit:=()
noncomputable def tw12025409314765871567:Unit:=()
noncomputable def tw11434184362318600911:Unit:=()
noncomputable def tw16432078919195121962:Unit:=()
noncomputable def tw5464710120342772493:Unit:=()
noncomputable def tw4796875496955263360:Unit:=()
noncomputable def tw15548677948979894284:Unit:=()
noncomputable def tw4798212315921333092:Unit:=()
noncomputable def tw15392259160652678409:Unit:=()
noncomputable def tw9141644744881049713:Unit:=()
noncomputable def tw14946562187356639862:Unit:=()
noncomputable def tw7314676413319550557:Unit:=()
noncomputable def tw2366454986378016704:Unit:=()
noncomputable def tw9168354588721385249:Unit:=()
noncomputable def tw9457705945536548030:Unit:=()
noncomputable def tw3584896010670816014:Unit:=()
noncomputable def tw17727660117742611920:Unit:=()
noncomputable def tw8212672849986618463:Unit:=()
noncomputable def tw12320381006831061556:Unit:=()
noncomputable def tw1886393984403915909:Unit:=()
noncomputable def tw8390841321344693217:Unit:=()
noncomputable def tw1386381755540494721:Unit:=()
noncomputable def tw2190775220448312413:Unit:=()
noncomputable def tw14097518253734245243:Unit:=()
noncomputable def tw12907588501864055529:Unit:=()
noncomputable def tw293679107411002430:Unit:=()
noncomputable def tw3271148389542562032:Unit:=()
noncomputable def tw8323354683780418797:Unit:=()
noncomputable def tw6759612589631402111:Unit:=()
noncomputable def tw10784404280727868813:Unit:=()
noncomputable def tw10501923077798063973:Unit:=()
noncomputable def tw12772996703832385942:Unit:=()
noncomputable def tw12769361172896560746:Unit:=()
noncomputable def tw7091159776199974411:Unit:=()
noncomputable def tw10423208103199429202:Unit:=()
noncomputable def tw13436174778648106943:Unit:=()
noncomputable def tw10057845636645821040:Unit:=()
noncomputable def tw16882727996703999104:Unit:=()
noncomputable def tw14565904272713283204:Unit:=()
noncomputable def tw4356173568211922325:Unit:=()
noncomputable def tw7854362551454477577:Unit:=()
noncomputable def tw17499665287553431038:Unit:=()
noncomputable def tw15113063954694033442:Unit:=()
noncomputable def tw9509818287992216545:Unit:=()
noncomputable def tw10736021062778267711:Unit:=()
noncomputable def tw11982151564962556796:Unit:=()
noncomputable def tw5346963470065918383:Unit:=()
noncomputable def tw6440443374570101618:Unit:=()
noncomputable def tw14312300107414379994:Unit:=()
noncomputable def tw15897284776258535605:Unit:=()
noncomputable def tw5285659204080228407:Unit:=()
noncomputable def tw13792401267207341724:Unit:=()
noncomputable def tw618650142159237863:Unit:=()
noncomputable def tw7447807587992336889:Unit:=()
noncomputable def tw12681877048439324028:Unit:=()
noncomputable def tw1730262534043764751:Unit:=()
noncomputable def tw120310572212564548:Unit:=()
noncomputable def tw13211136117116135155:Unit:=()
noncomputable def tw16932176069813767403:Unit:=()
noncomputable def tw288286524069209519:Unit:=()
noncomputable def tw5654005392098637660:Unit:=()
noncomputable def tw16538243428136867137:Unit:=()
noncomputable def tw11146572111772254283:Unit:=()
noncomputable def tw17918042065918815413:Unit:=()
noncomputable def tw13066723060036046097:Unit:=()
noncomputable def tw7445339314827714056:Unit:=()
noncomputable def tw11489034511039144887:Unit:=()
noncomputable def tw5029886776249336507:Unit:=()
noncomputable def tw5513141924537083704:Unit:=()
noncomputable def tw14892941165136727051:Unit:=()
noncomputable def tw328378733963088470:Unit:=()
noncomputable def tw12187033204704185382:Unit:=()
noncomputable def tw866303730461344533:Unit:=()
noncomputable def tw7077284890407031199:Unit:=()
noncomputable def tw14319701479058407752:Unit:=()
noncomputable def tw10383617517647664207:Unit:=()
noncomputable def tw5945249287673452056:Unit:=()
noncomputable def tw7508675822683418730:Unit:=()
noncomputable def tw4151876294114985386:Unit:=()
noncomputable def tw7316953870802136032:Unit:=()
noncomputable def tw15976477065477312744:Unit:=()
noncomputable def tw5221317698928811153:Unit:=()
noncomputable def tw1951994075455197807:Unit:=()
noncomputable def tw3920594953025096605:Unit:=()
noncomputable def tw6927393046860978291:Unit:=()
noncomputable def tw479867578871726247:Unit:=()
noncomputable def tw11375530479422352453:Unit:=()
noncomputable def tw16373541605100664314:Unit:=()
noncomputable def tw75775214870134957:Unit:=()
noncomputable def tw2359726631990628440:Unit:=()
noncomputable def tw10963775352730184817:Unit:=()
noncomputable def tw305046754794645759:Unit:=()
noncomputable def tw15606034665479024345:Unit:=()
noncomputable def tw14916068583012312272:Unit:=()
noncomputable def tw9641066427399647270:Unit:=()
noncomputable def tw2180392018496629999:Unit:=()
noncomputable def tw14985921372353562570:Unit:=()
noncomputable def tw10758729154143748915:Unit:=()
noncomputable def tw11889039534962328494:Unit:=()
noncomputable def tw14421106288093806502:Unit:=()
noncomputable def tw3926459919817589752:Unit:=()
noncomputable def tw8252891542888695088:Unit:=()
noncomputable def tw13621699385901838433:Unit:=()
noncomputable def tw16272536358494068590:Unit:=()
noncomputable def tw16091532095030912431:Unit:=()
noncomputable def tw14598597101605069585:Unit:=()
noncomputable def tw11725746036692147157:Unit:=()
noncomputable def tw1193934845716354884:Unit:=()
noncomputable def tw163539718508264738:Unit:=()
noncomputable def tw8998591790852347043:Unit:=()
noncomputable def tw4147303162350592312:Unit:=()
noncomputable def tw8234673506058968871:Unit:=()
noncomputable def tw9795323227719033865:Unit:=()
noncomputable def tw15978549449832389080:Unit:=()
noncomputable def tw4686321137355113550:Unit:=()
noncomputable def tw13556292944596973165:Unit:=()
noncomputable def tw10701545184706786914:Unit:=()
noncomputable def tw9125905067473230704:Unit:=()
noncomputable def tw14622756255713867256:Unit:=()
noncomputable def tw8720141812030919976:Unit:=()
noncomputable def tw8942188616625044461:Unit:=()
noncomputable def tw1292672922034497823:Unit:=()
noncomputable def tw16465307404912216700:Unit:=()
noncomputable def tw12389444114067231421:Unit:=()
noncomputable def tw11989495399975406451:Unit:=()
noncomputable def tw17439777029169585278:Unit:=()
noncomputable def tw7131036561926773553:Unit:=()
noncomputable def tw11649013817587160865:Unit:=()
noncomputable def tw9172556365884385429:Unit:=()
noncomputable def tw18384008316988720598:Unit:=()
noncomputable def tw17231169081744612711:Unit:=()
noncomputable def tw5809679061788496315:Unit:=()
noncomputable def tw2507155820550567051:Unit:=()
noncomputable def tw2726425106307165554:Unit:=()
noncomputable def tw7946876508126040950:Unit:=()
noncomputable def tw5067404272492381627:Unit:=()
noncomputable def tw14383389872223677050:Unit:=()
noncomputable def tw447418475960142901:Unit:=()
noncomputable def tw18355167024832450613:Unit:=()
noncomputable def tw6245425787750727136:Unit:=()
noncomputable def tw11381079583705395896:Unit:=()
noncomputable def tw3471820387579358746:Unit:=()
noncomputable def tw11814360619419152483:Unit:=()
noncomputable def tw13983875999735491881:Unit:=()
noncomputable def tw17932122607631064236:Unit:=()
noncomputable def tw3177787566876987037:Unit:=()
noncomputable def tw13622006578518219078:Unit:=()
noncomputable def tw13938924419519236984:Unit:=()
noncomputable def tw12056455070616429155:Unit:=()
noncomputable def tw12586064486559200832:Unit:=()
noncomputable def tw6146674759841588774:Unit:=()
noncomputable def tw8241551604330995855:Unit:=()
noncomputable def tw12931940908791052881:Unit:=()
noncomputable def tw10334176648101470212:Unit:=()
noncomputable def tw12670623048537720168:Unit:=()
noncomputable def tw10107785604490135940:Unit:=()
noncomputable def tw16734703925660210855:Unit:=()
noncomputable def tw10515006107368224869:Unit:=()
noncomputable def tw7607131873089160090:Unit:=()
noncomputable def tw18339436038569853471:Unit:=()
noncomputable def tw15363554439808248044:Unit:=()
noncomputable def tw16511782989033961515:Unit:=()
noncomputable def tw18048737768727154359:Unit:=()
noncomputable def tw8192642473247875341:Unit:=()
noncomputable def tw15704712511346255199:Unit:=()
noncomputable def tw3842146883209274101:Unit:=()
noncomputable def tw15597453243869602201:Unit:=()
noncomputable def tw12355150714167706462:Unit:=()
noncomputable def tw4136740369523505913:Unit:=()
noncomputable def tw4757187001833954413:Unit:=()
noncomputable def tw6772734293030274465:Unit:=()
noncomputable def tw15705693705964025930:Unit:=()
noncomputable def tw16825349005187088740:Unit:=()
noncomputable def tw412938165332474231:Unit:=()
noncomputable def tw15782809497584573460:Unit:=()
noncomputable def tw8514446601898119169:Unit:=()
noncomputable def tw10447428147810054685:Unit:=()
noncomputable def tw9669913843468541254:Unit:=()
noncomputable def tw7225556859021725859:Unit:=()
end PySem.W.Fast
open PySem PySem.W PyProof.Rows
set_option maxRecDepth 100000 in
set_option maxHeartbeats 0 in
theorem PySem.Challenge.cw_beamtender_k17_beam_text_near_holds : PySem.Challenge.rw_beamtender_k17_beam_text_near.Holds := by
  w_on; o_law; z_head; (case hw => w_witness2)
  k_fill
  intro w0 s0 s1 mg0 mb0 G0 y0 fa0 o0 pm0 cd0 doc0 dV0 kV0 ho0 hd0 hcd0 hD0 hmg0 hg0 args0 vals0 as0 L0 hpre0 hlay0 hrd0 hwl0 hlo0
  z_open y0 L0 KX0 ZH0 ZN0 ZT0
  clear ZH0 ZN0 ZT0
  refine Bt.walkZ (l := PySem.Challenge.rw_beamtender_k17_beam_text_near) rfl rfl ?F w0 s0 s1 mg0 mb0 G0 KX0 fa0 o0 pm0 cd0 doc0 dV0 kV0 ho0 hd0 hcd0 hD0 hmg0 hg0 args0 vals0 as0 hpre0 hlay0 hrd0 hwl0 hlo0
  case F =>
    clear y0 L0 KX0 G0 ho0 hd0 hcd0 hD0 hmg0 hg0 hpre0 hlay0 hrd0 hwl0 hlo0
    intro w mg fa h KX G hmg
    refine' Bt.all_mk KX G hmg ?a_Beam ?a_BadBeam ?a_BadStanding ?a_BadText ?a_BeamError ?a_BeamError_init ?i_BeamError_init ?l_BeamError_init ?c_BeamError_init ?k_BeamError_init ?dt_BeamError_init ?a_BadBeam_init ?i_BadBeam_init ?l_BadBeam_init ?c_BadBeam_init ?k_BadBeam_init ?dt_BadBeam_init ?a_BadStanding_init ?i_BadStanding_init ?l_BadStanding_init ?c_BadStanding_init ?k_BadStanding_init ?dt_BadStanding_init ?a_BadText_init ?i_BadText_init ?l_BadText_init ?c_BadText_init ?k_BadText_init ?dt_BadText_init ?a_Beam_init ?i_Beam_init ?l_Beam_init ?c_Beam_init ?k_Beam_init ?a_outside ?l_outside ?c_outside ?k_outside ?a_check_bounds ?l_check_bounds ?c_check_bounds ?k_check_bounds ?a_check_hefts ?l_check_hefts ?c_check_hefts ?k_check_hefts ?a_check_standings ?l_check_standings ?c_check_standings ?k_check_standings ?a_as_standing ?l_as_standing ?c_as_standing ?k_as_standing ?a_read_beam ?l_read_beam ?c_read_beam ?k_read_beam ?a_read_weight ?l_read_weight ?c_read_weight ?k_read_weight ?a_words_behind ?l_words_behind ?c_words_behind ?k_words_behind ?a_read_place ?l_read_place ?c_read_place ?k_read_place ?a_read_number ?l_read_number ?c_read_number ?k_read_number ?a_is_number ?l_is_number ?c_is_number ?k_is_number ?a_w_at ?l_w_at ?c_w_at ?k_w_at ?a_w_whole ?l_w_whole ?c_w_whole ?k_w_whole ?a_w_figs ?l_w_figs ?c_w_figs ?k_w_figs ?a_w_shape ?l_w_shape ?c_w_shape ?k_w_shape ?a_w_put ?l_w_put ?c_w_put ?k_w_put ?a_w_same ?l_w_same ?c_w_same ?k_w_same ?a_w_say ?l_w_say ?c_w_say ?k_w_say ?a_w_number ?l_w_number ?c_w_number ?k_w_number ?a_w_spot ?l_w_spot ?c_w_spot ?k_w_spot ?a_w_edit ?l_w_edit ?c_w_edit ?k_w_edit ?a_w_spell ?l_w_spell ?c_w_spell ?k_w_spell ?a_w_menu ?l_w_menu ?c_w_menu ?k_w_menu ?a_w_is_standing ?l_w_is_standing ?c_w_is_standing ?k_w_is_standing ?a_w_rows ?l_w_rows ?c_w_rows ?k_w_rows ?a_w_rows_changed ?l_w_rows_changed ?c_w_rows_changed ?k_w_rows_changed ?a_w_parsed ?l_w_parsed ?c_w_parsed ?k_w_parsed ?a_w_sized ?l_w_sized ?c_w_sized ?k_w_sized ?a_w_told ?l_w_told ?c_w_told ?k_w_told ?a_law ?l_law ?c_law ?k_law ?pg_Beam ?hd_Beam ?po_Beam ?sa_Beam ?mk_Beam ?kc_Beam ?na_Beam_notches ?na_Beam_room ?na_Beam_hefts ?na_Beam_limit ?ob_BadBeam ?mv_BadBeam ?sa_BadBeam ?kc_BadBeam ?ob_BadStanding ?mv_BadStanding ?sa_BadStanding ?kc_BadStanding ?ob_BadText ?mv_BadText ?sa_BadText ?kc_BadText ?na_BadBeam_reason ?na_BadBeam_word ?na_BadStanding_reason ?na_BadStanding_word ?na_BadText_reason ?na_BadText_word ?cx_BadText ?ty_BadText ?be_BadText ?cx_BadBeam ?ty_BadBeam ?be_BadBeam ?cx_BadStanding ?ty_BadStanding ?be_BadStanding ?sb_BadBeam_BadText ?sb_BadBeam_BadBeam ?sb_BadBeam_BadStanding ?sb_BadStanding_BadText ?sb_BadStanding_BadBeam ?sb_BadStanding_BadStanding ?sb_BadText_BadText ?sb_BadText_BadBeam ?sb_BadText_BadStanding ?ga_BeamError ?rd_BeamError ?fd_BeamError ?ic0_Beam ?ic1_Beam ?ic2_Beam ?ic3_Beam ?n_tuple ?n_len ?n_range ?n_int ?n_all ?n_isinstance ?n_bool ?n_min ?n_str ?n_max ?g_MOST_NOTCHES ?g_MOST_ROOM ?g_MOST_LIMIT ?g_MOST_WEIGHTS ?g_MOST_HEFT ?g_MOST_STANDINGS ?g_MOST_FIGURES ?g_FIGURES
    (case a_Beam => k_is)
    (case a_BadBeam => k_is)
    (case a_BadStanding => k_is)
    (case a_BadText => k_is)
    (case a_BeamError => k_is)
    (case a_BeamError_init => k_is)
    (case i_BeamError_init => k_is)
    (case l_BeamError_init => k_is)
    (case c_BeamError_init => k_is)
    (case k_BeamError_init => k_is)
    (case dt_BeamError_init => k_is)
    (case a_BadBeam_init => k_is)
    (case i_BadBeam_init => k_is)
    (case l_BadBeam_init => k_is)
    (case c_BadBeam_init => k_is)
    (case k_BadBeam_init => k_is)
    (case dt_BadBeam_init => k_is)
    (case a_BadStanding_init => k_is)
    (case i_BadStanding_init => k_is)
    (case l_BadStanding_init => k_is)
    (case c_BadStanding_init => k_is)
    (case k_BadStanding_init => k_is)
    (case dt_BadStanding_init => k_is)
    (case a_BadText_init => k_is)
    (case i_BadText_init => k_is)
    (case l_BadText_init => k_is)
    (case c_BadText_init => k_is)
    (case k_BadText_init => k_is)
    (case dt_BadText_init => k_is)
    (case a_Beam_init => k_is)
    (case i_Beam_init => k_is)
    (case l_Beam_init => k_is)
    (case c_Beam_init => k_is)
    (case k_Beam_init => k_is)
    (case a_outside => k_is)
    (case l_outside => k_is)
    (case c_outside => k_is)
    (case k_outside => k_is)
    (case a_check_bounds => k_is)
    (case l_check_bounds => k_is)
    (case c_check_bounds => k_is)
    (case k_check_bounds => k_is)
    (case a_check_hefts => k_is)
    (case l_check_hefts => k_is)
    (case c_check_hefts => k_is)
    (case k_check_hefts => k_is)
    (case a_check_standings => k_is)
    (case l_check_standings => k_is)
    (case c_check_standings => k_is)
    (case k_check_standings => k_is)
    (case a_as_standing => k_is)
    (case l_as_standing => k_is)
    (case c_as_standing => k_is)
    (case k_as_standing => k_is)
    (case a_read_beam => k_is)
    (case l_read_beam => k_is)
    (case c_read_beam => k_is)
    (case k_read_beam => k_is)
    (case a_read_weight => k_is)
    (case l_read_weight => k_is)
    (case c_read_weight => k_is)
    (case k_read_weight => k_is)
    (case a_words_behind => k_is)
    (case l_words_behind => k_is)
    (case c_words_behind => k_is)
    (case k_words_behind => k_is)
    (case a_read_place => k_is)
    (case l_read_place => k_is)
    (case c_read_place => k_is)
    (case k_read_place => k_is)
    (case a_read_number => k_is)
    (case l_read_number => k_is)
    (case c_read_number => k_is)
    (case k_read_number => k_is)
    (case a_is_number => k_is)
    (case l_is_number => k_is)
    (case c_is_number => k_is)
    (case k_is_number => k_is)
    (case a_w_at => k_is)
    (case l_w_at => k_is)
    (case c_w_at => k_is)
    (case k_w_at => k_is)
    (case a_w_whole => k_is)
    (case l_w_whole => k_is)
    (case c_w_whole => k_is)
    (case k_w_whole => k_is)
    (case a_w_figs => k_is)
    (case l_w_figs => k_is)
    (case c_w_figs => k_is)
    (case k_w_figs => k_is)
    (case a_w_shape => k_is)
    (case l_w_shape => k_is)
    (case c_w_shape => k_is)
    (case k_w_shape => k_is)
    (case a_w_put => k_is)
    (case l_w_put => k_is)
    (case c_w_put => k_is)
    (case k_w_put => k_is)
    (case a_w_same => k_is)
    (case l_w_same => k_is)
    (case c_w_same => k_is)
    (case k_w_same => k_is)
    (case a_w_say => k_is)
    (case l_w_say => k_is)
    (case c_w_say => k_is)
    (case k_w_say => k_is)
    (case a_w_number => k_is)
    (case l_w_number => k_is)
    (case c_w_number => k_is)
    (case k_w_number => k_is)
    (case a_w_spot => k_is)
    (case l_w_spot => k_is)
    (case c_w_spot => k_is)
    (case k_w_spot => k_is)
    (case a_w_edit => k_is)
    (case l_w_edit => k_is)
    (case c_w_edit => k_is)
    (case k_w_edit => k_is)
    (case a_w_spell => k_is)
    (case l_w_spell => k_is)
    (case c_w_spell => k_is)
    (case k_w_spell => k_is)
    (case a_w_menu => k_is)
    (case l_w_menu => k_is)
    (case c_w_menu => k_is)
    (case k_w_menu => k_is)
    (case a_w_is_standing => k_is)
    (case l_w_is_standing => k_is)
    (case c_w_is_standing => k_is)
    (case k_w_is_standing => k_is)
    (case a_w_rows => k_is)
    (case l_w_rows => k_is)
    (case c_w_rows => k_is)
    (case k_w_rows => k_is)
    (case a_w_rows_changed => k_is)
    (case l_w_rows_changed => k_is)
    (case c_w_rows_changed => k_is)
    (case k_w_rows_changed => k_is)
    (case a_w_parsed => k_is)
    (case l_w_parsed => k_is)
    (case c_w_parsed => k_is)
    (case k_w_parsed => k_is)
    (case a_w_sized => k_is)
    (case l_w_sized => k_is)
    (case c_w_sized => k_is)
    (case k_w_sized => k_is)
    (case a_w_told => k_is)
    (case l_w_told => k_is)
    (case c_w_told => k_is)
    (case k_w_told => k_is)
    (case a_law => k_is)
    (case l_law => k_is)
    (case c_law => k_is)
    (case k_law => k_is)
    (case pg_Beam => k_is)
    (case hd_Beam => k_is)
    (case po_Beam => k_is)
    (case sa_Beam => k_is)
    (case mk_Beam => k_is)
    (case kc_Beam => k_is)
    (case na_Beam_notches => k_is)
    (case na_Beam_room => k_is)
    (case na_Beam_hefts => k_is)
    (case na_Beam_limit => k_is)
    (case ob_BadBeam => k_is)
    (case mv_BadBeam => first | exact Or.inl rfl | exact Or.inr ⟨_, rfl⟩)
    (case sa_BadBeam => k_is)
    (case kc_BadBeam => k_is)
    (case ob_BadStanding => k_is)
    (case mv_BadStanding => first | exact Or.inl rfl | exact Or.inr ⟨_, rfl⟩)
    (case sa_BadStanding => k_is)
    (case kc_BadStanding => k_is)
    (case ob_BadText => k_is)
    (case mv_BadText => first | exact Or.inl rfl | exact Or.inr ⟨_, rfl⟩)
    (case sa_BadText => k_is)
    (case kc_BadText => k_is)
    (case na_BadBeam_reason => k_is)
    (case na_BadBeam_word => k_is)
    (case na_BadStanding_reason => k_is)
    (case na_BadStanding_word => k_is)
    (case na_BadText_reason => k_is)
    (case na_BadText_word => k_is)
    (case cx_BadText => k_is)
    (case ty_BadText => k_is)
    (case be_BadText => k_is)
    (case cx_BadBeam => k_is)
    (case ty_BadBeam => k_is)
    (case be_BadBeam => k_is)
    (case cx_BadStanding => k_is)
    (case ty_BadStanding => k_is)
    (case be_BadStanding => k_is)
    (case sb_BadBeam_BadText => k_is)
    (case sb_BadBeam_BadBeam => k_is)
    (case sb_BadBeam_BadStanding => k_is)
    (case sb_BadStanding_BadText => k_is)
    (case sb_BadStanding_BadBeam => k_is)
    (case sb_BadStanding_BadStanding => k_is)
    (case sb_BadText_BadText => k_is)
    (case sb_BadText_BadBeam => k_is)
    (case sb_BadText_BadStanding => k_is)
    (case ga_BeamError => k_is)
    (case rd_BeamError => k_is)
    (case fd_BeamError => k_is)
    (case ic0_Beam => k_is)
    (case ic1_Beam => k_is)
    (case ic2_Beam => k_is)
    (case ic3_Beam => k_is)
    (case n_tuple => k_is)
    (case n_len => k_is)
    (case n_range => k_is)
    (case n_int => k_is)
    (case n_all => k_is)
    (case n_isinstance => k_is)
    (case n_bool => k_is)
    (case n_min => k_is)
    (case n_str => k_is)
    (case n_max => k_is)
    (case g_MOST_NOTCHES => k_is)
    (case g_MOST_ROOM => k_is)
    (case g_MOST_LIMIT => k_is)
    (case g_MOST_WEIGHTS => k_is)
    (case g_MOST_HEFT => k_is)
    (case g_MOST_STANDINGS => k_is)
    (case g_MOST_FIGURES => k_is)
    (case g_FIGURES => k_is)
