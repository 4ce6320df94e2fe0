import PyProof.Rows.All
import Wide.All
import OpenK.AllK
import Wide.FinOn
import Lean
import PyProof.EqAt
import PyProof.EqKinds
import PyProof.TupleCall
import PyProof.ExcInit
import PyProof.ExcClass3
import PyProof.ExcBaseAll.ValueError
import PyProof.InstStoreFacts
import KE.KTryMore
import PyProof.RulesAs
import PyProof.NsDelKeeps
import PyProof.Rows.SortRuns
import KE.KDictSum
import KE.KSortTup
import PyProof.Rows.SetFrom
import PyProof.Rows.MinMaxN
import PySem.Challenge.RW_beamtender_k26_plays_apart
set_option genSizeOf false
set_option Elab.async false
set_option linter.all false
set_option maxRecDepth 100000
set_option maxHeartbeats 4000000
/-! THE HAND LAYER,for ints,bools,texts,own classes,LISTS and tuples (index,slices,in,append,pop ..),calls,loops. Paste it whole ahead of your own text; what your proof does not reach may be deleted. -/
namespace L2
open PySem PySem.Spec PyProof.Rows
abbrev Key:=Sum Int Str
def keyIs:Key->Value->Bool
 | .inl k,v=>Value.isInt k v
 | .inr x,v=>Value.isStrOf x v
def keyH (w:World):Key->Int
 | .inl k=>hashInt k
 | .inr x=>hashStr w x
theorem keyIs_shape:∀ {k:Key} {v:Value},keyIs k v=true->(∃ i t,k=Sum.inl i/\v=Value.int i t)\/(∃ x t,k=Sum.inr x/\v=Value.str x t)
 | .inl i,v,h=>by
   obtain ⟨t,e⟩:=Value.isInt_shape (k:=i) (v:=v) h
   exact .inl ⟨i,t,rfl,e⟩
 | .inr x,v,h=>by
   obtain ⟨t,e⟩:=Value.isStrOf_shape (x:=x) (v:=v) h
   exact .inr ⟨x,t,rfl,e⟩
theorem key_ll (a b:Int):decide ((Sum.inl a:Key)=Sum.inl b)=(a == b):=by
 by_cases e:a=b
 . subst e; simp
 . have h:¬ (Sum.inl a:Key)=Sum.inl b:=fun q=>e (Sum.inl.inj q)
   rw[decide_eq_false h]
   exact (beq_eq_false_iff_ne.mpr e).symm
theorem key_rr (a b:Str):decide ((Sum.inr a:Key)=Sum.inr b)=decide (a=b):=by
 by_cases e:a=b
 . subst e; simp
 . have h:¬ (Sum.inr a:Key)=Sum.inr b:=fun q=>e (Sum.inr.inj q)
   rw[decide_eq_false h,decide_eq_false e]
theorem key_lr (a:Int) (b:Str):decide ((Sum.inl a:Key)=Sum.inr b)=false:=decide_eq_false (fun q=>nomatch q)
theorem key_rl (a:Str) (b:Int):decide ((Sum.inr a:Key)=Sum.inl b)=false:=decide_eq_false (fun q=>nomatch q)
def mixKind (prog:Program) (w:World):PySem.KeyKind prog w Key where
 is:=keyIs
 hash:=keyH w
 inj:=fun v a b ha hb=>by
   rcases keyIs_shape ha with ⟨i,t,rfl,rfl⟩ | ⟨x,t,rfl,rfl⟩
   . rcases keyIs_shape hb with ⟨j,u,rfl,e⟩ | ⟨y,u,rfl,e⟩
     . injection e with e1 _; rw[e1]
     . exact nomatch e
   . rcases keyIs_shape hb with ⟨j,u,rfl,e⟩ | ⟨y,u,rfl,e⟩
     . exact nomatch e
     . injection e with e1 _; rw[e1]
 byValue:=fun k v h=>by
   rcases keyIs_shape h with ⟨i,t,rfl,rfl⟩ | ⟨x,t,rfl,rfl⟩ <;> rfl
 pyHash:=fun hv h=>by
   rcases keyIs_shape hv with ⟨i,t,rfl,rfl⟩ | ⟨x,t,rfl,rfl⟩
   . exact wpAny_pyHash_int h
   . exact wpAny_pyHash_str h
 eqBool:=fun hu hv h=>by
   rcases keyIs_shape hu with ⟨i,t,rfl,rfl⟩ | ⟨x,t,rfl,rfl⟩
   . rcases keyIs_shape hv with ⟨j,u,rfl,rfl⟩ | ⟨y,u,rfl,rfl⟩
     . rw[key_ll] at h; exact wpAny_eqBool_int h
     . rw[key_lr] at h; exact SeqAt.EqAt.int_str i t y u _ _ _ _ h
   . rcases keyIs_shape hv with ⟨j,u,rfl,rfl⟩ | ⟨y,u,rfl,rfl⟩
     . rw[key_rl] at h; exact SeqAt.EqAt.str_int x t j u _ _ _ _ h
     . rw[key_rr] at h; exact wpAny_eqBool_str h
 «strs»:=fun k x t v h=>by
   rcases keyIs_shape h with ⟨i,u,rfl,e⟩ | ⟨y,u,rfl,e⟩
   . exact nomatch e
   . injection e with e1 _
     subst e1
     cases v <;> rfl
end L2
namespace L2
open PySem PySem.Spec PyProof.Rows
inductive V where
 | non | bl (b:Bool) | int (i:Int) | str (x:Str) | byt (b:Array UInt8) | flt (b:UInt64) | ref (a:Addr) | ty (n:String)
 deriving DecidableEq
def RelV:V->Value->Prop
 | .non,u=>u=Value.none
 | .bl b,u=>u=Value.bool b
 | .int i,u=>∃ t,u=Value.int i t
 | .str x,u=>∃ t,u=Value.str x t
 | .byt b,u=>∃ t,u=Value.bytes b t
 | .flt b,u=>∃ t,u=Value.float b t
 | .ref a,u=>u=Value.ref a
 | .ty n,u=>u=Value.type n
abbrev Vals:List V->List Value->Prop:=Paired RelV
theorem Vals.length {xs:List V} {us:List Value} (r:Vals xs us):xs.length=us.length:=Paired.length r
theorem Vals.get:∀ {xs:List V} {us:List Value} {i:Nat} {x:V},Vals xs us->xs[i]?=some x->∃ u,us[i]?=some u/\RelV x u
 | _,_,_,_,.nil,e=>by simp at e
 | _,_,0,_,.cons r _,e=>by simp at e; subst e; exact⟨_,rfl,r⟩
 | _,_,i+1,x,.cons _ t,e=>by
   obtain ⟨u,h1,h2⟩:=Vals.get (i:=i) (x:=x) t (by simpa using e)
   exact⟨u,by simpa using h1,h2⟩
theorem Vals.set {x:V} {u:Value} (r:RelV x u):∀ {xs:List V} {us:List Value} (i:Nat),Vals xs us->Vals (xs.set i x) (us.set i u)
 | _,_,_,.nil=>.nil
 | _,_,0,.cons _ t=>.cons r t
 | _,_,i+1,.cons q t=>.cons q (Vals.set r i t)
theorem Vals.append:∀ {xs ys:List V} {us ws:List Value},Vals xs us->Vals ys ws->Vals (xs++ys) (us++ws)
 | _,_,_,_,.nil,s=>s
 | _,_,_,_,.cons r t,s=>.cons r (Vals.append t s)
theorem Vals.take:∀ {xs:List V} {us:List Value} (n:Nat),Vals xs us->Vals (xs.take n) (us.take n)
 | _,_,0,_=>.nil
 | _,_,_+1,.nil=>.nil
 | _,_,n+1,.cons r t=>.cons r (Vals.take n t)
theorem Vals.drop:∀ {xs:List V} {us:List Value} (n:Nat),Vals xs us->Vals (xs.drop n) (us.drop n)
 | _,_,0,r=>r
 | _,_,_+1,.nil=>.nil
 | _,_,n+1,.cons _ t=>Vals.drop n t
def RelO:Option V->Option Value->Prop
 | some v,some u=>RelV v u
 | none,none=>True
 | _,_=>False
def KV {κ:Type}:List (κ × V)->List (κ × Value)->Prop:=Paired fun (p:κ × V) (q:κ × Value)=>p.1=q.1/\RelV p.2 q.2
def kV:Key->V
 | .inl i=>.int i
 | .inr x=>.str x
inductive HO where
 | lst (xs:List V)
 | tup (xs:List V)
 | dK (kvs:List (Key × V)) | dT (kvs:List (List Key × V))
 | set (S:Int->Bool) (n:Nat)
 | ins (C dx:Addr) (fs:List (Str × V))
 | own (x:Addr)
 | xd (fs:List (Str × V))
 | met (f x:Addr)
 | rng (lo hi:Int)
 | frz (o:Obj) (u:HO)
 | tbl (ps:Array Value)
 | ext (φ:Heap->Prop)
abbrev Hp:=Addr->Option HO
def upd (H:Hp) (a:Addr) (o:HO):Hp:=fun b=>if b=a then some o else H b
theorem upd_same {H:Hp} {a:Addr} {o:HO}:upd H a o a=some o:=by unfold upd; rw[if_pos rfl]
theorem upd_ne {H:Hp} {a b:Addr} {o:HO} (h:b≠a):upd H a o b=H b:=by unfold upd; rw[if_neg h]
theorem upd_upd {H:Hp} {a:Addr} {o u:HO}:upd (upd H a o) a u=upd H a u:=by
 funext b; unfold upd; split <;> rfl
theorem ne_of {H:Hp} {a b:Addr} {o u:HO} (h:H a=some o) (h':H b=some u) (d:o≠u):a≠b:=by
 intro e; subst e; rw[h] at h'; exact d (Option.some.inj h')
theorem ne_of_none {H:Hp} {a b:Addr} {o:HO} (h:H a=some o) (h':H b=none):a≠b:=by
 intro e; subst e; rw[h] at h'; cases h'
def TupD (h:Heap) (a:Addr) (items:Array Value):Prop:=∃ o,h.get? a=some o/\o.cls = .type "tuple"/\o.dict=none/\∃ n,o.data = .seq items n
theorem TupD.isTup {h:Heap} {a:Addr} {items:Array Value} (x:TupD h a items):IsTup h a items:=let ⟨o,e,c,_,n,d⟩:=x; ⟨o,e,c,n,d⟩
theorem TupD.new (h:Heap) (items:Array Value):TupD (h.push { cls:=.type "tuple",data:=.seq items }) h.objs.size items:=⟨_,Heap.get?_push_size _ rfl,rfl,rfl,_,rfl⟩
section
variable (P:Program) (w:World)
def ObjOk (H:Hp) (h:Heap) (a:Addr):HO->Prop
 | .lst xs=>xs.length<=sizeLine/\∃ (its:List Value) (n:Nat),Vals xs its/\h.get? a=some { cls:=.type "list",data:=.seq its.toArray n }
 | .tup xs=>xs.length<=sizeLine/\∃ its:List Value,Vals xs its/\TupD h a its.toArray
 | .dK kvs=>kvs.length<=sizeLine/\(a == sysModules)=false/\∃ vs,KV kvs vs/\h.DictOf (mixKind P w) a vs
 | .dT kvs=>kvs.length<=sizeLine/\(a == sysModules)=false/\∃ xs:List (List Key × Addr × Value),
     Paired (fun (p:List Key × V) (q:List Key × Addr × Value)=>p.1=q.1/\H q.2.1=some (.tup (p.1.map kV))/\RelV p.2 q.2.2) kvs xs ∧
     ∃ o es ep,h.get? a=some o/\o.ExactDict/\o.data = .dict es ep/\es.toList=xs.map (entryOfKey (tupleKind (mixKind P w)))/\(xs.map (·.1)).Nodup
 | .set S n=>h.SetOf (intKind P w) a S n
 | .ins C dx fs=>H dx=some (.own a)/\fs.length<=1000/\dx≠a/\h.get? a=some (PySem.W.instObj C dx) ∧
     ∃ mA,h.Ns1 dx mA/\(∀ f,RelO (fs.lookup f) (mA f))/\PySem.Within mA (fs.map (·.1))
 | .own _=>∃ o,h.get? a=some o
 | .xd fs=>fs.length<=1000/\∃ mA,h.Ns1 a mA/\(∀ f,RelO (fs.lookup f) (mA f))/\PySem.Within mA (fs.map (·.1))
 | .rng lo hi=>∃ t u v,h.get? a=some { cls:=.type "range",data:=.fields #[.int lo t,.int hi u,.int 1 v] }
 | .frz o u=>h.get? a=some o/\ObjOk H h a u
 | .tbl ps=>h.get? a=some { cls:=.none,data:=.fields ps }
 | .met f x=>h.get? a=some (PySem.W.methodObj (.ref f) (.ref x))
 | .ext φ=>φ h/\(∃ o,h.get? a=some o)/\∀ h1 h2:Heap,φ h1->(∀ o,h1.get? a=some o->h2.get? a=some o)->φ h2
def HOk (H:Hp) (h:Heap):Prop:=∀ a o,H a=some o->ObjOk P w H h a o
end
section
variable {P:Program} {w:World} {H H':Hp} {h h':Heap} {a:Addr} {o:HO}
theorem ObjOk.lt (x:ObjOk P w H h a o):a < h.objs.size:=by
 cases o with
 | lst xs=>obtain ⟨_,_,_,_,e⟩:=x; exact Heap.lt_size e
 | tup xs=>obtain ⟨_,_,_,_,e,_⟩:=x; exact Heap.lt_size e
 | dK kvs=>obtain ⟨_,_,_,_,o,_,_,e,_⟩:=x; exact Heap.lt_size e
 | dT kvs=>obtain ⟨_,_,_,_,o,_,_,e,_⟩:=x; exact Heap.lt_size e
 | set S n=>obtain ⟨o,_,_,_,e,_⟩:=x; exact Heap.lt_size e
 | ins C dx fs=>obtain ⟨_,_,_,e,_⟩:=x; exact Heap.lt_size e
 | own y=>obtain ⟨_,e⟩:=x; exact Heap.lt_size e
 | xd fs=>obtain ⟨_,_,⟨_,_,_,e,_⟩,_⟩:=x; exact Heap.lt_size e
 | rng lo hi=>obtain ⟨_,_,_,e⟩:=x; exact Heap.lt_size e
 | frz ob u=>obtain ⟨e,_⟩:=x; exact Heap.lt_size e
 | tbl ps=>exact Heap.lt_size (show h.get? a=some _ from x)
 | met f y=>exact Heap.lt_size (show h.get? a=some _ from x)
 | ext φ=>obtain ⟨_,⟨_,e⟩,_⟩:=x; exact Heap.lt_size e
theorem Paired.mapP {α β:Type} {F G:α->β->Prop}:∀ {l₁:List α} {l₂:List β},Paired F l₁ l₂->(∀ a b,F a b->G a b)->Paired G l₁ l₂
 | _,_,.nil,_=>.nil
 | _,_,.cons r t,f=>.cons (f _ _ r) (Paired.mapP t f)
theorem ObjOk.stay (x:ObjOk P w H h a o) (k:∀ b u,(b=a\/H b=some (.own a))->h.get? b=some u->h'.get? b=some u)
   (ho:∀ b,H b=some (.own a)->H' b=some (.own a)) (ht:∀ b xs,H b=some (.tup xs)->H' b=some (.tup xs)):ObjOk P w H' h' a o:=by
 induction o with
 | lst xs=>obtain ⟨z,its,n,r,e⟩:=x; exact⟨z,its,n,r,k _ _ (.inl rfl) e⟩
 | tup xs=>obtain ⟨z,its,r,ob,e,c⟩:=x; exact⟨z,its,r,ob,k _ _ (.inl rfl) e,c⟩
 | dK kvs=>obtain ⟨z,y,vs,r,ob,es,ep,e,c⟩:=x; exact⟨z,y,vs,r,ob,es,ep,k _ _ (.inl rfl) e,c⟩
 | dT kvs =>
   obtain ⟨z,y,xs,r,ob,es,ep,e,c⟩:=x
   exact⟨z,y,xs,Paired.mapP r fun p q z=>⟨z.1,ht _ _ z.2.1,z.2.2⟩,ob,es,ep,k _ _ (.inl rfl) e,c⟩
 | set S n=>obtain ⟨ob,es,ep,t,e,c⟩:=x; exact⟨ob,es,ep,t,k _ _ (.inl rfl) e,c⟩
 | ins C dx fs =>
   obtain ⟨d,z,ne,e,mA,⟨od,es,ep,e2,c⟩,r⟩:=x
   exact⟨ho _ d,z,ne,k _ _ (.inl rfl) e,mA,⟨od,es,ep,k _ _ (.inr d) e2,c⟩,r⟩
 | own y=>obtain ⟨ob,e⟩:=x; exact⟨ob,k _ _ (.inl rfl) e⟩
 | xd fs=>obtain ⟨z,mA,⟨od,es,ep,e,c⟩,r⟩:=x; exact⟨z,mA,⟨od,es,ep,k _ _ (.inl rfl) e,c⟩,r⟩
 | rng lo hi=>obtain ⟨t,u,v,e⟩:=x; exact⟨t,u,v,k _ _ (.inl rfl) e⟩
 | frz ob u ih=>obtain ⟨e,q⟩:=x; exact⟨k _ _ (.inl rfl) e,ih q⟩
 | tbl ps =>
   have e:h.get? a=some { cls:=.none,data:=.fields ps }:=x
   show h'.get? a=some { cls:=.none,data:=.fields ps }
   exact k a _ (.inl rfl) e
 | met f y =>
   have e:h.get? a=some (PySem.W.methodObj (.ref f) (.ref y)):=x
   show h'.get? a=some (PySem.W.methodObj (.ref f) (.ref y))
   exact k a _ (.inl rfl) e
 | ext φ=>obtain ⟨p,⟨o,e⟩,st⟩:=x; exact⟨st _ _ p fun o q=>k _ _ (.inl rfl) q,⟨o,k _ _ (.inl rfl) e⟩,st⟩
theorem HOk.lt (x:HOk P w H h) (e:H a=some o):a < h.objs.size:=(x a o e).lt
theorem HOk.fresh (x:HOk P w H h) (e:h.objs.size<=a):H a=none:=by
 cases q:H a with
 | none=>rfl
 | some u=>exact absurd (Nat.lt_of_lt_of_le (x.lt q) e) (Nat.lt_irrefl _)
theorem HOk.kept (x:HOk P w H h) (k:∀ b u,h.get? b=some u->h'.get? b=some u):HOk P w H h':=fun a o e =>
 (x a o e).stay (fun b u _ q=>k b u q) (fun _ q=>q) fun _ _ q=>q
theorem HOk.laid (x:HOk P w H h) (k:∀ b u,h.get? b=some u->h'.get? b=some u) (hp:h.objs.size<=a) (new:ObjOk P w (upd H a o) h' a o):HOk P w (upd H a o) h':=fun b u e=>by
 have hn:=x.fresh hp
 by_cases hb:b=a
 . subst hb; rw[upd_same] at e; cases e; exact new
 . rw[upd_ne hb] at e
   exact (x b u e).stay (fun c v _ q=>k c v q) (fun c q=>by rw[upd_ne (ne_of_none q hn)]; exact q) fun c xs q=>by rw[upd_ne (ne_of_none q hn)]; exact q
end
def Rd (H:Hp) (a:Addr) (u:HO):Prop:=H a=some u\/∃ o,H a=some (.frz o u)
theorem Rd.ok {P:Program} {w:World} {H:Hp} {h:Heap} {a:Addr} {u:HO} (r:Rd H a u) (x:HOk P w H h):ObjOk P w H h a u:=by
 rcases r with r | ⟨o,r⟩
 . exact x a u r
 . obtain ⟨_,q⟩:=x a _ r
   exact q
def Mut:Option HO->Prop
 | some (.lst _)=>True
 | some (.dK _)=>True
 | some (.dT _)=>True
 | some (.set _ _)=>True
 | some (.ins _ _ _)=>True
 | some (.ext _)=>True
 | some (.xd _)=>True
 | _=>False
section
variable {P:Program} {w:World} {H:Hp} {h h':Heap} {x e:Addr} {o':HO}
theorem HOk.write (ok:HOk P w H h) (mu:Mut (H x)) (he:e=x\/H e=some (.own x)) (k:∀ b u,b≠e->h.get? b=some u->h'.get? b=some u) (heo:∃ u,h'.get? e=some u)
   (new:ObjOk P w (upd H x o') h' x o'):HOk P w (upd H x o') h':=fun b u q=>by
 have nown:∀ c y,H c=some (.own y)->c≠x:=fun c y r z=>by subst z; rw[r] at mu; exact mu
 have ntup:∀ c xs,H c=some (.tup xs)->c≠x:=fun c xs r z=>by subst z; rw[r] at mu; exact mu
 by_cases hb:b=x
 . subst hb; rw[upd_same] at q; cases q; exact new
 . rw[upd_ne hb] at q
   by_cases hbe:b=e
   . have q':H b=some (.own x):=by
       rcases he with z | z
       . exact absurd (hbe.trans z) hb
       . rw[hbe]; exact z
     rw[q] at q'; cases q'
     obtain ⟨v,hv⟩:=heo
     exact⟨v,by rw[hbe]; exact hv⟩
   . refine (ok b u q).stay (fun c v hc r=>k c v ?_ r) (fun c r=>by rw[upd_ne (nown c b r)]; exact r) fun c xs r=>by rw[upd_ne (ntup c xs r)]; exact r
     rcases hc with rfl | hc
     . exact hbe
     . rintro rfl
       rcases he with z | z
       . exact nown c b hc z
       . rw[hc] at z; cases z; exact hb rfl
end
/-! ### kept unless tracked; of the frames at fs (the callers') the slots may change (an exception that passes writes there); of the records at ex (iterators) nothing is said -/
structure Un (fs ex:List Addr) (H H':Hp) (h h':Heap):Prop where
 keep:∀ b o,h.get? b=some o->H b=none->b ∉ fs->b ∉ ex->h'.get? b=some o
 slot:∀ b o,h.get? b=some o->H b=none->b∈fs->b ∉ ex->∃ sl,h'.get? b=some { o with slots:=sl }
 free:∀ b o,h.get? b=some o->H b=none->b ∉ ex->H' b=none
 there:∀ b o,h.get? b=some o->b ∉ ex->∃ o',h'.get? b=some o'
 tups:∀ b xs,H b=some (.tup xs)->H' b=some (.tup xs)
 frzs:∀ b o u,H b=some (.frz o u)->H' b=some (.frz o u)
 tbls:∀ b ps,H b=some (.tbl ps)->∃ more,H' b=some (.tbl (ps++more))
section
variable {fs fs' ex ex':List Addr} {H H1 H2:Hp} {h h1 h2 h':Heap} {a x e:Addr} {o:HO}
theorem Un.any (u:Un fs ex H H1 h h1) {b:Addr} {ob:Obj} (q:h.get? b=some ob) (n:H b=none) (hx:b ∉ ex):∃ sl,h1.get? b=some { ob with slots:=sl }:=by
 by_cases hb:b∈fs
 . exact u.slot b ob q n hb hx
 . exact⟨ob.slots,u.keep b ob q n hb hx⟩
theorem Un.kept (k:∀ b u,h.get? b=some u->h'.get? b=some u):Un fs ex H H h h' :=
 ⟨fun b ob q _ _ _=>k b ob q,fun b ob q _ _ _=>⟨ob.slots,k b ob q⟩,fun _ _ _ n _=>n,fun b ob q _=>⟨ob,k b ob q⟩,fun _ _ q=>q,fun _ _ _ q=>q,fun _ ps q=>⟨#[],by rw[q]; simp⟩⟩
theorem Un.refl:Un fs ex H H h h:=Un.kept fun _ _ q=>q
theorem Un.laid (k:∀ b u,h.get? b=some u->h'.get? b=some u) (hp:h.objs.size<=a) (hn:H a=none):Un fs ex H (upd H a o) h h' where
 keep:=fun b u q _ _ _=>k b u q
 slot:=fun b u q _ _ _=>⟨u.slots,k b u q⟩
 free:=fun b u q n _=>by rw[upd_ne (Nat.ne_of_lt (Nat.lt_of_lt_of_le (Heap.lt_size q) hp))]; exact n
 there:=fun b u q _=>⟨u,k b u q⟩
 tups:=fun b xs q=>by rw[upd_ne (ne_of_none q hn)]; exact q
 frzs:=fun b u xs q=>by rw[upd_ne (ne_of_none q hn)]; exact q
 tbls:=fun b ps q=>⟨#[],by rw[upd_ne (ne_of_none q hn),q]; simp⟩
theorem Un.write (mu:Mut (H x)) (he:e=x\/H e=some (.own x)) (k:∀ b u,b≠e->h.get? b=some u->h'.get? b=some u) (heo:∃ u,h'.get? e=some u):Un fs ex H (upd H x o) h h':=by
 have hx:∀ b,H b=none->b≠x:=fun b n z=>by subst z; rw[n] at mu; exact mu
 have hb:∀ b,H b=none->b≠e:=fun b n z=>by
   subst z
   rcases he with r | r
   . exact hx b n r
   . rw[n] at r; cases r
 have hm:∀ b u,H b=some u->¬ Mut (some u)->b≠x:=fun b u q nm z=>by subst z; rw[q] at mu; exact nm mu
 refine⟨fun b u q n _ _=>k b u (hb b n) q,fun b u q n _ _=>⟨u.slots,k b u (hb b n) q⟩,fun b u q n _=>by rw[upd_ne (hx b n)]; exact n,fun b u q _=>?_,
   fun b xs q=>by rw[upd_ne (hm b _ q fun z=>z)]; exact q,fun b u xs q=>by rw[upd_ne (hm b _ q fun z=>z)]; exact q,fun b ps q=>⟨#[],by rw[upd_ne (hm b _ q fun z=>z),q]; simp⟩⟩
 by_cases hbe:b=e
 . subst hbe; exact heo
 . exact⟨u,k b u hbe q⟩
end
/-! ### the heap without what is tracked -/
def trk (h:Heap) (H:Hp):List Addr:=(List.range h.objs.size).filter fun a=>(H a).isSome
def hidT (h:Heap) (H:Hp):Heap:=PySem.W.hideAll h (trk h H)
theorem hidT_size (h:Heap) (H:Hp):(hidT h H).objs.size=h.objs.size:=PySem.W.hideAll_size _ _
theorem hidT_get {h:Heap} {H:Hp} {b:Addr} {o:Obj} (e:h.get? b=some o) (n:H b=none):(hidT h H).get? b=some o :=
 PySem.W.hideAll_get _ e fun hm=>by
   have q:(H b).isSome=true:=(List.mem_filter.mp hm).2
   rw[n] at q; simp at q
theorem of_hidT {h:Heap} {H:Hp} {b:Addr} {o:Obj} (e:(hidT h H).get? b=some o):h.get? b=some o/\H b=none:=by
 have e':h.get? b=some o:=PySem.W.of_hideAll (trk h H) e
 refine⟨e',?_⟩
 cases q:H b with
 | none=>rfl
 | some x =>
   have hm:b∈trk h H:=List.mem_filter.mpr ⟨List.mem_range.mpr (Heap.lt_size e'),by simp[q]⟩
   have z:(hidT h H).get? b=none:=PySem.W.hideAll_none (trk h H) hm
   rw[z] at e; cases e
/-! ### OpenK's ledger,filled with every new object but one -/
end L2
namespace L2
open PySem PySem.Spec PyProof.Rows
structure Mod (K:PySem.W.Frag) (mg:Str->Option Value) (base:Heap):Prop where
 kin:K.In base
 glob:base.Ns mainGlobals mg
 blt:∃ mb,base.Ns builtinsNs mb/\∀ x:Str,x≠"__name__"->mb x=bootBuiltins x
 nolimit:base.NoLimit
structure Cx where
 prog:Program
 w:World
 K:PySem.W.Frag
 mg:Str->Option Value
 base:Heap
 A:Around
 N:List Str
 s₀:Shared
 H₀:Hp
 env:Env
 outer:List Env
 stack:List Env
 ex:List Addr
 fn:Str->Bool
 calm:Bool
 pn:List (Addr × Obj)
 xe:Value->Shared->Prop
def frs (l:List Env):List Addr:=l.filterMap (·.frame)
abbrev Cx.fs (X:Cx):List Addr:=frs X.outer
def Vis (sc:Scope) (x:Str):Prop:=sc.names.lookup x=some .local\/sc.names.lookup x=some .cell\/sc.names.lookup x=some .free
def Loc (sc:Scope) (x:Str):Prop:=sc.names.lookup x=some .local\/sc.names.lookup x=some .cell
def Look (env:Env) (h:Heap) (m:Str->Option Value) (x:Str) (u:Value):Prop :=
 (env.kindOf x=some .local/\m x=some u)\/((env.kindOf x=some .cell\/env.kindOf x=some .free)/\∃ c,env.cells.lookup x=some c/\h.IsCell c (some u))
structure Cx.Ok (X:Cx):Prop where
 mod:Mod X.K X.mg X.base
 kind:X.env.scope.kind = .function
 glob:X.env.globals=mainGlobals
 blt:X.env.builtins=builtinsNs
 above:X.s₀.heap.objs.size<=X.env.locals
 inj:∀ x y c,X.env.cells.lookup x=some c->X.env.cells.lookup y=some c->x=y
 has:∀ x,(X.env.kindOf x=some .cell\/X.env.kindOf x=some .free)->∃ c,X.env.cells.lookup x=some c
 cab:∀ x c,X.fn x=true->X.env.cells.lookup x=some c->X.s₀.heap.objs.size<=c
 hd:X.calm=true->X.A.handled=none
 frames:X.A.frames=some X.stack
 stk:X.stack=X.outer\/(X.stack=X.env::X.outer/\X.env.frame=some X.env.locals)
 exf:∀ b∈X.ex,b≠X.env.locals/\∀ x c,X.env.cells.lookup x=some c->c≠b
 bs:∀ b o,X.base.get? b=some o->X.s₀.heap.get? b=some o/\X.H₀ b=none
 bsz:X.base.objs.size<=X.s₀.heap.objs.size
 noex:∀ b o,X.base.get? b=some o->b ∉ X.ex
 exfs:∀ b∈X.ex,b ∉ X.fs
 funs:X.s₀.heap.FunFrames X.base X.outer
 frf:∀ b∈X.fs,X.H₀ b=none
structure Inv (X:Cx) (pins:List (Addr × Obj)) (σ:List (Option V)) (H:Hp) (s:Shared):Prop where
 ok:X.Ok
 os:s.os=X.s₀.os
 bare:AllBare s.gens
 base:Un X.fs X.ex X.H₀ H X.s₀.heap s.heap
 loc:∃ m,s.heap.Ns X.env.locals m/\∀ (i:Nat) (x:Str) (v:V),X.N[i]?=some x->σ[i]?=some (some v)->Vis X.env.scope x->∃ u,RelV v u/\Look X.env s.heap m x u
 cell:∀ x c,X.env.cells.lookup x=some c->∃ v,s.heap.IsCell c v
 free:H X.env.locals=none
 freeC:∀ x c,X.env.cells.lookup x=some c->H c=none
 pin:∀ p∈X.pn++pins,s.heap.get? p.1=some p.2/\H p.1=none/\p.1≠X.env.locals/\p.1 ∉ X.fs/\∀ v,p.2.data≠.cell v
 hok:HOk X.prog X.w H s.heap
 len:σ.length=X.N.length
section
variable {X:Cx} {pins:List (Addr × Obj)} {σ:List (Option V)} {H H':Hp} {s:Shared} {h':Heap}
theorem Cx.Ok.nofr (ok:X.Ok) {b:Addr} {o:Obj} (e:X.base.get? b=some o):b ∉ X.fs:=fun hb=>by
 have:=(ok.funs.mem hb).1
 rw[e] at this; cases this
theorem Inv.bs (I:Inv X pins σ H s):∀ b o,X.base.get? b=some o->s.heap.get? b=some o/\H b=none:=fun b o e =>
 ⟨I.base.keep b o (I.ok.bs b o e).1 (I.ok.bs b o e).2 (I.ok.nofr e) (I.ok.noex b o e),I.base.free b o (I.ok.bs b o e).1 (I.ok.bs b o e).2 (I.ok.noex b o e)⟩
theorem Inv.bk (I:Inv X pins σ H s):∀ b o,X.base.get? b=some o->s.heap.get? b=some o:=fun b o e=>(I.bs b o e).1
theorem Inv.mod (I:Inv X pins σ H s):Mod X.K X.mg X.base:=I.ok.mod
theorem Inv.kIn (I:Inv X pins σ H s):X.K.In s.heap:=I.ok.mod.kin.keeps I.bk
theorem Inv.lt (I:Inv X pins σ H s):X.env.locals < s.heap.objs.size:=let ⟨_,hn,_⟩:=I.loc; hn.lt
theorem Inv.sz (I:Inv X pins σ H s):X.s₀.heap.objs.size<=s.heap.objs.size:=Nat.le_trans I.ok.above (Nat.le_of_lt I.lt)
theorem Inv.nofs (I:Inv X pins σ H s) {a:Addr} (h:s.heap.objs.size<=a):a ∉ X.fs:=fun hb=>by
 obtain ⟨_,o,ho,_⟩:=I.ok.funs.mem hb
 exact absurd (Nat.lt_of_lt_of_le (Heap.lt_size ho) (Nat.le_trans I.sz h)) (Nat.lt_irrefl _)
theorem Inv.cne (I:Inv X pins σ H s):∀ x c,X.env.cells.lookup x=some c->c≠X.env.locals:=fun x c e z=>by
 obtain ⟨v,o,ho,hd⟩:=I.cell x c e
 obtain ⟨m,⟨o',es,ep,ho',hd',_⟩,_⟩:=I.loc
 rw[z,ho'] at ho; cases ho; rw[hd'] at hd; cases hd
theorem Inv.funs (I:Inv X pins σ H s):s.heap.FunFrames X.base X.outer:=by
 have all:∀ (l:List Env),(∀ b∈frs l,b∈X.fs)->X.s₀.heap.FunFrames X.base l->s.heap.FunFrames X.base l:=by
   intro l
   induction l with
   | nil=>intro _ _; trivial
   | cons env r ih =>
     intro hs hl
     obtain ⟨hk,⟨L,o,hf,hn,ho,hd⟩,hr⟩:=hl
     have hL:L∈X.fs:=hs L (by unfold frs; rw[List.filterMap_cons,hf]; exact List.mem_cons_self)
     obtain ⟨sl,e⟩:=I.base.slot L o ho (I.ok.frf L hL) hL fun z=>I.ok.exfs L z hL
     exact⟨hk,⟨L,_,hf,hn,e,hd⟩,ih (fun b hb=>hs b (by unfold frs; rw[List.filterMap_cons,hf]; exact List.mem_cons_of_mem _ hb)) hr⟩
 exact all X.outer (fun _ hb=>hb) I.ok.funs
theorem Inv.stack (I:Inv X pins σ H s):s.heap.FunFrames X.base X.stack:=by
 rcases I.ok.stk with e | ⟨e,hf⟩
 . rw[e]; exact I.funs
 . rw[e]
   obtain ⟨m,hn,_⟩:=I.loc
   refine .cons (by rw[I.ok.kind]; decide) hf hn ?_ I.funs
   exact Heap.get?_none_of_le (Nat.le_trans I.ok.bsz I.ok.above)
theorem Inv.stkSub (I:Inv X pins σ H s):∀ b∈frs X.stack,b∈X.env.locals::X.fs:=fun b hb=>by
 rcases I.ok.stk with e | ⟨e,hf⟩
 . rw[e] at hb; exact List.mem_cons_of_mem _ hb
 . rw[e] at hb
   unfold frs at hb
   rw[List.filterMap_cons,hf] at hb
   exact hb
theorem Inv.stkFree (I:Inv X pins σ H s):∀ b∈frs X.stack,H b=none:=fun b hb=>by
 rcases List.mem_cons.mp (I.stkSub b hb) with e | hb
 . rw[e]; exact I.free
 . obtain ⟨_,o,ho,_⟩:=I.ok.funs.mem hb
   exact I.base.free b o ho (I.ok.frf b hb) fun z=>I.ok.exfs b z hb
theorem Inv.step {g':Array GenState} {t':Nat} {d':Drawn} {ch:List Addr} (I:Inv X pins σ H s)
   (hch:∀ b∈ch,(b∈X.ex\/X.s₀.heap.objs.size<=b)/\b≠X.env.locals/\(∀ x c,X.env.cells.lookup x=some c->c≠b)/\∀ p∈X.pn++pins,p.1≠b)
   (keep:∀ b o,b≠X.env.locals->b ∉ X.fs->b ∉ ch->s.heap.get? b=some o->H b=none->h'.get? b=some o)
   (slot:∀ b o,b≠X.env.locals->b∈X.fs->b ∉ ch->s.heap.get? b=some o->H b=none->∃ sl,h'.get? b=some { o with slots:=sl }) (free:∀ b o,b ∉ ch->s.heap.get? b=some o->H b=none->H' b=none)
   (there:∀ b o,b ∉ ch->s.heap.get? b=some o->∃ o',h'.get? b=some o')
   (tups:∀ b xs,H b=some (.tup xs)->H' b=some (.tup xs)) (frzs:∀ b o u,H b=some (.frz o u)->H' b=some (.frz o u)) (tbls:∀ b ps,H b=some (.tbl ps)->∃ more,H' b=some (.tbl (ps++more)))
   (ns:∀ m,s.heap.Ns X.env.locals m->h'.Ns X.env.locals m) (hok:HOk X.prog X.w H' h') (hg:AllBare g') :
   Inv X pins σ H' { s with heap:=h',gens:=g',drawn:=d',toks:=t' }:=by
 have neL:∀ b o,X.s₀.heap.get? b=some o->b≠X.env.locals:=fun b o e=>Nat.ne_of_lt (Nat.lt_of_lt_of_le (Heap.lt_size e) I.ok.above)
 have neC:∀ b o,X.s₀.heap.get? b=some o->b ∉ X.ex->b ∉ ch:=fun b o e hx hb=>by
   rcases (hch b hb).1 with z | z
   . exact hx z
   . exact absurd (Nat.lt_of_lt_of_le (Heap.lt_size e) z) (Nat.lt_irrefl _)
 have cellK:∀ x c,X.env.cells.lookup x=some c->∀ v,s.heap.IsCell c v->h'.IsCell c v:=fun x c e v ⟨o,ho,hd⟩=>by
   have nch:c ∉ ch:=fun z=>(hch c z).2.2.1 x c e rfl
   by_cases hc:c∈X.fs
   . obtain ⟨sl,q⟩:=slot c o (I.cne x c e) hc nch ho (I.freeC x c e)
     exact⟨_,q,hd⟩
   . exact⟨o,keep c o (I.cne x c e) hc nch ho (I.freeC x c e),hd⟩
 refine⟨I.ok,I.os,hg,⟨fun b o e n hb hx=>?_,fun b o e n hb hx=>?_,fun b o e n hx=>?_,fun b o e hx=>?_,fun b xs e=>tups b xs (I.base.tups b xs e),fun b o xs e=>frzs b o xs (I.base.frzs b o xs e),fun b ps e=>?_⟩,?_,fun x c e=>?_,?_,fun x c e=>?_,fun p hp=>?_,hok,I.len⟩
 . exact keep b o (neL b o e) hb (neC b o e hx) (I.base.keep b o e n hb hx) (I.base.free b o e n hx)
 . obtain ⟨sl,e1⟩:=I.base.slot b o e n hb hx
   obtain ⟨sl',e2⟩:=slot b _ (neL b o e) hb (neC b o e hx) e1 (I.base.free b o e n hx)
   exact⟨sl',e2⟩
 . obtain ⟨o',e1⟩:=I.base.there b o e hx
   exact free b o' (neC b o e hx) e1 (I.base.free b o e n hx)
 . obtain ⟨o',e1⟩:=I.base.there b o e hx
   exact there b o' (neC b o e hx) e1
 . obtain ⟨m1,e1⟩:=I.base.tbls b ps e
   obtain ⟨m2,e2⟩:=tbls b _ e1
   exact⟨m1++m2,by rw[e2,Array.append_assoc]⟩
 . obtain ⟨m,hn,hl⟩:=I.loc
   refine⟨m,ns m hn,fun i x v e1 e2 e3=>?_⟩
   obtain ⟨u,r,l⟩:=hl i x v e1 e2 e3
   refine⟨u,r,?_⟩
   rcases l with l | ⟨k,c,e,z⟩
   . exact .inl l
   . exact .inr ⟨k,c,e,cellK x c e _ z⟩
 . obtain ⟨v,z⟩:=I.cell x c e
   exact⟨v,cellK x c e v z⟩
 . obtain ⟨m,⟨o,_,_,ho,_⟩,_⟩:=I.loc
   exact free _ o (fun z=>(hch _ z).2.1 rfl) ho I.free
 . obtain ⟨v,o,ho,hd⟩:=I.cell x c e
   exact free c o (fun z=>(hch c z).2.2.1 x c e rfl) ho (I.freeC x c e)
 . obtain ⟨e,n,ne,nf,d⟩:=I.pin p hp
   have nch:p.1 ∉ ch:=fun z=>(hch p.1 z).2.2.2 p hp rfl
   exact⟨keep p.1 p.2 ne nf nch e n,free p.1 p.2 nch e n,ne,nf,d⟩
theorem Inv.un {t':Nat} (I:Inv X pins σ H s) (u:Un X.fs [] H H' s.heap h') (hok:HOk X.prog X.w H' h'):Inv X pins σ H' { s with heap:=h',toks:=t' }:=by
 obtain ⟨m,⟨o,es,ep,ho,r⟩,_⟩:=id I.loc
 obtain ⟨sl,hL⟩:=u.any ho I.free (by simp)
 exact I.step (g':=s.gens) (d':=s.drawn) (ch:=[]) (fun _ z=>nomatch z) (fun b o _ hb _ e n=>u.keep b o e n hb (by simp)) (fun b o _ hb _ e n=>u.slot b o e n hb (by simp)) (fun b o _ e n=>u.free b o e n (by simp)) (fun b o _ e=>u.there b o e (by simp)) u.tups u.frzs u.tbls (fun m' hm=>by
   obtain ⟨o',es',ep',ho',r'⟩:=hm
   rw[ho] at ho'; cases ho'
   exact⟨_,es',ep',hL,r'⟩) hok I.bare
theorem Inv.call {g':Array GenState} {t':Nat} {d':Drawn} {ch:List Addr} (I:Inv X pins σ H s) (u:Un (frs X.stack) ch H H' s.heap h') (hok:HOk X.prog X.w H' h') (hg:AllBare g')
   (hch:∀ b∈ch,(b∈X.ex\/X.s₀.heap.objs.size<=b)/\b≠X.env.locals/\(∀ x c,X.env.cells.lookup x=some c->c≠b)/\∀ p∈X.pn++pins,p.1≠b) :
   Inv X pins σ H' { s with heap:=h',gens:=g',drawn:=d',toks:=t' }:=by
 obtain ⟨m,⟨o,es,ep,ho,r⟩,_⟩:=id I.loc
 obtain ⟨sl,hL⟩:=u.any ho I.free fun z=>(hch _ z).2.1 rfl
 exact I.step (ch:=ch) hch (fun b o hL hb hc e n=>u.keep b o e n (fun z=>(List.mem_cons.mp (I.stkSub b z)).elim hL hb) hc) (fun b o _ _ hc e n=>u.any e n hc) (fun b o hc e n=>u.free b o e n hc) (fun b o hc e=>u.there b o e hc) u.tups u.frzs u.tbls (fun m' hm=>by
   obtain ⟨o',es',ep',ho',r'⟩:=hm
   rw[ho] at ho'; cases ho'
   exact⟨_,es',ep',hL,r'⟩) hok hg
theorem Inv.turned {t':Nat} {it:Addr} (I:Inv X pins σ H s) (k:∀ b o,b≠it->s.heap.get? b=some o->h'.get? b=some o) (hn:H it=none) (hL:it≠X.env.locals)
   (h1:it∈X.ex\/X.s₀.heap.objs.size<=it) (h2:∀ x c,X.env.cells.lookup x=some c->c≠it) (h3:∀ p∈X.pn++pins,p.1≠it):Inv X pins σ H { s with heap:=h',toks:=t' }:=by
 have nit:∀ b u,H b=some u->b≠it:=fun b u e z=>by rw[z,hn] at e; cases e
 refine I.step (g':=s.gens) (d':=s.drawn) (ch:=[it]) (fun b hb=>?_) (fun b o _ _ hc e _=>k b o (fun z=>hc (by simp[z])) e) (fun b o _ _ hc e _=>⟨o.slots,k b o (fun z=>hc (by simp[z])) e⟩) (fun _ _ _ _ n=>n)
   (fun b o hc e=>⟨o,k b o (fun z=>hc (by simp[z])) e⟩) (fun _ _ e=>e) (fun _ _ _ e=>e) (fun b ps e=>⟨#[],by rw[e]; simp⟩) (fun m hm=>?_) (fun b u e=>?_) I.bare
 . have e:b=it:=by simpa using hb
   subst e
   exact⟨h1,hL,h2,h3⟩
 . obtain ⟨o,es,ep,ho,r⟩:=hm
   exact⟨o,es,ep,k _ o (Ne.symm hL) ho,r⟩
 . refine (I.hok b u e).stay (fun c v hc q=>k c v ?_ q) (fun _ q=>q) fun _ _ q=>q
   rcases hc with z | z
   . rw[z]; exact nit b u e
   . exact nit c _ z
theorem Inv.tok (I:Inv X pins σ H s) (t:Nat):Inv X pins σ H { s with toks:=t }:=I.un (h':=s.heap) (t':=t) Un.refl I.hok
theorem Inv.kept {t':Nat} (I:Inv X pins σ H s) (k:∀ b u,s.heap.get? b=some u->h'.get? b=some u):Inv X pins σ H { s with heap:=h',toks:=t' }:=I.un (Un.kept k) (I.hok.kept k)
theorem Inv.laid {a:Addr} {o:HO} {t':Nat} (I:Inv X pins σ H s) (k:∀ b u,s.heap.get? b=some u->h'.get? b=some u) (hp:s.heap.objs.size<=a) (new:ObjOk X.prog X.w (upd H a o) h' a o) :
 Inv X pins σ (upd H a o) { s with heap:=h',toks:=t' }:=I.un (Un.laid k hp (I.hok.fresh hp)) (I.hok.laid k hp new)
theorem Inv.write {x e:Addr} {o:HO} {t':Nat} (I:Inv X pins σ H s) (mu:Mut (H x)) (he:e=x\/H e=some (.own x)) (k:∀ b u,b≠e->s.heap.get? b=some u->h'.get? b=some u) (heo:∃ u,h'.get? e=some u)
 (new:ObjOk X.prog X.w (upd H x o) h' x o):Inv X pins σ (upd H x o) { s with heap:=h',toks:=t' }:=I.un (Un.write mu he k heo) (I.hok.write mu he k heo new)
theorem Inv.pins_of {pins':List (Addr × Obj)} (I:Inv X pins σ H s) (h:∀ p∈pins',s.heap.get? p.1=some p.2/\H p.1=none/\p.1≠X.env.locals/\p.1 ∉ X.fs/\∀ v,p.2.data≠.cell v):Inv X pins' σ H s :=
 ⟨I.ok,I.os,I.bare,I.base,I.loc,I.cell,I.free,I.freeC,fun p hp=>(List.mem_append.mp hp).elim (fun z=>I.pin p (List.mem_append_left _ z)) (h p),I.hok,I.len⟩
theorem nodup_ix {N:List Str} (hN:N.Nodup) {i j:Nat} {x:Str} (a:N[i]?=some x) (b:N[j]?=some x):i=j:=by
 obtain ⟨h1,e1⟩:=List.getElem?_eq_some_iff.mp a
 obtain ⟨h2,e2⟩:=List.getElem?_eq_some_iff.mp b
 exact (List.getElem_inj hN).mp (e1.trans e2.symm)
theorem store_ok2 {M:Model} {A:Around} {E:Value->Shared->Prop} {i:Nat} {x:Str} {v:V} {u:Value} {Q:Unit->Shared->Prop} (I:Inv X pins σ H s) (hN:X.N.Nodup) (hi:X.N[i]?=some x) (hx:Loc X.env.scope x) (r:RelV v u)
   (h:∀ s',Inv X pins (σ.set i (some v)) H s'->(∃ a,Heap.SameBut a s.heap s'.heap/\(a=X.env.locals\/X.env.cells.lookup x=some a))->Q () s') (hf:X.fn x=true\/X.env.scope.names.lookup x=some .local:=by first | exact .inl rfl | exact .inr rfl | assumption):wpAny M A (storeName X.env x u) Q E s:=by
 obtain ⟨m,hn,hl⟩:=id I.loc
 have hcls:(X.env.scope.kind == .class || (X.env.scope.kind == .module && X.env.locals != X.env.globals))=false:=by rw[I.ok.kind]; rfl
 have hiσ:i < σ.length:=by rw[I.len]; exact (List.getElem?_eq_some_iff.mp hi).1
 have cne:=I.cne
 have tracked:∀ {a:Addr} {h':Heap},(∃ o,s.heap.get? a=some o/\H a=none)->Heap.SameBut a s.heap h'->HOk X.prog X.w H h':=fun {a h'} ha hs b ob e=>by
   obtain ⟨_,_,hfree⟩:=ha
   refine (I.hok b ob e).stay (fun c w' hc q=>(hs.2 c ?_).trans q) (fun _ q=>q) fun _ _ q=>q
   rintro rfl
   rcases hc with rfl | hc
   . rw[hfree] at e; cases e
   . rw[hfree] at hc; cases hc
 rcases hx with hk | hk
 . refine wpAny_storeName_local hk hn (fun h' hn' hs=>?_) hcls
   obtain ⟨oL,_,_,hoL,_⟩:=id hn
   refine h _ ⟨I.ok,I.os,I.bare,⟨fun b o e n hb hx=>?_,fun b o e n hb hx=>?_,I.base.free,fun b o e hx=>?_,I.base.tups,I.base.frzs,I.base.tbls⟩,⟨_,hn',fun j y v' e1 e2 e3=>?_⟩,fun y c e=>?_,I.free,I.freeC,fun p hp=>?_,tracked ⟨oL,hoL,I.free⟩ hs,by simpa using I.len⟩ ⟨_,hs,.inl rfl⟩
   . exact (hs.2 b (Nat.ne_of_lt (Nat.lt_of_lt_of_le (Heap.lt_size e) I.ok.above))).trans (I.base.keep b o e n hb hx)
   . obtain ⟨sl,e1⟩:=I.base.slot b o e n hb hx
     exact⟨sl,(hs.2 b (Nat.ne_of_lt (Nat.lt_of_lt_of_le (Heap.lt_size e) I.ok.above))).trans e1⟩
   . obtain ⟨o',e1⟩:=I.base.there b o e hx
     exact⟨o',(hs.2 b (Nat.ne_of_lt (Nat.lt_of_lt_of_le (Heap.lt_size e) I.ok.above))).trans e1⟩
   . by_cases hj:j=i
     . subst hj
       rw[hi] at e1; cases e1
       rw[List.getElem?_set_self hiσ] at e2
       cases e2
       exact⟨u,r,.inl ⟨hk,by simp⟩⟩
     . rw[List.getElem?_set_ne (Ne.symm hj)] at e2
       obtain ⟨u',r',q⟩:=hl j y v' e1 e2 e3
       refine⟨u',r',?_⟩
       rcases q with ⟨k,e⟩ | ⟨k,c,e,z⟩
       . refine .inl ⟨k,?_⟩
         have:y≠x:=fun e=>hj (nodup_ix hN e1 (e ▸ hi))
         simp[this,e]
       . exact .inr ⟨k,c,e,z.sameBut hs (cne y c e)⟩
   . obtain ⟨w',z⟩:=I.cell y c e
     exact⟨w',z.sameBut hs (cne y c e)⟩
   . obtain ⟨e,n,ne,nf,d⟩:=I.pin p hp
     exact⟨(hs.2 p.1 ne).trans e,n,ne,nf,d⟩
 . have hfn:X.fn x=true:=by
     rcases hf with z | z
     . exact z
     . rw[z] at hk; cases hk
   obtain ⟨c,hc⟩:=I.ok.has x (.inl hk)
   obtain ⟨w',z⟩:=I.cell x c hc
   refine wpAny_storeName_cell I.ok.kind hk hc z (fun h' hc' hs=>?_)
   obtain ⟨oc,hoc,hocd⟩:=id z
   refine h { s with heap:=h' } ⟨I.ok,I.os,I.bare,⟨fun b o e n hb hx=>?_,fun b o e n hb hx=>?_,I.base.free,fun b o e hx=>?_,I.base.tups,I.base.frzs,I.base.tbls⟩,⟨m,hn.sameBut hs (Ne.symm (cne x c hc)),fun j y v' e1 e2 e3=>?_⟩,fun y c' e=>?_,I.free,I.freeC,fun p hp=>?_,tracked ⟨oc,hoc,I.freeC x c hc⟩ hs,by simpa using I.len⟩ ⟨c,hs,.inr hc⟩
   . exact (hs.2 b (Nat.ne_of_lt (Nat.lt_of_lt_of_le (Heap.lt_size e) (I.ok.cab x c hfn hc)))).trans (I.base.keep b o e n hb hx)
   . obtain ⟨sl,e1⟩:=I.base.slot b o e n hb hx
     exact⟨sl,(hs.2 b (Nat.ne_of_lt (Nat.lt_of_lt_of_le (Heap.lt_size e) (I.ok.cab x c hfn hc)))).trans e1⟩
   . obtain ⟨o',e1⟩:=I.base.there b o e hx
     exact⟨o',(hs.2 b (Nat.ne_of_lt (Nat.lt_of_lt_of_le (Heap.lt_size e) (I.ok.cab x c hfn hc)))).trans e1⟩
   . by_cases hj:j=i
     . subst hj
       rw[hi] at e1; cases e1
       rw[List.getElem?_set_self hiσ] at e2
       cases e2
       exact⟨u,r,.inr ⟨.inl hk,c,hc,hc'⟩⟩
     . rw[List.getElem?_set_ne (Ne.symm hj)] at e2
       obtain ⟨u',r',q⟩:=hl j y v' e1 e2 e3
       refine⟨u',r',?_⟩
       rcases q with q | ⟨k,c',e,z'⟩
       . exact .inl q
       . refine .inr ⟨k,c',e,z'.sameBut hs ?_⟩
         rintro rfl
         exact hj (nodup_ix hN e1 (I.ok.inj _ _ _ e hc ▸ hi))
   . by_cases hcc:c'=c
     . subst hcc; exact⟨_,hc'⟩
     . obtain ⟨w2,z2⟩:=I.cell y c' e
       exact⟨w2,z2.sameBut hs hcc⟩
   . obtain ⟨e,n,ne,nf,d⟩:=I.pin p hp
     refine⟨(hs.2 p.1 ?_).trans e,n,ne,nf,d⟩
     intro q
     rw[q,hoc] at e
     have q':oc=p.2:=Option.some.inj e
     exact d w' (by rw[<-q']; exact hocd)
theorem store_ok {M:Model} {A:Around} {E:Value->Shared->Prop} {i:Nat} {x:Str} {v:V} {u:Value} {Q:Unit->Shared->Prop} (I:Inv X pins σ H s) (hN:X.N.Nodup) (hi:X.N[i]?=some x) (hx:Loc X.env.scope x) (r:RelV v u)
   (h:∀ s',Inv X pins (σ.set i (some v)) H s'->Q () s') (hf:X.fn x=true\/X.env.scope.names.lookup x=some .local:=by first | exact .inl rfl | exact .inr rfl | assumption):wpAny M A (storeName X.env x u) Q E s :=
 store_ok2 I hN hi hx r (fun s' I' _=>h s' I') hf
theorem Inv.call' {s':Shared} {ch:List Addr} (I:Inv X pins σ H s) (ho:s'.os=s.os) (u:Un (frs X.stack) ch H H' s.heap s'.heap) (hok:HOk X.prog X.w H' s'.heap) (hg:AllBare s'.gens)
   (hch:∀ b∈ch,(b∈X.ex\/X.s₀.heap.objs.size<=b)/\b≠X.env.locals/\(∀ x c,X.env.cells.lookup x=some c->c≠b)/\∀ p∈X.pn++pins,p.1≠b):Inv X pins σ H' s':=by
 obtain ⟨h',g',d',t',o'⟩:=s'
 have e:o'=s.os:=ho
 subst e
 exact I.call (g':=g') (t':=t') (d':=d') u hok hg hch
end
/-! ### the judgements -/
abbrev XK:=Value->Option Addr->Hp->Prop
abbrev St:=List (Option V)
abbrev VK:=V->Hp->Prop
abbrev TE:=St->Hp->VK->Prop
abbrev TT:=St->Hp->(Bool->Hp->Prop)->Prop
abbrev TA:=St->Hp->(List V->Hp->Prop)->Prop
structure Ends where
 nx:St->Hp->Prop
 rt:VK
 bk:St->Hp->Prop:=fun _ _=>False
 ct:St->Hp->Prop:=fun _ _=>False
abbrev TS:=Ends->St->Hp->Prop
def EP (X:Cx) (pins:List (Addr × Obj)) (σ:St) (Q:VK) (u:Value) (s':Shared):Prop:=∃ v H',Inv X pins σ H' s'/\RelV v u/\Q v H'
def TP (X:Cx) (pins:List (Addr × Obj)) (σ:St) (Q:Bool->Hp->Prop) (b:Bool) (s':Shared):Prop:=∃ H',Inv X pins σ H' s'/\Q b H'
def AP (X:Cx) (pins:List (Addr × Obj)) (σ:St) (Q:List V->Hp->Prop) (us:List Value) (s':Shared):Prop:=∃ vs H',Inv X pins σ H' s'/\Vals vs us/\Q vs H'
def SP (X:Cx) (pins:List (Addr × Obj)) (D:Ends) (f:Flow) (s':Shared):Prop :=
 match f with
 | .next=>∃ σ' H',Inv X pins σ' H' s'/\D.nx σ' H'
 | .brk=>∃ σ' H',Inv X pins σ' H' s'/\D.bk σ' H'
 | .cont=>∃ σ' H',Inv X pins σ' H' s'/\D.ct σ' H'
 | .ret u=>∃ v σ' H',Inv X pins σ' H' s'/\RelV v u/\D.rt v H'
def PE (X:Cx) (e:Expr) (t:TE):Prop :=
 ∀ (pins:List (Addr × Obj)) (s:Shared) (σ:St) (H:Hp) (Q:VK),Inv X pins σ H s->t σ H Q->wpAny (model X.prog X.w) X.A (eval e X.env) (EP X pins σ Q) X.xe s
def PT (X:Cx) (e:Expr) (t:TT):Prop :=
 ∀ (pins:List (Addr × Obj)) (s:Shared) (σ:St) (H:Hp) (Q:Bool->Hp->Prop),Inv X pins σ H s->t σ H Q->wpAny (model X.prog X.w) X.A (isTrue e X.env (eval e X.env)) (TP X pins σ Q) X.xe s
def PW (X:Cx) (e:Expr) (t:TT):Prop :=
 ∀ (whole:Sem Value) (pins:List (Addr × Obj)) (s:Shared) (σ:St) (H:Hp) (Q:Bool->Hp->Prop),Inv X pins σ H s->t σ H Q->wpAny (model X.prog X.w) X.A (isTrue e X.env whole) (TP X pins σ Q) X.xe s
theorem PW.pt {X:Cx} {e:Expr} {t:TT} (h:PW X e t):PT X e t:=h _
def PA (X:Cx) (es:List Expr) (t:TA):Prop :=
 ∀ (pos:Pos) (pins:List (Addr × Obj)) (s:Shared) (σ:St) (H:Hp) (Q:List V->Hp->Prop),Inv X pins σ H s->t σ H Q->wpAny (model X.prog X.w) X.A (spliced (backTo pos (starEach es X.env))) (AP X pins σ Q) X.xe s
def PS (X:Cx) (st:Stmt) (t:TS):Prop :=
 ∀ (pins:List (Addr × Obj)) (s:Shared) (σ:St) (H:Hp) (D:Ends),Inv X pins σ H s->t D σ H->wpAny (model X.prog X.w) X.A (exec st X.env) (SP X pins D) X.xe s
def PSs (X:Cx) (st:List Stmt) (t:TS):Prop :=
 ∀ (pins:List (Addr × Obj)) (s:Shared) (σ:St) (H:Hp) (D:Ends),Inv X pins σ H s->t D σ H->wpAny (model X.prog X.w) X.A (execs st X.env) (SP X pins D) X.xe s
theorem thn {α:Type} {t:Sem α} {Q Q':α->Shared->Prop} {M:Model} {A:Around} {E:Value->Shared->Prop} {s:Shared} (h:wpAny M A t Q E s) (hQ:∀ a s,Q a s->Q' a s):wpAny M A t Q' E s:=wpAny_mono h hQ fun _ _ x=>x
end L2
namespace L2
open PySem PySem.Spec PyProof.Rows
section
variable {X:Cx}
/-! ### names and constants -/
def tVar (i:Nat):TE:=fun σ H Q=>∃ v,σ[i]?=some (some v)/\Q v H
def tC (v:V):TE:=fun _ H Q=>Q v H
theorem pe_var {i:Nat} {x:Str} {pos:Pos} (hN:X.N[i]?=some x) (hv:Vis X.env.scope x) (hd:(x == ("__debug__" : Str))=false:=by decide) (hcd:(x == ("__classdict__" : Str))=false:=by decide):PE X (.Name x pos) (tVar i):=by
 intro pins s σ H Q I h
 obtain ⟨v,e,h⟩:=h
 obtain ⟨m,hn,hl⟩:=I.loc
 obtain ⟨u,r,l⟩:=hl i x v hN e hv
 have fin:EP X pins σ Q u s:=⟨v,H,I,r,h⟩
 rcases l with ⟨hk,hm⟩ | ⟨hk,c,hc,hcell⟩
 . exact wpAny_Name (wpAny_loadName_local I.ok.kind hk hn hm fin) hd
 . rcases hk with hk | hk
   . exact wpAny_Name (wpAny_loadName_cell I.ok.kind hk hc hcell fin) hd
   . exact wpAny_Name (wpAny_loadName_free I.ok.kind hk hc hcell fin hcd) hd
theorem pe_int {i j pos}:PE X (.Constant (.int i) j pos) (tC (.int i)):=fun _ _ _ H _ I h=>wpAny_Constant_int ⟨.int i,H,I.tok _,⟨_,rfl⟩,h⟩
theorem pe_bl {b j pos}:PE X (.Constant (.bool b) j pos) (tC (.bl b)):=fun _ _ _ H _ I h=>Constant_bool ⟨.bl b,H,I,rfl,h⟩
theorem pe_non {j pos}:PE X (.Constant .none j pos) (tC .non):=fun _ _ _ H _ I h=>Constant_none ⟨.non,H,I,rfl,h⟩
def Gl (X:Cx) (x:Str):Prop:=X.env.kindOf x=some .globalImplicit
theorem ld_glob {E:Value->Shared->Prop} {pins:List (Addr × Obj)} {s:Shared} {σ:St} {H:Hp} {x:Str} {u:Value} {pos:Pos} {Q:Value->Shared->Prop} (I:Inv X pins σ H s) (hg:Gl X x) (hm:X.mg x=some u) (h:Q u s)
   (hd:(x == ("__debug__" : Str))=false:=by decide):wpAny (model X.prog X.w) X.A (eval (.Name x pos) X.env) Q E s :=
 Calls.Name_function_global I.ok.kind hg (Calls.loadGlobal_global (by rw[I.ok.glob]; exact I.mod.glob.keeps I.bk) hm h) hd
theorem ld_blt {E:Value->Shared->Prop} {pins:List (Addr × Obj)} {s:Shared} {σ:St} {H:Hp} {x:Str} {u:Value} {pos:Pos} {Q:Value->Shared->Prop} (I:Inv X pins σ H s) (hg:Gl X x) (hm:X.mg x=none) (hv:bootBuiltins x=some u) (h:Q u s)
   (hn:x≠"__name__":=by decide) (hd:(x == ("__debug__" : Str))=false:=by decide):wpAny (model X.prog X.w) X.A (eval (.Name x pos) X.env) Q E s:=by
 obtain ⟨mb,h1,h2⟩:=I.mod.blt
 exact Calls.Name_function_global I.ok.kind hg (Calls.loadGlobal_builtin (by rw[I.ok.glob]; exact I.mod.glob.keeps I.bk) hm (by rw[I.ok.blt]; exact h1.keeps I.bk) ((h2 x hn).trans hv) h) hd
theorem pe_glob {x:Str} {v:V} {u:Value} {pos:Pos} (hg:Gl X x) (hm:X.mg x=some u) (r:RelV v u) (hd:(x == ("__debug__" : Str))=false:=by decide):PE X (.Name x pos) (tC v) :=
 fun _ _ _ H _ I h=>ld_glob I hg hm ⟨v,H,I,r,h⟩ hd
theorem pe_bltn {x:Str} {v:V} {u:Value} {pos:Pos} (hg:Gl X x) (hm:X.mg x=none) (hv:bootBuiltins x=some u) (r:RelV v u) (hn:x≠"__name__":=by decide) (hd:(x == ("__debug__" : Str))=false:=by decide):PE X (.Name x pos) (tC v) :=
 fun _ _ _ H _ I h=>ld_blt I hg hm hv ⟨v,H,I,r,h⟩ hn hd
/-! ### arithmetic -/
variable {a b:Expr} {ta tb:TE} {pos:Pos}
/-! ### comparisons -/
def tB (t:TE):TT:=fun σ H Q=>t σ H fun x H1=>∃ c,x = .bl c/\Q c H1
theorem pt_val {e:Expr} {t:TE} (h:PE X e t) (he:∀ whole,isTrue e X.env whole=(do let v <-whole; standAt e.pos; holding [v] (truthy v)):=by intro _; rfl):PT X e (tB t):=by
 intro pins s σ H Q I hw
 refine isTrue_plain (thn (h pins s σ H _ I hw) fun v s1 ⟨x,H1,I1,r1,q1⟩=>?_) (he _)
 obtain ⟨d,rfl,q⟩:=q1
 cases r1
 exact wpAny_truthy_bool ⟨H1,I1,q⟩
/-! ### and,or,not -/
variable {tA tB':TT} {rest:List Expr}
def tAnd (t u:TT):TT:=fun σ H Q=>t σ H fun c H1=>if c=true then u σ H1 Q else Q false H1
def tOr (t u:TT):TT:=fun σ H Q=>t σ H fun c H1=>if c=true then Q true H1 else u σ H1 Q
def tNot (t:TT):TT:=fun σ H Q=>t σ H fun c H1=>Q (!c) H1
theorem pw_and1 (ha:PT X a tA):PW X (.BoolOp .And [a] pos) tA:=by
 intro wh pins s σ H Q I h
 refine isTrue_and (thn (ha pins s σ H Q I h) fun c s1 e=>?_)
 cases c with
 | true=>exact isTrue_and_nil e
 | false=>exact e
theorem pw_or1 (ha:PT X a tA):PW X (.BoolOp .Or [a] pos) tA:=by
 intro wh pins s σ H Q I h
 refine isTrue_or (thn (ha pins s σ H Q I h) fun c s1 e=>?_)
 cases c with
 | false=>exact isTrue_or_nil e
 | true=>exact e
theorem pw_and (ha:PT X a tA) (hb:PW X (.BoolOp .And (b::rest) pos) tB'):PW X (.BoolOp .And (a::b::rest) pos) (tAnd tA tB'):=by
 intro wh pins s σ H Q I h
 refine isTrue_and (thn (ha pins s σ H _ I h) fun c s1 ⟨H1,I1,q1⟩=>?_)
 cases c with
 | true=>exact hb wh pins s1 σ H1 Q I1 q1
 | false=>exact⟨H1,I1,q1⟩
theorem pw_or (ha:PT X a tA) (hb:PW X (.BoolOp .Or (b::rest) pos) tB'):PW X (.BoolOp .Or (a::b::rest) pos) (tOr tA tB'):=by
 intro wh pins s σ H Q I h
 refine isTrue_or (thn (ha pins s σ H _ I h) fun c s1 ⟨H1,I1,q1⟩=>?_)
 cases c with
 | true=>exact⟨H1,I1,q1⟩
 | false=>exact hb wh pins s1 σ H1 Q I1 q1
theorem pt_not (ha:PT X a tA):PT X (.UnaryOp .Not a pos) (tNot tA):=by
 intro pins s σ H Q I h
 exact isTrue_not (ha pins s σ H (fun c H1=>Q (!c) H1) I h)
def tAndV (ta tb:TE):TE:=fun σ H Q=>ta σ H fun x H1=>∃ c,x = .bl c/\if c=true then tb σ H1 Q else Q (.bl false) H1
def tOrV (ta tb:TE):TE:=fun σ H Q=>ta σ H fun x H1=>∃ c,x = .bl c/\if c=true then Q (.bl true) H1 else tb σ H1 Q
def tNotV (ta:TE):TE:=fun σ H Q=>ta σ H fun x H1=>∃ c,x = .bl c/\Q (.bl (!c)) H1
theorem pe_one {op} {t:TE} (h:PE X a t):PE X (.BoolOp op [a] pos) t:=fun pins s σ H Q I hw=>BoolOp_one (h pins s σ H Q I hw)
theorem pe_and (ha:PE X a ta) (hb:PE X (.BoolOp .And (b::rest) pos) tb):PE X (.BoolOp .And (a::b::rest) pos) (tAndV ta tb):=by
 intro pins s σ H Q I h
 refine BoolOp_and (thn (ha pins s σ H _ I h) fun v s1 ⟨x,H1,I1,r1,q1⟩=>?_)
 obtain ⟨c,rfl,q1⟩:=q1
 cases r1
 refine wpAny_truthy_bool ?_
 cases c with
 | true=>exact hb pins s1 σ H1 Q I1 q1
 | false=>exact⟨.bl false,H1,I1,rfl,q1⟩
theorem pe_or (ha:PE X a ta) (hb:PE X (.BoolOp .Or (b::rest) pos) tb):PE X (.BoolOp .Or (a::b::rest) pos) (tOrV ta tb):=by
 intro pins s σ H Q I h
 refine BoolOp_or (thn (ha pins s σ H _ I h) fun v s1 ⟨x,H1,I1,r1,q1⟩=>?_)
 obtain ⟨c,rfl,q1⟩:=q1
 cases r1
 refine wpAny_truthy_bool ?_
 cases c with
 | false=>exact hb pins s1 σ H1 Q I1 q1
 | true=>exact⟨.bl true,H1,I1,rfl,q1⟩
theorem pe_not (ha:PE X a ta):PE X (.UnaryOp .Not a pos) (tNotV ta):=by
 intro pins s σ H Q I h
 refine UnaryOp_ (thn (ha pins s σ H _ I h) fun v s1 ⟨x,H1,I1,r1,q1⟩=>?_)
 obtain ⟨c,rfl,q1⟩:=q1
 cases r1
 exact not_of (wpAny_truthy_bool ⟨.bl (!c),H1,I1,rfl,q1⟩)
end
end L2
namespace L2
open PySem PySem.Spec PyProof.Rows
/-! ### a list,a tuple that is read: tracked,frozen,or an object of the module -/
def SqL (K:PySem.W.Frag) (H:Hp) (a:Addr) (xs:List V):Prop :=
 Rd H a (.lst xs) ∨
   ∃ (o:Obj) (its:Array Value) (n:Nat),K.lookup a=some o/\o.cls = .type "list"/\o.dict=none/\o.data = .seq its n/\its.size<=sizeLine/\Vals xs its.toList
def SqT (K:PySem.W.Frag) (H:Hp) (a:Addr) (xs:List V):Prop :=
 Rd H a (.tup xs) ∨
   ∃ (o:Obj) (its:Array Value) (n:Nat),K.lookup a=some o/\o.cls = .type "tuple"/\o.data = .seq its n/\its.size<=sizeLine/\Vals xs its.toList
def absV:Value->Option V
 | .none=>some .non
 | .bool b=>some (.bl b)
 | .int i _=>some (.int i)
 | .str x _=>some (.str x)
 | .bytes b _=>some (.byt b)
 | .float b _=>some (.flt b)
 | .ref a=>some (.ref a)
 | .type n=>some (.ty n)
 | _=>none
theorem RelV.abs {x:V} {u:Value} (r:RelV x u):absV u=some x:=by
 cases x with
 | non=>cases r; rfl
 | bl _=>cases r; rfl
 | int _=>obtain ⟨t,rfl⟩:=r; rfl
 | str _=>obtain ⟨t,rfl⟩:=r; rfl
 | byt _=>obtain ⟨t,rfl⟩:=r; rfl
 | flt _=>obtain ⟨t,rfl⟩:=r; rfl
 | ref _=>cases r; rfl
 | ty _=>cases r; rfl
theorem RelV.inj {x y:V} {u:Value} (r:RelV x u) (q:RelV y u):x=y:=Option.some.inj (r.abs.symm.trans q.abs)
theorem Vals.inj:∀ {xs ys:List V} {us:List Value},Vals xs us->Vals ys us->xs=ys
 | _,_,_,.nil,.nil=>rfl
 | _,_,_,.cons r t,.cons r' t'=>by rw[r.inj r',Vals.inj t t']
section
variable {X:Cx} {pins:List (Addr × Obj)} {σ:St} {H:Hp} {s:Shared} {a:Addr} {xs ys:List V}
theorem SqL.of {K:PySem.W.Frag} (h:H a=some (.lst xs)):SqL K H a xs:=.inl (.inl h)
theorem SqT.of {K:PySem.W.Frag} (h:H a=some (.tup xs)):SqT K H a xs:=.inl (.inl h)
theorem Inv.list (I:Inv X pins σ H s) (h:SqL X.K H a xs):∃ its:List Value,Vals xs its/\PlainL s.heap a its.toArray/\xs.length<=sizeLine:=by
 rcases h with h | ⟨o,its,n,hk,hc,hd,hs,hz,r⟩
 . obtain ⟨z,its,n,r,e⟩:=h.ok I.hok
   exact⟨its,r,⟨_,n,e,rfl,rfl,rfl⟩,z⟩
 . refine⟨its.toList,r,⟨o,n,I.kIn a o hk,hc,hd,by simpa using hs⟩,?_⟩
   have e:=r.length
   simp only[Array.length_toList] at e
   omega
theorem Inv.tuple (I:Inv X pins σ H s) (h:SqT X.K H a xs):∃ its:List Value,Vals xs its/\IsTup s.heap a its.toArray/\xs.length<=sizeLine:=by
 rcases h with h | ⟨o,its,n,hk,hc,hs,hz,r⟩
 . obtain ⟨z,its,r,p⟩:=h.ok I.hok
   exact⟨its,r,p.isTup,z⟩
 . refine⟨its.toList,r,⟨o,I.kIn a o hk,hc,n,by simpa using hs⟩,?_⟩
   have e:=r.length
   simp only[Array.length_toList] at e
   omega
theorem Inv.list_inj (I:Inv X pins σ H s) (h:SqL X.K H a xs) (h':SqL X.K H a ys):xs=ys:=by
 obtain ⟨its,r,⟨o,n,e,_,_,d⟩,_⟩:=I.list h
 obtain ⟨its',r',⟨o',n',e',_,_,d'⟩,_⟩:=I.list h'
 rw[e] at e'; cases e'
 rw[d] at d'
 injection d' with d1 _
 have:its=its':=by simpa using congrArg Array.toList d1
 subst this
 exact r.inj r'
theorem Inv.tuple_inj (I:Inv X pins σ H s) (h:SqT X.K H a xs) (h':SqT X.K H a ys):xs=ys:=by
 obtain ⟨its,r,⟨o,e,_,n,d⟩,_⟩:=I.tuple h
 obtain ⟨its',r',⟨o',e',_,n',d'⟩,_⟩:=I.tuple h'
 rw[e] at e'; cases e'
 rw[d] at d'
 injection d' with d1 _
 have:its=its':=by simpa using congrArg Array.toList d1
 subst this
 exact r.inj r'
end
/-! ### another wish about exceptions -/
abbrev Cx.wish (X:Cx) (E:Value->Shared->Prop):Cx:={ X with xe:=E }
abbrev Cx.nox (X:Cx):Cx:=X.wish fun _ _=>False
theorem Cx.Ok.wish {X:Cx} (ok:X.Ok) (E:Value->Shared->Prop):(X.wish E).Ok :=
 ⟨ok.mod,ok.kind,ok.glob,ok.blt,ok.above,ok.inj,ok.has,ok.cab,ok.hd,ok.frames,ok.stk,ok.exf,ok.bs,ok.bsz,ok.noex,ok.exfs,ok.funs,ok.frf⟩
theorem Cx.Ok.unwish {X:Cx} {E:Value->Shared->Prop} (ok:(X.wish E).Ok):X.Ok :=
 ⟨ok.mod,ok.kind,ok.glob,ok.blt,ok.above,ok.inj,ok.has,ok.cab,ok.hd,ok.frames,ok.stk,ok.exf,ok.bs,ok.bsz,ok.noex,ok.exfs,ok.funs,ok.frf⟩
section
variable {X:Cx} {pins:List (Addr × Obj)} {σ:St} {H:Hp} {s:Shared} {E:Value->Shared->Prop}
theorem Inv.wish (I:Inv X pins σ H s) (E:Value->Shared->Prop):Inv (X.wish E) pins σ H s:=⟨I.ok.wish E,I.os,I.bare,I.base,I.loc,I.cell,I.free,I.freeC,I.pin,I.hok,I.len⟩
theorem Inv.unwish (I:Inv (X.wish E) pins σ H s):Inv X pins σ H s:=⟨I.ok.unwish,I.os,I.bare,I.base,I.loc,I.cell,I.free,I.freeC,I.pin,I.hok,I.len⟩
theorem SP.unwish {D:Ends} {f:Flow} {s':Shared} (h:SP (X.wish E) pins D f s'):SP X pins D f s':=by
 cases f with
 | next=>obtain ⟨σ',H',I,q⟩:=h; exact⟨σ',H',I.unwish,q⟩
 | brk=>obtain ⟨σ',H',I,q⟩:=h; exact⟨σ',H',I.unwish,q⟩
 | cont=>obtain ⟨σ',H',I,q⟩:=h; exact⟨σ',H',I.unwish,q⟩
 | ret u=>obtain ⟨v,σ',H',I,r,q⟩:=h; exact⟨v,σ',H',I.unwish,r,q⟩
theorem PSs.nox {st:List Stmt} {t:TS} (h:PSs X.nox st t):PSs X st t:=fun pins s σ H D I hw =>
 wpAny_mono (h pins s σ H D (I.wish _) hw) (fun _ _ q=>q.unwish) fun _ _ z=>False.elim z
end
/-! ### blocks and small statements -/
section
variable {X:Cx} {st:Stmt} {rest:List Stmt} {t u:TS} {e:Expr} {te:TE} {pos:Pos}
def tNext:TS:=fun D σ H=>D.nx σ H
def tSeq (t u:TS):TS:=fun D σ H=>t { D with nx:=u D } σ H
theorem pss_nil:PSs X [] tNext:=fun _ _ σ H _ I h=>wpAny_execs_nil ⟨σ,H,I,h⟩
theorem pss_cons (h1:PS X st t) (h2:PSs X rest u):PSs X (st::rest) (tSeq t u):=by
 intro pins s σ H D I h
 refine wpAny_execs_cons (thn (h1 pins s σ H { D with nx:=u D } I h) fun f s1 q=>?_)
 cases f with
 | next =>
   obtain ⟨σ',H',I',q⟩:=q
   exact h2 pins s1 σ' H' D I' q
 | ret v=>exact q
 | brk=>exact q
 | cont=>exact q
theorem pss_one (h1:PS X st t):PSs X [st] t:=by
 intro pins s σ H D I h
 refine wpAny_execs_cons (thn (h1 pins s σ H D I h) fun f s1 q=>?_)
 cases f with
 | next=>exact wpAny_execs_nil q
 | ret v=>exact q
 | brk=>exact q
 | cont=>exact q
theorem Inv.quiet {pins:List (Addr × Obj)} {σ:St} {H:Hp} {s:Shared} (I:Inv X pins σ H s):interactive X.env=false:=by simp[interactive,I.ok.kind]
def tDrop (te:TE):TS:=fun D σ H=>te σ H fun _ H1=>D.nx σ H1
theorem ps_expr (he:PE X e te) (hs:swapsWith e none pos.line X.env=pure false:=by rfl):PS X (.Expr e pos) (tDrop te):=by
 intro pins s σ H D I h
 exact wpAny_Expr_any (thn (he pins s σ H _ I h) fun v s1 ⟨x,H1,I1,r1,q1⟩=>⟨σ,H1,I1,q1⟩) I.quiet hs
def tRet (te:TE):TS:=fun D σ H=>te σ H D.rt
theorem ps_ret (he:PE X e te):PS X (.Return (some e) pos) (tRet te):=by
 intro pins s σ H D I h
 exact wpAny_Return_some (thn (he pins s σ H _ I h) fun v s1 ⟨x,H1,I1,r1,q1⟩=>⟨x,σ,H1,I1,r1,q1⟩)
def tIfS (c:TT) (t u:TS):TS:=fun D σ H=>c σ H fun b H1=>if b=true then t D σ H1 else u D σ H1
theorem ps_if {c:Expr} {a b:List Stmt} {tc:TT} (hc:PT X c tc) (ha:PSs X a t) (hb:PSs X b u):PS X (.If c a b pos) (tIfS tc t u):=by
 intro pins s σ H D I h
 refine wpAny_If (thn (hc pins s σ H _ I h) fun d s1 ⟨H1,I1,q1⟩=>?_)
 cases d with
 | true=>exact ha pins s1 σ H1 D I1 q1
 | false=>exact hb pins s1 σ H1 D I1 q1
def tNever:TS:=fun _ _ _=>False
theorem ps_never:PS X st tNever:=fun _ _ _ _ _ _ h=>h.elim
end
/-! ### targets -/
abbrev TG:=V->St->Hp->(St->Hp->Prop)->Prop
abbrev TGs:=List V->St->Hp->(St->Hp->Prop)->Prop
def PG (X:Cx) (target:Expr) (t:TG):Prop :=
 ∀ (pins:List (Addr × Obj)) (s:Shared) (σ:St) (H:Hp) (v:V) (u:Value) (Q:St->Hp->Prop),Inv X pins σ H s->RelV v u->t v σ H Q →
   wpAny (model X.prog X.w) X.A (assign target X.env u) (fun _ s'=>∃ σ' H',Inv X pins σ' H' s'/\Q σ' H') X.xe s
def PGs (X:Cx) (ts:List Expr) (t:TGs):Prop :=
 ∀ (pins:List (Addr × Obj)) (s:Shared) (σ:St) (H:Hp) (vs:List V) (us:List Value) (Q:St->Hp->Prop),Inv X pins σ H s->Vals vs us->t vs σ H Q →
   wpAny (model X.prog X.w) X.A (assignInOrder ((assignEach ts X.env).map (·.2)) us) (fun _ s'=>∃ σ' H',Inv X pins σ' H' s'/\Q σ' H') X.xe s
abbrev TSet:=V->V->V->Hp->(Hp->Prop)->Prop
def PSet (X:Cx) (t:TSet):Prop :=
 ∀ (pins:List (Addr × Obj)) (s:Shared) (σ:St) (H:Hp) (o i v:V) (ov iv u:Value) (Q:Hp->Prop),Inv X pins σ H s->RelV o ov->RelV i iv->RelV v u->t o i v H Q →
   wpAny (model X.prog X.w) X.A (setItem ov iv u) (fun _ s'=>∃ H',Inv X pins σ H' s'/\Q H') X.xe s
section
variable {X:Cx} {pos:Pos}
def gName (i:Nat):TG:=fun v σ H Q=>Q (σ.set i (some v)) H
theorem pg_name {i:Nat} {x:Str} (hN:X.N.Nodup) (hi:X.N[i]?=some x) (hx:Loc X.env.scope x) (hf:X.fn x=true\/X.env.scope.names.lookup x=some .local:=by first | exact .inl rfl | exact .inr rfl | assumption):PG X (.Name x pos) (gName i):=by
 intro pins s σ H v u Q I r h
 exact wpAny_assign_Name (store_ok I hN hi hx r (fun s' I'=>⟨_,H,I',h⟩) hf)
def gNil:TGs:=fun vs σ H Q=>vs=[]/\Q σ H
def gCons (t:TG) (u:TGs):TGs:=fun vs σ H Q=>∃ v r,vs=v::r/\t v σ H fun σ' H'=>u r σ' H' Q
theorem pgs_nil:PGs X [] gNil:=by
 intro pins s σ H vs us Q I r h
 obtain ⟨e,h⟩:=h
 subst e
 cases r
 exact assignInOrder_nil ⟨σ,H,I,h⟩
theorem pgs_cons {e:Expr} {es:List Expr} {t:TG} {u:TGs} (h1:PG X e t) (h2:PGs X es u)
   (hs:(assignEach (e::es) X.env).map (·.2)=assign e X.env::(assignEach es X.env).map (·.2):=by rfl):PGs X (e::es) (gCons t u):=by
 intro pins s σ H vs us Q I r h
 obtain ⟨v,vr,e1,h⟩:=h
 subst e1
 cases r with
 | cons r rr =>
   rw[hs]
   refine assignInOrder_cons (thn (h1 pins s σ H _ _ _ I r h) fun _ s1 ⟨σ1,H1,I1,q1⟩=>?_)
   exact h2 pins s1 σ1 H1 _ _ Q I1 rr q1
def gTup (K:PySem.W.Frag) (n:Nat) (t:TGs):TG:=fun v σ H Q=>∃ a xs,v = .ref a/\SqT K H a xs/\xs.length=n/\t xs σ H Q
theorem pg_tup {es:List Expr} {k:Nat} {t:TGs} {n:Nat} (hc:X.calm=true) (h:PGs X es t)
   (hn:(assignEach es X.env).length=n:=by rfl) (hst:(assignEach es X.env).findIdx? (·.1)=none:=by rfl):PG X (.Tuple es k pos) (gTup X.K n t):=by
 intro pins s σ H v u Q I r hw
 obtain ⟨a,xs,e1,hq,hl,hw⟩:=hw
 subst e1
 cases r
 obtain ⟨its,rv,ht,hz⟩:=I.tuple hq
 refine assign_Tuple_tuple (I.ok.hd hc) ht (by simp[hn,<-hl,rv.length]) hst fun h' hx=>?_
 have I1:Inv X pins σ H { s with heap:=h' }:=I.kept (t':=s.toks) fun b o e=>hx b o (Nat.ne_of_lt (Heap.lt_size e)) e
 exact h pins _ σ H xs _ Q I1 (by simpa using rv) hw
def gSub (to ti:TE) (t:TSet):TG:=fun v σ H Q=>to σ H fun o H1=>ti σ H1 fun i H2=>t o i v H2 fun H3=>Q σ H3
theorem pg_sub {o i:Expr} {to ti:TE} {t:TSet} (ho:PE X o to) (hi:PE X i ti) (hs:PSet X t)
   (ha:∀ v,assign (.Subscript o i pos) X.env v=(do
     let ov <-holding [v] (eval o X.env)
     let iv <-holding [v,ov] (eval i X.env)
     standAt pos
     holding [v,ov,iv] (setItem ov iv v)
     release [v,ov,iv] []):=by intro _; rfl):PG X (.Subscript o i pos) (gSub to ti t):=by
 intro pins s σ H v u Q I r h
 rw[ha]
 refine wpAny_bind (wpAny_holding (thn (ho pins s σ H _ I h) fun ov s1 ⟨x,H1,I1,r1,q1⟩=>?_))
 refine wpAny_bind (wpAny_holding (thn (hi pins s1 σ H1 _ I1 q1) fun iv s2 ⟨y,H2,I2,r2,q2⟩=>?_))
 refine wpAny_bind (wpAny_standAt (wpAny_bind (wpAny_holding (thn (hs pins s2 σ H2 x y v ov iv u _ I2 r1 r2 r q2) fun _ s3 ⟨H3,I3,q3⟩=>?_))))
 exact wpAny_release ⟨σ,H3,I3,q3⟩
def tAsg (te:TE) (g:TG):TS:=fun D σ H=>te σ H fun x H1=>g x σ H1 D.nx
theorem ps_asg {tg e:Expr} {te:TE} {g:TG} (he:PE X e te) (hg:PG X tg g) (hs:swapsWithSole [tg] e pos.line X.env=pure false:=by rfl) (hw:swappedStores [tg] e X.env=pure none:=by rfl)
   (h1:(assignEach [tg] X.env).map (·.2)=[assign tg X.env]:=by rfl):PS X (.Assign [tg] e pos) (tAsg te g):=by
 intro pins s σ H D I h
 refine wpAny_Assign_stores (thn (he pins s σ H _ I h) fun v s1 ⟨x,H1,I1,r1,q1⟩=>?_) hs hw
 rw[h1]
 exact thn (hg pins s1 σ H1 x v _ I1 r1 q1) fun _ s2 q=>q
theorem ps_set {i:Nat} {x:Str} {e:Expr} {te:TE} {pos':Pos} (hN:X.N.Nodup) (hi:X.N[i]?=some x) (hx:Loc X.env.scope x) (he:PE X e te) (hs:swapsWith e (some (.Name x pos')) pos.line X.env=pure false:=by rfl) (hf:X.fn x=true\/X.env.scope.names.lookup x=some .local:=by first | exact .inl rfl | exact .inr rfl | assumption) :
   PS X (.Assign [.Name x pos'] e pos) (tAsg te (gName i)):=by
 intro pins s σ H D I h
 refine wpAny_Assign_Name (thn (he pins s σ H _ I h) fun v s1 ⟨y,H1,I1,r1,q1⟩=>?_) hs
 exact store_ok I1 hN hi hx r1 (fun s2 I2=>⟨_,H1,I2,q1⟩) hf
def tPar (i j:Nat) (ta:TA):TS:=fun D σ H=>ta σ H fun vs H1=>∃ v w,vs=[v,w]/\D.nx ((σ.set i (some v)).set j (some w)) H1
theorem ps_par {i j:Nat} {x y:Str} {a b:Expr} {ta:TA} {px py pt:Pos} {kt k2 pt2} (hc:X.calm=true) (hN:X.N.Nodup) (hi:X.N[i]?=some x) (hj:X.N[j]?=some y) (hij:i≠j)
   (hx:X.env.scope.names.lookup x=some .local) (hy:X.env.scope.names.lookup y=some .local) (ha:PA X [a,b] ta)
   (hw:swappedStores [.Tuple [.Name x px,.Name y py] kt pt] (.Tuple [a,b] k2 pt2) X.env=pure (some [x,y]))
   (hs:swapsWithSole [.Tuple [.Name x px,.Name y py] kt pt] (.Tuple [a,b] k2 pt2) pos.line X.env=pure false:=by rfl) :
   PS X (.Assign [.Tuple [.Name x px,.Name y py] kt pt] (.Tuple [a,b] k2 pt2) pos) (tPar i j ta):=by
 intro pins s σ H D I h
 rw[exec_Assign_arm]
 refine wpAny_bind (wpAny_standAt ?_)
 rw[hs]
 refine wpAny_bind (wpAny_pure ?_)
 rw[if_neg (by decide)]
 refine wpAny_bind (Tuple_ (thn (ha _ pins s σ H _ I h) fun us s1 ⟨vs,H1,I1,r1,q1⟩=>?_))
 obtain ⟨v,w,e1,q1⟩:=q1
 subst e1
 obtain ⟨u1,u2,rfl,rv,rw'⟩:∃ u1 u2,us=[u1,u2]/\RelV v u1/\RelV w u2:=by
   cases r1 with
   | cons p q =>
     cases q with
     | cons p' q' =>
       cases q'
       exact⟨_,_,rfl,p,p'⟩
 refine wpAny_newObj_type ?_ (by show 2<=sizeLine; decide)
 have I2:Inv X pins σ H1 { s1 with heap:=s1.heap.push { cls:=.type "tuple",data:=.seq [u1,u2].toArray } }:=I1.kept (t':=s1.toks) fun b o e=>Heap.get?_push_of_some _ e
 rw[hw]
 refine wpAny_bind (wpAny_pure ?_)
 show wpAny (model X.prog X.w) X.A (do rule "assign.swapped-stores"; let items <-unpackItems (.ref s1.heap.objs.size) 2 none; assignInOrder [fun v=>bindName X.env y v,fun v=>bindName X.env x v] items.reverse; pure Flow.next) _ _ _
 refine wpAny_bind (wpAny_rule (wpAny_bind (unpackItems_tuple (items:=#[u1,u2]) (I.ok.hd hc) (IsTup.new s1.heap _) fun h' hx'=>?_)))
 have I3:=I2.kept (h':=h') (t':=s1.toks) fun b o e=>hx' b o (Nat.ne_of_lt (Heap.lt_size e)) e
 show wpAny _ _ (assignInOrder [fun v=>bindName X.env y v,fun v=>bindName X.env x v] [u2,u1] >>= fun _=>pure Flow.next) _ _ _
 refine wpAny_bind (assignInOrder_cons (wpAny_bindName (store_ok I3 hN hj (.inl hy) rw' (fun s2 I4=>?_) (.inr hy))))
 refine assignInOrder_cons (wpAny_bindName (store_ok I4 hN hi (.inl hx) rv (fun s3 I5=>assignInOrder_nil (wpAny_pure ?_)) (.inr hx)))
 rw[List.set_comm _ _ (Ne.symm hij)] at I5
 exact⟨_,H1,I5,q1⟩
end
/-! ### while -/
section
variable {X:Cx} {pos:Pos}
end
/-! ### what a loop or a comprehension walks -/
structure It where
 go:Nat->Hp->Prop
 yld:Nat->Hp->V->Hp->Prop
 stop:Nat->Hp->Prop
def FpOk (X:Cx) (pins:List (Addr × Obj)) (H:Hp) (b:Addr):Prop :=
 H b=none/\b≠X.env.locals/\b ∉ X.fs/\(b∈X.ex\/X.s₀.heap.objs.size<=b)/\(∀ x c,X.env.cells.lookup x=some c->c≠b)/\∀ p∈X.pn++pins,p.1≠b
theorem Inv.fpOk {X:Cx} {pins:List (Addr × Obj)} {σ:St} {H H':Hp} {s:Shared} {b:Addr} (I:Inv X pins σ H s) (hb:s.heap.objs.size<=b) (hn:H' b=none):FpOk X pins H' b:=by
 refine⟨hn,Nat.ne_of_gt (Nat.lt_of_lt_of_le I.lt hb),I.nofs hb,.inr (Nat.le_trans I.sz hb),fun x c e z=>?_,fun p hp z=>?_⟩
 . obtain ⟨v,q⟩:=I.cell x c e
   exact absurd (Nat.lt_of_lt_of_le q.lt (by rw[z]; exact hb)) (Nat.lt_irrefl _)
 . exact absurd (Nat.lt_of_lt_of_le (Heap.lt_size (I.pin p hp).1) (by rw[z]; exact hb)) (Nat.lt_irrefl _)
structure Turn (P:Program) (w:World) (K:PySem.W.Frag) (tg:Expr) (J:It) (fp:List Addr) (it:Addr) (tn:Nat->Heap->Prop):Prop where
 mem:it∈fp
 obj:∀ i h,tn i h->∀ b∈fp,∃ o,h.get? b=some o/\∀ v,o.data≠.cell v
 keep:∀ i h h',tn i h->(∀ b∈fp,∀ o,h.get? b=some o->h'.get? b=some o)->tn i h'
 item:∀ (X:Cx),X.prog=P->X.w=w->X.K=K->X.calm=true->∀ (i:Nat) (pins:List (Addr × Obj)) (s:Shared) (σ:St) (H:Hp) (E:Value->Shared->Prop),Inv X pins σ H s->(∀ b∈fp,FpOk X pins H b)->tn i s.heap->J.go i H →
   wpAny (model P w) X.A (pyNext (.ref it)) (fun r s1=>∃ u,r=some u ∧
     wpAny (model P w) X.A (letOwnedTupleGo tg (.ref it) u) (fun _ s2=>∃ x H',Inv X pins σ H' s2/\RelV x u/\J.yld i H x H'/\tn (i+1) s2.heap/\∀ b∈fp,H' b=none) E s1) E s
 done:∀ (X:Cx),X.prog=P->X.w=w->X.K=K->X.calm=true->∀ (i:Nat) (pins:List (Addr × Obj)) (s:Shared) (σ:St) (H:Hp) (E:Value->Shared->Prop),Inv X pins σ H s->(∀ b∈fp,FpOk X pins H b)->tn i s.heap->J.stop i H →
   wpAny (model P w) X.A (pyNext (.ref it)) (fun r s1=>r=none/\Inv X pins σ H s1) E s
 self:∀ (A:Around) (i:Nat) (s:Shared) (Q:Value->Shared->Prop) (E:Value->Shared->Prop),tn i s.heap->Q (.ref it) s->wpAny (model P w) A (pyIter (.ref it)) Q E s
abbrev TI:=St->Hp->(It->Hp->Prop)->Prop
def PIE (X:Cx) (pins:List (Addr × Obj)) (σ:St) (tg:Expr) (R:It->Hp->Prop) (itv:Value) (s2:Shared):Prop :=
 ∃ (it:Addr) (fp:List Addr) (tn:Nat->Heap->Prop) (J:It) (H':Hp),itv = .ref it/\Inv X pins σ H' s2/\Turn X.prog X.w X.K tg J fp it tn/\tn 0 s2.heap/\(∀ b∈fp,FpOk X pins H' b)/\R J H'
def PI (X:Cx) (tg iter:Expr) (wi:TI):Prop :=
 ∀ (pins:List (Addr × Obj)) (s:Shared) (σ:St) (H:Hp) (R:It->Hp->Prop),Inv X pins σ H s->wi σ H R →
   wpAny (model X.prog X.w) X.A (eval iter X.env) (fun v s1=>wpAny (model X.prog X.w) X.A (pyIter v) (PIE X pins σ tg R) X.xe s1) X.xe s
theorem go_of {M:Model} {A:Around} {E:Value->Shared->Prop} {s:Shared} {tg:Expr} {it:Addr} {u:Value} {o:Obj} {n:String} {vs:Array Value} {Q:Unit->Shared->Prop} (ho:s.heap.get? it=some o) (hc:o.cls = .type n) (hd:o.data = .fields vs)
   (hn:["enumerate","zip","dict_itemiterator","dict_reverseitemiterator","odict_iterator","itertools.zip_longest","itertools.pairwise"].contains n=false) (hQ:Q () s):wpAny M A (letOwnedTupleGo tg (.ref it) u) Q E s:=by
 unfold letOwnedTupleGo
 cases tg <;> first
   | exact wpAny_pure hQ
   | (cases u <;> first
       | exact wpAny_pure hQ
       | (refine wpAny_bind (wpAny_load ho ?_)
          rw[hc,hd]
          show wpAny M A (if (["enumerate","zip","dict_itemiterator","dict_reverseitemiterator","odict_iterator","itertools.zip_longest","itertools.pairwise"].contains n && vs[0]? == some (rawInt _))=true then _ else _) Q E s
          rw[if_neg (by intro h; rw[hn,Bool.false_and] at h; cases h)]
          exact wpAny_pure hQ))
def Itl (K:PySem.W.Frag) (a:Addr):It :=
 ⟨fun i H=>∃ xs x,SqL K H a xs/\xs[i]?=some x,fun i H x H'=>H'=H/\∀ xs,SqL K H a xs->xs[i]?=some x,fun i H=>∃ xs,SqL K H a xs/\xs.length<=i⟩
def Itt (K:PySem.W.Frag) (a:Addr):It :=
 ⟨fun i H=>∃ xs x,SqT K H a xs/\xs[i]?=some x,fun i H x H'=>H'=H/\∀ xs,SqT K H a xs->xs[i]?=some x,fun i H=>∃ xs,SqT K H a xs/\xs.length<=i⟩
def Itr (lo:Int) (n:Nat):It:=⟨fun i _=>i < n,fun i H x H'=>H'=H/\x = .int (lo+i),fun i _=>n<=i⟩
theorem turn_list {P:Program} {w:World} {K:PySem.W.Frag} {tg:Expr} (a it:Addr):Turn P w K tg (Itl K a) [it] it (fun i h=>h.IsListIter it a i) where
 mem:=by simp
 obj:=fun i h st b hb=>by
   have e:b=it:=by simpa using hb
   subst e
   obtain ⟨o,e,c,d⟩:=st
   exact⟨o,e,fun v z=>by rw[d] at z; cases z⟩
 keep:=fun i h h' st k=>st.at fun o e=>k it (by simp) o e
 item:=by
   intro X hP hw hK hc i pins s σ H E I hf st hg
   subst hP hw hK
   obtain ⟨xs,x,hq,hx⟩:=hg
   obtain ⟨its,rv,p,hz⟩:=I.list hq
   obtain ⟨u,hu,ru⟩:=rv.get hx
   obtain ⟨f0,f1,f2,f3,f4,f5⟩:=hf it (by simp)
   refine wpAny_pyNext_list_item st p.isList (x:=u) (by simpa using hu) fun h' st' sb=>?_
   have I1:Inv X pins σ H { s with heap:=h' }:=I.turned (t':=s.toks) (fun b o hb e=>(sb.2 b hb).trans e) f0 f1 f3 f4 f5
   obtain ⟨o,e,c,d⟩:=id st'
   exact⟨u,rfl,go_of (s:={ s with heap:=h' }) e c d (by decide) ⟨x,H,I1,ru,⟨rfl,fun ys hy=>by rw[I.list_inj hy hq]; exact hx⟩,st',fun b hb=>(hf b hb).1⟩⟩
 done:=by
   intro X hP hw hK hc i pins s σ H E I hf st hg
   subst hP hw hK
   obtain ⟨xs,hq,hx⟩:=hg
   obtain ⟨its,rv,p,hz⟩:=I.list hq
   obtain ⟨f0,f1,f2,f3,f4,f5⟩:=hf it (by simp)
   have hl:=rv.length
   exact wpAny_pyNext_list_end (I.ok.hd hc) st p.isList (by simp; omega) fun h' eb=>⟨rfl,I.turned (t':=s.toks) (fun b o hb e=>eb b o hb e) f0 f1 f3 f4 f5⟩
 self:=fun _ _ _ _ _ st h=>wpAny_pyIter_listiter st h
theorem turn_tuple {P:Program} {w:World} {K:PySem.W.Frag} {tg:Expr} (a it:Addr):Turn P w K tg (Itt K a) [it] it (fun i h=>h.IsTupleIter it a i) where
 mem:=by simp
 obj:=fun i h st b hb=>by
   have e:b=it:=by simpa using hb
   subst e
   obtain ⟨o,e,c,d⟩:=st
   exact⟨o,e,fun v z=>by rw[d] at z; cases z⟩
 keep:=fun i h h' st k=>st.at fun o e=>k it (by simp) o e
 item:=by
   intro X hP hw hK hc i pins s σ H E I hf st hg
   subst hP hw hK
   obtain ⟨xs,x,hq,hx⟩:=hg
   obtain ⟨its,rv,p,hz⟩:=I.tuple hq
   obtain ⟨u,hu,ru⟩:=rv.get hx
   obtain ⟨f0,f1,f2,f3,f4,f5⟩:=hf it (by simp)
   refine wpAny_pyNext_tuple_item st (show s.heap.IsTuple a its.toArray from p) (x:=u) (by simpa using hu) fun h' st' sb=>?_
   have I1:Inv X pins σ H { s with heap:=h' }:=I.turned (t':=s.toks) (fun b o hb e=>(sb.2 b hb).trans e) f0 f1 f3 f4 f5
   obtain ⟨o,e,c,d⟩:=id st'
   exact⟨u,rfl,go_of (s:={ s with heap:=h' }) e c d (by decide) ⟨x,H,I1,ru,⟨rfl,fun ys hy=>by rw[I.tuple_inj hy hq]; exact hx⟩,st',fun b hb=>(hf b hb).1⟩⟩
 done:=by
   intro X hP hw hK hc i pins s σ H E I hf st hg
   subst hP hw hK
   obtain ⟨xs,hq,hx⟩:=hg
   obtain ⟨its,rv,p,hz⟩:=I.tuple hq
   obtain ⟨f0,f1,f2,f3,f4,f5⟩:=hf it (by simp)
   have hl:=rv.length
   exact wpAny_pyNext_tuple_end (I.ok.hd hc) st (show s.heap.IsTuple a its.toArray from p) (by simp; omega) fun h' eb=>⟨rfl,I.turned (t':=s.toks) (fun b o hb e=>eb b o hb e) f0 f1 f3 f4 f5⟩
 self:=fun _ _ _ _ _ st h=>wpAny_pyIter_tupleiter st h
theorem turn_range {P:Program} {w:World} {K:PySem.W.Frag} {tg:Expr} (it:Addr) (lo:Int) (n:Nat):Turn P w K tg (Itr lo n) [it] it (fun i h=>IsRangeIter h it (lo+(i:Nat)*1) ((n:Int) - (i:Nat)) 1) where
 mem:=by simp
 obj:=fun i h st b hb=>by
   have e:b=it:=by simpa using hb
   subst e
   exact⟨_,st,fun v z=>by
     have z':Data.fields _=Data.cell v:=z
     cases z'⟩
 keep:=fun i h h' st k=>k it (by simp) _ st
 item:=by
   intro X hP hw hK hc i pins s σ H E I hf st hg
   subst hP hw hK
   obtain ⟨f0,f1,f2,f3,f4,f5⟩:=hf it (by simp)
   have W:=Walks.range (prog:=X.prog) (w:=X.w) (I.ok.hd hc) it lo 1 n
   refine W.item i s _ _ hg st fun v h' tk hv st' kk=>?_
   obtain ⟨t,rfl⟩:=hv
   have I1:Inv X pins σ H { s with heap:=h',toks:=tk }:=I.turned (fun b o hb e=>kk b o (by simpa using hb) e) f0 f1 f3 f4 f5
   refine⟨_,rfl,go_of (s:={ s with heap:=h',toks:=tk }) (n:="range_iterator") st' rfl rfl (by decide) ⟨.int (lo+i),H,I1,⟨t,?_⟩,⟨rfl,rfl⟩,st',fun b hb=>(hf b hb).1⟩⟩
   rw[Int.mul_one]
 done:=by
   intro X hP hw hK hc i pins s σ H E I hf st hg
   subst hP hw hK
   obtain ⟨f0,f1,f2,f3,f4,f5⟩:=hf it (by simp)
   exact wpAny_pyNext_range_end (I.ok.hd hc) st (by have:n<=i:=hg; omega) fun h' eb=>⟨rfl,I.turned (t':=s.toks) (fun b o hb e=>eb b o hb e) f0 f1 f3 f4 f5⟩
 self:=fun _ _ _ _ _ st h=>wpAny_pyIter_rangeiter st h
end L2
namespace L2
open PySem PySem.Spec PyProof.Rows
section
variable {X:Cx} {tg:Expr}
def iList (K:PySem.W.Frag) (tl:TE):TI:=fun σ H R=>tl σ H fun x H1=>∃ a,x = .ref a/\(∃ xs,SqL K H1 a xs)/\R (Itl K a) H1
def iTup (K:PySem.W.Frag) (tl:TE):TI:=fun σ H R=>tl σ H fun x H1=>∃ a,x = .ref a/\(∃ xs,SqT K H1 a xs)/\R (Itt K a) H1
theorem pi_list {l:Expr} {tl:TE} (hl:PE X l tl):PI X tg l (iList X.K tl):=by
 intro pins s σ H R I h
 refine thn (hl pins s σ H _ I h) fun v s1 ⟨x,H1,I1,r1,q1⟩=>?_
 obtain ⟨a,e,⟨xs,hq⟩,q⟩:=q1
 subst e
 cases r1
 obtain ⟨its,rv,p,hz⟩:=I1.list hq
 refine wpAny_pyIter_list p.isList ?_
 refine⟨s1.heap.objs.size,[s1.heap.objs.size],_,_,H1,rfl,I1.kept (t':=s1.toks) fun b o e=>Heap.get?_push_of_some _ e,turn_list a _,⟨_,Heap.get?_push_size _ rfl,rfl,rfl⟩,fun b hb=>?_,q⟩
 have e:b=s1.heap.objs.size:=by simpa using hb
 subst e
 exact I1.fpOk (Nat.le_refl _) (I1.hok.fresh (Nat.le_refl _))
theorem pi_tup {l:Expr} {tl:TE} (hl:PE X l tl):PI X tg l (iTup X.K tl):=by
 intro pins s σ H R I h
 refine thn (hl pins s σ H _ I h) fun v s1 ⟨x,H1,I1,r1,q1⟩=>?_
 obtain ⟨a,e,⟨xs,hq⟩,q⟩:=q1
 subst e
 cases r1
 obtain ⟨its,rv,p,hz⟩:=I1.tuple hq
 refine wpAny_pyIter_tuple (show s1.heap.IsTuple a its.toArray from p) ?_
 refine⟨s1.heap.objs.size,[s1.heap.objs.size],_,_,H1,rfl,I1.kept (t':=s1.toks) fun b o e=>Heap.get?_push_of_some _ e,turn_tuple a _,⟨_,Heap.get?_push_size _ rfl,rfl,rfl⟩,fun b hb=>?_,q⟩
 have e:b=s1.heap.objs.size:=by simpa using hb
 subst e
 exact I1.fpOk (Nat.le_refl _) (I1.hok.fresh (Nat.le_refl _))
theorem range_it {pins:List (Addr × Obj)} {σ:St} {H:Hp} {s:Shared} {R:It->Hp->Prop} {E:Value->Shared->Prop} {lo hi:Int} {t u v:Tok} {tk:Nat} (I:Inv X pins σ H s) (h1:-(2 ^ 62)<=lo) (h2:lo < 2 ^ 62) (h3:-(2 ^ 62)<=hi) (h4:hi < 2 ^ 62)
   (q:R (Itr lo (hi - lo).toNat) H):wpAny (model X.prog X.w) X.A (pyIter (.ref s.heap.objs.size)) (PIE X pins σ tg R) E { s with heap:=s.heap.push { cls:=.type "range",data:=.fields #[.int lo t,.int hi u,.int 1 v] },toks:=tk }:=by
 refine wpAny_pyIter_range (IsRange.new ..) (small_one h1 h2 h3 h4) ?_
 have I1:Inv X pins σ H { s with heap:=s.heap.push { cls:=.type "range",data:=.fields #[.int lo t,.int hi u,.int 1 v] },toks:=tk }:=I.kept fun b o e=>Heap.get?_push_of_some _ e
 refine⟨(s.heap.push { cls:=.type "range",data:=.fields #[.int lo t,.int hi u,.int 1 v] }).objs.size,[(s.heap.push { cls:=.type "range",data:=.fields #[.int lo t,.int hi u,.int 1 v] }).objs.size],_,_,H,rfl,
   I1.kept (t':=tk) fun b o e=>Heap.get?_push_of_some _ e,turn_range _ lo (hi - lo).toNat,?_,fun b hb=>?_,q⟩
 . have e1:lo+((0:Nat):Int)*1=lo:=by simp
   have e2:(((hi - lo).toNat:Nat):Int) - ((0:Nat):Int)=Builtin.Range.rangeSize lo hi 1:=by rw[rangeSize_one]; split <;> omega
   show IsRangeIter _ _ (lo+((0:Nat):Int)*1) ((((hi - lo).toNat:Nat):Int) - ((0:Nat):Int)) 1
   rw[e1,e2]
   exact Heap.get?_push_size _ rfl
 . have e:b=(s.heap.push { cls:=.type "range",data:=.fields #[.int lo t,.int hi u,.int 1 v] }).objs.size:=by simpa using hb
   subst e
   exact I1.fpOk (Nat.le_refl _) (I1.hok.fresh (Nat.le_refl _))
def iRng1 (ta:TA):TI:=fun σ H R=>ta σ H fun vs H1=>∃ j:Int,vs=[.int j]/\-(2 ^ 62)<=j/\j < 2 ^ 62/\R (Itr 0 j.toNat) H1
def iRng2 (ta:TA):TI:=fun σ H R=>ta σ H fun vs H1=>∃ i j:Int,vs=[.int i,.int j]/\(-(2 ^ 62)<=i/\i < 2 ^ 62/\-(2 ^ 62)<=j/\j < 2 ^ 62)/\R (Itr i (j - i).toNat) H1
theorem pi_range1 {a:Expr} {ta:TA} {p pos:Pos} (hg:Gl X "range") (hm:X.mg "range" = none) (ha:PA X [a] ta) (hs:starEach [a] X.env=[(false,eval a X.env)]:=by rfl):PI X tg (.Call (.Name "range" p) [a] [] pos) (iRng1 ta):=by
 intro pins s σ H R I h
 refine Call_ (ld_blt I hg hm boot_range (PyProof.Rows.callWith_type1 (thn (ha pos pins s σ H _ I h) fun us s1 ⟨vs,H1,I1,r1,q1⟩=>?_) hs rfl))
 obtain ⟨j,e,q1,q2,q⟩:=q1
 subst e
 cases r1 with
 | cons r rr =>
   cases rr
   obtain ⟨t,rfl⟩:=r
   exact call_range_1 (range_it I1 (by omega) (by omega) q1 q2 (by simpa using q))
theorem pi_range2 {a b:Expr} {ta:TA} {p pos:Pos} (hg:Gl X "range") (hm:X.mg "range" = none) (ha:PA X [a,b] ta) (hs:starEach [a,b] X.env=[(false,eval a X.env),(false,eval b X.env)]:=by rfl) (hs2:starEach [b] X.env=[(false,eval b X.env)]:=by rfl) :
   PI X tg (.Call (.Name "range" p) [a,b] [] pos) (iRng2 ta):=by
 intro pins s σ H R I h
 refine Call_ (ld_blt I hg hm boot_range (PyProof.Rows.callWith_type1 (thn (ha pos pins s σ H _ I h) fun us s1 ⟨vs,H1,I1,r1,q1⟩=>?_) (by rw[hs,hs2]) (by rw[hs2]; rfl)))
 obtain ⟨i,j,e,⟨q1,q2,q3,q4⟩,q⟩:=q1
 subst e
 cases r1 with
 | cons r rr =>
   cases rr with
   | cons r' rr =>
     cases rr
     obtain ⟨t,rfl⟩:=r
     obtain ⟨t',rfl⟩:=r'
     exact call_range_2 (range_it I1 q1 q2 q3 q4 q)
/-! ### for -/
def tFor (wi:TI) (g:TG) (tb:TS):TS:=fun D σ H=>wi σ H fun J H1=>∃ W:Nat->Nat->St->Hp->Prop,(∃ m,W 0 m σ H1)/\∀ i m σ H,W i m σ H →
 (J.stop i H/\D.nx σ H)\/(J.go i H/\∃ N:St->Hp->Prop,(∀ σ' H',N σ' H'->∃ m',m' < m/\W (i+1) m' σ' H')/\∀ x H',J.yld i H x H'->g x σ H' fun σ2 H2=>tb { D with nx:=N,ct:=N,bk:=D.nx } σ2 H2)
def pinsAt (fp:List Addr) (h:Heap):List (Addr × Obj):=fp.filterMap fun b=>(h.get? b).map fun o=>(b,o)
theorem mem_pinsAt {fp:List Addr} {h:Heap} {b:Addr} {o:Obj} (hb:b∈fp) (e:h.get? b=some o):(b,o)∈pinsAt fp h:=List.mem_filterMap.mpr ⟨b,hb,by rw[e]; rfl⟩
theorem of_pinsAt {fp:List Addr} {h:Heap} {p:Addr × Obj} (hp:p∈pinsAt fp h):p.1∈fp/\h.get? p.1=some p.2:=by
 obtain ⟨b,hb,e⟩:=List.mem_filterMap.mp hp
 cases q:h.get? b with
 | none=>rw[q] at e; cases e
 | some o =>
   rw[q] at e
   have e':(b,o)=p:=Option.some.inj e
   subst e'
   exact⟨hb,q⟩
theorem Inv.pinned {pins:List (Addr × Obj)} {σ:St} {H:Hp} {s:Shared} {fp:List Addr} (I:Inv X pins σ H s) (hf:∀ b∈fp,FpOk X pins H b) (ho:∀ b∈fp,∃ o,s.heap.get? b=some o/\∀ v,o.data≠.cell v):Inv X (pins++pinsAt fp s.heap) σ H s :=
 I.pins_of fun p hp=>(List.mem_append.mp hp).elim (fun z=>I.pin p (List.mem_append_right _ z)) fun z=>by
   obtain ⟨hb,e⟩:=of_pinsAt z
   obtain ⟨f0,f1,f2,_⟩:=hf p.1 hb
   obtain ⟨o,e',d⟩:=ho p.1 hb
   rw[e] at e'; cases e'
   exact⟨e,f0,f1,f2,d⟩
theorem Inv.unpinned {pins pl:List (Addr × Obj)} {σ:St} {H:Hp} {s:Shared} (I:Inv X (pins++pl) σ H s):Inv X pins σ H s:=I.pins_of fun p hp=>I.pin p (List.mem_append_right _ (List.mem_append_left _ hp))
theorem ps_for {iter:Expr} {body:List Stmt} {wi:TI} {g:TG} {tb:TS} {pos:Pos} (hp:PassesOwn (model X.prog X.w) X.A X.env X.xe) (hc:X.calm=true) (hi:PI X tg iter wi) (hg:PG X tg g) (hb:PSs X body tb)
   (hs:∀ x,foldedSetIterable iter X.env x=pure x:=by intro _; rfl):PS X (.For tg iter body [] pos) (tFor wi g tb):=by
 intro pins s σ H D I h
 refine wpAny_For (thn (hi pins s σ H _ I h) fun v s1 h1=>thn h1 fun itv s2 h2=>?_) hs
 obtain ⟨it,fp,tn,J,H2,e,I2,T,st2,f2,W,⟨m0,w0⟩,turn⟩:=h2
 subst e
 have stat:∀ {H':Hp},(∀ b∈fp,H' b=none)->∀ b∈fp,FpOk X pins H' b:=fun hn b hb=>⟨hn b hb,(f2 b hb).2⟩
 refine codeAny_forLoop_any (fun n s'=>∃ i σ' H',Inv X pins σ' H' s'/\tn i s'.heap/\(∀ b∈fp,H' b=none)/\W i n σ' H') ?_ m0 ⟨0,σ,H2,I2,st2,fun b hb=>(f2 b hb).1,w0⟩
 rintro n s3 ⟨i,σ3,H3,I3,st3,fr3,w3⟩
 rcases turn i n σ3 H3 w3 with ⟨stop,qn⟩ | ⟨go,N,hN,step⟩
 . refine wpAny_passesOwn hp (thn (T.done X rfl rfl rfl hc i pins s3 σ3 H3 X.xe I3 (stat fr3) st3 stop) fun r s4 ⟨hr,I4⟩=>?_)
   subst hr
   exact wpAny_execs_nil ⟨σ3,H3,I4,qn⟩
 . refine wpAny_passesOwn hp (thn (T.item X rfl rfl rfl hc i pins s3 σ3 H3 X.xe I3 (stat fr3) st3 go) fun r s4 ⟨u,hr,h4⟩=>?_)
   subst hr
   refine wpAny_passesOwn hp (thn h4 fun _ s5 ⟨x,H5,I5,r5,y5,st5,fr5⟩=>?_)
   have I5':=I5.pinned (stat fr5) (T.obj _ _ st5)
   refine wpAny_passesOwn hp (thn (hg _ s5 σ3 H5 x u _ I5' r5 (step x H5 y5)) fun _ s6 ⟨σ6,H6,I6,q6⟩=>?_)
   refine wpAny_passesOwn hp (thn (hb _ s6 σ6 H6 _ I6 q6) fun f s7 q7=>?_)
   have again:∀ {σ7:St} {H7:Hp},Inv X (pins++pinsAt fp s5.heap) σ7 H7 s7->N σ7 H7->∃ m,m < n/\∃ i σ' H',Inv X pins σ' H' s7/\tn i s7.heap/\(∀ b∈fp,H' b=none)/\W i m σ' H':=fun {σ7 H7} I7 n7=>by
     obtain ⟨m',hm,w7⟩:=hN σ7 H7 n7
     refine⟨m',hm,i+1,σ7,H7,I7.unpinned,T.keep _ _ _ st5 fun b hb o e=>(I7.pin (b,o) (List.mem_append_right _ (List.mem_append_right _ (mem_pinsAt hb e)))).1,fun b hb=>?_,w7⟩
     obtain ⟨o,e,d⟩:=T.obj _ _ st5 b hb
     exact (I7.pin (b,o) (List.mem_append_right _ (List.mem_append_right _ (mem_pinsAt hb e)))).2.1
   cases f with
   | next=>obtain ⟨σ7,H7,I7,n7⟩:=q7; exact again I7 n7
   | cont=>obtain ⟨σ7,H7,I7,n7⟩:=q7; exact again I7 n7
   | brk=>obtain ⟨σ7,H7,I7,q7⟩:=q7; exact⟨σ7,H7,I7.unpinned,q7⟩
   | ret v=>obtain ⟨x7,σ7,H7,I7,r7,q7⟩:=q7; exact⟨x7,σ7,H7,I7.unpinned,r7,q7⟩
end
/-! ### the forms one uses -/
theorem for_list {K:PySem.W.Frag} {a:Addr} {xs:List V} {g:TG} {tb:TS} {D:Ends} {σ:St} {H:Hp} (Pv:Nat->St->Hp->Prop) (h0:Pv 0 σ H) (hl:∀ i σ H,i<=xs.length->Pv i σ H->SqL K H a xs)
   (hs:∀ i x σ H,xs[i]?=some x->Pv i σ H->g x σ H fun σ2 H2=>tb { D with nx:=Pv (i+1),ct:=Pv (i+1),bk:=D.nx } σ2 H2) (hd:∀ σ H,Pv xs.length σ H->D.nx σ H) :
   ∃ W:Nat->Nat->St->Hp->Prop,(∃ m,W 0 m σ H)/\∀ i m σ H,W i m σ H →
     ((Itl K a).stop i H/\D.nx σ H)\/((Itl K a).go i H/\∃ N:St->Hp->Prop,(∀ σ' H',N σ' H'->∃ m',m' < m/\W (i+1) m' σ' H')/\∀ x H',(Itl K a).yld i H x H'->g x σ H' fun σ2 H2=>tb { D with nx:=N,ct:=N,bk:=D.nx } σ2 H2):=by
 refine⟨fun i m σ H=>m=xs.length - i/\i<=xs.length/\Pv i σ H,⟨xs.length,by simp,Nat.zero_le _,h0⟩,?_⟩
 rintro i m σ H ⟨rfl,hi,p⟩
 have q:=hl i σ H hi p
 by_cases hlt:i < xs.length
 . refine .inr ⟨⟨xs,xs[i],q,by simp[hlt]⟩,Pv (i+1),fun σ' H' p'=>⟨xs.length - (i+1),by omega,rfl,hlt,p'⟩,fun x H' y=>?_⟩
   obtain ⟨e,y⟩:=y
   subst e
   exact hs i x σ _ (y xs q) p
 . have e:i=xs.length:=by omega
   subst e
   exact .inl ⟨⟨xs,q,Nat.le_refl _⟩,hd σ H p⟩
theorem for_tup {K:PySem.W.Frag} {a:Addr} {xs:List V} {g:TG} {tb:TS} {D:Ends} {σ:St} {H:Hp} (Pv:Nat->St->Hp->Prop) (h0:Pv 0 σ H) (hl:∀ i σ H,i<=xs.length->Pv i σ H->SqT K H a xs)
   (hs:∀ i x σ H,xs[i]?=some x->Pv i σ H->g x σ H fun σ2 H2=>tb { D with nx:=Pv (i+1),ct:=Pv (i+1),bk:=D.nx } σ2 H2) (hd:∀ σ H,Pv xs.length σ H->D.nx σ H) :
   ∃ W:Nat->Nat->St->Hp->Prop,(∃ m,W 0 m σ H)/\∀ i m σ H,W i m σ H →
     ((Itt K a).stop i H/\D.nx σ H)\/((Itt K a).go i H/\∃ N:St->Hp->Prop,(∀ σ' H',N σ' H'->∃ m',m' < m/\W (i+1) m' σ' H')/\∀ x H',(Itt K a).yld i H x H'->g x σ H' fun σ2 H2=>tb { D with nx:=N,ct:=N,bk:=D.nx } σ2 H2):=by
 refine⟨fun i m σ H=>m=xs.length - i/\i<=xs.length/\Pv i σ H,⟨xs.length,by simp,Nat.zero_le _,h0⟩,?_⟩
 rintro i m σ H ⟨rfl,hi,p⟩
 have q:=hl i σ H hi p
 by_cases hlt:i < xs.length
 . refine .inr ⟨⟨xs,xs[i],q,by simp[hlt]⟩,Pv (i+1),fun σ' H' p'=>⟨xs.length - (i+1),by omega,rfl,hlt,p'⟩,fun x H' y=>?_⟩
   obtain ⟨e,y⟩:=y
   subst e
   exact hs i x σ _ (y xs q) p
 . have e:i=xs.length:=by omega
   subst e
   exact .inl ⟨⟨xs,q,Nat.le_refl _⟩,hd σ H p⟩
theorem for_range {lo:Int} {n:Nat} {g:TG} {tb:TS} {D:Ends} {σ:St} {H:Hp} (Pv:Nat->St->Hp->Prop) (h0:Pv 0 σ H)
   (hs:∀ i σ H,i < n->Pv i σ H->g (.int (lo+i)) σ H fun σ2 H2=>tb { D with nx:=Pv (i+1),ct:=Pv (i+1),bk:=D.nx } σ2 H2) (hd:∀ σ H,Pv n σ H->D.nx σ H) :
   ∃ W:Nat->Nat->St->Hp->Prop,(∃ m,W 0 m σ H)/\∀ i m σ H,W i m σ H →
     ((Itr lo n).stop i H/\D.nx σ H)\/((Itr lo n).go i H/\∃ N:St->Hp->Prop,(∀ σ' H',N σ' H'->∃ m',m' < m/\W (i+1) m' σ' H')/\∀ x H',(Itr lo n).yld i H x H'->g x σ H' fun σ2 H2=>tb { D with nx:=N,ct:=N,bk:=D.nx } σ2 H2):=by
 refine⟨fun i m σ H=>m=n - i/\i<=n/\Pv i σ H,⟨n,by simp,Nat.zero_le _,h0⟩,?_⟩
 rintro i m σ H ⟨rfl,hi,p⟩
 by_cases hlt:i < n
 . refine .inr ⟨hlt,Pv (i+1),fun σ' H' p'=>⟨n - (i+1),by omega,rfl,hlt,p'⟩,fun x H' y=>?_⟩
   obtain ⟨e,y⟩:=y
   subst e y
   exact hs i σ _ hlt p
 . have e:i=n:=by omega
   subst e
   exact .inl ⟨Nat.le_refl _,hd σ H p⟩
end L2
namespace L2
open PySem PySem.Spec PyProof.Rows
abbrev R2:=V->V->Hp->VK->Prop
def OpR (X:Cx) (f:Value->Value->Sem Value) (r:R2):Prop :=
 ∀ (pins:List (Addr × Obj)) (s:Shared) (σ:St) (H:Hp) (x y:V) (v u:Value) (Q:VK),Inv X pins σ H s->RelV x v->RelV y u->r x y H Q →
   wpAny (model X.prog X.w) X.A (f v u) (EP X pins σ Q) X.xe s
def UnR (X:Cx) (f:Value->Sem Value) (r:V->Hp->VK->Prop):Prop :=
 ∀ (pins:List (Addr × Obj)) (s:Shared) (σ:St) (H:Hp) (x:V) (v:Value) (Q:VK),Inv X pins σ H s->RelV x v->r x H Q →
   wpAny (model X.prog X.w) X.A (f v) (EP X pins σ Q) X.xe s
def CallR (X:Cx) (f:Value) (r:List V->Hp->VK->Prop):Prop :=
 ∀ (pins:List (Addr × Obj)) (s:Shared) (σ:St) (H:Hp) (xs:List V) (us:List Value) (Q:VK),Inv X pins σ H s->Vals xs us->r xs H Q →
   wpAny (model X.prog X.w) X.A (call f us) (EP X pins σ Q) X.xe s
def tOp (r:R2) (ta tb:TE):TE:=fun σ H Q=>ta σ H fun x H1=>tb σ H1 fun y H2=>r x y H2 Q
def tUn (r:V->Hp->VK->Prop) (ta:TE):TE:=fun σ H Q=>ta σ H fun x H1=>r x H1 Q
def rI (C:Int->Int->Prop) (g:Int->Int->V):R2:=fun x y H Q=>∃ i j,x = .int i/\y = .int j/\C i j/\Q (g i j) H
def rI0 (g:Int->Int->V):R2:=fun x y H Q=>∃ i j,x = .int i/\y = .int j/\Q (g i j) H
def rU (g:Int->V):V->Hp->VK->Prop:=fun x H Q=>∃ i,x = .int i/\Q (g i) H
section
variable {X:Cx} {a b c:Expr} {ta tb tc:TE} {pos:Pos}
theorem binT (ha:PE X a ta) (hb:PE X b tb) {pins:List (Addr × Obj)} {s:Shared} {σ:St} {H:Hp} {R:V->V->Hp->Prop} (I:Inv X pins σ H s)
   (h:ta σ H fun x H1=>tb σ H1 fun y H2=>R x y H2) {Q:Value->Shared->Prop} {f:Value->Value->Sem Value}
   (hf:∀ v u s2 x y H2,Inv X pins σ H2 s2->RelV x v->RelV y u->R x y H2->wpAny (model X.prog X.w) X.A (f v u) Q X.xe s2) :
   wpAny (model X.prog X.w) X.A (eval a X.env) (fun v s₁=>wpAny (model X.prog X.w) X.A (eval b X.env) (fun u s₂=>wpAny (model X.prog X.w) X.A (f v u) Q X.xe s₂) X.xe s₁) X.xe s:=by
 refine thn (ha pins s σ H _ I h) fun v s1 ⟨x,H1,I1,r1,q1⟩=>?_
 refine thn (hb pins s1 σ H1 _ I1 q1) fun u s2 ⟨y,H2,I2,r2,q2⟩=>?_
 exact hf v u s2 x y H2 I2 r1 r2 q2
theorem pe_op {op:Operator} {r:R2} (ho:OpR X (binaryOp op) r) (ha:PE X a ta) (hb:PE X b tb):PE X (.BinOp a op b pos) (tOp r ta tb):=by
 intro pins s σ H Q I h
 exact wpAny_BinOp (binT ha hb I h fun v u s2 x y H2 I2 rx ry q=>ho pins s2 σ H2 x y v u Q I2 rx ry q)
theorem pe_un {op:UnaryOp} {r:V->Hp->VK->Prop} (ho:UnR X (unaryOp op) r) (ha:PE X a ta):PE X (.UnaryOp op a pos) (tUn r ta):=by
 intro pins s σ H Q I h
 exact UnaryOp_ (thn (ha pins s σ H _ I h) fun v s1 ⟨x,H1,I1,r1,q1⟩=>ho pins s1 σ H1 x v Q I1 r1 q1)
/-! ### ints -/
theorem opI {f:Value->Value->Sem Value} {C:Int->Int->Prop} {g:Int->Int->Int}
   (rule:∀ (i j:Int) (t u:Tok) (s:Shared) (Q:Value->Shared->Prop) (E:Value->Shared->Prop),C i j->Q (.int (g i j) s.toks) { s with toks:=s.toks+1 }->wpAny (model X.prog X.w) X.A (f (.int i t) (.int j u)) Q E s) :
   OpR X f (rI C fun i j=>.int (g i j)):=by
 intro pins s σ H x y v u Q I rx ry h
 obtain ⟨i,j,rfl,rfl,hc,q⟩:=h
 obtain ⟨t,rfl⟩:=rx
 obtain ⟨t',rfl⟩:=ry
 exact rule i j t t' s _ _ hc ⟨.int (g i j),H,I.tok _,⟨_,rfl⟩,q⟩
theorem opI0 {f:Value->Value->Sem Value} {g:Int->Int->Int}
   (rule:∀ (i j:Int) (t u:Tok) (s:Shared) (Q:Value->Shared->Prop) (E:Value->Shared->Prop),Q (.int (g i j) s.toks) { s with toks:=s.toks+1 }->wpAny (model X.prog X.w) X.A (f (.int i t) (.int j u)) Q E s) :
   OpR X f (rI0 fun i j=>.int (g i j)):=by
 intro pins s σ H x y v u Q I rx ry h
 obtain ⟨i,j,rfl,rfl,q⟩:=h
 obtain ⟨t,rfl⟩:=rx
 obtain ⟨t',rfl⟩:=ry
 exact rule i j t t' s _ _ ⟨.int (g i j),H,I.tok _,⟨_,rfl⟩,q⟩
theorem opB0 {f:Value->Value->Sem Value} {g:Int->Int->Bool}
   (rule:∀ (i j:Int) (t u:Tok) (s:Shared) (Q:Value->Shared->Prop) (E:Value->Shared->Prop),Q (.bool (g i j)) s->wpAny (model X.prog X.w) X.A (f (.int i t) (.int j u)) Q E s) :
   OpR X f (rI0 fun i j=>.bl (g i j)):=by
 intro pins s σ H x y v u Q I rx ry h
 obtain ⟨i,j,rfl,rfl,q⟩:=h
 obtain ⟨t,rfl⟩:=rx
 obtain ⟨t',rfl⟩:=ry
 exact rule i j t t' s _ _ ⟨.bl (g i j),H,I,rfl,q⟩
def CDiv (i j:Int):Prop:=0 < j/\j < 1073741824
def CMul (i j:Int):Prop:=(-(2 ^ 64) < i/\i < 2 ^ 64)\/(-(2 ^ 64) < j/\j < 2 ^ 64)
theorem CMul.ok {i j:Int} (h:CMul i j):IntMulOk i j:=by
 rcases h with ⟨h1,h2⟩ | ⟨h1,h2⟩
 . exact .of_left (intBits_le_64 h1 h2)
 . exact .of_right (intBits_le_64 h1 h2)
theorem op_add:OpR X (binaryOp .Add) (rI0 fun i j=>.int (i+j)):=opI0 fun _ _ _ _ _ _ _ q=>add_int q
theorem op_sub:OpR X (binaryOp .Sub) (rI0 fun i j=>.int (i - j)):=opI0 fun _ _ _ _ _ _ _ q=>sub_int q
theorem op_mul:OpR X (binaryOp .Mult) (rI CMul fun i j=>.int (i*j)):=opI fun _ _ _ _ _ _ _ hc q=>mul_int q hc.ok
theorem op_fdiv:OpR X (binaryOp .FloorDiv) (rI CDiv fun i j=>.int (i / j)):=opI fun i j _ _ _ _ _ hc q=>by
 have h1:(0:Int) < j:=hc.1
 have h2:j < 1073741824:=hc.2
 exact floordiv_int (by omega) (by rw[Int.fdiv_eq_ediv_of_nonneg i (by omega)]; exact q) (.inl (PyProof.noPylong_small (by omega)))
theorem op_mod:OpR X (binaryOp .Mod) (rI (fun _ j=>0 < j) fun i j=>.int (i % j)):=opI fun i j _ _ _ _ _ hc q=>by
 have h1:(0:Int) < j:=hc
 exact mod_int' (by omega) (by rw[Int.fmod_eq_emod_of_nonneg i (by omega)]; exact q)
theorem unI {f:Value->Sem Value} {g:Int->Int}
   (rule:∀ (i:Int) (t:Tok) (s:Shared) (Q:Value->Shared->Prop) (E:Value->Shared->Prop),Q (.int (g i) s.toks) { s with toks:=s.toks+1 }->wpAny (model X.prog X.w) X.A (f (.int i t)) Q E s) :
   UnR X f (rU fun i=>.int (g i)):=by
 intro pins s σ H x v Q I rx h
 obtain ⟨i,rfl,q⟩:=h
 obtain ⟨t,rfl⟩:=rx
 exact rule i t s _ _ ⟨.int (g i),H,I.tok _,⟨_,rfl⟩,q⟩
theorem un_neg:UnR X (unaryOp .USub) (rU fun i=>.int (-i)):=unI fun _ _ _ _ _ q=>neg_int q
/-! ### bools among ints: n += (a < b) -/
end
/-! ### comparisons -/
def scal:V->V->Bool
 | .non,.non=>true | .non,.int _=>true | .int _,.non=>true | .non,.bl _=>true | .bl _,.non=>true | .non,.str _=>true | .str _,.non=>true
 | .int _,.int _=>true | .bl _,.bl _=>true | .str _,.str _=>true | .byt _,.byt _=>true
 | .int _,.str _=>true | .str _,.int _=>true | .bl _,.str _=>true | .str _,.bl _=>true
 | _,_=>false
def rEq:R2:=fun x y H Q=>scal x y=true/\Q (.bl (decide (x=y))) H
def rNe:R2:=fun x y H Q=>scal x y=true/\Q (.bl (!decide (x=y))) H
theorem dec_int {i j:Int}:decide (V.int i=V.int j)=(i == j):=by
 rw[Bool.eq_iff_iff]
 simp
theorem dec_bl {i j:Bool}:decide (V.bl i=V.bl j)=(i == j):=by
 rw[Bool.eq_iff_iff]
 simp
theorem dec_str {i j:Str}:decide (V.str i=V.str j)=(i == j):=by
 rw[Bool.eq_iff_iff]
 simp
theorem dec_byt {i j:Array UInt8}:decide (V.byt i=V.byt j)=(i.toList == j.toList):=by
 rw[Bool.eq_iff_iff]
 cases i
 cases j
 simp
section
variable {X:Cx} {a b c:Expr} {ta tb tc:TE} {pos:Pos}
theorem fin_bl {pins:List (Addr × Obj)} {σ:St} {H:Hp} {s:Shared} {Q:VK} {k k':Bool} (I:Inv X pins σ H s) (q:Q (.bl k) H) (e:k=k'):EP X pins σ Q (.bool k') s:=by
 subst e
 exact⟨.bl k,H,I,rfl,q⟩
theorem op_eq:OpR X (compareOp .Eq) rEq:=by
 intro pins s σ H x y v u Q I rx ry h
 obtain ⟨hs,q⟩:=h
 cases x with
 | non =>
   cases rx
   cases y with
   | non=>cases ry; exact PySem.EqNone.eq_none_none (fin_bl I q (by simp))
   | bl j=>cases ry; exact PySem.EqNone.eq_none_bool (fin_bl I q (by simp))
   | int j=>obtain ⟨t',rfl⟩:=ry; exact PySem.EqNone.eq_none_int (fin_bl I q (by simp))
   | str j=>obtain ⟨t',rfl⟩:=ry; exact PySem.EqNone.eq_none_str (fin_bl I q (by simp))
   | _=>exact absurd (show false=true from hs) Bool.false_ne_true
 | bl i =>
   cases rx
   cases y with
   | non=>cases ry; exact PySem.EqNone.eq_bool_none (fin_bl I q (by simp))
   | bl j=>cases ry; exact eq_bool (fin_bl I q dec_bl)
   | str j=>obtain ⟨t',rfl⟩:=ry; exact PySem.EqMixed.eq_bool_str (fin_bl I q (by simp))
   | _=>exact absurd (show false=true from hs) Bool.false_ne_true
 | int i =>
   obtain ⟨t,rfl⟩:=rx
   cases y with
   | non=>cases ry; exact PySem.EqNone.eq_int_none (fin_bl I q (by simp))
   | int j=>obtain ⟨t',rfl⟩:=ry; exact eq_int (fin_bl I q dec_int)
   | str j=>obtain ⟨t',rfl⟩:=ry; exact PySem.EqMixed.eq_int_str (fin_bl I q (by simp))
   | _=>exact absurd (show false=true from hs) Bool.false_ne_true
 | str i =>
   obtain ⟨t,rfl⟩:=rx
   cases y with
   | non=>cases ry; exact PySem.EqNone.eq_str_none (fin_bl I q (by simp))
   | bl j=>cases ry; exact PySem.EqMixed.eq_str_bool (fin_bl I q (by simp))
   | int j=>obtain ⟨t',rfl⟩:=ry; exact PySem.EqMixed.eq_str_int (fin_bl I q (by simp))
   | str j=>obtain ⟨t',rfl⟩:=ry; exact eq_str (fin_bl I q dec_str)
   | _=>exact absurd (show false=true from hs) Bool.false_ne_true
 | byt i =>
   obtain ⟨t,rfl⟩:=rx
   cases y with
   | byt j=>obtain ⟨t',rfl⟩:=ry; exact PySem.W.eq_bytes (fin_bl I q dec_byt)
   | _=>exact absurd (show false=true from hs) Bool.false_ne_true
 | _=>cases y <;> exact absurd (show false=true from hs) Bool.false_ne_true
theorem op_ne:OpR X (compareOp .NotEq) rNe:=by
 intro pins s σ H x y v u Q I rx ry h
 obtain ⟨hs,q⟩:=h
 cases x with
 | non =>
   cases rx
   cases y with
   | non=>cases ry; exact PySem.EqNone.ne_none_none (fin_bl I q (by simp))
   | bl j=>cases ry; exact PySem.EqNone.ne_none_bool (fin_bl I q (by simp))
   | int j=>obtain ⟨t',rfl⟩:=ry; exact PySem.EqNone.ne_none_int (fin_bl I q (by simp))
   | str j=>obtain ⟨t',rfl⟩:=ry; exact PySem.EqNone.ne_none_str (fin_bl I q (by simp))
   | _=>exact absurd (show false=true from hs) Bool.false_ne_true
 | bl i =>
   cases rx
   cases y with
   | non=>cases ry; exact PySem.EqNone.ne_bool_none (fin_bl I q (by simp))
   | bl j=>cases ry; exact ne_bool (fin_bl I q (congrArg not dec_bl))
   | str j=>obtain ⟨t',rfl⟩:=ry; exact PySem.EqMixed.ne_bool_str (fin_bl I q (by simp))
   | _=>exact absurd (show false=true from hs) Bool.false_ne_true
 | int i =>
   obtain ⟨t,rfl⟩:=rx
   cases y with
   | non=>cases ry; exact PySem.EqNone.ne_int_none (fin_bl I q (by simp))
   | int j=>obtain ⟨t',rfl⟩:=ry; exact ne_int (fin_bl I q (congrArg not dec_int))
   | str j=>obtain ⟨t',rfl⟩:=ry; exact PySem.EqMixed.ne_int_str (fin_bl I q (by simp))
   | _=>exact absurd (show false=true from hs) Bool.false_ne_true
 | str i =>
   obtain ⟨t,rfl⟩:=rx
   cases y with
   | non=>cases ry; exact PySem.EqNone.ne_str_none (fin_bl I q (by simp))
   | bl j=>cases ry; exact PySem.EqMixed.ne_str_bool (fin_bl I q (by simp))
   | int j=>obtain ⟨t',rfl⟩:=ry; exact PySem.EqMixed.ne_str_int (fin_bl I q (by simp))
   | str j=>obtain ⟨t',rfl⟩:=ry; exact ne_str (fin_bl I q (congrArg not dec_str))
   | _=>exact absurd (show false=true from hs) Bool.false_ne_true
 | byt i =>
   obtain ⟨t,rfl⟩:=rx
   cases y with
   | byt j=>obtain ⟨t',rfl⟩:=ry; exact PySem.W.ne_bytes (fin_bl I q (congrArg not dec_byt))
   | _=>exact absurd (show false=true from hs) Bool.false_ne_true
 | _=>cases y <;> exact absurd (show false=true from hs) Bool.false_ne_true
theorem op_lt:OpR X (compareOp .Lt) (rI0 fun i j=>.bl (decide (i < j))):=opB0 fun _ _ _ _ _ _ _ q=>lt_int q
theorem op_le:OpR X (compareOp .LtE) (rI0 fun i j=>.bl (decide (i<=j))):=opB0 fun _ _ _ _ _ _ _ q=>le_int q
theorem op_gt:OpR X (compareOp .Gt) (rI0 fun i j=>.bl (decide (j < i))):=opB0 fun _ _ _ _ _ _ _ q=>gt_int q
theorem op_ge:OpR X (compareOp .GtE) (rI0 fun i j=>.bl (decide (j<=i))):=opB0 fun _ _ _ _ _ _ _ q=>ge_int q
theorem op_isN:OpR X (compareOp .Is) (fun x y H Q=>y = .non/\Q (.bl (decide (x = .non))) H):=by
 intro pins s σ H x y v u Q I rx ry h
 obtain ⟨rfl,q⟩:=h
 cases ry
 refine is_none_gen (fin_bl I q ?_)
 cases x <;> first
   | (cases rx; rfl)
   | (obtain ⟨t,rfl⟩:=rx; rfl)
theorem nomark (b:Expr) {op:CmpOp} (h:op≠.In:=by decide) (h2:op≠.NotIn:=by decide):behindInMarks op b=false:=by
 have e1:(op == CmpOp.In)=false:=by cases op <;> first | rfl | exact absurd rfl h
 have e2:(op == CmpOp.NotIn)=false:=by cases op <;> first | rfl | exact absurd rfl h2
 cases b <;> simp[behindInMarks,e1,e2]
theorem pe_cmpR {op:CmpOp} {r:R2} (ho:OpR X (compareOp op) r) (ha:PE X a ta) (hb:PE X b tb) (hm:behindInMarks op b=false):PE X (.Compare a [op] [b] pos) (tOp r ta tb):=by
 intro pins s σ H Q I h
 exact wpAny_Compare1 (binT ha hb I h fun v u s2 x y H2 I2 rx ry q=>ho pins s2 σ H2 x y v u Q I2 rx ry q) hm
def tTest (t:TE):TT:=fun σ H Q=>t σ H fun x H'=>∃ k,x = .bl k/\Q k H'
theorem pt_cmpR {op:CmpOp} {r:R2} (ho:OpR X (compareOp op) r) (ha:PE X a ta) (hb:PE X b tb) (hm:behindInMarks op b=false):PT X (.Compare a [op] [b] pos) (tTest (tOp r ta tb)):=by
 intro pins s σ H Q I h
 refine wpAny_isTrue_Compare1 (thn (ha pins s σ H _ I h) fun v s1 ⟨x,H1,I1,r1,q1⟩=>thn (hb pins s1 σ H1 _ I1 q1) fun u s2 ⟨y,H2,I2,r2,q2⟩ =>
   thn (ho pins s2 σ H2 x y v u _ I2 r1 r2 q2) fun c s3 ⟨z,H3,I3,r3,k,e,q3⟩=>?_) hm
 subst e
 cases r3
 exact wpAny_truthy_bool ⟨H3,I3,q3⟩
/-! ### truth -/
theorem line63:(sizeLine:Nat) < 2 ^ 63:=by rw[sizeLine_eq]; decide
/-! ### strs and bytes -/
/-! ### scalar builtins,by CallR -/
theorem vals1 {x:V} {us:List Value} (r:Vals [x] us):∃ u,us=[u]/\RelV x u:=by
 cases r with
 | cons r1 r2=>cases r2; exact⟨_,rfl,r1⟩
theorem vals2 {x y:V} {us:List Value} (r:Vals [x,y] us):∃ u w',us=[u,w']/\RelV x u/\RelV y w':=by
 cases r with
 | cons r1 r2 =>
   cases r2 with
   | cons r3 r4=>cases r4; exact⟨_,_,rfl,r1,r3⟩
theorem call_abs:CallR X (.builtin "abs") (fun xs H Q=>∃ i,xs=[.int i]/\Q (.int (if i < 0 then -i else i)) H):=by
 intro pins s σ H xs us Q I r h
 obtain ⟨i,rfl,q⟩:=h
 obtain ⟨u,rfl,t,rfl⟩:=vals1 r
 exact call_abs_int fun u tk=>⟨.int (if i < 0 then -i else i),H,I.tok _,⟨_,rfl⟩,q⟩
theorem call_max2 (hc:X.calm=true):CallR X (.builtin "max") (fun xs H Q=>∃ i j,xs=[.int i,.int j]/\Q (.int (if j > i then j else i)) H):=by
 intro pins s σ H xs us Q I r h
 obtain ⟨i,j,rfl,q⟩:=h
 obtain ⟨u,w',rfl,⟨t,rfl⟩,⟨t',rfl⟩⟩:=vals2 r
 refine max_two_ints (I.ok.hd hc) fun h' tk k=>⟨_,H,I.kept k,?_,q⟩
 by_cases hj:j > i
 . rw[if_pos hj,if_pos hj]; exact⟨_,rfl⟩
 . rw[if_neg hj,if_neg hj]; exact⟨_,rfl⟩
theorem call_min2 (hc:X.calm=true):CallR X (.builtin "min") (fun xs H Q=>∃ i j,xs=[.int i,.int j]/\Q (.int (if j < i then j else i)) H):=by
 intro pins s σ H xs us Q I r h
 obtain ⟨i,j,rfl,q⟩:=h
 obtain ⟨u,w',rfl,⟨t,rfl⟩,⟨t',rfl⟩⟩:=vals2 r
 refine min_two_ints (I.ok.hd hc) fun h' tk k=>⟨_,H,I.kept k,?_,q⟩
 by_cases hj:j < i
 . rw[if_pos hj,if_pos hj]; exact⟨_,rfl⟩
 . rw[if_neg hj,if_neg hj]; exact⟨_,rfl⟩
end
end L2
namespace L2
open PySem PySem.Spec PyProof.Rows
/-! ### an instance,its attributes a map -/
structure ObjM (h:Heap) (x dx C:Addr) (mA:Str->Option Value):Prop where
 obj:h.get? x=some (PySem.W.instObj C dx)
 ns:h.Ns1 dx mA
 ne:dx≠x
theorem lookIn_ns {h:Heap} {dx:Addr} {mA:Str->Option Value} (n:h.Ns1 dx mA):∃ od,h.get? dx=some od/\∀ name,PySem.W.lookIn name od=some (mA name):=by
 obtain ⟨o,es,ep,ho,hd,hk,_,hm⟩:=n
 refine⟨o,ho,fun name=>?_⟩
 have e:=hm name
 unfold nsFind findBy at e
 rw[<-Array.find?_toList] at e
 unfold PySem.W.lookIn
 rw[hd]
 dsimp only
 split
 . rename_i y q
   rw[q] at e
   exact congrArg some e
 . rename_i q
   rw[q] at e
   have a:es.toList.any (·.refKey)=false:=by
     rw[List.any_eq_false]
     intro y hy
     obtain ⟨z,t,hkey⟩:=hk y (Array.mem_toList_iff.mp hy)
     simp[DictEntry.refKey,hkey]
   have a':¬ es.toList.any (·.refKey)=true:=by rw[a]; exact Bool.false_ne_true
   rw[if_neg a']
   exact congrArg some e
theorem ObjM.look {h:Heap} {x dx C:Addr} {mA:Str->Option Value} (I:ObjM h x dx C mA):∃ od,PySem.W.InstAt h x (PySem.W.instObj C dx) C (some od)/\∀ name,PySem.W.lookIn name od=some (mA name) :=
 let ⟨od,ho,hl⟩:=lookIn_ns I.ns
 ⟨od,⟨I.obj,rfl,rfl,ho⟩,hl⟩
section
variable {prog:Program} {w:World} {A:Around} {E:Value->Shared->Prop} {s:Shared} {K:PySem.W.Frag} {x dx C f:Addr} {mA:Str->Option Value} {name:Str} {v:Value}
theorem get_map {expr:Bool} {Q:Value->Shared->Prop} (X:K.In s.heap) (I:ObjM s.heap x dx C mA) (hg:PySem.W.plainGet K C name=true) (hh:PySem.W.hasDictIn K C=true)
   (ha:PySem.W.findIn K (.ref C) name=some none) (hv:mA name=some v) (hv':PySem.W.handedIn v=true) (h:Q v { s with toks:=s.toks+1 }) :
   wpAny (model prog w) A (getAttr (.ref x) name expr) Q E s:=by
 obtain ⟨od,J,hl⟩:=I.look
 exact PySem.W.get_value X J (PySem.W.plainGet_of hg).1 (PySem.W.findObj_own hh ha rfl (by rw[hl,hv])) hv' h
theorem get_meth {pl:Sem Bool} {Q:Value × List Value->Shared->Prop} (X:K.In s.heap) (I:ObjM s.heap x dx C mA) (hg:PySem.W.plainGet K C name=true)
   (hf:PySem.W.findIn K (.ref C) name=some (some (.ref f))) (ht:PySem.W.isFn K (.ref f)=true) (hv:mA name=none) (h:Q (.ref f,[.ref x]) s) :
   wpAny (model prog w) A (getMethod (.ref x) name pl) Q E s:=by
 obtain ⟨od,J,hl⟩:=I.look
 exact PySem.W.method_fn X J (PySem.W.plainGet_of hg).1 (PySem.W.plainGet_of hg).2 hf (beq_iff_eq.mp ht) (by show (PySem.W.lookIn name od).map (·.isSome)=some false; rw[hl,hv]; rfl) h
theorem set_map {ns:List Str} {Q:Unit->Shared->Prop} (X:K.In s.heap) (I:ObjM s.heap x dx C mA)
   (hs:PySem.W.findIn K (.ref C) "__setattr__" = some (some (.builtin "object.__setattr__"))) (hp:PySem.W.plainOver K C=true) (ht:PySem.W.takerIn K C name=some none) (hh:PySem.W.hasDictIn K C=true)
   (hw:PySem.Within mA ns) (hsz:ns.length<=sizeLine)
   (h:∀ h',ObjM h' x dx C (fun y=>if y=name then some v else mA y)->Heap.SameBut dx s.heap h'->Q () { s with heap:=h',toks:=s.toks+2 }) :
   wpAny (model prog w) A (setAttr (.ref x) name v) Q E s:=by
 obtain ⟨od,J,hl⟩:=I.look
 refine PySem.W.set_plain X J hs (PySem.W.osa_open (s:={ s with toks:=s.toks+1 }) (r:=none) X J hp ht fun b=>?_)
 obtain ⟨cd,hc,hd'⟩:=PySem.W.any_some hh
 have hx:s.heap.get? x=some ⟨.ref C,some dx,.plain,#[]⟩:=I.obj
 refine wpAny_bind (wpAny_pure (wpAny_bind (wpAny_bind (wpAny_loadPart hx (wpAny_bind (PySem.W.Looks.here (s:={ s with toks:=s.toks+1 }) (PySem.W.looks_clsIn X hc) ?_))))))
 rw[hd']
 refine wpAny_pure (a:=some dx) (wpAny_bind (wpAny_pure (wpAny_bind ?_)))
 refine wpAny_nsSet1 (s:={ s with toks:=s.toks+1 }) I.ns fun h' hn2 hs2=>?_
 obtain ⟨oD,esD,epD,hoD,hdD,hcD⟩:=hn2.count (PySem.Within.cons name v hw)
 refine wpAny_bind (wpAny_lookBehind hoD (by rw[hdD]; exact pastItsLine_dict (Nat.le_trans hcD (by rw[List.length_cons]; omega))) ?_)
 exact wpAny_pure (h _ ⟨(hs2.2 _ (Ne.symm I.ne)).trans I.obj,hn2,I.ne⟩ hs2)
theorem make_map {R:Result->Shared->Prop} {vs:List Value} {kw:List (Str × Value)} (X:K.In s.heap) (hm:PySem.W.makesIn K C=true)
   (hi:PySem.W.findIn K (.ref C) "__init__" = some (some (.ref f))) (hf:PySem.W.typeIn K (.ref f)=some (.type "function"))
   (h:codeAny (model prog w) (A.under (.builtin "type.__call__" ⟨.ref C::vs,kw⟩)) (.call (.ref f) ⟨.ref (s.heap.objs.size+1)::vs,kw⟩) (PySem.W.InitBack (s.heap.objs.size+1) R)
     { s with heap:=(s.heap.push PySem.W.emptyDict).push (PySem.W.instObj C s.heap.objs.size) }) :
   codeAny (model prog w) A (.call (.ref C) ⟨vs,kw⟩) R s:=by
 obtain ⟨hh,g,d,t,os⟩:=s
 exact PySem.W.make_core (PySem.W.makes_of X hm) (PySem.W.looks_findIn X hi) (fun self=>PySem.W.bind_fn X self hf) (.inl rfl) h
end
/-! ### the attributes as a list of pairs -/
def putF (f:Str) (v:V):List (Str × V)->List (Str × V)
 | []=>[(f,v)]
 | (g,x)::r=>if g=f then (g,v)::r else (g,x)::putF f v r
theorem lookup_putF (f g:Str) (v:V):∀ fs:List (Str × V),(putF f v fs).lookup g=if g=f then some v else fs.lookup g
 | []=>by
   show List.lookup g [(f,v)]=_
   by_cases h:g=f
   . have hb:(g == f)=true:=beq_iff_eq.mpr h
     simp only[List.lookup,hb,if_pos h]
   . have hb:(g == f)=false:=beq_eq_false_iff_ne.mpr h
     simp only[List.lookup,hb,if_neg h]
 | (k,x)::r=>by
   have ih:=lookup_putF f g v r
   rw[show putF f v ((k,x)::r)=(if k=f then (k,v)::r else (k,x)::putF f v r) from rfl]
   by_cases hk:k=f
   . rw[if_pos hk]
     by_cases h:g=k
     . have hb:(g == k)=true:=beq_iff_eq.mpr h
       simp only[List.lookup,hb,if_pos (h.trans hk)]
     . have hb:(g == k)=false:=beq_eq_false_iff_ne.mpr h
       simp only[List.lookup,hb,if_neg (fun e:g=f=>h (e.trans hk.symm))]
   . rw[if_neg hk]
     by_cases h:g=k
     . have hb:(g == k)=true:=beq_iff_eq.mpr h
       simp only[List.lookup,hb,if_neg (fun e:g=f=>hk (h.symm.trans e))]
     . have hb:(g == k)=false:=beq_eq_false_iff_ne.mpr h
       simp only[List.lookup,hb]
       exact ih
theorem keys_putF (f:Str) (v:V):∀ fs:List (Str × V),f∈(putF f v fs).map (·.1)/\∀ g,g∈fs.map (·.1)->g∈(putF f v fs).map (·.1)
 | []=>⟨by simp[putF],fun g h=>by simp at h⟩
 | (k,x)::r=>by
   obtain ⟨i1,i2⟩:=keys_putF f v r
   rw[show putF f v ((k,x)::r)=(if k=f then (k,v)::r else (k,x)::putF f v r) from rfl]
   by_cases hk:k=f
   . rw[if_pos hk]
     subst hk
     exact⟨by simp,fun g h=>by simpa using h⟩
   . rw[if_neg hk]
     refine⟨?_,fun g h=>?_⟩
     . rw[List.map_cons]
       exact List.mem_cons_of_mem _ i1
     . rw[List.map_cons] at h ⊢
       rcases List.mem_cons.mp h with e | e
       . exact List.mem_cons.mpr (.inl e)
       . exact List.mem_cons_of_mem _ (i2 g e)
theorem length_putF (f:Str) (v:V):∀ fs:List (Str × V),(putF f v fs).length<=fs.length+1
 | []=>by simp[putF]
 | (k,x)::r=>by
   have ih:=length_putF f v r
   rw[show putF f v ((k,x)::r)=(if k=f then (k,v)::r else (k,x)::putF f v r) from rfl]
   by_cases hk:k=f
   . rw[if_pos hk,List.length_cons,List.length_cons]; omega
   . rw[if_neg hk,List.length_cons,List.length_cons]; omega
theorem RelO.some_of {v:V} {o:Option Value} (r:RelO (some v) o):∃ u,o=some u/\RelV v u:=by
 cases o with
 | none=>exact (show False from r).elim
 | some u=>exact⟨u,rfl,r⟩
theorem RelO.none_of {o:Option Value} (r:RelO none o):o=none:=by
 cases o with
 | none=>rfl
 | some u=>exact (show False from r).elim
theorem handed_of {v:V} {u:Value} (r:RelV v u):PySem.W.handedIn u=true:=by
 cases v with
 | non=>cases (show u=Value.none from r); rfl
 | bl b=>cases (show u=Value.bool b from r); rfl
 | int i=>obtain ⟨t,e⟩:=(show ∃ t,u=Value.int i t from r); cases e; rfl
 | str x=>obtain ⟨t,e⟩:=(show ∃ t,u=Value.str x t from r); cases e; rfl
 | byt b=>obtain ⟨t,e⟩:=(show ∃ t,u=Value.bytes b t from r); cases e; rfl
 | flt b=>obtain ⟨t,e⟩:=(show ∃ t,u=Value.float b t from r); cases e; rfl
 | ref a=>cases (show u=Value.ref a from r); rfl
 | ty n=>cases (show u=Value.type n from r); rfl
section
variable {P:Program} {w:World} {H H':Hp} {h h':Heap} {a C dx:Addr} {fs fs':List (Str × V)}
theorem ins_get (hok:HOk P w H h) (e:H a=some (.ins C dx fs)):∃ mA,ObjM h a dx C mA/\(∀ f,RelO (fs.lookup f) (mA f))/\PySem.Within mA (fs.map (·.1))/\fs.length<=1000/\H dx=some (.own a):=by
 obtain ⟨d,z,ne,ob,mA,n,r,q⟩:=(show ObjOk P w H h a (.ins C dx fs) from hok a _ e)
 exact⟨mA,⟨ob,n,ne⟩,r,q,z,d⟩
end
/-! ### what of the text a class must have -/
structure Cls (K:PySem.W.Frag) (C:Addr):Prop where
 pg:PySem.W.plainGet K C Str.empty=true
 hd:PySem.W.hasDictIn K C=true
 po:PySem.W.plainOver K C=true
 sa:PySem.W.findIn K (.ref C) "__setattr__" = some (some (.builtin "object.__setattr__"))
theorem Cls.get {K:PySem.W.Frag} {C:Addr} (c:Cls K C) (f:Str):PySem.W.plainGet K C f=true:=c.pg
def NoAttr (K:PySem.W.Frag) (C:Addr) (f:Str):Prop:=PySem.W.findIn K (.ref C) f=some none
theorem NoAttr.taker {K:PySem.W.Frag} {C:Addr} {f:Str} (n:NoAttr K C f):PySem.W.takerIn K C f=some none:=by
 unfold PySem.W.takerIn
 rw[show PySem.W.findIn K (.ref C) f=some none from n]
 rfl
structure Meth (K:PySem.W.Frag) (C:Addr) (m:Str) (f:Addr):Prop where
 at_:PySem.W.findIn K (.ref C) m=some (some (.ref f))
 fn:PySem.W.isFn K (.ref f)=true
 kp:PySem.W.keepIn K (.ref f)=true
section
variable {X:Cx} {pins:List (Addr × Obj)} {σ:St} {H:Hp} {s:Shared} {a C dx:Addr} {fs:List (Str × V)} {f:Str} {v:V} {A:Around} {E:Value->Shared->Prop}
theorem getattr_ok {b:Bool} {Q:Value->Shared->Prop} (I:Inv X pins σ H s) (e:H a=some (.ins C dx fs)) (c:Cls X.K C) (n:NoAttr X.K C f) (l:fs.lookup f=some v)
   (h:∀ u s',Inv X pins σ H s'->RelV v u->Q u s'):wpAny (model X.prog X.w) A (getAttr (.ref a) f b) Q E s:=by
 obtain ⟨mA,O,r,_,_,_⟩:=ins_get I.hok e
 obtain ⟨u,hu,ru⟩:=RelO.some_of (v:=v) (o:=mA f) (by rw[<-l]; exact r f)
 exact get_map I.kIn O (c.get f) c.hd n hu (handed_of ru) (h u _ (I.tok _) ru)
theorem getmeth_ok {m:Str} {g:Addr} {pl:Sem Bool} {Q:Value × List Value->Shared->Prop} (I:Inv X pins σ H s) (e:H a=some (.ins C dx fs)) (c:Cls X.K C) (k:Meth X.K C m g) (l:fs.lookup m=none)
   (h:Q (.ref g,[.ref a]) s):wpAny (model X.prog X.w) A (getMethod (.ref a) m pl) Q E s:=by
 obtain ⟨mA,O,r,_,_,_⟩:=ins_get I.hok e
 have hn:mA m=none:=RelO.none_of (by rw[<-l]; exact r m)
 exact get_meth I.kIn O (c.get m) k.at_ k.fn hn h
theorem setattr_ok {y:V} {u:Value} {Q:Unit->Shared->Prop} (I:Inv X pins σ H s) (e:H a=some (.ins C dx fs)) (c:Cls X.K C) (n:NoAttr X.K C f) (hl:fs.length < 1000) (ry:RelV y u)
   (h:∀ s',Inv X pins σ (upd H a (.ins C dx (putF f y fs))) s'->Q () s'):wpAny (model X.prog X.w) A (setAttr (.ref a) f u) Q E s:=by
 obtain ⟨mA,O,r,wi,_,ho⟩:=ins_get I.hok e
 have hz:(fs.map (·.1)).length<=sizeLine:=by rw[List.length_map,sizeLine_eq]; omega
 refine set_map I.kIn O c.sa c.po n.taker c.hd wi hz fun h' O' sb=>h _ ?_
 have hd:∃ o,h'.get? dx=some o:=let ⟨o,_,_,e',_⟩:=O'.ns; ⟨o,e'⟩
 refine I.write (x:=a) (e:=dx) (by rw[e]; exact True.intro) (.inr ho) (fun b q hb z=>(sb.2 b hb).trans z) hd ?_
 refine⟨by rw[upd_ne O.ne]; exact ho,?_,O.ne,O'.obj,_,O'.ns,fun g=>?_,fun g hg=>?_⟩
 . have:=length_putF f y fs; omega
 . show RelO ((putF f y fs).lookup g) (if g=f then some u else mA g)
   rw[lookup_putF]
   by_cases q:g=f
   . rw[if_pos q,if_pos q]; exact ry
   . rw[if_neg q,if_neg q]; exact r g
 . by_cases q:g=f
   . rw[q]; exact (keys_putF f y fs).1
   . refine (keys_putF f y fs).2 g (wi g fun z=>hg ?_)
     show (if g=f then some u else mA g)=none
     rw[if_neg q]; exact z
theorem Inv.made (I:Inv X pins σ H s):Inv X pins σ (upd (upd H s.heap.objs.size (.own (s.heap.objs.size+1))) (s.heap.objs.size+1) (.ins C s.heap.objs.size []))
   { s with heap:=(s.heap.push PySem.W.emptyDict).push (PySem.W.instObj C s.heap.objs.size) }:=by
 have e1:(s.heap.push PySem.W.emptyDict).get? s.heap.objs.size=some PySem.W.emptyDict:=Heap.get?_push_size s.heap rfl
 have e2:((s.heap.push PySem.W.emptyDict).push (PySem.W.instObj C s.heap.objs.size)).get? (s.heap.objs.size+1)=some (PySem.W.instObj C s.heap.objs.size):=by
   have:=Heap.get?_push_size (s.heap.push PySem.W.emptyDict) (o:=PySem.W.instObj C s.heap.objs.size) rfl
   rwa [Heap.size_push] at this
 have e3:(s.heap.push PySem.W.emptyDict).Ns s.heap.objs.size (fun _=>none):=⟨PySem.W.emptyDict,#[],_,e1,rfl,(fun e he=>absurd he (by simp)),fun _=>rfl⟩
 have I1:=I.laid (a:=s.heap.objs.size) (o:=.own (s.heap.objs.size+1)) (h':=s.heap.push PySem.W.emptyDict) (t':=s.toks) (fun b u q=>Heap.get?_push_of_some _ q) (Nat.le_refl _) ⟨_,e1⟩
 refine I1.laid (a:=s.heap.objs.size+1) (o:=.ins C s.heap.objs.size []) (t':=s.toks) (fun b u q=>Heap.get?_push_of_some _ q) (Nat.le_of_eq (Heap.size_push _ _)) ?_
 have ne:s.heap.objs.size≠s.heap.objs.size+1:=Nat.ne_of_lt (Nat.lt_succ_self _)
 refine⟨by rw[upd_ne ne,upd_same],Nat.zero_le _,ne,e2,fun _=>none,(Heap.Ns1.of_empty e3).at fun o q=>Heap.get?_push_of_some _ q,fun _=>True.intro,fun y hy=>absurd rfl hy⟩
theorem attr_of {prog:Program} {w:World} {env:Env} {e:Expr} {f:Str} {pos:Pos} {s:Shared} {Q:Value->Shared->Prop} (hb:attributeBase e f env (eval e env)=eval e env)
   (h:wpAny (model prog w) A (eval e env) (fun o s₁=>wpAny (model prog w) A (getAttr o f true) Q E s₁) E s):wpAny (model prog w) A (eval (.Attribute e f pos) env) Q E s :=
 Attribute_any_ h (by rw[arm_eval_Attribute,hb])
end
/-! ### readings and rules -/
def tFld (K:PySem.W.Frag) (ta:TE) (f:Str):TE:=fun σ H Q=>ta σ H fun x H1=>∃ a C dx fs v,x = .ref a/\H1 a=some (.ins C dx fs)/\Cls K C/\NoAttr K C f/\fs.lookup f=some v/\Q v H1
def sFld (K:PySem.W.Frag) (ta tv:TE) (f:Str):TS:=fun D σ H=>tv σ H fun y H1=>ta σ H1 fun x H2=>∃ a C dx fs,x = .ref a/\H2 a=some (.ins C dx fs)/\Cls K C/\NoAttr K C f/\fs.length < 1000 ∧
 D.nx σ (upd H2 a (.ins C dx (putF f y fs)))
section
variable {X:Cx} {o e value:Expr} {f:Str} {pos pos' tpos:Pos} {ta tv:TE}
theorem pe_fld (he:PE X e ta) (hb:attributeBase e f X.env (eval e X.env)=eval e X.env):PE X (.Attribute e f pos) (tFld X.K ta f):=by
 intro pins s σ H Q I h
 refine attr_of hb (thn (he pins s σ H _ I h) fun u s1 ⟨x,H1,I1,rx,a,C,dx,fs,v,ex,ea,c,n,l,q⟩=>?_)
 subst ex
 obtain rfl:u=Value.ref a:=rx
 exact getattr_ok I1 ea c n l fun u' s2 I2 ru=>⟨v,H1,I2,ru,q⟩
theorem ps_fld (ha:PE X o ta) (hv:PE X value tv) (hs:swapsWith value (some (.Attribute o f pos')) pos.line X.env=pure false):PS X (.Assign [.Attribute o f pos'] value pos) (sFld X.K ta tv f):=by
 intro pins s σ H D I h
 refine plainObj_wpAny_Assign_Attribute (thn (hv pins s σ H _ I h) fun u s1 ⟨y,H1,I1,ry,q⟩=>thn (ha pins s1 σ H1 _ I1 q) fun ov s2 ⟨x,H2,I2,rx,a,C,dx,fs,ex,ea,c,n,l,q2⟩=>?_) hs
 subst ex
 obtain rfl:ov=Value.ref a:=rx
 exact setattr_ok I2 ea c n l ry fun s3 I3=>⟨σ,_,I3,q2⟩
end
/-! ### isinstance -/
section
variable {X:Cx} {pins:List (Addr × Obj)} {σ:St} {H:Hp} {s:Shared} {A:Around} {E:Value->Shared->Prop} {Q:Value->Shared->Prop} {c:Value} {b:Bool}
inductive TyOf (K:PySem.W.Frag) (H:Hp):V->Value->Prop where
 | non:TyOf K H .non (.type "NoneType")
 | bl (x:Bool):TyOf K H (.bl x) (.type "bool")
 | int (i:Int):TyOf K H (.int i) (.type "int")
 | str (x:Str):TyOf K H (.str x) (.type "str")
 | flt (x:UInt64):TyOf K H (.flt x) (.type "float")
 | lst {a:Addr} {xs:List V} (e:H a=some (.lst xs)):TyOf K H (.ref a) (.type "list")
 | frz {a:Addr} {o:Obj} {xs:List V} (e:H a=some (.frz o (.lst xs))):TyOf K H (.ref a) (.type "list")
 | tup {a:Addr} {xs:List V} (e:H a=some (.tup xs)):TyOf K H (.ref a) (.type "tuple")
 | dK {a:Addr} {kvs:List (Key × V)} (e:H a=some (.dK kvs)):TyOf K H (.ref a) (.type "dict")
 | dT {a:Addr} {kvs:List (List Key × V)} (e:H a=some (.dT kvs)):TyOf K H (.ref a) (.type "dict")
 | ins {a C dx:Addr} {fs:List (Str × V)} (e:H a=some (.ins C dx fs)) (cl:Cls K C) (ha:PySem.W.findIn K (.ref C) "__class__" = some (some (.builtin "object.__class__")))
     (hn:PySem.W.specialIn K (.builtin "object.__class__") "__get__" = some (some (.builtin "getset_descriptor.__get__"))) (htk:PySem.W.takesIn K (.builtin "object.__class__")=some true)
     (hm:PySem.W.mroIn K C (.type "object")=some true):TyOf K H (.ref a) (.ref C)
theorem isinst_ok {x:V} {u t:Value} (I:Inv X pins σ H s) (rx:RelV x u) (ty:TyOf X.K H x t) (e:PySem.W.kitOne X.K t c=some b) (h:∀ tk,Q (.bool b) { s with toks:=tk }) :
   wpAny (model X.prog X.w) A (call (.builtin "isinstance") [u,c]) Q E s:=by
 cases ty with
 | non=>cases (show u=Value.none from rx); exact PySem.W.kia_one PySem.W.kitx_none I.kIn True.intro e (fun z=>nomatch z) h
 | bl y=>cases (show u=Value.bool y from rx); exact PySem.W.kia_one PySem.W.kitx_bool I.kIn True.intro e (fun z=>nomatch z) h
 | int i=>obtain ⟨t,q⟩:=(show ∃ t,u=Value.int i t from rx); cases q; exact PySem.W.kia_one PySem.W.kitx_int I.kIn True.intro e (fun z=>nomatch z) h
 | str y=>obtain ⟨t,q⟩:=(show ∃ t,u=Value.str y t from rx); cases q; exact PySem.W.kia_one PySem.W.kitx_str I.kIn True.intro e (fun z=>nomatch z) h
 | flt y=>obtain ⟨t,q⟩:=(show ∃ t,u=Value.float y t from rx); cases q; exact PySem.W.kia_one PySem.W.kitx_float I.kIn True.intro e (fun z=>nomatch z) h
 | @lst a xs ea =>
   cases (show u=Value.ref a from rx)
   obtain ⟨_,_,n,_,h1⟩:=(show ObjOk X.prog X.w H s.heap a (.lst xs) from I.hok a _ ea)
   exact PySem.W.kia_one PySem.W.kitx_list I.kIn ⟨_,h1,rfl⟩ e (fun z=>nomatch z) h
 | @frz a ob xs ea =>
   cases (show u=Value.ref a from rx)
   obtain ⟨_,_,_,n,_,h1⟩:=(show ObjOk X.prog X.w H s.heap a (.frz ob (.lst xs)) from I.hok a _ ea)
   exact PySem.W.kia_one PySem.W.kitx_list I.kIn ⟨_,h1,rfl⟩ e (fun z=>nomatch z) h
 | @tup a xs ea =>
   cases (show u=Value.ref a from rx)
   obtain ⟨_,_,_,p⟩:=(show ObjOk X.prog X.w H s.heap a (.tup xs) from I.hok a _ ea)
   obtain ⟨o,h1,h2,_⟩:=p
   exact PySem.W.kia_one PySem.W.kitx_tuple I.kIn ⟨o,h1,h2⟩ e (fun z=>nomatch z) h
 | @dK a kvs ea =>
   cases (show u=Value.ref a from rx)
   obtain ⟨_,_,vs,_,p⟩:=(show ObjOk X.prog X.w H s.heap a (.dK kvs) from I.hok a _ ea)
   obtain ⟨o,es,ep,h1,h2,_⟩:=p
   exact PySem.W.kia_one PySem.W.kitx_dict I.kIn ⟨o,h1,h2.1⟩ e (fun z=>nomatch z) h
 | @dT a kvs ea =>
   cases (show u=Value.ref a from rx)
   obtain ⟨_,_,xs,_,o,es,ep,h1,h2,_⟩:=(show ObjOk X.prog X.w H s.heap a (.dT kvs) from I.hok a _ ea)
   exact PySem.W.kia_one PySem.W.kitx_dict I.kIn ⟨o,h1,h2.1⟩ e (fun z=>nomatch z) h
 | @ins a C dx fs ea cl ha hn htk hm =>
   cases (show u=Value.ref a from rx)
   obtain ⟨mA,O,_⟩:=ins_get I.hok ea
   obtain ⟨od,J,_⟩:=O.look
   exact PySem.W.kia_one (PySem.W.kitx_own (cl.get _) cl.hd ha hn htk hm) I.kIn J e (fun z=>nomatch z) h
end
end L2
namespace L2
open PySem PySem.Spec PyProof.Rows
/-! ### room -/
structure Room (k:Nat) (A:Around):Prop where
 hd:A.handled=none
 dp:A.depth+3*k+5 < recursionLimit
 un:A.units+16*k+200 < cLine
theorem Room.mono {j k:Nat} {A:Around} (r:Room k A) (h:j<=k):Room j A:=⟨r.hd,by have:=r.dp; omega,by have:=r.un; omega⟩
theorem Room.deeper {k:Nat} {A:Around} (r:Room (k+1) A) (env:Env):Room k (A.deeper env) :=
 ⟨r.hd,by have:=r.dp; show A.depth+1+3*k+5 < _; omega,by have:=r.un; show A.units+3+16*k+200 < _; omega⟩
theorem make_depth {A:Around} {C:Addr} {us:List Value} {kw:List (Str × Value)}:(A.under (.builtin "type.__call__" ⟨.ref C::us,kw⟩)).depth=A.depth+1:=by
 first | rfl | simp[Around.under,Code.weight,Code.isCreation,Code.isGuard,Code.isCaller,Code.frames,Code.isFrame,guardIds]
theorem make_units {A:Around} {C:Addr} {us:List Value} {kw:List (Str × Value)}:(A.under (.builtin "type.__call__" ⟨.ref C::us,kw⟩)).units=A.units+1:=by
 first | rfl | simp[Around.under,Code.cUnits,Code.frames,Code.isFrame]
theorem Room.make {k:Nat} {A:Around} (r:Room (k+1) A) (C:Addr) (us:List Value) (kw:List (Str × Value)):Room k (A.under (.builtin "type.__call__" ⟨.ref C::us,kw⟩)) :=
 ⟨r.hd,by have:=r.dp; rw[make_depth]; omega,by have:=r.un; rw[make_units]; omega⟩
theorem Room.depth {k:Nat} {A:Around} (r:Room k A):A.depth < recursionLimit:=by have:=r.dp; omega
theorem Room.units {k:Nat} {A:Around} (r:Room k A):A.units+64 < cLine:=by have:=r.un; omega
/-! ### argument lists and displays -/
def tNil:TA:=fun _ H Q=>Q [] H
def tCons (ta:TE) (tr:TA):TA:=fun σ H Q=>ta σ H fun x H1=>tr σ H1 fun xs H2=>Q (x::xs) H2
section
variable {X:Cx} {e:Expr} {es:List Expr} {te:TE} {t:TA} {pos:Pos}
theorem pa_nil:PA X [] tNil:=fun _ _ _ _ H Q I h=>Calls.spliced_nil ⟨[],H,I,.nil,h⟩
theorem pa_cons (ha:PE X e te) (hr:PA X es t) (hs:starEach (e::es) X.env=(false,eval e X.env)::starEach es X.env:=by rfl):PA X (e::es) (tCons te t):=by
 intro pos pins s σ H Q I h
 rw[hs]
 show wpAny _ _ (spliced ((false,eval e X.env)::backTo pos (starEach es X.env))) _ _ s
 refine Calls.spliced_cons (thn (ha pins s σ H _ I h) fun u s1 ⟨x,H1,I1,r1,q1⟩=>?_)
 exact thn (hr pos pins s1 σ H1 _ I1 q1) fun us s2 ⟨xs,H2,I2,r2,q2⟩=>⟨x::xs,H2,I2,.cons r1 r2,q2⟩
def tTup (t:TA):TE:=fun σ H Q=>t σ H fun xs H1=>xs.length<=sizeLine/\∀ p,H1 p=none->Q (.ref p) (upd H1 p (.tup xs))
def tLst (t:TA):TE:=fun σ H Q=>t σ H fun xs H1=>xs.length<=sizeLine/\∀ p,H1 p=none->Q (.ref p) (upd H1 p (.lst xs))
theorem pe_tup {x1} (h:PA X es t):PE X (.Tuple es x1 pos) (tTup t):=by
 intro pins s σ H Q I hq
 refine wpAny_Tuple_spliced (thn (h pos pins s σ H _ I hq) fun us s1 ⟨xs,H1,I1,r,z,q⟩=>⟨by rw[<-r.length]; exact z,?_⟩)
 have hf:H1 s1.heap.objs.size=none:=I1.hok.fresh (Nat.le_refl _)
 refine⟨.ref s1.heap.objs.size,upd H1 s1.heap.objs.size (.tup xs),I1.laid (t':=s1.toks) (fun b u e=>Heap.get?_push_of_some _ e) (Nat.le_refl _) ?_,rfl,q _ hf⟩
 exact⟨z,us,r,⟨_,Heap.get?_push_size _ rfl,rfl,rfl,_,rfl⟩⟩
theorem pe_lst (h:PA X es t):PE X (.List es pos) (tLst t):=by
 intro pins s σ H Q I hq
 refine wpAny_List_spliced (thn (h pos pins s σ H _ I hq) fun us s1 ⟨xs,H1,I1,r,z,q⟩=>⟨by rw[<-r.length]; exact z,?_⟩)
 have hf:H1 s1.heap.objs.size=none:=I1.hok.fresh (Nat.le_refl _)
 refine⟨.ref s1.heap.objs.size,upd H1 s1.heap.objs.size (.lst xs),I1.laid (t':=s1.toks) (fun b u e=>Heap.get?_push_of_some _ e) (Nat.le_refl _) ?_,rfl,q _ hf⟩
 exact⟨z,us,0,r,Heap.get?_push_size _ rfl⟩
end
/-! ### what a def promises -/
abbrev Sp:=List V->Hp->VK->XK->Prop
abbrev CXT:=List Env->Hp->Shared->XK->Value->Shared->Prop
structure Env0 (P:Program) (w:World) (K:PySem.W.Frag) (mg:Str->Option Value) (base:Heap) (A:Around) (outer:List Env) (s:Shared) (H:Hp):Prop where
 frames:A.frames=some outer
 mod:Mod K mg base
 bs:∀ b o,base.get? b=some o->s.heap.get? b=some o/\H b=none
 bsz:base.objs.size<=s.heap.objs.size
 funs:s.heap.FunFrames base outer
 frf:∀ b∈frs outer,H b=none
 hok:HOk P w H s.heap
 bare:AllBare s.gens
def CE (outer:List Env) (P:Program) (w:World) (H:Hp) (s:Shared) (Q:VK) (u:Value) (s':Shared):Prop :=
 ∃ v H',s'.os=s.os/\AllBare s'.gens/\Un (frs outer) [] H H' s.heap s'.heap/\HOk P w H' s'.heap/\RelV v u/\Q v H'
def CR (CX:CXT) (outer:List Env) (P:Program) (w:World) (H:Hp) (s:Shared) (Q:VK) (E:XK) (r:Result) (s':Shared):Prop :=
 match r with
 | .ok (.ret u)=>CE outer P w H s Q u s'
 | .ok _=>False
 | .error e=>CX outer H s E e s'
structure FnOk (P:Program) (w:World) (K:PySem.W.Frag) (mg:Str->Option Value) (base:Heap) (CX:CXT) (k:Nat) (f:Addr) (fd:FuncData) (ps:List Str) (sp:Sp):Prop where
 len:∀ vs H Q E,sp vs H Q E->vs.length=ps.length
 run:∀ (A:Around) (outer:List Env) (s:Shared) (H:Hp) (args:Args) (us:List Value) (vs:List V) (Q:VK) (E:XK),Room k A->Env0 P w K mg base A outer s H->BindsTo s fd args (ps.zip us)->Vals vs us->sp vs H Q E →
   codeAny (model P w) A (.call (.ref f) args) (CR CX outer P w H s Q E) s
theorem Env0.make {P:Program} {w:World} {K:PySem.W.Frag} {mg:Str->Option Value} {base:Heap} {A:Around} {outer:List Env} {s:Shared} {H:Hp} (e:Env0 P w K mg base A outer s H) (C:Addr) (us:List Value) (kw:List (Str × Value)) :
 Env0 P w K mg base (A.under (.builtin "type.__call__" ⟨.ref C::us,kw⟩)) outer s H:=⟨by first | exact e.frames | (simpa [Around.under,Code.envs,Code.isFrame,pushEnvs] using e.frames),e.mod,e.bs,e.bsz,e.funs,e.frf,e.hok,e.bare⟩
section
variable {X:Cx} {pins:List (Addr × Obj)} {σ:St} {H:Hp} {s s':Shared}
theorem Inv.env0 (I:Inv X pins σ H s):Env0 X.prog X.w X.K X.mg X.base X.A X.stack s H :=
 ⟨I.ok.frames,I.ok.mod,I.bs,Nat.le_trans I.ok.bsz I.sz,I.stack,I.stkFree,I.hok,I.bare⟩
theorem Inv.after {Q:VK} {u:Value} (I:Inv X pins σ H s) (h:CE X.stack X.prog X.w H s Q u s'):EP X pins σ Q u s':=by
 obtain ⟨v,H',os,bare,un,hok,r,q⟩:=h
 obtain ⟨hh,g,d,t,os'⟩:=s'
 obtain rfl:os'=s.os:=os
 exact⟨v,H',I.call (h':=hh) (g':=g) (d':=d) (t':=t) (ch:=[]) un hok bare (fun b z=>absurd z (by simp)),r,q⟩
end
/-! ### calls -/
def tCall (sp:Sp) (dvs:List V) (E:XK) (t:TA):TE:=fun σ H Q=>t σ H fun vs H1=>sp (vs++dvs) H1 Q E
def tMeth (C:Addr) (m:Str) (sp:Sp) (dvs:List V) (E:XK) (ta:TE) (t:TA):TE:=fun σ H Q=>ta σ H fun x H1=>∃ a dx fs,x = .ref a/\H1 a=some (.ins C dx fs)/\fs.lookup m=none ∧
 t σ H1 fun vs H2=>sp (x::(vs++dvs)) H2 Q E
def tMake (C:Addr) (sp:Sp) (dvs:List V) (E:XK) (t:TA):TE:=fun σ H Q=>t σ H fun vs H1=>∀ x dx,H1 x=none->H1 dx=none->dx≠x →
 sp (.ref x::(vs++dvs)) (upd (upd H1 dx (.own x)) x (.ins C dx [])) (fun v H2=>v = .non/\Q (.ref x) H2) E
def Binds (K:PySem.W.Frag) (fd:FuncData) (ps:List Str) (ds:List Value):Prop :=
 ∀ (s:Shared) (us:List Value),K.In s.heap->(us++ds).length=ps.length->BindsTo s fd ⟨us,[]⟩ (ps.zip (us++ds))
theorem Binds.all {K:PySem.W.Frag} {fd:FuncData} {ps:List Str} (h:∀ us:List Value,us.length=ps.length->bindArgs fd ⟨us,[]⟩=pure (ps.zip us)):Binds K fd ps []:=fun s us _ hl=>by
 rw[List.append_nil] at hl ⊢
 exact .of_eq (h us hl)
def Passes (CX:CXT) (X:Cx) (E:XK):Prop:=∀ (pins:List (Addr × Obj)) (σ:St) (H:Hp) (s:Shared) (e:Value) (s':Shared),Inv X pins σ H s->CX X.stack H s E e s'->X.xe e s'
section
variable {X:Cx} {CX:CXT} {k:Nat} {f C:Addr} {fd:FuncData} {ps:List Str} {sp:Sp} {dvs:List V} {ds:List Value} {E:XK} {x m:Str} {p pos apos:Pos} {e o:Expr} {es:List Expr} {ta:TE} {t:TA}
theorem run_fn {pins:List (Addr × Obj)} {σ:St} {H:Hp} {s:Shared} {Q:VK} {us:List Value} {vs:List V} (F:FnOk X.prog X.w X.K X.mg X.base CX k f fd ps sp) (hr:Room k X.A) (hb:Binds X.K fd ps ds) (hd:Vals dvs ds) (hx:Passes CX X E)
   (I:Inv X pins σ H s) (r:Vals vs us) (h:sp (vs++dvs) H Q E):wpAny (model X.prog X.w) X.A (call (.ref f) us) (EP X pins σ Q) X.xe s:=by
 have r2:Vals (vs++dvs) (us++ds):=r.append hd
 have hl:(us++ds).length=ps.length:=by rw[<-r2.length]; exact F.len _ _ _ _ h
 refine wpAny_call (codeAny_mono (F.run X.A X.stack s H ⟨us,[]⟩ (us++ds) (vs++dvs) Q E hr I.env0 (hb s us I.kIn hl) r2 h) fun r s' hq=>?_)
 cases r with
 | error e=>exact hx pins σ H s e s' I hq
 | ok fl =>
   cases fl with
   | ret u=>exact I.after hq
   | next=>exact False.elim hq
   | brk=>exact False.elim hq
   | cont=>exact False.elim hq
theorem pe_call (F:FnOk X.prog X.w X.K X.mg X.base CX k f fd ps sp) (hr:Room k X.A) (hg:Gl X x) (hm:X.mg x=some (.ref f)) (hk:PySem.W.keepIn X.K (.ref f)=true) (hb:Binds X.K fd ps ds) (hd:Vals dvs ds) (hx:Passes CX X E)
   (ha:PA X (e::es) t) (hdb:(x == ("__debug__" : Str))=false:=by decide) (he:starEach (e::es) X.env=(false,eval e X.env)::starEach es X.env:=by rfl) (hpl:(backTo pos (starEach es X.env)).any (·.1)=false:=by rfl) :
   PE X (.Call (.Name x p) (e::es) [] pos) (tCall sp dvs E t):=by
 intro pins s σ H Q I h
 refine wpAny_Call_Name_kw (ld_glob I hg hm ?_ hdb)
 refine PySem.W.callWith_K (h₀:=X.base) I.ok.mod.kin hk (thn (ha pos pins s σ H _ I h) fun us s1 ⟨vs,H1,I1,r,q⟩=>⟨I1.kIn,?_⟩) he hpl
 exact run_fn F hr hb hd hx I1 r q
theorem pe_meth {pl:Sem Bool} (he:PE X o ta) (c:Cls X.K C) (hm:Meth X.K C m f) (F:FnOk X.prog X.w X.K X.mg X.base CX k f fd ps sp) (hr:Room k X.A) (hb:Binds X.K fd ps ds) (hd:Vals dvs ds) (hx:Passes CX X E) (ha:PA X (e::es) t)
   (hst:starEach (e::es) X.env=(false,eval e X.env)::starEach es X.env:=by rfl) (hpl:(backTo pos (starEach es X.env)).any (·.1)=false:=by rfl)
   (ht:eval (.Call (.Attribute o m apos) (e::es) [] pos) X.env=(do
     let ov <-eval o X.env
     standAt apos.atName
     let (f,first) <-holding [ov] (getMethod ov m pl)
     callWith pos f first (backTo pos (starEach (e::es) X.env)) (backToKw pos (keywordEach [] X.env))):=by rfl) :
   PE X (.Call (.Attribute o m apos) (e::es) [] pos) (tMeth C m sp dvs E ta t):=by
 intro pins s σ H Q I h
 refine PySem.W.methodCall_KW (pl:=pl) (thn (he pins s σ H _ I h) fun u s1 ⟨x,H1,I1,rx,a,dx,fs,ex,ea,l,q⟩=>?_) ht
 subst ex
 obtain rfl:u=Value.ref a:=rx
 refine getmeth_ok I1 ea c hm l ?_
 refine PySem.W.callWith_K (first:=[.ref a]) (h₀:=X.base) I.ok.mod.kin hm.kp (thn (ha pos pins s1 σ H1 _ I1 q) fun us s2 ⟨vs,H2,I2,r,q2⟩=>⟨I2.kIn,?_⟩) hst hpl
 exact run_fn (us:=.ref a::us) (vs:=.ref a::vs) F hr hb hd hx I2 (.cons rfl r) q2
theorem pe_meth0 {pl:Sem Bool} (he:PE X o ta) (c:Cls X.K C) (hm:Meth X.K C m f) (F:FnOk X.prog X.w X.K X.mg X.base CX k f fd ps sp) (hr:Room k X.A) (hb:Binds X.K fd ps ds) (hd:Vals dvs ds) (hx:Passes CX X E)
   (ht:eval (.Call (.Attribute o m apos) [] [] pos) X.env=(do
     let ov <-eval o X.env
     standAt apos.atName
     let (f,first) <-holding [ov] (getMethod ov m pl)
     callWith pos f first (backTo pos (starEach [] X.env)) (backToKw pos (keywordEach [] X.env))):=by rfl) :
   PE X (.Call (.Attribute o m apos) [] [] pos) (tMeth C m sp dvs E ta tNil):=by
 intro pins s σ H Q I h
 refine PySem.W.methodCall_KW (pl:=pl) (thn (he pins s σ H _ I h) fun u s1 ⟨x,H1,I1,rx,a,dx,fs,ex,ea,l,q⟩=>?_) ht
 subst ex
 obtain rfl:u=Value.ref a:=rx
 refine getmeth_ok I1 ea c hm l ?_
 exact PySem.W.callWith_K0 (first:=[.ref a]) I1.kIn hm.kp (run_fn (us:=[.ref a]) (vs:=[.ref a]) F hr hb hd hx I1 (.cons rfl .nil) q)
structure Mk (K:PySem.W.Frag) (C f:Addr):Prop where
 makes:PySem.W.makesIn K C=true
 init:PySem.W.findIn K (.ref C) "__init__" = some (some (.ref f))
 fn:PySem.W.isFn K (.ref f)=true
 kp:PySem.W.keepIn K (.ref C)=true
theorem run_make {pins:List (Addr × Obj)} {σ:St} {H:Hp} {s:Shared} {Q:VK} {us:List Value} {vs:List V} (M:Mk X.K C f) (F:FnOk X.prog X.w X.K X.mg X.base CX k f fd ps sp) (hr:Room (k+1) X.A) (hb:Binds X.K fd ps ds) (hd:Vals dvs ds)
   (hx:Passes CX X E) (I:Inv X pins σ H s) (r:Vals vs us)
   (h:∀ x dx,H x=none->H dx=none->dx≠x->sp (.ref x::(vs++dvs)) (upd (upd H dx (.own x)) x (.ins C dx [])) (fun v H2=>v = .non/\Q (.ref x) H2) E) :
   wpAny (model X.prog X.w) X.A (call (.ref C) us) (EP X pins σ Q) X.xe s:=by
 have hq:=h (s.heap.objs.size+1) s.heap.objs.size (I.hok.fresh (Nat.le_succ _)) (I.hok.fresh (Nat.le_refl _)) (Nat.ne_of_lt (Nat.lt_succ_self _))
 have I2:=Inv.made (C:=C) I
 have r2:Vals (V.ref (s.heap.objs.size+1)::(vs++dvs)) (Value.ref (s.heap.objs.size+1)::(us++ds)):=.cons rfl (r.append hd)
 have hl:(Value.ref (s.heap.objs.size+1)::us++ds).length=ps.length:=by
   have e:=r2.length
   rw[F.len _ _ _ _ hq] at e
   exact e.symm
 refine wpAny_call (make_map (f:=f) I.kIn M.makes M.init (beq_iff_eq.mp M.fn) (codeAny_mono (F.run _ X.stack _ _ ⟨Value.ref (s.heap.objs.size+1)::us,[]⟩ (Value.ref (s.heap.objs.size+1)::(us++ds)) _ _ E (hr.make C us [])
   (I2.env0.make C us []) (hb _ (Value.ref (s.heap.objs.size+1)::us) I2.kIn hl) r2 hq) fun r s' hq'=>?_))
 cases r with
 | error e=>exact hx pins σ _ _ e s' I2 hq'
 | ok fl =>
   cases fl with
   | ret u =>
     obtain ⟨v,H',I3,rv,ev,q3⟩:=I2.after hq'
     subst ev
     exact⟨rv,⟨V.ref (s.heap.objs.size+1),H',I3,rfl,q3⟩⟩
   | next=>exact False.elim hq'
   | brk=>exact False.elim hq'
   | cont=>exact False.elim hq'
theorem pe_make (M:Mk X.K C f) (F:FnOk X.prog X.w X.K X.mg X.base CX k f fd ps sp) (hr:Room (k+1) X.A) (hg:Gl X x) (hm:X.mg x=some (.ref C)) (hb:Binds X.K fd ps ds) (hd:Vals dvs ds) (hx:Passes CX X E)
   (ha:PA X (e::es) t) (hdb:(x == ("__debug__" : Str))=false:=by decide) (he:starEach (e::es) X.env=(false,eval e X.env)::starEach es X.env:=by rfl) (hpl:(backTo pos (starEach es X.env)).any (·.1)=false:=by rfl) :
   PE X (.Call (.Name x p) (e::es) [] pos) (tMake C sp dvs E t):=by
 intro pins s σ H Q I h
 refine wpAny_Call_Name_kw (ld_glob I hg hm ?_ hdb)
 refine PySem.W.callWith_K (h₀:=X.base) I.ok.mod.kin M.kp (thn (ha pos pins s σ H _ I h) fun us s1 ⟨vs,H1,I1,r,q⟩=>⟨I1.kIn,?_⟩) he hpl
 exact run_make M F hr hb hd hx I1 r q
end
/-! ### keywords -/
section
variable {X:Cx} {CX:CXT} {k:Nat} {f C:Addr} {fd:FuncData} {ps ks:List Str} {sp:Sp} {E:XK} {x m:Str} {p pos apos kpos:Pos} {e o:Expr} {es:List Expr} {kws:List Keyword} {te ta:TE} {t tk:TA} {nm:Option Str}
variable {g:List Value->List Value->List Value} {gV:List V->List V->List V}
end
/-! ### a def's body keeps its promise -/
structure FnScope (N P:List Str) (sc:Scope):Prop where
 kind:sc.kind = .function
 co:sc.isCoroutine=false
 gen:sc.isGenerator=false
 nd:N.Nodup
 pre:N.take P.length=P
 par:∀ x∈P,sc.names.lookup x=some .local\/sc.names.lookup x=some .cell
 nofree:∀ y∈sc.names,y.2≠.free
theorem bindL_out {kindOf:Str->Option NameKind} {x:Str}:∀ {binds:List (Str × Value)} {m:Str->Option Value},(∀ v,(x,v) ∉ binds)->bindL kindOf binds m x=m x
 | [],_,_=>rfl
 | (n,v)::r,m,h=>by
   unfold bindL
   rw[bindL_out fun w hw=>h w (List.mem_cons_of_mem _ hw)]
   split
   . have:x≠n:=by rintro rfl; exact h v List.mem_cons_self
     simp[this]
   . rfl
theorem bindC_out {kindOf:Str->Option NameKind} {x:Str}:∀ {binds:List (Str × Value)} {m:Str->Option Value},(∀ v,(x,v) ∉ binds)->bindC kindOf binds m x=m x
 | [],_,_=>rfl
 | (n,v)::r,m,h=>by
   unfold bindC
   rw[bindC_out fun w hw=>h w (List.mem_cons_of_mem _ hw)]
   split
   . rfl
   . have:x≠n:=by rintro rfl; exact h v List.mem_cons_self
     simp[this]
theorem bindL_get {kindOf:Str->Option NameKind} {x:Str} {v:Value}:∀ {P:List Str} {vs:List Value} {i:Nat} {m:Str->Option Value},P.Nodup->P[i]?=some x->vs[i]?=some v->kindOf x=some .local →
   bindL kindOf (P.zip vs) m x=some v
 | [],_,_,_,_,h,_,_=>by simp at h
 | _::_,[],_,_,_,_,h,_=>by simp at h
 | p::P,w::vs,0,m,nd,h1,h2,hk=>by
   simp at h1 h2; subst h1; subst h2
   show bindL kindOf ((p,w)::P.zip vs) m p=_
   unfold bindL
   rw[bindL_out fun v hv=>(List.nodup_cons.mp nd).1 (List.of_mem_zip hv).1,if_pos hk]
   simp
 | p::P,w::vs,i+1,m,nd,h1,h2,hk=>by
   show bindL kindOf ((p,w)::P.zip vs) m x=_
   unfold bindL
   exact bindL_get (i:=i) (List.nodup_cons.mp nd).2 (by simpa using h1) (by simpa using h2) hk
theorem bindC_get {kindOf:Str->Option NameKind} {x:Str} {v:Value}:∀ {P:List Str} {vs:List Value} {i:Nat} {m:Str->Option Value},P.Nodup->P[i]?=some x->vs[i]?=some v->kindOf x≠some .local →
   bindC kindOf (P.zip vs) m x=some v
 | [],_,_,_,_,h,_,_=>by simp at h
 | _::_,[],_,_,_,_,h,_=>by simp at h
 | p::P,w::vs,0,m,nd,h1,h2,hk=>by
   simp at h1 h2; subst h1; subst h2
   show bindC kindOf ((p,w)::P.zip vs) m p=_
   unfold bindC
   rw[bindC_out fun v hv=>(List.nodup_cons.mp nd).1 (List.of_mem_zip hv).1,if_neg hk]
   simp
 | p::P,w::vs,i+1,m,nd,h1,h2,hk=>by
   show bindC kindOf ((p,w)::P.zip vs) m x=_
   unfold bindC
   exact bindC_get (i:=i) (List.nodup_cons.mp nd).2 (by simpa using h1) (by simpa using h2) hk
def start (N:List Str) (vs:List V):St:=vs.map some++List.replicate (N.length - vs.length) none
def cxOf (CX:CXT) (P:Program) (w:World) (K:PySem.W.Frag) (mg:Str->Option Value) (base:Heap) (N:List Str) (qual:Str) (scope:Scope) (f:Addr) (cd:Value) (A:Around) (outer:List Env) (s:Shared) (H:Hp) (E:XK):Cx where
 prog:=P
 w:=w
 K:=K
 mg:=mg
 base:=base
 A:=A.deeper (envOfC qual scope s.heap.objs.size f cd)
 N:=N
 s₀:=s
 H₀:=H
 env:=envOfC qual scope s.heap.objs.size f cd
 outer:=outer
 stack:=envOfC qual scope s.heap.objs.size f cd::outer
 ex:=[]
 calm:=true
 fn:=fun _=>true
 pn:=[]
 xe:=fun e s'=>wpAny (model P w) (A.deeper (envOfC qual scope s.heap.objs.size f cd)) (leaving (envOfC qual scope s.heap.objs.size f cd) e) (fun _ s''=>CX outer H s E e s'') (fun e' s''=>CX outer H s E e' s'') s'
theorem cell_has {sc:Scope} {n:Nat} {x:Str} (h:sc.names.lookup x=some .cell):∃ c,(cellsFrom n sc.names []).lookup x=some c:=by
 have q:=PySem.W.cellsFrom_some sc.names n [] (.inl h)
 exact Option.isSome_iff_exists.mp q
theorem inv_start {CX:CXT} {P:Program} {w:World} {K:PySem.W.Frag} {mg:Str->Option Value} {base:Heap} {N ps:List Str} {qual:Str} {scope:Scope} {f:Addr} {cd:Value} {A:Around} {outer:List Env} {s s1:Shared} {H:Hp} {E:XK} {us:List Value} {vs:List V}
   (S:FnScope N ps scope) (hd:A.handled=none) (e0:Env0 P w K mg base A outer s H) (hl:vs.length=ps.length) (r:Vals vs us)
   (x:InCallC s s.heap.objs.size (bindL (envOfC qual scope s.heap.objs.size f cd).kindOf (ps.zip us) fun _=>none) (cellsFrom (s.heap.objs.size+1) scope.names []) (bindC (envOfC qual scope s.heap.objs.size f cd).kindOf (ps.zip us) fun _=>none) s1) :
   Inv (cxOf CX P w K mg base N qual scope f cd A outer s H E) [] (start N vs) H s1:=by
 have hpl:ps.length<=N.length:=by have:=congrArg List.length S.pre; rw[List.length_take] at this; omega
 obtain ⟨h1,tk,rfl,hk⟩:=x.done
 have noA:∀ b:Addr,b ∉ (cxOf CX P w K mg base N qual scope f cd A outer s H E).ex:=fun b z=>absurd (show b∈([]:List Addr) from z) (by simp)
 refine⟨⟨e0.mod,S.kind,rfl,rfl,Nat.le_refl _,fun y z c h1 h2=>?_,fun y hy=>?_,fun y c _ h=>?_,fun _=>hd,Around.frames_deeper e0.frames,.inr ⟨rfl,rfl⟩,fun b z=>absurd z (noA b),e0.bs,e0.bsz,fun b _ _=>noA b,fun b z=>absurd z (noA b),e0.funs,e0.frf⟩,
   rfl,e0.bare,Un.kept hk,⟨_,x.toInCall.ns,fun i y v h1 h2 h3=>?_⟩,fun y c h=>⟨_,x.cell y c h⟩,e0.hok.fresh (Nat.le_refl _),fun y c h=>?_,fun p hp=>absurd (show p∈([]:List (Addr × Obj)) from hp) (by simp),e0.hok.kept hk,?_⟩
 . exact name_of_addr x.apart (PySem.mem_of_lookup h1) (PySem.mem_of_lookup h2)
 . have hy:scope.names.lookup y=some .cell\/scope.names.lookup y=some .free:=hy
   rcases hy with hy | hy
   . exact cell_has hy
   . exact absurd rfl (S.nofree _ (PySem.mem_of_lookup hy))
 . exact Nat.le_of_lt (x.above y c (PySem.mem_of_lookup h))
 . have hi:i < vs.length:=by
     unfold start at h2
     by_cases hi:i < vs.length
     . exact hi
     . rw[List.getElem?_append_right (by simpa using hi)] at h2
       rw[List.getElem?_replicate] at h2
       split at h2 <;> cases h2
   have ha:vs[i]?=some v:=by
     unfold start at h2
     rw[List.getElem?_append_left (by simpa using hi),List.getElem?_map] at h2
     cases e:vs[i]? with
     | none=>rw[e] at h2; cases h2
     | some a=>rw[e] at h2; cases h2; rfl
   obtain ⟨u,hu,rv⟩:=r.get ha
   have hp:ps[i]?=some y:=by
     rw[<-S.pre,List.getElem?_take_of_lt (by omega)]; exact h1
   have ndP:ps.Nodup:=by rw[<-S.pre]; exact S.nd.sublist (List.take_sublist _ _)
   refine⟨u,rv,?_⟩
   rcases S.par y (List.mem_of_getElem? hp) with k | k
   . exact .inl ⟨k,bindL_get ndP hp hu k⟩
   . obtain ⟨c,e⟩:=cell_has (n:=s.heap.objs.size+1) k
     refine .inr ⟨.inl k,c,e,?_⟩
     have q:=x.cell y c e
     rw[bindC_get ndP hp hu (by show scope.names.lookup y≠_; rw[k]; decide)] at q
     exact q
 . exact e0.hok.fresh (Nat.le_of_lt (x.above y c (PySem.mem_of_lookup h)))
 . unfold start
   show _=N.length
   rw[List.length_append,List.length_map,List.length_replicate]
   omega
theorem fn_of {CX:CXT} {P:Program} {w:World} {K:PySem.W.Frag} {mg:Str->Option Value} {base:Heap} {k:Nat} {f:Addr} {name qual:Str} {params:Arguments} {body:List Stmt} {scope:Scope} {dV kV doc pm cdv ct oc:Value} {an od:Option Addr}
   {osl:Array (Option Value)} {N ps:List Str} {sp:Sp} (lk:K.lookup f=some ⟨oc,od,.func (PySem.W.fnOf name qual params body scope dV kV doc pm an cdv ct),osl⟩) (hcd:PySem.W.codeIn K cdv qual=true) (S:FnScope N ps scope)
   (len:∀ vs H Q E,sp vs H Q E->vs.length=ps.length)
   (hbody:∀ (A:Around) (outer:List Env) (s:Shared) (H:Hp) (vs:List V) (Q:VK) (E:XK),Room k (A.deeper (envOfC qual scope s.heap.objs.size f cdv))->sp vs H Q E →
     ∃ t,PSs (cxOf CX P w K mg base N qual scope f cdv A outer s H E) body t/\t { nx:=fun _ H'=>Q .non H',rt:=Q } (start N vs) H) :
   FnOk P w K mg base CX (k+1) f (PySem.W.fnOf name qual params body scope dV kV doc pm an cdv ct) ps sp:=by
 refine⟨len,fun A outer s H args us vs Q E hr e0 hb r hsp=>?_⟩
 have hl:=len _ _ _ _ hsp
 have KX:K.In s.heap:=e0.mod.kin.keeps fun b o e=>(e0.bs b o e).1
 have lim:s.heap.NoLimit:=e0.mod.nolimit.keeps fun b o e=>(e0.bs b o e).1
 have hkind:∀ y∈ps.zip us,scope.names.lookup y.1=some .local\/(scope.names.lookup y.1=some .cell/\((cellsFrom (s.heap.objs.size+1) scope.names []).lookup y.1).isSome=true):=fun ⟨n,v⟩ hy=>by
   rcases S.par n (List.of_mem_zip hy).1 with q | q
   . exact .inl q
   . exact .inr ⟨q,PySem.W.cellsFrom_some _ _ _ (.inl q)⟩
 refine codeAny_call_function hr.depth (KX _ _ lk) rfl S.co S.gen rfl (PySem.W.codeRec_of KX hcd) (hb _ _ _ _ ?_)
 refine wpAny_newFunctionEnv_cells S.kind hkind fun env he s1 x=>?_
 subst he
 refine⟨lim.keeps x.toInCall.keep,codeAny_func ?_⟩
 obtain ⟨t,ht,hq⟩:=hbody A outer s H vs Q E (hr.deeper _) hsp
 have I:Inv (cxOf CX P w K mg base N qual scope f cdv A outer s H E) [] (start N vs) H s1:=inv_start S hr.hd e0 hl r x
 refine wpAny_mono (ht [] s1 (start N vs) H _ I hq) (fun fl s' hs=>?_) fun e s' hs=>hs
 have fin:∀ {σ':St} {H':Hp} {v:V} {u:Value},Inv (cxOf CX P w K mg base N qual scope f cdv A outer s H E) [] σ' H' s'->RelV v u->Q v H'->CE outer P w H s Q u s' :=
   fun {σ' H' v u} J rv q=>⟨v,H',J.os,J.bare,J.base,J.hok,rv,q⟩
 cases fl with
 | ret u =>
   obtain ⟨v,σ',H',J,rv,q⟩:=hs
   exact fin J rv q
 | next =>
   obtain ⟨σ',H',J,q⟩:=hs
   exact fin (v:=V.non) (u:=Value.none) J rfl q
 | brk =>
   obtain ⟨_,_,_,q⟩:=hs
   exact False.elim q
 | cont =>
   obtain ⟨_,_,_,q⟩:=hs
   exact False.elim q
end L2
namespace L2
open PySem PySem.Spec PyProof.Rows
section
variable {X:Cx} {x:Str} {p pos:Pos} {e:Expr} {es:List Expr} {t:TA} {id T:String} {r:List V->Hp->VK->Prop}
def tCB (r:List V->Hp->VK->Prop) (t:TA):TE:=fun σ H Q=>t σ H fun vs H1=>r vs H1 Q
theorem pe_callB (hc:CallR X (.builtin id) r) (hg:Gl X x) (hm:X.mg x=none) (hv:bootBuiltins x=some (.builtin id)) (ha:PA X (e::es) t) (hn:x≠"__name__":=by decide) (hdb:(x == ("__debug__" : Str))=false:=by decide)
   (he:starEach (e::es) X.env=(false,eval e X.env)::starEach es X.env:=by rfl) (hpl:(backTo pos (starEach es X.env)).any (·.1)=false:=by rfl):PE X (.Call (.Name x p) (e::es) [] pos) (tCB r t):=by
 intro pins s σ H Q I h
 refine wpAny_Call_Name_kw (ld_blt I hg hm hv ?_ hn hdb)
 exact PyProof.Rows.callWith_builtin1 (thn (ha pos pins s σ H _ I h) fun us s1 ⟨vs,H1,I1,r1,q1⟩=>hc pins s1 σ H1 vs us Q I1 r1 q1) he hpl
theorem pe_callTy (hc:CallR X (.type T) r) (hg:Gl X x) (hm:X.mg x=none) (hv:bootBuiltins x=some (.type T)) (ha:PA X (e::es) t) (hn:x≠"__name__":=by decide) (hdb:(x == ("__debug__" : Str))=false:=by decide)
   (he:starEach (e::es) X.env=(false,eval e X.env)::starEach es X.env:=by rfl) (hpl:(backTo pos (starEach es X.env)).any (·.1)=false:=by rfl):PE X (.Call (.Name x p) (e::es) [] pos) (tCB r t):=by
 intro pins s σ H Q I h
 refine wpAny_Call_Name_kw (ld_blt I hg hm hv ?_ hn hdb)
 exact PyProof.Rows.callWith_type1 (thn (ha pos pins s σ H _ I h) fun us s1 ⟨vs,H1,I1,r1,q1⟩=>hc pins s1 σ H1 vs us Q I1 r1 q1) he hpl
end
end L2
namespace HT
open PySem PyProof.Rows
section
open PySem.SeqAt
open PySem.AutoSeq1 (wpAny_loadPart')
open PySem.MeetsSeq PySem.MeetsSeq2 PySem.MeetsSeq3
end
section
variable {prog:Program} {w:World} {A:Around} {E:Value->Shared->Prop} {s:Shared}
theorem cat_tup {t b:Addr} {vs ws:List Value} {Q:Value->Shared->Prop} (ht:IsTup s.heap t vs.toArray) (hb:IsTup s.heap b ws.toArray) (hv:vs≠[])
   (h1:ws=[]->Q (.ref t) s) (h2:ws≠[]->Q (.ref s.heap.objs.size) { s with heap:=s.heap.push { cls:=.type "tuple",data:=.seq (vs++ws).toArray } })
   (hsz:vs.length+ws.length<=sizeLine):wpAny (model prog w) A (binaryOp .Add (.ref t) (.ref b)) Q E s:=by
 obtain ⟨⟨cls,dd,data,sl⟩,ho,hc,n,hd⟩:=id ht
 obtain ⟨⟨cls2,dd2,data2,sl2⟩,ho2,hc2,n2,hd2⟩:=id hb
 simp only at hc hd hc2 hd2
 subst hc hd hc2 hd2
 have e:vs.toArray++ws.toArray=(vs++ws).toArray:=by simp
 by_cases hw:ws=[]
 . exact concat_meets ⟨_,ho,rfl⟩ ⟨_,ho2,rfl⟩ noFill_tuple_add seq_tuple_add PySem.F.slot_tuple_add PySem.F.entry_tuple_add (PySem.F.args_tuple_add_2 _ _)
     (tuple_addW1 t b vs.toArray ws.toArray n n2 dd dd2 sl sl2 (by simpa using hv) (by simp[hw])) ⟨ho,ho2,h1 hw⟩
 . refine concat_meets ⟨_,ho,rfl⟩ ⟨_,ho2,rfl⟩ noFill_tuple_add seq_tuple_add PySem.F.slot_tuple_add PySem.F.entry_tuple_add (PySem.F.args_tuple_add_2 _ _)
     (tuple_addW2 t b vs.toArray ws.toArray n n2 dd dd2 sl sl2 (by simpa using hv) (by simpa using hw) (by rw[List.size_toArray,List.size_toArray]; exact hsz)) ⟨ho,ho2,?_⟩
   rw[e]
   exact h2 hw
/-! ### t[a:b],not the whole -/
def sIx (n d:Nat):Option Int->Nat
 | none=>d
 | some v=>if v < 0 then (v+(n:Int)).toNat else min v.toNat n
theorem sIx_none (n d:Nat):sIx n d none=d:=rfl
theorem sIx_nat (n d k:Nat):sIx n d (some (k:Int))=min k n:=by
 show (if (k:Int) < 0 then ((k:Int)+(n:Int)).toNat else min (k:Int).toNat n)=min k n
 rw[if_neg (by omega),Int.toNat_natCast]
theorem sIx_le (n d:Nat) (hd:d<=n) (o:Option Int):sIx n d o<=n:=by
 cases o with
 | none=>exact hd
 | some v =>
   show (if v < 0 then (v+(n:Int)).toNat else min v.toNat n)<=n
   by_cases hv:v < 0
   . rw[if_pos hv]; omega
   . rw[if_neg hv]; exact Nat.min_le_right _ _
theorem clip_eq (v:Int) (n d:Nat):(if v < 0 then max (v+(n:Int)) 0 else min v (n:Int))=((sIx n d (some v):Nat):Int):=by
 show (if v < 0 then max (v+(n:Int)) 0 else min v (n:Int))=(((if v < 0 then (v+(n:Int)).toNat else min v.toNat n):Nat):Int)
 by_cases hv:v < 0
 . simp only[if_pos hv]; omega
 . simp only[if_neg hv]; omega
theorem adjust_gen (lo hi:Option Int) (n:Nat):Builtin.Slice.sliceAdjust lo hi 1 (n:Int)=(((sIx n 0 lo:Nat):Int),((sIx n n hi:Nat):Int)):=by
 have h1:¬ ((1:Int) < 0):=by omega
 unfold Builtin.Slice.sliceAdjust
 simp only[h1,if_false]
 refine Prod.ext ?_ ?_
 . cases lo with
   | none=>rfl
   | some v=>exact clip_eq v n 0
 . cases hi with
   | none=>rfl
   | some v=>exact clip_eq v n n
theorem places_gen (i j:Nat):Builtin.Slice.slicePlaces (i:Int) (j:Int) 1=j - i:=by
 unfold Builtin.Slice.slicePlaces
 have h1:(1:Int) > 0:=by omega
 simp only[h1,if_true,Int.ediv_one]
 split <;> omega
theorem slicePart_ {v:Value} {o:Option Int} {Q:Option Int->Shared->Prop} (p:IsPart v o) (h:Q o s):wpAny (model prog w) A (Builtin.Slice.slicePartIndex v) Q E s:=by
 cases p with
 | none=>exact slicePart_none h
 | int i t=>exact slicePart_int h
theorem sliceApplied_gen {sl:Addr} {vl vu:Value} {lo hi:Option Int} {n:Nat} {Q:Int × Int × Nat->Shared->Prop} (hs:s.heap.IsSliceOf sl vl vu .none) (pl:IsPart vl lo) (pu:IsPart vu hi)
   (h:Q (((sIx n 0 lo:Nat):Int),1,sIx n n hi - sIx n 0 lo) s):wpAny (model prog w) A (Builtin.Slice.sliceApplied (.ref sl) (pure (n:Int))) Q E s:=by
 obtain ⟨os,hos,hcs,hds⟩:=id hs
 unfold Builtin.Slice.sliceApplied Builtin.Slice.sliceFields
 refine wpAny_bind (wpAny_bind (wpAny_field hos hds (x:=vl) rfl (wpAny_bind (wpAny_field hos hds (x:=vu) rfl (wpAny_bind (wpAny_field hos hds (x:=.none) rfl (wpAny_pure ?_)))))))
 refine wpAny_bind (slicePart_none ?_)
 show wpAny _ _ (if ((1:Int) == 0)=true then _ else _) _ _ s
 rw[if_neg (by decide)]
 refine wpAny_bind (slicePart_ pl (wpAny_bind (slicePart_ pu (wpAny_bind (wpAny_pure ?_)))))
 show wpAny _ _ (match Builtin.Slice.sliceAdjust lo hi 1 (n:Int) with | (lo,hi)=>pure (lo,(1:Int),Builtin.Slice.slicePlaces lo hi 1)) _ _ s
 rw[adjust_gen lo hi n]
 show wpAny _ _ (pure (((sIx n 0 lo:Nat):Int),(1:Int),Builtin.Slice.slicePlaces ((sIx n 0 lo:Nat):Int) ((sIx n n hi:Nat):Int) 1)) _ _ s
 rw[places_gen]
 exact wpAny_pure h
theorem pick_gen (xs:Array Value) (i k:Nat):((List.range k).filterMap fun (m:Nat)=>xs[((i:Int)+(m:Int)*1).toNat]?).toArray=((xs.toList.drop i).take k).toArray:=by
 have e:(fun (m:Nat)=>xs[((i:Int)+(m:Int)*1).toNat]?)=fun m=>xs[i+m]?:=by
   funext m
   have:((i:Int)+(m:Int)*1).toNat=i+m:=by omega
   rw[this]
 rw[e]
 have:=pick_run xs i k
 rw[List.filterMap_map] at this
 have e2:((fun x=>xs[x]?) ∘ fun x=>i+x)=fun m=>xs[i+m]?:=rfl
 rw[e2] at this
 rw[this]
theorem getItem_tuple_cut {t sl:Addr} {items:Array Value} {vl vu:Value} {lo hi:Option Int} {Q:Value->Shared->Prop} (ht:IsTup s.heap t items) (hs:s.heap.IsSliceOf sl vl vu .none) (pl:IsPart vl lo) (pu:IsPart vu hi)
   (hw:¬ (sIx items.size 0 lo=0/\sIx items.size items.size hi=items.size))
   (h:Q (.ref s.heap.objs.size) { s with heap:=s.heap.push { cls:=.type "tuple",data:=.seq ((items.toList.drop (sIx items.size 0 lo)).take (sIx items.size items.size hi - sIx items.size 0 lo)).toArray } })
   (hsz:items.size<=sizeLine):wpAny (model prog w) A (getItem (.ref t) (.ref sl)) Q E s:=by
 have htake:sizeOk (.seq ((items.toList.drop (sIx items.size 0 lo)).take (sIx items.size items.size hi - sIx items.size 0 lo)).toArray):=by
   show ((items.toList.drop (sIx items.size 0 lo)).take (sIx items.size items.size hi - sIx items.size 0 lo)).toArray.size<=sizeLine
   rw[List.size_toArray,List.length_take,List.length_drop,Array.length_toList]
   omega
 have hj:sIx items.size items.size hi<=items.size:=sIx_le _ _ (Nat.le_refl _) hi
 obtain ⟨os,hos,hcs,hds⟩:=id hs
 have hTs:s.TypeIs (.ref sl) "slice":=⟨os,hos,hcs⟩
 unfold getItem
 try with_reducible refine wpAny_holding ?_
 first | refine wpAny_bind (wpAny_pure ?_) | skip
 refine wpAny_bind (wpAny_sequenceKey ht.typeIs (by decide) ?_)
 refine wpAny_bind (wpAny_callSpecial?_slot (name:=Str.ofString "__getitem__") ht.typeIs PyProof.Rows.slot_tuple_getitem
   (wpAny_call_entry PyProof.Rows.slot_tuple_getitem ht.typeIs entry_tuple_getitem ?_ (args_tuple_getitem _ _)))
 show wpAny _ _ (Builtin.Tuple.tupleItemsOf (.ref t) >>= _) _ _ s
 refine wpAny_bind (tupleItemsOf_ ht ?_)
 refine wpAny_bind (wpAny_typeOf hTs ?_)
 rw[if_pos (by decide)]
 refine wpAny_bind (sliceApplied_gen hs pl pu ?_)
 have hno:¬ ((((sIx items.size 0 lo:Nat):Int) == 0 && (1:Int) == 1 && (sIx items.size items.size hi - sIx items.size 0 lo) == items.size)=true):=by
   intro q
   rw[Bool.and_eq_true,Bool.and_eq_true] at q
   have q1:((sIx items.size 0 lo:Nat):Int)=0:=eq_of_beq q.1.1
   have q2:sIx items.size items.size hi - sIx items.size 0 lo=items.size:=eq_of_beq q.2
   exact hw ⟨by omega,by omega⟩
 show wpAny _ _ (if (((sIx items.size 0 lo:Nat):Int) == 0 && (1:Int) == 1 && (sIx items.size items.size hi - sIx items.size 0 lo) == items.size)=true then _ else _) _ _ s
 rw[if_neg hno,pick_gen]
 first
   | exact wpAny_bind (m:=Builtin.Tuple.tupleExact _) (wpAny_newObj_type (wpAny_pure ⟨_,rfl,wpAny_pure h⟩) htake)
   | exact wpAny_bind (m:=Builtin.Tuple.tupleExact _) (wpAny_newObj_type (wpAny_bind (wpAny_pure (wpAny_pure ⟨_,rfl,wpAny_pure h⟩))) htake)
   | exact wpAny_bind (wpAny_bind (m:=Builtin.Tuple.tupleExact _) (wpAny_newObj_type (wpAny_pure (wpAny_pure ⟨_,rfl,wpAny_pure h⟩)) htake))
   | exact wpAny_bind (wpAny_bind (m:=Builtin.Tuple.tupleExact _) (wpAny_newObj_type (wpAny_pure ⟨_,rfl,wpAny_pure h⟩) htake))
end
end HT
namespace L2
open PySem PySem.Spec PyProof.Rows
/-! ### the parts of a slice -/
abbrev TO:=St->Hp->(Option Int->Hp->Prop)->Prop
def PO (X:Cx) (e:Option Expr) (t:TO):Prop :=
 ∀ (pins:List (Addr × Obj)) (s:Shared) (σ:St) (H:Hp) (Q:Option Int->Hp->Prop),Inv X pins σ H s->t σ H Q →
   wpAny (model X.prog X.w) X.A (evalPart e X.env) (fun u s'=>∃ o H',Inv X pins σ H' s'/\IsPart u o/\Q o H') X.xe s
def tNoPart:TO:=fun _ H Q=>Q none H
def tPart (t:TE):TO:=fun σ H Q=>t σ H fun x H1=>∃ i,x = .int i/\Q (some i) H1
theorem intsAre_of {ns:List Int}:∀ {us:List Value},Vals (ns.map V.int) us->IntsAre us ns:=by
 induction ns with
 | nil=>intro us r; rw[List.map_nil] at r; cases r; exact .nil
 | cons n ns ih =>
   intro us r
   rw[List.map_cons] at r
   cases r with
   | cons r1 r2 =>
     obtain ⟨t,e⟩:=r1
     subst e
     exact .cons n t (ih r2)
section
variable {X:Cx} {e:Expr} {te:TE} {lo hi:Option Expr} {tl th:TO} {pos p2:Pos}
theorem po_none:PO X none tNoPart:=by
 intro pins s σ H Q I h
 rw[evalPart_none]
 exact wpAny_pure ⟨none,H,I,.none,h⟩
theorem po_some (h:PE X e te):PO X (some e) (tPart te):=by
 intro pins s σ H Q I hw
 rw[evalPart_some]
 refine thn (h pins s σ H _ I hw) fun u s1 ⟨x,H1,I1,r1,q1⟩=>?_
 obtain ⟨i,rfl,q⟩:=q1
 obtain ⟨t,rfl⟩:=r1
 exact⟨some i,H1,I1,.int i t,q⟩
def SlR (X:Cx) (r:V->Option Int->Option Int->Hp->VK->Prop):Prop :=
 ∀ (pins:List (Addr × Obj)) (s:Shared) (σ:St) (H:Hp) (x:V) (v vl vu:Value) (lo hi:Option Int) (sl:Addr) (Q:VK),Inv X pins σ H s->RelV x v->s.heap.IsSliceOf sl vl vu .none->IsPart vl lo->IsPart vu hi->r x lo hi H Q →
   ∃ T id,typeLookup (.type T) "__getitem__" = pure (some (.builtin id))/\s.TypeIs v T/\wpAny (model X.prog X.w) X.A (getItem v (.ref sl)) (EP X pins σ Q) X.xe s
def tSl (r:V->Option Int->Option Int->Hp->VK->Prop) (te:TE) (tl th:TO):TE:=fun σ H Q=>te σ H fun x H1=>tl σ H1 fun l H2=>th σ H2 fun u H3=>r x l u H3 Q
theorem pe_slice {r:V->Option Int->Option Int->Hp->VK->Prop} (hr:SlR X r) (he:PE X e te) (hl:PO X lo tl) (hu:PO X hi th):PE X (.Subscript e (.Slice lo hi none p2) pos) (tSl r te tl th):=by
 intro pins s σ H Q I h
 refine Subscript_ (thn (he pins s σ H _ I h) fun v s1 ⟨x,H1,I1,r1,q1⟩=>?_)
 refine wpAny_Slice (thn (hl pins s1 σ H1 _ I1 q1) fun vl s2 ⟨l,H2,I2,pl,q2⟩=>thn (hu pins s2 σ H2 _ I2 q2) fun vu s3 ⟨u,H3,I3,pu,q3⟩=>?_)
 rw[evalPart_none]
 refine wpAny_pure ?_
 have I4:Inv X pins σ H3 { s3 with heap:=s3.heap.push { cls:=.type "slice",data:=.fields #[vl,vu,.none] } }:=I3.kept (t':=s3.toks) fun b ob q=>Heap.get?_push_of_some _ q
 obtain ⟨T,id,hT,ht,hg⟩:=hr pins { s3 with heap:=s3.heap.push { cls:=.type "slice",data:=.fields #[vl,vu,.none] } } σ H3 x v vl vu l u s3.heap.objs.size Q I4 r1 (Heap.IsSliceOf.new ..) pl pu q3
 show wpAny (model X.prog X.w) X.A (subscriptTail e (.Slice lo hi none p2) v (.ref s3.heap.objs.size)) (EP X pins σ Q) X.xe { s3 with heap:=s3.heap.push { cls:=.type "slice",data:=.fields #[vl,vu,.none] } }
 exact tail_any (ops:=[.ref s3.heap.objs.size,v]) ht hT hg (by with_unfolding_all rfl)
def cutV (xs:List V) (lo hi:Option Int):List V:=(xs.drop (HT.sIx xs.length 0 lo)).take (HT.sIx xs.length xs.length hi - HT.sIx xs.length 0 lo)
theorem cutV_length (xs:List V) (lo hi:Option Int):(cutV xs lo hi).length<=xs.length:=by
 unfold cutV
 rw[List.length_take,List.length_drop]
 omega
def rSlT (K:PySem.W.Frag):V->Option Int->Option Int->Hp->VK->Prop:=fun x lo hi H Q=>∃ a xs,x = .ref a/\SqT K H a xs ∧
 ¬ (HT.sIx xs.length 0 lo=0/\HT.sIx xs.length xs.length hi=xs.length)/\∀ p,H p=none->Q (.ref p) (upd H p (.tup (cutV xs lo hi)))
theorem sl_tup:SlR X (rSlT X.K):=by
 intro pins s σ H x v vl vu lo hi sl Q I rx hs pl pu h
 obtain ⟨a,xs,rfl,hx,hw,q⟩:=h
 cases rx
 obtain ⟨its,r,ht,hz⟩:=I.tuple hx
 have hlen:its.toArray.size=xs.length:=by rw[List.size_toArray]; exact r.length.symm
 refine⟨"tuple",_,PyProof.Rows.slot_tuple_getitem.lookup,ht.typeIs,?_⟩
 refine HT.getItem_tuple_cut ht hs pl pu (by rw[hlen]; exact hw) ?_ (by rw[hlen]; exact hz)
 rw[hlen]
 refine⟨.ref s.heap.objs.size,_,I.laid (t':=s.toks) (o:=.tup (cutV xs lo hi)) (fun b ob q=>Heap.get?_push_of_some _ q) (Nat.le_refl _) ?_,rfl,q _ (I.hok.fresh (Nat.le_refl _))⟩
 exact⟨Nat.le_trans (cutV_length xs lo hi) hz,_,(r.drop (HT.sIx xs.length 0 lo)).take (HT.sIx xs.length xs.length hi - HT.sIx xs.length 0 lo),TupD.new _ _⟩
/-! ### t < u,t+u -/
def rCatT (K:PySem.W.Frag):R2:=fun x y H Q=>∃ a b xs ys,x = .ref a/\y = .ref b/\SqT K H a xs/\SqT K H b ys/\xs≠[]/\xs.length+ys.length<=sizeLine ∧
 (ys=[]->Q (.ref a) H)/\(ys≠[]->∀ p,H p=none->Q (.ref p) (upd H p (.tup (xs++ys))))
theorem Vals.nil_iff {xs:List V} {us:List Value} (r:Vals xs us):us=[] ↔ xs=[]:=by
 cases r with
 | nil=>simp
 | cons _ _=>simp
theorem op_catT:OpR X (binaryOp .Add) (rCatT X.K):=by
 intro pins s σ H x y v u Q I rx ry h
 obtain ⟨a,b,xs,ys,rfl,rfl,ha,hb,hx,hz,q1,q2⟩:=h
 cases rx
 cases ry
 obtain ⟨its,r1,p1,_⟩:=I.tuple ha
 obtain ⟨its2,r2,p2,_⟩:=I.tuple hb
 refine HT.cat_tup p1 p2 (fun z=>hx (r1.nil_iff.mp z)) (fun z=>⟨.ref a,H,I,rfl,q1 (r2.nil_iff.mp z)⟩) (fun z=>?_) (by rw[<-r1.length,<-r2.length]; exact hz)
 refine⟨.ref s.heap.objs.size,_,I.laid (t':=s.toks) (o:=.tup (xs++ys)) (fun b ob q=>Heap.get?_push_of_some _ q) (Nat.le_refl _) ?_,rfl,q2 (fun w=>z (r2.nil_iff.mpr w)) _ (I.hok.fresh (Nat.le_refl _))⟩
 exact⟨by rw[List.length_append]; exact hz,_,r1.append r2,TupD.new _ _⟩
end
end L2
namespace L2
open PySem PySem.Spec PyProof.Rows
/-! ### places -/
def ixN (n:Nat) (i:Int):Option Nat:=if 0<=i then (if i < n then some i.toNat else none) else if -(n:Int)<=i then some (i+n).toNat else none
def atI {α:Type} (xs:List α) (i:Int):Option α:=(ixN xs.length i).bind fun j=>xs[j]?
theorem ixN_seq {n:Nat} {i:Int} {j:Nat} (h:ixN n i=some j):seqIndex? i n=some j/\j < n/\-(n:Int)<=i/\i < n:=by
 unfold ixN at h
 by_cases h0:0<=i
 . rw[if_pos h0] at h
   by_cases h1:i < n
   . rw[if_pos h1] at h
     have e:i.toNat=j:=Option.some.inj h
     exact⟨by rw[seqIndex_of h0 h1,e],by omega,by omega,h1⟩
   . rw[if_neg h1] at h; cases h
 . rw[if_neg h0] at h
   by_cases h1:-(n:Int)<=i
   . rw[if_pos h1] at h
     have e:(i+n).toNat=j:=Option.some.inj h
     exact⟨by rw[seqIndex_neg (by omega) h1,e],by omega,h1,by omega⟩
   . rw[if_neg h1] at h; cases h
theorem atI_get {α:Type} {xs:List α} {i:Int} {v:α} (h:atI xs i=some v):∃ j,seqIndex? i xs.length=some j/\xs[j]?=some v/\j < xs.length/\-(xs.length:Int)<=i/\i < xs.length:=by
 unfold atI at h
 cases e:ixN xs.length i with
 | none=>rw[e] at h; cases h
 | some j =>
   rw[e] at h
   obtain ⟨h1,h2,h3,h4⟩:=ixN_seq e
   exact⟨j,h1,h,h2,h3,h4⟩
theorem atI_nat {α:Type} {xs:List α} {j:Nat} {v:α} (h:xs[j]?=some v):atI xs (j:Int)=some v:=by
 have hj:j < xs.length:=(List.getElem?_eq_some_iff.mp h).1
 have e:ixN xs.length (j:Int)=some j:=by
   unfold ixN
   rw[if_pos (by omega),if_pos (by omega)]; simp
 unfold atI; rw[e]; exact h
/-! ### what may be subscripted -/
def PlainIx (b:Expr):Prop:=∀ o i,subscripted b false o i=operate [o,i] (getItem o i)
def IxR (X:Cx) (r:R2):Prop :=
 ∀ (value slice:Expr) (pins:List (Addr × Obj)) (s:Shared) (σ:St) (H:Hp) (x y:V) (v u:Value) (Q:VK),Inv X pins σ H s->RelV x v->RelV y u->r x y H Q →
   subscripted slice false v u=operate [v,u] (getItem v u)->wpAny (model X.prog X.w) X.A (subscriptTail value slice v u) (EP X pins σ Q) X.xe s
def MtR (X:Cx) (id:String) (r:V->List V->Hp->VK->Prop):Prop :=
 ∀ (pins:List (Addr × Obj)) (s:Shared) (σ:St) (H:Hp) (x:V) (xs:List V) (v:Value) (us:List Value) (Q:VK),Inv X pins σ H s->RelV x v->Vals xs us->r x xs H Q →
   wpAny (model X.prog X.w) X.A (call (.builtin id) (v::us)) (EP X pins σ Q) X.xe s
section
variable {X:Cx} {a b:Expr} {ta tb:TE} {pos:Pos}
theorem IxR.or {r r':R2} (h:IxR X r) (h':IxR X r'):IxR X (fun x y H Q=>r x y H Q\/r' x y H Q):=by
 intro value slice pins s σ H x y v u Q I rx ry q hs
 rcases q with q | q
 . exact h value slice pins s σ H x y v u Q I rx ry q hs
 . exact h' value slice pins s σ H x y v u Q I rx ry q hs
theorem pe_ix {r:R2} (hr:IxR X r) (ha:PE X a ta) (hb:PE X b tb) (hs:PlainIx b):PE X (.Subscript a b pos) (tOp r ta tb):=by
 intro pins s σ H Q I h
 exact Subscript_ (binT ha hb I h fun v u s2 x y H2 I2 rx ry q=>hr a b pins s2 σ H2 x y v u Q I2 rx ry q (hs _ _))
def rIxL (K:PySem.W.Frag):R2:=fun x y H Q=>∃ p xs i v,x = .ref p/\y = .int i/\SqL K H p xs/\atI xs i=some v/\Q v H
def rIxT (K:PySem.W.Frag):R2:=fun x y H Q=>∃ p xs i v,x = .ref p/\y = .int i/\SqT K H p xs/\atI xs i=some v/\Q v H
def rIxS:R2:=fun x y H Q=>∃ z i c,x = .str z/\y = .int i/\z.length<=sizeLine/\atI z.cps.toList i=some c/\Q (.str ⟨#[c]⟩) H
theorem ix_list:IxR X (rIxL X.K):=by
 intro value slice pins s σ H x y v u Q I rx ry h hs
 obtain ⟨p,xs,i,z,rfl,rfl,hq,he,q⟩:=h
 cases rx
 obtain ⟨t,rfl⟩:=ry
 obtain ⟨its,r,pl,hz⟩:=I.list hq
 obtain ⟨j,h1,h2,h3,h4,h5⟩:=atI_get he
 obtain ⟨w,ew,rw'⟩:=r.get h2
 have hl:=r.length
 have hn:=line63
 have fin:EP X pins σ Q w s:=⟨z,H,I,rw',q⟩
 by_cases h0:0<=i
 . have hj:i.toNat=j:=by
     rw[seqIndex_of h0 h5] at h1
     exact Option.some.inj h1
   exact item_listR pl.isList h0 (by omega) (by rw[hj]; simpa using ew) fin hs
 . have hj:(i+(its.toArray.size:Int)).toNat=j:=by
     rw[seqIndex_neg (by omega) h4] at h1
     rw[List.size_toArray,<-hl]
     exact Option.some.inj h1
   exact subscriptTail_builtinR (x:=w) pl.isList.typeIs slot_list_getitem.lookup
     (wpAny_getItem_list_neg (Q:=fun r s'=>r=w/\EP X pins σ Q r s') pl.isList (by omega) (by rw[List.size_toArray] <;> omega) (by omega) (by rw[hj]; simpa using ew) ⟨rfl,fin⟩) hs
theorem ix_tup:IxR X (rIxT X.K):=by
 intro value slice pins s σ H x y v u Q I rx ry h hs
 obtain ⟨p,xs,i,z,rfl,rfl,hq,he,q⟩:=h
 cases rx
 obtain ⟨t,rfl⟩:=ry
 obtain ⟨its,r,pl,hz⟩:=I.tuple hq
 obtain ⟨j,h1,h2,h3,h4,h5⟩:=atI_get he
 obtain ⟨w,ew,rw'⟩:=r.get h2
 have hl:=r.length
 have hn:=line63
 have fin:EP X pins σ Q w s:=⟨z,H,I,rw',q⟩
 exact subscriptTail_builtinR (x:=w) pl.typeIs slot_tuple_getitem.lookup
   (getItem_tuple (j:=j) (Q:=fun r s'=>r=w/\EP X pins σ Q r s') pl (by omega) (by omega) (by rw[List.size_toArray,<-hl]; exact h1) (by simpa using ew) ⟨rfl,fin⟩) hs
theorem ix_str:IxR X rIxS:=by
 intro value slice pins s σ H x y v u Q I rx ry h hs
 obtain ⟨z,i,c,rfl,rfl,hz,he,q⟩:=h
 obtain ⟨t,rfl⟩:=rx
 obtain ⟨t',rfl⟩:=ry
 obtain ⟨j,h1,h2,h3,h4,h5⟩:=atI_get he
 have hl:z.cps.toList.length=z.length:=by simp[Str.length]
 rw[hl] at h1 h4 h5
 have hn:=line63
 exact tail_any (typeIs_str s z t) slot_str_getitem.lookup (getItem_str (c:=c) (by
   have e1:decide (i < -(2 ^ 63:Int))=false:=decide_eq_false (by omega)
   have e2:decide (i ≥ 2 ^ 63)=false:=decide_eq_false (by omega)
   rw[e1,e2,Bool.or_false]) (by rw[h1]; simpa using h2) ⟨.str ⟨#[c]⟩,H,I.tok _,⟨_,rfl⟩,q⟩) hs
def rIx (K:PySem.W.Frag):R2:=fun x y H Q=>rIxL K x y H Q\/rIxT K x y H Q\/rIxS x y H Q
theorem ix_seq:IxR X (rIx X.K):=ix_list.or (ix_tup.or ix_str)
/-! ### xs[i]=v,any sign -/
theorem mapSeq_set (its:List Value) (n j:Nat) (u:Value):Obj.mapSeq (·.setIfInBounds j u) { cls:=.type "list",data:=.seq its.toArray n } = { cls:=.type "list",data:=.seq (its.set j u).toArray n }:=by
 simp[Obj.mapSeq]
theorem Inv.lst {pins:List (Addr × Obj)} {σ:St} {H:Hp} {s:Shared} {p:Addr} {xs:List V} (I:Inv X pins σ H s) (h:H p=some (.lst xs)) :
   ∃ (its:List Value) (n:Nat),Vals xs its/\s.heap.get? p=some { cls:=.type "list",data:=.seq its.toArray n }/\xs.length<=sizeLine:=by
 obtain ⟨z,its,n,r,e⟩:=I.hok p _ h
 exact⟨its,n,r,e,z⟩
theorem Inv.lstUpd {pins:List (Addr × Obj)} {σ:St} {H:Hp} {s:Shared} {p:Addr} {xs ys:List V} {its its':List Value} {n n':Nat} {f:Obj->Obj} (I:Inv X pins σ H s) (h:H p=some (.lst xs))
   (ho:s.heap.get? p=some { cls:=.type "list",data:=.seq its.toArray n }) (hf:f { cls:=.type "list",data:=.seq its.toArray n } = { cls:=.type "list",data:=.seq its'.toArray n' }) (r:Vals ys its') (hz:ys.length<=sizeLine) (t:Nat) :
   Inv X pins σ (upd H p (.lst ys)) { s with heap:=s.heap.update p f,toks:=t }:=by
 have e:(s.heap.update p f).get? p=some { cls:=.type "list",data:=.seq its'.toArray n' }:=by
   rw[Heap.get?_update_self f ho (by rw[hf] <;> rfl),hf]
 refine I.write (x:=p) (e:=p) (by rw[h]; trivial) (.inl rfl) (fun b u hb q=>(Heap.get?_update_other _ _ (Ne.symm hb)).trans q) ⟨_,e⟩ ?_
 exact⟨hz,its',n',r,e⟩
def rSetL:V->V->V->Hp->(Hp->Prop)->Prop:=fun o i v H Q=>∃ p xs k j,o = .ref p/\i = .int k/\H p=some (.lst xs)/\ixN xs.length k=some j/\Q (upd H p (.lst (xs.set j v)))
theorem set_list:PSet X rSetL:=by
 intro pins s σ H o i v ov iv u Q I ro ri rv h
 obtain ⟨p,xs,k,j,rfl,rfl,hp,hj,q⟩:=h
 cases ro
 obtain ⟨t,rfl⟩:=ri
 obtain ⟨its,n,r,ho,hz⟩:=I.lst hp
 obtain ⟨h1,h2,h3,h4⟩:=ixN_seq hj
 have hl:=r.length
 have hn:=line63
 have I':Inv X pins σ (upd H p (.lst (xs.set j v))) { s with heap:=s.heap.update p (Obj.mapSeq (·.setIfInBounds j u)) } :=
   I.lstUpd hp ho (mapSeq_set its n j u) (r.set rv j) (by rw[List.length_set]; exact hz) s.toks
 by_cases h0:0<=k
 . have hk:k.toNat=j:=by
     rw[seqIndex_of h0 h4] at h1
     exact Option.some.inj h1
   exact PySem.W.ki_setAt ho h0 (by omega) (by rw[List.size_toArray,<-hl]; exact h4) (by rw[hk]; exact⟨_,I',q⟩)
 . have hk:(k+(its.toArray.size:Int)).toNat=j:=by
     rw[seqIndex_neg (by omega) h3] at h1
     rw[List.size_toArray,<-hl]
     exact Option.some.inj h1
   exact PySem.W.ki_setBack ho (by omega) (by rw[List.size_toArray,<-hl]; exact h3) (by omega) (by rw[hk]; exact⟨_,I',q⟩)
/-! ### slices -/
theorem slice_bounds (lo hi:Option Int) (n:Nat):(sliceBounds lo hi none n).1=((HT.sIx n 0 lo:Nat):Int)/\(sliceBounds lo hi none n).2.1=((HT.sIx n n hi:Nat):Int)/\(sliceBounds lo hi none n).2.2=1:=by
 refine⟨?_,?_,rfl⟩
 . cases lo with
   | none=>simp[sliceBounds,HT.sIx]
   | some i =>
     simp only[sliceBounds,HT.sIx,Option.getD_none,show (1:Int) > 0 by decide,if_true]
     by_cases h:i < 0
     . simp only[h,if_true] <;> omega
     . simp only[h,if_false] <;> omega
 . cases hi with
   | none=>simp[sliceBounds,HT.sIx]
   | some i =>
     simp only[sliceBounds,HT.sIx,Option.getD_none,show (1:Int) > 0 by decide,if_true]
     by_cases h:i < 0
     . simp only[h,if_true] <;> omega
     . simp only[h,if_false] <;> omega
theorem slicePick_cut (its:List Value) (lo hi:Option Int):slicePick its.toArray lo hi none=((its.drop (HT.sIx its.length 0 lo)).take (HT.sIx its.length its.length hi - HT.sIx its.length 0 lo)).toArray:=by
 obtain ⟨h1,h2,h3⟩:=slice_bounds lo hi its.toArray.size
 unfold slicePick
 rw[h1,h2,h3]
 simp only[sliceRange_one,pick_run,List.size_toArray] <;> rfl
def rSlL (K:PySem.W.Frag):V->Option Int->Option Int->Hp->VK->Prop:=fun x lo hi H Q=>∃ a xs,x = .ref a/\SqL K H a xs/\∀ p,H p=none->Q (.ref p) (upd H p (.lst (cutV xs lo hi)))
theorem sl_list:SlR X (rSlL X.K):=by
 intro pins s σ H x v vl vu lo hi sl Q I rx hs pl pu h
 obtain ⟨a,xs,rfl,hx,q⟩:=h
 cases rx
 obtain ⟨its,r,ht,hz⟩:=I.list hx
 have hlen:=r.length
 refine⟨"list",_,slot_list_getitem.lookup,ht.isList.typeIs,?_⟩
 refine wpAny_getItem_list_slice ht.isList hs pl pu .none (by simp) ?_ (by rw[List.size_toArray] <;> omega)
 rw[slicePick_cut,<-hlen]
 refine⟨.ref s.heap.objs.size,_,I.laid (t':=s.toks) (o:=.lst (cutV xs lo hi)) (fun b ob q=>Heap.get?_push_of_some _ q) (Nat.le_refl _) ?_,rfl,q _ (I.hok.fresh (Nat.le_refl _))⟩
 exact⟨Nat.le_trans (cutV_length xs lo hi) hz,_,0,(r.drop (HT.sIx xs.length 0 lo)).take (HT.sIx xs.length xs.length hi - HT.sIx xs.length 0 lo),Heap.get?_push_size _ rfl⟩
/-! ### in,not in: flat items -/
/-! ### len,list(x),tuple(x) of any list or tuple that is read -/
theorem call_len_seq:CallR X (.builtin "len") (fun xs H Q=>∃ p ys,xs=[.ref p]/\(SqL X.K H p ys\/SqT X.K H p ys)/\Q (.int ys.length) H):=by
 intro pins s σ H xs us Q I r h
 obtain ⟨p,ys,rfl,hq,q⟩:=h
 obtain ⟨u,rfl,rx⟩:=vals1 r
 cases rx
 have hn:=line63
 rcases hq with hq | hq
 . obtain ⟨its,r',pl,hz⟩:=I.list hq
   have hlen:=r'.length
   exact Calls.call_len_list pl.isList (by simp only[List.size_toArray] <;> omega) ⟨.int ys.length,H,I.tok _,⟨s.toks+1,by rw[List.size_toArray,hlen]⟩,q⟩
 . obtain ⟨its,r',pl,hz⟩:=I.tuple hq
   have hlen:=r'.length
   exact len_tuple pl (by simp only[List.size_toArray] <;> omega) ⟨.int ys.length,H,I.tok _,⟨s.toks+1,by rw[List.size_toArray,hlen]⟩,q⟩
theorem call_list_of:CallR X (.type "list") (fun xs H Q=>∃ p ys,xs=[.ref p]/\(SqL X.K H p ys\/SqT X.K H p ys)/\∀ l,H l=none->Q (.ref l) (upd H l (.lst ys))):=by
 intro pins s σ H xs us Q I r h
 obtain ⟨p,ys,rfl,hq,q⟩:=h
 obtain ⟨u,rfl,rx⟩:=vals1 r
 cases rx
 have fin:∀ (its:List Value),Vals ys its->ys.length<=sizeLine->∀ (h':Heap) (c':Nat),(∀ b o',s.heap.get? b=some o'->h'.get? b=some o') →
     h'.get? s.heap.objs.size=some { cls:=.type "list",dict:=none,data:=.seq its.toArray c',slots:=#[] }->EP X pins σ Q (.ref s.heap.objs.size) { s with heap:=h' }:=fun its r' hz h' c' kp e =>
   ⟨.ref s.heap.objs.size,_,I.laid (t':=s.toks) kp (Nat.le_refl _) (show ObjOk X.prog X.w _ h' _ (.lst ys) from ⟨hz,its,c',r',e⟩),rfl,q _ (I.hok.fresh (Nat.le_refl _))⟩
 rcases hq with hq | hq
 . obtain ⟨its,r',pl,hz⟩:=I.list hq
   have hlen:=r'.length
   obtain ⟨o,ho,hc,n,hd⟩:=pl.isList
   exact call_list_seq p (.inl rfl) ho hc hd (fun h' c' kp e=>fin its r' hz h' c' kp e) (by simp only[List.size_toArray] <;> omega)
 . obtain ⟨its,r',pl,hz⟩:=I.tuple hq
   have hlen:=r'.length
   obtain ⟨o,ho,hc,n,hd⟩:=pl
   exact call_list_seq p (.inr rfl) ho hc hd (fun h' c' kp e=>fin its r' hz h' c' kp e) (by simp only[List.size_toArray] <;> omega)
theorem call_tuple_of:CallR X (.type "tuple") (fun xs H Q=>∃ p ys,xs=[.ref p]/\((SqL X.K H p ys/\∀ l,H l=none->Q (.ref l) (upd H l (.tup ys)))\/(SqT X.K H p ys/\Q (.ref p) H))):=by
 intro pins s σ H xs us Q I r h
 obtain ⟨p,ys,rfl,h⟩:=h
 obtain ⟨u,rfl,rx⟩:=vals1 r
 cases rx
 rcases h with ⟨hq,q⟩ | ⟨hq,q⟩
 . obtain ⟨its,r',pl,hz⟩:=I.list hq
   have hlen:=r'.length
   refine call_tuple_list pl.isList (fun h' kp=>?_) (by simp only[List.size_toArray] <;> omega)
   have I1:Inv X pins σ H { s with heap:=h' }:=I.kept (t':=s.toks) kp
   have I2:Inv X pins σ (upd H h'.objs.size (.tup ys)) { s with heap:=h'.push { cls:=.type "tuple",data:=.seq its.toArray } } :=
     I1.laid (t':=s.toks) (fun b o e=>Heap.get?_push_of_some _ e) (Nat.le_refl _) (show ObjOk X.prog X.w _ _ _ (.tup ys) from ⟨hz,its,r',TupD.new _ _⟩)
   exact⟨.ref h'.objs.size,_,I2,rfl,q _ (I1.hok.fresh (Nat.le_refl _))⟩
 . obtain ⟨its,r',pl,hz⟩:=I.tuple hq
   exact call_tuple_same pl ⟨.ref p,H,I,rfl,q⟩
/-! ### the call of a builtin's method: o.m(..) -/
def tyV (K:PySem.W.Frag) (T:String) (x:V) (H:Hp):Prop:=match x with
 | .str _=>T = "str"
 | .int _=>T = "int"
 | .ref p=>(T = "list"/\∃ xs,SqL K H p xs)\/(T = "tuple"/\∃ o,K.lookup p=some o/\o.cls = .type "tuple"/\o.dict=none) ∨
     (T = "dict"/\((∃ kvs,H p=some (.dK kvs))\/∃ kvs,H p=some (.dT kvs)))\/(T = "set"/\∃ S n,H p=some (.set S n))
 | _=>False
theorem tyV_is {pins:List (Addr × Obj)} {σ:St} {H:Hp} {s:Shared} {T:String} {x:V} {v:Value} (I:Inv X pins σ H s) (r:RelV x v) (ty:tyV X.K T x H) :
   s.TypeIs v T/\∀ a,v = .ref a->∃ ob,s.heap.get? a=some ob/\ob.dict=none:=by
 cases x with
 | str z =>
   obtain ⟨t,rfl⟩:=r
   cases (show T = "str" from ty)
   exact⟨typeIs_str s z t,fun _ e=>nomatch e⟩
 | int i =>
   obtain ⟨t,rfl⟩:=r
   cases (show T = "int" from ty)
   exact⟨typeIs_int s i t,fun _ e=>nomatch e⟩
 | ref p =>
   cases r
   rcases ty with ⟨rfl,xs,hq⟩ | ⟨rfl,o,hk,hc,hd⟩ | ⟨rfl,hk⟩ | ⟨rfl,S,n,hk⟩
   . obtain ⟨its,_,pl,_⟩:=I.list hq
     refine⟨pl.isList.typeIs,fun a e=>?_⟩
     cases e
     obtain ⟨o,n,e,c,hd,_⟩:=pl
     exact⟨o,e,hd⟩
   . refine⟨⟨o,I.kIn p o hk,hc⟩,fun a e=>?_⟩
     cases e
     exact⟨o,I.kIn _ o hk,hd⟩
   . have z:∃ o,s.heap.get? p=some o/\o.ExactDict:=by
       rcases hk with ⟨kvs,hk⟩ | ⟨kvs,hk⟩
       . obtain ⟨_,_,_,_,o,_,_,e,ex,_⟩:=I.hok p _ hk
         exact⟨o,e,ex⟩
       . obtain ⟨_,_,_,_,o,_,_,e,ex,_⟩:=I.hok p _ hk
         exact⟨o,e,ex⟩
     obtain ⟨o,e,ex⟩:=z
     refine⟨⟨o,e,ex.1⟩,fun a e2=>?_⟩
     cases e2
     exact⟨o,e,ex.2.1⟩
   . obtain ⟨o,_,_,_,e,ex,_⟩:=I.hok p _ hk
     refine⟨⟨o,e,ex.1⟩,fun a e2=>?_⟩
     cases e2
     exact⟨o,e,ex.2.1⟩
 | _=>exact False.elim ty
def tBM0 (K:PySem.W.Frag) (T:String) (r:V->List V->Hp->VK->Prop) (to:TE):TE:=fun σ H Q=>to σ H fun x H1=>tyV K T x H1/\r x [] H1 Q
def tBM (K:PySem.W.Frag) (T:String) (r:V->List V->Hp->VK->Prop) (to:TE) (t:TA):TE:=fun σ H Q=>to σ H fun x H1=>tyV K T x H1/\t σ H1 fun xs H2=>r x xs H2 Q
variable {o e:Expr} {es:List Expr} {to:TE} {t:TA} {name:Str} {apos cpos:Pos} {T id:String} {r:V->List V->Hp->VK->Prop}
theorem pe_bm0 (pa:PlainAttrs T) (slot:Slot T name id) (hty:typeOf (.builtin id)=pure (.type "method_descriptor")) (hm:MtR X id r) (ho:PE X o to)
   (hbase:attributeBase o name X.env (eval o X.env)=eval o X.env:=by rfl) (hline:(apos.endLine == cpos.line)=true:=by rfl):PE X (.Call (.Attribute o name apos) [] [] cpos) (tBM0 X.K T r to):=by
 intro pins s σ H Q I h
 refine wpAny_Call_method0_late hbase hline (thn (ho pins s σ H _ I h) fun v s1 ⟨x,H1,I1,r1,ty,q1⟩=>?_)
 obtain ⟨h1,h2⟩:=tyV_is I1 r1 ty
 exact⟨T,id,pa,slot,hty,h1,h2,Calls.callWith_builtin rfl (PySem.evalArgs_none (hm pins s1 σ H1 x [] v [] Q I1 r1 .nil q1))⟩
theorem pe_bm (pa:PlainAttrs T) (slot:Slot T name id) (hty:typeOf (.builtin id)=pure (.type "method_descriptor")) (hm:MtR X id r) (ho:PE X o to) (ha:PA X (e::es) t)
   (hbase:attributeBase o name X.env (eval o X.env)=eval o X.env:=by rfl)
   (hfew:((backTo cpos (starEach (e::es) X.env)).all (fun x=>!x.1) && (backToKw cpos (keywordEach [] X.env)).all (fun x=>x.1.isSome)
     && decide ((e::es).length+([]:List Keyword).length+(if ([]:List Keyword).isEmpty then 0 else 1) < 30))=true:=by rfl)
   (hline:(apos.endLine == cpos.line)=true:=by rfl) (hs:starEach (e::es) X.env=(false,eval e X.env)::starEach es X.env:=by rfl) (hplain:(backTo cpos (starEach es X.env)).any (·.1)=false:=by rfl) :
   PE X (.Call (.Attribute o name apos) (e::es) [] cpos) (tBM X.K T r to t):=by
 intro pins s σ H Q I h
 refine wpAny_Call_method_late hbase hfew hline rfl (thn (ho pins s σ H _ I h) fun v s1 ⟨x,H1,I1,r1,ty,q1⟩=>?_)
 obtain ⟨h1,h2⟩:=tyV_is I1 r1 ty
 refine⟨T,id,pa,slot,hty,h1,h2,?_⟩
 have hA:=ha cpos pins s1 σ H1 _ I1 q1
 rw[hs] at hA ⊢
 refine Calls.callWith_builtin (by show (false || (backTo cpos (starEach es X.env)).any (·.1))=false; rw[hplain] <;> rfl) (Calls.evalArgs_plain ?_)
 exact thn hA fun us s2 ⟨vs,H2,I2,r2,q2⟩=>hm pins s2 σ H2 x vs v us Q I2 r1 r2 q2
/- xs.append(e),list.index on a module's tuple .. are MtR facts of 06m -/
end
end L2
namespace L2
open PySem PySem.Spec PyProof.Rows
def MtM (X:Cx) (id:String) (r:V->List V->Hp->VK->Prop):Prop :=
 ∀ (pins:List (Addr × Obj)) (s:Shared) (σ:St) (H:Hp) (x:V) (xs:List V) (v:Value) (us:List Value) (Q:VK),Inv X pins σ H s->RelV x v->Vals xs us->r x xs H Q →
   wpAny (model X.prog X.w) X.A (call (.builtin id) (v::us)) (EP X pins σ Q) X.xe s
/-! ### lists of values -/
theorem Vals.one:∀ {x:V} {us:List Value},Vals [x] us->∃ u,us=[u]/\RelV x u
 | _,_,.cons r .nil=>⟨_,rfl,r⟩
theorem Vals.zero:∀ {us:List Value},Vals [] us->us=[]
 | _,.nil=>rfl
theorem Vals.dropLast {xs:List V} {us:List Value} (h:Vals xs us):Vals xs.dropLast us.dropLast:=by
 induction h with
 | nil=>exact .nil
 | cons r t ih =>
   cases t with
   | nil=>exact .nil
   | cons q t'=>exact .cons r ih
theorem Vals.rep {xs:List V} {us:List Value} (h:Vals xs us):∀ k:Nat,Vals (List.replicate k xs).flatten (List.replicate k us).flatten
 | 0=>.nil
 | k+1=>by
   rw[List.replicate_succ,List.replicate_succ,List.flatten_cons,List.flatten_cons]
   exact Vals.append h (Vals.rep h k)
theorem erase_last {α:Type} (l:List α):l.eraseIdx (l.length - 1)=l.dropLast:=by
 induction l with
 | nil=>rfl
 | cons a r ih =>
   cases r with
   | nil=>rfl
   | cons b r =>
     have e:(a::b::r).length - 1=((b::r).length - 1)+1:=by
       have h1:(a::b::r).length=r.length+2:=rfl
       have h2:(b::r).length=r.length+1:=rfl
       omega
     rw[e,List.eraseIdx_cons_succ,ih]
     all_goals rfl
theorem foldl_rep (its:List Value):∀ (k:Nat) (acc:List Value),
   List.foldl (fun x1 x2=>x1++x2) acc.toArray (List.replicate k its.toArray)=(acc++(List.replicate k its).flatten).toArray
 | 0,acc=>by simp
 | k+1,acc=>by
   have e:acc.toArray++its.toArray=(acc++its).toArray:=by simp
   have e2:(acc++its)++(List.replicate k its).flatten=acc++(List.replicate (k+1) its).flatten:=by
     rw[List.replicate_succ,List.flatten_cons,List.append_assoc]
   rw[<-e2,<-foldl_rep its k (acc++its),<-e,List.replicate_succ,List.foldl_cons]
section
variable {X:Cx} {pins:List (Addr × Obj)} {σ:St} {H:Hp} {s:Shared} {l b:Addr} {xs ys zs:List V}
/-! ### the two steps: a tracked list is rewritten,a new list is laid -/
theorem Inv.lset {its its':List Value} {n:Nat} {f:Array Value->Array Value} {t':Nat} (I:Inv X pins σ H s) (hH:H l=some (.lst xs))
   (e:s.heap.get? l=some { cls:=.type "list",data:=.seq its.toArray n }) (hf:f its.toArray=its'.toArray) (hv:Vals ys its') (hz:ys.length<=sizeLine) :
   Inv X pins σ (upd H l (.lst ys)) { s with heap:=s.heap.update l (Obj.mapSeq f),toks:=t' }:=by
 have q:=PySem.IsL.update e f
 rw[hf] at q
 refine I.write (x:=l) (e:=l) (by rw[hH]; exact trivial) (.inl rfl) (fun b' u hb hu=>(Heap.get?_update_other s.heap (Obj.mapSeq f) (Ne.symm hb)).trans hu) ⟨_,q⟩ ?_
 exact⟨hz,its',_,hv,q⟩
theorem Inv.lnew {its:List Value} {t':Nat} (I:Inv X pins σ H s) (hv:Vals ys its) (hz:ys.length<=sizeLine) :
   Inv X pins σ (upd H s.heap.objs.size (.lst ys)) { s with heap:=s.heap.push { cls:=.type "list",data:=.seq its.toArray },toks:=t' } :=
 I.laid (fun _ _ q=>Heap.get?_push_of_some _ q) (Nat.le_refl _) ⟨hz,its,0,hv,Heap.get?_push_size _ rfl⟩
theorem Inv.fresh (I:Inv X pins σ H s):H s.heap.objs.size=none:=I.hok.fresh (Nat.le_refl _)
theorem Inv.lstM (I:Inv X pins σ H s) (hH:H l=some (.lst xs)):xs.length<=sizeLine/\∃ (its:List Value) (n:Nat),Vals xs its/\xs.length=its.length/\s.heap.get? l=some { cls:=.type "list",data:=.seq its.toArray n }:=by
 obtain ⟨z,its,n,r,e⟩:=I.hok l _ hH
 exact⟨z,its,n,r,r.length,e⟩
theorem notLongL {n:Nat} (h:n<=sizeLine):Builtin.List.listTooLong n=false:=by
 unfold Builtin.List.listTooLong
 exact decide_eq_false (by omega)
end
section
variable {X:Cx}
/-! ### methods -/
def rAppend:V->List V->Hp->VK->Prop:=fun x vs H Q=>∃ l xs y,x = .ref l/\vs=[y]/\H l=some (.lst xs)/\xs.length < sizeLine/\Q .non (upd H l (.lst (xs++[y])))
theorem mt_append:MtM X "list.append" rAppend:=by
 intro pins s σ H x vs v us Q I rx rv h
 obtain ⟨l,xs,y,rfl,rfl,hH,hz,q⟩:=h
 cases rx
 obtain ⟨u,rfl,ru⟩:=rv.one
 obtain ⟨z,its,n,r,hl,e⟩:=I.lstM hH
 refine call_meets F.slot_list_append ⟨_,e,rfl⟩ F.entry_list_append (F.args_list_append_2 _ _) (PySem.list_append l its.toArray n u (by rw[List.size_toArray]; omega)) ⟨e,?_⟩
 refine⟨.non,_,I.lset (its':=its++[u]) hH e (by simp) (r.append (.cons ru .nil)) ?_,rfl,q⟩
 rw[List.length_append,List.length_singleton]
 omega
def rPop:V->List V->Hp->VK->Prop:=fun x vs H Q=>∃ l xs y,x = .ref l/\vs=[]/\H l=some (.lst xs)/\xs[xs.length - 1]?=some y/\Q y (upd H l (.lst xs.dropLast))
theorem mt_pop:MtM X "list.pop" rPop:=by
 intro pins s σ H x vs v us Q I rx rv h
 obtain ⟨l,xs,y,rfl,rfl,hH,hy,q⟩:=h
 cases rx
 have hus:=rv.zero
 subst hus
 obtain ⟨z,its,n,r,hl,e⟩:=I.lstM hH
 obtain ⟨u,hu,ru⟩:=r.get hy
 have hy':its.toArray[its.toArray.size - 1]?=some u:=by
   show its.toArray[its.length - 1]?=some u
   rw[<-Array.getElem?_toList,<-hl]
   exact hu
 refine call_meets F.slot_list_pop ⟨_,e,rfl⟩ F.entry_list_pop (F.args_list_pop_1 _) (MeetsSeq.list_pop_last l its.toArray n u hy' (by rw[List.size_toArray]; omega)) ⟨e,?_⟩
 refine⟨y,_,I.lset (its':=its.dropLast) hH e ?_ r.dropLast ?_,ru,q⟩
 . show its.toArray.eraseIdxIfInBounds (its.toArray.size - 1)=its.dropLast.toArray
   rw[List.size_toArray,List.eraseIdxIfInBounds_toArray,erase_last]
 . rw[List.length_dropLast]
   omega
/-! ### list+list,list += list,list*int -/
def rCat:R2:=fun x y H Q=>∃ l b xs zs,x = .ref l/\y = .ref b/\H l=some (.lst xs)/\H b=some (.lst zs)/\xs.length+zs.length<=sizeLine/\∀ p,H p=none->Q (.ref p) (upd H p (.lst (xs++zs)))
theorem op_cat:OpR X (binaryOp .Add) rCat:=by
 intro pins s σ H x y v u Q I rx ry h
 obtain ⟨l,b,xs,zs,rfl,rfl,hH,hB,hz,q⟩:=h
 cases rx
 cases ry
 obtain ⟨z,its,n,r,hl,e⟩:=I.lstM hH
 obtain ⟨z2,its2,n2,r2,hl2,e2⟩:=I.lstM hB
 refine PySem.P.add_list e e2 ?_ (by rw[List.size_toArray,List.size_toArray]; omega)
 have ea:its.toArray++its2.toArray=(its++its2).toArray:=by simp
 rw[ea]
 exact⟨.ref _,_,I.lnew (t':=s.toks) (r.append r2) (by rw[List.length_append]; omega),rfl,q _ I.fresh⟩
def rRep:R2:=fun x y H Q=>∃ l k xs,x = .ref l/\y = .int k/\H l=some (.lst xs)/\-(2 ^ 63)<=k/\k < 2 ^ 63/\xs.length*k.toNat<=sizeLine ∧
 ∀ p,H p=none->Q (.ref p) (upd H p (.lst (List.replicate k.toNat xs).flatten))
theorem len_rep {α:Type} (xs:List α) (k:Nat):(List.replicate k xs).flatten.length=k*xs.length:=by
 induction k with
 | zero=>simp
 | succ k ih=>rw[List.replicate_succ,List.flatten_cons,List.length_append,ih,Nat.succ_mul,Nat.add_comm]
theorem op_rep:OpR X (binaryOp .Mult) rRep:=by
 intro pins s σ H x y v u Q I rx ry h
 obtain ⟨l,k,xs,rfl,rfl,hH,h1,h2,hz,q⟩:=h
 cases rx
 obtain ⟨t,rfl⟩:=ry
 obtain ⟨z,its,n,r,hl,e⟩:=I.lstM hH
 have hlen:its.toArray.size*k.toNat<=sizeLine:=by rw[List.size_toArray,<-hl]; exact hz
 have hcap:¬ its.toArray.size*k.toNat > (2 ^ 63 - 1) / 8:=by
   have:(sizeLine:Nat)<=(2 ^ 63 - 1) / 8:=by decide
   omega
 have hfit:¬ (!Builtin.List.listFitsIndex k)=true:=by
   rw[fitsIndex_both h1 h2]
   exact Bool.false_ne_true
 have hlong:¬ Builtin.List.listTooLong (its.toArray.size*k.toNat)=true:=by
   rw[notLongL hlen]
   exact Bool.false_ne_true
 have hnew:List.foldl (fun x1 x2=>x1++x2) #[] (List.replicate (if its.toArray.isEmpty=true then 0 else k.toNat) its.toArray)=(List.replicate k.toNat its).flatten.toArray:=by
   have f0:∀ m:Nat,List.foldl (fun x1 x2=>x1++x2) #[] (List.replicate m its.toArray)=(List.replicate m its).flatten.toArray:=fun m=>by
     have:=foldl_rep its m []
     rw[List.nil_append] at this
     exact this
   rw[f0]
   cases its with
   | nil=>simp
   | cons a r'=>rw[if_neg (by simp)]
 refine wpAny_binaryOp_repeat_ref (T:="list") (U:="int") (by decide) ⟨_,e,rfl⟩ (fun s'=>typeIs_int s' k t) noFill_list_mul F.fills_int_mul F.slot_int_rmul repeat_list F.slot_int_index.lookup
   (call_meets F.slot_int_rmul (typeIs_int s k t) F.entry_int_rmul (F.args_int_rmul_2 _ _) (int___rmul___int_list k t l its.toArray n)
     ⟨e,rfl,⟨_,e,rfl⟩,call_meets F.slot_list_mul ⟨_,e,rfl⟩ F.entry_list_mul (F.args_list_mul_2 _ _) (AutoListH.list___mul___list_int_3 l its.toArray n k t hfit hcap hlong) ⟨e,?_⟩⟩)
 rw[hnew]
 exact⟨.ref _,_,I.lnew (t':=s.toks) (r.rep k.toNat) (by rw[len_rep,Nat.mul_comm]; exact hz),rfl,q _ I.fresh⟩
/-! ### del xs[i] -/
end
/-! ### xs[a:b]=ys -/
section
variable {prog:Program} {w:World} {A:Around} {E:Value->Shared->Prop} {s:Shared}
end
section
variable {X:Cx}
end
end L2
namespace Att
open PySem PySem.W PySem.Calls PyProof.Rows
/-! ### the script -/
theorem ints_of_wellAll {P:Params} {h:Heap}:∀ (ns:List Int) (vs:List Value),WellAll P h vs (ns.map WData.int)->IntsAre vs ns:=by
 intro ns
 induction ns with
 | nil =>
   intro vs w
   rw[List.map_nil] at w
   cases w
   exact .nil
 | cons n ns ih =>
   intro vs w
   rw[List.map_cons] at w
   cases w with
   | cons a b =>
     cases a
     exact .cons _ _ (ih _ b)
theorem script_of {l:OpenLaw} {n:Nat} (hn:l.most=some n) {P:Params} {h:Heap} {args:List WData} {vals:List Value}
   (hpre:l.row.toRowW.claim.pre args=true) (hwl:WellAll P h vals args) :
   ∃ a vs ns,vals=[Value.ref a]/\args=[WData.list (ns.map WData.int)]/\h.get? a=some { cls:=.type "list",data:=.seq vs.toArray }/\IntsAre vs ns/\ns.length<=n:=by
 have hsh:WShape.hasAll [] args [.list .int]=true:=(pre_splitW hpre).1
 have hc:l.pre.holds [] { args:=args }=true:=(pre_splitW hpre).2
 obtain ⟨d,r,rfl,h1,h2⟩:=hasAllW_cons hsh
 obtain rfl:=hasAllW_nil h2
 obtain ⟨xs,rfl,h3⟩:=hasW_list h1
 obtain ⟨ns,rfl⟩:=items_int h3
 have hlen:ns.length<=n:=by
   unfold OpenLaw.pre at hc
   have h4:(WTm.not (.lt (.lit (.int (n:Int))) (.len (.arg 0)))).holds [] { args:=[.list (ns.map .int)] }=true:=by
     have h4:=(holds_andW hc).1
     rw[hn] at h4
     exact h4
   have h5:=condW_of h4 (w_not (w_lt w_lit (w_len_list (w_arg rfl))))
   rw[List.length_map] at h5
   refine Nat.le_of_not_lt fun q=>?_
   have q':(n:Int) < ((ns.length:Nat):Int):=by omega
   first
     | (rw[decide_eq_true q'] at h5; exact absurd h5 (by decide))
     | (simp at h5; omega)
 cases hwl with
 | cons w1 w2 =>
   cases w2
   cases w1 with
   | list ho hall=>exact⟨_,_,ns,rfl,rfl,ho,ints_of_wellAll ns _ hall,hlen⟩
theorem post_true (l:OpenLaw) (args:List WData):l.row.toRowW.claim.post args (.bool true) args=true :=
 postW_of (r:=l.row.toRowW) (X:=(true == true))
   (show WShape.has [] (.bool true) .bool=true by first | rfl | decide | simp[WShape.has,WShape.arms,WShape.armsAll])
   (show (WTm.eq .res (.lit (.bool true))).value [] { args:=args,res:=some (.bool true),after:=args }=some (.bool (true == true)) from w_eq_bool (w_res rfl) w_lit) rfl
/-! ### the attachment: holds_open's last premise (the goal 'hc' behind k_head) from a wpAny of the law's body -/
theorem attach_call {l:OpenLaw} {n:Nat} {q:Program} {loose:List Str} {XP:(Str->Option Value)->Heap->Prop} {YP:World->Heap->Prop} {d:DefRec}
   (hn:l.most=some n) (hdf:d.params.defaults=[])
   (call:∀ (w:World) (s₀ s₁:Shared) (mg mb:Str->Option Value) (fa:Addr) (o:Obj) (pm cd doc:Value) (a:Addr) (vs:List Value) (ns:List Int),
     Ground q loose [] XP w s₀ mg mb s₁.heap->YP w s₁.heap →
     s₁.heap.get? fa=some o->o.data = .func (docDef d.name d.params d.body d.scope pm cd doc)->s₁.heap.CodeRec cd d.name->mg d.name=some (.ref fa) →
     s₁.heap.get? a=some { cls:=.type "list",data:=.seq vs.toArray }->IntsAre vs ns->ns.length<=n->s₁.gens = #[] →
     codeAny (model l.prog w) callerA (.call (.ref fa) ⟨[.ref a],[]⟩) (fun r s'=>r = .ok (.ret (.bool true))/\OldK s₁.heap s'.heap/\s'.os=s₁.os/\AllBare s'.gens) s₁) :
   WalkO q loose XP YP l.row.toRowW d [] (fun f vs=>PySem.call f vs):=by
 intro w s₀ s₁ mg mb G Y fa o pm cd doc dV kV ho hd hcd hD hmg hg args vals as hpre hlay hrd hwl hlo
 obtain rfl:dV = .none:=Dflts.none hD hdf
 obtain rfl:kV = .none:=Dflts.noKw hD
 obtain ⟨a,vs,ns,rfl,rfl,hobj,hints,hlen⟩:=script_of hn hpre hwl
 refine enter_call (codeAny_mono (call w s₀ s₁ mg mb fa o pm cd doc a vs ns G Y ho (fd_plain hd) hcd hmg hobj hints hlen hg) fun r s' hq=>?_)
 obtain ⟨rfl,h2,h3,h4⟩:=hq
 exact⟨.inl ⟨.bool true,.bool true,[],rfl,fun _=>rfl,.bool true,post_true l _,fun _=>⟨List.Pairwise.nil,fun _ hm=>(nomatch hm)⟩⟩,h2,h3,h4⟩
/-! ### rules over ANY heap (no ledger) from facts about the written part K: the library's own take a ledger (News) for what they write -/
section
variable {prog:Program} {w:World} {A:Around} {E:Value->Shared->Prop} {s:Shared} {K:Frag}
/-! the whole heap as the ledger: makes every rule that writes through a ledger a rule over any heap -/
end
end Att
namespace L2
open PySem PySem.Spec PyProof.Rows
theorem vals_ints:∀ {vs:List Value} {ns:List Int},IntsAre vs ns->Vals (ns.map V.int) vs
 | _,_,.nil=>.nil
 | _,_,.cons n t h=>.cons ⟨t,rfl⟩ (vals_ints h)
def Only (H:Hp):Prop:=∀ b,H b=none\/∃ o xs,H b=some (.frz o (.lst xs))
theorem law_call {P:Program} {w:World} {K:PySem.W.Frag} {mg mb:Str->Option Value} {CX:CXT} {k:Nat} {fa a:Addr} {fd:FuncData} {x:Str} {sp:Sp} {s₁:Shared} {vs:List Value} {ns:List Int}
   (KX:K.In s₁.heap) (hns:s₁.heap.Ns mainGlobals mg) (hb:s₁.heap.Ns builtinsNs mb) (hbb:∀ x:Str,x≠"__name__"->mb x=bootBuiltins x) (hlim:s₁.heap.NoLimit) (hg:s₁.gens = #[])
   (ha:s₁.heap.get? a=some { cls:=.type "list",data:=.seq vs.toArray }) (hi:IntsAre vs ns) (hl:ns.length<=sizeLine) (hr:Room k callerA)
   (F:∀ base:Heap,K.In base->base.Ns mainGlobals mg->FnOk P w K mg base CX k fa fd [x] sp) (hbind:∀ (s:Shared) (u:Value),BindsTo s fd ⟨[u],[]⟩ [(x,u)])
   (hsp:∀ H:Hp,Only H->SqL K H a (ns.map V.int)->sp [.ref a] H (fun v _=>v = .bl true) fun _ _ _=>False)
   (hCX:∀ H e s',CX [] H s₁ (fun _ _ _=>False) e s'->False) :
   codeAny (model P w) callerA (.call (.ref fa) ⟨[.ref a],[]⟩) (fun r s'=>r = .ok (.ret (.bool true))/\OldK s₁.heap s'.heap/\s'.os=s₁.os/\AllBare s'.gens) s₁:=by
 have rv:=vals_ints hi
 have lenV:=hi.length
 have core:∀ H:Hp,Only H->SqL K H a (ns.map V.int)->HOk P w H s₁.heap->(∀ b,H b≠none->b=a)->(H a≠none->K.lookup a=none) →
     codeAny (model P w) callerA (.call (.ref fa) ⟨[.ref a],[]⟩) (fun r s'=>r = .ok (.ret (.bool true))/\OldK s₁.heap s'.heap/\s'.os=s₁.os/\AllBare s'.gens) s₁:=by
   intro H hO hS hok hA hK
   have base_of:∀ {b:Addr} {o:Obj},s₁.heap.get? b=some o->H b=none->(hidT s₁.heap H).get? b=some o:=fun e n=>hidT_get e n
   have noA:∀ {b:Addr} {o:Obj} {es:Array DictEntry} {ep:Nat},s₁.heap.get? b=some o->o.data = .dict es ep->H b=none:=fun {b o es ep} e d=>by
     cases q:H b with
     | none=>rfl
     | some u =>
       have e':b=a:=hA b (by rw[q]; simp)
       subst e'
       rw[ha] at e; cases e
       have d':Data.seq vs.toArray _=Data.dict es ep:=d
       cases d'
   have nsK:∀ {b:Addr} {m:Str->Option Value},s₁.heap.Ns b m->(hidT s₁.heap H).Ns b m:=fun {b m} ⟨o,es,ep,e,d,r⟩=>⟨o,es,ep,base_of e (noA e d),d,r⟩
   have hKb:K.In (hidT s₁.heap H):=fun b o e=>base_of (KX b o e) (by
     cases q:H b with
     | none=>rfl
     | some u =>
       have e':b=a:=hA b (by rw[q]; simp)
       subst e'
       rw[hK (by rw[q]; simp)] at e; cases e)
   have hM:Mod K mg (hidT s₁.heap H):=⟨hKb,nsK hns,⟨mb,nsK hb,hbb⟩,let ⟨mc,h1,h2⟩:=hlim; ⟨mc,nsK h1,h2⟩⟩
   have e0:Env0 P w K mg (hidT s₁.heap H) callerA [] s₁ H:=⟨rfl,hM,fun b o e=>of_hidT e,Nat.le_of_eq (hidT_size _ _),trivial,fun b hb=>absurd (show b∈([]:List Addr) from hb) (by simp),hok,.of_eq hg⟩
   refine codeAny_mono ((F _ hKb (nsK hns)).run callerA [] s₁ H ⟨[.ref a],[]⟩ [.ref a] [.ref a] _ _ hr e0 (hbind s₁ (.ref a)) (.cons rfl .nil) (hsp H hO hS)) fun r s' h=>?_
   cases r with
   | error e=>exact (hCX H e s' h).elim
   | ok fl =>
     cases fl with
     | next=>exact False.elim h
     | brk=>exact False.elim h
     | cont=>exact False.elim h
     | ret u =>
       obtain ⟨v,H',os,bare,un,hok',r',q⟩:=h
       have q':v = .bl true:=q
       subst q'
       obtain rfl:u=Value.bool true:=r'
       refine⟨rfl,OldK.of_keep fun b o e=>?_,os,bare⟩
       cases q:H b with
       | none=>exact un.keep b o e q (by intro z; exact absurd (show b∈([]:List Addr) from z) (by simp)) (by simp)
       | some u =>
         rcases hO b with z | ⟨ob,xs,z⟩
         . rw[q] at z; cases z
         . have z2:=un.frzs b ob _ z
           obtain ⟨e1,_⟩:=hok b _ z
           obtain ⟨e2,_⟩:=hok' b _ z2
           rw[e] at e1; cases e1
           exact e2
 cases hk:K.lookup a with
 | some o =>
   have e:=KX a o hk
   rw[ha] at e
   cases e
   refine core (fun _=>none) (fun _=>.inl rfl) (.inr ⟨_,vs.toArray,_,hk,rfl,rfl,rfl,by rw[List.size_toArray,lenV]; exact hl,by simpa using rv⟩) (fun b u z=>by have z':(none:Option HO)=some u:=z; cases z') (fun b z=>absurd rfl z) fun z=>absurd rfl z
 | none =>
   refine core (fun b=>if b=a then some (.frz { cls:=.type "list",data:=.seq vs.toArray } (.lst (ns.map V.int))) else none) (fun b=>?_) (.inl (.inr ⟨{ cls:=.type "list",data:=.seq vs.toArray },if_pos rfl⟩)) (fun b u z=>?_) (fun b z=>?_) fun _=>hk
   . by_cases hb:b=a
     . exact .inr ⟨_,_,if_pos hb⟩
     . exact .inl (if_neg hb)
   . by_cases hb:b=a
     . have z':=(if_pos hb).symm.trans z
       cases z'
       subst hb
       exact⟨ha,by rw[List.length_map]; exact hl,vs,_,rv,ha⟩
     . have z':=(if_neg hb).symm.trans z
       cases z'
   . by_cases hb:b=a
     . exact hb
     . exact absurd (if_neg hb) z
end L2
namespace L2
open PySem PySem.Spec PyProof.Rows
theorem walk_of {l:PySem.W.OpenLaw} {n k:Nat} {q:Program} {loose:List Str} {XP:(Str->Option Value)->Heap->Prop} {YP:World->Heap->Prop} {d:DefRec} {K:Params->PySem.W.Frag} {CX:World->CXT} {sp:World->Sp} {x:Str}
   (hn:l.most=some n) (hn2:n<=sizeLine) (hdf:d.params.defaults=[]) (hr:Room k callerA)
   (hY:∀ (w:World) (h:Heap),YP w h->(K w.params).In h)
   (F:∀ (w:World) (mg:Str->Option Value) (fa:Addr) (h:Heap),(K w.params).In h->h.Ns mainGlobals mg->mg d.name=some (.ref fa) →
     ∃ fd:FuncData,(∀ (s:Shared) (u:Value),BindsTo s fd ⟨[u],[]⟩ [(x,u)]) ∧
       ∀ base:Heap,(K w.params).In base->base.Ns mainGlobals mg->FnOk l.prog w (K w.params) mg base (CX w) k fa fd [x] (sp w))
   (hsp:∀ (w:World) (H:Hp) (a:Addr) (ns:List Int),ns.length<=n->Only H->SqL (K w.params) H a (ns.map V.int)->sp w [.ref a] H (fun v _=>v = .bl true) fun _ _ _=>False)
   (hCX:∀ (w:World) (H:Hp) (s:Shared) (e:Value) (s':Shared),CX w [] H s (fun _ _ _=>False) e s'->False) :
   PySem.W.WalkO q loose XP YP l.row.toRowW d [] (fun f vs=>PySem.call f vs):=by
 refine Att.attach_call hn hdf fun w s₀ s₁ mg mb fa o pm cd doc a vs ns G Y ho hd hcd hmg hobj hints hlen hg=>?_
 have KX:=hY w _ Y
 obtain ⟨fd,hb,hF⟩:=F w mg fa _ KX G.T.g hmg
 exact law_call KX G.T.g G.T.b G.T.builtins G.T.nolimit hg hobj hints (Nat.le_trans hlen hn2) hr hF hb (fun H hO hS=>hsp w H a ns hlen hO hS) fun H e s'=>hCX w H s₁ e s'
end L2
/-! SHORT WORDS over the layer: a def of the text,its body,what a loop and a test want. -/
namespace L2
open PySem PySem.Spec PyProof.Rows
/-! ### the text by places -/
def inClass (s:Stmt) (j:Nat):Stmt:=match s with
 | .ClassDef _ _ _ body _ _ _ _ _ _ _=>body.getD j (.Pass ⟨0,0,0,0⟩)
 | _=>.Pass ⟨0,0,0,0⟩
def defArgs (s:Stmt):Arguments:=match s with
 | .FunctionDef _ a _ _ _ _ _ _ _ _=>a
 | _=>{ posonlyargs:=[],args:=[],vararg:=none,kwonlyargs:=[],kw_defaults:=[],kwarg:=none,defaults:=[] }
def defBody (s:Stmt):List Stmt:=match s with
 | .FunctionDef _ _ b _ _ _ _ _ _ _=>b
 | _=>[]
def defScope (s:Stmt):Scope:=match s with
 | .FunctionDef _ _ _ _ _ _ sc _ _ _=>sc
 | _=>{ kind:=.function,names:=[],isGenerator:=false,isCoroutine:=false }
/-! ### no exception leaves a def -/
abbrev CX0:CXT:=fun _ _ _ _ _ _=>False
abbrev E0:XK:=fun _ _ _=>False
theorem pass0 {X:Cx}:Passes CX0 X E0:=fun _ _ _ _ _ _ _ h=>h.elim
/-! ### a def (or method) of the text as it stands behind the top -/
structure Fun (K:PySem.W.Frag) (x qual:Str) (st:Stmt) (f:Addr) (fd:FuncData):Prop where
 ex:∃ (oc:Value) (od:Option Addr) (kV doc pm:Value) (an:Option Addr) (cdv ct:Value) (osl:Array (Option Value)),
   fd=PySem.W.fnOf x qual (defArgs st) (defBody st) (defScope st) .none kV doc pm an cdv ct/\K.lookup f=some ⟨oc,od,.func fd,osl⟩/\PySem.W.codeIn K cdv qual=true
 kp:PySem.W.keepIn K (.ref f)=true
section
variable {P:Program} {w:World} {K:PySem.W.Frag} {mg:Str->Option Value} {base:Heap}
theorem Fun.ok {x qual:Str} {st:Stmt} {f:Addr} {fd:FuncData} {N ps:List Str} {k:Nat} {sp:Sp} (F:Fun K x qual st f fd) (S:FnScope N ps (defScope st)) (len:∀ vs H Q E,sp vs H Q E->vs.length=ps.length)
   (hbody:∀ (cdv:Value) (A:Around) (outer:List Env) (s:Shared) (H:Hp) (vs:List V) (Q:VK) (E:XK),Room k (A.deeper (envOfC qual (defScope st) s.heap.objs.size f cdv))->sp vs H Q E →
     ∃ t,PSs (cxOf CX0 P w K mg base N qual (defScope st) f cdv A outer s H E).nox (defBody st) t/\t { nx:=fun _ H'=>Q .non H',rt:=Q } (start N vs) H):FnOk P w K mg base CX0 (k+1) f fd ps sp:=by
 obtain ⟨oc,od,kV,doc,pm,an,cdv,ct,osl,rfl,lk,hcd⟩:=F.ex
 refine fn_of lk hcd S len fun A outer s H vs Q E hr hsp=>?_
 obtain ⟨t,h,q⟩:=hbody cdv A outer s H vs Q E hr hsp
 exact⟨t,h.nox,q⟩
theorem Fun.binds {x qual:Str} {st:Stmt} {f:Addr} {fd:FuncData} {ps:List Str} (F:Fun K x qual st f fd)
   (h:∀ (kV doc pm:Value) (an:Option Addr) (cdv ct:Value) (us:List Value),us.length=ps.length->bindArgs (PySem.W.fnOf x qual (defArgs st) (defBody st) (defScope st) .none kV doc pm an cdv ct) ⟨us,[]⟩=pure (ps.zip us)):Binds K fd ps []:=by
 obtain ⟨oc,od,kV,doc,pm,an,cdv,ct,osl,rfl,lk,hcd⟩:=F.ex
 exact .all (h kV doc pm an cdv ct)
theorem fun_mk {x qual:Str} {st:Stmt} {f:Addr} {oc:Value} {od an:Option Addr} {osl:Array (Option Value)} {kV doc pm cdv ct:Value} (l:K.lookup f=some ⟨oc,od,.func (PySem.W.fnOf x qual (defArgs st) (defBody st) (defScope st) .none kV doc pm an cdv ct),osl⟩)
 (c:PySem.W.codeIn K cdv qual=true) (k:PySem.W.keepIn K (.ref f)=true):Fun K x qual st f (PySem.W.fnOf x qual (defArgs st) (defBody st) (defScope st) .none kV doc pm an cdv ct):=⟨⟨oc,od,kV,doc,pm,an,cdv,ct,osl,rfl,l,c⟩,k⟩
end
theorem hu_of {A:Around} {k:Nat} (hr:Room k A):A.units+1 < cLine:=Nat.lt_of_le_of_lt (Nat.add_le_add_left (by decide:1<=64) _) hr.units
theorem small1000 {n:Nat} (h:n<=1000):n < sizeLine:=Nat.lt_of_le_of_lt h (by decide)
/-! ### expressions in short: the name that stands in the i-th slot -/
section
variable {X:Cx}
theorem pv (i:Nat) {x:Str} {pos:Pos} (hN:X.N[i]?=some x:=by rfl) (hv:Vis X.env.scope x:=by first | exact Or.inl rfl | exact Or.inr (Or.inl rfl) | exact Or.inr (Or.inr rfl)) (hd:(x == ("__debug__" : Str))=false:=by decide)
 (hcd:(x == ("__classdict__" : Str))=false:=by decide):PE X (.Name x pos) (tVar i):=pe_var hN hv hd hcd
end
/-! ### tests -/
theorem iteF {A B:Prop} (h:B):if false=true then A else B:=by
 rw[if_neg Bool.false_ne_true]
 exact h
theorem iteT {A B:Prop} (h:A):if true=true then A else B:=by
 rw[if_pos rfl]
 exact h
theorem ite2 {c A B:Prop} [Decidable c] (h1:c->A) (h2:¬ c->B):if c then A else B:=by
 by_cases h:c
 . rw[if_pos h]
   exact h1 h
 . rw[if_neg h]
   exact h2 h
/-! ### heaps -/
def Same (H H':Hp):Prop:=∀ b o,H b=some o->H' b=some o
theorem Same.refl (H:Hp):Same H H:=fun _ _ h=>h
theorem Same.trans {H H1 H2:Hp} (a:Same H H1) (b:Same H1 H2):Same H H2:=fun c o h=>b c o (a c o h)
theorem Same.free {H H':Hp} (e:Same H H') {l:Addr} (h:H' l=Option.none):H l=Option.none:=by
 cases q:H l with
 | none=>rfl
 | some o =>
   rw[e l o q] at h
   cases h
theorem Same.seq {K:PySem.W.Frag} {H H':Hp} {a:Addr} {xs:List V} (e:Same H H') (h:SqL K H a xs):SqL K H' a xs:=by
 rcases h with (h | ⟨o,h⟩) | h
 . exact .inl (.inl (e _ _ h))
 . exact .inl (.inr ⟨o,e _ _ h⟩)
 . exact .inr h
end L2
/-! COMPREHENSIONS over the layer: a list comprehension of one clause,whose block raises nothing -/
namespace L2
open PySem PySem.Spec PyProof.Rows
section
variable {prog:Program} {w:World} {A:Around} {R:Result->Shared->Prop} {s:Shared}
theorem compLoop_go {elt target iter:Expr} {ifs:List Expr} {scope:Scope} {pos:Pos} {it acc:Value} {env:Env} (I:Nat->Shared->Prop)
   (turn:∀ n s,I n s->wpAny (model prog w) A (pyNext it) (fun r s1=>match r with
     | none=>R (.ok .next) s1
     | some v=>wpAny (model prog w) A (letOwnedTupleGo target it v) (fun _ s1'=>wpAny (model prog w) A (assign target env v) (fun _ s2 =>
         wpAny (model prog w) A (forIn ifs true fun c r=>if r=true then do let ok <-isTrue c env (eval c env); pure (ForInStep.yield ok) else pure (ForInStep.yield r)) (fun ok s3 =>
           if ok=true then wpAny (model prog w) A (eval elt env) (fun x s4 =>
             wpAny (model prog w) A (call (.builtin "list.append") [acc,x]) (fun _ s5=>∃ m,m < n/\I m s5) (fun _ _=>False) s4) (fun _ _=>False) s3
           else ∃ m,m < n/\I m s3) (fun _ _=>False) s2) (fun _ _=>False) s1') (fun _ _=>False) s1) (fun _ _=>False) s)
   (n:Nat) (h:I n s) :
   codeAny (model prog w) A (.compLoop (.ListComp elt [⟨target,iter,ifs,0⟩] scope pos) 0 it acc env) R s:=by
 refine codeAny_loop rfl I (fun n s hI=>?_) n h
 show wpAny _ A ((compTurn (.ListComp elt [⟨target,iter,ifs,0⟩] scope pos) 0 it acc env).onRaise (fun x=>do noteFrame x env; theTreesLotGoes x)) _ _ s
 refine wpAny_noted ?_
 rw[compTurn_list]
 refine wpAny_bind (wpAny_standAt (wpAny_bind (wpAny_mono (turn n s hI) (fun r s1 h1=>?_) fun _ _ h'=>h'.elim)))
 cases r with
 | none=>exact wpAny_pure h1
 | some v =>
   refine wpAny_bind (wpAny_mono h1 (fun _ s1' h1'=>?_) fun _ _ h'=>h'.elim)
   refine wpAny_bind (wpAny_mono h1' (fun _ s2 h2=>wpAny_bind (wpAny_mono h2 (fun ok s3 h3=>?_) fun _ _ h'=>h'.elim)) fun _ _ h'=>h'.elim)
   cases ok with
   | false=>exact wpAny_pure ⟨rfl,h3⟩
   | true=>exact wpAny_bind (wpAny_bind (wpAny_mono h3 (fun x s4 h4=>wpAny_bind (wpAny_mono h4 (fun _ s5 h5=>wpAny_pure (wpAny_pure ⟨rfl,h5⟩)) fun _ _ h'=>h'.elim)) fun _ _ h'=>h'.elim))
end
theorem closure_of {scope:Scope} {env:Env} (h:∀ y∈scope.names,y.2 = .free->∃ c,env.cells.lookup y.1=some c) :
   ∃ cl,closureFor scope env=pure cl/\(∀ x c,cl.lookup x=some c->env.cells.lookup x=some c)/\∀ y∈scope.names,y.2 = .free->∃ c,cl.lookup y.1=some c:=by
 have all:∀ (names:List (Str × NameKind)) (acc:List (Str × Addr)) (f:Str × NameKind->List (Str × Addr)->Sem (ForInStep (List (Str × Addr)))),
     (∀ n k c,f (n,k) c=if k == .free then (do let a <-cellOf env n; pure (.yield ((n,a)::c))) else pure (.yield c)) →
     (∀ y∈names,y.2 = .free->∃ c,env.cells.lookup y.1=some c)->(∀ x c,acc.lookup x=some c->env.cells.lookup x=some c) →
     ∃ cl,forIn names acc f=pure cl/\(∀ x c,cl.lookup x=some c->env.cells.lookup x=some c)/\(∀ x c,acc.lookup x=some c->∃ c',cl.lookup x=some c')/\∀ y∈names,y.2 = .free->∃ c,cl.lookup y.1=some c:=by
   intro names
   induction names with
   | nil=>intro acc f _ _ ha; exact⟨acc,by rw[List.forIn_nil],ha,fun x c e=>⟨c,e⟩,fun y hy=>nomatch hy⟩
   | cons y r ih =>
     intro acc f hf hy ha
     obtain ⟨n,k⟩:=y
     rw[List.forIn_cons,hf]
     by_cases hk:k = .free
     . subst hk
       obtain ⟨c,hc⟩:=hy (n,.free) List.mem_cons_self rfl
       have hc':env.cells.lookup n=some c:=hc
       have ec:cellOf env n=pure c:=by unfold cellOf; rw[hc']
       rw[if_pos (by decide),ec,pure_bind,pure_bind]
       obtain ⟨cl,e,h1,h2,h3⟩:=ih ((n,c)::acc) f hf (fun y hy'=>hy y (List.mem_cons_of_mem _ hy')) (fun x c' e=>by
         rw[List.lookup_cons] at e
         cases hx:x == n with
         | true=>rw[hx] at e; cases e; rw[eq_of_beq hx]; exact hc'
         | false=>rw[hx] at e; exact ha x c' e)
       refine⟨cl,e,h1,fun x c' e'=>?_,fun y hy' hk'=>?_⟩
       . cases hx:x == n with
         | true=>exact h2 x c (by rw[List.lookup_cons,hx])
         | false=>exact h2 x c' (by rw[List.lookup_cons,hx]; exact e')
       . rcases List.mem_cons.mp hy' with z | z
         . subst z; exact h2 n c (by rw[List.lookup_cons]; simp)
         . exact h3 y z hk'
     . have hb:(k == NameKind.free)=false:=by simpa using hk
       rw[hb]
       rw[if_neg (by decide),pure_bind]
       obtain ⟨cl,e,h1,h2,h3⟩:=ih acc f hf (fun y hy'=>hy y (List.mem_cons_of_mem _ hy')) ha
       refine⟨cl,e,h1,h2,fun y hy' hk'=>?_⟩
       rcases List.mem_cons.mp hy' with z | z
       . subst z; exact absurd hk' hk
       . exact h3 y z hk'
 have fin:∀ f:Str × NameKind->List (Str × Addr)->Sem (ForInStep (List (Str × Addr))),
     (∀ n k c,f (n,k) c=if k == .free then (do let a <-cellOf env n; pure (.yield ((n,a)::c))) else pure (.yield c)) →
     ∃ cl,(forIn scope.names [] f >>= fun r=>pure r)=pure cl/\(∀ x c,cl.lookup x=some c->env.cells.lookup x=some c)/\∀ y∈scope.names,y.2 = .free->∃ c,cl.lookup y.1=some c:=fun f hf=>by
   obtain ⟨cl,e,h1,_,h3⟩:=all scope.names [] f hf h (fun x c e=>by cases e)
   exact⟨cl,by rw[e,pure_bind],h1,h3⟩
 unfold closureFor
 exact fin _ (fun n k c=>by cases hk:k == NameKind.free <;> simp[hk])
def Cx.comp (X:Cx) (scope:Scope) (cl:List (Str × Addr)) (C:Addr) (N':List Str) (s0:Shared) (H0:Hp) (fp:List Addr):Cx :=
 { X with N:=N',s₀:=s0,H₀:=H0,env:=compEnvC scope cl C X.env,outer:=X.stack,ex:=fp,fn:=fun _=>false,pn:=[],xe:=fun _ _=>False }
def selS (ix:List (Option Nat)) (σ:St):St:=ix.map fun o=>o.bind fun j=>(σ[j]?).join
structure CompScope (ON:List Str) (osc scope:Scope) (N':List Str) (ix:List (Option Nat)):Prop where
 kind:scope.kind = .function
 nocell:∀ y∈scope.names,y.2≠.cell
 names:∀ y∈scope.names,y.2 = .local->scope.names.lookup y.1=some .local
 frees:∀ y∈scope.names,y.2 = .free->osc.names.lookup y.1=some .cell
 len:ix.length=N'.length
 nd:N'.Nodup
 chk:((ix.zip N').all fun p=>match p.1 with | none=>true | some j=>decide (ON[j]?=some p.2) && decide (scope.names.lookup p.2=some .free))=true
theorem CompScope.sel {ON:List Str} {osc scope:Scope} {N':List Str} {ix:List (Option Nat)} (S:CompScope ON osc scope N' ix) (i j:Nat) (x:Str) (h1:ix[i]?=some (some j)) (h2:N'[i]?=some x):ON[j]?=some x/\scope.names.lookup x=some .free:=by
 have hz:(ix.zip N')[i]?=some (some j,x):=by rw[List.getElem?_zip_eq_some]; exact⟨h1,h2⟩
 have:=List.all_eq_true.mp S.chk _ (List.mem_of_getElem? hz)
 simp only[Bool.and_eq_true,decide_eq_true_eq] at this
 exact this
theorem relabel_look {env:Env}:∀ {names:List (Str × NameKind)} {x:Str},names.lookup x=some .free →
   ((names.map fun (n,k)=>if (k == NameKind.free && env.scope.kind == .function && env.kindOf n == some .cell) then (n,NameKind.cell) else (n,k)).lookup x=some .cell ∨
    (names.map fun (n,k)=>if (k == NameKind.free && env.scope.kind == .function && env.kindOf n == some .cell) then (n,NameKind.cell) else (n,k)).lookup x=some .free)
 | [],_,h=>by simp at h
 | (n,k)::r,x,h=>by
   have ih:=@relabel_look env r x
   rw[List.map_cons]
   cases hx:x == n with
   | true =>
     rw[List.lookup_cons,hx] at h
     cases h
     by_cases hc:(NameKind.free == NameKind.free && env.scope.kind == .function && env.kindOf n == some .cell)=true
     . left; simp only[hc,if_true,List.lookup_cons,hx]
     . right
       have hc':(NameKind.free == NameKind.free && env.scope.kind == .function && env.kindOf n == some .cell)=false:=by simpa using hc
       simp only[hc',Bool.false_eq_true,if_false,List.lookup_cons,hx]
   | false =>
     rw[List.lookup_cons,hx] at h
     have ih':=ih h
     by_cases hc:(k == NameKind.free && env.scope.kind == .function && env.kindOf n == some .cell)=true
     . simp only[hc,if_true,List.lookup_cons,hx]; exact ih'
     . have hc':(k == NameKind.free && env.scope.kind == .function && env.kindOf n == some .cell)=false:=by simpa using hc
       simp only[hc',Bool.false_eq_true,if_false,List.lookup_cons,hx]; exact ih'
theorem relabel_back {env:Env}:∀ {names:List (Str × NameKind)} {x:Str},(∀ y∈names,y.2≠.cell) →
   ((names.map fun (n,k)=>if (k == NameKind.free && env.scope.kind == .function && env.kindOf n == some .cell) then (n,NameKind.cell) else (n,k)).lookup x=some .cell ∨
    (names.map fun (n,k)=>if (k == NameKind.free && env.scope.kind == .function && env.kindOf n == some .cell) then (n,NameKind.cell) else (n,k)).lookup x=some .free)->(x,NameKind.free)∈names
 | [],_,_,h=>by simp at h
 | (n,k)::r,x,hn,h=>by
   have ih:=@relabel_back env r x fun y hy=>hn y (List.mem_cons_of_mem _ hy)
   rw[List.map_cons] at h
   cases hx:x == n with
   | true =>
     have e:=eq_of_beq hx
     subst e
     by_cases hc:(k == NameKind.free && env.scope.kind == .function && env.kindOf x == some .cell)=true
     . have hk:k = .free:=by
         have:=(Bool.and_eq_true_iff.mp (Bool.and_eq_true_iff.mp hc).1).1
         exact eq_of_beq this
       subst hk; exact List.mem_cons_self
     . have hc':(k == NameKind.free && env.scope.kind == .function && env.kindOf x == some .cell)=false:=by simpa using hc
       simp only[hc',Bool.false_eq_true,if_false,List.lookup_cons,beq_self_eq_true] at h
       rcases h with h | h
       . have hk:k = .cell:=Option.some.inj h
         exact absurd hk (hn (x,k) List.mem_cons_self)
       . have hk:k = .free:=Option.some.inj h
         subst hk; exact List.mem_cons_self
   | false =>
     refine List.mem_cons_of_mem _ (ih ?_)
     by_cases hc:(k == NameKind.free && env.scope.kind == .function && env.kindOf n == some .cell)=true
     . simp only[hc,if_true,List.lookup_cons,hx] at h; exact h
     . have hc':(k == NameKind.free && env.scope.kind == .function && env.kindOf n == some .cell)=false:=by simpa using hc
       simp only[hc',Bool.false_eq_true,if_false,List.lookup_cons,hx] at h; exact h
section
variable {X:Cx} {pins:List (Addr × Obj)} {σ:St} {H:Hp} {s:Shared}
theorem Inv.comp {scope:Scope} {N':List Str} {ix:List (Option Nat)} {cl:List (Str × Addr)} {fp:List Addr} {h':Heap} {t':Nat} (I:Inv X pins σ H s) (S:CompScope X.N X.env.scope scope N' ix) (hfp:∀ b∈fp,FpOk X pins H b) (hlt:∀ b∈fp,b < s.heap.objs.size)
   (c1:∀ x c,cl.lookup x=some c->X.env.cells.lookup x=some c) (c2:∀ y∈scope.names,y.2 = .free->∃ c,cl.lookup y.1=some c)
   (ns:h'.Ns s.heap.objs.size fun _=>none) (sb:∀ b o,s.heap.get? b=some o->h'.get? b=some o) :
   Inv (X.comp scope cl s.heap.objs.size N' s H fp) [] (selS ix σ) H { s with heap:=h',toks:=t' }:=by
 have fpne:∀ b∈fp,b≠s.heap.objs.size:=fun b hb=>Nat.ne_of_lt (hlt b hb)
 have cin:∀ x c,cl.lookup x=some c->∃ v,s.heap.IsCell c v:=fun x c e=>I.cell x c (c1 x c e)
 refine⟨⟨I.ok.mod,S.kind,I.ok.glob,I.ok.blt,Nat.le_refl _,fun x y c e1 e2=>I.ok.inj x y c (c1 x c e1) (c1 y c e2),fun x hx=>?_,fun x c z=>(by cases z),I.ok.hd,I.ok.frames,.inl rfl,fun b hb=>⟨fpne b hb,fun x c e=>?_⟩,I.bs,Nat.le_trans I.ok.bsz I.sz,fun b o e hb=>?_,fun b hb hf=>?_,I.stack,I.stkFree⟩,
   rfl,I.bare,Un.kept sb,⟨_,ns,fun i x v e1 e2 e3=>?_⟩,fun x c e=>?_,I.hok.fresh (Nat.le_refl _),fun x c e=>I.freeC x c (c1 x c e),fun p hp=>(by cases hp),I.hok.kept sb,?_⟩
 . obtain ⟨c,e⟩:=c2 (x,.free) (relabel_back S.nocell hx) rfl
   exact⟨c,e⟩
 . exact (hfp b hb).2.2.2.2.1 x c (c1 x c e)
 . rcases (hfp b hb).2.2.2.1 with z | z
   . exact I.ok.noex b o e z
   . exact absurd (Nat.lt_of_lt_of_le (Heap.lt_size (I.ok.bs b o e).1) z) (Nat.lt_irrefl _)
 . rcases List.mem_cons.mp (I.stkSub b hf) with z | z
   . exact (hfp b hb).2.1 z
   . exact (hfp b hb).2.2.1 z
 . -- what the block sees
   have e2':ix[i]?.map (fun o=>o.bind fun j=>(σ[j]?).join)=some (some v):=by
     have:=e2
     unfold selS at this
     rwa [List.getElem?_map] at this
   cases hi:ix[i]? with
   | none=>rw[hi] at e2'; cases e2'
   | some o =>
     rw[hi] at e2'
     cases o with
     | none=>cases e2'
     | some j =>
       have e4:(σ[j]?).join=some v:=Option.some.inj e2'
       have e5:σ[j]?=some (some v):=by
         cases q:σ[j]? with
         | none=>rw[q] at e4; cases e4
         | some z=>rw[q] at e4; have:z=some v:=e4; rw[this]
       obtain ⟨hN,hfr⟩:=S.sel i j x hi e1
       have hk:=S.frees (x,.free) (PySem.mem_of_lookup hfr) rfl
       obtain ⟨m,_,hl⟩:=I.loc
       obtain ⟨u,r,lk⟩:=hl j x v hN e5 (.inr (.inl hk))
       refine⟨u,r,.inr ?_⟩
       rcases lk with ⟨k1,_⟩ | ⟨_,c,ec,hc⟩
       . exact absurd (k1.symm.trans hk) (by decide)
       . obtain ⟨c',ec'⟩:=c2 (x,.free) (PySem.mem_of_lookup hfr) rfl
         have:=c1 x c' ec'
         rw[ec] at this
         cases this
         refine⟨relabel_look hfr,c,ec',?_⟩
         obtain ⟨o,ho,hd⟩:=hc
         exact⟨o,sb c o ho,hd⟩
 . obtain ⟨v,o,ho,hd⟩:=cin x c e
   exact⟨v,o,sb c o ho,hd⟩
 . show (selS ix σ).length=N'.length
   unfold selS
   rw[List.length_map]
   exact S.len
theorem Inv.uncomp {scope:Scope} {N':List Str} {cl:List (Str × Addr)} {fp:List Addr} {C:Addr} {σ':St} {H':Hp} {s':Shared} (I:Inv X pins σ H s) (hfp:∀ b∈fp,FpOk X pins H b) (hC:s.heap.objs.size<=C)
   (J:Inv (X.comp scope cl C N' s H fp) [] σ' H' s'):Inv X pins σ H' s' :=
 I.call' (ch:=fp) J.os J.base J.hok J.bare fun b hb=>by
   obtain ⟨f0,f1,f2,f3,f4,f5⟩:=hfp b hb
   exact⟨f3,f1,f4,f5⟩
end
/-! ### readings -/
def tEmit (D:Addr) (telt:TE) (N:St->Hp->Prop):St->Hp->Prop:=fun σ H=>telt σ H fun v H1=>∃ acc,H1 D=some (.lst acc)/\acc.length < sizeLine/\N σ (upd H1 D (.lst (acc++[v])))
def tComp (wi:TI) (ix:List (Option Nat)) (g:TG) (tif:TT) (telt:TE):TE:=fun σ H Q=>wi σ H fun J H1=>∀ D,H1 D=none->∃ W:Nat->Nat->St->Hp->Prop,(∃ m,W 0 m (selS ix σ) (upd H1 D (.lst []))) ∧
 ∀ i m σ' H',W i m σ' H'->(J.stop i H'/\Q (.ref D) H')\/(J.go i H'/\∃ N:St->Hp->Prop,(∀ σ2 H2,N σ2 H2->∃ m',m' < m/\W (i+1) m' σ2 H2) ∧
   ∀ x H2,J.yld i H' x H2->g x σ' H2 fun σ3 H3=>tif σ3 H3 fun b H4=>if b=true then tEmit D telt N σ3 H4 else N σ3 H4)
def PIfs (X:Cx) (ifs:List Expr) (t:TT):Prop :=
 ∀ (pins:List (Addr × Obj)) (s:Shared) (σ:St) (H:Hp) (Q:Bool->Hp->Prop),Inv X pins σ H s->t σ H Q →
   wpAny (model X.prog X.w) X.A (forIn ifs true fun c r=>if r=true then do let ok <-isTrue c X.env (eval c X.env); pure (ForInStep.yield ok) else pure (ForInStep.yield r)) (TP X pins σ Q) X.xe s
def tTrue:TT:=fun _ H Q=>Q true H
theorem pifs_nil {X:Cx}:PIfs X [] tTrue:=fun _ _ _ H _ I h=>wpAny_tests_nil ⟨H,I,h⟩
theorem pifs_one {X:Cx} {c:Expr} {t:TT} (hc:PT X c t):PIfs X [c] t:=fun pins s σ H Q I h=>wpAny_tests_one (hc pins s σ H Q I h)
section
variable {X:Cx} {scope:Scope} {N':List Str} {ix:List (Option Nat)} {tg iter elt:Expr} {ifs:List Expr} {pos:Pos} {wi:TI} {g:TG} {tif:TT} {telt:TE}
theorem comp_block {RR:Value->Addr->Result->Shared->Prop} {pins:List (Addr × Obj)} {σ:St} {s2:Shared} {H2:Hp} {it:Addr} {fp:List Addr} {tn:Nat->Heap->Prop} {J:It} {cl:List (Str × Addr)} {Q:VK} {E:Value->Shared->Prop}
   (hc:X.calm=true) (S:CompScope X.N X.env.scope scope N' ix)
   (c1:∀ x c,cl.lookup x=some c->X.env.cells.lookup x=some c) (c2:∀ y∈scope.names,y.2 = .free->∃ c,cl.lookup y.1=some c)
   (hg:∀ cl C s0 H0 fp,PG (X.comp scope cl C N' s0 H0 fp) tg g) (hif:∀ cl C s0 H0 fp,PIfs (X.comp scope cl C N' s0 H0 fp) ifs tif) (he:∀ cl C s0 H0 fp,PE (X.comp scope cl C N' s0 H0 fp) elt telt)
   (I2:Inv X pins σ H2 s2) (T:Turn X.prog X.w X.K tg J fp it tn) (st2:tn 0 s2.heap) (f2:∀ b∈fp,FpOk X pins H2 b)
   (body:∀ D,H2 D=none->∃ W:Nat->Nat->St->Hp->Prop,(∃ m,W 0 m (selS ix σ) (upd H2 D (.lst []))) ∧
     ∀ i m σ' H',W i m σ' H'->(J.stop i H'/\Q (.ref D) H')\/(J.go i H'/\∃ N:St->Hp->Prop,(∀ σ2 H2,N σ2 H2->∃ m',m' < m/\W (i+1) m' σ2 H2) ∧
       ∀ x H2,J.yld i H' x H2->g x σ' H2 fun σ3 H3=>tif σ3 H3 fun b H4=>if b=true then tEmit D telt N σ3 H4 else N σ3 H4))
   (hRR:∀ D C s3 s' H' m,Inv X pins σ H' s'->s2.heap.objs.size<=s3->s3<=C->s'.heap.Ns C m->FpOk X pins H' C->HOk X.prog X.w H' s'.heap->Q (.ref D) H'->RR (.ref D) C (.ok .next) s') :
   wpAny (model X.prog X.w) X.A (newList []) (fun acc s3=>wpAny (model X.prog X.w) X.A (newFunctionEnv scope X.env.globals cl [] X.env.qual none .none (some X.env)) (fun cenv s4 =>
     codeAny (model X.prog X.w) X.A (.compStart (.ListComp elt [⟨tg,iter,ifs,0⟩] scope pos) 0 (.ref it) acc { cenv with scope:=relabel scope X.env }) (RR acc cenv.locals) s4) E s3) E s2:=by
 have hlt2:∀ b∈fp,b < s2.heap.objs.size:=fun b hb=>by
   obtain ⟨o,e,_⟩:=T.obj _ _ st2 b hb
   exact Heap.lt_size e
 obtain ⟨W,⟨m0,w0⟩,turn⟩:=body s2.heap.objs.size I2.fresh
 refine wpAny_newObj_type (wpAny_newFunctionEnv S.nocell (by intro y hy; simp at hy) (fun h1 hns1 hsb1=>?_) S.kind)
 dsimp only at hns1 hsb1 ⊢
 have I3:Inv X pins σ (upd H2 s2.heap.objs.size (.lst [])) { s2 with heap:=s2.heap.push { cls:=.type "list",dict:=none,data:=.seq ([]:List Value).toArray } } :=
   Inv.lnew (its:=[]) (t':=s2.toks) I2 .nil (Nat.zero_le _)
 generalize hs3:({ s2 with heap:=s2.heap.push { cls:=.type "list",dict:=none,data:=.seq ([]:List Value).toArray } }:Shared)=s3 at I3
 have hh3:s3.heap=s2.heap.push { cls:=.type "list",dict:=none,data:=.seq ([]:List Value).toArray }:=by rw[<-hs3]
 have hsz3:s3.heap.objs.size=s2.heap.objs.size+1:=by rw[hh3,Heap.size_push]
 have hsh:({ s2 with heap:=h1,toks:=s2.toks+([]:List (Str × Value)).length }:Shared) = { s3 with heap:=h1,toks:=s2.toks+([]:List (Str × Value)).length }:=by rw[<-hs3]
 rw[<-hh3] at hns1 hsb1 ⊢
 have fpD:∀ b∈fp,b≠s2.heap.objs.size:=fun b hb=>Nat.ne_of_lt (hlt2 b hb)
 have f3:∀ b∈fp,FpOk X pins (upd H2 s2.heap.objs.size (.lst [])) b:=fun b hb=>⟨by rw[upd_ne (fpD b hb)]; exact (f2 b hb).1,(f2 b hb).2⟩
 have old:∀ b o,s3.heap.get? b=some o->h1.get? b=some o:=fun b o e=>hsb1.extBut b o (Nat.ne_of_lt (Heap.lt_size e)) (Heap.get?_push_of_some _ e)
 have J4:Inv (X.comp scope cl s3.heap.objs.size N' s3 (upd H2 s2.heap.objs.size (.lst [])) fp) [] (selS ix σ) (upd H2 s2.heap.objs.size (.lst [])) { s3 with heap:=h1,toks:=s2.toks+([]:List (Str × Value)).length } :=
   I3.comp S f3 (fun b hb=>Nat.lt_of_lt_of_le (hlt2 b hb) (by rw[hsz3]; exact Nat.le_succ _)) c1 c2 hns1 old
 have st4:tn 0 h1:=T.keep _ _ _ st2 fun b hb o e=>old b o (by rw[hh3]; exact Heap.get?_push_of_some _ e)
 generalize hCC:s3.heap.objs.size=C at *
 generalize hX':X.comp scope cl C N' s3 (upd H2 s2.heap.objs.size (.lst [])) fp=X' at J4
 have stat:∀ {H':Hp},(∀ b∈fp,H' b=none)->∀ b∈fp,FpOk X' [] H' b:=fun {H'} hn b hb=>by
   subst hX'
   refine⟨hn b hb,(J4.ok.exf b hb).1,J4.ok.exfs b hb,.inl hb,(J4.ok.exf b hb).2,fun p hp=>(by cases hp)⟩
 rw[hsh]
 have loop:codeAny (model X.prog X.w) X.A (.compLoop (.ListComp elt [⟨tg,iter,ifs,0⟩] scope pos) 0 (.ref it) (.ref s2.heap.objs.size) (compEnvC scope cl C X.env)) (RR (.ref s2.heap.objs.size) C) { s3 with heap:=h1,toks:=s2.toks+([]:List (Str × Value)).length }:=by
   refine compLoop_go (fun n s'=>∃ i σ' H',Inv X' [] σ' H' s'/\tn i s'.heap/\(∀ b∈fp,H' b=none)/\W i n σ' H') ?_ m0 ⟨0,_,_,J4,st4,fun b hb=>(f3 b hb).1,w0⟩
   rintro n s5 ⟨i,σ5,H5,I5,st5,fr5,w5⟩
   rcases turn i n σ5 H5 w5 with ⟨stop,qn⟩ | ⟨go,N,hN,step⟩
   . have td:=T.done X' (by subst hX'; rfl) (by subst hX'; rfl) (by subst hX'; rfl) (by subst hX'; exact hc) i [] s5 σ5 H5 (fun _ _=>False) I5 (stat fr5) st5 stop
     have eA:X'.A=X.A:=by subst hX'; rfl
     rw[eA] at td
     refine thn td fun r s6 ⟨hr,I6⟩=>?_
     subst hr
     subst hX'
     obtain ⟨m,hnm,_⟩:=I6.loc
     have I7:Inv X pins σ H5 s6:=I3.uncomp f3 (Nat.le_of_eq hCC) I6
     refine hRR s2.heap.objs.size C s3.heap.objs.size s6 H5 m I7 (by omega) (by omega) hnm ?_ I6.hok qn
     have q:=I3.fpOk (H':=H5) (b:=C) (by omega) I6.free
     exact q
   . have ti:=T.item X' (by subst hX'; rfl) (by subst hX'; rfl) (by subst hX'; rfl) (by subst hX'; exact hc) i [] s5 σ5 H5 (fun _ _=>False) I5 (stat fr5) st5 go
     have eA:X'.A=X.A:=by subst hX'; rfl
     rw[eA] at ti
     refine thn ti fun r s6 ⟨u,hr,h6⟩=>?_
     subst hr
     refine thn h6 fun _ s7 ⟨x,H7,I7,r7,y7,st7,fr7⟩=>?_
     have I7':=I7.pinned (stat fr7) (T.obj _ _ st7)
     have again:∀ {pl:List (Addr × Obj)} {σ8:St} {H8:Hp} {s8:Shared},Inv X' ([]++pinsAt fp s7.heap) σ8 H8 s8->N σ8 H8->∃ m,m < n/\∃ i σ' H',Inv X' [] σ' H' s8/\tn i s8.heap/\(∀ b∈fp,H' b=none)/\W i m σ' H':=fun {pl σ8 H8 s8} I8 n8=>by
       obtain ⟨m',hm,w8⟩:=hN σ8 H8 n8
       refine⟨m',hm,i+1,σ8,H8,I8.unpinned,T.keep _ _ _ st7 fun b hb o e=>(I8.pin (b,o) (List.mem_append_right _ (List.mem_append_right _ (mem_pinsAt hb e)))).1,fun b hb=>?_,w8⟩
       obtain ⟨o,e,d⟩:=T.obj _ _ st7 b hb
       exact (I8.pin (b,o) (List.mem_append_right _ (List.mem_append_right _ (mem_pinsAt hb e)))).2.1
     have eE:X'.env=compEnvC scope cl C X.env:=by subst hX'; rfl
     have eP:X'.prog=X.prog:=by subst hX'; rfl
     have eW:X'.w=X.w:=by subst hX'; rfl
     have eX:X'.xe=fun _ _=>False:=by subst hX'; rfl
     have hg':PG X' tg g:=by subst hX'; exact hg _ _ _ _ _
     have hif':PIfs X' ifs tif:=by subst hX'; exact hif _ _ _ _ _
     have he':PE X' elt telt:=by subst hX'; exact he _ _ _ _ _
     have a1:=hg' _ s7 σ5 H7 x u _ I7' r7 (step x H7 y7)
     rw[eE,eP,eW,eA,eX] at a1
     refine thn a1 fun _ s8 ⟨σ8,H8,I8,q8⟩=>?_
     have a2:=hif' _ s8 σ8 H8 _ I8 q8
     rw[eE,eP,eW,eA,eX] at a2
     refine thn a2 fun ok s9 ⟨H9,I9,q9⟩=>?_
     cases ok with
     | false=>exact again (pl:=[]) I9 q9
     | true =>
       have q9':tEmit s2.heap.objs.size telt N σ8 H9:=q9
       have a3:=he' _ s9 σ8 H9 _ I9 q9'
       rw[eE,eP,eW,eA,eX] at a3
       show wpAny _ _ _ _ _ _
       refine thn a3 fun y s10 ⟨v,H10,I10,r10,acc,hD,hl,n10⟩=>?_
       obtain ⟨hz,its,k,rv,hgD⟩:=I10.hok s2.heap.objs.size _ hD
       have hlen:=rv.length
       refine wpAny_list_append_plain (hsz:=by rw[List.size_toArray,<-hlen]; exact Nat.le_of_lt hl) ⟨k,hgD⟩ fun h11 hl11 hs11=>?_
       obtain ⟨k',hk'⟩:=hl11
       have ep:(its.toArray.push y)=(its++[y]).toArray:=by simp
       rw[ep] at hk'
       have I11:Inv X' ([]++pinsAt fp s7.heap) σ8 (upd H10 s2.heap.objs.size (.lst (acc++[v]))) { s10 with heap:=h11 } :=
         I10.write (x:=s2.heap.objs.size) (e:=s2.heap.objs.size) (t':=s10.toks) (by rw[hD]; exact trivial) (.inl rfl) (fun b o hb e=>hs11.extBut b o hb e) ⟨_,hk'⟩ ⟨by rw[List.length_append]; exact hl,its++[y],k',rv.append (.cons r10 .nil),hk'⟩
       exact again (pl:=[]) I11 n10
 exact codeAny_compStart_list loop (T.self _ 0 _ _ _ st4 loop)
theorem pe_comp (hc:X.calm=true) (S:CompScope X.N X.env.scope scope N' ix) (hi:PI X tg iter wi)
   (hg:∀ cl C s0 H0 fp,PG (X.comp scope cl C N' s0 H0 fp) tg g) (hif:∀ cl C s0 H0 fp,PIfs (X.comp scope cl C N' s0 H0 fp) ifs tif) (he:∀ cl C s0 H0 fp,PE (X.comp scope cl C N' s0 H0 fp) elt telt)
   (hs:∀ x,foldedSetIterable iter X.env x=pure x:=by intro _; rfl):PE X (.ListComp elt [⟨tg,iter,ifs,0⟩] scope pos) (tComp wi ix g tif telt):=by
 intro pins s σ H Q I h
 obtain ⟨cl,hcl,c1,c2⟩:=closure_of (scope:=scope) (env:=X.env) fun y hy hk=>I.ok.has y.1 (.inl (S.frees y hy hk))
 rw[eval_ListComp]
 refine wpAny_comprehension_free (use:=none) rfl hs hcl S.kind S.names (thn (hi pins s σ H _ I h) fun xv s1 h1=>thn h1 fun itv s2 h2=>?_)
 obtain ⟨it,fp,tn,J,H2,e,I2,T,st2,f2,body⟩:=h2
 subst e
 refine comp_block (RR:=fun acc C=>compPost (model X.prog X.w) X.A X.xe none (EP X pins σ Q) acc C) (Q:=Q) hc S c1 c2 hg hif he I2 T st2 f2 body ?_
 intro D C s3 s' H' m I' h1 h2 hm hf hok q
 obtain ⟨f0,f1,f2',f3,f4,f5⟩:=hf
 refine⟨m,hm,fun h' sb=>⟨.ref D,H',?_,rfl,q⟩⟩
 exact I'.turned (t':=s'.toks) (fun b o hb e=>sb.extBut b o hb e) f0 f1 f3 f4 f5
theorem ps_comp {i:Nat} {y:Str} {py spos:Pos} (hc:X.calm=true) (S:CompScope X.N X.env.scope scope N' ix) (hi:PI X tg iter wi)
   (hg:∀ cl C s0 H0 fp,PG (X.comp scope cl C N' s0 H0 fp) tg g) (hif:∀ cl C s0 H0 fp,PIfs (X.comp scope cl C N' s0 H0 fp) ifs tif) (he:∀ cl C s0 H0 fp,PE (X.comp scope cl C N' s0 H0 fp) elt telt)
   (hN:X.N.Nodup) (hy:X.N[i]?=some y) (hx:X.env.scope.names.lookup y=some .local)
   (hsw:swapsWith (.ListComp elt [⟨tg,iter,ifs,0⟩] scope pos) (some (.Name y py)) spos.line X.env=pure true:=by rfl)
   (hs:∀ x,foldedSetIterable iter X.env x=pure x:=by intro _; rfl):PS X (.Assign [.Name y py] (.ListComp elt [⟨tg,iter,ifs,0⟩] scope pos) spos) (tAsg (tComp wi ix g tif telt) (gName i)):=by
 intro pins s σ H D0 I h
 obtain ⟨cl,hcl,c1,c2⟩:=closure_of (scope:=scope) (env:=X.env) fun y hy hk=>I.ok.has y.1 (.inl (S.frees y hy hk))
 rw[exec_Assign_Name_used _ _ _ _ hsw]
 refine wpAny_bind (wpAny_standAt (wpAny_bind ?_))
 show wpAny _ _ (do let _ <-comprehension (.ListComp elt [⟨tg,iter,ifs,0⟩] scope pos) scope X.env _ (newList []) false (eval iter X.env) (some (assign (.Name y py) X.env))) _ _ s
 refine wpAny_bind (wpAny_mono (wpAny_comprehension_free (use:=some (assign (.Name y py) X.env)) (Q:=fun _ s'=>SP X pins D0 .next s') rfl hs hcl S.kind S.names
   (thn (hi pins s σ H _ I h) fun xv s1 h1=>thn h1 fun itv s2 h2=>?_)) (fun _ s' hq=>wpAny_pure (wpAny_pure hq)) fun _ _ e=>e)
 obtain ⟨it,fp,tn,J,H2,e,I2,T,st2,f2,body⟩:=h2
 subst e
 refine comp_block (RR:=fun acc C=>compPost (model X.prog X.w) X.A X.xe (some (assign (.Name y py) X.env)) (fun _ s'=>SP X pins D0 .next s') acc C) (Q:=fun v H1=>gName i v σ H1 D0.nx) hc S c1 c2 hg hif he I2 T st2 f2 body ?_
 intro D C s3 s' H' m I' h1 h2 hm hf hok q
 obtain ⟨f0,f1,f2',f3,f4,f5⟩:=hf
 show wpAny _ _ (assign (.Name y py) X.env (.ref D)) _ _ _
 refine wpAny_assign_Name (store_ok2 I' hN hy (.inl hx) (v:=.ref D) rfl (fun s4 I4 ⟨a,sb,ha⟩=>?_) (.inr hx))
 have hCa:C≠a:=by
   rcases ha with z | z
   . rw[z]; exact f1
   . exact Ne.symm (f4 y a z)
 refine⟨m,hm.sameBut sb hCa,fun h' sb'=>⟨_,H',?_,q⟩⟩
 exact I4.turned (t':=s4.toks) (fun b o hb e=>sb'.extBut b o hb e) f0 f1 f3 f4 f5
end
end L2
/-! MORE RULES: count,isinstance,sum,a list unpacked,a tuple's methods -/
namespace L2
open PySem PySem.Spec PyProof.Rows
section
variable {X:Cx}
/-! ### count of ints -/
def rCountL (K:PySem.W.Frag):V->List V->Hp->VK->Prop:=fun x vs H Q=>∃ (l:Addr) (ns:List Int) (k:Int),x = .ref l/\vs=[.int k]/\SqL K H l (ns.map V.int)/\Q (.int (ns.count k:Nat)) H
theorem mt_countL:MtR X "list.count" (rCountL X.K):=by
 intro pins s σ H x vs v us Q I rx rv h
 obtain ⟨l,ns,k,rfl,rfl,hS,q⟩:=h
 cases rx
 obtain ⟨u,rfl,t,rfl⟩:=rv.one
 obtain ⟨its,r,p,hz⟩:=I.list hS
 exact count_list_ints p.isList (intsAre_of r) ⟨.int (ns.count k:Nat),H,I.tok _,⟨_,rfl⟩,q⟩
def rCountT (K:PySem.W.Frag):V->List V->Hp->VK->Prop:=fun x vs H Q=>∃ (l:Addr) (ns:List Int) (k:Int),x = .ref l/\vs=[.int k]/\SqT K H l (ns.map V.int)/\Q (.int (ns.count k:Nat)) H
theorem mt_countT:MtR X "tuple.count" (rCountT X.K):=by
 intro pins s σ H x vs v us Q I rx rv h
 obtain ⟨l,ns,k,rfl,rfl,hS,q⟩:=h
 cases rx
 obtain ⟨u,rfl,t,rfl⟩:=rv.one
 obtain ⟨its,r,⟨⟨cls,dd,data,sl⟩,ho,hc,n,hd⟩,hz⟩:=I.tuple hS
 simp only at hc hd
 subst hc hd
 have hi:=intsAre_of r
 refine call_meets PySem.F.slot_tuple_count ⟨_,ho,rfl⟩ PySem.F.entry_tuple_count (PySem.F.args_tuple_count_2 _ _) (SeqAt.tuple_countAt l its.toArray n dd sl (.int k t) (isInt k)) ⟨ho,fun y hy=>(eq_isInt k t hi y (by simpa using hy)).at _ _,?_⟩
 rw[show its.toArray.toList=its from rfl,countP_isInt k hi]
 exact⟨.int (ns.count k:Nat),H,I.tok _,⟨_,rfl⟩,q⟩
def tTM (r:V->List V->Hp->VK->Prop) (to:TE) (t:TA):TE:=fun σ H Q=>to σ H fun x H1=>(∃ p ys,x = .ref p/\H1 p=some (.tup ys))/\t σ H1 fun xs H2=>r x xs H2 Q
variable {o e:Expr} {es:List Expr} {to:TE} {t:TA} {name:Str} {apos cpos:Pos} {id:String} {r:V->List V->Hp->VK->Prop}
theorem pe_tm (slot:Slot "tuple" name id) (hty:typeOf (.builtin id)=pure (.type "method_descriptor")) (hm:MtR X id r) (ho:PE X o to) (ha:PA X (e::es) t)
   (hbase:attributeBase o name X.env (eval o X.env)=eval o X.env:=by rfl)
   (hfew:((backTo cpos (starEach (e::es) X.env)).all (fun x=>!x.1) && (backToKw cpos (keywordEach [] X.env)).all (fun x=>x.1.isSome)
     && decide ((e::es).length+([]:List Keyword).length+(if ([]:List Keyword).isEmpty then 0 else 1) < 30))=true:=by rfl)
   (hline:(apos.endLine == cpos.line)=true:=by rfl) (hs:starEach (e::es) X.env=(false,eval e X.env)::starEach es X.env:=by rfl) (hplain:(backTo cpos (starEach es X.env)).any (·.1)=false:=by rfl) :
   PE X (.Call (.Attribute o name apos) (e::es) [] cpos) (tTM r to t):=by
 intro pins s σ H Q I h
 refine wpAny_Call_method_late hbase hfew hline rfl (thn (ho pins s σ H _ I h) fun v s1 ⟨x,H1,I1,r1,⟨p,ys,ex,hp⟩,q1⟩=>?_)
 subst ex
 cases r1
 obtain ⟨_,its,_,ob,eo,ec,ed,_⟩:=I1.hok p _ hp
 refine⟨"tuple",id,PySem.F.plainAttrs_tuple,slot,hty,⟨ob,eo,ec⟩,fun a ea=>by cases ea; exact⟨ob,eo,ed⟩,?_⟩
 have hA:=ha cpos pins s1 σ H1 _ I1 q1
 rw[hs] at hA ⊢
 refine Calls.callWith_builtin (by show (false || (backTo cpos (starEach es X.env)).any (·.1))=false; rw[hplain] <;> rfl) (Calls.evalArgs_plain ?_)
 exact thn hA fun us s2 ⟨vs,H2,I2,r2,q2⟩=>hm pins s2 σ H2 (.ref p) vs _ us Q I2 rfl r2 q2
/-! ### isinstance -/
inductive ClsV:V->Value->Prop where
 | ty (n:String):ClsV (.ty n) (.type n)
 | own (C:Addr):ClsV (.ref C) (.ref C)
def rIsi (K:PySem.W.Frag):List V->Hp->VK->Prop:=fun xs H Q=>∃ x cv t c b,xs=[x,cv]/\ClsV cv c/\TyOf K H x t/\PySem.W.kitOne K t c=some b/\Q (.bl b) H
theorem call_isi:CallR X (.builtin "isinstance") (rIsi X.K):=by
 intro pins s σ H xs us Q I r h
 obtain ⟨x,cv,t,c,b,rfl,hc,ty,e,q⟩:=h
 obtain ⟨u,w',rfl,ru,rw'⟩:=vals2 r
 have ew:w'=c:=by
   cases hc with
   | ty n=>exact rw'
   | own C=>exact rw'
 subst ew
 exact isinst_ok I ru ty e fun tk=>⟨.bl b,H,I.tok tk,rfl,q⟩
/-! ### a list unpacked -/
theorem draw_list {prog:Program} {w:World} {A:Around} {E:Value->Shared->Prop} {it t:Addr} {items:Array Value} (hne:t≠it):∀ (n i:Nat) (s:Shared) (Q:List Value->Shared->Prop),s.heap.IsListIter it t i->s.heap.IsList t items->i+n<=items.size →
   (∀ h',h'.IsListIter it t (i+n)->Heap.SameBut it s.heap h'->Q ((items.toList.drop i).take n) { s with heap:=h' })->wpAny (model prog w) A (draw (.ref it) n) Q E s
 | 0,i,s,Q,hit,_,_,hQ=>by
   show wpAny _ _ (pure []) Q E s
   exact wpAny_pure (by simpa using hQ s.heap hit (Heap.SameBut.refl ..))
 | n+1,i,s,Q,hit,ht,hle,hQ=>by
   have hlt:i < items.size:=by omega
   show wpAny _ _ (pyNext (.ref it) >>= _) Q E s
   refine wpAny_bind (wpAny_pyNext_list_item hit ht (x:=items[i]) (by simp[hlt]) fun h1 hit1 hs1=>?_)
   refine wpAny_bind (wpAny_holding (draw_list hne n (i+1) _ _ hit1 (ht.extBut hs1.extBut hne) (by omega) fun h2 hit2 hs2=>wpAny_pure ?_))
   have hd:items.toList.drop i=items[i]::items.toList.drop (i+1):=by simp[List.drop_eq_getElem_cons,hlt]
   have:=hQ h2 (by rw[show i+(n+1)=i+1+n by omega]; exact hit2) (hs1.trans hs2)
   rw[hd,List.take_succ_cons] at this
   exact this
theorem unpackItems_list {prog:Program} {w:World} {A:Around} {E:Value->Shared->Prop} {s:Shared} {t:Addr} {items:Array Value} {Q:List Value->Shared->Prop} (hh:A.handled=none) (ht:s.heap.IsList t items)
   (hQ:∀ h',Heap.ExtBut s.heap.objs.size s.heap h'->Q items.toList { s with heap:=h' }):wpAny (model prog w) A (unpackItems (.ref t) items.size none) Q E s:=by
 have hlt:t≠s.heap.objs.size:=by obtain ⟨o,ho,_⟩:=ht; exact Nat.ne_of_lt (Heap.lt_size ho)
 unfold unpackItems
 refine wpAny_bind ?_
 . unfold notIterableAtAll
   refine wpAny_bind (wpAny_specialOf ht.typeIs slot_list_iter.lookup ?_)
   refine wpAny_pure ?_
   simp only[Bool.false_eq_true,if_false]
   refine wpAny_bind (wpAny_holding (wpAny_pyIter_list ht ?_))
   refine wpAny_bind (wpAny_holding (draw_list hlt items.size 0 _ _ ⟨_,Heap.get?_push_size _ rfl,rfl,rfl⟩ (ht.push _) (by omega) fun h1 hit1 hs1=>?_))
   have hall:List.take items.size (List.drop 0 items.toList)=items.toList:=by
     rw[List.drop_zero]; exact List.take_of_length_le (by simp)
   rw[hall]
   rw[if_neg (by simp)]
   have ht1:h1.IsList t items:=(ht.push _).extBut hs1.extBut hlt
   refine wpAny_bind (wpAny_holding (wpAny_pyNext_list_end hh hit1 ht1 (by simp) fun h2 he2=>?_))
   simp only[Option.isSome_none,Bool.false_eq_true,if_false]
   refine wpAny_pure (hQ h2 fun b o hb e=>he2 b o hb (hs1.extBut b o hb (Heap.get?_push_of_some _ e)))
def gLst (K:PySem.W.Frag) (n:Nat) (t:TGs):TG:=fun v σ H Q=>∃ a xs,v = .ref a/\SqL K H a xs/\xs.length=n/\t xs σ H Q
theorem pg_lst {es:List Expr} {k:Nat} {t:TGs} {n:Nat} {pos:Pos} (hc:X.calm=true) (h:PGs X es t)
   (hn:(assignEach es X.env).length=n:=by rfl) (hst:(assignEach es X.env).findIdx? (·.1)=none:=by rfl):PG X (.Tuple es k pos) (gLst X.K n t):=by
 intro pins s σ H v u Q I r hw
 obtain ⟨a,xs,e1,hq,hl,hw⟩:=hw
 subst e1
 cases r
 obtain ⟨its,rv,ht,hz⟩:=I.list hq
 have hln:=rv.length
 rw[assign_Tuple]
 refine wpAny_bind (wpAny_standAt ?_)
 unfold unpack
 have esz:(assignEach es X.env).length=its.toArray.size:=by rw[hn,<-hl,hln,List.size_toArray]
 rw[esz,hst]
 refine wpAny_bind (wpAny_holding (unpackItems_list (I.ok.hd hc) ht.isList fun h' hx=>?_))
 have I1:Inv X pins σ H { s with heap:=h' }:=I.kept (t':=s.toks) fun b o e=>hx b o (Nat.ne_of_lt (Heap.lt_size e)) e
 exact h pins _ σ H xs _ Q I1 (by simpa using rv) hw
/-! ### sum of a list of ints -/
theorem pairs_of_ints:∀ {us:List Value} {ns:List Int},IntsAre us ns->∃ ps:List (Int × Tok),us=ps.map (fun p=>Value.int p.1 p.2)/\ps.map (·.1)=ns
 | _,_,.nil=>⟨[],rfl,rfl⟩
 | _,_,.cons n t h=>by
   obtain ⟨ps,e1,e2⟩:=pairs_of_ints h
   exact⟨(n,t)::ps,by rw[List.map_cons,e1],by rw[List.map_cons,e2]⟩
/-! ### a list or a tuple walked -/
def iSeq (K:PySem.W.Frag) (tl:TE):TI:=fun σ H R=>tl σ H fun x H1=>∃ a,x = .ref a/\(((∃ xs,SqL K H1 a xs)/\R (Itl K a) H1)\/((∃ xs,SqT K H1 a xs)/\R (Itt K a) H1))
theorem pi_seq {tg l:Expr} {tl:TE} (hl:PE X l tl):PI X tg l (iSeq X.K tl):=by
 intro pins s σ H R I h
 refine thn (hl pins s σ H _ I h) fun v s1 ⟨x,H1,I1,r1,q1⟩=>?_
 obtain ⟨a,e,q⟩:=q1
 subst e
 cases r1
 rcases q with ⟨⟨xs,hq⟩,q⟩ | ⟨⟨xs,hq⟩,q⟩
 . obtain ⟨its,rv,p,hz⟩:=I1.list hq
   refine wpAny_pyIter_list p.isList ?_
   refine⟨s1.heap.objs.size,[s1.heap.objs.size],_,_,H1,rfl,I1.kept (t':=s1.toks) fun b o e=>Heap.get?_push_of_some _ e,turn_list a _,⟨_,Heap.get?_push_size _ rfl,rfl,rfl⟩,fun b hb=>?_,q⟩
   have e:b=s1.heap.objs.size:=by simpa using hb
   subst e
   exact I1.fpOk (Nat.le_refl _) (I1.hok.fresh (Nat.le_refl _))
 . obtain ⟨its,rv,p,hz⟩:=I1.tuple hq
   refine wpAny_pyIter_tuple (show s1.heap.IsTuple a its.toArray from p) ?_
   refine⟨s1.heap.objs.size,[s1.heap.objs.size],_,_,H1,rfl,I1.kept (t':=s1.toks) fun b o e=>Heap.get?_push_of_some _ e,turn_tuple a _,⟨_,Heap.get?_push_size _ rfl,rfl,rfl⟩,fun b hb=>?_,q⟩
   have e:b=s1.heap.objs.size:=by simpa using hb
   subst e
   exact I1.fpOk (Nat.le_refl _) (I1.hok.fresh (Nat.le_refl _))
/-! ### the text by places -/
def stE:Stmt->Expr
 | .Assign _ v _=>v
 | .Return (some v) _=>v
 | .Expr v _=>v
 | _=>.Constant .none 0 ⟨0,0,0,0⟩
def exArg (e:Expr) (j:Nat):Expr:=match e with
 | .Call _ as _ _=>as.getD j (.Constant .none 0 ⟨0,0,0,0⟩)
 | _=>.Constant .none 0 ⟨0,0,0,0⟩
def exScope:Expr->Scope
 | .ListComp _ _ sc _=>sc
 | _=>{ kind:=.function,names:=[],isGenerator:=false,isCoroutine:=false }
def stAt (l:List Stmt) (i:Nat):Stmt:=l.getD i (.Pass ⟨0,0,0,0⟩)
end
end L2
/-! SMALL WORDS for readings -/
namespace L2
open PySem PySem.Spec PyProof.Rows
theorem iteB {c:Bool} {A B:Prop} (e:c=false) (h:B):if c=true then A else B:=by
 subst e; exact iteF h
theorem iteA {c:Bool} {A B:Prop} (e:c=true) (h:A):if c=true then A else B:=by
 subst e; exact iteT h
theorem out_no {a lo hi:Int} (h1:lo<=a) (h2:a<=hi):(decide (a < lo) || decide (hi < a))=false:=by
 rw[decide_eq_false (by omega),decide_eq_false (by omega)]; rfl
theorem dec_gt {a b:Int} (h:b<=a):decide (a < b)=false:=decide_eq_false (by omega)
theorem fl0 {f:Str} {v:V}:(putF f v []).length<=1:=length_putF f v []
theorem flS {f:Str} {v:V} {fs:List (Str × V)} {k:Nat} (h:fs.length<=k):(putF f v fs).length<=k+1:=Nat.le_trans (length_putF f v fs) (Nat.succ_le_succ h)
theorem fl1000 {fs:List (Str × V)} {k:Nat} (h:fs.length<=k) (hk:k < 1000:=by decide):fs.length < 1000:=Nat.lt_of_le_of_lt h hk
def SameX (p:Addr) (H H':Hp):Prop:=∀ b o,H b=some o->b≠p->H' b=some o
theorem Same.upd {H:Hp} {l:Addr} {o:HO} (h:H l=none):Same H (upd H l o):=fun b u e=>by
 rw[upd_ne (ne_of_none e h)]; exact e
theorem Same.updT {H H1:Hp} {l:Addr} {o:HO} (s:Same H H1) (h:H1 l=none):Same H (L2.upd H1 l o):=s.trans (Same.upd h)
theorem Same.put {H H1:Hp} {l:Addr} {o:HO} (s:Same H H1) (h:H l=none):Same H (L2.upd H1 l o):=fun b u e=>by
 rw[upd_ne (ne_of_none e h)]; exact s b u e
theorem upd_id {H:Hp} {m:Addr} {o:HO} (h:H m=some o):L2.upd H m o=H:=by
 funext b
 by_cases hb:b=m
 . subst hb; rw[upd_same,h]
 . rw[upd_ne hb]
/-! ### rules whose reading names the written part: for a comprehension's block -/
theorem mt_countTK {X:Cx} (K:PySem.W.Frag) (h:X.K=K):MtR X "tuple.count" (rCountT K):=h ▸ mt_countT
theorem ix_tupK {X:Cx} (K:PySem.W.Frag) (h:X.K=K):IxR X (rIxT K):=h ▸ ix_tup
/-! ### ints in a list -/
theorem int_at {xs:List Int} {i:Nat} {v:V} (h:(xs.map V.int)[i]?=some v):∃ z,v = .int z/\xs[i]?=some z:=by
 rw[List.getElem?_map] at h
 cases e:xs[i]? with
 | none=>rw[e] at h; cases h
 | some z=>rw[e] at h; exact⟨z,(Option.some.inj h).symm,rfl⟩
theorem atI_int {xs:List Int} {j:Nat} {z:Int} (h:xs[j]?=some z):atI (xs.map V.int) (j:Int)=some (V.int z):=atI_nat (by rw[List.getElem?_map,h]; rfl)
theorem atI_intD {xs:List Int} {i:Int} (h0:0<=i) (h1:i < xs.length):atI (xs.map V.int) i=some (.int (xs.getD i.toNat 0)):=by
 obtain ⟨j,rfl⟩:∃ j:Nat,i=j:=⟨i.toNat,by omega⟩
 have hj:j < xs.length:=by omega
 rw[atI_int (z:=xs[j]) (by simp[hj])]
 simp[hj]
theorem dec_vint {a b:Int}:decide (V.int a=V.int b)=decide (a=b):=by
 by_cases h:a=b
 . subst h; simp
 . rw[decide_eq_false h,decide_eq_false]; intro e; cases e; exact h rfl
/-! ### comprehensions that map -/
theorem comp_map {J:It} {H1:Hp} {D:Addr} {n:Nat} {x:Nat->V} {f:Nat->V} {j:Nat} {σc:St} {telt:TE} {Q:Hp->Prop} (hn:n<=sizeLine)
   (go:∀ i acc,i < n->J.go i (upd H1 D (.lst acc))) (st:∀ acc,J.stop n (upd H1 D (.lst acc))) (yl:∀ i acc v H',i < n->J.yld i (upd H1 D (.lst acc)) v H'->H'=upd H1 D (.lst acc)/\v=x i)
   (el:∀ i acc R,i < n->R (f i) (upd H1 D (.lst acc))->telt (σc.set j (some (x i))) (upd H1 D (.lst acc)) R) (q:Q (upd H1 D (.lst ((List.range n).map f)))) :
   ∃ W:Nat->Nat->St->Hp->Prop,(∃ m,W 0 m σc (upd H1 D (.lst []))) ∧
     ∀ i m σ' H',W i m σ' H'->(J.stop i H'/\Q H')\/(J.go i H'/\∃ N:St->Hp->Prop,(∀ σ2 H2,N σ2 H2->∃ m',m' < m/\W (i+1) m' σ2 H2) ∧
       ∀ v H2,J.yld i H' v H2->gName j v σ' H2 fun σ3 H3=>tTrue σ3 H3 fun b H4=>if b=true then tEmit D telt N σ3 H4 else N σ3 H4):=by
 refine⟨fun i m σ' H'=>m=n - i/\i<=n/\(∀ v,σ'.set j (some v)=σc.set j (some v))/\H'=upd H1 D (.lst ((List.range i).map f)),⟨n,by simp,Nat.zero_le _,fun _=>rfl,rfl⟩,?_⟩
 rintro i m σ' H' ⟨rfl,hi,hσ,rfl⟩
 by_cases hlt:i < n
 . refine .inr ⟨go i _ hlt,fun σ2 H2=>(∀ v,σ2.set j (some v)=σc.set j (some v))/\H2=upd H1 D (.lst ((List.range (i+1)).map f)),fun σ2 H2 ⟨h1,h2⟩=>⟨n - (i+1),by omega,rfl,hlt,h1,h2⟩,fun v H2 y=>?_⟩
   obtain ⟨rfl,rfl⟩:=yl i _ v H2 hlt y
   dsimp only[gName,tTrue]
   refine iteT ?_
   dsimp only[tEmit]
   rw[hσ]
   refine el i _ _ hlt ⟨_,upd_same,?_,?_,?_⟩
   . rw[List.length_map,List.length_range]; omega
   . intro v; simp
   . rw[upd_upd,List.range_succ,List.map_append]; rfl
 . have e:i=n:=by omega
   subst e
   exact .inl ⟨st _,q⟩
theorem sqL_new {K:PySem.W.Frag} {H:Hp} {a D:Addr} {xs:List V} {o:HO} (h:SqL K H a xs) (n:H D=none):SqL K (upd H D o) a xs:=(Same.upd n).seq h
theorem map_range_get {α β:Type} (xs:List α) (d:α) (f:α->β):(List.range xs.length).map (fun i=>f (xs.getD i d))=xs.map f:=by
 apply List.ext_getElem
 . simp
 . intro i h1 h2
   simp at h1 h2
   simp[h1]
theorem comp_list {K:PySem.W.Frag} {H1:Hp} {a D:Addr} {xs:List V} {f:V->V} {j:Nat} {σc:St} {telt:TE} {Q:Hp->Prop} (h:SqL K H1 a xs) (hD:H1 D=none) (hn:xs.length<=sizeLine)
   (el:∀ x acc R,x∈xs->R (f x) (upd H1 D (.lst acc))->telt (σc.set j (some x)) (upd H1 D (.lst acc)) R) (q:Q (upd H1 D (.lst (xs.map f)))) :
   ∃ W:Nat->Nat->St->Hp->Prop,(∃ m,W 0 m σc (upd H1 D (.lst []))) ∧
     ∀ i m σ' H',W i m σ' H'->((Itl K a).stop i H'/\Q H')\/((Itl K a).go i H'/\∃ N:St->Hp->Prop,(∀ σ2 H2,N σ2 H2->∃ m',m' < m/\W (i+1) m' σ2 H2) ∧
       ∀ v H2,(Itl K a).yld i H' v H2->gName j v σ' H2 fun σ3 H3=>tTrue σ3 H3 fun b H4=>if b=true then tEmit D telt N σ3 H4 else N σ3 H4):=by
 refine comp_map (J:=Itl K a) (n:=xs.length) (x:=fun i=>xs.getD i .non) (f:=fun i=>f (xs.getD i .non)) hn (fun i acc hi=>⟨xs,xs[i],sqL_new h hD,by simp[hi]⟩) (fun acc=>⟨xs,sqL_new h hD,Nat.le_refl _⟩) (fun i acc v H' hi y=>?_) (fun i acc R hi r=>?_) ?_
 . obtain ⟨e,y⟩:=y
   have:=y xs (sqL_new h hD)
   exact⟨e,by rw[List.getD_eq_getElem?_getD,this]; rfl⟩
 . refine el _ acc R ?_ r
   rw[List.getD_eq_getElem?_getD,List.getElem?_eq_getElem hi]
   exact List.getElem_mem hi
 . rw[map_range_get]; exact q
end L2
/-! ZIP of two tuples,SUM of a list of ints -/
namespace L2
open PySem PySem.Spec PyProof.Rows
section
variable {prog:Program} {w:World} {A:Around} {E:Value->Shared->Prop} {s:Shared}
theorem nextOf_tup {it l:Addr} {i:Nat} {its:Array Value} {x:Value} {Q:Value->Shared->Prop} (hit:s.heap.IsTupleIter it l i) (hl:s.heap.IsTuple l its) (hx:its[i]?=some x)
   (hQ:∀ h',h'.IsTupleIter it l (i+1)->Heap.SameBut it s.heap h'->Q x { s with heap:=h' }):wpAny (model prog w) A (Builtin.SmallTypes.nextOf (.ref it)) Q E s:=by
 obtain ⟨oi,hoi,hci,hdi⟩:=id hit
 obtain ⟨os,hos,_,ns,hds⟩:=hl
 unfold Builtin.SmallTypes.nextOf
 refine wpAny_bind (wpAny_callSpecial?_slot (name:=Str.ofString "__next__") hit.typeIs F.slot_tuple_iterator_next (wpAny_call_entry F.slot_tuple_iterator_next hit.typeIs F.entry_tuple_iterator_next ?_ (F.args_tuple_iterator_next_1 _)))
 show wpAny _ _ (field (.ref it) 0 >>= _) _ _ s
 refine wpAny_bind (wpAny_field hoi hdi (x:=.ref l) rfl ?_); show wpAny _ _ (if (Value.ref l == Value.none)=true then _ else _) _ _ s
 rw[if_neg (show ¬ ((Value.ref l == Value.none)=true) from Bool.false_ne_true)]; show wpAny _ _ (field (.ref it) 1 >>= _) _ _ s
 refine wpAny_bind (wpAny_field hoi hdi (x:=.int i 0) rfl ?_); show wpAny _ _ (seqItems? (.ref l) >>= _) _ _ s
 refine wpAny_bind (wpAny_seqItems hos hds ?_); simp only[Int.toNat_natCast,hx]
 refine wpAny_bind (wpAny_setField hoi hdi (by simp) (wpAny_pure ⟨x,rfl,wpAny_pure (hQ _ ?_ (Heap.SameBut.update ..))⟩))
 refine⟨_,Heap.get?_update_self _ hoi (Obj.isFreed_of_fields (Obj.data_mapFields hdi _)),(Obj.cls_mapFields ..).trans hci,?_⟩; rw[Obj.data_mapFields hdi]; simp[rawInt]
theorem nextOf_tup_end {it l:Addr} {i:Nat} {its:Array Value} {Q:Value->Shared->Prop} (hh:A.handled=none) (hit:s.heap.IsTupleIter it l i) (hl:s.heap.IsTuple l its) (hx:its[i]?=none)
   (hE:∀ h' e,Heap.ExtBut it s.heap h'->(∃ o,h'.get? e=some o/\o.cls = .type "StopIteration")->E (.ref e) { s with heap:=h' }):wpAny (model prog w) A (Builtin.SmallTypes.nextOf (.ref it)) Q E s:=by
 obtain ⟨oi,hoi,hci,hdi⟩:=id hit
 obtain ⟨os,hos,_,ns,hds⟩:=hl
 unfold Builtin.SmallTypes.nextOf
 refine wpAny_bind (wpAny_callSpecial?_slot (name:=Str.ofString "__next__") hit.typeIs F.slot_tuple_iterator_next (wpAny_call_entry F.slot_tuple_iterator_next hit.typeIs F.entry_tuple_iterator_next ?_ (F.args_tuple_iterator_next_1 _)))
 show wpAny _ _ (field (.ref it) 0 >>= _) _ _ s
 refine wpAny_bind (wpAny_field hoi hdi (x:=.ref l) rfl ?_); show wpAny _ _ (if (Value.ref l == Value.none)=true then _ else _) _ _ s
 rw[if_neg (show ¬ ((Value.ref l == Value.none)=true) from Bool.false_ne_true)]; show wpAny _ _ (field (.ref it) 1 >>= _) _ _ s
 refine wpAny_bind (wpAny_field hoi hdi (x:=.int i 0) rfl ?_); show wpAny _ _ (seqItems? (.ref l) >>= _) _ _ s
 refine wpAny_bind (wpAny_seqItems hos hds ?_); simp only[Int.toNat_natCast,hx]
 refine wpAny_bind (wpAny_rule (wpAny_bind (wpAny_setField hoi hdi (by simp) ?_))); show wpAny _ _ (newExc (.type "StopIteration") [] >>= _) _ _ _
 refine wpAny_bind ?_; simp only[newExc,newTuple]
 refine wpAny_bind (wpAny_newObj_type ?_ (by size_fits))
 refine wpAny_bind (m:=firstArgMember _ _) (wpAny_of_eq (a:=Value.none) (by first | rfl | (simp only[firstArgMember]; rfl)) ?_)
 refine wpAny_newObj_type ?_ (by size_fits); simp only[raiseNew]
 refine wpAny_bind (wpAny_handled ?_); first | rw[show A.in1.handled=none from hh] | rw[hh]
 refine wpAny_bind (wpAny_pure (wpAny_throw ?_))
 exact hE _ _ (((Heap.SameBut.update ..).extBut.push _).push _) ⟨_,Heap.get?_push_size _ rfl,rfl⟩
structure ZApart (z TI TO i1 i2:Addr):Prop where
 TIz:TI≠z
 TOz:TO≠z
 i1z:i1≠z
 i2z:i2≠z
 TITO:TI≠TO
 TIi1:TI≠i1
 TIi2:TI≠i2
 TOi1:TO≠i1
 TOi2:TO≠i2
 i12:i1≠i2
structure ZAt (h:Heap) (z TI TO i1 i2 l1 l2:Addr) (f0:Value) (i:Nat):Prop where
 hz:IsZip h z TI TO f0
 hTI:IsPair h TI (.ref i1) (.ref i2)
 hTO:∃ a b,IsPair h TO a b
 h1:h.IsTupleIter i1 l1 i
 h2:h.IsTupleIter i2 l2 i
theorem zip_item {z TI TO i1 i2 l1 l2:Addr} {k:Nat} {xs ys:Array Value} {x y:Value} {Q:Option Value->Shared->Prop} (D:ZApart z TI TO i1 i2) (L:∀ l,l=l1\/l=l2->l≠z/\l≠TO/\l≠i1/\l≠i2) (Z:ZAt s.heap z TI TO i1 i2 l1 l2 .none k)
   (hl1:s.heap.IsTuple l1 xs) (hl2:s.heap.IsTuple l2 ys) (hx:xs[k]?=some x) (hy:ys[k]?=some y)
   (hQ:∀ h',ZAt h' z TI TO i1 i2 l1 l2 (rawInt s.heap.objs.size) (k+1)->IsPair h' s.heap.objs.size x y →
     (∀ c o,c≠z->c≠TO->c≠i1->c≠i2->s.heap.get? c=some o->h'.get? c=some o)->Q (some (.ref s.heap.objs.size)) { s with heap:=h' }) :
   wpAny (model prog w) A (pyNext (.ref z)) Q E s:=by
 obtain ⟨hz,hTI,⟨a,b,hTO⟩,h1,h2⟩:=Z
 obtain ⟨l1z,l1TO,l1i1,l1i2⟩:=L l1 (.inl rfl)
 obtain ⟨l2z,l2TO,l2i1,l2i2⟩:=L l2 (.inr rfl)
 have hT:s.TypeIs (.ref z) "zip":=⟨_,hz,rfl⟩
 unfold pyNext
 refine wpAny_bind (wpAny_attempt (wpAny_callSpecial?_slot (name:=Str.ofString "__next__") hT F.slot_zip_next (wpAny_call_entry F.slot_zip_next hT F.entry_zip_next ?_ (F.args_zip_next_1 _))))
 show wpAny _ _ (field (.ref z) 2 >>= _) _ _ _
 refine wpAny_bind (wpAny_field hz rfl (x:=.bool false) rfl ?_); show wpAny _ _ (field (.ref z) 3 >>= _) _ _ _
 refine wpAny_bind (wpAny_field hz rfl (x:=.ref TI) rfl ?_)
 refine wpAny_bind (wpAny_seqItems hTI rfl ?_); show wpAny _ _ (Builtin.SmallTypes.ownedTupleIsFree (.ref z) >>= _) _ _ _
 refine wpAny_bind ?_; unfold Builtin.SmallTypes.ownedTupleIsFree
 refine wpAny_bind (wpAny_field hz rfl (x:=.none) rfl (wpAny_pure ?_)); simp only[if_true]
 refine wpAny_bind (wpAny_rule (wpAny_bind (wpAny_field hz rfl (x:=.ref TO) rfl ?_)))
 refine wpAny_bind (wpAny_setField_rec hz (by simp) fun g1 z1 e1=>?_)
 replace z1:IsZip g1 z TI TO .ellipsis:=z1
 refine wpAny_bind ?_; simp only[List.zipIdx_cons,List.zipIdx_nil,List.forIn_cons,List.forIn_nil]
 refine wpAny_bind (wpAny_bind (wpAny_onRaise ?_)); show wpAny _ _ (Builtin.SmallTypes.nextOf (.ref i1) >>= _) _ _ _
 refine wpAny_bind (nextOf_tup (h1.extBut e1.extBut D.i1z) (hl1.extBut e1.extBut l1z) hx fun g2 j1 e2=>wpAny_pure ?_)
 have t2:IsPair g2 TO a b:=e2.extBut _ _ D.TOi1 (e1.extBut _ _ D.TOz hTO)
 refine wpAny_bind (wpAny_seqItems t2 rfl (wpAny_bind (wpAny_updateSeq_pair t2 fun g3 t3 e3=>?_)))
 replace t3:IsPair g3 TO x b:=t3
 refine wpAny_bind (wpAny_letGo (wpAny_pure ?_))
 refine wpAny_bind (wpAny_bind (wpAny_onRaise ?_)); show wpAny _ _ (Builtin.SmallTypes.nextOf (.ref i2) >>= _) _ _ _
 refine wpAny_bind (nextOf_tup (((h2.extBut e1.extBut D.i2z).extBut e2.extBut D.i12.symm).extBut e3.extBut D.TOi2.symm) (((hl2.extBut e1.extBut l2z).extBut e2.extBut l2i1).extBut e3.extBut l2TO) hy fun g4 j2 e4=>wpAny_pure ?_)
 have t4:IsPair g4 TO x b:=e4.extBut _ _ D.TOi2 t3
 refine wpAny_bind (wpAny_seqItems t4 rfl (wpAny_bind (wpAny_updateSeq_pair t4 fun g5 t5 e5=>?_)))
 replace t5:IsPair g5 TO x y:=t5
 refine wpAny_bind (wpAny_letGo (wpAny_pure (wpAny_pure ?_)))
 refine wpAny_bind (wpAny_seqItems t5 rfl (wpAny_bind (wpAny_newTuple ?_)))
 have sz:g5.objs.size=s.heap.objs.size:=by rw[e5.1,e4.1,e3.1,e2.1,e1.1]
 have z5:IsZip g5 z TI TO .ellipsis:=e5.extBut _ _ D.TOz.symm (e4.extBut _ _ D.i2z.symm (e3.extBut _ _ D.TOz.symm (e2.extBut _ _ D.i1z.symm z1)))
 have k5:∀ c o,c≠z->c≠TO->c≠i1->c≠i2->s.heap.get? c=some o->g5.get? c=some o:=fun c o c1 c2 c3 c4 e=>e5.extBut _ _ c2 (e4.extBut _ _ c4 (e3.extBut _ _ c2 (e2.extBut _ _ c3 (e1.extBut _ _ c1 e))))
 have m1:g5.IsTupleIter i1 l1 (k+1):=((j1.extBut e3.extBut D.TOi1.symm).extBut e4.extBut D.i12).extBut e5.extBut D.TOi1.symm
 have m2:g5.IsTupleIter i2 l2 (k+1):=j2.extBut e5.extBut D.TOi2.symm
 have zl:z < g5.objs.size:=Heap.lt_size z5
 show wpAny _ _ (Builtin.SmallTypes.ownedTupleHandOut (.ref z) (.ref g5.objs.size) >>= _) _ _ _
 refine wpAny_bind ?_; unfold Builtin.SmallTypes.ownedTupleHandOut
 have z6:IsZip (g5.push { cls:=.type "tuple",data:=.seq #[x,y] }) z TI TO .ellipsis:=Heap.get?_push_of_some _ z5
 refine wpAny_bind (wpAny_setField_rec z6 (by simp) fun g7 z7 e7=>?_)
 replace z7:IsZip g7 z TI TO (rawInt g5.objs.size):=z7
 refine wpAny_setField_rec z7 (by simp) fun g8 z8 e8=>?_
 replace z8:IsZip g8 z TI TO (rawInt g5.objs.size):=z8
 have up:∀ c o,c≠z->g5.get? c=some o->g8.get? c=some o:=fun c o c1 e=>e8.extBut _ _ c1 (e7.extBut _ _ c1 (Heap.get?_push_of_some _ e))
 have t8:IsPair g8 g5.objs.size x y:=e8.extBut _ _ (Nat.ne_of_gt zl) (e7.extBut _ _ (Nat.ne_of_gt zl) (Heap.get?_push_size _ rfl))
 rw[sz] at z8 t8
 refine wpAny_pure ⟨_,rfl,wpAny_pure ?_⟩
 show Q (some (.ref g5.objs.size)) _
 rw[sz]
 have at1:∀ {it l:Addr} {i:Nat},g5.IsTupleIter it l i->it≠z->g8.IsTupleIter it l i:=fun q ne=>let ⟨o,ho,r⟩:=q; ⟨o,up _ o ne ho,r⟩
 exact hQ g8 ⟨z8,up _ _ D.TIz (k5 _ _ D.TIz D.TITO D.TIi1 D.TIi2 hTI),⟨x,y,up _ _ D.TOz t5⟩,at1 m1 D.i1z,at1 m2 D.i2z⟩ t8 fun c o c1 c2 c3 c4 e=>up c o c1 (k5 c o c1 c2 c3 c4 e)
theorem zip_end {z TI TO i1 i2 l1 l2:Addr} {k:Nat} {xs:Array Value} {Q:Option Value->Shared->Prop} (hh:A.handled=none) (D:ZApart z TI TO i1 i2) (L:l1≠z) (Z:ZAt s.heap z TI TO i1 i2 l1 l2 .none k)
   (hl1:s.heap.IsTuple l1 xs) (hx:xs[k]?=none)
   (hQ:∀ h',(∀ c o,c≠z->c≠TO->c≠i1->c≠i2->s.heap.get? c=some o->h'.get? c=some o)->Q none { s with heap:=h' }):wpAny (model prog w) A (pyNext (.ref z)) Q E s:=by
 obtain ⟨hz,hTI,⟨a,b,hTO⟩,h1,h2⟩:=Z
 have hT:s.TypeIs (.ref z) "zip":=⟨_,hz,rfl⟩
 unfold pyNext
 refine wpAny_bind (wpAny_attempt (wpAny_callSpecial?_slot (name:=Str.ofString "__next__") hT F.slot_zip_next (wpAny_call_entry F.slot_zip_next hT F.entry_zip_next ?_ (F.args_zip_next_1 _))))
 show wpAny _ _ (field (.ref z) 2 >>= _) _ _ _
 refine wpAny_bind (wpAny_field hz rfl (x:=.bool false) rfl ?_); show wpAny _ _ (field (.ref z) 3 >>= _) _ _ _
 refine wpAny_bind (wpAny_field hz rfl (x:=.ref TI) rfl ?_)
 refine wpAny_bind (wpAny_seqItems hTI rfl ?_); show wpAny _ _ (Builtin.SmallTypes.ownedTupleIsFree (.ref z) >>= _) _ _ _
 refine wpAny_bind ?_; unfold Builtin.SmallTypes.ownedTupleIsFree
 refine wpAny_bind (wpAny_field hz rfl (x:=.none) rfl (wpAny_pure ?_)); simp only[if_true]
 refine wpAny_bind (wpAny_rule (wpAny_bind (wpAny_field hz rfl (x:=.ref TO) rfl ?_)))
 refine wpAny_bind (wpAny_setField_rec hz (by simp) fun g1 z1 e1=>?_)
 replace z1:IsZip g1 z TI TO .ellipsis:=z1
 refine wpAny_bind ?_; simp only[List.zipIdx_cons,List.zipIdx_nil,List.forIn_cons,List.forIn_nil]
 refine wpAny_bind (wpAny_bind (wpAny_onRaise ?_)); show wpAny _ _ (Builtin.SmallTypes.nextOf (.ref i1) >>= _) _ _ _
 refine wpAny_bind (nextOf_tup_end hh (h1.extBut e1.extBut D.i1z) (hl1.extBut e1.extBut L) hx fun g2 e e2 he=>?_)
 obtain ⟨oe,hoe,hce⟩:=he
 have z2:IsZip g2 z TI TO .ellipsis:=e2 _ _ D.i1z.symm z1
 have nez:e≠z:=fun q=>by subst q; rw[z2] at hoe; cases hoe; simp at hce
 refine wpAny_setField_rec z2 (by simp) fun g3 _ e3=>?_
 refine wpAny_bind (wpAny_isInstance (T:="StopIteration") (b:=true) ⟨oe,e3.extBut _ _ nez hoe,hce⟩ isSubtype_stop ?_)
 exact wpAny_pure (hQ _ fun c o c1 _ c3 _ q=>e3.extBut _ _ c1 (e2 _ _ c3 (e1.extBut _ _ c1 q)))
abbrev zp1 (h:Heap) (l1:Addr):Heap:=h.push { cls:=.type "tuple_iterator",data:=.fields #[.ref l1,.int 0 0] }
abbrev zp2 (h:Heap) (l1 l2:Addr):Heap:=(zp1 h l1).push { cls:=.type "tuple_iterator",data:=.fields #[.ref l2,.int 0 0] }
abbrev zp3 (h:Heap) (l1 l2:Addr):Heap:=(zp2 h l1 l2).push { cls:=.type "tuple",data:=.seq #[.ref h.objs.size,.ref (zp1 h l1).objs.size] }
abbrev zp4 (h:Heap) (l1 l2:Addr):Heap:=(zp3 h l1 l2).push { cls:=.type "tuple",data:=.seq #[.none,.none] }
abbrev zp5 (h:Heap) (l1 l2:Addr):Heap:=(zp4 h l1 l2).push { cls:=.type "zip",data:=.fields #[.none,.bool false,.bool false,.ref (zp2 h l1 l2).objs.size,.ref (zp3 h l1 l2).objs.size] }
theorem zip_made (l1 l2:Addr) (xs ys:Array Value) :
   Meets (Builtin.«zip.__new__» ⟨[.type "zip",.ref l1,.ref l2],[]⟩) (fun _ R s=>s.heap.IsTuple l1 xs/\s.heap.IsTuple l2 ys/\R (.ok (.ret (.ref (zp4 s.heap l1 l2).objs.size))) { s with heap:=zp5 s.heap l1 l2 }) :=
 .of_wp fun prog w A R s h=>by
   obtain ⟨hp,g,d,tk,os⟩:=s
   obtain ⟨hl1,hl2,h⟩:=h
   have hsub:=sub_zip
   have q1:Heap.IsTuple (Shared.heap ⟨hp,g,d,tk,os⟩) l1 xs:=hl1
   have q2:Heap.IsTuple (Shared.heap ⟨hp.push { cls:=.type "tuple_iterator",data:=.fields #[.ref l1,.int 0 0] },g,d,tk,os⟩) l2 ys:=Heap.IsTuple.push hl2 _
   wp_walk using wpAny_pyIter_tuple q1,wpAny_pyIter_tuple q2
   exact⟨_,rfl,h⟩
theorem zip_call {l1 l2:Addr} {xs ys:Array Value} {Q:Value->Shared->Prop} (hl1:s.heap.IsTuple l1 xs) (hl2:s.heap.IsTuple l2 ys)
   (h:∀ h',ZAt h' (s.heap.objs.size+4) (s.heap.objs.size+2) (s.heap.objs.size+3) s.heap.objs.size (s.heap.objs.size+1) l1 l2 .none 0 →
     (∀ c o,s.heap.get? c=some o->h'.get? c=some o)->Q (.ref (s.heap.objs.size+4)) { s with heap:=h' }):wpAny (model prog w) A (call (.type "zip") [.ref l1,.ref l2]) Q E s:=by
 refine callType_new F.called_zip (by decide) (F.typeCall_zip_2 _ _) (F.newCall_zip_2 _ _) (fun obj=>F.args_object_init_3 obj _ _) F.entry_zip_new (zip_made l1 l2 xs ys) ⟨hl1,hl2,?_⟩
 have n1:(zp1 s.heap l1).objs.size=s.heap.objs.size+1:=Heap.size_push ..
 have n2:(zp2 s.heap l1 l2).objs.size=s.heap.objs.size+2:=by rw[Heap.size_push,n1]
 have n3:(zp3 s.heap l1 l2).objs.size=s.heap.objs.size+3:=by rw[Heap.size_push,n2]
 have n4:(zp4 s.heap l1 l2).objs.size=s.heap.objs.size+4:=by rw[Heap.size_push,n3]
 have p5:(zp5 s.heap l1 l2).get? (zp4 s.heap l1 l2).objs.size=some _:=Heap.get?_push_size _ rfl
 have p4:(zp5 s.heap l1 l2).get? (zp3 s.heap l1 l2).objs.size=some _:=Heap.get?_push_of_some _ (Heap.get?_push_size _ rfl)
 have p3:(zp5 s.heap l1 l2).get? (zp2 s.heap l1 l2).objs.size=some _:=Heap.get?_push_of_some _ (Heap.get?_push_of_some _ (Heap.get?_push_size _ rfl))
 have p2:(zp5 s.heap l1 l2).get? (zp1 s.heap l1).objs.size=some _:=Heap.get?_push_of_some _ (Heap.get?_push_of_some _ (Heap.get?_push_of_some _ (Heap.get?_push_size _ rfl)))
 have p1:(zp5 s.heap l1 l2).get? s.heap.objs.size=some _:=Heap.get?_push_of_some _ (Heap.get?_push_of_some _ (Heap.get?_push_of_some _ (Heap.get?_push_of_some _ (Heap.get?_push_size _ rfl))))
 show _/\_
 rw[n2,n3,n4] at p5
 rw[n1,n2] at p3
 rw[n3] at p4
 rw[n1] at p2
 rw[n4]
 refine⟨⟨_,p5,rfl⟩,h _ ⟨p5,p3,⟨_,_,p4⟩,⟨_,p1,rfl,rfl⟩,⟨_,p2,rfl,rfl⟩⟩ fun c o x=>?_⟩
 exact Heap.get?_push_of_some _ (Heap.get?_push_of_some _ (Heap.get?_push_of_some _ (Heap.get?_push_of_some _ (Heap.get?_push_of_some _ x))))
end
/-! ### a zip walked -/
def Itz (l1 l2:Addr):It :=
 ⟨fun i H=>∃ xs ys x y,H l1=some (.tup xs)/\H l2=some (.tup ys)/\xs[i]?=some x/\ys[i]?=some y,
  fun i H v H'=>∃ p xs ys x y,H p=none/\v = .ref p/\H l1=some (.tup xs)/\H l2=some (.tup ys)/\xs[i]?=some x/\ys[i]?=some y/\H'=upd H p (.tup [x,y]),
  fun i H=>∃ xs ys,H l1=some (.tup xs)/\H l2=some (.tup ys)/\xs.length<=i⟩
theorem turn_zip {P:Program} {w:World} {K:PySem.W.Frag} {es:List Expr} {k0:Nat} {tp:Pos} {l1 l2 z TI TO i1 i2:Addr} (D:ZApart z TI TO i1 i2) :
   Turn P w K (.Tuple es k0 tp) (Itz l1 l2) [z,TI,TO,i1,i2] z (fun i h=>ZAt h z TI TO i1 i2 l1 l2 .none i) where
 mem:=by simp
 obj:=fun i h Z b hb=>by
   obtain ⟨hz,hTI,⟨a,c,hTO⟩,⟨o1,e1,c1,d1⟩,⟨o2,e2,c2,d2⟩⟩:=Z
   simp only[List.mem_cons,List.not_mem_nil,or_false] at hb
   rcases hb with rfl | rfl | rfl | rfl | rfl
   . exact⟨_,hz,fun v q=>by cases (show Data.fields _=Data.cell v from q)⟩
   . exact⟨_,hTI,fun v q=>by cases (show Data.seq _ _=Data.cell v from q)⟩
   . exact⟨_,hTO,fun v q=>by cases (show Data.seq _ _=Data.cell v from q)⟩
   . exact⟨o1,e1,fun v q=>by rw[d1] at q; cases q⟩
   . exact⟨o2,e2,fun v q=>by rw[d2] at q; cases q⟩
 keep:=fun i h h' Z k=>by
   obtain ⟨hz,hTI,⟨a,c,hTO⟩,⟨o1,e1,r1⟩,⟨o2,e2,r2⟩⟩:=Z
   exact⟨k z (by simp) _ hz,k TI (by simp) _ hTI,⟨a,c,k TO (by simp) _ hTO⟩,⟨o1,k i1 (by simp) _ e1,r1⟩,⟨o2,k i2 (by simp) _ e2,r2⟩⟩
 item:=by
   intro X hP hw hK hc i pins s σ H E I hf Z hg
   subst hP hw hK
   obtain ⟨xs,ys,x,y,hx,hy,ex,ey⟩:=hg
   obtain ⟨_,vx,rx,tx⟩:=I.hok l1 _ hx
   obtain ⟨_,vy,ry,ty⟩:=I.hok l2 _ hy
   obtain ⟨u,hu,ru⟩:=rx.get ex
   obtain ⟨v,hv,rv⟩:=ry.get ey
   have hfree:∀ b∈[z,TI,TO,i1,i2],H b=none:=fun b hb=>(hf b hb).1
   have L:∀ l,l=l1\/l=l2->l≠z/\l≠TO/\l≠i1/\l≠i2:=fun l hl=>by
     have hs:∃ o,H l=some o:=by
       rcases hl with e | e
       . exact⟨_,by rw[e]; exact hx⟩
       . exact⟨_,by rw[e]; exact hy⟩
     obtain ⟨o,ho⟩:=hs
     exact⟨ne_of_none ho (hfree z (by simp)),ne_of_none ho (hfree TO (by simp)),ne_of_none ho (hfree i1 (by simp)),ne_of_none ho (hfree i2 (by simp))⟩
   refine zip_item D L Z (show s.heap.IsTuple l1 vx.toArray from tx.isTup) (show s.heap.IsTuple l2 vy.toArray from ty.isTup) (x:=u) (y:=v) (by simpa using hu) (by simpa using hv) fun h' Z' hp kk=>?_
   refine⟨_,rfl,wpAny_letOwnedTupleGo_zip Z'.hz fun h2 hz2 sb=>?_⟩
   have kk2:∀ c o,c ∉ [z,TO,i1,i2]->s.heap.get? c=some o->h2.get? c=some o:=fun c o hc e=>sb.extBut _ _ (fun q=>hc (by simp[q])) (kk c o (fun q=>hc (by simp[q])) (fun q=>hc (by simp[q])) (fun q=>hc (by simp[q])) (fun q=>hc (by simp[q])) e)
   have nb:∀ c o,H c=some o->c ∉ [z,TO,i1,i2]:=fun c o e hm=>by
     have:H c=none:=hfree c (by simp only[List.mem_cons,List.not_mem_nil,or_false] at hm ⊢; rcases hm with q | q | q | q <;> simp[q])
     rw[this] at e; cases e
   have zlt:z < s.heap.objs.size:=Heap.lt_size Z.hz
   have hp2:IsPair h2 s.heap.objs.size u v:=sb.extBut _ _ (Nat.ne_of_gt zlt) hp
   have fr:H s.heap.objs.size=none:=I.fresh
   have I2:Inv X pins σ (upd H s.heap.objs.size (.tup [x,y])) { s with heap:=h2 }:=by
     refine I.step (g':=s.gens) (d':=s.drawn) (t':=s.toks) (ch:=[z,TO,i1,i2]) (fun b hb=>?_) (fun b o _ _ hc e _=>kk2 b o hc e) (fun b o _ _ hc e _=>⟨o.slots,kk2 b o hc e⟩)
       (fun b o _ e n=>by rw[upd_ne (Nat.ne_of_lt (Heap.lt_size e))]; exact n)
       (fun b o hc e=>⟨o,kk2 b o hc e⟩) (fun b zs e=>by rw[upd_ne (ne_of_none e fr)]; exact e) (fun b o zs e=>by rw[upd_ne (ne_of_none e fr)]; exact e) (fun b ps e=>⟨#[],by rw[upd_ne (ne_of_none e fr),e]; simp⟩) (fun m hm=>?_) (fun b o e=>?_) I.bare
     . obtain ⟨f0,f1,f2,f3,f4,f5⟩:=hf b (by simp only[List.mem_cons,List.not_mem_nil,or_false] at hb ⊢; rcases hb with q | q | q | q <;> simp[q])
       exact⟨f3,f1,f4,f5⟩
     . obtain ⟨o,es',ep,ho,r⟩:=hm
       refine⟨o,es',ep,kk2 _ o (fun hm=>?_) ho,r⟩
       exact (hf X.env.locals (by simp only[List.mem_cons,List.not_mem_nil,or_false] at hm ⊢; rcases hm with q | q | q | q <;> simp[q])).2.1 rfl
     . by_cases hb:b=s.heap.objs.size
       . subst hb
         rw[upd_same] at e
         cases e
         exact⟨(by show 2<=sizeLine; decide),[u,v],.cons ru (.cons rv .nil),⟨_,hp2,rfl,rfl,_,rfl⟩⟩
       . rw[upd_ne hb] at e
         refine (I.hok b o e).stay (fun c v hc q=>kk2 c v ?_ q) (fun c q=>by rw[upd_ne (ne_of_none q fr)]; exact q) fun c zs q=>by rw[upd_ne (ne_of_none q fr)]; exact q
         rcases hc with rfl | hc
         . exact nb _ _ e
         . exact nb _ _ hc
   exact⟨.ref s.heap.objs.size,_,I2,rfl,⟨_,xs,ys,x,y,fr,rfl,hx,hy,ex,ey,rfl⟩,⟨hz2,sb.extBut _ _ D.TIz Z'.hTI,(let ⟨a,c,q⟩:=Z'.hTO; ⟨a,c,sb.extBut _ _ D.TOz q⟩),Z'.h1.extBut sb.extBut D.i1z,Z'.h2.extBut sb.extBut D.i2z⟩,fun b hb=>by
     rw[upd_ne]
     . exact hfree b hb
     . obtain ⟨o,e,_⟩:∃ o,s.heap.get? b=some o/\True:=by
         simp only[List.mem_cons,List.not_mem_nil,or_false] at hb
         obtain ⟨hz,hTI,⟨a,c,hTO⟩,⟨o1,e1,_⟩,⟨o2,e2,_⟩⟩:=Z
         rcases hb with rfl | rfl | rfl | rfl | rfl
         . exact⟨_,hz,trivial⟩
         . exact⟨_,hTI,trivial⟩
         . exact⟨_,hTO,trivial⟩
         . exact⟨_,e1,trivial⟩
         . exact⟨_,e2,trivial⟩
       exact Nat.ne_of_lt (Heap.lt_size e)⟩
 done:=by
   intro X hP hw hK hc i pins s σ H E I hf Z hg
   subst hP hw hK
   obtain ⟨xs,ys,hx,hy,hle⟩:=hg
   obtain ⟨_,vx,rx,tx⟩:=I.hok l1 _ hx
   have hln:=rx.length
   have hfree:∀ b∈[z,TI,TO,i1,i2],H b=none:=fun b hb=>(hf b hb).1
   refine zip_end (I.ok.hd hc) D (ne_of_none hx (hfree z (by simp))) Z (show s.heap.IsTuple l1 vx.toArray from tx.isTup) (by simp; omega) fun h' kk=>⟨rfl,?_⟩
   have kk2:∀ c o,c ∉ [z,TO,i1,i2]->s.heap.get? c=some o->h'.get? c=some o:=fun c o hc e=>kk c o (fun q=>hc (by simp[q])) (fun q=>hc (by simp[q])) (fun q=>hc (by simp[q])) (fun q=>hc (by simp[q])) e
   have nb:∀ c o,H c=some o->c ∉ [z,TO,i1,i2]:=fun c o e hm=>by
     have:H c=none:=hfree c (by simp only[List.mem_cons,List.not_mem_nil,or_false] at hm ⊢; rcases hm with q | q | q | q <;> simp[q])
     rw[this] at e; cases e
   refine I.step (g':=s.gens) (d':=s.drawn) (t':=s.toks) (ch:=[z,TO,i1,i2]) (fun b hb=>?_) (fun b o _ _ hc e _=>kk2 b o hc e) (fun b o _ _ hc e _=>⟨o.slots,kk2 b o hc e⟩) (fun _ _ _ _ n=>n)
     (fun b o hc e=>⟨o,kk2 b o hc e⟩) (fun _ _ e=>e) (fun _ _ _ e=>e) (fun b ps e=>⟨#[],by rw[e]; simp⟩) (fun m hm=>?_) (fun b o e=>?_) I.bare
   . obtain ⟨f0,f1,f2,f3,f4,f5⟩:=hf b (by simp only[List.mem_cons,List.not_mem_nil,or_false] at hb ⊢; rcases hb with q | q | q | q <;> simp[q])
     exact⟨f3,f1,f4,f5⟩
   . obtain ⟨o,es',ep,ho,r⟩:=hm
     refine⟨o,es',ep,kk2 _ o (fun hm=>?_) ho,r⟩
     exact (hf X.env.locals (by simp only[List.mem_cons,List.not_mem_nil,or_false] at hm ⊢; rcases hm with q | q | q | q <;> simp[q])).2.1 rfl
   . refine (I.hok b o e).stay (fun c v hc q=>kk2 c v ?_ q) (fun _ q=>q) fun _ _ q=>q
     rcases hc with rfl | hc
     . exact nb _ _ e
     . exact nb _ _ hc
 self:=fun _ _ _ _ _ Z h=>wpAny_pyIter_zip Z.hz h
section
variable {X:Cx} {es:List Expr} {k0:Nat} {tp:Pos}
def iZip (ta:TA):TI:=fun σ H R=>ta σ H fun vs H1=>∃ l1 l2 xs ys,vs=[.ref l1,.ref l2]/\H1 l1=some (.tup xs)/\H1 l2=some (.tup ys)/\R (Itz l1 l2) H1
theorem pi_zip {a b:Expr} {ta:TA} {p pos:Pos} (hg:Gl X "zip") (hm:X.mg "zip" = none) (ha:PA X [a,b] ta) (hs:starEach [a,b] X.env=[(false,eval a X.env),(false,eval b X.env)]:=by rfl) (hs2:starEach [b] X.env=[(false,eval b X.env)]:=by rfl) :
   PI X (.Tuple es k0 tp) (.Call (.Name "zip" p) [a,b] [] pos) (iZip ta):=by
 intro pins s σ H R I h
 refine Call_ (ld_blt I hg hm boot_zip (PyProof.Rows.callWith_type1 (thn (ha pos pins s σ H _ I h) fun us s1 ⟨vs,H1,I1,r1,q1⟩=>?_) (by rw[hs,hs2]) (by rw[hs2]; rfl)))
 obtain ⟨l1,l2,xs,ys,e,hx,hy,q⟩:=q1
 subst e
 obtain ⟨u1,u2,rfl,r1',r2'⟩:=vals2 r1
 cases r1'
 cases r2'
 obtain ⟨_,vx,rx,tx⟩:=I1.hok l1 _ hx
 obtain ⟨_,vy,ry,ty⟩:=I1.hok l2 _ hy
 refine zip_call (show s1.heap.IsTuple l1 vx.toArray from tx.isTup) (show s1.heap.IsTuple l2 vy.toArray from ty.isTup) fun h' Z kk=>?_
 refine wpAny_pyIter_zip Z.hz ?_
 have I2:Inv X pins σ H1 { s1 with heap:=h' }:=I1.kept (t':=s1.toks) kk
 have ne:∀ i j:Nat,i≠j->s1.heap.objs.size+i≠s1.heap.objs.size+j:=fun i j hij=>by omega
 refine⟨_,_,_,_,H1,rfl,I2,turn_zip (es:=es) (k0:=k0) (tp:=tp) (TI:=s1.heap.objs.size+2) (TO:=s1.heap.objs.size+3) (i1:=s1.heap.objs.size) (i2:=s1.heap.objs.size+1) ⟨ne 2 4 (by decide),ne 3 4 (by decide),ne 0 4 (by decide),ne 1 4 (by decide),ne 2 3 (by decide),ne 2 0 (by decide),ne 2 1 (by decide),ne 3 0 (by decide),ne 3 1 (by decide),ne 0 1 (by decide)⟩,Z,fun b hb=>?_,q⟩
 have hge:s1.heap.objs.size<=b:=by
   simp only[List.mem_cons,List.not_mem_nil,or_false] at hb
   rcases hb with rfl | rfl | rfl | rfl | rfl <;> first | exact Nat.le_add_right _ _ | exact Nat.le_refl _
 exact I1.fpOk hge (I1.hok.fresh hge)
/-! ### sum -/
theorem call_sum (hc:X.calm=true):CallR X (.builtin "sum") (fun xs H Q=>∃ l ns,xs=[.ref l]/\SqL X.K H l (ns.map V.int)/\PySem.SumFits ns/\Q (.int ns.sum) H):=by
 intro pins s σ H xs us Q I r h
 obtain ⟨l,ns,rfl,hS,hfit,q⟩:=h
 obtain ⟨u,rfl,ru⟩:=vals1 r
 cases ru
 obtain ⟨its,rv,p,hz⟩:=I.list hS
 obtain ⟨ps,e1,e2⟩:=pairs_of_ints (intsAre_of rv)
 have ei:its.toArray=intItems ps.toArray:=by
   unfold intItems
   rw[e1]
   simp
 have hl:=p.isList
 rw[ei] at hl
 have num:∀ j,numAt ps.toArray j=ns.getD j 0:=fun j=>by
   unfold numAt
   rw[<-e2]
   simp[List.getD_eq_getElem?_getD,List.getElem?_map]
 have pre:∀ j,j<=ns.length->preSum (numAt ps.toArray) j=(ns.take j).sum:=by
   intro j
   induction j with
   | zero=>intro _; rfl
   | succ j ih =>
     intro hj
     show preSum (numAt ps.toArray) j+numAt ps.toArray j=_
     rw[ih (by omega),num,List.take_succ,List.sum_append]
     have:ns[j]?=some (ns[j]'(by omega)):=by simp
     rw[List.getD_eq_getElem?_getD,this]
     simp
 have hlen:ps.toArray.size=ns.length:=by rw[<-e2]; simp
 refine sum_intList (I.ok.hd hc) hl (fun j hj=>?_) fun h' tk t' kk=>?_
 . have hj':j < ns.length:=by omega
   obtain ⟨f1,f2⟩:=hfit j hj'
   rw[num,pre (j+1) (by omega)]
   exact⟨f1,f2⟩
 . rw[hlen,pre ns.length (Nat.le_refl _),List.take_length]
   exact⟨.int ns.sum,H,I.kept kk,⟨_,rfl⟩,q⟩
theorem pg_tupK {es:List Expr} {k:Nat} {t:TGs} {n:Nat} {pos:Pos} (K:PySem.W.Frag) (hK:X.K=K) (hc:X.calm=true) (h:PGs X es t)
 (hn:(assignEach es X.env).length=n:=by rfl) (hst:(assignEach es X.env).findIdx? (·.1)=none:=by rfl):PG X (.Tuple es k pos) (gTup K n t):=hK ▸ pg_tup hc h hn hst
end
theorem comp_zip {K:PySem.W.Frag} {H1:Hp} {l1 l2 D:Addr} {xs ys:List V} {f:V->V->V} {rest:St} {telt:TE} {Q:Hp->Prop} (hx:H1 l1=some (.tup xs)) (hy:H1 l2=some (.tup ys)) (hl:xs.length=ys.length) (hD:H1 D=none) (hn:xs.length<=sizeLine)
   (el:∀ (i:Nat) x y H' R,xs[i]?=some x->ys[i]?=some y->Same H1 H'->R (f x y) H'->telt (some x::some y::rest) H' R) (q:∀ H',Same H1 H'->H' D=some (.lst (List.zipWith f xs ys))->Q H') :
   ∃ W:Nat->Nat->St->Hp->Prop,(∃ m,W 0 m (none::none::rest) (upd H1 D (.lst []))) ∧
     ∀ i m σ' H',W i m σ' H'->((Itz l1 l2).stop i H'/\Q H')\/((Itz l1 l2).go i H'/\∃ N:St->Hp->Prop,(∀ σ2 H2,N σ2 H2->∃ m',m' < m/\W (i+1) m' σ2 H2) ∧
       ∀ v H2,(Itz l1 l2).yld i H' v H2->gTup K 2 (gCons (gName 0) (gCons (gName 1) gNil)) v σ' H2 fun σ3 H3=>tTrue σ3 H3 fun b H4=>if b=true then tEmit D telt N σ3 H4 else N σ3 H4):=by
 have hz:(List.zipWith f xs ys).length=xs.length:=by rw[List.length_zipWith,hl,Nat.min_self]
 refine⟨fun i m σ' H'=>m=xs.length - i/\i<=xs.length/\(∃ a b,σ'=a::b::rest)/\Same H1 H'/\H' D=some (.lst ((List.zipWith f xs ys).take i)),⟨xs.length,by simp,Nat.zero_le _,⟨_,_,rfl⟩,Same.upd hD,by rw[upd_same]; rfl⟩,?_⟩
 rintro i m σ' H' ⟨rfl,hi,⟨a,b,rfl⟩,s,hd⟩
 by_cases hlt:i < xs.length
 . have ex:xs[i]?=some xs[i]:=by simp[hlt]
   have ey:ys[i]?=some (ys[i]'(by omega)):=by simp
   refine .inr ⟨⟨xs,ys,_,_,s _ _ hx,s _ _ hy,ex,ey⟩,fun σ2 H2=>(∃ a b,σ2=a::b::rest)/\Same H1 H2/\H2 D=some (.lst ((List.zipWith f xs ys).take (i+1))),fun σ2 H2 h=>⟨xs.length - (i+1),by omega,rfl,hlt,h.1,h.2.1,h.2.2⟩,?_⟩
   rintro v H2 ⟨p,xs',ys',x',y',fp,rfl,hx',hy',ex',ey',rfl⟩
   have e1:xs'=xs:=by have:=(s _ _ hx).symm.trans hx'; cases this; rfl
   have e2:ys'=ys:=by have:=(s _ _ hy).symm.trans hy'; cases this; rfl
   subst e1 e2
   have nDp:D≠p:=fun z=>by rw[z,fp] at hd; cases hd
   refine⟨p,_,rfl,SqT.of upd_same,rfl,_,_,rfl,_,_,rfl,rfl,?_⟩
   dsimp only[tTrue]
   refine iteT ?_
   show tEmit D telt _ (some x'::some y'::rest) _
   refine el i x' y' _ _ ex' ey' (s.updT fp) ⟨_,by rw[upd_ne nDp]; exact hd,?_,⟨_,_,rfl⟩,(s.updT fp).put hD,?_⟩
   . rw[List.length_take]; omega
   . rw[upd_same,List.take_succ,List.getElem?_zipWith,ex',ey']
     rfl
 . have e:i=xs.length:=by omega
   subst e
   refine .inl ⟨⟨xs,ys,s _ _ hx,s _ _ hy,Nat.le_refl _⟩,q H' s ?_⟩
   rw[hd,<-hz,List.take_length]
end L2
/-! EXCEPTIONS,1: an own exception class (under ValueError,or under an own class under it) is called; its __init__ stores attributes -/
namespace L2
open PySem PySem.Spec PyProof.Rows
section
variable {prog:Program} {w:World} {A:Around} {E:Value->Shared->Prop} {R:Result->Shared->Prop} {h:Heap} {g:Array GenState} {d:Drawn} {t:Nat} {os:OsState}
variable {nm q:Str} {C N:Addr} {bs bm:List Value} {hdct:Bool} {sn:List Str} {sub:List Value} {ab:Bool} {col:Option Bool} {dd:Option Addr} {k0 k1 k2 k3 k5:Option Value}
end
end L2
/-! EXCEPTIONS,2: an attribute stored on an exception -/
namespace L2
open PySem PySem.Spec PyProof.Rows
open PySem.Builtin PySem.Builtin.ObjectAttr
section
variable {prog:Program} {w:World} {A:Around} {E:Value->Shared->Prop} {h:Heap} {g:Array GenState} {d:Drawn} {t:Nat} {os:OsState}
variable {nm q:Str} {C N x:Addr} {bs bm:List Value} {sn:List Str} {sub:List Value} {ab:Bool} {col:Option Bool} {dd:Option Addr} {k0 k1 k2 k3 k5:Option Value} {newId:String} {mA:Str->Option Value} {name:Str} {v:Value} {K:PySem.W.Frag}
end
end L2
/-! EXCEPTIONS,3: the layer's rules -/
namespace L2
open PySem PySem.Spec PyProof.Rows
section
variable {X:Cx} {pins:List (Addr × Obj)} {σ:St} {H:Hp} {s:Shared} {C x:Addr} {od:Option Addr}
end
section
variable {X:Cx} {o value:Expr} {f:Str} {pos pos':Pos} {ta tv:TE}
end
/-! ### C.m(..),C a class of the text -/
section
variable {X:Cx} {CX:CXT} {k:Nat} {f C:Addr} {fd:FuncData} {ps:List Str} {sp:Sp} {dvs:List V} {ds:List Value} {E:XK} {x m:Str} {p pos apos:Pos} {e:Expr} {es:List Expr} {t:TA}
/-! ### an exception is made -/
end
end L2
/-! EXCEPTIONS,4: raised,passing frames,caught -/
namespace L2
open PySem PySem.Spec PyProof.Rows
section
variable {X:Cx} {pins:List (Addr × Obj)} {σ:St} {H H':Hp} {s s':Shared} {C x a:Addr} {od:Option Addr} {cls a0:Value}
end
section
variable {P:Program} {w:World} {K:PySem.W.Frag} {mg:Str->Option Value} {base:Heap} {N:List Str} {qual:Str} {scope:Scope} {f:Addr} {cd:Value} {A:Around} {outer:List Env} {s:Shared} {H:Hp} {E:XK}
end
end L2
/-! EXCEPTIONS,5: the statements raise and try; defs that raise -/
namespace L2
open PySem PySem.Spec PyProof.Rows
section
variable {M:Model} {A:Around} {E:Value->Shared->Prop} {env:Env}
variable {nm q:Str} {C N:Addr} {bs bm:List Value} {hdct:Bool} {sn:List Str} {sub:List Value} {ab:Bool} {col:Option Bool} {dd:Option Addr} {k0 k1 k2 k3 k5:Option Value} {newId:String}
end
section
variable {X:Cx} {CX:CXT} {k:Nat} {f C:Addr} {fd:FuncData} {ps:List Str} {sp:Sp} {dvs:List V} {ds:List Value} {E Ei:XK} {x m:Str} {p pos cpos apos:Pos} {e:Expr} {es:List Expr} {t:TA}
end
/-! ### try -/
section
variable {X:Cx} {pins pins':List (Addr × Obj)} {σ:St} {H:Hp} {s:Shared} {E:XK} {e:Value} {D:Ends} {f:Flow}
end
section
variable {X:Cx} {C:Addr} {E:XK} {x:Str} {p pos hpos:Pos} {body suite:List Stmt} {b₀:Stmt} {tb th:TS}
end
/-! ### a def (or method) of the text whose defaults are any -/
section
variable {P:Program} {w:World} {K:PySem.W.Frag} {mg:Str->Option Value} {base:Heap} {CX:CXT}
end
end L2
namespace L2
open PySem PySem.Spec PyProof.Rows
/-! ### within try: readings that name K itself -/
end L2
/-! EXCEPTIONS,6: loops in a def that raises; a list against the empty list -/
namespace L2
open PySem PySem.Spec PyProof.Rows
def rNeE (K:PySem.W.Frag):R2:=fun x y H Q=>∃ a b xs,x = .ref a/\y = .ref b/\SqL K H a xs/\SqL K H b []/\Q (.bl (!xs.isEmpty)) H
theorem op_neE {X:Cx} (hu:X.A.units < cLine):OpR X (compareOp .NotEq) (rNeE X.K):=by
 intro pins s σ H x y v u Q I rx ry h
 obtain ⟨a,b,xs,rfl,rfl,ha,hb,q⟩:=h
 cases rx
 cases ry
 obtain ⟨its,r,⟨o1,n1,g1,g2,_,g3⟩,hz⟩:=I.list ha
 obtain ⟨its2,r2,⟨o2,n2,g4,g5,_,g6⟩,hz2⟩:=I.list hb
 have ht:s.heap.IsList a its.toArray:=⟨o1,g1,g2,n1,g3⟩
 have ht2:s.heap.IsList b its2.toArray:=⟨o2,g4,g5,n2,g6⟩
 obtain rfl:its2=[]:=by cases r2; rfl
 cases xs with
 | nil =>
   obtain rfl:its=[]:=by cases r; rfl
   exact (PySem.SeqAt.RcNeAt.lists (e:=fun _=>true) ht ht2 rfl hu (fun i hi=>absurd hi (by simp))) _ _ _ _ ⟨.bl false,H,I,rfl,q⟩
 | cons x xs =>
   have hl:=r.length
   refine (PySem.SeqAt.RcNeAt.lists_lengths ht ht2 ?_ hu) _ _ _ _ ⟨.bl true,H,I,rfl,q⟩
   simp only[List.size_toArray,List.length_nil,<-hl,List.length_cons]
   simp
end L2
/-! EXCEPTIONS,7: try whose handler knows the names' values; the class named by except may be a base -/
namespace L2
open PySem PySem.Spec PyProof.Rows
section
variable {X:Cx} {pins pins':List (Addr × Obj)} {σ:St} {H:Hp} {s:Shared} {Ex:St->XK} {D:Ends} {fl:Flow}
end
section
variable {X:Cx} {CX:CXT} {k:Nat} {f C:Addr} {fd:FuncData} {ps:List Str} {sp:Sp} {dvs:List V} {ds:List Value} {Ex:St->XK} {x m:Str} {p pos apos:Pos} {e o:Expr} {es:List Expr} {ta:TE} {t:TA}
end
section
variable {X:Cx} {D:Addr} {Ex:St->XK} {x:Str} {p pos hpos:Pos} {body suite:List Stmt} {b₀:Stmt} {tb th:TS}
end
end L2
/-! EXCEPTIONS,8: except D as n -/
namespace L2
open PySem PySem.Spec PyProof.Rows
section
variable {X:Cx} {pins:List (Addr × Obj)} {σ:St} {H:Hp} {s:Shared}
end
section
variable {X:Cx} {D:Addr} {Ex:St->XK} {x n:Str} {i:Nat} {p pos hpos:Pos} {body suite:List Stmt} {b₀:Stmt} {tb th:TS}
end
end L2
namespace L2
open PySem PySem.Spec PyProof.Rows
end L2
namespace L2
open PySem PySem.Spec PyProof.Rows
section
variable {X:Cx}
def rCatU:R2:=fun x y H Q=>∃ a b xs ys,x = .ref a/\y = .ref b/\H a=some (.tup xs)/\H b=some (.tup ys)/\xs.length+ys.length<=sizeLine/\∀ p H',Same H H'->H' p=some (.tup (xs++ys))->Q (.ref p) H'
theorem op_catU:OpR X (binaryOp .Add) rCatU:=by
 intro pins s σ H x y v u Q I rx ry h
 obtain ⟨a,b,xs,ys,rfl,rfl,ha,hb,hz,q⟩:=h
 by_cases hx:xs=[]
 . subst hx
   cases rx
   cases ry
   obtain ⟨its,r1,p1,_⟩:=I.tuple (SqT.of ha)
   obtain ⟨its2,r2,p2,_⟩:=I.tuple (SqT.of hb)
   have e0:its=[]:=r1.nil_iff.mpr rfl
   subst e0
   obtain ⟨⟨cls,dd,data,sl⟩,ho,hc,n,hd⟩:=id p1
   obtain ⟨⟨cls2,dd2,data2,sl2⟩,ho2,hc2,n2,hd2⟩:=id p2
   simp only at hc hd hc2 hd2
   subst hc hd hc2 hd2
   exact concat_meets ⟨_,ho,rfl⟩ ⟨_,ho2,rfl⟩ noFill_tuple_add seq_tuple_add PySem.F.slot_tuple_add PySem.F.entry_tuple_add (PySem.F.args_tuple_add_2 _ _)
     (tuple_addW0 _ _ _ _ _ _ _ _ _ _ (by simp)) ⟨ho,ho2,.ref b,H,I,rfl,q b H (Same.refl _) hb⟩
 . refine op_catT pins s σ H _ _ v u Q I rx ry ⟨a,b,xs,ys,rfl,rfl,SqT.of ha,SqT.of hb,hx,hz,fun e=>?_,fun _ p hp=>q p _ (Same.upd hp) upd_same⟩
   subst e
   exact q a H (Same.refl _) (by rw[List.append_nil]; exact ha)
end
end L2
namespace L2
open PySem PySem.Spec PyProof.Rows
theorem comp_inv {J:It} {H1:Hp} {D:Addr} {n:Nat} {x:Nat->V} {j:Nat} {σc:St} {tif:TT} {telt:TE} {Q:Hp->Prop} (Iv:Nat->Hp->Prop) (h0:Iv 0 (upd H1 D (.lst [])))
   (go:∀ i H',i < n->Iv i H'->J.go i H') (st:∀ H',Iv n H'->J.stop n H') (yl:∀ i v H' H2,i < n->Iv i H'->J.yld i H' v H2->H2=H'/\v=x i)
   (step:∀ i H' (N:St->Hp->Prop),i < n->Iv i H'->(∀ H2,Iv (i+1) H2->N (σc.set j (some (x i))) H2)->tif (σc.set j (some (x i))) H' fun b H4=>if b=true then tEmit D telt N (σc.set j (some (x i))) H4 else N (σc.set j (some (x i))) H4)
   (q:∀ H',Iv n H'->Q H') :
   ∃ W:Nat->Nat->St->Hp->Prop,(∃ m,W 0 m σc (upd H1 D (.lst []))) ∧
     ∀ i m σ' H',W i m σ' H'->(J.stop i H'/\Q H')\/(J.go i H'/\∃ N:St->Hp->Prop,(∀ σ2 H2,N σ2 H2->∃ m',m' < m/\W (i+1) m' σ2 H2) ∧
       ∀ v H2,J.yld i H' v H2->gName j v σ' H2 fun σ3 H3=>tif σ3 H3 fun b H4=>if b=true then tEmit D telt N σ3 H4 else N σ3 H4):=by
 refine⟨fun i m σ' H'=>m=n - i/\i<=n/\(∀ v,σ'.set j (some v)=σc.set j (some v))/\Iv i H',⟨n,by simp,Nat.zero_le _,fun _=>rfl,h0⟩,?_⟩
 rintro i m σ' H' ⟨rfl,hi,hσ,iv⟩
 by_cases hlt:i < n
 . refine .inr ⟨go i _ hlt iv,fun σ2 H2=>(∀ v,σ2.set j (some v)=σc.set j (some v))/\Iv (i+1) H2,fun σ2 H2 ⟨h1,h2⟩=>⟨n - (i+1),by omega,rfl,hlt,h1,h2⟩,fun v H2 y=>?_⟩
   obtain ⟨rfl,rfl⟩:=yl i v _ H2 hlt iv y
   dsimp only[gName]
   rw[hσ]
   exact step i _ _ hlt iv fun H2 h2=>⟨fun v=>by simp,h2⟩
 . have e:i=n:=by omega
   subst e
   exact .inl ⟨st _ iv,q _ iv⟩
theorem comp_rangeI {H1:Hp} {D:Addr} {lo:Int} {n:Nat} {j:Nat} {σc:St} {tif:TT} {telt:TE} {Q:Hp->Prop} (Iv:Nat->Hp->Prop) (h0:Iv 0 (upd H1 D (.lst [])))
   (step:∀ i H' (N:St->Hp->Prop),i < n->Iv i H'->(∀ H2,Iv (i+1) H2->N (σc.set j (some (.int (lo+i)))) H2)->tif (σc.set j (some (.int (lo+i)))) H' fun b H4=>if b=true then tEmit D telt N (σc.set j (some (.int (lo+i)))) H4 else N (σc.set j (some (.int (lo+i)))) H4)
   (q:∀ H',Iv n H'->Q H') :
   ∃ W:Nat->Nat->St->Hp->Prop,(∃ m,W 0 m σc (upd H1 D (.lst []))) ∧
     ∀ i m σ' H',W i m σ' H'->((Itr lo n).stop i H'/\Q H')\/((Itr lo n).go i H'/\∃ N:St->Hp->Prop,(∀ σ2 H2,N σ2 H2->∃ m',m' < m/\W (i+1) m' σ2 H2) ∧
       ∀ v H2,(Itr lo n).yld i H' v H2->gName j v σ' H2 fun σ3 H3=>tif σ3 H3 fun b H4=>if b=true then tEmit D telt N σ3 H4 else N σ3 H4) :=
 comp_inv (J:=Itr lo n) (x:=fun i=>.int (lo+i)) Iv h0 (fun i H' hi _=>hi) (fun H' _=>Nat.le_refl _) (fun i v H' H2 hi _ y=>y) step q
end L2
/-! EXCEPTIONS WITH THEIR DICT,1: the flight -/
namespace L2
open PySem PySem.Spec PyProof.Rows
section
variable {M:Model} {A:Around} {E:Value->Shared->Prop} {s:Shared} {base:Heap} {env:Env} {outer l:List Env} {L e:Addr} {cls fl:Value} {od:Option Addr} {Q:Unit->Shared->Prop}
end
end L2
/-! EXCEPTIONS WITH THEIR DICT,2: raised,passing frames,caught -/
namespace L2
open PySem PySem.Spec PyProof.Rows
section
variable {P:Program} {w:World} {K:PySem.W.Frag} {mg:Str->Option Value} {base:Heap} {N:List Str} {qual:Str} {scope:Scope} {f:Addr} {cd:Value} {A:Around} {outer:List Env} {s:Shared} {H:Hp} {E:XK}
end
section
variable {X:Cx} {CX:CXT} {k:Nat} {f C:Addr} {fd:FuncData} {ps:List Str} {sp:Sp} {dvs:List V} {ds:List Value} {E Ei:XK} {x m:Str} {p pos cpos apos:Pos} {e:Expr} {es:List Expr} {t:TA}
end
/-! ### try .. except D as n -/
section
variable {X:Cx} {pins pins':List (Addr × Obj)} {σ:St} {H:Hp} {s:Shared} {Ex:St->XK} {D:Ends} {fl:Flow}
end
section
variable {X:Cx} {D:Addr} {Ex:St->XK} {x n:Str} {i:Nat} {p pos hpos:Pos} {body suite:List Stmt} {b₀:Stmt} {tb th:TS}
end
end L2
/-! EXCEPTIONS WITH THEIR DICT,3: a landed exception's fields,isinstance of it -/
namespace L2
open PySem PySem.Spec PyProof.Rows
/-! ### an exception is asked: its __getattribute__ is BaseException's -/
section
variable {X:Cx} {pins:List (Addr × Obj)} {σ:St} {H:Hp} {s:Shared}
end
/-! ### readings that name K itself -/
end L2
/-! TEXTS over the layer: methods,slices,walks,int of a text,all of bools -/
namespace L2
open PySem PySem.Spec PyProof.Rows
section
variable {X:Cx}
/-! ### x[lo:hi] of a text -/
/-! ### int(text) -/
/-! ### all of bools -/
/-! ### a text walked -/
/-! ### for x,y in zip(..) -/
/-! ### a list == [] -/
def rEqE (K:PySem.W.Frag):R2:=fun x y H Q=>∃ a b xs,x = .ref a/\y = .ref b/\SqL K H a xs/\SqL K H b []/\Q (.bl xs.isEmpty) H
theorem op_eqE {X:Cx} (hu:X.A.units < cLine):OpR X (compareOp .Eq) (rEqE X.K):=by
 intro pins s σ H x y v u Q I rx ry h
 obtain ⟨a,b,xs,rfl,rfl,ha,hb,q⟩:=h
 cases rx
 cases ry
 obtain ⟨its,r,⟨o1,n1,g1,g2,_,g3⟩,hz⟩:=I.list ha
 obtain ⟨its2,r2,⟨o2,n2,g4,g5,_,g6⟩,hz2⟩:=I.list hb
 have ht:s.heap.IsList a its.toArray:=⟨o1,g1,g2,n1,g3⟩
 have ht2:s.heap.IsList b its2.toArray:=⟨o2,g4,g5,n2,g6⟩
 obtain rfl:its2=[]:=by cases r2; rfl
 cases xs with
 | nil =>
   obtain rfl:its=[]:=by cases r; rfl
   exact (PySem.SeqAt.RcAt.lists (e:=fun _=>true) ht ht2 rfl hu (fun i hi=>absurd hi (by simp))) _ _ _ _ ⟨.bl true,H,I,rfl,q⟩
 | cons x xs =>
   have hl:=r.length
   refine (PySem.SeqAt.RcAt.lists_lengths ht ht2 ?_ hu) _ _ _ _ ⟨.bl false,H,I,rfl,q⟩
   simp only[List.size_toArray,List.length_nil,<-hl,List.length_cons]
   simp
/-! ### xs.insert(i,v),0<=i<=len -/
end
end L2
/-! TEXTS: numbers,places,words -/
namespace L2
open PySem PySem.NumText
end L2
/-! COMPREHENSIONS whose block may raise,in a def that raises -/
namespace L2
open PySem PySem.Spec PyProof.Rows
section
variable {prog:Program} {w:World} {A:Around} {R:Result->Shared->Prop} {s:Shared}
end
section
variable {X:Cx} {scope:Scope} {cl:List (Str × Addr)} {C:Addr} {N':List Str} {s0:Shared} {H0:Hp} {fp:List Addr} {Ex:XK} {pins:List (Addr × Obj)} {σ:St} {H:Hp} {s:Shared}
end
section
variable {X:Cx} {scope:Scope} {N':List Str} {ix:List (Option Nat)} {tg iter elt:Expr} {ifs:List Expr} {pos:Pos} {wi:TI} {g:TG} {tif:TT} {telt:TE}
end
/-! ### the way of an exception out of a block -/
section
variable {M:Model} {A:Around} {E:Value->Shared->Prop} {s:Shared}
end
section
variable {P:Program} {w:World} {K:PySem.W.Frag} {mg:Str->Option Value} {base:Heap} {N:List Str} {qual:Str} {scope:Scope} {f:Addr} {cd:Value} {A:Around} {outer:List Env} {s:Shared} {H:Hp} {E:XK}
end
section
variable {P:Program} {w:World} {K:PySem.W.Frag} {mg:Str->Option Value} {base:Heap} {N:List Str} {qual:Str} {fsc:Scope} {f:Addr} {cd:Value} {A:Around} {outer:List Env} {ss:Shared} {HH:Hp} {E:XK}
variable {scope:Scope} {N':List Str} {ix:List (Option Nat)} {tg iter elt:Expr} {ifs:List Expr} {pos:Pos} {wi:TI} {g:TG} {tif:TT} {telt:TE}
end
end L2
namespace L2
open PySem PySem.Spec PyProof.Rows
section
variable {X:Cx} {C1 C2:Addr} {E:XK} {x1 x2:Str} {p1 p2 pos hp1 hp2:Pos} {body su1 su2:List Stmt} {b₁ b₂:Stmt} {tb th1 th2:TS}
end
end L2
/-! ### sorted() of any length: the sort's own steps,over keys that are all told apart -/
namespace Sx
open PySem PyProof.Rows
section
variable {M:Model} {A:Around} {E:Value->Shared->Prop} {s:Shared}
end
end Sx
namespace Sx
open PySem PyProof.Rows
section
variable {α:Type} {R:α->α->Prop} {T out A B A1 A2 B1 B2:List α} {z:α}
end
section
variable {α:Type} {R:α->α->Prop} {T:List α}
end
end Sx
namespace Sx
open PySem PyProof.Rows
section
variable {M:Model} {A:Around} {E:Value->Shared->Prop} {s:Shared} {κ:SortKind} {lt:Keyed->Keyed->Bool} {T T':List Keyed}
end
end Sx
namespace Sx
open PySem PyProof.Rows
section
variable {M:Model} {A:Around} {E:Value->Shared->Prop} {s:Shared} {κ:SortKind} {lt:Keyed->Keyed->Bool} {T:List Keyed}
end
end Sx
namespace Sx
open PySem PyProof.Rows
section
variable {α:Type} {R:α->α->Prop} {T:List α}
end
section
variable {M:Model} {A:Around} {E:Value->Shared->Prop} {s:Shared} {κ:SortKind} {lt:Keyed->Keyed->Bool} {T:List Keyed}
end
end Sx
namespace Sx
open PySem PyProof.Rows
section
variable {α:Type}
end
section
variable {lt:Keyed->Keyed->Bool}
end
section
variable {M:Model} {A:Around} {E:Value->Shared->Prop} {s:Shared} {κ:SortKind} {lt:Keyed->Keyed->Bool} {T:List Keyed}
end
end Sx
namespace Sx
open PySem PyProof.Rows
section
variable {M:Model} {A:Around} {E:Value->Shared->Prop} {s:Shared} {κ:SortKind} {lt:Keyed->Keyed->Bool} {T:List Keyed} {ar:Array Keyed} {pd:Array (Nat × Nat × Nat)} {g:Nat}
end
end Sx
namespace Sx
open PySem PyProof.Rows
section
variable {M:Model} {A:Around} {E:Value->Shared->Prop} {s:Shared} {κ:SortKind} {lt:Keyed->Keyed->Bool} {T:List Keyed}
end
end Sx
/-! ### a dict walked by its entries,whatever its keys are -/
namespace Sx
open PySem PySem.W PySem.Calls PyProof.Rows
section
variable {prog:Program} {w:World} {A:Around} {E:Value->Shared->Prop} {s:Shared} {d it:Addr} {es:Array DictEntry} {ep i:Nat}
end
end Sx
namespace Sx
open PySem PySem.W PySem.Calls PyProof.Rows
section
variable {prog:Program} {w:World} {A:Around} {E:Value->Shared->Prop} {s:Shared}
end
end Sx
namespace L2
open PySem PySem.Spec PyProof.Rows
/-! ### lists of pairs as tables -/
section
variable {κ:Type} [DecidableEq κ]
end
/-! ### a tracked dict,its keys ints and texts or tuples of these -/
section
variable {P:Program} {w:World} {H:Hp} {h:Heap} {a:Addr}
end
section
variable {X:Cx} {pins:List (Addr × Obj)} {σ:St} {H:Hp} {s:Shared} {a:Addr} {y v:V} {u r:Value} {o:Option V} {A:Around} {E:Value->Shared->Prop}
end
section
variable {X:Cx} {o i e value:Expr} {pos pos' tpos:Pos} {td ty tv:TE}
end
end L2
namespace L2
open PySem PySem.Spec PyProof.Rows
abbrev Tups (H:Hp) (ys:List V) (ks:List (List Int)):Prop:=Paired (fun y k=>∃ b,y = .ref b/\H b=some (.tup (k.map V.int))) ys ks
section
variable {X:Cx}
end
end L2
/-! ### sets of ints from 1 to 5: their table,told whole,so that they can be walked -/
namespace Sx
open PySem PySem.W PySem.Calls PyProof.Rows
end Sx
namespace Sx
open PySem PySem.W PySem.Calls PyProof.Rows
section
variable {prog:Program} {w:World} {A:Around} {E:Value->Shared->Prop} {s:Shared} {byT:Bool} {a:Addr} {ns:List Int} {ep:Nat}
end
end Sx
namespace Sx
open PySem PySem.W PySem.Calls PyProof.Rows
section
variable {prog:Program} {w:World} {A:Around} {E:Value->Shared->Prop} {s:Shared}
end
end Sx
namespace Sx
open PySem PySem.W PySem.Calls PyProof.Rows
section
variable {prog:Program} {w:World} {A:Around} {E:Value->Shared->Prop} {s:Shared}
end
end Sx
namespace Sx
open PySem PySem.W PySem.Calls PyProof.Rows
end Sx
namespace Sx
open PySem PySem.W PySem.Calls PyProof.Rows
section
variable {prog:Program} {w:World} {A:Around} {E:Value->Shared->Prop} {s:Shared} {a it:Addr} {es:Array (Int × Value)} {ep:Nat} {t:SetTable}
end
end Sx
namespace L2
open PySem PySem.Spec PyProof.Rows
section
variable {X:Cx}
end
end L2
namespace L2
open PySem
theorem Same.tups {H H':Hp} (s:Same H H') {ys:List V} {ks:List (List Int)} (h:Tups H ys ks):Tups H' ys ks:=Paired.mapP h fun y k ⟨b,e,hb⟩=>⟨b,e,s _ _ hb⟩
theorem tups_keep {H:Hp} {l:Addr} {o u:HO} (hl:H l=some o) (ho:∀ xs,o≠.tup xs) {ys:List V} {ks:List (List Int)} (h:Tups H ys ks):Tups (upd H l u) ys ks :=
 Paired.mapP h fun y k ⟨b,e,hb⟩=>⟨b,e,by rw[upd_ne (fun z=>by rw[z,hl] at hb; injection hb with hb; exact ho _ hb)]; exact hb⟩
theorem tups_snoc {H:Hp} {ys:List V} {ks:List (List Int)} (h:Tups H ys ks) {b:Addr} {k:List Int} (hb:H b=some (.tup (k.map V.int))):Tups H (ys++[.ref b]) (ks++[k]):=Paired.snoc h ⟨b,rfl,hb⟩
theorem tups_at {H:Hp}:∀ {ys:List V} {ks:List (List Int)},Tups H ys ks->∀ {i:Nat} {y:V},ys[i]?=some y->∃ b k,y = .ref b/\ks[i]?=some k/\H b=some (.tup (k.map V.int))
 | _,_,.nil,i,y,h=>by simp at h
 | _,_,.cons ⟨b,e,hb⟩ _,0,y,h=>by
   have h':some _=some y:=h
   obtain rfl:=Option.some.inj h'
   exact⟨b,_,e,rfl,hb⟩
 | _,_,.cons _ t,i+1,y,h=>by
   obtain ⟨b,k,e,hk,hb⟩:=tups_at t (i:=i) (y:=y) (by simpa using h)
   exact⟨b,k,e,by simpa using hk,hb⟩
theorem tups_len {H:Hp} {ys:List V} {ks:List (List Int)} (h:Tups H ys ks):ys.length=ks.length:=Paired.length h
end L2
namespace L2
open PySem PySem.Spec PyProof.Rows
def notStar:Expr->Bool
 | .Starred .. => false
 | _=>true
theorem starEach_plain {e:Expr} {es:List Expr} {env:Env} (h:notStar e=true):starEach (e::es) env=(false,eval e env)::starEach es env:=by
 cases e <;> first | rfl | cases h
theorem pa_consP {X:Cx} {e:Expr} {es:List Expr} {te:TE} {t:TA} (ha:PE X e te) (hr:PA X es t) (hs:notStar e=true:=by rfl):PA X (e::es) (tCons te t):=pa_cons ha hr (starEach_plain hs)
/-! ### the rules behind a wrapper,so that what is written in a display is not run while the rules are matched -/
structure WE (X:Cx) (e:Expr) (t:TE):Prop where h:PE X e t
structure WA (X:Cx) (es:List Expr) (t:TA):Prop where h:PA X es t
structure WS (X:Cx) (st:Stmt) (t:TS):Prop where h:PS X st t
structure WSs (X:Cx) (st:List Stmt) (t:TS):Prop where h:PSs X st t
section
variable {X:Cx}
theorem we_lst {es:List Expr} {t:TA} {pos:Pos} (h:WA X es t):WE X (.List es pos) (tLst t):=⟨pe_lst h.h⟩
theorem we_tup {es:List Expr} {t:TA} {pos:Pos} {x1} (h:WA X es t):WE X (.Tuple es x1 pos) (tTup t):=⟨pe_tup h.h⟩
theorem wa_nil:WA X [] tNil:=⟨pa_nil⟩
theorem wa_cons {e:Expr} {es:List Expr} {te:TE} {t:TA} (ha:WE X e te) (hr:WA X es t) (hs:notStar e=true:=by rfl):WA X (e::es) (tCons te t):=⟨pa_cons ha.h hr.h (starEach_plain hs)⟩
theorem we_ix {a b:Expr} {ta tb:TE} {pos:Pos} {r:R2} (hr:IxR X r) (ha:WE X a ta) (hb:WE X b tb) (hs:PlainIx b):WE X (.Subscript a b pos) (tOp r ta tb):=⟨pe_ix hr ha.h hb.h hs⟩
theorem ws_set {pos:Pos} {i:Nat} {x:Str} {e:Expr} {te:TE} {pos':Pos} (hN:X.N.Nodup) (hi:X.N[i]?=some x) (hx:Loc X.env.scope x) (he:WE X e te) (hs:swapsWith e (some (.Name x pos')) pos.line X.env=pure false:=by rfl) (hf:X.fn x=true\/X.env.scope.names.lookup x=some .local:=by first | exact .inl rfl | exact .inr rfl | assumption) :
 WS X (.Assign [.Name x pos'] e pos) (tAsg te (gName i)):=⟨ps_set hN hi hx he.h hs hf⟩
theorem ws_ret {e:Expr} {te:TE} {pos:Pos} (he:WE X e te):WS X (.Return (some e) pos) (tRet te):=⟨ps_ret he.h⟩
theorem ws_if {c:Expr} {a b:List Stmt} {tc:TT} {t u:TS} {pos:Pos} (hc:PT X c tc) (ha:WSs X a t) (hb:WSs X b u):WS X (.If c a b pos) (tIfS tc t u):=⟨ps_if hc ha.h hb.h⟩
theorem wss_cons {st:Stmt} {rest:List Stmt} {t u:TS} (h1:WS X st t) (h2:WSs X rest u):WSs X (st::rest) (tSeq t u):=⟨pss_cons h1.h h2.h⟩
theorem wss_one {st:Stmt} {t:TS} (h1:WS X st t):WSs X [st] t:=⟨pss_one h1.h⟩
theorem wss_nil:WSs X [] tNext:=⟨pss_nil⟩
end
/-! ### max and min of a list of ints -/
end L2
open PySem
namespace L2
/-! ### two tuples or two lists compared,their items scalars -/
section
variable {X:Cx}
end
end L2
namespace L2
open PySem PySem.Spec PyProof.Rows
/-! ### {} ,a dict for tuples as keys -/
/-! ### a tuple of ints in a list of tuples of ints -/
open Classical in
open Classical in
section
variable {X:Cx}
end
end L2
namespace L2
open PySem PySem.Spec PyProof.Rows
def exOf (e:Expr):Expr:=match e with
 | .Subscript v _ _=>v
 | _=>.Constant .none 0 ⟨0,0,0,0⟩
end L2
namespace L2
open PySem PySem.Spec PyProof.Rows
section
variable {X:Cx}
end
end L2
namespace Bt
open PySem L2
/-! ### the text by places -/
def top (i:Nat):Stmt:=PySem.Challenge.pw_beamtender_k26_plays_apart.main.body.getD i (.Pass ⟨0,0,0,0⟩)
abbrev s_Beam_init:Stmt:=inClass (top 21) 0
abbrev s_outside:Stmt:=top 22
abbrev s_check_bounds:Stmt:=top 23
abbrev s_check_hefts:Stmt:=top 24
abbrev s_check_standings:Stmt:=top 25
abbrev s_as_standing:Stmt:=top 26
abbrev s_tilt:Stmt:=top 28
abbrev s_past:Stmt:=top 29
abbrev s_keeps:Stmt:=top 30
abbrev s_in_hand:Stmt:=top 31
abbrev s_moved:Stmt:=top 33
abbrev s_turned:Stmt:=top 34
abbrev s_behind:Stmt:=top 35
abbrev s_full:Stmt:=top 36
abbrev s_check_move:Stmt:=top 37
abbrev s_check_weight:Stmt:=top 38
abbrev s_check_put:Stmt:=top 39
abbrev s_check_tilts:Stmt:=top 40
abbrev s_Play_init:Stmt:=inClass (top 43) 0
abbrev s_Play_move:Stmt:=inClass (top 43) 1
abbrev s_Play_back:Stmt:=inClass (top 43) 2
abbrev s_Play_trail:Stmt:=inClass (top 43) 3
abbrev s_w_at:Stmt:=top 45
abbrev s_w_whole:Stmt:=top 46
abbrev s_w_figs:Stmt:=top 47
abbrev s_w_shape:Stmt:=top 48
abbrev s_w_put:Stmt:=top 49
abbrev s_w_tilt:Stmt:=top 50
abbrev s_w_limit:Stmt:=top 51
abbrev s_w_hard:Stmt:=top 52
abbrev s_w_case:Stmt:=top 53
abbrev s_w_near:Stmt:=top 54
abbrev s_w_same:Stmt:=top 55
abbrev s_w_same_rows:Stmt:=top 56
abbrev s_w_beam:Stmt:=top 57
abbrev s_w_pick:Stmt:=top 58
abbrev s_w_deed:Stmt:=top 59
abbrev s_w_fits:Stmt:=top 60
abbrev s_law:Stmt:=top 61
theorem sc_Beam_init:FnScope ["self","notches","room","hefts","limit"] ["self","notches","room","hefts","limit"] (defScope s_Beam_init):=⟨rfl,rfl,rfl,by decide +kernel,rfl,by decide +kernel,by decide +kernel⟩
theorem sc_outside:FnScope ["number","low","high"] ["number","low","high"] (defScope s_outside):=⟨rfl,rfl,rfl,by decide +kernel,rfl,by decide +kernel,by decide +kernel⟩
theorem sc_check_bounds:FnScope ["notches","room","limit"] ["notches","room","limit"] (defScope s_check_bounds):=⟨rfl,rfl,rfl,by decide +kernel,rfl,by decide +kernel,by decide +kernel⟩
theorem sc_check_hefts:FnScope ["hefts","heft"] ["hefts"] (defScope s_check_hefts):=⟨rfl,rfl,rfl,by decide +kernel,rfl,by decide +kernel,by decide +kernel⟩
theorem sc_check_standings:FnScope ["notches","weights","many","weight"] ["notches","weights"] (defScope s_check_standings):=⟨rfl,rfl,rfl,by decide +kernel,rfl,by decide +kernel,by decide +kernel⟩
theorem sc_as_standing:FnScope ["beam","standing","places","place"] ["beam","standing"] (defScope s_as_standing):=⟨rfl,rfl,rfl,by decide +kernel,rfl,by decide +kernel,by decide +kernel⟩
theorem sc_tilt:FnScope ["beam","standing","places"] ["beam","standing"] (defScope s_tilt):=⟨rfl,rfl,rfl,by decide +kernel,rfl,by decide +kernel,by decide +kernel⟩
theorem cs_tilt_0:CompScope ["beam","standing","places"] (defScope s_tilt) (exScope (exArg (stE (stAt (defBody s_tilt) 1)) 0)) ["heft","place"] [none,none]:=⟨rfl,by decide +kernel,by decide +kernel,by decide +kernel,rfl,by decide +kernel,by decide +kernel⟩
theorem sc_past:FnScope ["beam","tipped"] ["beam","tipped"] (defScope s_past):=⟨rfl,rfl,rfl,by decide +kernel,rfl,by decide +kernel,by decide +kernel⟩
theorem sc_keeps:FnScope ["beam","standing"] ["beam","standing"] (defScope s_keeps):=⟨rfl,rfl,rfl,by decide +kernel,rfl,by decide +kernel,by decide +kernel⟩
theorem sc_in_hand:FnScope ["beam","standing","weight","places"] ["beam","standing","weight"] (defScope s_in_hand):=⟨rfl,rfl,rfl,by decide +kernel,rfl,by decide +kernel,by decide +kernel⟩
theorem sc_moved:FnScope ["beam","standing","move","places"] ["beam","standing","move"] (defScope s_moved):=⟨rfl,rfl,rfl,by decide +kernel,rfl,by decide +kernel,by decide +kernel⟩
theorem sc_turned:FnScope ["move"] ["move"] (defScope s_turned):=⟨rfl,rfl,rfl,by decide +kernel,rfl,by decide +kernel,by decide +kernel⟩
theorem sc_behind:FnScope ["places","move"] ["places","move"] (defScope s_behind):=⟨rfl,rfl,rfl,by decide +kernel,rfl,by decide +kernel,by decide +kernel⟩
theorem sc_full:FnScope ["beam","places","place"] ["beam","places","place"] (defScope s_full):=⟨rfl,rfl,rfl,by decide +kernel,rfl,by decide +kernel,by decide +kernel⟩
theorem sc_check_move:FnScope ["beam","places","weight","taken","put"] ["beam","places","weight","taken","put"] (defScope s_check_move):=⟨rfl,rfl,rfl,by decide +kernel,rfl,by decide +kernel,by decide +kernel⟩
theorem sc_check_weight:FnScope ["places","weight","taken"] ["places","weight","taken"] (defScope s_check_weight):=⟨rfl,rfl,rfl,by decide +kernel,rfl,by decide +kernel,by decide +kernel⟩
theorem sc_check_put:FnScope ["beam","places","taken","put"] ["beam","places","taken","put"] (defScope s_check_put):=⟨rfl,rfl,rfl,by decide +kernel,rfl,by decide +kernel,by decide +kernel⟩
theorem sc_check_tilts:FnScope ["beam","held","added"] ["beam","held","added"] (defScope s_check_tilts):=⟨rfl,rfl,rfl,by decide +kernel,rfl,by decide +kernel,by decide +kernel⟩
theorem sc_Play_init:FnScope ["self","beam","start","first"] ["self","beam","start"] (defScope s_Play_init):=⟨rfl,rfl,rfl,by decide +kernel,rfl,by decide +kernel,by decide +kernel⟩
theorem sc_Play_move:FnScope ["self","move"] ["self","move"] (defScope s_Play_move):=⟨rfl,rfl,rfl,by decide +kernel,rfl,by decide +kernel,by decide +kernel⟩
theorem sc_Play_back:FnScope ["self","last"] ["self"] (defScope s_Play_back):=⟨rfl,rfl,rfl,by decide +kernel,rfl,by decide +kernel,by decide +kernel⟩
theorem sc_Play_trail:FnScope ["self"] ["self"] (defScope s_Play_trail):=⟨rfl,rfl,rfl,by decide +kernel,rfl,by decide +kernel,by decide +kernel⟩
theorem sc_w_at:FnScope ["_law_script","_law_k"] ["_law_script","_law_k"] (defScope s_w_at):=⟨rfl,rfl,rfl,by decide +kernel,rfl,by decide +kernel,by decide +kernel⟩
theorem sc_w_whole:FnScope ["_law_found"] ["_law_found"] (defScope s_w_whole):=⟨rfl,rfl,rfl,by decide +kernel,rfl,by decide +kernel,by decide +kernel⟩
theorem sc_w_figs:FnScope ["_law_cell","_law_count","_law_base","_law_mix","_law_made","_law_rest","_law_k"] ["_law_cell","_law_count","_law_base","_law_mix"] (defScope s_w_figs):=⟨rfl,rfl,rfl,by decide +kernel,rfl,by decide +kernel,by decide +kernel⟩
theorem sc_w_shape:FnScope ["_law_script","_law_cell","_law_notches","_law_count","_law_room","_law_mode","_law_hefts"] ["_law_script"] (defScope s_w_shape):=⟨rfl,rfl,rfl,by decide +kernel,rfl,by decide +kernel,by decide +kernel⟩
theorem cs_w_shape_0:CompScope ["_law_script","_law_cell","_law_notches","_law_count","_law_room","_law_mode","_law_hefts"] (defScope s_w_shape) (exScope (stE (stAt (defBody s_w_shape) 5))) ["_law_x"] [none]:=⟨rfl,by decide +kernel,by decide +kernel,by decide +kernel,rfl,by decide +kernel,by decide +kernel⟩
theorem sc_w_put:FnScope ["_law_script","_law_k","_law_more","_law_shape_here","_law_notches","_law_room","_law_hefts","_law_mix","_law_cell","_law_made","_law_x","_law_place"] ["_law_script","_law_k","_law_more","_law_shape_here"] (defScope s_w_put):=⟨rfl,rfl,rfl,by decide +kernel,rfl,by decide +kernel,by decide +kernel⟩
theorem sc_w_tilt:FnScope ["_law_hefts","_law_spots","_law_total","_law_k"] ["_law_hefts","_law_spots"] (defScope s_w_tilt):=⟨rfl,rfl,rfl,by decide +kernel,rfl,by decide +kernel,by decide +kernel⟩
theorem sc_w_limit:FnScope ["_law_script","_law_low","_law_cell","_law_kind"] ["_law_script","_law_low"] (defScope s_w_limit):=⟨rfl,rfl,rfl,by decide +kernel,rfl,by decide +kernel,by decide +kernel⟩
theorem sc_w_hard:FnScope ["_law_cell","_law_more","_law_start"] ["_law_cell"] (defScope s_w_hard):=⟨rfl,rfl,rfl,by decide +kernel,rfl,by decide +kernel,by decide +kernel⟩
theorem sc_w_case:FnScope ["_law_script","_law_shape_here","_law_notches","_law_room","_law_hefts","_law_first","_law_last","_law_craft","_law_notch","_law_low"] ["_law_script"] (defScope s_w_case):=⟨rfl,rfl,rfl,by decide +kernel,rfl,by decide +kernel,by decide +kernel⟩
theorem sc_w_near:FnScope ["_law_scale","_law_spots","_law_notches","_law_room","_law_hefts","_law_limit_here","_law_total","_law_free","_law_made","_law_k","_law_lifted","_law_place"] ["_law_scale","_law_spots"] (defScope s_w_near):=⟨rfl,rfl,rfl,by decide +kernel,rfl,by decide +kernel,by decide +kernel⟩
theorem cs_w_near_0:CompScope ["_law_scale","_law_spots","_law_notches","_law_room","_law_hefts","_law_limit_here","_law_total","_law_free","_law_made","_law_k","_law_lifted","_law_place"] (defScope s_w_near) (exScope (stE (stAt (defBody s_w_near) 2))) ["_law_x","_law_room","_law_spots"] [none,some 3,some 1]:=⟨rfl,by decide +kernel,by decide +kernel,by decide +kernel,rfl,by decide +kernel,by decide +kernel⟩
theorem sc_w_same:FnScope ["_law_found","_law_due","_law_k"] ["_law_found","_law_due"] (defScope s_w_same):=⟨rfl,rfl,rfl,by decide +kernel,rfl,by decide +kernel,by decide +kernel⟩
theorem sc_w_same_rows:FnScope ["_law_found","_law_due","_law_k"] ["_law_found","_law_due"] (defScope s_w_same_rows):=⟨rfl,rfl,rfl,by decide +kernel,rfl,by decide +kernel,by decide +kernel⟩
theorem sc_w_beam:FnScope ["_law_scale"] ["_law_scale"] (defScope s_w_beam):=⟨rfl,rfl,rfl,by decide +kernel,rfl,by decide +kernel,by decide +kernel⟩
theorem sc_w_pick:FnScope ["_law_scale","_law_spots","_law_cell","_law_near_here","_law_behind","_law_moved_one"] ["_law_scale","_law_spots","_law_cell"] (defScope s_w_pick):=⟨rfl,rfl,rfl,by decide +kernel,rfl,by decide +kernel,by decide +kernel⟩
theorem cs_w_pick_0:CompScope ["_law_scale","_law_spots","_law_cell","_law_near_here","_law_behind","_law_moved_one"] (defScope s_w_pick) (exScope (exOf (stE (stAt (defBody s_w_pick) 3)))) ["_law_k","_law_behind","_law_spots"] [none,some 4,some 1]:=⟨rfl,by decide +kernel,by decide +kernel,by decide +kernel,rfl,by decide +kernel,by decide +kernel⟩
theorem sc_w_deed:FnScope ["_law_play","_law_scale","_law_now","_law_made","_law_cell","_law_move","_law_handed"] ["_law_play","_law_scale","_law_now","_law_made","_law_cell"] (defScope s_w_deed):=⟨rfl,rfl,rfl,by decide +kernel,rfl,by decide +kernel,by decide +kernel⟩
theorem sc_w_fits:FnScope ["_law_play","_law_scale","_law_first","_law_now","_law_made","_law_sizes","_law_found"] ["_law_play","_law_scale","_law_first","_law_now","_law_made"] (defScope s_w_fits):=⟨rfl,rfl,rfl,by decide +kernel,rfl,by decide +kernel,by decide +kernel⟩
theorem sc_law:FnScope ["_law_script","_law_scale","_law_first","_law_last","_law_handed","_law_beam_here","_law_plays","_law_now","_law_made","_law_cell","_law_one","_law_k"] ["_law_script"] (defScope s_law):=⟨rfl,rfl,rfl,by decide +kernel,rfl,by decide +kernel,by decide +kernel⟩
/-! ### what the top has written -/
set_option genInjectivity false in
set_option genSizeOf false in
structure Adr where
 a_Beam_init:Addr
 d_Beam_init:FuncData
 a_outside:Addr
 d_outside:FuncData
 a_check_bounds:Addr
 d_check_bounds:FuncData
 a_check_hefts:Addr
 d_check_hefts:FuncData
 a_check_standings:Addr
 d_check_standings:FuncData
 a_as_standing:Addr
 d_as_standing:FuncData
 a_tilt:Addr
 d_tilt:FuncData
 a_past:Addr
 d_past:FuncData
 a_keeps:Addr
 d_keeps:FuncData
 a_in_hand:Addr
 d_in_hand:FuncData
 a_moved:Addr
 d_moved:FuncData
 a_turned:Addr
 d_turned:FuncData
 a_behind:Addr
 d_behind:FuncData
 a_full:Addr
 d_full:FuncData
 a_check_move:Addr
 d_check_move:FuncData
 a_check_weight:Addr
 d_check_weight:FuncData
 a_check_put:Addr
 d_check_put:FuncData
 a_check_tilts:Addr
 d_check_tilts:FuncData
 a_Play_init:Addr
 d_Play_init:FuncData
 a_Play_move:Addr
 d_Play_move:FuncData
 a_Play_back:Addr
 d_Play_back:FuncData
 a_Play_trail:Addr
 d_Play_trail:FuncData
 a_w_at:Addr
 d_w_at:FuncData
 a_w_whole:Addr
 d_w_whole:FuncData
 a_w_figs:Addr
 d_w_figs:FuncData
 a_w_shape:Addr
 d_w_shape:FuncData
 a_w_put:Addr
 d_w_put:FuncData
 a_w_tilt:Addr
 d_w_tilt:FuncData
 a_w_limit:Addr
 d_w_limit:FuncData
 a_w_hard:Addr
 d_w_hard:FuncData
 a_w_case:Addr
 d_w_case:FuncData
 a_w_near:Addr
 d_w_near:FuncData
 a_w_same:Addr
 d_w_same:FuncData
 a_w_same_rows:Addr
 d_w_same_rows:FuncData
 a_w_beam:Addr
 d_w_beam:FuncData
 a_w_pick:Addr
 d_w_pick:FuncData
 a_w_deed:Addr
 d_w_deed:FuncData
 a_w_fits:Addr
 d_w_fits:FuncData
 a_law:Addr
 d_law:FuncData
 c_Beam:Addr
 c_Play:Addr
 q_MOST_NOTCHES:Tok
 q_MOST_ROOM:Tok
 q_MOST_LIMIT:Tok
 q_MOST_WEIGHTS:Tok
 q_MOST_HEFT:Tok
 q_MOST_STANDINGS:Tok
 q_MOST_MOVES:Tok
structure Txt (K:PySem.W.Frag) (mg:Str->Option Value) (t:Adr):Prop where
 F_Beam_init:Fun K "__init__" "Beam.__init__" s_Beam_init t.a_Beam_init t.d_Beam_init
 b_Beam_init:Binds K t.d_Beam_init ["self","notches","room","hefts","limit"] []
 k_Beam_init:PySem.W.keepIn K (.ref t.a_Beam_init)=true
 F_outside:Fun K "outside" "outside" s_outside t.a_outside t.d_outside
 b_outside:Binds K t.d_outside ["number","low","high"] []
 m_outside:mg "outside" = some (.ref t.a_outside)
 k_outside:PySem.W.keepIn K (.ref t.a_outside)=true
 F_check_bounds:Fun K "check_bounds" "check_bounds" s_check_bounds t.a_check_bounds t.d_check_bounds
 b_check_bounds:Binds K t.d_check_bounds ["notches","room","limit"] []
 m_check_bounds:mg "check_bounds" = some (.ref t.a_check_bounds)
 k_check_bounds:PySem.W.keepIn K (.ref t.a_check_bounds)=true
 F_check_hefts:Fun K "check_hefts" "check_hefts" s_check_hefts t.a_check_hefts t.d_check_hefts
 b_check_hefts:Binds K t.d_check_hefts ["hefts"] []
 m_check_hefts:mg "check_hefts" = some (.ref t.a_check_hefts)
 k_check_hefts:PySem.W.keepIn K (.ref t.a_check_hefts)=true
 F_check_standings:Fun K "check_standings" "check_standings" s_check_standings t.a_check_standings t.d_check_standings
 b_check_standings:Binds K t.d_check_standings ["notches","weights"] []
 m_check_standings:mg "check_standings" = some (.ref t.a_check_standings)
 k_check_standings:PySem.W.keepIn K (.ref t.a_check_standings)=true
 F_as_standing:Fun K "as_standing" "as_standing" s_as_standing t.a_as_standing t.d_as_standing
 b_as_standing:Binds K t.d_as_standing ["beam","standing"] []
 m_as_standing:mg "as_standing" = some (.ref t.a_as_standing)
 k_as_standing:PySem.W.keepIn K (.ref t.a_as_standing)=true
 F_tilt:Fun K "tilt" "tilt" s_tilt t.a_tilt t.d_tilt
 b_tilt:Binds K t.d_tilt ["beam","standing"] []
 m_tilt:mg "tilt" = some (.ref t.a_tilt)
 k_tilt:PySem.W.keepIn K (.ref t.a_tilt)=true
 F_past:Fun K "past" "past" s_past t.a_past t.d_past
 b_past:Binds K t.d_past ["beam","tipped"] []
 m_past:mg "past" = some (.ref t.a_past)
 k_past:PySem.W.keepIn K (.ref t.a_past)=true
 F_keeps:Fun K "keeps" "keeps" s_keeps t.a_keeps t.d_keeps
 b_keeps:Binds K t.d_keeps ["beam","standing"] []
 m_keeps:mg "keeps" = some (.ref t.a_keeps)
 k_keeps:PySem.W.keepIn K (.ref t.a_keeps)=true
 F_in_hand:Fun K "in_hand" "in_hand" s_in_hand t.a_in_hand t.d_in_hand
 b_in_hand:Binds K t.d_in_hand ["beam","standing","weight"] []
 m_in_hand:mg "in_hand" = some (.ref t.a_in_hand)
 k_in_hand:PySem.W.keepIn K (.ref t.a_in_hand)=true
 F_moved:Fun K "moved" "moved" s_moved t.a_moved t.d_moved
 b_moved:Binds K t.d_moved ["beam","standing","move"] []
 m_moved:mg "moved" = some (.ref t.a_moved)
 k_moved:PySem.W.keepIn K (.ref t.a_moved)=true
 F_turned:Fun K "turned" "turned" s_turned t.a_turned t.d_turned
 b_turned:Binds K t.d_turned ["move"] []
 m_turned:mg "turned" = some (.ref t.a_turned)
 k_turned:PySem.W.keepIn K (.ref t.a_turned)=true
 F_behind:Fun K "behind" "behind" s_behind t.a_behind t.d_behind
 b_behind:Binds K t.d_behind ["places","move"] []
 m_behind:mg "behind" = some (.ref t.a_behind)
 k_behind:PySem.W.keepIn K (.ref t.a_behind)=true
 F_full:Fun K "full" "full" s_full t.a_full t.d_full
 b_full:Binds K t.d_full ["beam","places","place"] []
 m_full:mg "full" = some (.ref t.a_full)
 k_full:PySem.W.keepIn K (.ref t.a_full)=true
 F_check_move:Fun K "check_move" "check_move" s_check_move t.a_check_move t.d_check_move
 b_check_move:Binds K t.d_check_move ["beam","places","weight","taken","put"] []
 m_check_move:mg "check_move" = some (.ref t.a_check_move)
 k_check_move:PySem.W.keepIn K (.ref t.a_check_move)=true
 F_check_weight:Fun K "check_weight" "check_weight" s_check_weight t.a_check_weight t.d_check_weight
 b_check_weight:Binds K t.d_check_weight ["places","weight","taken"] []
 m_check_weight:mg "check_weight" = some (.ref t.a_check_weight)
 k_check_weight:PySem.W.keepIn K (.ref t.a_check_weight)=true
 F_check_put:Fun K "check_put" "check_put" s_check_put t.a_check_put t.d_check_put
 b_check_put:Binds K t.d_check_put ["beam","places","taken","put"] []
 m_check_put:mg "check_put" = some (.ref t.a_check_put)
 k_check_put:PySem.W.keepIn K (.ref t.a_check_put)=true
 F_check_tilts:Fun K "check_tilts" "check_tilts" s_check_tilts t.a_check_tilts t.d_check_tilts
 b_check_tilts:Binds K t.d_check_tilts ["beam","held","added"] []
 m_check_tilts:mg "check_tilts" = some (.ref t.a_check_tilts)
 k_check_tilts:PySem.W.keepIn K (.ref t.a_check_tilts)=true
 F_Play_init:Fun K "__init__" "Play.__init__" s_Play_init t.a_Play_init t.d_Play_init
 b_Play_init:Binds K t.d_Play_init ["self","beam","start"] []
 k_Play_init:PySem.W.keepIn K (.ref t.a_Play_init)=true
 F_Play_move:Fun K "move" "Play.move" s_Play_move t.a_Play_move t.d_Play_move
 b_Play_move:Binds K t.d_Play_move ["self","move"] []
 k_Play_move:PySem.W.keepIn K (.ref t.a_Play_move)=true
 F_Play_back:Fun K "back" "Play.back" s_Play_back t.a_Play_back t.d_Play_back
 b_Play_back:Binds K t.d_Play_back ["self"] []
 k_Play_back:PySem.W.keepIn K (.ref t.a_Play_back)=true
 F_Play_trail:Fun K "trail" "Play.trail" s_Play_trail t.a_Play_trail t.d_Play_trail
 b_Play_trail:Binds K t.d_Play_trail ["self"] []
 k_Play_trail:PySem.W.keepIn K (.ref t.a_Play_trail)=true
 F_w_at:Fun K "_law_at" "_law_at" s_w_at t.a_w_at t.d_w_at
 b_w_at:Binds K t.d_w_at ["_law_script","_law_k"] []
 m_w_at:mg "_law_at" = some (.ref t.a_w_at)
 k_w_at:PySem.W.keepIn K (.ref t.a_w_at)=true
 F_w_whole:Fun K "_law_whole" "_law_whole" s_w_whole t.a_w_whole t.d_w_whole
 b_w_whole:Binds K t.d_w_whole ["_law_found"] []
 m_w_whole:mg "_law_whole" = some (.ref t.a_w_whole)
 k_w_whole:PySem.W.keepIn K (.ref t.a_w_whole)=true
 F_w_figs:Fun K "_law_figs" "_law_figs" s_w_figs t.a_w_figs t.d_w_figs
 b_w_figs:Binds K t.d_w_figs ["_law_cell","_law_count","_law_base","_law_mix"] []
 m_w_figs:mg "_law_figs" = some (.ref t.a_w_figs)
 k_w_figs:PySem.W.keepIn K (.ref t.a_w_figs)=true
 F_w_shape:Fun K "_law_shape" "_law_shape" s_w_shape t.a_w_shape t.d_w_shape
 b_w_shape:Binds K t.d_w_shape ["_law_script"] []
 m_w_shape:mg "_law_shape" = some (.ref t.a_w_shape)
 k_w_shape:PySem.W.keepIn K (.ref t.a_w_shape)=true
 F_w_put:Fun K "_law_put" "_law_put" s_w_put t.a_w_put t.d_w_put
 b_w_put:Binds K t.d_w_put ["_law_script","_law_k","_law_more","_law_shape_here"] []
 m_w_put:mg "_law_put" = some (.ref t.a_w_put)
 k_w_put:PySem.W.keepIn K (.ref t.a_w_put)=true
 F_w_tilt:Fun K "_law_tilt" "_law_tilt" s_w_tilt t.a_w_tilt t.d_w_tilt
 b_w_tilt:Binds K t.d_w_tilt ["_law_hefts","_law_spots"] []
 m_w_tilt:mg "_law_tilt" = some (.ref t.a_w_tilt)
 k_w_tilt:PySem.W.keepIn K (.ref t.a_w_tilt)=true
 F_w_limit:Fun K "_law_limit" "_law_limit" s_w_limit t.a_w_limit t.d_w_limit
 b_w_limit:Binds K t.d_w_limit ["_law_script","_law_low"] []
 m_w_limit:mg "_law_limit" = some (.ref t.a_w_limit)
 k_w_limit:PySem.W.keepIn K (.ref t.a_w_limit)=true
 F_w_hard:Fun K "_law_hard" "_law_hard" s_w_hard t.a_w_hard t.d_w_hard
 b_w_hard:Binds K t.d_w_hard ["_law_cell"] []
 m_w_hard:mg "_law_hard" = some (.ref t.a_w_hard)
 k_w_hard:PySem.W.keepIn K (.ref t.a_w_hard)=true
 F_w_case:Fun K "_law_case" "_law_case" s_w_case t.a_w_case t.d_w_case
 b_w_case:Binds K t.d_w_case ["_law_script"] []
 m_w_case:mg "_law_case" = some (.ref t.a_w_case)
 k_w_case:PySem.W.keepIn K (.ref t.a_w_case)=true
 F_w_near:Fun K "_law_near" "_law_near" s_w_near t.a_w_near t.d_w_near
 b_w_near:Binds K t.d_w_near ["_law_scale","_law_spots"] []
 m_w_near:mg "_law_near" = some (.ref t.a_w_near)
 k_w_near:PySem.W.keepIn K (.ref t.a_w_near)=true
 F_w_same:Fun K "_law_same" "_law_same" s_w_same t.a_w_same t.d_w_same
 b_w_same:Binds K t.d_w_same ["_law_found","_law_due"] []
 m_w_same:mg "_law_same" = some (.ref t.a_w_same)
 k_w_same:PySem.W.keepIn K (.ref t.a_w_same)=true
 F_w_same_rows:Fun K "_law_same_rows" "_law_same_rows" s_w_same_rows t.a_w_same_rows t.d_w_same_rows
 b_w_same_rows:Binds K t.d_w_same_rows ["_law_found","_law_due"] []
 m_w_same_rows:mg "_law_same_rows" = some (.ref t.a_w_same_rows)
 k_w_same_rows:PySem.W.keepIn K (.ref t.a_w_same_rows)=true
 F_w_beam:Fun K "_law_beam" "_law_beam" s_w_beam t.a_w_beam t.d_w_beam
 b_w_beam:Binds K t.d_w_beam ["_law_scale"] []
 m_w_beam:mg "_law_beam" = some (.ref t.a_w_beam)
 k_w_beam:PySem.W.keepIn K (.ref t.a_w_beam)=true
 F_w_pick:Fun K "_law_pick" "_law_pick" s_w_pick t.a_w_pick t.d_w_pick
 b_w_pick:Binds K t.d_w_pick ["_law_scale","_law_spots","_law_cell"] []
 m_w_pick:mg "_law_pick" = some (.ref t.a_w_pick)
 k_w_pick:PySem.W.keepIn K (.ref t.a_w_pick)=true
 F_w_deed:Fun K "_law_deed" "_law_deed" s_w_deed t.a_w_deed t.d_w_deed
 b_w_deed:Binds K t.d_w_deed ["_law_play","_law_scale","_law_now","_law_made","_law_cell"] []
 m_w_deed:mg "_law_deed" = some (.ref t.a_w_deed)
 k_w_deed:PySem.W.keepIn K (.ref t.a_w_deed)=true
 F_w_fits:Fun K "_law_fits" "_law_fits" s_w_fits t.a_w_fits t.d_w_fits
 b_w_fits:Binds K t.d_w_fits ["_law_play","_law_scale","_law_first","_law_now","_law_made"] []
 m_w_fits:mg "_law_fits" = some (.ref t.a_w_fits)
 k_w_fits:PySem.W.keepIn K (.ref t.a_w_fits)=true
 F_law:Fun K "law" "law" s_law t.a_law t.d_law
 b_law:Binds K t.d_law ["_law_script"] []
 m_law:mg "law" = some (.ref t.a_law)
 k_law:PySem.W.keepIn K (.ref t.a_law)=true
 cl_Beam:Cls K t.c_Beam
 m_Beam:mg "Beam" = some (.ref t.c_Beam)
 mk_Beam:Mk K t.c_Beam t.a_Beam_init
 na_Beam_notches:NoAttr K t.c_Beam "notches"
 na_Beam_room:NoAttr K t.c_Beam "room"
 na_Beam_hefts:NoAttr K t.c_Beam "hefts"
 na_Beam_limit:NoAttr K t.c_Beam "limit"
 cl_Play:Cls K t.c_Play
 m_Play:mg "Play" = some (.ref t.c_Play)
 mk_Play:Mk K t.c_Play t.a_Play_init
 na_Play_beam:NoAttr K t.c_Play "beam"
 na_Play_start:NoAttr K t.c_Play "start"
 na_Play_standing:NoAttr K t.c_Play "standing"
 na_Play_made:NoAttr K t.c_Play "made"
 me_Play_move:Meth K t.c_Play "move" t.a_Play_move
 me_Play_back:Meth K t.c_Play "back" t.a_Play_back
 me_Play_trail:Meth K t.c_Play "trail" t.a_Play_trail
 n_tuple:mg "tuple" = none
 n_len:mg "len" = none
 n_range:mg "range" = none
 n_sum:mg "sum" = none
 n_zip:mg "zip" = none
 n_abs:mg "abs" = none
 n_list:mg "list" = none
 n_isinstance:mg "isinstance" = none
 n_int:mg "int" = none
 n_bool:mg "bool" = none
 n_min:mg "min" = none
 n_max:mg "max" = none
 g_MOST_NOTCHES:mg "MOST_NOTCHES" = some (.int 4 t.q_MOST_NOTCHES)
 g_MOST_ROOM:mg "MOST_ROOM" = some (.int 3 t.q_MOST_ROOM)
 g_MOST_LIMIT:mg "MOST_LIMIT" = some (.int 400 t.q_MOST_LIMIT)
 g_MOST_WEIGHTS:mg "MOST_WEIGHTS" = some (.int 5 t.q_MOST_WEIGHTS)
 g_MOST_HEFT:mg "MOST_HEFT" = some (.int 20 t.q_MOST_HEFT)
 g_MOST_STANDINGS:mg "MOST_STANDINGS" = some (.int 1000 t.q_MOST_STANDINGS)
 g_MOST_MOVES:mg "MOST_MOVES" = some (.int 300 t.q_MOST_MOVES)
end Bt
namespace Bt
open PySem L2
/-! ### mathematics -/
def figSt (cell base:Int) (mix:Bool):Nat->Int × List Int
 | 0=>(if mix=true then cell*48271 % 2147483647 else cell,[])
 | i+1 =>
   if mix=true then (((figSt cell base mix i).1+(0+(i:Int))+1)*69621 % 2147483647,(figSt cell base mix i).2++[(((figSt cell base mix i).1+(0+(i:Int))+1)*69621 % 2147483647) / 8 % base])
   else ((figSt cell base mix i).1 / base,(figSt cell base mix i).2++[(figSt cell base mix i).1 % base])
def figs (cell:Int) (n:Nat) (base:Int) (mix:Bool):List Int:=(figSt cell base mix n).2
theorem figs_len (cell base:Int) (mix:Bool) (n:Nat):(figs cell n base mix).length=n:=by
 unfold figs
 induction n with
 | zero=>rfl
 | succ n ih =>
   unfold figSt
   cases mix
   . rw[if_neg (by decide)]; simp[ih]
   . rw[if_pos rfl]; simp[ih]
theorem figs_in {cell base:Int} {mix:Bool} (hb:0 < base) (n:Nat):∀ x∈figs cell n base mix,0<=x/\x < base:=by
 unfold figs
 induction n with
 | zero=>intro x hx; cases hx
 | succ n ih =>
   unfold figSt
   have key:∀ z:Int,0<=z % base/\z % base < base:=fun z=>⟨Int.emod_nonneg _ (by omega),Int.emod_lt_of_pos _ hb⟩
   intro x hx
   cases mix
   . rw[if_neg (by decide)] at hx
     rcases List.mem_append.mp hx with h | h
     . exact ih x h
     . obtain rfl:=List.mem_singleton.mp h; exact key _
   . rw[if_pos rfl] at hx
     rcases List.mem_append.mp hx with h | h
     . exact ih x h
     . obtain rfl:=List.mem_singleton.mp h; exact key _
structure BeamOk (n r:Int) (hs:List Int) (lim:Int):Prop where
 n1:1<=n
 n2:n<=4
 r1:1<=r
 r2:r<=3
 l1:0<=lim
 l2:lim<=400
 w:hs.length<=5
 h:∀ x∈hs,1<=x/\x<=20
 most:(2*n+1) ^ hs.length<=1000
structure Valid (n r:Int) (w:Nat) (xs:List Int):Prop where
 len:xs.length=w
 on:∀ x∈xs,-n<=x/\x<=n
 room:∀ x∈xs,x≠0->(xs.count x:Int)<=r
/-! ### the shape and the standing that a script draws -/
abbrev at0 (ns:List Int) (k:Nat):Int:=ns.getD k 0
def mixOf (ns:List Int):Bool:=decide (V.int (at0 ns 0 % 2)=V.int 1)
def shN (ns:List Int):Int:=([2,3,1,4]:List Int).getD (at0 ns 1 % 4).toNat 0
def shW (ns:List Int):Int :=
 if ([3,2,4,1,5,0]:List Int).getD (at0 ns 1 / 4 % 6).toNat 0 < ([5,4,3,3]:List Int).getD (shN ns - 1).toNat 0 then ([3,2,4,1,5,0]:List Int).getD (at0 ns 1 / 4 % 6).toNat 0 else ([5,4,3,3]:List Int).getD (shN ns - 1).toNat 0
def shR (ns:List Int):Int:=1+at0 ns 1 / 24 % 3
def shH0 (ns:List Int):List Int:=(figs (at0 ns 2) (shW ns).toNat 20 (mixOf ns)).map fun x=>1+x
def shH (ns:List Int):List Int :=
 if at0 ns 0 / 2 % 5=1 then (List.replicate (shW ns).toNat ((shH0 ns).take 1)).flatten else if at0 ns 0 / 2 % 5=2 then (List.replicate (shW ns).toNat [20]).flatten else shH0 ns
theorem shN_cases (ns:List Int):shN ns=2\/shN ns=3\/shN ns=1\/shN ns=4:=by
 unfold shN
 have h1:0<=at0 ns 1 % 4:=Int.emod_nonneg _ (by decide)
 have h2:at0 ns 1 % 4 < 4:=Int.emod_lt_of_pos _ (by decide)
 have:at0 ns 1 % 4=0\/at0 ns 1 % 4=1\/at0 ns 1 % 4=2\/at0 ns 1 % 4=3:=by omega
 rcases this with e | e | e | e <;> rw[e] <;> decide
theorem cap_of {n:Int}:n=2\/n=3\/n=1\/n=4->([5,4,3,3]:List Int).getD (n - 1).toNat 0=(if n=1 then 5 else if n=2 then 4 else 3):=by
 rintro (rfl | rfl | rfl | rfl) <;> decide
theorem six_of (z:Int):0<=([3,2,4,1,5,0]:List Int).getD (z % 6).toNat 0/\([3,2,4,1,5,0]:List Int).getD (z % 6).toNat 0<=5:=by
 have h1:0<=z % 6:=Int.emod_nonneg _ (by decide)
 have h2:z % 6 < 6:=Int.emod_lt_of_pos _ (by decide)
 have:z % 6=0\/z % 6=1\/z % 6=2\/z % 6=3\/z % 6=4\/z % 6=5:=by omega
 rcases this with e | e | e | e | e | e <;> rw[e] <;> decide
theorem shW_le (ns:List Int):0<=shW ns/\shW ns<=(if shN ns=1 then 5 else if shN ns=2 then 4 else 3):=by
 unfold shW
 obtain ⟨h1,h2⟩:=six_of (at0 ns 1 / 4)
 rw[cap_of (shN_cases ns)]
 have h3:(0:Int)<=(if shN ns=1 then 5 else if shN ns=2 then 4 else 3):=by repeat (first | decide | split)
 split <;> omega
theorem pow_cap {n:Int} (h:n=2\/n=3\/n=1\/n=4) {w:Nat} (hw:(w:Int)<=(if n=1 then 5 else if n=2 then 4 else 3)):(2*n+1) ^ w<=1000:=by
 have h5:(if n=1 then (5:Int) else if n=2 then 4 else 3)<=5:=by repeat (first | decide | split)
 have:w=0\/w=1\/w=2\/w=3\/w=4\/w=5:=by omega
 rcases h with rfl | rfl | rfl | rfl <;> rcases this with rfl | rfl | rfl | rfl | rfl | rfl <;> first | decide | (exfalso; revert hw; decide)
theorem shH0_len (ns:List Int):(shH0 ns).length=(shW ns).toNat:=by unfold shH0; rw[List.length_map,figs_len]
theorem shH_len (ns:List Int):(shH ns).length=(shW ns).toNat:=by
 unfold shH
 have h0:=shH0_len ns
 split
 . rw[len_rep,List.length_take,h0]
   by_cases h:(shW ns).toNat=0
   . rw[h]; simp
   . rw[Nat.min_eq_left (by omega),Nat.mul_one]
 . split
   . rw[len_rep]; simp
   . exact h0
theorem shH0_in (ns:List Int):∀ x∈shH0 ns,1<=x/\x<=20:=by
 intro x hx
 unfold shH0 at hx
 obtain ⟨y,hy,rfl⟩:=List.mem_map.mp hx
 have:=figs_in (by decide) _ y hy
 omega
theorem shH_in (ns:List Int):∀ x∈shH ns,1<=x/\x<=20:=by
 intro x hx
 unfold shH at hx
 split at hx
 . obtain ⟨l,hl,hx⟩:=List.mem_flatten.mp hx
   obtain ⟨_,rfl⟩:=List.mem_replicate.mp hl
   exact shH0_in ns x (List.mem_of_mem_take hx)
 . split at hx
   . obtain ⟨l,hl,hx⟩:=List.mem_flatten.mp hx
     obtain ⟨_,rfl⟩:=List.mem_replicate.mp hl
     obtain rfl:=List.mem_singleton.mp hx
     omega
   . exact shH0_in ns x hx
theorem sh_ok (ns:List Int) {lim:Int} (h1:0<=lim) (h2:lim<=400):BeamOk (shN ns) (shR ns) (shH ns) lim:=by
 have hN:=shN_cases ns
 have hW:=shW_le ns
 have hl:=shH_len ns
 have h5:(if shN ns=1 then (5:Int) else if shN ns=2 then 4 else 3)<=5:=by repeat (first | decide | split)
 have hR1:0<=at0 ns 1 / 24 % 3:=Int.emod_nonneg _ (by decide)
 have hR2:at0 ns 1 / 24 % 3 < 3:=Int.emod_lt_of_pos _ (by decide)
 exact⟨by omega,by omega,by unfold shR; omega,by unfold shR; omega,h1,h2,by omega,shH_in ns,pow_cap hN (by omega)⟩
def putStep (n r:Int) (last:Bool) (made:List Int) (x:Int):List Int :=
 made++[if (if last=true then n else x - n)≠0/\r<=(made.count (if last=true then n else x - n):Int) then 0 else (if last=true then n else x - n)]
def putL (n r:Int) (last:Bool) (xs:List Int):List Int:=xs.foldl (putStep n r last) []
def putOf (ns:List Int) (k:Nat) (more n r:Int) (w:Nat):List Int :=
 putL n r (decide (V.int ((at0 ns k+more) % 13)=V.int 12)) (figs (at0 ns k+more) w (2*n+1) (mixOf ns))
theorem putL_snoc (n r:Int) (last:Bool) (xs:List Int) (x:Int):putL n r last (xs++[x])=putStep n r last (putL n r last xs) x:=by
 unfold putL; rw[List.foldl_append]; rfl
theorem putL_ok {n r:Int} (last:Bool) (hn:0<=n) (hr:1<=r) (xs:List Int) (hx:∀ x∈xs,0<=x/\x < 2*n+1) :
   (putL n r last xs).length=xs.length/\(∀ y∈putL n r last xs,-n<=y/\y<=n)/\∀ y,y≠0->((putL n r last xs).count y:Int)<=r:=by
 have main:∀ (k:Nat) (xs:List Int),xs.length=k->(∀ x∈xs,0<=x/\x < 2*n+1)->(putL n r last xs).length=xs.length/\(∀ y∈putL n r last xs,-n<=y/\y<=n)/\∀ y,y≠0->((putL n r last xs).count y:Int)<=r:=by
   intro k
   induction k with
   | zero =>
     intro xs hk _
     have:xs=[]:=List.eq_nil_of_length_eq_zero hk
     subst this
     exact⟨rfl,(fun y hy=>nomatch hy),fun y _=>by show ((([]:List Int).count y:Nat):Int)<=r; simp; omega⟩
   | succ k ih =>
     intro xs hk hx
     obtain ⟨ys,x,rfl⟩:∃ ys x,xs=ys++[x]:=⟨xs.dropLast,xs.getLast (by intro e; rw[e] at hk; cases hk),(List.dropLast_concat_getLast _).symm⟩
     have hk':ys.length=k:=by rw[List.length_append,List.length_singleton] at hk; omega
     obtain ⟨h1,h2,h3⟩:=ih ys hk' fun z hz=>hx z (List.mem_append_left _ hz)
     have hx0:=hx x (List.mem_append_right _ (List.mem_singleton.mpr rfl))
     rw[putL_snoc]
     unfold putStep
     have hp:-n<=(if last=true then n else x - n)/\(if last=true then n else x - n)<=n:=by split <;> omega
     generalize (if last=true then n else x - n)=p at hp ⊢
     refine⟨by rw[List.length_append,List.length_append,h1]; rfl,fun y hy=>?_,fun y hy=>?_⟩
     . rcases List.mem_append.mp hy with hy | hy
       . exact h2 y hy
       . obtain rfl:=List.mem_singleton.mp hy
         split <;> omega
     . rw[List.count_append,List.count_singleton]
       have h3y:=h3 y hy
       by_cases hc:p≠0/\r<=((putL n r last ys).count p:Int)
       . rw[if_pos hc]
         have:((0:Int) == y)=false:=by simpa using fun e=>hy e.symm
         rw[this]
         simpa using h3y
       . rw[if_neg hc]
         by_cases e:p=y
         . subst e
           have:¬ r<=((putL n r last ys).count p:Int):=fun z=>hc ⟨hy,z⟩
           simp
           omega
         . have:(p == y)=false:=by simpa using e
           rw[this]
           simpa using h3y
 exact main xs.length xs rfl hx
theorem put_ok (ns:List Int) (k:Nat) (more:Int) {n r:Int} (w:Nat) (hn:1<=n) (hr:1<=r):Valid n r w (putOf ns k more n r w):=by
 unfold putOf
 obtain ⟨h1,h2,h3⟩:=putL_ok (n:=n) (r:=r) (decide (V.int ((at0 ns k+more) % 13)=V.int 12)) (by omega) hr (figs (at0 ns k+more) w (2*n+1) (mixOf ns)) (figs_in (by omega) w)
 exact⟨by rw[h1,figs_len],h2,fun x _ h0=>h3 x h0⟩
/-! ### the data -/
def bflds (n r:Int) (h:Addr) (lim:Int):List (Str × V):=putF "limit" (.int lim) (putF "hefts" (.ref h) (putF "room" (.int r) (putF "notches" (.int n) [])))
theorem b_notches (n r:Int) (h:Addr) (lim:Int):(bflds n r h lim).lookup ("notches" : Str)=some (V.int n):=by
 unfold bflds
 rw[lookup_putF,if_neg (by decide +kernel),lookup_putF,if_neg (by decide +kernel),lookup_putF,if_neg (by decide +kernel),lookup_putF,if_pos rfl]
theorem b_room (n r:Int) (h:Addr) (lim:Int):(bflds n r h lim).lookup ("room" : Str)=some (V.int r):=by
 unfold bflds
 rw[lookup_putF,if_neg (by decide +kernel),lookup_putF,if_neg (by decide +kernel),lookup_putF,if_pos rfl]
theorem b_hefts (n r:Int) (h:Addr) (lim:Int):(bflds n r h lim).lookup ("hefts" : Str)=some (V.ref h):=by
 unfold bflds
 rw[lookup_putF,if_neg (by decide +kernel),lookup_putF,if_pos rfl]
theorem b_limit (n r:Int) (h:Addr) (lim:Int):(bflds n r h lim).lookup ("limit" : Str)=some (V.int lim):=by
 unfold bflds
 rw[lookup_putF,if_pos rfl]
def BeamAt (t:Adr) (H:Hp) (b:Addr) (n r:Int) (hs:List Int) (lim:Int):Prop :=
 BeamOk n r hs lim/\∃ dx h,H b=some (.ins t.c_Beam dx (bflds n r h lim))/\H h=some (.tup (hs.map V.int))
theorem BeamAt.same {t:Adr} {H H':Hp} {b:Addr} {n r:Int} {hs:List Int} {lim:Int} (B:BeamAt t H b n r hs lim) (s:Same H H'):BeamAt t H' b n r hs lim:=by
 obtain ⟨ok,dx,h,e1,e2⟩:=B
 exact⟨ok,dx,h,s _ _ e1,s _ _ e2⟩
/-! ### promises -/
def sp_outside (K:PySem.W.Frag) (t:Adr):Sp:=fun vs H Q _=>∃ a lo hi:Int,vs=[.int a,.int lo,.int hi]/\Q (.bl (decide (a < lo) || decide (hi < a))) H
def sp_check_bounds (K:PySem.W.Frag) (t:Adr):Sp:=fun vs H Q _=>∃ n r l:Int,vs=[.int n,.int r,.int l]/\(1<=n/\n<=4/\1<=r/\r<=3/\0<=l/\l<=400)/\Q .non H
def sp_check_hefts (K:PySem.W.Frag) (t:Adr):Sp:=fun vs H Q _=>∃ (a:Addr) (hs:List Int),vs=[.ref a]/\(SqL K H a (hs.map V.int)\/SqT K H a (hs.map V.int))/\(hs.length<=5/\∀ x∈hs,1<=x/\x<=20)/\Q .non H
def sp_check_standings (K:PySem.W.Frag) (t:Adr):Sp:=fun vs H Q _=>∃ (n:Int) (w:Nat),vs=[.int n,.int w]/\(1<=n/\n<=4/\w<=5/\(2*n+1) ^ w<=1000)/\Q .non H
def sp_Beam_init (K:PySem.W.Frag) (t:Adr):Sp:=fun vs H Q _=>∃ (p dx a:Addr) (n r lim:Int) (hs:List Int),vs=[.ref p,.int n,.int r,.ref a,.int lim]/\H p=some (.ins t.c_Beam dx []) ∧
 (SqL K H a (hs.map V.int)\/H a=some (.tup (hs.map V.int)))/\BeamOk n r hs lim/\∀ H',BeamAt t H' p n r hs lim->SameX p H H'->Q .non H'
def sp_as_standing (K:PySem.W.Frag) (t:Adr):Sp:=fun vs H Q _=>∃ (b a:Addr) (n r lim:Int) (hs xs:List Int),vs=[.ref b,.ref a]/\BeamAt t H b n r hs lim/\Valid n r hs.length xs ∧
 (SqL K H a (xs.map V.int)\/H a=some (.tup (xs.map V.int)))/\∀ l H',Same H H'->H' l=some (.tup (xs.map V.int))->Q (.ref l) H'
def sp_w_at (K:PySem.W.Frag) (t:Adr):Sp:=fun vs H Q _=>∃ (a:Addr) (ns:List Int) (k:Nat),vs=[.ref a,.int k]/\SqL K H a (ns.map V.int)/\Q (.int (ns.getD k 0)) H
def sp_w_whole (K:PySem.W.Frag) (t:Adr):Sp:=fun vs H Q _=>∃ i:Int,vs=[.int i]/\Q (.bl true) H
def sp_w_figs (K:PySem.W.Frag) (t:Adr):Sp:=fun vs H Q _=>∃ (cell base:Int) (n:Nat) (mix:Bool),vs=[.int cell,.int n,.int base,.bl mix]/\(n<=1000/\0 < base/\base < 1000) ∧
 ∀ l,H l=none->Q (.ref l) (upd H l (.lst ((figs cell n base mix).map V.int)))
def sp_w_same (K:PySem.W.Frag) (t:Adr):Sp:=fun vs H Q _=>∃ (a b:Addr) (xs ys:List Int),vs=[.ref a,.ref b]/\(SqL K H a (xs.map V.int)\/SqT K H a (xs.map V.int))/\(SqL K H b (ys.map V.int)\/SqT K H b (ys.map V.int))/\ys.length<=1000/\Q (.bl (decide (xs=ys))) H
def sp_w_shape (K:PySem.W.Frag) (t:Adr):Sp:=fun vs H Q _=>∃ (a:Addr) (ns:List Int),vs=[.ref a]/\SqL K H a (ns.map V.int) ∧
 ∀ l h H',Same H H'->H l=none->H h=none->H' h=some (.lst ((shH ns).map V.int))->H' l=some (.lst [.int (shN ns),.int (shR ns),.ref h])->Q (.ref l) H'
def sp_w_put (K:PySem.W.Frag) (t:Adr):Sp:=fun vs H Q _=>∃ (a sh h:Addr) (ns:List Int) (k:Nat) (more n r:Int) (hs:List Int),vs=[.ref a,.int k,.int more,.ref sh]/\SqL K H a (ns.map V.int) ∧
 H sh=some (.lst [.int n,.int r,.ref h])/\SqL K H h (hs.map V.int)/\(1<=n/\n<=4/\1<=r/\hs.length<=5) ∧
 ∀ l H',Same H H'->H l=none->H' l=some (.lst ((putOf ns k more n r hs.length).map V.int))->Q (.ref l) H'
def spLaw (K:PySem.W.Frag):Sp:=fun vs H Q _=>∃ (a:Addr) (ns:List Int),vs=[.ref a]/\SqL K H a (ns.map V.int)/\ns.length<=63/\∀ H',Q (.bl true) H'
def sp_law (K:PySem.W.Frag) (t:Adr):Sp:=spLaw K
section
variable {P:Program} {w:World} {K:PySem.W.Frag} {mg:Str->Option Value} {base:Heap} {t:Adr}
theorem ok_outside (T:Txt K mg t):FnOk P w K mg base CX0 1 t.a_outside t.d_outside ["number","low","high"] (sp_outside K t):=by
 refine T.F_outside.ok sc_outside (fun vs H Q E h=>?_) (fun cdv A outer s H vs Q E hr h=>?_)
 . obtain ⟨a,lo,hi,rfl,q⟩:=h
   rfl
 . obtain ⟨a,lo,hi,rfl,q⟩:=h
   refine⟨_,(pss_one (ps_ret (pe_or (pe_cmpR op_lt (pv 0) (pv 1) (nomark _)) (pe_one (pe_cmpR op_gt (pv 0) (pv 2) (nomark _)))))),?_⟩
   refine⟨_,rfl,_,rfl,_,_,rfl,rfl,_,rfl,?_⟩
   refine ite2 (fun h1=>?_) (fun h1=>?_)
   . rw[h1] at q
     exact q
   . rw[Bool.eq_false_iff.mpr h1] at q
     exact⟨_,rfl,_,rfl,_,_,rfl,rfl,q⟩
theorem ok_check_bounds (T:Txt K mg t):FnOk P w K mg base CX0 2 t.a_check_bounds t.d_check_bounds ["notches","room","limit"] (sp_check_bounds K t):=by
 have G_outside:FnOk P w K mg base CX0 1 t.a_outside t.d_outside ["number","low","high"] (sp_outside K t):=ok_outside T
 refine T.F_check_bounds.ok sc_check_bounds (fun vs H Q E h=>?_) (fun cdv A outer s H vs Q E hr h=>?_)
 . obtain ⟨n,r,l,rfl,⟨h1,h2,h3,h4,h5,h6⟩,q⟩:=h
   rfl
 . obtain ⟨n,r,l,rfl,⟨h1,h2,h3,h4,h5,h6⟩,q⟩:=h
   have hr_outside:Room 1 _:=hr.mono (by decide)
   refine⟨_,(pss_cons (ps_if (pt_val (pe_call G_outside hr_outside rfl T.m_outside T.k_outside T.b_outside .nil pass0 (pa_cons (pv 0) (pa_cons pe_int (pa_cons (pe_glob (v:=.int 4) rfl T.g_MOST_NOTCHES ⟨_,rfl⟩) pa_nil))))) (pss_one ps_never) pss_nil)
     (pss_cons (ps_if (pt_val (pe_call G_outside hr_outside rfl T.m_outside T.k_outside T.b_outside .nil pass0 (pa_cons (pv 1) (pa_cons pe_int (pa_cons (pe_glob (v:=.int 3) rfl T.g_MOST_ROOM ⟨_,rfl⟩) pa_nil))))) (pss_one ps_never) pss_nil)
     (pss_one (ps_if (pt_val (pe_call G_outside hr_outside rfl T.m_outside T.k_outside T.b_outside .nil pass0 (pa_cons (pv 2) (pa_cons pe_int (pa_cons (pe_glob (v:=.int 400) rfl T.g_MOST_LIMIT ⟨_,rfl⟩) pa_nil))))) (pss_one ps_never) pss_nil)))),?_⟩
   refine⟨_,rfl,_,_,_,rfl,_,rfl,iteB (out_no h1 h2) ?_⟩
   refine⟨_,rfl,_,_,_,rfl,_,rfl,iteB (out_no h3 h4) ?_⟩
   exact⟨_,rfl,_,_,_,rfl,_,rfl,iteB (out_no h5 h6) q⟩
theorem ok_check_hefts (T:Txt K mg t):FnOk P w K mg base CX0 2 t.a_check_hefts t.d_check_hefts ["hefts"] (sp_check_hefts K t):=by
 have G_outside:FnOk P w K mg base CX0 1 t.a_outside t.d_outside ["number","low","high"] (sp_outside K t):=ok_outside T
 refine T.F_check_hefts.ok sc_check_hefts (fun vs H Q E h=>?_) (fun cdv A outer s H vs Q E hr h=>?_)
 . obtain ⟨a,hs,rfl,hS,⟨hl,hh⟩,q⟩:=h
   rfl
 . obtain ⟨a,hs,rfl,hS,⟨hl,hh⟩,q⟩:=h
   have hr_outside:Room 1 _:=hr.mono (by decide)
   refine⟨_,(pss_cons (ps_if (pt_cmpR op_gt (pe_callB call_len_seq rfl T.n_len PySem.boot_len (pa_cons (pv 0) pa_nil)) (pe_glob (v:=.int 5) rfl T.g_MOST_WEIGHTS ⟨_,rfl⟩) (nomark _)) (pss_one ps_never) pss_nil)
     (pss_one (ps_for PassesOwn.never rfl (pi_seq (pv 0)) (pg_name (i:=1) sc_check_hefts.nd rfl (Or.inl rfl)) (pss_one (ps_if (pt_val (pe_call G_outside hr_outside rfl T.m_outside T.k_outside T.b_outside .nil pass0 (pa_cons (pv 1) (pa_cons pe_int (pa_cons (pe_glob (v:=.int 20) rfl T.g_MOST_HEFT ⟨_,rfl⟩) pa_nil))))) (pss_one ps_never) pss_nil))))),?_⟩
   refine⟨_,rfl,a,hs.map V.int,rfl,hS,_,_,rfl,rfl,_,rfl,iteB (dec_gt (by rw[List.length_map]; omega)) ?_⟩
   refine⟨_,rfl,a,rfl,?_⟩
   have turn:∀ (i:Nat) x,(hs.map V.int)[i]?=some x->∃ z,x = .int z/\1<=z/\z<=20:=fun i x e=>by
     obtain ⟨z,rfl,hz⟩:=int_at e
     exact⟨z,rfl,hh z (List.mem_of_getElem? hz)⟩
   rcases hS with hS | hS
   . refine .inl ⟨⟨_,hS⟩,for_list (K:=K) (a:=a) (xs:=hs.map V.int) (fun i σ H'=>∃ v,σ=[some (.ref a),v]/\H'=H) ⟨_,rfl,rfl⟩ (fun i σ H' _ ⟨_,_,e⟩=>e ▸ hS) ?_ ?_⟩
     . rintro i x σ H' hi ⟨v,rfl,rfl⟩
       obtain ⟨z,rfl,h1,h2⟩:=turn i x hi
       exact⟨_,rfl,_,_,_,rfl,_,rfl,iteB (out_no h1 h2) ⟨_,rfl,rfl⟩⟩
     . rintro σ H' ⟨v,rfl,rfl⟩
       exact q
   . refine .inr ⟨⟨_,hS⟩,for_tup (K:=K) (a:=a) (xs:=hs.map V.int) (fun i σ H'=>∃ v,σ=[some (.ref a),v]/\H'=H) ⟨_,rfl,rfl⟩ (fun i σ H' _ ⟨_,_,e⟩=>e ▸ hS) ?_ ?_⟩
     . rintro i x σ H' hi ⟨v,rfl,rfl⟩
       obtain ⟨z,rfl,h1,h2⟩:=turn i x hi
       exact⟨_,rfl,_,_,_,rfl,_,rfl,iteB (out_no h1 h2) ⟨_,rfl,rfl⟩⟩
     . rintro σ H' ⟨v,rfl,rfl⟩
       exact q
theorem ok_check_standings (T:Txt K mg t):FnOk P w K mg base CX0 1 t.a_check_standings t.d_check_standings ["notches","weights"] (sp_check_standings K t):=by
 refine T.F_check_standings.ok sc_check_standings (fun vs H Q E h=>?_) (fun cdv A outer s H vs Q E hr h=>?_)
 . obtain ⟨n,w,rfl,⟨h1,h2,h3,h4⟩,q⟩:=h
   rfl
 . obtain ⟨n,w,rfl,⟨h1,h2,h3,h4⟩,q⟩:=h
   refine⟨_,(pss_cons (ps_set (i:=2) sc_check_standings.nd rfl (Or.inl rfl) pe_int)
     (pss_cons (ps_for PassesOwn.never rfl (pi_range1 rfl T.n_range (pa_cons (pv 1) pa_nil)) (pg_name (i:=3) sc_check_standings.nd rfl (Or.inl rfl)) (pss_one (ps_set (i:=2) sc_check_standings.nd rfl (Or.inl rfl) (pe_op op_mul (pv 2) (pe_op op_add (pe_op op_mul pe_int (pv 0)) pe_int)))))
     (pss_one (ps_if (pt_cmpR op_gt (pv 2) (pe_glob (v:=.int 1000) rfl T.g_MOST_STANDINGS ⟨_,rfl⟩) (nomark _)) (pss_one ps_never) pss_nil)))),?_⟩
   refine⟨_,rfl,_,rfl,by omega,by omega,for_range (n:=(w:Int).toNat) (fun i σ H'=>∃ v,σ=[some (.int n),some (.int w),some (.int ((2*n+1) ^ i)),v]/\H'=H) ⟨none,by rw[Int.pow_zero]; rfl,rfl⟩ ?_ ?_⟩
   . rintro i σ H' hi ⟨v,rfl,rfl⟩
     exact⟨_,rfl,_,rfl,_,_,rfl,rfl,.inl ⟨by decide,by decide⟩,_,_,rfl,rfl,_,_,rfl,rfl,.inr ⟨by omega,by omega⟩,_,by rw[Int.pow_succ]; rfl,rfl⟩
   . rintro σ H' ⟨v,rfl,rfl⟩
     exact⟨_,rfl,_,_,rfl,rfl,_,rfl,iteB (dec_gt (by rw[Int.toNat_natCast]; exact h4)) q⟩
theorem ok_Beam_init (T:Txt K mg t):FnOk P w K mg base CX0 3 t.a_Beam_init t.d_Beam_init ["self","notches","room","hefts","limit"] (sp_Beam_init K t):=by
 have G_check_bounds:FnOk P w K mg base CX0 2 t.a_check_bounds t.d_check_bounds ["notches","room","limit"] (sp_check_bounds K t):=ok_check_bounds T
 have G_check_hefts:FnOk P w K mg base CX0 2 t.a_check_hefts t.d_check_hefts ["hefts"] (sp_check_hefts K t):=ok_check_hefts T
 have G_check_standings:FnOk P w K mg base CX0 1 t.a_check_standings t.d_check_standings ["notches","weights"] (sp_check_standings K t):=ok_check_standings T
 refine T.F_Beam_init.ok sc_Beam_init (fun vs H Q E h=>?_) (fun cdv A outer s H vs Q E hr h=>?_)
 . obtain ⟨p,dx,a,n,r,lim,hs,rfl,hp,hS,B,q⟩:=h
   rfl
 . obtain ⟨p,dx,a,n,r,lim,hs,rfl,hp,hS,B,q⟩:=h
   have hr_check_bounds:Room 2 _:=hr.mono (by decide)
   have hr_check_hefts:Room 2 _:=hr.mono (by decide)
   have hr_check_standings:Room 1 _:=hr.mono (by decide)
   refine⟨_,(pss_cons (ps_expr (pe_call G_check_bounds hr_check_bounds rfl T.m_check_bounds T.k_check_bounds T.b_check_bounds .nil pass0 (pa_cons (pv 1) (pa_cons (pv 2) (pa_cons (pv 4) pa_nil)))))
     (pss_cons (ps_expr (pe_call G_check_hefts hr_check_hefts rfl T.m_check_hefts T.k_check_hefts T.b_check_hefts .nil pass0 (pa_cons (pv 3) pa_nil)))
     (pss_cons (ps_expr (pe_call G_check_standings hr_check_standings rfl T.m_check_standings T.k_check_standings T.b_check_standings .nil pass0 (pa_cons (pv 1) (pa_cons (pe_callB call_len_seq rfl T.n_len PySem.boot_len (pa_cons (pv 3) pa_nil)) pa_nil))))
     (pss_cons (ps_fld (pv 0) (pv 1) rfl)
     (pss_cons (ps_fld (pv 0) (pv 2) rfl)
     (pss_cons (ps_fld (pv 0) (pe_callTy call_tuple_of rfl T.n_tuple PyProof.Rows.boot_tuple (pa_cons (pv 3) pa_nil)) rfl)
     (pss_one (ps_fld (pv 0) (pv 4) rfl)))))))),?_⟩
   have hS':SqL K H a (hs.map V.int)\/SqT K H a (hs.map V.int):=hS.imp id SqT.of
   refine⟨_,rfl,_,rfl,_,rfl,n,r,lim,rfl,⟨B.n1,B.n2,B.r1,B.r2,B.l1,B.l2⟩,?_⟩
   refine⟨_,rfl,a,hs,rfl,hS',⟨B.w,B.h⟩,?_⟩
   refine⟨_,rfl,_,rfl,a,_,rfl,hS',n,hs.length,by rw[List.length_map]; rfl,⟨B.n1,B.n2,B.w,B.most⟩,?_⟩
   refine⟨_,rfl,_,rfl,p,_,dx,_,rfl,hp,T.cl_Beam,T.na_Beam_notches,by decide,?_⟩
   refine⟨_,rfl,_,rfl,p,_,dx,_,rfl,upd_same,T.cl_Beam,T.na_Beam_room,fl1000 fl0,?_⟩
   have hne:∀ {b:Addr} {o:HO},H b=some o->o≠.ins t.c_Beam dx []->b≠p:=fun e ne=>ne_of e hp ne
   refine⟨_,rfl,a,hs.map V.int,rfl,?_⟩
   rcases hS with hS | hS
   . have nap:∀ o,SqL K (upd (upd H p o) p o) a (hs.map V.int)->True:=fun _ _=>trivial
     refine .inl ⟨?_,fun l hl=>?_⟩
     . rcases hS with (hS | ⟨ob,hS⟩) | hS
       . exact .inl (.inl (by rw[upd_ne (hne hS (by intro z; cases z)),upd_ne (hne hS (by intro z; cases z))]; exact hS))
       . exact .inl (.inr ⟨ob,by rw[upd_ne (hne hS (by intro z; cases z)),upd_ne (hne hS (by intro z; cases z))]; exact hS⟩)
       . exact .inr hS
     . have hlp:l≠p:=fun z=>by rw[z,upd_same] at hl; cases hl
       have hl0:H l=none:=by rw[upd_ne hlp,upd_ne hlp] at hl; exact hl
       refine⟨_,rfl,p,_,dx,_,rfl,(by rw[upd_ne hlp.symm]; exact upd_same),T.cl_Beam,T.na_Beam_hefts,fl1000 (flS fl0),?_⟩
       refine⟨_,rfl,_,rfl,p,_,dx,_,rfl,upd_same,T.cl_Beam,T.na_Beam_limit,fl1000 (flS (flS fl0)),?_⟩
       refine q _ ⟨B,dx,l,upd_same,by rw[upd_ne hlp,upd_ne hlp,upd_same]⟩ fun b o e hb=>?_
       rw[upd_ne hb,upd_ne hb,upd_ne (ne_of_none e hl0),upd_ne hb,upd_ne hb]
       exact e
   . have hap:a≠p:=hne hS (by intro z; cases z)
     refine .inr ⟨SqT.of (by rw[upd_ne hap,upd_ne hap]; exact hS),?_⟩
     refine⟨_,rfl,p,_,dx,_,rfl,upd_same,T.cl_Beam,T.na_Beam_hefts,fl1000 (flS fl0),?_⟩
     refine⟨_,rfl,_,rfl,p,_,dx,_,rfl,upd_same,T.cl_Beam,T.na_Beam_limit,fl1000 (flS (flS fl0)),?_⟩
     refine q _ ⟨B,dx,a,upd_same,by rw[upd_ne hap,upd_ne hap,upd_ne hap,upd_ne hap]; exact hS⟩ fun b o e hb=>?_
     rw[upd_ne hb,upd_ne hb,upd_ne hb,upd_ne hb]
     exact e
theorem ok_as_standing (T:Txt K mg t):FnOk P w K mg base CX0 2 t.a_as_standing t.d_as_standing ["beam","standing"] (sp_as_standing K t):=by
 have G_outside:FnOk P w K mg base CX0 1 t.a_outside t.d_outside ["number","low","high"] (sp_outside K t):=ok_outside T
 refine T.F_as_standing.ok sc_as_standing (fun vs H Q E h=>?_) (fun cdv A outer s H vs Q E hr h=>?_)
 . obtain ⟨b,a,n,r,lim,hs,xs,rfl,B,V0,hS,q⟩:=h
   rfl
 . obtain ⟨b,a,n,r,lim,hs,xs,rfl,B,V0,hS,q⟩:=h
   have hr_outside:Room 1 _:=hr.mono (by decide)
   refine⟨_,(pss_cons (ps_set (i:=2) sc_as_standing.nd rfl (Or.inl rfl) (pe_callTy call_tuple_of rfl T.n_tuple PyProof.Rows.boot_tuple (pa_cons (pv 1) pa_nil)))
     (pss_cons (ps_if (pt_cmpR op_ne (pe_callB call_len_seq rfl T.n_len PySem.boot_len (pa_cons (pv 2) pa_nil)) (pe_callB call_len_seq rfl T.n_len PySem.boot_len (pa_cons (pe_fld (pv 0) rfl) pa_nil)) (nomark _)) (pss_one ps_never) pss_nil)
     (pss_cons (ps_for PassesOwn.never rfl (pi_tup (pv 2)) (pg_name (i:=3) sc_as_standing.nd rfl (Or.inl rfl)) (pss_cons (ps_if (pt_val (pe_call G_outside hr_outside rfl T.m_outside T.k_outside T.b_outside .nil pass0 (pa_cons (pv 3) (pa_cons (pe_un un_neg (pe_fld (pv 0) rfl)) (pa_cons (pe_fld (pv 0) rfl) pa_nil))))) (pss_one ps_never) pss_nil)
     (pss_one (ps_if (PW.pt (pw_and (pt_cmpR op_ne (pv 3) pe_int (nomark _)) (pw_and1 (pt_cmpR op_gt (pe_tm PySem.F.slot_tuple_count PySem.F.type_tuple_count mt_countT (pv 2) (pa_cons (pv 3) pa_nil)) (pe_fld (pv 0) rfl) (nomark _))))) (pss_one ps_never) pss_nil))))
     (pss_one (ps_ret (pv 2)))))),?_⟩
   refine⟨_,rfl,a,xs.map V.int,rfl,?_⟩
   rcases hS with hS | hT
   . refine .inl ⟨hS,fun l hl=>?_⟩
     replace q:=q l _ (Same.upd hl) upd_same
     have hT:(upd H l (.tup (xs.map V.int))) l=some (.tup (xs.map V.int)):=upd_same
     replace B:=B.same (Same.upd (o:=.tup (xs.map V.int)) hl)
     revert q hT B
     generalize upd H l (.tup (xs.map V.int))=H1
     intro q hT B
     obtain ⟨ok,dx,h,hb,hh⟩:=B
     refine⟨_,rfl,_,_,rfl,.inr (SqT.of hT),_,rfl,b,_,dx,_,_,rfl,hb,T.cl_Beam,T.na_Beam_hefts,b_hefts _ _ _ _,h,_,rfl,.inr (SqT.of hh),rfl,_,rfl,?_⟩
     refine iteB (by rw[List.length_map,List.length_map,V0.len]; simp) ?_
     refine⟨_,rfl,_,rfl,⟨_,SqT.of hT⟩,for_tup (K:=K) (xs:=xs.map V.int) (fun i σ H'=>∃ v,σ=[some (.ref b),some (.ref a),some (.ref l),v]/\H'=H1) ⟨none,rfl,rfl⟩ (fun i σ H' _ ⟨_,_,e⟩=>e ▸ SqT.of hT) ?_ ?_⟩
     . rintro i x σ H' hi ⟨v,rfl,rfl⟩
       obtain ⟨z,rfl,hz⟩:=int_at hi
       have hm:=List.mem_of_getElem? hz
       obtain ⟨z1,z2⟩:=V0.on z hm
       refine⟨_,rfl,_,rfl,b,_,dx,_,_,rfl,hb,T.cl_Beam,T.na_Beam_notches,b_notches _ _ _ _,_,rfl,_,rfl,b,_,dx,_,_,rfl,hb,T.cl_Beam,T.na_Beam_notches,b_notches _ _ _ _,z,-n,n,rfl,_,rfl,iteB (out_no z1 z2) ?_⟩
       refine⟨_,rfl,rfl,_,rfl,?_⟩
       refine ite2 (fun h1=>?_) (fun h1=>?_)
       . have hz0:z≠0:=by
           intro e
           subst e
           simp at h1
         exact⟨_,rfl,⟨_,_,rfl,hT⟩,_,rfl,_,xs,z,rfl,rfl,SqT.of hT,_,rfl,b,_,dx,_,_,rfl,hb,T.cl_Beam,T.na_Beam_room,b_room _ _ _ _,_,_,rfl,rfl,_,rfl,iteB (dec_gt (V0.room z hm hz0)) ⟨_,rfl,rfl⟩⟩
       . exact iteF ⟨_,rfl,rfl⟩
     . rintro σ H' ⟨v,rfl,rfl⟩
       exact⟨_,rfl,q⟩
   . refine .inr ⟨SqT.of hT,?_⟩
     replace q:=q a _ (Same.refl _) hT
     obtain ⟨ok,dx,h,hb,hh⟩:=B
     refine⟨_,rfl,_,_,rfl,.inr (SqT.of hT),_,rfl,b,_,dx,_,_,rfl,hb,T.cl_Beam,T.na_Beam_hefts,b_hefts _ _ _ _,h,_,rfl,.inr (SqT.of hh),rfl,_,rfl,?_⟩
     refine iteB (by rw[List.length_map,List.length_map,V0.len]; simp) ?_
     refine⟨_,rfl,_,rfl,⟨_,SqT.of hT⟩,for_tup (K:=K) (xs:=xs.map V.int) (fun i σ H'=>∃ v,σ=[some (.ref b),some (.ref a),some (.ref a),v]/\H'=H) ⟨none,rfl,rfl⟩ (fun i σ H' _ ⟨_,_,e⟩=>e ▸ SqT.of hT) ?_ ?_⟩
     . rintro i x σ H' hi ⟨v,rfl,rfl⟩
       obtain ⟨z,rfl,hz⟩:=int_at hi
       have hm:=List.mem_of_getElem? hz
       obtain ⟨z1,z2⟩:=V0.on z hm
       refine⟨_,rfl,_,rfl,b,_,dx,_,_,rfl,hb,T.cl_Beam,T.na_Beam_notches,b_notches _ _ _ _,_,rfl,_,rfl,b,_,dx,_,_,rfl,hb,T.cl_Beam,T.na_Beam_notches,b_notches _ _ _ _,z,-n,n,rfl,_,rfl,iteB (out_no z1 z2) ?_⟩
       refine⟨_,rfl,rfl,_,rfl,?_⟩
       refine ite2 (fun h1=>?_) (fun h1=>?_)
       . have hz0:z≠0:=by
           intro e
           subst e
           simp at h1
         exact⟨_,rfl,⟨_,_,rfl,hT⟩,_,rfl,_,xs,z,rfl,rfl,SqT.of hT,_,rfl,b,_,dx,_,_,rfl,hb,T.cl_Beam,T.na_Beam_room,b_room _ _ _ _,_,_,rfl,rfl,_,rfl,iteB (dec_gt (V0.room z hm hz0)) ⟨_,rfl,rfl⟩⟩
       . exact iteF ⟨_,rfl,rfl⟩
     . rintro σ H' ⟨v,rfl,rfl⟩
       exact⟨_,rfl,q⟩
def tiltOf (hs xs:List Int):Int:=(List.zipWith (fun h x=>h*x) hs xs).sum
def absI (i:Int):Int:=if i < 0 then -i else i
def mulV (x y:V):V:=match x,y with
 | .int a,.int b=>.int (a*b)
 | _,_=>.non
theorem zip_mulV:∀ (hs xs:List Int),List.zipWith mulV (hs.map V.int) (xs.map V.int)=(List.zipWith (fun h x=>h*x) hs xs).map V.int
 | [],_=>rfl
 | _::_,[]=>rfl
 | h::hs,x::xs=>by
   show V.int (h*x)::List.zipWith mulV (hs.map V.int) (xs.map V.int)=_
   rw[zip_mulV hs xs]
   rfl
theorem zip_bound:∀ {hs xs:List Int} {B:Int},(∀ h∈hs,1<=h/\h<=20)->(∀ x∈xs,-B<=x/\x<=B)->0<=B->∀ z∈List.zipWith (fun h x=>h*x) hs xs,-(20*B)<=z/\z<=20*B
 | [],_,_,_,_,_=>(fun z hz=>by simp at hz)
 | _::_,[],_,_,_,_=>(fun z hz=>by simp at hz)
 | h::hs,x::xs,B,h1,h2,hB=>fun z hz=>by
   rw[List.zipWith_cons_cons] at hz
   rcases List.mem_cons.mp hz with rfl | hz
   . obtain ⟨a1,a2⟩:=h1 h List.mem_cons_self
     obtain ⟨b1,b2⟩:=h2 x List.mem_cons_self
     have c1:h*x<=h*B:=Int.mul_le_mul_of_nonneg_left b2 (by omega)
     have c2:h*B<=20*B:=Int.mul_le_mul_of_nonneg_right a2 hB
     have c3:h * -B<=h*x:=Int.mul_le_mul_of_nonneg_left b1 (by omega)
     have c4:h * -B = -(h*B):=Int.mul_neg h B
     omega
   . exact zip_bound (fun y hy=>h1 y (List.mem_cons_of_mem _ hy)) (fun y hy=>h2 y (List.mem_cons_of_mem _ hy)) hB z hz
theorem tilt_fits {n r lim:Int} {hs xs:List Int} (ok:BeamOk n r hs lim) (V0:Valid n r hs.length xs):PySem.SumFits (List.zipWith (fun h x=>h*x) hs xs):=by
 refine PyProof.Rows.sumFits_of_bound (B:=80) (n:=5) (by decide) (fun z hz=>?_) ?_ (by decide)
 . have:=zip_bound (B:=4) ok.h (fun x hx=>by have:=V0.on x hx; have:=ok.n2; omega) (by decide) z hz
   omega
 . rw[List.length_zipWith]
   have:=ok.w
   omega
def sp_tilt (K:PySem.W.Frag) (t:Adr):Sp:=fun vs H Q _=>∃ (b a:Addr) (n r lim:Int) (hs xs:List Int),vs=[.ref b,.ref a]/\BeamAt t H b n r hs lim/\Valid n r hs.length xs ∧
 (SqL K H a (xs.map V.int)\/H a=some (.tup (xs.map V.int)))/\∀ H',Same H H'->Q (.int (tiltOf hs xs)) H'
def sp_keeps (K:PySem.W.Frag) (t:Adr):Sp:=fun vs H Q _=>∃ (b a:Addr) (n r lim:Int) (hs xs:List Int),vs=[.ref b,.ref a]/\BeamAt t H b n r hs lim/\Valid n r hs.length xs ∧
 (SqL K H a (xs.map V.int)\/H a=some (.tup (xs.map V.int)))/\∀ H',Same H H'->Q (.bl (decide (absI (tiltOf hs xs)<=lim))) H'
theorem ok_tilt (T:Txt K mg t):FnOk P w K mg base CX0 3 t.a_tilt t.d_tilt ["beam","standing"] (sp_tilt K t):=by
 have G_as_standing:FnOk P w K mg base CX0 2 t.a_as_standing t.d_as_standing ["beam","standing"] (sp_as_standing K t):=ok_as_standing T
 refine T.F_tilt.ok sc_tilt (fun vs H Q E h=>?_) (fun cdv A outer s H vs Q E hr h=>?_)
 . obtain ⟨b,a,n,r,lim,hs,xs,rfl,B,V0,hS,q⟩:=h
   rfl
 . obtain ⟨b,a,n,r,lim,hs,xs,rfl,B,V0,hS,q⟩:=h
   have hr_as_standing:Room 2 _:=hr.mono (by decide)
   refine⟨_,(pss_cons (ps_set (i:=2) sc_tilt.nd rfl (Or.inl rfl) (pe_call G_as_standing hr_as_standing rfl T.m_as_standing T.k_as_standing T.b_as_standing .nil pass0 (pa_cons (pv 0) (pa_cons (pv 1) pa_nil))))
     (pss_one (ps_ret (pe_callB (call_sum rfl) rfl T.n_sum PyProof.Rows.boot_sum (pa_cons (pe_comp rfl cs_tilt_0 (pi_zip rfl T.n_zip (pa_cons (pe_fld (pv 0) rfl) (pa_cons (pv 2) pa_nil))) (fun _ _ _ _ _=>(pg_tupK (n:=2) K rfl rfl (pgs_cons (pg_name (i:=0) cs_tilt_0.nd rfl (Or.inl rfl)) (pgs_cons (pg_name (i:=1) cs_tilt_0.nd rfl (Or.inl rfl)) pgs_nil)))) (fun _ _ _ _ _=>pifs_nil) (fun _ _ _ _ _=>(pe_op op_mul (pv 0) (pv 1)))) pa_nil))))),?_⟩
   refine⟨_,rfl,_,rfl,b,a,n,r,lim,hs,xs,rfl,B,V0,hS,fun l H1 s1 hl=>?_⟩
   have ok:=B.1
   obtain ⟨_,dx,h,hb,hh⟩:=B.same s1
   refine⟨_,rfl,b,_,dx,_,_,rfl,hb,T.cl_Beam,T.na_Beam_hefts,b_hefts _ _ _ _,_,rfl,h,l,_,_,rfl,hh,hl,fun D hD=>?_⟩
   refine comp_zip (f:=mulV) (rest:=[]) hh hl (by rw[List.length_map,List.length_map,V0.len]) hD (Nat.le_of_lt (small1000 (by rw[List.length_map]; have:=ok.w; omega))) (fun i x y H' R hx hy s2 h=>?_) (fun H' s2 hd=>?_)
   . obtain ⟨u,rfl,hu⟩:=int_at hx
     obtain ⟨v,rfl,hv⟩:=int_at hy
     have:=ok.h u (List.mem_of_getElem? hu)
     exact⟨_,rfl,_,rfl,_,_,rfl,rfl,.inl ⟨by omega,by omega⟩,h⟩
   . rw[zip_mulV] at hd
     exact⟨D,_,rfl,SqL.of hd,tilt_fits ok V0,q H' (s1.trans s2)⟩
theorem not_past (a lim:Int):(!decide (lim < a))=decide (a<=lim):=by
 by_cases h:lim < a
 . rw[decide_eq_true h,decide_eq_false (by omega)]; rfl
 . rw[decide_eq_false h,decide_eq_true (by omega)]; rfl
def sp_past (K:PySem.W.Frag) (t:Adr):Sp:=fun vs H Q _=>∃ (b:Addr) (n r lim:Int) (hs:List Int) (z:Int),vs=[.ref b,.int z]/\BeamAt t H b n r hs lim/\Q (.bl (decide (lim < absI z))) H
theorem ok_past (T:Txt K mg t):FnOk P w K mg base CX0 1 t.a_past t.d_past ["beam","tipped"] (sp_past K t):=by
 refine T.F_past.ok sc_past (fun vs H Q E h=>?_) (fun cdv A outer s H vs Q E hr h=>?_)
 . obtain ⟨b,n,r,lim,hs,z,rfl,B,q⟩:=h
   rfl
 . obtain ⟨b,n,r,lim,hs,z,rfl,B,q⟩:=h
   refine⟨_,(pss_one (ps_ret (pe_cmpR op_gt (pe_callB call_abs rfl T.n_abs PyProof.Rows.boot_abs (pa_cons (pv 1) pa_nil)) (pe_fld (pv 0) rfl) (nomark _)))),?_⟩
   obtain ⟨_,dx,h,hb,hh⟩:=B
   exact⟨_,rfl,_,rfl,_,rfl,b,_,dx,_,_,rfl,hb,T.cl_Beam,T.na_Beam_limit,b_limit _ _ _ _,_,_,rfl,rfl,q⟩
theorem ok_keeps (T:Txt K mg t):FnOk P w K mg base CX0 4 t.a_keeps t.d_keeps ["beam","standing"] (sp_keeps K t):=by
 have G_past:FnOk P w K mg base CX0 1 t.a_past t.d_past ["beam","tipped"] (sp_past K t):=ok_past T
 have G_tilt:FnOk P w K mg base CX0 3 t.a_tilt t.d_tilt ["beam","standing"] (sp_tilt K t):=ok_tilt T
 refine T.F_keeps.ok sc_keeps (fun vs H Q E h=>?_) (fun cdv A outer s H vs Q E hr h=>?_)
 . obtain ⟨b,a,n,r,lim,hs,xs,rfl,B,V0,hS,q⟩:=h
   rfl
 . obtain ⟨b,a,n,r,lim,hs,xs,rfl,B,V0,hS,q⟩:=h
   have hr_past:Room 1 _:=hr.mono (by decide)
   have hr_tilt:Room 3 _:=hr.mono (by decide)
   refine⟨_,(pss_one (ps_ret (pe_not (pe_call G_past hr_past rfl T.m_past T.k_past T.b_past .nil pass0 (pa_cons (pv 0) (pa_cons (pe_call G_tilt hr_tilt rfl T.m_tilt T.k_tilt T.b_tilt .nil pass0 (pa_cons (pv 0) (pa_cons (pv 1) pa_nil))) pa_nil)))))),?_⟩
   refine⟨_,rfl,_,rfl,_,rfl,b,a,n,r,lim,hs,xs,rfl,B,V0,hS,fun H1 s1=>⟨b,n,r,lim,hs,_,rfl,B.same s1,_,rfl,?_⟩⟩
   rw[not_past]
   exact q H1 s1
/-! ### the mathematics of one move -/
def heldOf (hs xs:List Int) (i:Nat):Int:=tiltOf hs xs - hs.getD i 0*xs.getD i 0
theorem getD_set_self {xs:List Int} {i:Nat} {p:Int} (hi:i < xs.length):(xs.set i p).getD i 0=p:=by
 rw[List.getD_eq_getElem?_getD,List.getElem?_set_self hi]; rfl
theorem count_set' {xs:List Int} {i:Nat} {p y:Int} (hi:i < xs.length):((xs.set i p).count y:Int)=(xs.count y:Int) - (if xs.getD i 0=y then 1 else 0)+(if p=y then 1 else 0):=by
 have e:xs.getD i 0=xs[i]:=by rw[List.getD_eq_getElem?_getD,List.getElem?_eq_getElem hi]; rfl
 rw[e,List.count_set hi]
 have:xs[i]=y->1<=xs.count y:=fun h=>List.count_pos_iff.mpr (h ▸ List.getElem_mem hi)
 by_cases h1:xs[i]=y <;> by_cases h2:p=y <;> simp[h1,h2] <;> have:=this h1 <;> omega
structure Lets (n r:Int) (hs:List Int) (lim:Int) (xs:List Int) (i:Nat) (p:Int):Prop where
 lt:i < xs.length
 on:-n<=p/\p<=n
 ne:p≠xs.getD i 0
 room:p≠0->(xs.count p:Int) < r
 held:absI (heldOf hs xs i)<=lim
 behind:absI (heldOf hs xs i+hs.getD i 0*p)<=lim
instance (n r:Int) (hs:List Int) (lim:Int) (xs:List Int) (i:Nat) (p:Int):Decidable (Lets n r hs lim xs i p) :=
 decidable_of_iff (i < xs.length/\(-n<=p/\p<=n)/\p≠xs.getD i 0/\(p≠0->(xs.count p:Int) < r)/\absI (heldOf hs xs i)<=lim/\absI (heldOf hs xs i+hs.getD i 0*p)<=lim)
   ⟨fun ⟨a,b,c,d,e,f⟩=>⟨a,b,c,d,e,f⟩,fun ⟨a,b,c,d,e,f⟩=>⟨a,b,c,d,e,f⟩⟩
theorem getD_mem {xs:List Int} {i:Nat} (hi:i < xs.length):xs.getD i 0∈xs:=by
 rw[List.getD_eq_getElem?_getD,List.getElem?_eq_getElem hi]; exact List.getElem_mem hi
theorem Lets.valid {n r lim:Int} {w:Nat} {hs xs:List Int} {i:Nat} {p:Int} (L:Lets n r hs lim xs i p) (V0:Valid n r w xs):Valid n r w (xs.set i p):=by
 refine⟨by rw[List.length_set]; exact V0.len,fun y hy=>?_,fun y hy h0=>?_⟩
 . rcases List.mem_or_eq_of_mem_set hy with h | rfl
   . exact V0.on y h
   . exact L.on
 . rw[count_set' L.lt]
   by_cases e:p=y
   . subst e
     have:=L.room h0
     rw[if_pos rfl,if_neg (fun z=>L.ne z.symm)]
     omega
   . have hm:y∈xs:=(List.mem_or_eq_of_mem_set hy).resolve_right (fun z=>e z.symm)
     have:=V0.room y hm h0
     rw[if_neg e]
     split <;> omega
theorem sum_zip:∀ (hs xs:List Int),hs.length=xs.length->((List.range hs.length).map fun i=>hs.getD i 0*xs.getD i 0).sum=(List.zipWith (fun h x=>h*x) hs xs).sum:=by
 intro hs xs hl
 congr 1
 apply List.ext_getElem
 . simp; omega
 . intro i h1 h2
   have hi:i < hs.length:=by simpa using h1
   have hi2:i < xs.length:=by omega
   simp[hi,hi2]
def sumTo (hs xs:List Int):Nat->Int
 | 0=>0
 | j+1=>sumTo hs xs j+hs.getD j 0*xs.getD j 0
theorem sumTo_eq (hs xs:List Int):∀ w,sumTo hs xs w=((List.range w).map fun i=>hs.getD i 0*xs.getD i 0).sum
 | 0=>rfl
 | w+1=>by
   unfold sumTo
   rw[sumTo_eq hs xs w,List.range_succ,List.map_append,List.sum_append]
   simp
theorem sumTo_tilt {hs xs:List Int} (hl:hs.length=xs.length):sumTo hs xs hs.length=tiltOf hs xs:=by
 rw[sumTo_eq,sum_zip hs xs hl]; rfl
theorem sum_bound:∀ {zs:List Int} {B:Int},(∀ z∈zs,-B<=z/\z<=B)->-(B*zs.length)<=zs.sum/\zs.sum<=B*zs.length
 | [],B,_=>by simp
 | z::zs,B,h=>by
   have h1:=h z List.mem_cons_self
   have h2:=sum_bound (zs:=zs) (B:=B) fun y hy=>h y (List.mem_cons_of_mem _ hy)
   rw[List.sum_cons,List.length_cons,Int.natCast_add,Int.mul_add]
   omega
theorem tilt_le {n r lim:Int} {hs xs:List Int} (ok:BeamOk n r hs lim) (V0:Valid n r hs.length xs):absI (tiltOf hs xs)<=240/\0<=absI (tiltOf hs xs):=by
 have h1:=sum_bound (zip_bound (B:=n) ok.h V0.on (by have:=ok.n1; omega))
 rw[List.length_zipWith,V0.len,Nat.min_self] at h1
 have hw:=ok.w
 have hm:=ok.most
 have n1:=ok.n1
 have n2:=ok.n2
 have key:20*n*(hs.length:Int)<=240:=by
   have:n=1\/n=2\/n=3\/n=4:=by omega
   have h5:hs.length=0\/hs.length=1\/hs.length=2\/hs.length=3\/hs.length=4\/hs.length=5:=by omega
   rcases this with rfl | rfl | rfl | rfl <;> rcases h5 with e | e | e | e | e | e <;> rw[e] at hm ⊢ <;> first | decide | (exfalso; revert hm; decide)
 unfold tiltOf
 unfold absI
 split <;> omega
def sp_in_hand (K:PySem.W.Frag) (t:Adr):Sp:=fun vs H Q E=>∃ (b a:Addr) (n r lim k:Int) (i:Nat) (hs xs:List Int),vs=[.ref b,.ref a,.int k]/\BeamAt t H b n r hs lim/\Valid n r hs.length xs ∧
 (SqL K H a (xs.map V.int)\/H a=some (.tup (xs.map V.int)))/\(k=(i:Int)+1/\i < xs.length)/\∀ H',Same H H'->Q (.int (heldOf hs xs i)) H'
theorem ok_in_hand (T:Txt K mg t):FnOk P w K mg base CX0 4 t.a_in_hand t.d_in_hand ["beam","standing","weight"] (sp_in_hand K t):=by
 have G_as_standing:FnOk P w K mg base CX0 2 t.a_as_standing t.d_as_standing ["beam","standing"] (sp_as_standing K t):=ok_as_standing T
 have G_outside:FnOk P w K mg base CX0 1 t.a_outside t.d_outside ["number","low","high"] (sp_outside K t):=ok_outside T
 have G_tilt:FnOk P w K mg base CX0 3 t.a_tilt t.d_tilt ["beam","standing"] (sp_tilt K t):=ok_tilt T
 refine T.F_in_hand.ok sc_in_hand (fun vs H Q E h=>?_) (fun cdv A outer s H vs Q E hr h=>?_)
 . obtain ⟨b,a,n,r,lim,k,i,hs,xs,rfl,B,V0,hS,⟨rfl,hi⟩,q⟩:=h
   rfl
 . obtain ⟨b,a,n,r,lim,k,i,hs,xs,rfl,B,V0,hS,⟨rfl,hi⟩,q⟩:=h
   have hr_as_standing:Room 2 _:=hr.mono (by decide)
   have hr_outside:Room 1 _:=hr.mono (by decide)
   have hr_tilt:Room 3 _:=hr.mono (by decide)
   refine⟨_,(pss_cons (ps_set (i:=3) sc_in_hand.nd rfl (Or.inl rfl) (pe_call G_as_standing hr_as_standing rfl T.m_as_standing T.k_as_standing T.b_as_standing .nil pass0 (pa_cons (pv 0) (pa_cons (pv 1) pa_nil))))
     (pss_cons (ps_if (pt_val (pe_call G_outside hr_outside rfl T.m_outside T.k_outside T.b_outside .nil pass0 (pa_cons (pv 2) (pa_cons pe_int (pa_cons (pe_callB call_len_seq rfl T.n_len PySem.boot_len (pa_cons (pv 3) pa_nil)) pa_nil))))) (pss_one ps_never) pss_nil)
     (pss_one (ps_ret (pe_op op_sub (pe_call G_tilt hr_tilt rfl T.m_tilt T.k_tilt T.b_tilt .nil pass0 (pa_cons (pv 0) (pa_cons (pv 3) pa_nil))) (pe_op op_mul (pe_ix ix_tup (pe_fld (pv 0) rfl) (pe_op op_sub (pv 2) pe_int) (fun _ _=>rfl)) (pe_ix ix_tup (pv 3) (pe_op op_sub (pv 2) pe_int) (fun _ _=>rfl)))))))),?_⟩
   refine⟨_,rfl,_,rfl,b,a,n,r,lim,hs,xs,rfl,B,V0,hS,fun l H1 s1 hl=>?_⟩
   refine⟨_,rfl,_,rfl,l,_,rfl,.inr (SqT.of hl),_,1,_,rfl,_,rfl,?_⟩
   rw[List.length_map]
   refine iteB (out_no (by omega) (by omega)) ?_
   refine⟨_,rfl,_,rfl,b,l,n,r,lim,hs,xs,rfl,B.same s1,V0,.inr hl,fun H2 s2=>?_⟩
   obtain ⟨_,dx,h,hb,hh⟩:=B.same (s1.trans s2)
   have hlen:=V0.len
   have e1:((i:Int)+1 - 1).toNat=i:=by omega
   have a1:atI (hs.map V.int) ((i:Int)+1 - 1)=some (.int (hs.getD i 0)):=by have:=atI_intD (xs:=hs) (i:=(i:Int)+1 - 1) (by omega) (by omega); rw[e1] at this; exact this
   have a2:atI (xs.map V.int) ((i:Int)+1 - 1)=some (.int (xs.getD i 0)):=by have:=atI_intD (xs:=xs) (i:=(i:Int)+1 - 1) (by omega) (by omega); rw[e1] at this; exact this
   have hm:=B.1.h (hs.getD i 0) (getD_mem (by omega))
   refine⟨_,rfl,b,_,dx,_,_,rfl,hb,T.cl_Beam,T.na_Beam_hefts,b_hefts _ _ _ _,_,rfl,_,_,rfl,rfl,h,_,_,_,rfl,rfl,SqT.of hh,a1,?_⟩
   exact⟨_,rfl,_,rfl,_,_,rfl,rfl,l,_,_,_,rfl,rfl,SqT.of (s2 _ _ hl),a2,_,_,rfl,rfl,.inl ⟨by omega,by omega⟩,_,_,rfl,rfl,q _ (s1.trans s2)⟩
def fullB (r:Int) (xs:List Int) (p:Int):Bool:=decide (p≠0/\r<=(xs.count p:Int))
def sp_full (K:PySem.W.Frag) (t:Adr):Sp:=fun vs H Q _=>∃ (b a:Addr) (n r lim p:Int) (hs xs:List Int),vs=[.ref b,.ref a,.int p]/\BeamAt t H b n r hs lim/\H a=some (.tup (xs.map V.int))/\Q (.bl (fullB r xs p)) H
theorem ok_full (T:Txt K mg t):FnOk P w K mg base CX0 1 t.a_full t.d_full ["beam","places","place"] (sp_full K t):=by
 refine T.F_full.ok sc_full (fun vs H Q E h=>?_) (fun cdv A outer s H vs Q E hr h=>?_)
 . obtain ⟨b,a,n,r,lim,p,hs,xs,rfl,B,hT,q⟩:=h
   rfl
 . obtain ⟨b,a,n,r,lim,p,hs,xs,rfl,B,hT,q⟩:=h
   refine⟨_,(pss_one (ps_ret (pe_and (pe_cmpR op_ne (pv 2) pe_int (nomark _)) (pe_one (pe_cmpR op_ge (pe_tm PySem.F.slot_tuple_count PySem.F.type_tuple_count mt_countT (pv 1) (pa_cons (pv 2) pa_nil)) (pe_fld (pv 0) rfl) (nomark _)))))),?_⟩
   obtain ⟨_,dx,h,hb,hh⟩:=B
   unfold fullB at q
   refine⟨_,rfl,rfl,_,rfl,?_⟩
   rw[dec_vint]
   refine ite2 (fun h1=>?_) (fun h1=>?_)
   . have h1':p≠0:=by simpa using h1
     refine⟨_,rfl,⟨_,_,rfl,hT⟩,_,rfl,_,xs,p,rfl,rfl,SqT.of hT,_,rfl,b,_,dx,_,_,rfl,hb,T.cl_Beam,T.na_Beam_room,b_room _ _ _ _,_,_,rfl,rfl,?_⟩
     have e:decide (p≠0/\r<=(xs.count p:Int))=decide (r<=(xs.count p:Int)):=by simp[h1']
     rw[e] at q
     exact q
   . have h1':p=0:=by simpa using h1
     have e:decide (p≠0/\r<=(xs.count p:Int))=false:=by simp[h1']
     rw[e] at q
     exact q
theorem cut_set (xs:List Int) (i:Nat) (p:Int) (hi:i < xs.length):cutV (xs.map V.int) none (some (i:Int))++[V.int p]++cutV (xs.map V.int) (some ((i:Int)+1)) none=(xs.set i p).map V.int:=by
 unfold cutV
 rw[HT.sIx_none,HT.sIx_nat,HT.sIx_none,show ((i:Int)+1)=((i+1:Nat):Int) by omega,HT.sIx_nat,List.length_map,Nat.min_eq_left (by omega),Nat.min_eq_left (by omega),List.drop_zero,Nat.sub_zero,
   List.set_eq_take_append_cons_drop,if_pos hi,List.map_append,List.map_cons,List.append_assoc,List.map_take,List.map_drop]
 congr 1
 show V.int p::_=_
 congr 1
 exact List.take_of_length_le (by simp)
def Mv (K:PySem.W.Frag) (H:Hp) (m:Addr) (k s p:Int):Prop:=SqL K H m [.int k,.int s,.int p]\/SqT K H m [.int k,.int s,.int p]
theorem Mv.ix {K:PySem.W.Frag} {H:Hp} {m:Addr} {k s p:Int} (h:Mv K H m k s p):(∀ Q:VK,Q (.int k) H->rIx K (.ref m) (.int 0) H Q)/\(∀ Q:VK,Q (.int s) H->rIx K (.ref m) (.int 1) H Q)/\(∀ Q:VK,Q (.int p) H->rIx K (.ref m) (.int 2) H Q):=by
 rcases h with h | h
 . exact⟨fun Q q=>.inl ⟨m,_,_,_,rfl,rfl,h,rfl,q⟩,fun Q q=>.inl ⟨m,_,_,_,rfl,rfl,h,rfl,q⟩,fun Q q=>.inl ⟨m,_,_,_,rfl,rfl,h,rfl,q⟩⟩
 . exact⟨fun Q q=>.inr (.inl ⟨m,_,_,_,rfl,rfl,h,rfl,q⟩),fun Q q=>.inr (.inl ⟨m,_,_,_,rfl,rfl,h,rfl,q⟩),fun Q q=>.inr (.inl ⟨m,_,_,_,rfl,rfl,h,rfl,q⟩)⟩
theorem Same.seqT {K:PySem.W.Frag} {H H':Hp} {a:Addr} {xs:List V} (e:Same H H') (h:SqT K H a xs):SqT K H' a xs:=by
 rcases h with (h | ⟨o,h⟩) | h
 . exact .inl (.inl (e _ _ h))
 . exact .inl (.inr ⟨o,e _ _ h⟩)
 . exact .inr h
theorem Mv.same {K:PySem.W.Frag} {H H':Hp} {m:Addr} {k s p:Int} (h:Mv K H m k s p) (e:Same H H'):Mv K H' m k s p:=h.imp e.seq (fun z=>Same.seqT e z)
def sp_behind (K:PySem.W.Frag) (t:Adr):Sp:=fun vs H Q _=>∃ (a m:Addr) (k s p:Int) (i:Nat) (xs:List Int),vs=[.ref a,.ref m]/\H a=some (.tup (xs.map V.int))/\Mv K H m k s p/\(k=(i:Int)+1/\i < xs.length/\xs.length<=900) ∧
 ∀ l H',Same H H'->H' l=some (.tup ((xs.set i p).map V.int))->Q (.ref l) H'
theorem ok_behind (T:Txt K mg t):FnOk P w K mg base CX0 1 t.a_behind t.d_behind ["places","move"] (sp_behind K t):=by
 refine T.F_behind.ok sc_behind (fun vs H Q E h=>?_) (fun cdv A outer s H vs Q E hr h=>?_)
 . obtain ⟨a,m,k,s,p,i,xs,rfl,hT,hM,⟨rfl,hi,hx⟩,q⟩:=h
   rfl
 . obtain ⟨a,m,k,s,p,i,xs,rfl,hT,hM,⟨rfl,hi,hx⟩,q⟩:=h
   refine⟨_,(pss_one (ps_ret (pe_op op_catU (pe_op op_catU (pe_slice sl_tup (pv 0) po_none (po_some (pe_op op_sub (pe_ix ix_seq (pv 1) pe_int (fun _ _=>rfl)) pe_int))) (pe_tup (pa_cons (pe_ix ix_seq (pv 1) pe_int (fun _ _=>rfl)) pa_nil))) (pe_slice sl_tup (pv 0) (po_some (pe_ix ix_seq (pv 1) pe_int (fun _ _=>rfl))) po_none)))),?_⟩
   refine⟨_,rfl,_,rfl,hM.ix.1 _ ⟨_,_,rfl,rfl,_,rfl,a,_,rfl,SqT.of hT,?_,fun l1 f1=>?_⟩⟩
   . have e:(i:Int)+1 - 1=(i:Int):=by omega
     rw[e,HT.sIx_none,HT.sIx_nat,List.length_map,Nat.min_eq_left (by omega)]
     omega
   have s1:Same H (upd H l1 (.tup (cutV (xs.map V.int) none (some ((i:Int)+1 - 1))))):=Same.upd f1
   have h1:(upd H l1 (.tup (cutV (xs.map V.int) none (some ((i:Int)+1 - 1))))) l1=some (.tup (cutV (xs.map V.int) none (some ((i:Int)+1 - 1)))):=upd_same
   revert s1 h1
   generalize upd H l1 (.tup (cutV (xs.map V.int) none (some ((i:Int)+1 - 1))))=H1
   intro s1 h1
   refine⟨_,rfl,(hM.same s1).ix.2.2 _ ⟨(by show 1<=sizeLine; decide),fun l2 f2=>?_⟩⟩
   have s2:Same H1 (upd H1 l2 (.tup [.int p])):=Same.upd f2
   have h2:(upd H1 l2 (.tup [.int p])) l2=some (.tup [.int p]):=upd_same
   revert s2 h2
   generalize upd H1 l2 (.tup [.int p])=H2
   intro s2 h2
   have len1:=cutV_length (xs.map V.int) none (some ((i:Int)+1 - 1))
   rw[List.length_map] at len1
   refine⟨l1,l2,_,_,rfl,rfl,s2 _ _ h1,h2,Nat.le_of_lt (small1000 (by show _+1<=_; omega)),fun l3 H3 s3 h3=>?_⟩
   have s03:=s1.trans (s2.trans s3)
   refine⟨_,rfl,_,rfl,(hM.same s03).ix.1 _ ⟨_,rfl,a,_,rfl,SqT.of (s03 _ _ hT),?_,fun l4 f4=>?_⟩⟩
   . rw[show ((i:Int)+1)=((i+1:Nat):Int) by omega,HT.sIx_nat,List.length_map]
     omega
   have s4:Same H3 (upd H3 l4 (.tup (cutV (xs.map V.int) (some ((i:Int)+1)) none))):=Same.upd f4
   have h4:(upd H3 l4 (.tup (cutV (xs.map V.int) (some ((i:Int)+1)) none))) l4=some (.tup (cutV (xs.map V.int) (some ((i:Int)+1)) none)):=upd_same
   revert s4 h4
   generalize upd H3 l4 (.tup (cutV (xs.map V.int) (some ((i:Int)+1)) none))=H4
   intro s4 h4
   have e5:=cut_set xs i p hi
   rw[show (i:Int)=(i:Int)+1 - 1 by omega,show (i:Int)+1 - 1+1=(i:Int)+1 by omega] at e5
   refine⟨l3,l4,_,_,rfl,rfl,s4 _ _ h3,h4,?_,fun l5 H5 s5 h5=>q l5 H5 (s03.trans (s4.trans s5)) ?_⟩
   . rw[<-List.length_append,e5,List.length_map,List.length_set]
     exact Nat.le_of_lt (small1000 (by omega))
   . rw[h5,e5]
def sp_turned (K:PySem.W.Frag) (t:Adr):Sp:=fun vs H Q _=>∃ (m:Addr) (k s p:Int),vs=[.ref m]/\Mv K H m k s p/\∀ l,H l=none->Q (.ref l) (upd H l (.tup [.int k,.int p,.int s]))
theorem ok_turned (T:Txt K mg t):FnOk P w K mg base CX0 1 t.a_turned t.d_turned ["move"] (sp_turned K t):=by
 refine T.F_turned.ok sc_turned (fun vs H Q E h=>?_) (fun cdv A outer s H vs Q E hr h=>?_)
 . obtain ⟨m,k,s,p,rfl,hM,q⟩:=h
   rfl
 . obtain ⟨m,k,s,p,rfl,hM,q⟩:=h
   refine⟨_,(pss_one (ps_ret (pe_tup (pa_cons (pe_ix ix_seq (pv 0) pe_int (fun _ _=>rfl)) (pa_cons (pe_ix ix_seq (pv 0) pe_int (fun _ _=>rfl)) (pa_cons (pe_ix ix_seq (pv 0) pe_int (fun _ _=>rfl)) pa_nil)))))),?_⟩
   refine⟨_,rfl,hM.ix.1 _ ⟨_,rfl,hM.ix.2.2 _ ⟨_,rfl,hM.ix.2.1 _ ⟨(by show 3<=sizeLine; decide),fun l fl=>?_⟩⟩⟩⟩
   exact q l fl
def sp_check_weight (K:PySem.W.Frag) (t:Adr):Sp:=fun vs H Q _=>∃ (a:Addr) (k s:Int) (i:Nat) (xs:List Int),vs=[.ref a,.int k,.int s]/\H a=some (.tup (xs.map V.int))/\(k=(i:Int)+1/\i < xs.length/\s=xs.getD i 0)/\Q .non H
theorem ok_check_weight (T:Txt K mg t):FnOk P w K mg base CX0 2 t.a_check_weight t.d_check_weight ["places","weight","taken"] (sp_check_weight K t):=by
 have G_outside:FnOk P w K mg base CX0 1 t.a_outside t.d_outside ["number","low","high"] (sp_outside K t):=ok_outside T
 refine T.F_check_weight.ok sc_check_weight (fun vs H Q E h=>?_) (fun cdv A outer s H vs Q E hr h=>?_)
 . obtain ⟨a,k,s,i,xs,rfl,hT,⟨rfl,hi,rfl⟩,q⟩:=h
   rfl
 . obtain ⟨a,k,s,i,xs,rfl,hT,⟨rfl,hi,rfl⟩,q⟩:=h
   have hr_outside:Room 1 _:=hr.mono (by decide)
   refine⟨_,(pss_cons (ps_if (pt_val (pe_call G_outside hr_outside rfl T.m_outside T.k_outside T.b_outside .nil pass0 (pa_cons (pv 1) (pa_cons pe_int (pa_cons (pe_callB call_len_seq rfl T.n_len PySem.boot_len (pa_cons (pv 0) pa_nil)) pa_nil))))) (pss_one ps_never) pss_nil)
     (pss_one (ps_if (pt_cmpR op_ne (pe_ix ix_tup (pv 0) (pe_op op_sub (pv 1) pe_int) (fun _ _=>rfl)) (pv 2) (nomark _)) (pss_one ps_never) pss_nil))),?_⟩
   have e1:((i:Int)+1 - 1).toNat=i:=by omega
   have a2:atI (xs.map V.int) ((i:Int)+1 - 1)=some (.int (xs.getD i 0)):=by have:=atI_intD (xs:=xs) (i:=(i:Int)+1 - 1) (by omega) (by omega); rw[e1] at this; exact this
   refine⟨_,rfl,_,rfl,a,_,rfl,.inr (SqT.of hT),_,1,_,rfl,_,rfl,?_⟩
   rw[List.length_map]
   refine iteB (out_no (by omega) (by omega)) ?_
   refine⟨_,rfl,_,rfl,_,_,rfl,rfl,a,_,_,_,rfl,rfl,SqT.of hT,a2,_,rfl,rfl,_,rfl,iteB (by simp) q⟩
def sp_check_put (K:PySem.W.Frag) (t:Adr):Sp:=fun vs H Q _=>∃ (b a:Addr) (n r lim s p:Int) (hs xs:List Int),vs=[.ref b,.ref a,.int s,.int p]/\BeamAt t H b n r hs lim/\H a=some (.tup (xs.map V.int))/\((-n<=p/\p<=n)/\p≠s/\(p≠0->(xs.count p:Int) < r))/\Q .non H
theorem ok_check_put (T:Txt K mg t):FnOk P w K mg base CX0 2 t.a_check_put t.d_check_put ["beam","places","taken","put"] (sp_check_put K t):=by
 have G_outside:FnOk P w K mg base CX0 1 t.a_outside t.d_outside ["number","low","high"] (sp_outside K t):=ok_outside T
 have G_full:FnOk P w K mg base CX0 1 t.a_full t.d_full ["beam","places","place"] (sp_full K t):=ok_full T
 refine T.F_check_put.ok sc_check_put (fun vs H Q E h=>?_) (fun cdv A outer s H vs Q E hr h=>?_)
 . obtain ⟨b,a,n,r,lim,s,p,hs,xs,rfl,B,hT,⟨⟨p1,p2⟩,hne,hr'⟩,q⟩:=h
   rfl
 . obtain ⟨b,a,n,r,lim,s,p,hs,xs,rfl,B,hT,⟨⟨p1,p2⟩,hne,hr'⟩,q⟩:=h
   have hr_outside:Room 1 _:=hr.mono (by decide)
   have hr_full:Room 1 _:=hr.mono (by decide)
   refine⟨_,(pss_cons (ps_if (pt_val (pe_call G_outside hr_outside rfl T.m_outside T.k_outside T.b_outside .nil pass0 (pa_cons (pv 3) (pa_cons (pe_un un_neg (pe_fld (pv 0) rfl)) (pa_cons (pe_fld (pv 0) rfl) pa_nil))))) (pss_one ps_never) pss_nil)
     (pss_cons (ps_if (pt_cmpR op_eq (pv 3) (pv 2) (nomark _)) (pss_one ps_never) pss_nil)
     (pss_one (ps_if (pt_val (pe_call G_full hr_full rfl T.m_full T.k_full T.b_full .nil pass0 (pa_cons (pv 0) (pa_cons (pv 1) (pa_cons (pv 3) pa_nil))))) (pss_one ps_never) pss_nil)))),?_⟩
   have B0:=B
   obtain ⟨_,dx,h,hb,hh⟩:=B
   refine⟨_,rfl,_,rfl,b,_,dx,_,_,rfl,hb,T.cl_Beam,T.na_Beam_notches,b_notches _ _ _ _,_,rfl,_,rfl,b,_,dx,_,_,rfl,hb,T.cl_Beam,T.na_Beam_notches,b_notches _ _ _ _,p,-n,n,rfl,_,rfl,iteB (out_no p1 p2) ?_⟩
   refine⟨_,rfl,_,rfl,rfl,_,rfl,?_⟩
   refine iteB (by rw[dec_vint]; exact decide_eq_false hne) ?_
   refine⟨_,rfl,_,rfl,_,rfl,b,a,n,r,lim,p,hs,xs,rfl,B0,hT,_,rfl,?_⟩
   refine iteB (decide_eq_false fun z=>by have:=hr' z.1; omega) q
def sp_check_tilts (K:PySem.W.Frag) (t:Adr):Sp:=fun vs H Q _=>∃ (b:Addr) (n r lim u v:Int) (hs:List Int),vs=[.ref b,.int u,.int v]/\BeamAt t H b n r hs lim/\(absI u<=lim/\absI (u+v)<=lim)/\Q .non H
theorem ok_check_tilts (T:Txt K mg t):FnOk P w K mg base CX0 2 t.a_check_tilts t.d_check_tilts ["beam","held","added"] (sp_check_tilts K t):=by
 have G_past:FnOk P w K mg base CX0 1 t.a_past t.d_past ["beam","tipped"] (sp_past K t):=ok_past T
 refine T.F_check_tilts.ok sc_check_tilts (fun vs H Q E h=>?_) (fun cdv A outer s H vs Q E hr h=>?_)
 . obtain ⟨b,n,r,lim,u,v,hs,rfl,B,⟨h1,h2⟩,q⟩:=h
   rfl
 . obtain ⟨b,n,r,lim,u,v,hs,rfl,B,⟨h1,h2⟩,q⟩:=h
   have hr_past:Room 1 _:=hr.mono (by decide)
   refine⟨_,(pss_cons (ps_if (pt_val (pe_call G_past hr_past rfl T.m_past T.k_past T.b_past .nil pass0 (pa_cons (pv 0) (pa_cons (pv 1) pa_nil)))) (pss_one ps_never) pss_nil)
     (pss_one (ps_if (pt_val (pe_call G_past hr_past rfl T.m_past T.k_past T.b_past .nil pass0 (pa_cons (pv 0) (pa_cons (pe_op op_add (pv 1) (pv 2)) pa_nil)))) (pss_one ps_never) pss_nil))),?_⟩
   refine⟨_,rfl,_,rfl,b,n,r,lim,hs,u,rfl,B,_,rfl,iteB (decide_eq_false (by omega)) ?_⟩
   exact⟨_,rfl,_,rfl,_,rfl,_,_,rfl,rfl,b,n,r,lim,hs,u+v,rfl,B,_,rfl,iteB (decide_eq_false (by omega)) q⟩
def sp_check_move (K:PySem.W.Frag) (t:Adr):Sp:=fun vs H Q _=>∃ (b a:Addr) (n r lim p:Int) (i:Nat) (hs xs:List Int),vs=[.ref b,.ref a,.int ((i:Int)+1),.int (xs.getD i 0),.int p]/\BeamAt t H b n r hs lim/\Valid n r hs.length xs/\H a=some (.tup (xs.map V.int)) ∧
 Lets n r hs lim xs i p/\∀ H',Same H H'->Q .non H'
theorem ok_check_move (T:Txt K mg t):FnOk P w K mg base CX0 5 t.a_check_move t.d_check_move ["beam","places","weight","taken","put"] (sp_check_move K t):=by
 have G_check_weight:FnOk P w K mg base CX0 2 t.a_check_weight t.d_check_weight ["places","weight","taken"] (sp_check_weight K t):=ok_check_weight T
 have G_check_put:FnOk P w K mg base CX0 2 t.a_check_put t.d_check_put ["beam","places","taken","put"] (sp_check_put K t):=ok_check_put T
 have G_check_tilts:FnOk P w K mg base CX0 2 t.a_check_tilts t.d_check_tilts ["beam","held","added"] (sp_check_tilts K t):=ok_check_tilts T
 have G_in_hand:FnOk P w K mg base CX0 4 t.a_in_hand t.d_in_hand ["beam","standing","weight"] (sp_in_hand K t):=ok_in_hand T
 refine T.F_check_move.ok sc_check_move (fun vs H Q E h=>?_) (fun cdv A outer s H vs Q E hr h=>?_)
 . obtain ⟨b,a,n,r,lim,p,i,hs,xs,rfl,B,V0,hT,L,q⟩:=h
   rfl
 . obtain ⟨b,a,n,r,lim,p,i,hs,xs,rfl,B,V0,hT,L,q⟩:=h
   have hr_check_weight:Room 2 _:=hr.mono (by decide)
   have hr_check_put:Room 2 _:=hr.mono (by decide)
   have hr_check_tilts:Room 2 _:=hr.mono (by decide)
   have hr_in_hand:Room 4 _:=hr.mono (by decide)
   refine⟨_,(pss_cons (ps_expr (pe_call G_check_weight hr_check_weight rfl T.m_check_weight T.k_check_weight T.b_check_weight .nil pass0 (pa_cons (pv 1) (pa_cons (pv 2) (pa_cons (pv 3) pa_nil)))))
     (pss_cons (ps_expr (pe_call G_check_put hr_check_put rfl T.m_check_put T.k_check_put T.b_check_put .nil pass0 (pa_cons (pv 0) (pa_cons (pv 1) (pa_cons (pv 3) (pa_cons (pv 4) pa_nil))))))
     (pss_one (ps_expr (pe_call G_check_tilts hr_check_tilts rfl T.m_check_tilts T.k_check_tilts T.b_check_tilts .nil pass0 (pa_cons (pv 0) (pa_cons (pe_call G_in_hand hr_in_hand rfl T.m_in_hand T.k_in_hand T.b_in_hand .nil pass0 (pa_cons (pv 0) (pa_cons (pv 1) (pa_cons (pv 2) pa_nil)))) (pa_cons (pe_op op_mul (pe_ix ix_tup (pe_fld (pv 0) rfl) (pe_op op_sub (pv 2) pe_int) (fun _ _=>rfl)) (pv 4)) pa_nil)))))))),?_⟩
   refine⟨_,rfl,_,rfl,_,rfl,a,_,_,i,xs,rfl,hT,⟨rfl,L.lt,rfl⟩,?_⟩
   refine⟨_,rfl,_,rfl,_,rfl,_,rfl,b,a,n,r,lim,_,p,hs,xs,rfl,B,hT,⟨L.on,L.ne,L.room⟩,?_⟩
   refine⟨_,rfl,_,rfl,_,rfl,_,rfl,b,a,n,r,lim,_,i,hs,xs,rfl,B,V0,.inr hT,⟨rfl,L.lt⟩,fun H1 s1=>?_⟩
   obtain ⟨_,dx,h,hb,hh⟩:=B.same s1
   have hlen:=V0.len
   have hi:=L.lt
   have e1:((i:Int)+1 - 1).toNat=i:=by omega
   have a1:atI (hs.map V.int) ((i:Int)+1 - 1)=some (.int (hs.getD i 0)):=by have:=atI_intD (xs:=hs) (i:=(i:Int)+1 - 1) (by omega) (by omega); rw[e1] at this; exact this
   have hm:=B.1.h (hs.getD i 0) (getD_mem (by omega))
   exact⟨_,rfl,b,_,dx,_,_,rfl,hb,T.cl_Beam,T.na_Beam_hefts,b_hefts _ _ _ _,_,rfl,_,_,rfl,rfl,h,_,_,_,rfl,rfl,SqT.of hh,a1,_,rfl,_,_,rfl,rfl,.inl ⟨by omega,by omega⟩,b,n,r,lim,_,_,hs,rfl,B.same s1,⟨L.held,L.behind⟩,q _ s1⟩
def sp_moved (K:PySem.W.Frag) (t:Adr):Sp:=fun vs H Q _=>∃ (b a m:Addr) (n r lim p:Int) (i:Nat) (hs xs:List Int),vs=[.ref b,.ref a,.ref m]/\BeamAt t H b n r hs lim/\Valid n r hs.length xs/\(SqL K H a (xs.map V.int)\/H a=some (.tup (xs.map V.int))) ∧
 Mv K H m ((i:Int)+1) (xs.getD i 0) p/\Lets n r hs lim xs i p/\∀ l H',Same H H'->H' l=some (.tup ((xs.set i p).map V.int))->Q (.ref l) H'
theorem ok_moved (T:Txt K mg t):FnOk P w K mg base CX0 6 t.a_moved t.d_moved ["beam","standing","move"] (sp_moved K t):=by
 have G_as_standing:FnOk P w K mg base CX0 2 t.a_as_standing t.d_as_standing ["beam","standing"] (sp_as_standing K t):=ok_as_standing T
 have G_check_move:FnOk P w K mg base CX0 5 t.a_check_move t.d_check_move ["beam","places","weight","taken","put"] (sp_check_move K t):=ok_check_move T
 have G_behind:FnOk P w K mg base CX0 1 t.a_behind t.d_behind ["places","move"] (sp_behind K t):=ok_behind T
 refine T.F_moved.ok sc_moved (fun vs H Q E h=>?_) (fun cdv A outer s H vs Q E hr h=>?_)
 . obtain ⟨b,a,m,n,r,lim,p,i,hs,xs,rfl,B,V0,hS,hM,L,q⟩:=h
   rfl
 . obtain ⟨b,a,m,n,r,lim,p,i,hs,xs,rfl,B,V0,hS,hM,L,q⟩:=h
   have hr_as_standing:Room 2 _:=hr.mono (by decide)
   have hr_check_move:Room 5 _:=hr.mono (by decide)
   have hr_behind:Room 1 _:=hr.mono (by decide)
   refine⟨_,(pss_cons (ps_set (i:=3) sc_moved.nd rfl (Or.inl rfl) (pe_call G_as_standing hr_as_standing rfl T.m_as_standing T.k_as_standing T.b_as_standing .nil pass0 (pa_cons (pv 0) (pa_cons (pv 1) pa_nil))))
     (pss_cons (ps_expr (pe_call G_check_move hr_check_move rfl T.m_check_move T.k_check_move T.b_check_move .nil pass0 (pa_cons (pv 0) (pa_cons (pv 3) (pa_cons (pe_ix ix_seq (pv 2) pe_int (fun _ _=>rfl)) (pa_cons (pe_ix ix_seq (pv 2) pe_int (fun _ _=>rfl)) (pa_cons (pe_ix ix_seq (pv 2) pe_int (fun _ _=>rfl)) pa_nil)))))))
     (pss_one (ps_ret (pe_call G_behind hr_behind rfl T.m_behind T.k_behind T.b_behind .nil pass0 (pa_cons (pv 3) (pa_cons (pv 2) pa_nil))))))),?_⟩
   refine⟨_,rfl,_,rfl,b,a,n,r,lim,hs,xs,rfl,B,V0,hS,fun l H1 s1 hl=>?_⟩
   have M1:=(hM.same s1).ix
   refine⟨_,rfl,_,rfl,_,rfl,M1.1 _ ⟨_,rfl,M1.2.1 _ ⟨_,rfl,M1.2.2 _ ?_⟩⟩⟩
   refine⟨b,l,n,r,lim,p,i,hs,xs,rfl,B.same s1,V0,hl,L,fun H2 s2=>?_⟩
   have:=B.1.w
   have:=V0.len
   exact⟨_,rfl,_,rfl,l,m,_,_,p,i,xs,rfl,s2 _ _ hl,hM.same (s1.trans s2),⟨rfl,L.lt,by omega⟩,fun l3 H3 s3 h3=>q l3 H3 (s1.trans (s2.trans s3)) h3⟩
/-! ### the places to which a weight may be put; the moves of a standing -/
def grid (n:Int) (j:Nat):List Int:=(List.range j).map fun (k:Nat)=>-n+(k:Int)
def putsL (n r:Int) (hs:List Int) (lim:Int) (xs:List Int) (i j:Nat):List Int:=(grid n j).filter fun p=>decide (Lets n r hs lim xs i p)
theorem putsL_len (n r:Int) (hs:List Int) (lim:Int) (xs:List Int) (i j:Nat):(putsL n r hs lim xs i j).length<=j:=by
 unfold putsL grid
 refine Nat.le_trans (List.length_filter_le _ _) ?_
 simp
theorem putsL_nil {n r:Int} {hs:List Int} {lim:Int} {xs:List Int} {i:Nat} (j:Nat) (h:¬ absI (heldOf hs xs i)<=lim):putsL n r hs lim xs i j=[]:=by
 unfold putsL
 rw[List.filter_eq_nil_iff]
 intro p _
 have:¬ Lets n r hs lim xs i p:=fun L=>h L.held
 simp[this]
def wide (n:Int):Nat:=(n+1 - -n).toNat
def rowsL (n r:Int) (hs:List Int) (lim:Int) (xs:List Int) (i:Nat):List (Nat × Int):=(List.range i).flatMap fun k=>(putsL n r hs lim xs k (wide n)).map fun p=>(k,p)
theorem rowsL_succ (n r:Int) (hs:List Int) (lim:Int) (xs:List Int) (i:Nat):rowsL n r hs lim xs (i+1)=rowsL n r hs lim xs i++(putsL n r hs lim xs i (wide n)).map fun p=>(i,p):=by
 unfold rowsL
 rw[List.range_succ,List.flatMap_append]
 simp
theorem rowsL_len (n r:Int) (hs:List Int) (lim:Int) (xs:List Int):∀ i,(rowsL n r hs lim xs i).length<=i*wide n
 | 0=>by simp[rowsL]
 | i+1=>by
   rw[rowsL_succ,List.length_append,List.length_map,Nat.succ_mul]
   have:=rowsL_len n r hs lim xs i
   have:=putsL_len n r hs lim xs i (wide n)
   omega
end
end Bt
namespace Bt
open PySem L2
section
variable {P:Program} {w:World} {K:PySem.W.Frag} {mg:Str->Option Value} {base:Heap} {t:Adr}
/-! ### a play -/
def pflds (b s x m:Addr):List (Str × V):=[("beam",.ref b),("start",.ref s),("standing",.ref x),("made",.ref m)]
theorem pf_ne1:¬ ("beam" : Str) = "start":=by decide +kernel
theorem pf_ne2:¬ ("beam" : Str) = "standing":=by decide +kernel
theorem pf_ne3:¬ ("start" : Str) = "standing":=by decide +kernel
theorem pf_ne4:¬ ("beam" : Str) = "made":=by decide +kernel
theorem pf_ne5:¬ ("start" : Str) = "made":=by decide +kernel
theorem pf_ne6:¬ ("standing" : Str) = "made":=by decide +kernel
theorem pfN {f:Str} {v:V}:putF f v []=[(f,v)]:=rfl
theorem pfC {f g:Str} {v x:V} {l:List (Str × V)} (h:¬ g=f):putF f v ((g,x)::l)=(g,x)::putF f v l:=if_neg h
theorem pfE {f:Str} {v x:V} {l:List (Str × V)}:putF f v ((f,x)::l)=(f,v)::l:=if_pos rfl
theorem pf_mk (b s x m:Addr):putF "made" (.ref m) (putF "standing" (.ref x) (putF "start" (.ref s) (putF "beam" (.ref b) [])))=pflds b s x m:=by
 rw[pfN,pfC pf_ne1,pfN,pfC pf_ne2,pfC pf_ne3,pfN,pfC pf_ne4,pfC pf_ne5,pfC pf_ne6,pfN]
 rfl
theorem pf_set (b s x x' m:Addr):putF "standing" (.ref x') (pflds b s x m)=pflds b s x' m:=by
 unfold pflds
 rw[pfC pf_ne2,pfC pf_ne3,pfE]
theorem pf_beam (b s x m:Addr):(pflds b s x m).lookup ("beam" : Str)=some (.ref b):=by rw[<-pf_mk,lookup_putF,if_neg pf_ne4,lookup_putF,if_neg pf_ne2,lookup_putF,if_neg pf_ne1,lookup_putF,if_pos rfl]
theorem pf_start (b s x m:Addr):(pflds b s x m).lookup ("start" : Str)=some (.ref s):=by rw[<-pf_mk,lookup_putF,if_neg pf_ne5,lookup_putF,if_neg pf_ne3,lookup_putF,if_pos rfl]
theorem pf_standing (b s x m:Addr):(pflds b s x m).lookup ("standing" : Str)=some (.ref x):=by rw[<-pf_mk,lookup_putF,if_neg pf_ne6,lookup_putF,if_pos rfl]
theorem pf_made (b s x m:Addr):(pflds b s x m).lookup ("made" : Str)=some (.ref m):=by rw[<-pf_mk,lookup_putF,if_pos rfl]
theorem pf_no (b s x m:Addr) (f:Str) (h1:¬ f = "made") (h2:¬ f = "standing") (h3:¬ f = "start") (h4:¬ f = "beam"):(pflds b s x m).lookup f=none:=by rw[<-pf_mk,lookup_putF,if_neg h1,lookup_putF,if_neg h2,lookup_putF,if_neg h3,lookup_putF,if_neg h4]; rfl
theorem pf_move (b s x m:Addr):(pflds b s x m).lookup ("move" : Str)=none:=pf_no _ _ _ _ _ (by decide +kernel) (by decide +kernel) (by decide +kernel) (by decide +kernel)
theorem pf_back (b s x m:Addr):(pflds b s x m).lookup ("back" : Str)=none:=pf_no _ _ _ _ _ (by decide +kernel) (by decide +kernel) (by decide +kernel) (by decide +kernel)
theorem pf_trail (b s x m:Addr):(pflds b s x m).lookup ("trail" : Str)=none:=pf_no _ _ _ _ _ (by decide +kernel) (by decide +kernel) (by decide +kernel) (by decide +kernel)
theorem pf_len (b s x m:Addr):(pflds b s x m).length < 1000:=by show 4 < 1000; decide
def Same2 (p m:Addr) (H H':Hp):Prop:=∀ b o,H b=some o->b≠p->b≠m->H' b=some o
theorem Same2.tup {p m:Addr} {H H':Hp} (s:Same2 p m H H') (hp:∃ C dx fs,H p=some (.ins C dx fs)) (hm:∃ ys,H m=some (.lst ys)) {a:Addr} {vs:List V} (h:H a=some (.tup vs)):H' a=some (.tup vs) :=
 s a _ h (fun z=>by obtain ⟨C,dx,fs,e⟩:=hp; rw[z,e] at h; cases h) (fun z=>by obtain ⟨ys,e⟩:=hm; rw[z,e] at h; cases h)
theorem Same2.tups {p m:Addr} {H H':Hp} (s:Same2 p m H H') (hp:∃ C dx fs,H p=some (.ins C dx fs)) (hm:∃ ys,H m=some (.lst ys)) {ys:List V} {ks:List (List Int)} (h:Tups H ys ks):Tups H' ys ks:=Paired.mapP h fun y k ⟨b,e,hb⟩=>⟨b,e,s.tup hp hm hb⟩
structure PlayAt (t:Adr) (H:Hp) (p b s x m:Addr) (n r:Int) (hs:List Int) (lim:Int) (a c:List Int) (ys:List V) (ms:List (List Int)):Prop where
 bm:BeamAt t H b n r hs lim
 nb:b≠p
 hp:∃ dx,H p=some (.ins t.c_Play dx (pflds b s x m))
 hs:H s=some (.tup (a.map V.int))
 hx:H x=some (.tup (c.map V.int))
 hm:H m=some (.lst ys)
 tm:Tups H ys ms
theorem BeamAt.same2 {t:Adr} {H H':Hp} {b p m:Addr} {n r lim:Int} {hs:List Int} (B:BeamAt t H b n r hs lim) (s:Same2 p m H H') (nb:b≠p) (hp:∃ C dx fs,H p=some (.ins C dx fs)) (hm:∃ ys,H m=some (.lst ys)):BeamAt t H' b n r hs lim:=by
 obtain ⟨ok,dx,h,hb,hh⟩:=B
 exact⟨ok,dx,h,s b _ hb nb (fun z=>by obtain ⟨ys,e⟩:=hm; rw[z,e] at hb; cases hb),s.tup hp hm hh⟩
theorem PlayAt.same {t:Adr} {H H':Hp} {p b s x m:Addr} {n r lim:Int} {hs a c:List Int} {ys:List V} {ms:List (List Int)} (h:PlayAt t H p b s x m n r hs lim a c ys ms) (e:Same H H'):PlayAt t H' p b s x m n r hs lim a c ys ms :=
 ⟨h.bm.same e,h.nb,let ⟨dx,z⟩:=h.hp; ⟨dx,e _ _ z⟩,e _ _ h.hs,e _ _ h.hx,e _ _ h.hm,e.tups h.tm⟩
theorem PlayAt.ip {t:Adr} {H:Hp} {p b s x m:Addr} {n r lim:Int} {hs a c:List Int} {ys:List V} {ms:List (List Int)} (h:PlayAt t H p b s x m n r hs lim a c ys ms):∃ C dx fs,H p=some (.ins C dx fs):=let ⟨dx,z⟩:=h.hp; ⟨_,dx,_,z⟩
theorem Same.two {H H':Hp} (s:Same H H') (p m:Addr):Same2 p m H H':=fun b o e _ _=>s b o e
theorem Same2.trans {p m:Addr} {H H1 H2:Hp} (s:Same2 p m H H1) (s':Same2 p m H1 H2):Same2 p m H H2:=fun b o e h1 h2=>s' b o (s b o e h1 h2) h1 h2
theorem Same2.updP {p m:Addr} {H H1:Hp} {o:HO} (s:Same2 p m H H1):Same2 p m H (upd H1 p o):=fun b u e h1 h2=>by rw[upd_ne h1]; exact s b u e h1 h2
theorem Same2.updM {p m:Addr} {H H1:Hp} {o:HO} (s:Same2 p m H H1):Same2 p m H (upd H1 m o):=fun b u e h1 h2=>by rw[upd_ne h2]; exact s b u e h1 h2
def sp_Play_init (K:PySem.W.Frag) (t:Adr):Sp:=fun vs H Q _=>∃ (p b a dx:Addr) (n r lim:Int) (hs xs:List Int),vs=[.ref p,.ref b,.ref a]/\H p=some (.ins t.c_Play dx [])/\b≠p/\BeamAt t H b n r hs lim/\Valid n r hs.length xs/\(SqL K H a (xs.map V.int)\/H a=some (.tup (xs.map V.int)))/\absI (tiltOf hs xs)<=lim ∧
 ∀ H' s m,SameX p H H'->H m=none->PlayAt t H' p b s s m n r hs lim xs xs [] []->Q .non H'
theorem ok_Play_init (T:Txt K mg t):FnOk P w K mg base CX0 5 t.a_Play_init t.d_Play_init ["self","beam","start"] (sp_Play_init K t):=by
 have G_as_standing:FnOk P w K mg base CX0 2 t.a_as_standing t.d_as_standing ["beam","standing"] (sp_as_standing K t):=ok_as_standing T
 have G_keeps:FnOk P w K mg base CX0 4 t.a_keeps t.d_keeps ["beam","standing"] (sp_keeps K t):=ok_keeps T
 refine T.F_Play_init.ok sc_Play_init (fun vs H Q E h=>?_) (fun cdv A outer s H vs Q E hr h=>?_)
 . obtain ⟨p,b,a,dx,n,r,lim,hs,xs,rfl,hp,nb,B,V0,hS,k0,q⟩:=h
   rfl
 . obtain ⟨p,b,a,dx,n,r,lim,hs,xs,rfl,hp,nb,B,V0,hS,k0,q⟩:=h
   have hr_as_standing:Room 2 _:=hr.mono (by decide)
   have hr_keeps:Room 4 _:=hr.mono (by decide)
   refine⟨_,(pss_cons (ps_set (i:=3) sc_Play_init.nd rfl (Or.inl rfl) (pe_call G_as_standing hr_as_standing rfl T.m_as_standing T.k_as_standing T.b_as_standing .nil pass0 (pa_cons (pv 1) (pa_cons (pv 2) pa_nil))))
     (pss_cons (ps_if (pt_not (pt_val (pe_call G_keeps hr_keeps rfl T.m_keeps T.k_keeps T.b_keeps .nil pass0 (pa_cons (pv 1) (pa_cons (pv 3) pa_nil))))) (pss_one ps_never) pss_nil)
     (pss_cons (ps_fld (pv 0) (pv 1) rfl)
     (pss_cons (ps_fld (pv 0) (pv 3) rfl)
     (pss_cons (ps_fld (pv 0) (pv 3) rfl)
     (pss_one (ps_fld (pv 0) (pe_lst pa_nil) rfl))))))),?_⟩
   refine⟨_,rfl,_,rfl,b,a,n,r,lim,hs,xs,rfl,B,V0,hS,fun l H1 s1 hl=>?_⟩
   refine⟨_,rfl,_,rfl,b,l,n,r,lim,hs,xs,rfl,B.same s1,V0,.inr hl,fun H2 s2=>⟨_,rfl,?_⟩⟩
   rw[decide_eq_true k0]
   refine iteF ?_
   have s02:=s1.trans s2
   have hl2:=s2 _ _ hl
   have nl:l≠p:=fun z=>by rw[z,s02 _ _ hp] at hl2; cases hl2
   refine⟨_,rfl,_,rfl,p,_,dx,_,rfl,s02 _ _ hp,T.cl_Play,T.na_Play_beam,by decide,?_⟩
   refine⟨_,rfl,_,rfl,p,_,dx,_,rfl,upd_same,T.cl_Play,T.na_Play_start,fl1000 fl0,?_⟩
   refine⟨_,rfl,_,rfl,p,_,dx,_,rfl,upd_same,T.cl_Play,T.na_Play_standing,fl1000 (flS fl0),?_⟩
   rw[upd_upd,upd_upd]
   refine⟨Nat.zero_le _,fun m fm=>?_⟩
   have nm:m≠p:=fun z=>by rw[z,upd_same] at fm; cases fm
   refine⟨_,rfl,p,_,dx,_,rfl,by rw[upd_ne nm.symm]; exact upd_same,T.cl_Play,T.na_Play_made,fl1000 (flS (flS fl0)),?_⟩
   rw[pf_mk]
   rw[upd_ne nm] at fm
   have s3:SameX p H (upd (upd (upd H2 p (.ins t.c_Play dx (putF "standing" (.ref l) (putF "start" (.ref l) (putF "beam" (.ref b) []))))) m (.lst [])) p (.ins t.c_Play dx (pflds b l l m))):=fun c o e hc=>by
     rw[upd_ne hc,upd_ne (ne_of_none (s02 _ _ e) fm),upd_ne hc]
     exact s02 _ _ e
   have hl3:(upd (upd (upd H2 p (.ins t.c_Play dx (putF "standing" (.ref l) (putF "start" (.ref l) (putF "beam" (.ref b) []))))) m (.lst [])) p (.ins t.c_Play dx (pflds b l l m))) l=some (.tup (xs.map V.int)):=by
     rw[upd_ne nl,upd_ne (ne_of_none hl2 fm),upd_ne nl]
     exact hl2
   refine q _ l m s3 (s02.free fm) ⟨?_,nb,⟨dx,upd_same⟩,hl3,hl3,by rw[upd_ne nm]; exact upd_same,.nil⟩
   obtain ⟨ok,dx',h,hb,hh⟩:=B
   exact⟨ok,dx',h,s3 _ _ hb nb,s3 _ _ hh (fun z=>by rw[z,hp] at hh; cases hh)⟩
def sp_Play_move (K:PySem.W.Frag) (t:Adr):Sp:=fun vs H Q _=>∃ (p mv b s x m:Addr) (n r lim qq:Int) (hs a c:List Int) (ys:List V) (ms:List (List Int)) (i:Nat),vs=[.ref p,.ref mv]/\PlayAt t H p b s x m n r hs lim a c ys ms/\Valid n r hs.length c/\(H mv=some (.lst [.int ((i:Int)+1),.int (c.getD i 0),.int qq])\/H mv=some (.tup [.int ((i:Int)+1),.int (c.getD i 0),.int qq]))/\mv≠m/\Lets n r hs lim c i qq/\ys.length < 300 ∧
 ∀ x' tv H',Same2 p m H H'->PlayAt t H' p b s x' m n r hs lim a (c.set i qq) (ys++[.ref tv]) (ms++[[(i:Int)+1,c.getD i 0,qq]])->Q (.ref x') H'
theorem ok_Play_move (T:Txt K mg t):FnOk P w K mg base CX0 7 t.a_Play_move t.d_Play_move ["self","move"] (sp_Play_move K t):=by
 have G_moved:FnOk P w K mg base CX0 6 t.a_moved t.d_moved ["beam","standing","move"] (sp_moved K t):=ok_moved T
 refine T.F_Play_move.ok sc_Play_move (fun vs H Q E h=>?_) (fun cdv A outer s H vs Q E hr h=>?_)
 . obtain ⟨p,mv,b,s,x,m,n,r,lim,qq,hs,a,c,ys,ms,i,rfl,P0,V0,hM,nm,L,hy,q⟩:=h
   rfl
 . obtain ⟨p,mv,b,s,x,m,n,r,lim,qq,hs,a,c,ys,ms,i,rfl,P0,V0,hM,nm,L,hy,q⟩:=h
   have hr_moved:Room 6 _:=hr.mono (by decide)
   refine⟨_,(pss_cons (ps_if (pt_cmpR op_ge (pe_callB call_len_seq rfl T.n_len PySem.boot_len (pa_cons (pe_fld (pv 0) rfl) pa_nil)) (pe_glob (v:=.int 300) rfl T.g_MOST_MOVES ⟨_,rfl⟩) (nomark _)) (pss_one ps_never) pss_nil)
     (pss_cons (ps_fld (pv 0) (pe_call G_moved hr_moved rfl T.m_moved T.k_moved T.b_moved .nil pass0 (pa_cons (pe_fld (pv 0) rfl) (pa_cons (pe_fld (pv 0) rfl) (pa_cons (pv 1) pa_nil)))) rfl)
     (pss_cons (ps_expr (pe_bm PySem.F.plainAttrs_list PySem.F.slot_list_append PySem.F.type_list_append mt_append (pe_fld (pv 0) rfl) (pa_cons (pe_callTy call_tuple_of rfl T.n_tuple PyProof.Rows.boot_tuple (pa_cons (pv 1) pa_nil)) pa_nil)))
     (pss_one (ps_ret (pe_fld (pv 0) rfl)))))),?_⟩
   obtain ⟨dx,hp⟩:=P0.hp
   refine⟨_,rfl,p,_,dx,_,_,rfl,hp,T.cl_Play,T.na_Play_made,pf_made _ _ _ _,m,_,rfl,.inl (SqL.of P0.hm),_,_,rfl,rfl,_,rfl,iteB (decide_eq_false (by omega)) ?_⟩
   refine⟨_,rfl,p,_,dx,_,_,rfl,hp,T.cl_Play,T.na_Play_beam,pf_beam _ _ _ _,_,rfl,p,_,dx,_,_,rfl,hp,T.cl_Play,T.na_Play_standing,pf_standing _ _ _ _,_,rfl,b,x,mv,n,r,lim,qq,i,hs,c,rfl,P0.bm,V0,.inr P0.hx,hM.imp SqL.of SqT.of,L,fun x' H1 s1 hx'=>?_⟩
   have P1:=P0.same s1
   have hp1:=s1 _ _ hp
   refine⟨_,rfl,p,_,dx,_,rfl,hp1,T.cl_Play,T.na_Play_standing,pf_len _ _ _ _,?_⟩
   rw[pf_set]
   have s2:Same2 p m H1 (upd H1 p (.ins t.c_Play dx (pflds b s x' m))):=(Same.two (Same.refl H1) p m).updP
   have hp2:(upd H1 p (.ins t.c_Play dx (pflds b s x' m))) p=some (.ins t.c_Play dx (pflds b s x' m)):=upd_same
   have nmp:m≠p:=fun z=>by have:=P1.hm; rw[z,hp1] at this; cases this
   have hm2:(upd H1 p (.ins t.c_Play dx (pflds b s x' m))) m=some (.lst ys):=by rw[upd_ne nmp]; exact P1.hm
   have P2:PlayAt t (upd H1 p (.ins t.c_Play dx (pflds b s x' m))) p b s x' m n r hs lim a (c.set i qq) ys ms:=⟨P1.bm.same2 s2 P1.nb P1.ip ⟨_,P1.hm⟩,P1.nb,⟨dx,hp2⟩,s2.tup P1.ip ⟨_,P1.hm⟩ P1.hs,s2.tup P1.ip ⟨_,P1.hm⟩ hx',hm2,s2.tups P1.ip ⟨_,P1.hm⟩ P1.tm⟩
   have hM1:=hM.imp (s1 _ _) (s1 _ _)
   have hM2:(upd H1 p (.ins t.c_Play dx (pflds b s x' m))) mv=some (.lst [.int ((i:Int)+1),.int (c.getD i 0),.int qq])\/(upd H1 p (.ins t.c_Play dx (pflds b s x' m))) mv=some (.tup [.int ((i:Int)+1),.int (c.getD i 0),.int qq]):=by
     have np:mv≠p:=fun z=>by rcases hM1 with h | h <;> (rw[z,hp1] at h; cases h)
     rw[upd_ne np]
     exact hM1
   have s02:Same2 p m H (upd H1 p (.ins t.c_Play dx (pflds b s x' m))):=(Same.two s1 p m).trans s2
   revert P2 hp2 hm2 hM2 s02
   generalize upd H1 p (.ins t.c_Play dx (pflds b s x' m))=H2
   intro hp2 hm2 P2 hM2 s02
   have fin:∀ (tv:Addr) (H3:Hp),Same H2 H3->H3 tv=some (.tup [.int ((i:Int)+1),.int (c.getD i 0),.int qq])->PlayAt t (upd H3 m (.lst (ys++[.ref tv]))) p b s x' m n r hs lim a (c.set i qq) (ys++[.ref tv]) (ms++[[(i:Int)+1,c.getD i 0,qq]])/\Same2 p m H (upd H3 m (.lst (ys++[.ref tv]))):=fun tv H3 s3 h3=>by
     have P3:=P2.same s3
     have s4:Same2 p m H3 (upd H3 m (.lst (ys++[.ref tv]))):=(Same.two (Same.refl H3) p m).updM
     have ip:=P3.ip
     have im:∃ ys,H3 m=some (.lst ys):=⟨_,P3.hm⟩
     exact⟨⟨P3.bm.same2 s4 P3.nb ip im,P3.nb,⟨dx,by rw[upd_ne nmp.symm]; exact s3 _ _ hp2⟩,s4.tup ip im P3.hs,s4.tup ip im P3.hx,upd_same,tups_snoc (s4.tups ip im P3.tm) (s4.tup ip im h3)⟩,(s02.trans (Same.two s3 p m)).trans s4⟩
   refine⟨_,rfl,p,_,dx,_,_,rfl,hp2,T.cl_Play,T.na_Play_made,pf_made _ _ _ _,.inl ⟨rfl,_,SqL.of hm2⟩,_,rfl,mv,[.int ((i:Int)+1),.int (c.getD i 0),.int qq],rfl,?_⟩
   rcases hM2 with hM2 | hM2
   . refine .inl ⟨SqL.of hM2,fun tv ftv=>⟨m,_,_,rfl,rfl,Same.upd ftv _ _ hm2,small1000 (by omega),?_⟩⟩
     obtain ⟨P4,s4⟩:=fin tv _ (Same.upd ftv) upd_same
     obtain ⟨dx4,hp4⟩:=P4.hp
     exact⟨_,rfl,p,_,dx4,_,_,rfl,hp4,T.cl_Play,T.na_Play_standing,pf_standing _ _ _ _,q x' tv _ s4 P4⟩
   . refine .inr ⟨SqT.of hM2,m,_,_,rfl,rfl,hm2,small1000 (by omega),?_⟩
     obtain ⟨P4,s4⟩:=fin mv _ (Same.refl _) hM2
     obtain ⟨dx4,hp4⟩:=P4.hp
     exact⟨_,rfl,p,_,dx4,_,_,rfl,hp4,T.cl_Play,T.na_Play_standing,pf_standing _ _ _ _,q x' mv _ s4 P4⟩
def sp_Play_trail (K:PySem.W.Frag) (t:Adr):Sp:=fun vs H Q _=>∃ (p b s x m:Addr) (n r lim:Int) (hs a c:List Int) (ys:List V) (ms:List (List Int)),vs=[.ref p]/\PlayAt t H p b s x m n r hs lim a c ys ms/\∀ l,H l=none->Q (.ref l) (upd H l (.lst ys))
theorem ok_Play_trail (T:Txt K mg t):FnOk P w K mg base CX0 1 t.a_Play_trail t.d_Play_trail ["self"] (sp_Play_trail K t):=by
 refine T.F_Play_trail.ok sc_Play_trail (fun vs H Q E h=>?_) (fun cdv A outer s H vs Q E hr h=>?_)
 . obtain ⟨p,b,s,x,m,n,r,lim,hs,a,c,ys,ms,rfl,P0,q⟩:=h
   rfl
 . obtain ⟨p,b,s,x,m,n,r,lim,hs,a,c,ys,ms,rfl,P0,q⟩:=h
   refine⟨_,(pss_one (ps_ret (pe_callTy call_list_of rfl T.n_list PyProof.Rows.boot_list (pa_cons (pe_fld (pv 0) rfl) pa_nil)))),?_⟩
   obtain ⟨dx,hp⟩:=P0.hp
   exact⟨_,rfl,p,_,dx,_,_,rfl,hp,T.cl_Play,T.na_Play_made,pf_made _ _ _ _,m,_,rfl,.inl (SqL.of P0.hm),fun l fl=>q l fl⟩
def sp_Play_back (K:PySem.W.Frag) (t:Adr):Sp:=fun vs H Q _=>∃ (p b s x m:Addr) (n r lim:Int) (hs a c:List Int) (ys:List V) (ms:List (List Int)),vs=[.ref p]/\PlayAt t H p b s x m n r hs lim a c ys ms/\c.length<=5/\ys.length<=300 ∧
 (∃ (ys0:List V) (ms0:List (List Int)) (tv:Addr) (i:Nat) (u v:Int),ys=ys0++[.ref tv]/\ms=ms0++[[(i:Int)+1,u,v]]/\H tv=some (.tup [.int ((i:Int)+1),.int u,.int v])/\i < c.length/\∀ x' H',Same2 p m H H'->PlayAt t H' p b s x' m n r hs lim a (c.set i u) ys0 ms0->Q (.ref tv) H')
theorem ok_Play_back (T:Txt K mg t):FnOk P w K mg base CX0 2 t.a_Play_back t.d_Play_back ["self"] (sp_Play_back K t):=by
 have G_behind:FnOk P w K mg base CX0 1 t.a_behind t.d_behind ["places","move"] (sp_behind K t):=ok_behind T
 have G_turned:FnOk P w K mg base CX0 1 t.a_turned t.d_turned ["move"] (sp_turned K t):=ok_turned T
 refine T.F_Play_back.ok sc_Play_back (fun vs H Q E h=>?_) (fun cdv A outer s H vs Q E hr h=>?_)
 . obtain ⟨p,b,s,x,m,n,r,lim,hs,a,c,ys,ms,rfl,P0,hc5,hy3,q⟩:=h
   rfl
 . obtain ⟨p,b,s,x,m,n,r,lim,hs,a,c,ys,ms,rfl,P0,hc5,hy3,q⟩:=h
   have hr_behind:Room 1 _:=hr.mono (by decide)
   have hr_turned:Room 1 _:=hr.mono (by decide)
   refine⟨_,(pss_cons (ps_if (pt_cmpR op_eq (pe_callB call_len_seq rfl T.n_len PySem.boot_len (pa_cons (pe_fld (pv 0) rfl) pa_nil)) pe_int (nomark _)) (pss_one ps_never) pss_nil)
     (pss_cons (ps_set (i:=1) sc_Play_back.nd rfl (Or.inl rfl) (pe_bm0 PySem.F.plainAttrs_list PySem.F.slot_list_pop PySem.F.type_list_pop mt_pop (pe_fld (pv 0) rfl)))
     (pss_cons (ps_fld (pv 0) (pe_call G_behind hr_behind rfl T.m_behind T.k_behind T.b_behind .nil pass0 (pa_cons (pe_fld (pv 0) rfl) (pa_cons (pe_call G_turned hr_turned rfl T.m_turned T.k_turned T.b_turned .nil pass0 (pa_cons (pv 1) pa_nil)) pa_nil))) rfl)
     (pss_one (ps_ret (pv 1)))))),?_⟩
   obtain ⟨dx,hp⟩:=P0.hp
   obtain ⟨ys0,ms0,tv,i,u,v,rfl,rfl,htv,hi,q⟩:=q
   refine⟨_,rfl,p,_,dx,_,_,rfl,hp,T.cl_Play,T.na_Play_made,pf_made _ _ _ _,m,_,rfl,.inl (SqL.of P0.hm),rfl,_,rfl,iteB (by rw[dec_vint]; simp; omega) ?_⟩
   have hm:=P0.hm
   have nmp:m≠p:=fun z=>by rw[z,hp] at hm; cases hm
   have hl:(ys0++[V.ref tv])[(ys0++[V.ref tv]).length - 1]?=some (.ref tv):=by rw[List.length_append]; simp
   refine⟨_,rfl,p,_,dx,_,_,rfl,hp,T.cl_Play,T.na_Play_made,pf_made _ _ _ _,.inl ⟨rfl,_,SqL.of hm⟩,m,_,_,rfl,rfl,hm,hl,?_⟩
   rw[List.dropLast_concat]
   have s1:Same2 p m H (upd H m (.lst ys0)):=(Same.two (Same.refl H) p m).updM
   have ip:=P0.ip
   have im:∃ ys,H m=some (.lst ys):=⟨_,hm⟩
   have hp1:(upd H m (.lst ys0)) p=some (.ins t.c_Play dx (pflds b s x m)):=by rw[upd_ne nmp.symm]; exact hp
   have hm1:(upd H m (.lst ys0)) m=some (.lst ys0):=upd_same
   have tm0:Tups H ys0 ms0:=by
     have key:∀ {ys:List V} {ks:List (List Int)} {y:V} {k:List Int},Tups H (ys++[y]) (ks++[k])->Tups H ys ks:=by
       intro ys
       induction ys with
       | nil =>
         intro ks y k h
         cases ks with
         | nil=>exact .nil
         | cons k' ks=>have:=tups_len h; simp at this
       | cons y' ys ih =>
         intro ks y k h
         cases ks with
         | nil=>have:=tups_len h; simp at this
         | cons k' ks=>cases h with | cons a t=>exact .cons a (ih t)
     exact key P0.tm
   have P1:PlayAt t (upd H m (.lst ys0)) p b s x m n r hs lim a c ys0 ms0:=⟨P0.bm.same2 s1 P0.nb ip im,P0.nb,⟨dx,hp1⟩,s1.tup ip im P0.hs,s1.tup ip im P0.hx,hm1,s1.tups ip im tm0⟩
   have htv1:=s1.tup ip im htv
   revert s1 hp1 hm1 P1 htv1
   generalize upd H m (.lst ys0)=H1
   intro s1 hp1 hm1 P1 htv1
   refine⟨_,rfl,p,_,dx,_,_,rfl,hp1,T.cl_Play,T.na_Play_standing,pf_standing _ _ _ _,_,rfl,tv,(i:Int)+1,u,v,rfl,.inr (SqT.of htv1),fun l2 f2=>?_⟩
   have s2:Same H1 (upd H1 l2 (.tup [.int ((i:Int)+1),.int v,.int u])):=Same.upd f2
   have h2:(upd H1 l2 (.tup [.int ((i:Int)+1),.int v,.int u])) l2=some (.tup [.int ((i:Int)+1),.int v,.int u]):=upd_same
   revert s2 h2
   generalize upd H1 l2 (.tup [.int ((i:Int)+1),.int v,.int u])=H2
   intro s2 h2
   refine⟨x,l2,(i:Int)+1,v,u,i,c,rfl,s2 _ _ P1.hx,.inr (SqT.of h2),⟨rfl,hi,by omega⟩,fun x' H3 s3 hx3=>?_⟩
   have s13:=s2.trans s3
   have P3:=P1.same s13
   have hp3:=s13 _ _ hp1
   refine⟨_,rfl,p,_,dx,_,rfl,hp3,T.cl_Play,T.na_Play_standing,pf_len _ _ _ _,?_⟩
   rw[pf_set]
   have s4:Same2 p m H3 (upd H3 p (.ins t.c_Play dx (pflds b s x' m))):=(Same.two (Same.refl H3) p m).updP
   have ip3:=P3.ip
   have im3:∃ ys,H3 m=some (.lst ys):=⟨_,P3.hm⟩
   exact⟨_,rfl,q x' _ ((s1.trans (Same.two s13 p m)).trans s4) ⟨P3.bm.same2 s4 P3.nb ip3 im3,P3.nb,⟨dx,upd_same⟩,s4.tup ip3 im3 P3.hs,s4.tup ip3 im3 hx3,by rw[upd_ne nmp]; exact P3.hm,s4.tups ip3 im3 P3.tm⟩⟩
end
end Bt
namespace Bt
open PySem L2
section
variable {P:Program} {w:World} {K:PySem.W.Frag} {mg:Str->Option Value} {base:Heap} {t:Adr}
/-! ### standings,and how far they are -/
def nbs (n r:Int) (hs:List Int) (lim:Int) (x:List Int):List (List Int):=(rowsL n r hs lim x x.length).map fun m=>x.set m.1 m.2
theorem mem_putsL {n r:Int} {hs:List Int} {lim:Int} {x:List Int} {i:Nat} {p:Int}:p∈putsL n r hs lim x i (wide n) ↔ Lets n r hs lim x i p:=by
 unfold putsL grid
 rw[List.mem_filter,decide_eq_true_eq]
 refine⟨fun h=>h.2,fun h=>⟨?_,h⟩⟩
 have:=h.on
 rw[List.mem_map]
 exact⟨(p+n).toNat,List.mem_range.mpr (by unfold wide; omega),by omega⟩
theorem mem_rowsL {n r:Int} {hs:List Int} {lim:Int} {x:List Int} {k:Nat} {m:Nat × Int}:m∈rowsL n r hs lim x k ↔ m.1 < k/\Lets n r hs lim x m.1 m.2:=by
 unfold rowsL
 rw[List.mem_flatMap]
 constructor
 . rintro⟨i,hi,hm⟩
   obtain ⟨p,hp,rfl⟩:=List.mem_map.mp hm
   exact⟨List.mem_range.mp hi,mem_putsL.mp hp⟩
 . rintro⟨hi,L⟩
   exact⟨m.1,List.mem_range.mpr hi,List.mem_map.mpr ⟨m.2,mem_putsL.mpr L,rfl⟩⟩
theorem mem_nbs {n r:Int} {hs:List Int} {lim:Int} {x y:List Int}:y∈nbs n r hs lim x ↔ ∃ i p,Lets n r hs lim x i p/\y=x.set i p:=by
 unfold nbs
 rw[List.mem_map]
 constructor
 . rintro⟨m,hm,rfl⟩
   exact⟨m.1,m.2,(mem_rowsL.mp hm).2,rfl⟩
 . rintro⟨i,p,L,rfl⟩
   exact⟨(i,p),mem_rowsL.mpr ⟨L.lt,L⟩,rfl⟩
section
variable {n r:Int} {hs:List Int} {lim:Int} {s:List Int}
end
/-! ### not too many -/
/-! ### a way -/
/-! ### dicts by standings -/
end
end Bt
namespace Bt
open PySem L2
section
variable {P:Program} {w:World} {K:PySem.W.Frag} {mg:Str->Option Value} {base:Heap} {t:Adr}
theorem ok_w_at (T:Txt K mg t):FnOk P w K mg base CX0 1 t.a_w_at t.d_w_at ["_law_script","_law_k"] (sp_w_at K t):=by
 refine T.F_w_at.ok sc_w_at (fun vs H Q E h=>?_) (fun cdv A outer s H vs Q E hr h=>?_)
 . obtain ⟨a,ns,k,rfl,hS,q⟩:=h
   rfl
 . obtain ⟨a,ns,k,rfl,hS,q⟩:=h
   refine⟨_,(pss_cons (ps_if (pt_cmpR op_lt (pv 1) (pe_callB call_len_seq rfl T.n_len PySem.boot_len (pa_cons (pv 0) pa_nil)) (nomark _)) (pss_one (ps_ret (pe_ix ix_list (pv 0) (pv 1) (fun _ _=>rfl)))) pss_nil)
     (pss_one (ps_ret pe_int))),?_⟩
   refine⟨_,rfl,_,rfl,a,_,rfl,.inl hS,_,_,rfl,rfl,_,rfl,?_⟩
   rw[List.length_map]
   refine ite2 (fun h1=>?_) (fun h1=>?_)
   . have hk:k < ns.length:=by have:=of_decide_eq_true h1; omega
     have e:ns.getD k 0=ns[k]:=by simp[hk]
     rw[e] at q
     exact⟨_,rfl,_,rfl,a,_,_,_,rfl,rfl,hS,atI_int (by simp[hk]),q⟩
   . have hk:¬ k < ns.length:=fun z=>h1 (decide_eq_true (by omega))
     have e:ns.getD k 0=0:=by simp[hk]
     rw[e] at q
     exact q
theorem ok_w_whole (T:Txt K mg t):FnOk P w K mg base CX0 1 t.a_w_whole t.d_w_whole ["_law_found"] (sp_w_whole K t):=by
 refine T.F_w_whole.ok sc_w_whole (fun vs H Q E h=>?_) (fun cdv A outer s H vs Q E hr h=>?_)
 . obtain ⟨i,rfl,q⟩:=h
   rfl
 . obtain ⟨i,rfl,q⟩:=h
   refine⟨_,(pss_one (ps_ret (pe_and (pe_callB call_isi rfl T.n_isinstance PyProof.Rows.boot_isinstance (pa_cons (pv 0) (pa_cons (pe_bltn (v:=.ty "int") rfl T.n_int PyProof.Rows.boot_int rfl) pa_nil))) (pe_one (pe_not (pe_callB call_isi rfl T.n_isinstance PyProof.Rows.boot_isinstance (pa_cons (pv 0) (pa_cons (pe_bltn (v:=.ty "bool") rfl T.n_bool PyProof.Rows.boot_bool rfl) pa_nil)))))))),?_⟩
   refine⟨_,rfl,_,_,_,_,_,rfl,.ty _,.int _,rfl,_,rfl,iteT ?_⟩
   exact⟨_,rfl,_,_,_,_,_,rfl,.ty _,.int _,rfl,_,rfl,q⟩
theorem ok_w_figs (T:Txt K mg t):FnOk P w K mg base CX0 1 t.a_w_figs t.d_w_figs ["_law_cell","_law_count","_law_base","_law_mix"] (sp_w_figs K t):=by
 refine T.F_w_figs.ok sc_w_figs (fun vs H Q E h=>?_) (fun cdv A outer s H vs Q E hr h=>?_)
 . obtain ⟨cell,base0,n,mix,rfl,⟨hn,hb,hb2⟩,q⟩:=h
   rfl
 . obtain ⟨cell,base0,n,mix,rfl,⟨hn,hb,hb2⟩,q⟩:=h
   refine⟨_,(pss_cons (ps_set (i:=4) sc_w_figs.nd rfl (Or.inl rfl) (pe_lst pa_nil))
     (pss_cons (ps_set (i:=5) sc_w_figs.nd rfl (Or.inl rfl) (pv 0))
     (pss_cons (ps_if (pt_val (pv 3)) (pss_one (ps_set (i:=5) sc_w_figs.nd rfl (Or.inl rfl) (pe_op op_mod (pe_op op_mul (pv 0) pe_int) pe_int))) pss_nil)
     (pss_cons (ps_for PassesOwn.never rfl (pi_range1 rfl T.n_range (pa_cons (pv 1) pa_nil)) (pg_name (i:=6) sc_w_figs.nd rfl (Or.inl rfl)) (pss_one (ps_if (pt_val (pv 3)) (pss_cons (ps_set (i:=5) sc_w_figs.nd rfl (Or.inl rfl) (pe_op op_mod (pe_op op_mul (pe_op op_add (pe_op op_add (pv 5) (pv 6)) pe_int) pe_int) pe_int))
     (pss_one (ps_expr (pe_bm PySem.F.plainAttrs_list PySem.F.slot_list_append PySem.F.type_list_append mt_append (pv 4) (pa_cons (pe_op op_mod (pe_op op_fdiv (pv 5) pe_int) (pv 2)) pa_nil))))) (pss_cons (ps_expr (pe_bm PySem.F.plainAttrs_list PySem.F.slot_list_append PySem.F.type_list_append mt_append (pv 4) (pa_cons (pe_op op_mod (pv 5) (pv 2)) pa_nil)))
     (pss_one (ps_set (i:=5) sc_w_figs.nd rfl (Or.inl rfl) (pe_op op_fdiv (pv 5) (pv 2))))))))
     (pss_one (ps_ret (pv 4))))))),?_⟩
   refine⟨Nat.zero_le _,fun l hl=>?_⟩
   refine⟨_,rfl,_,rfl,_,rfl,?_⟩
   have e0:(figSt cell base0 mix 0).2=[]:=rfl
   cases mix
   . refine iteF ?_
     refine⟨_,rfl,_,rfl,by omega,by omega,for_range (n:=(n:Int).toNat) (fun i σ H'=>∃ v,σ=[some (.int cell),some (.int n),some (.int base0),some (.bl false),some (.ref l),some (.int (figSt cell base0 false i).1),v]/\H'=upd H l (.lst ((figSt cell base0 false i).2.map V.int))/\(figSt cell base0 false i).2.length=i) ⟨none,rfl,rfl,rfl⟩ ?_ ?_⟩
     . rintro i σ H' hi ⟨v,rfl,rfl,hlen⟩
       refine⟨_,rfl,_,rfl,iteF ?_⟩
       refine⟨_,rfl,.inl ⟨rfl,_,SqL.of upd_same⟩,_,rfl,_,rfl,_,_,rfl,rfl,hb,l,_,_,rfl,rfl,upd_same,small1000 (by rw[List.length_map]; omega),?_⟩
       refine⟨_,rfl,_,rfl,_,_,rfl,rfl,⟨hb,by omega⟩,_,rfl,?_,?_⟩
       . rw[upd_upd]
         show upd H l (.lst (_++[V.int _]))=upd H l (.lst ((_++[_]).map V.int))
         rw[List.map_append]
         rfl
       . show (_++[_]).length=i+1
         rw[List.length_append,hlen]
         rfl
     . rintro σ H' ⟨v,rfl,rfl,hlen⟩
       exact⟨_,rfl,q l hl⟩
   . refine iteT ?_
     refine⟨_,rfl,_,_,rfl,rfl,.inr ⟨by decide,by decide⟩,_,_,rfl,rfl,(by show (0:Int) < 2147483647; decide),?_⟩
     refine⟨_,rfl,_,rfl,by omega,by omega,for_range (n:=(n:Int).toNat) (fun i σ H'=>∃ v,σ=[some (.int cell),some (.int n),some (.int base0),some (.bl true),some (.ref l),some (.int (figSt cell base0 true i).1),v]/\H'=upd H l (.lst ((figSt cell base0 true i).2.map V.int))/\(figSt cell base0 true i).2.length=i) ⟨none,rfl,rfl,rfl⟩ ?_ ?_⟩
     . rintro i σ H' hi ⟨v,rfl,rfl,hlen⟩
       refine⟨_,rfl,_,rfl,iteT ?_⟩
       refine⟨_,rfl,_,rfl,_,_,rfl,rfl,_,_,rfl,rfl,_,_,rfl,rfl,.inr ⟨by decide,by decide⟩,_,_,rfl,rfl,(by show (0:Int) < 2147483647; decide),?_⟩
       refine⟨_,rfl,.inl ⟨rfl,_,SqL.of upd_same⟩,_,rfl,_,_,rfl,rfl,⟨by decide,by decide⟩,_,rfl,_,_,rfl,rfl,hb,l,_,_,rfl,rfl,upd_same,small1000 (by rw[List.length_map]; omega),?_⟩
       refine⟨_,rfl,?_,?_⟩
       . rw[upd_upd]
         show upd H l (.lst (_++[V.int _]))=upd H l (.lst ((_++[_]).map V.int))
         rw[List.map_append]
         rfl
       . show (_++[_]).length=i+1
         rw[List.length_append,hlen]
         rfl
     . rintro σ H' ⟨v,rfl,rfl,hlen⟩
       exact⟨_,rfl,q l hl⟩
theorem ok_w_same (T:Txt K mg t):FnOk P w K mg base CX0 2 t.a_w_same t.d_w_same ["_law_found","_law_due"] (sp_w_same K t):=by
 have G_w_whole:FnOk P w K mg base CX0 1 t.a_w_whole t.d_w_whole ["_law_found"] (sp_w_whole K t):=ok_w_whole T
 refine T.F_w_same.ok sc_w_same (fun vs H Q E h=>?_) (fun cdv A outer s H vs Q E hr h=>?_)
 . obtain ⟨a,b,xs,ys,rfl,hA,hB,hl,q⟩:=h
   rfl
 . obtain ⟨a,b,xs,ys,rfl,hA,hB,hl,q⟩:=h
   have hr_w_whole:Room 1 _:=hr.mono (by decide)
   refine⟨_,(pss_cons (ps_if (pt_cmpR op_ne (pe_callB call_len_seq rfl T.n_len PySem.boot_len (pa_cons (pv 0) pa_nil)) (pe_callB call_len_seq rfl T.n_len PySem.boot_len (pa_cons (pv 1) pa_nil)) (nomark _)) (pss_one (ps_ret pe_bl)) pss_nil)
     (pss_cons (ps_for PassesOwn.never rfl (pi_range1 rfl T.n_range (pa_cons (pe_callB call_len_seq rfl T.n_len PySem.boot_len (pa_cons (pv 1) pa_nil)) pa_nil)) (pg_name (i:=2) sc_w_same.nd rfl (Or.inl rfl)) (pss_one (ps_if (PW.pt (pw_or (pt_not (pt_val (pe_call G_w_whole hr_w_whole rfl T.m_w_whole T.k_w_whole T.b_w_whole .nil pass0 (pa_cons (pe_ix ix_seq (pv 0) (pv 2) (fun _ _=>rfl)) pa_nil)))) (pw_or1 (pt_cmpR op_ne (pe_ix ix_seq (pv 0) (pv 2) (fun _ _=>rfl)) (pe_ix ix_seq (pv 1) (pv 2) (fun _ _=>rfl)) (nomark _))))) (pss_one (ps_ret pe_bl)) pss_nil)))
     (pss_one (ps_ret pe_bl)))),?_⟩
   refine⟨_,rfl,a,_,rfl,hA,_,rfl,b,_,rfl,hB,rfl,_,rfl,?_⟩
   rw[List.length_map,List.length_map]
   refine ite2 (fun h1=>?_) (fun h1=>?_)
   . have ne:xs≠ys:=by
       intro e
       subst e
       simp at h1
     rw[decide_eq_false ne] at q
     exact q
   . have hlen:xs.length=ys.length:=by
       simp at h1
       omega
     refine⟨_,rfl,b,_,rfl,hB,_,rfl,by omega,by rw[List.length_map]; omega,for_range (n:=((ys.map V.int).length:Int).toNat) (fun i σ H'=>∃ v,σ=[some (.ref a),some (.ref b),v]/\H'=H/\xs.take i=ys.take i) ⟨none,rfl,rfl,rfl⟩ ?_ ?_⟩
     . rintro i σ H' hi ⟨v,rfl,rfl,ht⟩
       have hiy:i < ys.length:=by simpa using hi
       have hix:i < xs.length:=by omega
       have ex:xs[i]?=some xs[i]:=by simp[hix]
       have ey:ys[i]?=some ys[i]:=by simp[hiy]
       have e0:(0:Int)+(i:Int)=(i:Int):=by omega
       have ax:atI (xs.map V.int) (0+(i:Int))=some (.int xs[i]):=by rw[e0]; exact atI_int ex
       have ay:atI (ys.map V.int) (0+(i:Int))=some (.int ys[i]):=by rw[e0]; exact atI_int ey
       have ixA:∀ (Q':VK),Q' (.int xs[i]) H'->rIx K (.ref a) (.int (0+(i:Int))) H' Q':=fun Q' h=>by
         rcases hA with hA | hA
         . exact .inl ⟨a,_,_,_,rfl,rfl,hA,ax,h⟩
         . exact .inr (.inl ⟨a,_,_,_,rfl,rfl,hA,ax,h⟩)
       have ixB:∀ (Q':VK),Q' (.int ys[i]) H'->rIx K (.ref b) (.int (0+(i:Int))) H' Q':=fun Q' h=>by
         rcases hB with hB | hB
         . exact .inl ⟨b,_,_,_,rfl,rfl,hB,ay,h⟩
         . exact .inr (.inl ⟨b,_,_,_,rfl,rfl,hB,ay,h⟩)
       refine⟨_,rfl,_,rfl,ixA _ ⟨_,rfl,_,rfl,iteF ?_⟩⟩
       refine⟨_,rfl,_,rfl,ixA _ ⟨_,rfl,_,rfl,ixB _ ⟨rfl,_,rfl,?_⟩⟩⟩
       refine ite2 (fun h2=>?_) (fun h2=>?_)
       . have ne:xs≠ys:=by
           intro e
           subst e
           simp at h2
         rw[decide_eq_false ne] at q
         exact q
       . refine⟨_,rfl,rfl,?_⟩
         have e2:xs[i]=ys[i]:=by
           simp at h2
           exact h2
         rw[List.take_succ,List.take_succ,ht,ex,ey,e2]
     . rintro σ H' ⟨v,rfl,rfl,ht⟩
       have e:xs=ys:=by
         have e1:((ys.map V.int).length:Int).toNat=ys.length:=by simp
         rw[e1] at ht
         rw[<-List.take_length (l:=ys),<-ht,<-hlen,List.take_length]
       rw[decide_eq_true e] at q
       exact q
theorem ok_w_shape (T:Txt K mg t):FnOk P w K mg base CX0 2 t.a_w_shape t.d_w_shape ["_law_script"] (sp_w_shape K t):=by
 have G_w_at:FnOk P w K mg base CX0 1 t.a_w_at t.d_w_at ["_law_script","_law_k"] (sp_w_at K t):=ok_w_at T
 have G_w_figs:FnOk P w K mg base CX0 1 t.a_w_figs t.d_w_figs ["_law_cell","_law_count","_law_base","_law_mix"] (sp_w_figs K t):=ok_w_figs T
 refine T.F_w_shape.ok sc_w_shape (fun vs H Q E h=>?_) (fun cdv A outer s H vs Q E hr h=>?_)
 . obtain ⟨a,ns,rfl,hS,q⟩:=h
   rfl
 . obtain ⟨a,ns,rfl,hS,q⟩:=h
   have hr_w_at:Room 1 _:=hr.mono (by decide)
   have hr_w_figs:Room 1 _:=hr.mono (by decide)
   refine⟨_,(pss_cons (ps_set (i:=1) sc_w_shape.nd rfl (Or.inl rfl) (pe_call G_w_at hr_w_at rfl T.m_w_at T.k_w_at T.b_w_at .nil pass0 (pa_cons (pv 0) (pa_cons pe_int pa_nil))))
     (pss_cons (ps_set (i:=2) sc_w_shape.nd rfl (Or.inl rfl) (pe_ix ix_list (pe_lst (pa_cons pe_int (pa_cons pe_int (pa_cons pe_int (pa_cons pe_int pa_nil))))) (pe_op op_mod (pv 1) pe_int) (fun _ _=>rfl)))
     (pss_cons (ps_set (i:=3) sc_w_shape.nd rfl (Or.inl rfl) (pe_callB (call_min2 rfl) rfl T.n_min PyProof.Rows.boot_min (pa_cons (pe_ix ix_list (pe_lst (pa_cons pe_int (pa_cons pe_int (pa_cons pe_int (pa_cons pe_int pa_nil))))) (pe_op op_sub (pv 2) pe_int) (fun _ _=>rfl)) (pa_cons (pe_ix ix_list (pe_lst (pa_cons pe_int (pa_cons pe_int (pa_cons pe_int (pa_cons pe_int (pa_cons pe_int (pa_cons pe_int pa_nil))))))) (pe_op op_mod (pe_op op_fdiv (pv 1) pe_int) pe_int) (fun _ _=>rfl)) pa_nil))))
     (pss_cons (ps_set (i:=4) sc_w_shape.nd rfl (Or.inl rfl) (pe_op op_add pe_int (pe_op op_mod (pe_op op_fdiv (pv 1) pe_int) pe_int)))
     (pss_cons (ps_set (i:=5) sc_w_shape.nd rfl (Or.inl rfl) (pe_call G_w_at hr_w_at rfl T.m_w_at T.k_w_at T.b_w_at .nil pass0 (pa_cons (pv 0) (pa_cons pe_int pa_nil))))
     (pss_cons (ps_comp (i:=6) rfl cs_w_shape_0 (pi_list (pe_call G_w_figs hr_w_figs rfl T.m_w_figs T.k_w_figs T.b_w_figs .nil pass0 (pa_cons (pe_call G_w_at hr_w_at rfl T.m_w_at T.k_w_at T.b_w_at .nil pass0 (pa_cons (pv 0) (pa_cons pe_int pa_nil))) (pa_cons (pv 3) (pa_cons pe_int (pa_cons (pe_cmpR op_eq (pe_op op_mod (pv 5) pe_int) pe_int (nomark _)) pa_nil)))))) (fun _ _ _ _ _=>(pg_name (i:=0) cs_w_shape_0.nd rfl (Or.inl rfl))) (fun _ _ _ _ _=>pifs_nil) (fun _ _ _ _ _=>(pe_op op_add pe_int (pv 0))) sc_w_shape.nd rfl rfl)
     (pss_cons (ps_if (pt_cmpR op_eq (pe_op op_mod (pe_op op_fdiv (pv 5) pe_int) pe_int) pe_int (nomark _)) (pss_one (ps_set (i:=6) sc_w_shape.nd rfl (Or.inl rfl) (pe_op op_rep (pe_slice sl_list (pv 6) po_none (po_some pe_int)) (pv 3)))) pss_nil)
     (pss_cons (ps_if (pt_cmpR op_eq (pe_op op_mod (pe_op op_fdiv (pv 5) pe_int) pe_int) pe_int (nomark _)) (pss_one (ps_set (i:=6) sc_w_shape.nd rfl (Or.inl rfl) (pe_op op_rep (pe_lst (pa_cons pe_int pa_nil)) (pv 3)))) pss_nil)
     (pss_one (ps_ret (pe_lst (pa_cons (pv 2) (pa_cons (pv 4) (pa_cons (pv 6) pa_nil)))))))))))))),?_⟩
   have hm1:0<=at0 ns 1 % 4:=Int.emod_nonneg _ (by decide)
   have hm2:at0 ns 1 % 4 < 4:=Int.emod_lt_of_pos _ (by decide)
   have hm3:0<=at0 ns 1 / 4 % 6:=Int.emod_nonneg _ (by decide)
   have hm4:at0 ns 1 / 4 % 6 < 6:=Int.emod_lt_of_pos _ (by decide)
   have hN:=shN_cases ns
   obtain ⟨hW0,hW5⟩:=shW_le ns
   have h5:(if shN ns=1 then (5:Int) else if shN ns=2 then 4 else 3)<=5:=by repeat (first | decide | split)
   refine⟨_,rfl,a,ns,1,rfl,hS,?_⟩
   refine⟨by decide,fun l1 f1=>⟨_,rfl,_,_,rfl,rfl,(by show (0:Int) < 4; decide),l1,_,_,_,rfl,rfl,SqL.of upd_same,atI_intD (xs:=[2,3,1,4]) hm1 hm2,?_⟩⟩
   have s1:Same H (upd H l1 (.lst [.int 2,.int 3,.int 1,.int 4])):=Same.upd f1
   generalize upd H l1 (.lst [.int 2,.int 3,.int 1,.int 4])=H1 at s1 ⊢
   refine⟨by decide,fun l2 f2=>⟨_,rfl,_,_,rfl,rfl,l2,_,_,_,rfl,rfl,SqL.of upd_same,atI_intD (xs:=[5,4,3,3]) (by show 0<=shN ns - 1; omega) (by show shN ns - 1 < 4; omega),?_⟩⟩
   have s2:Same H (upd H1 l2 (.lst [.int 5,.int 4,.int 3,.int 3])):=s1.updT f2
   generalize upd H1 l2 (.lst [.int 5,.int 4,.int 3,.int 3])=H2 at s2 ⊢
   refine⟨by decide,fun l3 f3=>⟨_,rfl,_,_,rfl,rfl,⟨by decide,by decide⟩,_,_,rfl,rfl,(by show (0:Int) < 6; decide),l3,_,_,_,rfl,rfl,SqL.of upd_same,atI_intD (xs:=[3,2,4,1,5,0]) hm3 hm4,_,_,rfl,?_⟩⟩
   have s3:Same H (upd H2 l3 (.lst [.int 3,.int 2,.int 4,.int 1,.int 5,.int 0])):=s2.updT f3
   generalize upd H2 l3 (.lst [.int 3,.int 2,.int 4,.int 1,.int 5,.int 0])=H3 at s3 ⊢
   refine⟨_,rfl,_,_,rfl,rfl,⟨by decide,by decide⟩,_,_,rfl,rfl,(by show (0:Int) < 3; decide),_,_,rfl,rfl,?_⟩
   refine⟨_,rfl,a,ns,0,rfl,s3.seq hS,?_⟩
   have eW:(((shW ns).toNat:Nat):Int)=shW ns:=by omega
   refine⟨_,rfl,a,ns,2,rfl,s3.seq hS,_,rfl,_,rfl,_,_,rfl,rfl,(by show (0:Int) < 2; decide),rfl,at0 ns 2,20,(shW ns).toNat,mixOf ns,?_,⟨by omega,by decide,by decide⟩,fun l4 f4=>⟨l4,rfl,⟨_,SqL.of upd_same⟩,fun D hD=>?_⟩⟩
   . rw[eW]; rfl
   have s4:Same H (upd H3 l4 (.lst ((figs (at0 ns 2) (shW ns).toNat 20 (mixOf ns)).map V.int))):=s3.updT f4
   refine comp_list (f:=fun v=>match v with | .int z=>V.int (1+z) | v=>v) (SqL.of upd_same) hD (Nat.le_of_lt (small1000 (by rw[List.length_map,figs_len]; omega))) (fun x acc R hx h=>?_) ?_
   . obtain ⟨z,hz,rfl⟩:=List.mem_map.mp hx
     exact⟨_,rfl,_,_,rfl,rfl,h⟩
   have em:((figs (at0 ns 2) (shW ns).toNat 20 (mixOf ns)).map V.int).map (fun v=>match v with | .int z=>V.int (1+z) | v=>v)=(shH0 ns).map V.int:=by
     unfold shH0
     rw[List.map_map,List.map_map]; rfl
   rw[em]
   have s5:=s4.updT (o:=.lst ((shH0 ns).map V.int)) hD
   have fD:H D=none:=s4.free hD
   have hHD:(upd (upd H3 l4 (.lst ((figs (at0 ns 2) (shW ns).toNat 20 (mixOf ns)).map V.int))) D (.lst ((shH0 ns).map V.int))) D=some (.lst ((shH0 ns).map V.int)):=upd_same
   clear em
   revert s5 hHD
   generalize upd (upd H3 l4 (.lst ((figs (at0 ns 2) (shW ns).toNat 20 (mixOf ns)).map V.int))) D (.lst ((shH0 ns).map V.int))=H5
   intro s5 hHD
   have hl0:=shH0_len ns
   refine⟨_,rfl,_,_,rfl,rfl,⟨by decide,by decide⟩,_,_,rfl,rfl,(by show (0:Int) < 5; decide),rfl,_,rfl,?_⟩
   show (if decide (V.int (at0 ns 0 / 2 % 5)=V.int 1)=true then _ else _)
   rw[dec_vint]
   by_cases m1:at0 ns 0 / 2 % 5=1
   . rw[decide_eq_true m1]
     refine iteT ?_
     refine⟨_,rfl,1,rfl,D,_,rfl,SqL.of hHD,fun l6 f6=>⟨_,rfl,l6,_,_,rfl,rfl,upd_same,(by show -(2 ^ 63)<=shW ns; omega),(by show shW ns < 2 ^ 63; omega),?_,fun l7 f7=>?_⟩⟩
     . refine Nat.le_of_lt (small1000 ?_)
       have h1:(cutV ((shH0 ns).map V.int) none (some 1)).length<=(shW ns).toNat:=by rw[<-hl0,<-List.length_map (f:=V.int)]; exact cutV_length _ _ _
       have h2:(shW ns).toNat<=5:=by omega
       exact Nat.le_trans (Nat.mul_le_mul (Nat.le_trans h1 h2) h2) (by decide)
     have s6:=(s5.updT (o:=.lst (cutV ((shH0 ns).map V.int) none (some 1))) f6).updT (o:=.lst (List.replicate (shW ns).toNat (cutV ((shH0 ns).map V.int) none (some 1))).flatten) f7
     have f7':H l7=none:=(s5.updT (o:=.lst (cutV ((shH0 ns).map V.int) none (some 1))) f6).free f7
     refine⟨_,rfl,_,_,rfl,rfl,⟨by decide,by decide⟩,_,_,rfl,rfl,(by show (0:Int) < 5; decide),rfl,_,rfl,?_⟩
     show (if decide (V.int (at0 ns 0 / 2 % 5)=V.int 2)=true then _ else _)
     rw[dec_vint,decide_eq_false (by omega)]
     refine iteF ?_
     refine⟨_,rfl,_,rfl,_,rfl,(by show 3<=sizeLine; decide),fun l8 f8=>?_⟩
     refine q l8 l7 _ (s6.updT f8) (s6.free f8) f7' ?_ upd_same
     rw[upd_ne (fun e=>by rw[<-e] at f8; rw[upd_same] at f8; cases f8),upd_same]
     have ec:cutV ((shH0 ns).map V.int) none (some 1)=((shH0 ns).take 1).map V.int:=by
       unfold cutV
       rw[HT.sIx_none,show (some (1:Int))=some ((1:Nat):Int) from rfl,HT.sIx_nat,List.drop_zero,Nat.sub_zero,List.map_take,List.length_map]
       by_cases h:1<=(shH0 ns).length
       . rw[Nat.min_eq_left h]
       . have:shH0 ns=[]:=List.eq_nil_of_length_eq_zero (by omega)
         rw[this]; rfl
     have ef:(List.replicate (shW ns).toNat (((shH0 ns).take 1).map V.int)).flatten=(shH ns).map V.int:=by
       unfold shH
       rw[if_pos m1,List.map_flatten,List.map_replicate]
     show some (HO.lst (List.replicate (shW ns).toNat (cutV ((shH0 ns).map V.int) none (some 1))).flatten)=_
     rw[ec,ef]
   . rw[decide_eq_false m1]
     refine iteF ?_
     refine⟨_,rfl,_,_,rfl,rfl,⟨by decide,by decide⟩,_,_,rfl,rfl,(by show (0:Int) < 5; decide),rfl,_,rfl,?_⟩
     show (if decide (V.int (at0 ns 0 / 2 % 5)=V.int 2)=true then _ else _)
     rw[dec_vint]
     by_cases m2:at0 ns 0 / 2 % 5=2
     . rw[decide_eq_true m2]
       refine iteT ?_
       refine⟨by decide,fun l6 f6=>⟨_,rfl,l6,_,_,rfl,rfl,upd_same,(by show -(2 ^ 63)<=shW ns; omega),(by show shW ns < 2 ^ 63; omega),?_,fun l7 f7=>?_⟩⟩
       . refine Nat.le_of_lt (small1000 ?_)
         show 1*(shW ns).toNat<=1000
         omega
       have s6:=(s5.updT (o:=.lst [.int 20]) f6).updT (o:=.lst (List.replicate (shW ns).toNat [V.int 20]).flatten) f7
       have f7':H l7=none:=(s5.updT (o:=.lst [.int 20]) f6).free f7
       refine⟨_,rfl,_,rfl,_,rfl,(by show 3<=sizeLine; decide),fun l8 f8=>?_⟩
       refine q l8 l7 _ (s6.updT f8) (s6.free f8) f7' ?_ upd_same
       rw[upd_ne (fun e=>by rw[<-e] at f8; rw[upd_same] at f8; cases f8),upd_same]
       have ef:(List.replicate (shW ns).toNat [V.int 20]).flatten=(shH ns).map V.int:=by
         unfold shH
         rw[if_neg m1,if_pos m2,List.map_flatten,List.map_replicate]
         rfl
       show some (HO.lst (List.replicate (shW ns).toNat [V.int 20]).flatten)=_
       rw[ef]
     . rw[decide_eq_false m2]
       refine iteF ?_
       refine⟨_,rfl,_,rfl,_,rfl,(by show 3<=sizeLine; decide),fun l8 f8=>?_⟩
       refine q l8 D _ (s5.updT f8) (s5.free f8) fD ?_ upd_same
       rw[upd_ne (fun e=>by rw[<-e] at f8; rw[hHD] at f8; cases f8),hHD]
       have ef:shH ns=shH0 ns:=by
         unfold shH
         rw[if_neg m1,if_neg m2]
       rw[ef]
theorem ok_w_put (T:Txt K mg t):FnOk P w K mg base CX0 2 t.a_w_put t.d_w_put ["_law_script","_law_k","_law_more","_law_shape_here"] (sp_w_put K t):=by
 have G_w_figs:FnOk P w K mg base CX0 1 t.a_w_figs t.d_w_figs ["_law_cell","_law_count","_law_base","_law_mix"] (sp_w_figs K t):=ok_w_figs T
 have G_w_at:FnOk P w K mg base CX0 1 t.a_w_at t.d_w_at ["_law_script","_law_k"] (sp_w_at K t):=ok_w_at T
 refine T.F_w_put.ok sc_w_put (fun vs H Q E h=>?_) (fun cdv A outer s H vs Q E hr h=>?_)
 . obtain ⟨a,sh,h,ns,k,more,n,r,hs,rfl,hS,hsh,hh,⟨n1,n2,r1,hw⟩,q⟩:=h
   rfl
 . obtain ⟨a,sh,h,ns,k,more,n,r,hs,rfl,hS,hsh,hh,⟨n1,n2,r1,hw⟩,q⟩:=h
   have hr_w_figs:Room 1 _:=hr.mono (by decide)
   have hr_w_at:Room 1 _:=hr.mono (by decide)
   refine⟨_,(pss_cons (ps_asg (pv 3) (pg_lst rfl (pgs_cons (pg_name (i:=4) sc_w_put.nd rfl (Or.inl rfl)) (pgs_cons (pg_name (i:=5) sc_w_put.nd rfl (Or.inl rfl)) (pgs_cons (pg_name (i:=6) sc_w_put.nd rfl (Or.inl rfl)) pgs_nil)))))
     (pss_cons (ps_set (i:=7) sc_w_put.nd rfl (Or.inl rfl) (pe_cmpR op_eq (pe_op op_mod (pe_call G_w_at hr_w_at rfl T.m_w_at T.k_w_at T.b_w_at .nil pass0 (pa_cons (pv 0) (pa_cons pe_int pa_nil))) pe_int) pe_int (nomark _)))
     (pss_cons (ps_set (i:=8) sc_w_put.nd rfl (Or.inl rfl) (pe_op op_add (pe_call G_w_at hr_w_at rfl T.m_w_at T.k_w_at T.b_w_at .nil pass0 (pa_cons (pv 0) (pa_cons (pv 1) pa_nil))) (pv 2)))
     (pss_cons (ps_set (i:=9) sc_w_put.nd rfl (Or.inl rfl) (pe_lst pa_nil))
     (pss_cons (ps_for PassesOwn.never rfl (pi_list (pe_call G_w_figs hr_w_figs rfl T.m_w_figs T.k_w_figs T.b_w_figs .nil pass0 (pa_cons (pv 8) (pa_cons (pe_callB call_len_seq rfl T.n_len PySem.boot_len (pa_cons (pv 6) pa_nil)) (pa_cons (pe_op op_add (pe_op op_mul pe_int (pv 4)) pe_int) (pa_cons (pv 7) pa_nil)))))) (pg_name (i:=10) sc_w_put.nd rfl (Or.inl rfl)) (pss_cons (ps_set (i:=11) sc_w_put.nd rfl (Or.inl rfl) (pe_op op_sub (pv 10) (pv 4)))
     (pss_cons (ps_if (pt_cmpR op_eq (pe_op op_mod (pv 8) pe_int) pe_int (nomark _)) (pss_one (ps_set (i:=11) sc_w_put.nd rfl (Or.inl rfl) (pv 4))) pss_nil)
     (pss_cons (ps_if (PW.pt (pw_and (pt_cmpR op_ne (pv 11) pe_int (nomark _)) (pw_and1 (pt_cmpR op_ge (pe_bm PySem.F.plainAttrs_list PySem.F.slot_list_count PySem.F.type_list_count mt_countL (pv 9) (pa_cons (pv 11) pa_nil)) (pv 5) (nomark _))))) (pss_one (ps_set (i:=11) sc_w_put.nd rfl (Or.inl rfl) pe_int)) pss_nil)
     (pss_one (ps_expr (pe_bm PySem.F.plainAttrs_list PySem.F.slot_list_append PySem.F.type_list_append mt_append (pv 9) (pa_cons (pv 11) pa_nil))))))))
     (pss_one (ps_ret (pv 9)))))))),?_⟩
   refine⟨_,rfl,sh,_,rfl,SqL.of hsh,rfl,_,_,rfl,_,_,rfl,_,_,rfl,rfl,?_⟩
   refine⟨_,rfl,a,ns,0,rfl,hS,_,_,rfl,rfl,(by show (0:Int) < 2; decide),rfl,?_⟩
   refine⟨_,rfl,_,rfl,a,ns,k,rfl,hS,_,rfl,_,_,rfl,rfl,?_⟩
   refine⟨Nat.zero_le _,fun m fm=>?_⟩
   have s1:Same H (upd H m (.lst [])):=Same.upd fm
   refine⟨_,rfl,_,rfl,h,_,rfl,.inl (s1.seq hh),_,rfl,_,_,rfl,rfl,.inl ⟨by decide,by decide⟩,_,_,rfl,rfl,_,rfl,at0 ns k+more,2*n+1,hs.length,mixOf ns,?_,⟨by omega,by omega,by omega⟩,fun f ff=>⟨f,rfl,⟨_,SqL.of upd_same⟩,?_⟩⟩
   . rw[List.length_map]; rfl
   have hfm:f≠m:=fun e=>by rw[e,upd_same] at ff; cases ff
   have ff0:H f=none:=s1.free ff
   have hlen:(figs (at0 ns k+more) hs.length (2*n+1) (mixOf ns)).length=hs.length:=figs_len _ _ _ _
   have hin:=figs_in (cell:=at0 ns k+more) (mix:=mixOf ns) (show (0:Int) < 2*n+1 by omega) hs.length
   have hq:∀ H',Same H H'->H' m=some (.lst ((putL n r (decide (V.int ((at0 ns k+more) % 13)=V.int 12)) (figs (at0 ns k+more) hs.length (2*n+1) (mixOf ns))).map V.int))->Q (.ref m) H':=fun H' s' e=>q m H' s' fm e
   generalize figs (at0 ns k+more) hs.length (2*n+1) (mixOf ns)=fs at hlen hin hq ⊢
   have hput:∀ i,(putL n r (decide (V.int ((at0 ns k+more) % 13)=V.int 12)) (fs.take i)).length<=5:=fun i=>by
     rw[(putL_ok _ (by omega) r1 (fs.take i) fun x hx=>hin x (List.mem_of_mem_take hx)).1,List.length_take]; omega
   refine for_list (K:=K) (a:=f) (xs:=fs.map V.int) (fun i σ H'=>∃ v10 v11,σ=[some (.ref a),some (.int k),some (.int more),some (.ref sh),some (.int n),some (.int r),some (.ref h),some (.bl (mixOf ns)),some (.int (at0 ns k+more)),some (.ref m),v10,v11] ∧
     H'=upd (upd (upd H m (.lst [])) f (.lst (fs.map V.int))) m (.lst ((putL n r (decide (V.int ((at0 ns k+more) % 13)=V.int 12)) (fs.take i)).map V.int))) ⟨none,none,rfl,?_⟩ ?_ ?_ ?_
   . exact (upd_id (by rw[upd_ne (Ne.symm hfm),upd_same]; rfl)).symm
   . rintro i σ H' _ ⟨_,_,_,rfl⟩
     exact SqL.of (by rw[upd_ne hfm,upd_same])
   . rintro i x σ H' hi ⟨v10,v11,rfl,rfl⟩
     obtain ⟨z,rfl,hz⟩:=int_at hi
     have etk:fs.take (i+1)=fs.take i++[z]:=by rw[List.take_succ,hz]; rfl
     have hpi:=hput i
     generalize hlast:decide (V.int ((at0 ns k+more) % 13)=V.int 12)=last at hput hpi hq ⊢
     generalize hmade:putL n r last (fs.take i)=made at hpi
     have enext:putL n r last (fs.take (i+1))=putStep n r last made z:=by rw[etk,putL_snoc,hmade]
     have tail:∀ (p:Int),p=(if last=true then n else z - n)->True:=fun _ _=>trivial
     refine⟨_,rfl,_,rfl,_,_,rfl,rfl,?_⟩
     refine⟨_,rfl,_,_,rfl,rfl,(by show (0:Int) < 13; decide),rfl,_,rfl,?_⟩
     show (if decide (V.int ((at0 ns k+more) % 13)=V.int 12)=true then _ else _)
     rw[hlast]
     cases last
     . refine iteF ?_
       refine⟨_,rfl,rfl,_,rfl,?_⟩
       refine ite2 (fun h1=>?_) (fun h1=>?_)
       . have hp0:z - n≠0:=fun e=>by
           have h1':(!decide (V.int (z - n)=V.int 0))=true:=h1
           rw[e] at h1'; simp at h1'
         refine⟨_,rfl,.inl ⟨rfl,_,SqL.of upd_same⟩,_,rfl,m,made,z - n,rfl,rfl,SqL.of upd_same,_,rfl,_,_,rfl,rfl,_,rfl,?_⟩
         refine ite2 (fun h2=>?_) (fun h2=>?_)
         . have h2':r<=(made.count (z - n):Int):=of_decide_eq_true h2
           refine⟨_,rfl,.inl ⟨rfl,_,SqL.of upd_same⟩,_,rfl,m,_,_,rfl,rfl,upd_same,small1000 (by rw[List.length_map]; omega),_,_,rfl,?_⟩
           rw[upd_upd,enext]
           unfold putStep
           rw[if_neg (show ¬ (false=true) by decide),if_pos ⟨hp0,h2'⟩,List.map_append]
           rfl
         . have h2':¬ r<=(made.count (z - n):Int):=fun e=>h2 (decide_eq_true e)
           refine⟨_,rfl,.inl ⟨rfl,_,SqL.of upd_same⟩,_,rfl,m,_,_,rfl,rfl,upd_same,small1000 (by rw[List.length_map]; omega),_,_,rfl,?_⟩
           rw[upd_upd,enext]
           unfold putStep
           rw[if_neg (show ¬ (false=true) by decide),if_neg (fun e=>h2' e.2),List.map_append]
           rfl
       . have hp0:z - n=0:=by
           have h1':¬ (!decide (V.int (z - n)=V.int 0))=true:=h1
           rw[dec_vint] at h1'
           simpa using h1'
         refine iteF ?_
         refine⟨_,rfl,.inl ⟨rfl,_,SqL.of upd_same⟩,_,rfl,m,_,_,rfl,rfl,upd_same,small1000 (by rw[List.length_map]; omega),_,_,rfl,?_⟩
         rw[upd_upd,enext]
         unfold putStep
         rw[if_neg (show ¬ (false=true) by decide),if_neg (fun e=>e.1 hp0),List.map_append]
         rfl
     . refine iteT ?_
       refine⟨_,rfl,?_⟩
       refine⟨_,rfl,rfl,_,rfl,?_⟩
       have hn0:n≠0:=by omega
       refine iteA (by show (!decide (V.int n=V.int 0))=true; rw[dec_vint]; simpa using hn0) ?_
       refine⟨_,rfl,.inl ⟨rfl,_,SqL.of upd_same⟩,_,rfl,m,made,n,rfl,rfl,SqL.of upd_same,_,rfl,_,_,rfl,rfl,_,rfl,?_⟩
       refine ite2 (fun h2=>?_) (fun h2=>?_)
       . have h2':r<=(made.count n:Int):=of_decide_eq_true h2
         refine⟨_,rfl,.inl ⟨rfl,_,SqL.of upd_same⟩,_,rfl,m,_,_,rfl,rfl,upd_same,small1000 (by rw[List.length_map]; omega),_,_,rfl,?_⟩
         rw[upd_upd,enext]
         unfold putStep
         rw[if_pos rfl,if_pos ⟨hn0,h2'⟩,List.map_append]
         rfl
       . have h2':¬ r<=(made.count n:Int):=fun e=>h2 (decide_eq_true e)
         refine⟨_,rfl,.inl ⟨rfl,_,SqL.of upd_same⟩,_,rfl,m,_,_,rfl,rfl,upd_same,small1000 (by rw[List.length_map]; omega),_,_,rfl,?_⟩
         rw[upd_upd,enext]
         unfold putStep
         rw[if_pos rfl,if_neg (fun e=>h2' e.2),List.map_append]
         rfl
   . rintro σ H' ⟨v10,v11,rfl,rfl⟩
     rw[List.length_map,List.take_length]
     refine⟨_,rfl,hq _ ?_ upd_same⟩
     exact ((s1.updT ff).put fm)
def sp_w_tilt (K:PySem.W.Frag) (t:Adr):Sp:=fun vs H Q _=>∃ (h a:Addr) (hs xs:List Int),vs=[.ref h,.ref a]/\SqL K H h (hs.map V.int)/\(SqL K H a (xs.map V.int)\/SqT K H a (xs.map V.int))/\(hs.length=xs.length/\xs.length<=5/\∀ x∈hs,1<=x/\x<=20)/\Q (.int (tiltOf hs xs)) H
theorem ok_w_tilt (T:Txt K mg t):FnOk P w K mg base CX0 1 t.a_w_tilt t.d_w_tilt ["_law_hefts","_law_spots"] (sp_w_tilt K t):=by
 refine T.F_w_tilt.ok sc_w_tilt (fun vs H Q E h=>?_) (fun cdv A outer s H vs Q E hr h=>?_)
 . obtain ⟨h,a,hs,xs,rfl,hh,hS,⟨hl,h5,hhs⟩,q⟩:=h
   rfl
 . obtain ⟨h,a,hs,xs,rfl,hh,hS,⟨hl,h5,hhs⟩,q⟩:=h
   refine⟨_,(pss_cons (ps_set (i:=2) sc_w_tilt.nd rfl (Or.inl rfl) pe_int)
     (pss_cons (ps_for PassesOwn.never rfl (pi_range1 rfl T.n_range (pa_cons (pe_callB call_len_seq rfl T.n_len PySem.boot_len (pa_cons (pv 0) pa_nil)) pa_nil)) (pg_name (i:=3) sc_w_tilt.nd rfl (Or.inl rfl)) (pss_one (ps_set (i:=2) sc_w_tilt.nd rfl (Or.inl rfl) (pe_op op_add (pv 2) (pe_op op_mul (pe_ix ix_list (pv 0) (pv 3) (fun _ _=>rfl)) (pe_ix ix_seq (pv 1) (pv 3) (fun _ _=>rfl)))))))
     (pss_one (ps_ret (pv 2))))),?_⟩
   refine⟨_,rfl,h,_,rfl,.inl hh,?_⟩
   rw[List.length_map]
   refine⟨_,rfl,by omega,by omega,for_range (n:=((hs.length:Nat):Int).toNat) (fun i σ H'=>∃ v,σ=[some (.ref h),some (.ref a),some (.int (sumTo hs xs i)),v]/\H'=H) ⟨none,rfl,rfl⟩ ?_ ?_⟩
   . rintro j σ H' hj ⟨v,rfl,rfl⟩
     have hjh:j < hs.length:=by simpa using hj
     have e0:(0:Int)+(j:Int)=(j:Int):=by omega
     have ax:atI (xs.map V.int) (0+(j:Int))=some (.int (xs.getD j 0)):=by rw[e0]; exact atI_intD (by omega) (by omega)
     have ah:atI (hs.map V.int) (0+(j:Int))=some (.int (hs.getD j 0)):=by rw[e0]; exact atI_intD (by omega) (by omega)
     have hm:=hhs (hs.getD j 0) (getD_mem hjh)
     have ixA:∀ (Q':VK),Q' (.int (xs.getD j 0)) H'->rIx K (.ref a) (.int (0+(j:Int))) H' Q':=fun Q' h=>by
       rcases hS with hS | hS
       . exact .inl ⟨a,_,_,_,rfl,rfl,hS,ax,h⟩
       . exact .inr (.inl ⟨a,_,_,_,rfl,rfl,hS,ax,h⟩)
     exact⟨_,rfl,_,rfl,_,rfl,h,_,_,_,rfl,rfl,hh,ah,_,rfl,_,rfl,ixA _ ⟨_,_,rfl,rfl,.inl ⟨by omega,by omega⟩,_,_,rfl,rfl,_,rfl,rfl⟩⟩
   . rintro σ H' ⟨v,rfl,rfl⟩
     rw[Int.toNat_natCast,sumTo_tilt hl]
     exact⟨_,rfl,q⟩
def sp_w_limit (K:PySem.W.Frag) (t:Adr):Sp:=fun vs H Q _=>∃ (a:Addr) (ns:List Int) (low:Int),vs=[.ref a,.int low]/\SqL K H a (ns.map V.int)/\(0<=low/\low<=400)/\∀ lim,low<=lim->lim<=400->Q (.int lim) H
theorem ok_w_limit (T:Txt K mg t):FnOk P w K mg base CX0 2 t.a_w_limit t.d_w_limit ["_law_script","_law_low"] (sp_w_limit K t):=by
 have G_w_at:FnOk P w K mg base CX0 1 t.a_w_at t.d_w_at ["_law_script","_law_k"] (sp_w_at K t):=ok_w_at T
 refine T.F_w_limit.ok sc_w_limit (fun vs H Q E h=>?_) (fun cdv A outer s H vs Q E hr h=>?_)
 . obtain ⟨a,ns,low,rfl,hS,⟨h0,h4⟩,q⟩:=h
   rfl
 . obtain ⟨a,ns,low,rfl,hS,⟨h0,h4⟩,q⟩:=h
   have hr_w_at:Room 1 _:=hr.mono (by decide)
   refine⟨_,(pss_cons (ps_set (i:=2) sc_w_limit.nd rfl (Or.inl rfl) (pe_call G_w_at hr_w_at rfl T.m_w_at T.k_w_at T.b_w_at .nil pass0 (pa_cons (pv 0) (pa_cons pe_int pa_nil))))
     (pss_cons (ps_set (i:=3) sc_w_limit.nd rfl (Or.inl rfl) (pe_op op_mod (pe_op op_fdiv (pe_call G_w_at hr_w_at rfl T.m_w_at T.k_w_at T.b_w_at .nil pass0 (pa_cons (pv 0) (pa_cons pe_int pa_nil))) pe_int) pe_int))
     (pss_cons (ps_if (pt_cmpR op_eq (pv 3) pe_int (nomark _)) (pss_one (ps_ret (pe_callB (call_min2 rfl) rfl T.n_min PyProof.Rows.boot_min (pa_cons pe_int (pa_cons (pe_op op_add (pv 1) (pe_op op_mod (pv 2) pe_int)) pa_nil))))) pss_nil)
     (pss_cons (ps_if (pt_cmpR op_eq (pv 3) pe_int (nomark _)) (pss_one (ps_ret (pe_callB (call_min2 rfl) rfl T.n_min PyProof.Rows.boot_min (pa_cons pe_int (pa_cons (pe_op op_add (pv 1) (pe_op op_mod (pv 2) pe_int)) pa_nil))))) pss_nil)
     (pss_cons (ps_if (pt_cmpR op_eq (pv 3) pe_int (nomark _)) (pss_one (ps_ret (pe_callB (call_max2 rfl) rfl T.n_max PyProof.Rows.boot_max (pa_cons (pv 1) (pa_cons (pe_op op_mod (pv 2) pe_int) pa_nil))))) pss_nil)
     (pss_one (ps_ret pe_int))))))),?_⟩
   refine⟨_,rfl,a,ns,5,rfl,hS,?_⟩
   refine⟨_,rfl,a,ns,0,rfl,hS,_,_,rfl,rfl,⟨by decide,by decide⟩,_,_,rfl,rfl,(by show (0:Int) < 4; decide),?_⟩
   generalize ns.getD 5 0=c
   have m8:0<=c % 8:=Int.emod_nonneg _ (by decide)
   have m41:0<=c % 41:=Int.emod_nonneg _ (by decide)
   have m401:0<=c % 401:=Int.emod_nonneg _ (by decide)
   have m401':c % 401 < 401:=Int.emod_lt_of_pos _ (by decide)
   refine⟨_,rfl,rfl,_,rfl,?_⟩
   refine ite2 (fun h1=>?_) (fun h1=>?_)
   . refine⟨_,rfl,_,rfl,_,_,rfl,rfl,(by show (0:Int) < 8; decide),_,_,rfl,rfl,_,_,rfl,?_⟩
     exact q _ (by split <;> omega) (by split <;> omega)
   refine⟨_,rfl,rfl,_,rfl,?_⟩
   refine ite2 (fun h2=>?_) (fun h2=>?_)
   . refine⟨_,rfl,_,rfl,_,_,rfl,rfl,(by show (0:Int) < 41; decide),_,_,rfl,rfl,_,_,rfl,?_⟩
     exact q _ (by split <;> omega) (by split <;> omega)
   refine⟨_,rfl,rfl,_,rfl,?_⟩
   refine ite2 (fun h3=>?_) (fun h3=>?_)
   . refine⟨_,rfl,_,rfl,_,_,rfl,rfl,(by show (0:Int) < 401; decide),_,_,rfl,?_⟩
     exact q _ (by split <;> omega) (by split <;> omega)
   exact q 400 h4 (by decide)
end
end Bt
namespace Bt
open PySem L2
section
variable {P:Program} {w:World} {K:PySem.W.Frag} {mg:Str->Option Value} {base:Heap} {t:Adr}
def freeL (n r:Int) (xs:List Int) (j:Nat):List Int:=(grid n j).filter fun p=>decide (p=0\/(xs.count p:Int) < r)
theorem freeL_succ (n r:Int) (xs:List Int) (j:Nat):freeL n r xs (j+1)=freeL n r xs j++(if -n+(j:Int)=0\/(xs.count (-n+(j:Int)):Int) < r then [-n+(j:Int)] else []):=by
 unfold freeL grid
 rw[List.range_succ,List.map_append,List.filter_append]
 congr 1
 by_cases h:-n+(j:Int)=0\/(xs.count (-n+(j:Int)):Int) < r
 . rw[if_pos h]; simp[h]
 . rw[if_neg h]; simp[h]
theorem freeL_len (n r:Int) (xs:List Int) (j:Nat):(freeL n r xs j).length<=j:=by
 unfold freeL grid
 refine Nat.le_trans (List.length_filter_le _ _) ?_
 simp
theorem freeL_puts (n r:Int) (hs:List Int) (lim:Int) (xs:List Int) (i j:Nat):(freeL n r xs j).filter (fun p=>decide (Lets n r hs lim xs i p))=putsL n r hs lim xs i j:=by
 unfold freeL putsL
 rw[List.filter_filter]
 refine List.filter_congr fun p _=>?_
 by_cases h:Lets n r hs lim xs i p
 . have:p=0\/(xs.count p:Int) < r:=by
     by_cases z:p=0
     . exact .inl z
     . exact .inr (h.room z)
   simp[h,this]
 . simp[h]
theorem filt_no {q:Int->Bool} {l:List Int} {p:Int} (h:q p=false):(l++[p]).filter q=l.filter q:=by simp[List.filter_append,h]
theorem filt_yes {q:Int->Bool} {l:List Int} {p:Int} (h:q p=true):(l++[p]).filter q=l.filter q++[p]:=by simp[List.filter_append,h]
theorem freeL_mem {n r:Int} {xs:List Int} {j:Nat} {p:Int} (h:p∈freeL n r xs j):(∃ k,k < j/\p = -n+(k:Int))/\(p=0\/(xs.count p:Int) < r):=by
 unfold freeL grid at h
 obtain ⟨h1,h2⟩:=List.mem_filter.mp h
 obtain ⟨k,hk,rfl⟩:=List.mem_map.mp h1
 exact⟨⟨k,List.mem_range.mp hk,rfl⟩,of_decide_eq_true h2⟩
def nbsTo (n r:Int) (hs:List Int) (lim:Int) (x:List Int) (i:Nat):List (List Int):=(rowsL n r hs lim x i).map fun m=>x.set m.1 m.2
theorem nbsTo_succ (n r:Int) (hs:List Int) (lim:Int) (x:List Int) (i:Nat):nbsTo n r hs lim x (i+1)=nbsTo n r hs lim x i++(putsL n r hs lim x i (wide n)).map fun p=>x.set i p:=by
 unfold nbsTo
 rw[rowsL_succ,List.map_append,List.map_map]
 rfl
def ScaleAt (K:PySem.W.Frag) (H:Hp) (c:Addr) (n r:Int) (hs:List Int) (lim:Int):Prop:=∃ h,BeamOk n r hs lim/\SqL K H c [.int n,.int r,.ref h,.int lim]/\SqL K H h (hs.map V.int)
theorem ScaleAt.same {K:PySem.W.Frag} {H H':Hp} {c:Addr} {n r:Int} {hs:List Int} {lim:Int} (h:ScaleAt K H c n r hs lim) (s:Same H H'):ScaleAt K H' c n r hs lim:=let ⟨a,h0,h1,h2⟩:=h; ⟨a,h0,s.seq h1,s.seq h2⟩
def sp_w_near (K:PySem.W.Frag) (t:Adr):Sp:=fun vs H Q _=>∃ (c a:Addr) (n r lim:Int) (hs xs:List Int),vs=[.ref c,.ref a]/\ScaleAt K H c n r hs lim/\Valid n r hs.length xs/\H a=some (.tup (xs.map V.int)) ∧
 ∀ l H' ys,Same H H'->H l=none->H' l=some (.lst ys)->Tups H' ys (nbs n r hs lim xs)->Q (.ref l) H'
theorem ok_w_near (T:Txt K mg t):FnOk P w K mg base CX0 2 t.a_w_near t.d_w_near ["_law_scale","_law_spots"] (sp_w_near K t):=by
 have G_w_tilt:FnOk P w K mg base CX0 1 t.a_w_tilt t.d_w_tilt ["_law_hefts","_law_spots"] (sp_w_tilt K t):=ok_w_tilt T
 refine T.F_w_near.ok sc_w_near (fun vs H Q E h=>?_) (fun cdv A outer s H vs Q E hr h=>?_)
 . obtain ⟨c,a,n,r,lim,hs,xs,rfl,⟨h,ok,hc,hh⟩,V0,hT,q⟩:=h
   rfl
 . obtain ⟨c,a,n,r,lim,hs,xs,rfl,⟨h,ok,hc,hh⟩,V0,hT,q⟩:=h
   have hr_w_tilt:Room 1 _:=hr.mono (by decide)
   refine⟨_,(pss_cons (ps_asg (pv 0) (pg_lst rfl (pgs_cons (pg_name (i:=2) sc_w_near.nd rfl (Or.inl rfl)) (pgs_cons (pg_name (i:=3) sc_w_near.nd rfl (Or.inr rfl)) (pgs_cons (pg_name (i:=4) sc_w_near.nd rfl (Or.inl rfl)) (pgs_cons (pg_name (i:=5) sc_w_near.nd rfl (Or.inl rfl)) pgs_nil))))))
     (pss_cons (ps_set (i:=6) sc_w_near.nd rfl (Or.inl rfl) (pe_call G_w_tilt hr_w_tilt rfl T.m_w_tilt T.k_w_tilt T.b_w_tilt .nil pass0 (pa_cons (pv 4) (pa_cons (pv 1) pa_nil))))
     (pss_cons (ps_comp (i:=7) rfl cs_w_near_0 (pi_range2 rfl T.n_range (pa_cons (pe_un un_neg (pv 2)) (pa_cons (pe_op op_add (pv 2) pe_int) pa_nil))) (fun _ _ _ _ _=>(pg_name (i:=0) cs_w_near_0.nd rfl (Or.inl rfl))) (fun _ _ _ _ _=>(pifs_one (PW.pt (pw_or (pt_cmpR op_eq (pv 0) pe_int (nomark _)) (pw_or1 (pt_cmpR op_lt (pe_tm PySem.F.slot_tuple_count PySem.F.type_tuple_count (mt_countTK K rfl) (pv 2) (pa_cons (pv 0) pa_nil)) (pv 1) (nomark _))))))) (fun _ _ _ _ _=>(pv 0)) sc_w_near.nd rfl rfl)
     (pss_cons (ps_set (i:=8) sc_w_near.nd rfl (Or.inl rfl) (pe_lst pa_nil))
     (pss_cons (ps_for PassesOwn.never rfl (pi_range1 rfl T.n_range (pa_cons (pe_callB call_len_seq rfl T.n_len PySem.boot_len (pa_cons (pv 4) pa_nil)) pa_nil)) (pg_name (i:=9) sc_w_near.nd rfl (Or.inl rfl)) (pss_cons (ps_set (i:=10) sc_w_near.nd rfl (Or.inl rfl) (pe_op op_sub (pv 6) (pe_op op_mul (pe_ix ix_list (pv 4) (pv 9) (fun _ _=>rfl)) (pe_ix ix_tup (pv 1) (pv 9) (fun _ _=>rfl)))))
     (pss_one (ps_if (pt_cmpR op_le (pe_callB call_abs rfl T.n_abs PyProof.Rows.boot_abs (pa_cons (pv 10) pa_nil)) (pv 5) (nomark _)) (pss_one (ps_for PassesOwn.never rfl (pi_list (pv 7)) (pg_name (i:=11) sc_w_near.nd rfl (Or.inl rfl)) (pss_one (ps_if (PW.pt (pw_and (pt_cmpR op_ne (pv 11) (pe_ix ix_tup (pv 1) (pv 9) (fun _ _=>rfl)) (nomark _)) (pw_and1 (pt_cmpR op_le (pe_callB call_abs rfl T.n_abs PyProof.Rows.boot_abs (pa_cons (pe_op op_add (pv 10) (pe_op op_mul (pe_ix ix_list (pv 4) (pv 9) (fun _ _=>rfl)) (pv 11))) pa_nil)) (pv 5) (nomark _))))) (pss_one (ps_expr (pe_bm PySem.F.plainAttrs_list PySem.F.slot_list_append PySem.F.type_list_append mt_append (pv 8) (pa_cons (pe_op op_catU (pe_op op_catU (pe_slice sl_tup (pv 1) po_none (po_some (pv 9))) (pe_tup (pa_cons (pv 11) pa_nil))) (pe_slice sl_tup (pv 1) (po_some (pe_op op_add (pv 9) pe_int)) po_none)) pa_nil)))) pss_nil)))) pss_nil))))
     (pss_one (ps_ret (pv 8)))))))),?_⟩
   have hlen:=V0.len
   have hw:=ok.w
   have n1:=ok.n1
   have n2:=ok.n2
   have hwide:wide n<=9:=by unfold wide; omega
   refine⟨_,rfl,c,_,rfl,hc,rfl,_,_,rfl,_,_,rfl,_,_,rfl,_,_,rfl,rfl,?_⟩
   refine⟨_,rfl,_,rfl,h,a,hs,xs,rfl,hh,.inr (SqT.of hT),⟨hlen.symm,by omega,ok.h⟩,?_⟩
   refine⟨_,rfl,_,rfl,_,rfl,_,_,rfl,rfl,-n,n+1,rfl,⟨by omega,by omega,by omega,by omega⟩,fun D hD=>?_⟩
   refine comp_rangeI (fun j H'=>H'=upd H D (.lst ((freeL n r xs j).map V.int))) rfl ?_ ?_
   . rintro j H' N hj rfl hN
     have hT':(upd H D (.lst ((freeL n r xs j).map V.int))) a=some (.tup (xs.map V.int)):=Same.upd hD _ _ hT
     have hD':(upd H D (.lst ((freeL n r xs j).map V.int))) D=some (.lst ((freeL n r xs j).map V.int)):=upd_same
     have no:¬ (-n+(j:Int)=0\/(xs.count (-n+(j:Int)):Int) < r)->(upd H D (.lst ((freeL n r xs j).map V.int)))=upd H D (.lst ((freeL n r xs (j+1)).map V.int)):=fun z=>by rw[freeL_succ,if_neg z,List.append_nil]
     have fl:=freeL_len n r xs j
     have yes:(-n+(j:Int)=0\/(xs.count (-n+(j:Int)):Int) < r)->upd (upd H D (.lst ((freeL n r xs j).map V.int))) D (.lst ((freeL n r xs j).map V.int++[.int (-n+(j:Int))]))=upd H D (.lst ((freeL n r xs (j+1)).map V.int)):=fun z=>by
       rw[upd_upd,freeL_succ,if_pos z,List.map_append]
       rfl
     refine⟨_,rfl,rfl,_,rfl,?_⟩
     rw[dec_vint]
     refine ite2 (fun h2=>?_) (fun h2=>?_)
     . refine iteT ⟨_,rfl,_,hD',small1000 (by rw[List.length_map]; unfold wide at *; omega),hN _ (yes (.inl (by simpa using h2)))⟩
     . refine⟨_,rfl,⟨_,_,rfl,hT'⟩,_,rfl,_,xs,_,rfl,rfl,SqT.of hT',_,rfl,_,_,rfl,rfl,_,rfl,?_⟩
       refine ite2 (fun h3=>?_) (fun h3=>?_)
       . exact⟨_,rfl,_,hD',small1000 (by rw[List.length_map]; unfold wide at *; omega),hN _ (yes (.inr (of_decide_eq_true h3)))⟩
       . exact hN _ (no fun z=>z.elim (fun z=>h2 (by simp[z])) (fun z=>h3 (decide_eq_true z)))
   . rintro H' rfl
     have s1:Same H (upd H D (.lst ((freeL n r xs (n+1 - -n).toNat).map V.int))):=Same.upd hD
     have hD1:(upd H D (.lst ((freeL n r xs (n+1 - -n).toNat).map V.int))) D=some (.lst ((freeL n r xs (wide n)).map V.int)):=upd_same
     revert s1 hD1
     generalize upd H D (.lst ((freeL n r xs (n+1 - -n).toNat).map V.int))=H1
     intro s1 hD1
     refine⟨Nat.zero_le _,fun m fm=>?_⟩
     have fm0:=s1.free fm
     have s2:Same H1 (upd H1 m (.lst [])):=Same.upd fm
     have hm2:(upd H1 m (.lst [])) m=some (.lst []):=upd_same
     revert s2 hm2
     generalize upd H1 m (.lst [])=H2
     intro s2 hm2
     refine⟨_,rfl,h,_,rfl,.inl ((s1.trans s2).seq hh),?_⟩
     rw[List.length_map]
     refine⟨_,rfl,by omega,by omega,for_range (n:=((hs.length:Nat):Int).toNat) (fun i σ H'=>∃ v9 v10 v11 ys,σ=[some (.ref c),some (.ref a),some (.int n),some (.int r),some (.ref h),some (.int lim),some (.int (tiltOf hs xs)),some (.ref D),some (.ref m),v9,v10,v11]/\Same H1 H'/\H' m=some (.lst ys)/\Tups H' ys (nbsTo n r hs lim xs i)) ⟨none,none,none,[],rfl,s2,hm2,.nil⟩ ?_ ?_⟩
     . rintro i σ H3 hi ⟨v9,v10,v11,ys,rfl,s3,hm3,T3⟩
       have hi':i < hs.length:=by simpa using hi
       have e0:(0:Int)+(i:Int)=(i:Int):=by omega
       rw[e0]
       have ax:atI (xs.map V.int) (i:Int)=some (.int (xs.getD i 0)):=atI_intD (by omega) (by omega)
       have ah:atI (hs.map V.int) (i:Int)=some (.int (hs.getD i 0)):=atI_intD (by omega) (by omega)
       have hmem:=ok.h (hs.getD i 0) (getD_mem hi')
       have s03:=s1.trans s3
       have hrl:=rowsL_len n r hs lim xs i
       have hmul:i*wide n<=5*9:=Nat.mul_le_mul (by omega) hwide
       have hnl:(nbsTo n r hs lim xs i).length<=45:=by unfold nbsTo; rw[List.length_map]; omega
       refine⟨_,rfl,_,rfl,_,rfl,h,_,_,_,rfl,rfl,s03.seq hh,ah,_,rfl,_,rfl,a,_,_,_,rfl,rfl,SqT.of (s03 _ _ hT),ax,_,_,rfl,rfl,.inl ⟨by omega,by omega⟩,_,_,rfl,rfl,?_⟩
       refine⟨_,rfl,_,rfl,_,rfl,_,_,rfl,rfl,_,rfl,?_⟩
       have eheld:tiltOf hs xs - hs.getD i 0*xs.getD i 0=heldOf hs xs i:=rfl
       rw[eheld]
       refine ite2 (fun h1=>?_) (fun h1=>?_)
       . have h1':absI (heldOf hs xs i)<=lim:=of_decide_eq_true h1
         have hfr:=freeL_len n r xs (wide n)
         have hput:=freeL_puts n r hs lim xs i (wide n)
         have hmemF:∀ p∈freeL n r xs (wide n),(-n<=p/\p<=n)/\(p≠0->(xs.count p:Int) < r):=fun p hp=>by
           obtain ⟨⟨k,hk,rfl⟩,h2⟩:=freeL_mem hp
           exact⟨by unfold wide at hk; omega,fun z=>h2.resolve_left z⟩
         have hD3:=s3 _ _ hD1
         generalize freeL n r xs (wide n)=fr at hD3 hfr hput hmemF
         refine⟨_,rfl,D,rfl,⟨_,SqL.of hD3⟩,for_list (K:=K) (a:=D) (xs:=fr.map V.int) (fun j σ H'=>∃ v11 ys,σ=[some (.ref c),some (.ref a),some (.int n),some (.int r),some (.ref h),some (.int lim),some (.int (tiltOf hs xs)),some (.ref D),some (.ref m),some (.int (i:Int)),some (.int (heldOf hs xs i)),v11]/\Same H1 H'/\H' D=some (.lst (fr.map V.int))/\H' m=some (.lst ys) ∧
           Tups H' ys (nbsTo n r hs lim xs i++((fr.take j).filter fun p=>decide (Lets n r hs lim xs i p)).map fun p=>xs.set i p)) ⟨v11,ys,rfl,s3,hD3,hm3,by simpa using T3⟩ (fun j σ H' _ ⟨_,_,_,_,e,_⟩=>SqL.of e) ?_ ?_⟩
         . rintro j x σ H4 hj ⟨v11,ys,rfl,s4,hD4,hm4,T4⟩
           obtain ⟨p,rfl,hz⟩:=int_at hj
           obtain ⟨hp1,hp2⟩:=hmemF p (List.mem_of_getElem? hz)
           have etk:fr.take (j+1)=fr.take j++[p]:=by rw[List.take_succ,hz]; rfl
           have s04:=s1.trans s4
           have no:¬ Lets n r hs lim xs i p->Tups H4 ys (nbsTo n r hs lim xs i++((fr.take (j+1)).filter fun p=>decide (Lets n r hs lim xs i p)).map fun p=>xs.set i p):=fun z=>by
             rw[etk,filt_no (decide_eq_false z)]
             exact T4
           refine⟨_,rfl,_,rfl,_,rfl,a,_,_,_,rfl,rfl,SqT.of (s04 _ _ hT),ax,rfl,_,rfl,?_⟩
           rw[dec_vint]
           refine ite2 (fun h2=>?_) (fun h2=>?_)
           . have h2':p≠xs.getD i 0:=by simpa using h2
             refine⟨_,rfl,_,rfl,_,rfl,h,_,_,_,rfl,rfl,s04.seq hh,ah,_,rfl,_,_,rfl,rfl,.inl ⟨by omega,by omega⟩,_,_,rfl,rfl,_,rfl,_,rfl,_,_,rfl,rfl,_,rfl,?_⟩
             refine ite2 (fun h3=>?_) (fun h3=>?_)
             . have h3':absI (heldOf hs xs i+hs.getD i 0*p)<=lim:=of_decide_eq_true h3
               have L:Lets n r hs lim xs i p:=⟨by omega,hp1,h2',hp2,h1',h3'⟩
               refine⟨_,rfl,.inl ⟨rfl,_,SqL.of hm4⟩,?_⟩
               refine⟨_,rfl,_,rfl,_,rfl,a,_,rfl,SqT.of (s04 _ _ hT),?_,fun l1 f1=>?_⟩
               . rw[HT.sIx_none,HT.sIx_nat,List.length_map,Nat.min_eq_left (by omega)]
                 omega
               have sa:Same H4 (upd H4 l1 (.tup (cutV (xs.map V.int) none (some (i:Int))))):=Same.upd f1
               have ha:(upd H4 l1 (.tup (cutV (xs.map V.int) none (some (i:Int))))) l1=some (.tup (cutV (xs.map V.int) none (some (i:Int)))):=upd_same
               revert sa ha
               generalize upd H4 l1 (.tup (cutV (xs.map V.int) none (some (i:Int))))=Ha
               intro sa ha
               refine⟨_,rfl,(by show 1<=sizeLine; decide),fun l2 f2=>?_⟩
               have sb:Same Ha (upd Ha l2 (.tup [.int p])):=Same.upd f2
               have hb:(upd Ha l2 (.tup [.int p])) l2=some (.tup [.int p]):=upd_same
               revert sb hb
               generalize upd Ha l2 (.tup [.int p])=Hb
               intro sb hb
               have len1:=cutV_length (xs.map V.int) none (some (i:Int))
               rw[List.length_map] at len1
               refine⟨l1,l2,_,_,rfl,rfl,sb _ _ ha,hb,Nat.le_of_lt (small1000 (by show _+1<=_; omega)),fun l3 Hc sc hc3=>?_⟩
               have s4c:=sa.trans (sb.trans sc)
               have s0c:=s04.trans s4c
               refine⟨_,rfl,_,rfl,_,_,rfl,rfl,_,rfl,a,_,rfl,SqT.of (s0c _ _ hT),?_,fun l4 f4=>?_⟩
               . rw[show ((i:Int)+1)=((i+1:Nat):Int) by omega,HT.sIx_nat,List.length_map]
                 omega
               have sd:Same Hc (upd Hc l4 (.tup (cutV (xs.map V.int) (some ((i:Int)+1)) none))):=Same.upd f4
               have hd:(upd Hc l4 (.tup (cutV (xs.map V.int) (some ((i:Int)+1)) none))) l4=some (.tup (cutV (xs.map V.int) (some ((i:Int)+1)) none)):=upd_same
               revert sd hd
               generalize upd Hc l4 (.tup (cutV (xs.map V.int) (some ((i:Int)+1)) none))=Hd
               intro sd hd
               have e5:=cut_set xs i p (by omega)
               refine⟨l3,l4,_,_,rfl,rfl,sd _ _ hc3,hd,?_,fun l5 He se he=>?_⟩
               . rw[<-List.length_append,e5,List.length_map,List.length_set]
                 exact Nat.le_of_lt (small1000 (by omega))
               rw[e5] at he
               have s4e:=s4c.trans (sd.trans se)
               have hme:=s4e _ _ hm4
               have hyl:=tups_len T4
               rw[List.length_append,List.length_map] at hyl
               have hfl:((fr.take j).filter fun p=>decide (Lets n r hs lim xs i p)).length<=fr.length:=Nat.le_trans (List.length_filter_le _ _) (by rw[List.length_take]; omega)
               refine⟨m,_,_,rfl,rfl,hme,small1000 (by omega),?_⟩
               refine⟨_,_,rfl,(s4.trans s4e).put fm,by rw[upd_ne (ne_of_none hD1 fm)]; exact s4e _ _ hD4,upd_same,?_⟩
               rw[etk,filt_yes (decide_eq_true L),List.map_append,<-List.append_assoc]
               refine tups_snoc (tups_keep hme (fun _ z=>nomatch z) (s4e.tups T4)) ?_
               rw[upd_ne (fun z=>by rw[z,hme] at he; cases he)]
               exact he
             . exact⟨_,_,rfl,s4,hD4,hm4,no fun L=>h3 (decide_eq_true L.behind)⟩
           . have h2':p=xs.getD i 0:=by simpa using h2
             exact iteF ⟨_,_,rfl,s4,hD4,hm4,no fun L=>L.ne h2'⟩
         . rintro σ H4 ⟨v11,ys,rfl,s4,hD4,hm4,T4⟩
           rw[List.length_map,List.take_length,hput,<-nbsTo_succ] at T4
           exact⟨_,_,_,ys,rfl,s4,hm4,T4⟩
       . have h1':¬ absI (heldOf hs xs i)<=lim:=fun z=>h1 (decide_eq_true z)
         refine⟨_,_,_,ys,rfl,s3,hm3,?_⟩
         rw[nbsTo_succ,putsL_nil _ h1']
         simpa using T3
     . rintro σ H3 ⟨v9,v10,v11,ys,rfl,s3,hm3,T3⟩
       rw[Int.toNat_natCast,<-hlen] at T3
       exact⟨_,rfl,q m H3 ys (s1.trans s3) fm0 hm3 T3⟩
def sp_w_beam (K:PySem.W.Frag) (t:Adr):Sp:=fun vs H Q _=>∃ (c:Addr) (n r lim:Int) (hs:List Int),vs=[.ref c]/\ScaleAt K H c n r hs lim/\∀ b H',Same H H'->BeamAt t H' b n r hs lim->Q (.ref b) H'
theorem ok_w_beam (T:Txt K mg t):FnOk P w K mg base CX0 5 t.a_w_beam t.d_w_beam ["_law_scale"] (sp_w_beam K t):=by
 have G_Beam_init:FnOk P w K mg base CX0 3 t.a_Beam_init t.d_Beam_init ["self","notches","room","hefts","limit"] (sp_Beam_init K t):=ok_Beam_init T
 refine T.F_w_beam.ok sc_w_beam (fun vs H Q E h=>?_) (fun cdv A outer s H vs Q E hr h=>?_)
 . obtain ⟨c,n,r,lim,hs,rfl,⟨h,ok,hc,hh⟩,q⟩:=h
   rfl
 . obtain ⟨c,n,r,lim,hs,rfl,⟨h,ok,hc,hh⟩,q⟩:=h
   have hr_Beam:Room 4 _:=hr.mono (by decide)
   refine⟨_,(pss_one (ps_ret (pe_make T.mk_Beam G_Beam_init hr_Beam rfl T.m_Beam T.b_Beam_init .nil pass0 (pa_cons (pe_ix ix_list (pv 0) pe_int (fun _ _=>rfl)) (pa_cons (pe_ix ix_list (pv 0) pe_int (fun _ _=>rfl)) (pa_cons (pe_callTy call_list_of rfl T.n_list PyProof.Rows.boot_list (pa_cons (pe_ix ix_list (pv 0) pe_int (fun _ _=>rfl)) pa_nil)) (pa_cons (pe_ix ix_list (pv 0) pe_int (fun _ _=>rfl)) pa_nil))))))),?_⟩
   refine⟨_,rfl,c,_,_,_,rfl,rfl,hc,rfl,?_⟩
   refine⟨_,rfl,c,_,_,_,rfl,rfl,hc,rfl,?_⟩
   refine⟨_,rfl,c,_,_,_,rfl,rfl,hc,rfl,h,_,rfl,.inl hh,fun l3 f3=>?_⟩
   have s3:Same H (upd H l3 (.lst (hs.map V.int))):=Same.upd f3
   refine⟨_,rfl,c,_,_,_,rfl,rfl,s3.seq hc,rfl,fun b dx fb fdx ndx=>?_⟩
   have s4:Same H (upd (upd (upd H l3 (.lst (hs.map V.int))) dx (.own b)) b (.ins t.c_Beam dx [])):=(s3.updT fdx).updT (by rw[upd_ne (Ne.symm ndx)]; exact fb)
   have e3b:l3≠b:=fun e=>by rw[<-e,upd_same] at fb; cases fb
   have e3d:l3≠dx:=fun e=>by rw[<-e,upd_same] at fdx; cases fdx
   refine⟨b,dx,l3,n,r,lim,hs,rfl,upd_same,.inl (SqL.of (by rw[upd_ne e3b,upd_ne e3d,upd_same])),ok,fun H5 B5 s5=>⟨rfl,?_⟩⟩
   have fb2:H b=none:=s3.free fb
   exact q b H5 (fun c o e=>s5 c o (s4 c o e) (ne_of_none e fb2)) B5
end
end Bt
namespace Bt
open PySem L2
section
variable {P:Program} {w:World} {K:PySem.W.Frag} {mg:Str->Option Value} {base:Heap} {t:Adr}
structure CaseAt (H H':Hp) (l sc h st go:Addr) (n r lim:Int) (hs s g:List Int):Prop where
 sm:Same H H'
 fsc:H sc=none
 fh:H h=none
 hl:H' l=some (.lst [.ref sc,.ref st,.ref go])
 hsc:H' sc=some (.lst [.int n,.int r,.ref h,.int lim])
 hh:H' h=some (.lst (hs.map V.int))
 hst:H' st=some (.tup (s.map V.int))
 hgo:H' go=some (.tup (g.map V.int))
 ok:BeamOk n r hs lim
 vs:Valid n r hs.length s
 vg:Valid n r hs.length g
 ks:absI (tiltOf hs s)<=lim
 kg:absI (tiltOf hs g)<=lim
theorem CaseAt.mk5 {H:Hp} {h sc st go l:Addr} {n r lim:Int} {hs s g:List Int} (f1:H h=none) (f2:(upd H h (.lst (hs.map V.int))) sc=none) (f3:(upd (upd H h (.lst (hs.map V.int))) sc (.lst [.int n,.int r,.ref h,.int lim])) st=none)
   (f4:(upd (upd (upd H h (.lst (hs.map V.int))) sc (.lst [.int n,.int r,.ref h,.int lim])) st (.tup (s.map V.int))) go=none) (f5:(upd (upd (upd (upd H h (.lst (hs.map V.int))) sc (.lst [.int n,.int r,.ref h,.int lim])) st (.tup (s.map V.int))) go (.tup (g.map V.int))) l=none)
   (ok:BeamOk n r hs lim) (v1:Valid n r hs.length s) (v2:Valid n r hs.length g) (k1:absI (tiltOf hs s)<=lim) (k2:absI (tiltOf hs g)<=lim) :
   CaseAt H (upd (upd (upd (upd (upd H h (.lst (hs.map V.int))) sc (.lst [.int n,.int r,.ref h,.int lim])) st (.tup (s.map V.int))) go (.tup (g.map V.int))) l (.lst [.ref sc,.ref st,.ref go])) l sc h st go n r lim hs s g:=by
 have s5:=Same.upd (o:=.lst [.ref sc,.ref st,.ref go]) f5
 have s4:=(Same.upd (o:=.tup (g.map V.int)) f4).trans s5
 have s3:=(Same.upd (o:=.tup (s.map V.int)) f3).trans s4
 have s2:=(Same.upd (o:=.lst [.int n,.int r,.ref h,.int lim]) f2).trans s3
 exact⟨(Same.upd f1).trans s2,(Same.upd f1).free f2,f1,upd_same,s3 _ _ upd_same,s2 _ _ upd_same,s4 _ _ upd_same,s5 _ _ upd_same,ok,v1,v2,k1,k2⟩
theorem CaseAt.mk4 {H:Hp} {h sc st go l:Addr} {n r lim:Int} {hs s g:List Int} (hst:H st=some (.tup (s.map V.int))) (f1:H h=none) (f2:(upd H h (.lst (hs.map V.int))) sc=none)
   (f4:(upd (upd H h (.lst (hs.map V.int))) sc (.lst [.int n,.int r,.ref h,.int lim])) go=none) (f5:(upd (upd (upd H h (.lst (hs.map V.int))) sc (.lst [.int n,.int r,.ref h,.int lim])) go (.tup (g.map V.int))) l=none)
   (ok:BeamOk n r hs lim) (v1:Valid n r hs.length s) (v2:Valid n r hs.length g) (k1:absI (tiltOf hs s)<=lim) (k2:absI (tiltOf hs g)<=lim) :
   CaseAt H (upd (upd (upd (upd H h (.lst (hs.map V.int))) sc (.lst [.int n,.int r,.ref h,.int lim])) go (.tup (g.map V.int))) l (.lst [.ref sc,.ref st,.ref go])) l sc h st go n r lim hs s g:=by
 have s5:=Same.upd (o:=.lst [.ref sc,.ref st,.ref go]) f5
 have s4:=(Same.upd (o:=.tup (g.map V.int)) f4).trans s5
 have s2:=(Same.upd (o:=.lst [.int n,.int r,.ref h,.int lim]) f2).trans s4
 have s1:=(Same.upd (o:=.lst (hs.map V.int)) f1).trans s2
 exact⟨s1,(Same.upd f1).free f2,f1,upd_same,s4 _ _ upd_same,s2 _ _ upd_same,s1 _ _ hst,s5 _ _ upd_same,ok,v1,v2,k1,k2⟩
theorem CaseAt.from {H H1 H':Hp} {l sc h st go:Addr} {n r lim:Int} {hs s g:List Int} (s1:Same H H1) (C:CaseAt H1 H' l sc h st go n r lim hs s g):CaseAt H H' l sc h st go n r lim hs s g :=
 ⟨s1.trans C.sm,s1.free C.fsc,s1.free C.fh,C.hl,C.hsc,C.hh,C.hst,C.hgo,C.ok,C.vs,C.vg,C.ks,C.kg⟩
def sp_w_hard (K:PySem.W.Frag) (t:Adr):Sp:=fun vs H Q _=>∃ c:Int,vs=[.int c]/\∀ l sc h st go H' n r lim hs s g,CaseAt H H' l sc h st go n r lim hs s g->Q (.ref l) H'
theorem ok_w_hard (T:Txt K mg t):FnOk P w K mg base CX0 1 t.a_w_hard t.d_w_hard ["_law_cell"] (sp_w_hard K t):=by
 refine T.F_w_hard.ok sc_w_hard (fun vs H Q E h=>?_) (fun cdv A outer s H vs Q E hr h=>?_)
 . obtain ⟨c,rfl,q⟩:=h
   rfl
 . obtain ⟨c,rfl,q⟩:=h
   refine⟨_,(WSs.h (wss_cons (ws_set (i:=1) sc_w_hard.nd rfl (Or.inl rfl) (WE.mk (pe_op op_mod (pe_op op_fdiv (pv 0) pe_int) pe_int)))
     (wss_cons (ws_if (pt_cmpR op_eq (pe_op op_mod (pv 0) pe_int) pe_int (nomark _)) (wss_one (ws_ret (we_lst (wa_cons (we_lst (wa_cons (WE.mk pe_int) (wa_cons (WE.mk pe_int) (wa_cons (we_lst (wa_cons (WE.mk pe_int) (wa_cons (WE.mk pe_int) (wa_cons (WE.mk pe_int) (wa_cons (WE.mk pe_int) (wa_cons (WE.mk pe_int) wa_nil)))))) (wa_cons (WE.mk (pe_op op_add pe_int (pv 1))) wa_nil))))) (wa_cons (we_tup (wa_cons (WE.mk (pe_un un_neg pe_int)) (wa_cons (WE.mk (pe_un un_neg pe_int)) (wa_cons (WE.mk pe_int) (wa_cons (WE.mk pe_int) (wa_cons (WE.mk pe_int) wa_nil)))))) (wa_cons (we_tup (wa_cons (WE.mk pe_int) (wa_cons (WE.mk pe_int) (wa_cons (WE.mk (pe_un un_neg pe_int)) (wa_cons (WE.mk pe_int) (wa_cons (WE.mk (pe_un un_neg pe_int)) wa_nil)))))) wa_nil)))))) wss_nil)
     (wss_cons (ws_if (pt_cmpR op_eq (pe_op op_mod (pv 0) pe_int) pe_int (nomark _)) (wss_one (ws_ret (we_lst (wa_cons (we_lst (wa_cons (WE.mk pe_int) (wa_cons (WE.mk pe_int) (wa_cons (we_lst (wa_cons (WE.mk pe_int) (wa_cons (WE.mk pe_int) (wa_cons (WE.mk pe_int) (wa_cons (WE.mk pe_int) wa_nil))))) (wa_cons (WE.mk (pe_op op_add pe_int (pv 1))) wa_nil))))) (wa_cons (we_tup (wa_cons (WE.mk pe_int) (wa_cons (WE.mk pe_int) (wa_cons (WE.mk pe_int) (wa_cons (WE.mk (pe_un un_neg pe_int)) wa_nil))))) (wa_cons (we_tup (wa_cons (WE.mk (pe_un un_neg pe_int)) (wa_cons (WE.mk pe_int) (wa_cons (WE.mk (pe_un un_neg pe_int)) (wa_cons (WE.mk pe_int) wa_nil))))) wa_nil)))))) wss_nil)
     (wss_cons (ws_if (pt_cmpR op_eq (pe_op op_mod (pv 0) pe_int) pe_int (nomark _)) (wss_one (ws_ret (we_lst (wa_cons (we_lst (wa_cons (WE.mk pe_int) (wa_cons (WE.mk pe_int) (wa_cons (we_lst (wa_cons (WE.mk pe_int) (wa_cons (WE.mk pe_int) (wa_cons (WE.mk pe_int) wa_nil)))) (wa_cons (WE.mk (pe_op op_add pe_int (pv 1))) wa_nil))))) (wa_cons (we_tup (wa_cons (WE.mk pe_int) (wa_cons (WE.mk (pe_un un_neg pe_int)) (wa_cons (WE.mk pe_int) wa_nil)))) (wa_cons (we_tup (wa_cons (WE.mk pe_int) (wa_cons (WE.mk pe_int) (wa_cons (WE.mk (pe_un un_neg pe_int)) wa_nil)))) wa_nil)))))) wss_nil)
     (wss_cons (ws_if (pt_cmpR op_eq (pe_op op_mod (pv 0) pe_int) pe_int (nomark _)) (wss_one (ws_ret (we_lst (wa_cons (we_lst (wa_cons (WE.mk pe_int) (wa_cons (WE.mk pe_int) (wa_cons (we_lst (wa_cons (WE.mk pe_int) (wa_cons (WE.mk pe_int) (wa_cons (WE.mk pe_int) wa_nil)))) (wa_cons (WE.mk (pe_op op_add pe_int (pv 1))) wa_nil))))) (wa_cons (we_tup (wa_cons (WE.mk pe_int) (wa_cons (WE.mk pe_int) (wa_cons (WE.mk (pe_un un_neg pe_int)) wa_nil)))) (wa_cons (we_tup (wa_cons (WE.mk pe_int) (wa_cons (WE.mk (pe_un un_neg pe_int)) (wa_cons (WE.mk pe_int) wa_nil)))) wa_nil)))))) wss_nil)
     (wss_cons (ws_set (i:=2) sc_w_hard.nd rfl (Or.inl rfl) (we_ix ix_list (we_lst (wa_cons (we_tup (wa_cons (WE.mk pe_int) (wa_cons (WE.mk pe_int) (wa_cons (WE.mk pe_int) wa_nil)))) (wa_cons (we_tup (wa_cons (WE.mk (pe_un un_neg pe_int)) (wa_cons (WE.mk (pe_un un_neg pe_int)) (wa_cons (WE.mk (pe_un un_neg pe_int)) wa_nil)))) (wa_cons (we_tup (wa_cons (WE.mk pe_int) (wa_cons (WE.mk pe_int) (wa_cons (WE.mk pe_int) wa_nil)))) wa_nil)))) (WE.mk (pe_op op_sub (pe_op op_mod (pv 0) pe_int) pe_int)) (fun _ _=>rfl)))
     (wss_one (ws_ret (we_lst (wa_cons (we_lst (wa_cons (WE.mk pe_int) (wa_cons (WE.mk pe_int) (wa_cons (we_lst (wa_cons (WE.mk pe_int) (wa_cons (WE.mk pe_int) (wa_cons (WE.mk pe_int) wa_nil)))) (wa_cons (WE.mk (pe_op op_add pe_int (pv 1))) wa_nil))))) (wa_cons (WE.mk (pv 2)) (wa_cons (we_tup (wa_cons (WE.mk pe_int) (wa_cons (WE.mk pe_int) (wa_cons (WE.mk pe_int) wa_nil)))) wa_nil))))))))))))),?_⟩
   refine⟨_,rfl,_,_,rfl,rfl,⟨by decide,by decide⟩,_,_,rfl,rfl,(by show (0:Int) < 3; decide),?_⟩
   refine⟨_,rfl,_,_,rfl,rfl,(by show (0:Int) < 7; decide),rfl,_,rfl,?_⟩
   have m0:0<=c / 7 % 3:=Int.emod_nonneg _ (by decide)
   have m1:c / 7 % 3 < 3:=Int.emod_lt_of_pos _ (by decide)
   have c0:0<=c % 7:=Int.emod_nonneg _ (by decide)
   have c1:c % 7 < 7:=Int.emod_lt_of_pos _ (by decide)
   rw[dec_vint]
   refine ite2 (fun h0=>?_) (fun h0=>?_)
   . refine⟨(by show 5<=sizeLine; decide),fun h f1=>⟨_,rfl,_,_,rfl,rfl,(by show 4<=sizeLine; decide),fun sc f2=>⟨_,rfl,_,rfl,(by show 5<=sizeLine; decide),fun st f3=>⟨_,rfl,_,rfl,(by show 5<=sizeLine; decide),fun go f4=>⟨(by show 3<=sizeLine; decide),fun l f5=>?_⟩⟩⟩⟩⟩
     have t1:absI (tiltOf [13,20,16,15,8] [-1,-1,1,0,1])=9:=by decide
     have t2:absI (tiltOf [13,20,16,15,8] [1,1,-1,0,-1])=9:=by decide
     exact q l sc h st go _ 1 2 (9+c / 7 % 3) [13,20,16,15,8] [-1,-1,1,0,1] [1,1,-1,0,-1] (CaseAt.mk5 (n:=1) (r:=2) (lim:=(9+c / 7 % 3)) (hs:=[13,20,16,15,8]) (s:=[-1,-1,1,0,1]) (g:=[1,1,-1,0,-1]) f1 f2 f3 f4 f5 ⟨by decide,by decide,by decide,by decide,by omega,by omega,by decide,by decide,by decide⟩ ⟨rfl,by decide,by decide⟩ ⟨rfl,by decide,by decide⟩ (by omega) (by omega))
   have g0:c % 7≠0:=by simpa using h0
   refine⟨_,rfl,_,_,rfl,rfl,(by show (0:Int) < 7; decide),rfl,_,rfl,?_⟩
   rw[dec_vint]
   refine ite2 (fun h1=>?_) (fun h1=>?_)
   . refine⟨(by show 4<=sizeLine; decide),fun h f1=>⟨_,rfl,_,_,rfl,rfl,(by show 4<=sizeLine; decide),fun sc f2=>⟨_,rfl,(by show 4<=sizeLine; decide),fun st f3=>⟨_,rfl,_,rfl,(by show 4<=sizeLine; decide),fun go f4=>⟨(by show 3<=sizeLine; decide),fun l f5=>?_⟩⟩⟩⟩⟩
     have t1:absI (tiltOf [9,16,11,15] [2,0,1,-2])=1:=by decide
     have t2:absI (tiltOf [9,16,11,15] [-2,0,-1,2])=1:=by decide
     exact q l sc h st go _ 2 1 (14+c / 7 % 3) [9,16,11,15] [2,0,1,-2] [-2,0,-1,2] (CaseAt.mk5 (n:=2) (r:=1) (lim:=(14+c / 7 % 3)) (hs:=[9,16,11,15]) (s:=[2,0,1,-2]) (g:=[-2,0,-1,2]) f1 f2 f3 f4 f5 ⟨by decide,by decide,by decide,by decide,by omega,by omega,by decide,by decide,by decide⟩ ⟨rfl,by decide,by decide⟩ ⟨rfl,by decide,by decide⟩ (by omega) (by omega))
   have g1:c % 7≠1:=by simpa using h1
   refine⟨_,rfl,_,_,rfl,rfl,(by show (0:Int) < 7; decide),rfl,_,rfl,?_⟩
   rw[dec_vint]
   refine ite2 (fun h2=>?_) (fun h2=>?_)
   . refine⟨(by show 3<=sizeLine; decide),fun h f1=>⟨_,rfl,_,_,rfl,rfl,(by show 4<=sizeLine; decide),fun sc f2=>⟨_,rfl,(by show 3<=sizeLine; decide),fun st f3=>⟨_,rfl,(by show 3<=sizeLine; decide),fun go f4=>⟨(by show 3<=sizeLine; decide),fun l f5=>?_⟩⟩⟩⟩⟩
     have t1:absI (tiltOf [15,19,16] [1,-3,3])=6:=by decide
     have t2:absI (tiltOf [15,19,16] [1,3,-3])=24:=by decide
     exact q l sc h st go _ 3 2 (28+c / 7 % 3) [15,19,16] [1,-3,3] [1,3,-3] (CaseAt.mk5 (n:=3) (r:=2) (lim:=(28+c / 7 % 3)) (hs:=[15,19,16]) (s:=[1,-3,3]) (g:=[1,3,-3]) f1 f2 f3 f4 f5 ⟨by decide,by decide,by decide,by decide,by omega,by omega,by decide,by decide,by decide⟩ ⟨rfl,by decide,by decide⟩ ⟨rfl,by decide,by decide⟩ (by omega) (by omega))
   have g2:c % 7≠2:=by simpa using h2
   refine⟨_,rfl,_,_,rfl,rfl,(by show (0:Int) < 7; decide),rfl,_,rfl,?_⟩
   rw[dec_vint]
   refine ite2 (fun h3=>?_) (fun h3=>?_)
   . refine⟨(by show 3<=sizeLine; decide),fun h f1=>⟨_,rfl,_,_,rfl,rfl,(by show 4<=sizeLine; decide),fun sc f2=>⟨_,rfl,(by show 3<=sizeLine; decide),fun st f3=>⟨_,rfl,(by show 3<=sizeLine; decide),fun go f4=>⟨(by show 3<=sizeLine; decide),fun l f5=>?_⟩⟩⟩⟩⟩
     have t1:absI (tiltOf [14,20,18] [2,3,-4])=16:=by decide
     have t2:absI (tiltOf [14,20,18] [1,-3,4])=26:=by decide
     exact q l sc h st go _ 4 3 (38+c / 7 % 3) [14,20,18] [2,3,-4] [1,-3,4] (CaseAt.mk5 (n:=4) (r:=3) (lim:=(38+c / 7 % 3)) (hs:=[14,20,18]) (s:=[2,3,-4]) (g:=[1,-3,4]) f1 f2 f3 f4 f5 ⟨by decide,by decide,by decide,by decide,by omega,by omega,by decide,by decide,by decide⟩ ⟨rfl,by decide,by decide⟩ ⟨rfl,by decide,by decide⟩ (by omega) (by omega))
   have g3:c % 7≠3:=by simpa using h3
   refine⟨(by show 3<=sizeLine; decide),fun t1 e1=>⟨_,rfl,_,rfl,_,rfl,(by show 3<=sizeLine; decide),fun t2 e2=>⟨(by show 3<=sizeLine; decide),fun t3 e3=>⟨(by show 3<=sizeLine; decide),fun ll e4=>?_⟩⟩⟩⟩
   have s4:=(((Same.upd (o:=.tup [.int 0,.int 0,.int 0]) e1).updT (o:=.tup [.int (-4),.int (-4),.int (-4)]) e2).updT (o:=.tup [.int 4,.int 4,.int 4]) e3).updT (o:=.lst [.ref t1,.ref t2,.ref t3]) e4
   have k1:(upd (upd (upd (upd H t1 (.tup [.int 0,.int 0,.int 0])) t2 (.tup [.int (-4),.int (-4),.int (-4)])) t3 (.tup [.int 4,.int 4,.int 4])) ll (.lst [.ref t1,.ref t2,.ref t3])) t1=some (.tup (([0,0,0]:List Int).map V.int)):=Same.upd e4 _ _ (Same.upd e3 _ _ (Same.upd e2 _ _ upd_same))
   have k2:(upd (upd (upd (upd H t1 (.tup [.int 0,.int 0,.int 0])) t2 (.tup [.int (-4),.int (-4),.int (-4)])) t3 (.tup [.int 4,.int 4,.int 4])) ll (.lst [.ref t1,.ref t2,.ref t3])) t2=some (.tup (([-4,-4,-4]:List Int).map V.int)):=Same.upd e4 _ _ (Same.upd e3 _ _ upd_same)
   have k3:(upd (upd (upd (upd H t1 (.tup [.int 0,.int 0,.int 0])) t2 (.tup [.int (-4),.int (-4),.int (-4)])) t3 (.tup [.int 4,.int 4,.int 4])) ll (.lst [.ref t1,.ref t2,.ref t3])) t3=some (.tup (([4,4,4]:List Int).map V.int)):=Same.upd e4 _ _ upd_same
   have k4:(upd (upd (upd (upd H t1 (.tup [.int 0,.int 0,.int 0])) t2 (.tup [.int (-4),.int (-4),.int (-4)])) t3 (.tup [.int 4,.int 4,.int 4])) ll (.lst [.ref t1,.ref t2,.ref t3])) ll=some (.lst [.ref t1,.ref t2,.ref t3]):=upd_same
   dsimp only
   revert s4 k1 k2 k3 k4
   generalize upd (upd (upd (upd H t1 (.tup [.int 0,.int 0,.int 0])) t2 (.tup [.int (-4),.int (-4),.int (-4)])) t3 (.tup [.int 4,.int 4,.int 4])) ll (.lst [.ref t1,.ref t2,.ref t3])=H4
   intro s4 k1 k2 k3 k4
   have hy:∃ y x,atI [V.ref t1,V.ref t2,V.ref t3] (c % 7 - 4)=some (.ref y)/\H4 y=some (.tup (x.map V.int))/\Valid 4 3 3 x/\absI (tiltOf [20,20,20] x)<=240:=by
     have:c % 7=4\/c % 7=5\/c % 7=6:=by omega
     rcases this with e | e | e <;> rw[e]
     . exact⟨t1,[0,0,0],rfl,k1,⟨rfl,by decide,by decide⟩,by decide⟩
     . exact⟨t2,[-4,-4,-4],rfl,k2,⟨rfl,by decide,by decide⟩,by decide⟩
     . exact⟨t3,[4,4,4],rfl,k3,⟨rfl,by decide,by decide⟩,by decide⟩
   obtain ⟨y,x,ay,hyx,Vx,kx⟩:=hy
   refine⟨_,rfl,_,_,rfl,rfl,(by show (0:Int) < 7; decide),_,_,rfl,rfl,ll,_,_,_,rfl,rfl,SqL.of k4,ay,?_⟩
   refine⟨(by show 3<=sizeLine; decide),fun h f1=>⟨_,rfl,_,_,rfl,rfl,(by show 4<=sizeLine; decide),fun sc f2=>⟨_,rfl,(by show 3<=sizeLine; decide),fun go f4=>⟨(by show 3<=sizeLine; decide),fun l f5=>?_⟩⟩⟩⟩
   have t2:absI (tiltOf [20,20,20] [4,4,4])=240:=by decide
   exact q l sc h y go _ 4 3 (240+c / 7 % 3) [20,20,20] x [4,4,4] (CaseAt.from s4 (CaseAt.mk4 (n:=4) (r:=3) (lim:=240+c / 7 % 3) (hs:=[20,20,20]) (s:=x) (g:=[4,4,4]) hyx f1 f2 f4 f5 ⟨by decide,by decide,by decide,by decide,by omega,by omega,by decide,by decide,by decide⟩ Vx ⟨rfl,by decide,by decide⟩ (by omega) (by omega)))
end
end Bt
namespace Bt
open PySem L2
section
variable {P:Program} {w:World} {K:PySem.W.Frag} {mg:Str->Option Value} {base:Heap} {t:Adr}
theorem st_eq {T:TS} {D:Ends} {σ σ':St} {H:Hp} (e:σ=σ') (h:T D σ' H):T D σ H:=e ▸ h
theorem use_finA {R:Addr->Hp->Prop} {S:Addr->Hp->Prop} {G:Prop} (main:(∀ o H',S o H'->R o H')->G) (fin:∀ o H',S o H'->R o H'):G:=main fin
theorem use_finB {R:Addr->Addr->Option V->Hp->Prop} {S:Addr->Addr->Hp->Prop} {G:Prop} (main:(∀ x y v H',S x y H'->R x y v H')->G) (fin:∀ x y v H',S x y H'->R x y v H'):G:=main fin
theorem rep0 (k:Nat):(List.replicate k [V.int 0]).flatten=(List.replicate k (0:Int)).map V.int:=by
 induction k with
 | zero=>rfl
 | succ k ih=>rw[List.replicate_succ,List.flatten_cons,ih,List.replicate_succ,List.map_cons]; rfl
theorem valid0 {n r:Int} (hn:1<=n) (k:Nat):Valid n r k (List.replicate k 0) :=
 ⟨List.length_replicate,fun x hx=>by rw[(List.mem_replicate.mp hx).2]; omega,fun x hx h0=>absurd (List.mem_replicate.mp hx).2 h0⟩
theorem validP {n r nt:Int} (hr:1<=r) (h1:1<=nt) (h2:nt<=n) (k:Nat):Valid n r (k+2) (nt::-nt::List.replicate k 0):=by
 refine⟨by simp,fun x hx=>?_,fun x hx h0=>?_⟩
 . rcases List.mem_cons.mp hx with rfl | hx
   . omega
   . rcases List.mem_cons.mp hx with rfl | hx
     . omega
     . rw[(List.mem_replicate.mp hx).2]; omega
 . have hz:(List.replicate k (0:Int)).count x=0:=List.count_eq_zero.mpr fun z=>h0 (List.mem_replicate.mp z).2
   rw[List.count_cons,List.count_cons,hz]
   by_cases e1:nt=x
   . have e2:¬ (-nt=x):=by omega
     simp[e1,e2]
     split <;> omega
   . by_cases e2:-nt=x
     . simp[e1,e2]; omega
     . simp[e1,e2]; omega
def sp_w_case (K:PySem.W.Frag) (t:Adr):Sp:=fun vs H Q _=>∃ (a:Addr) (ns:List Int),vs=[.ref a]/\SqL K H a (ns.map V.int)/\∀ l sc h st go H' n r lim hs s g,CaseAt H H' l sc h st go n r lim hs s g->Q (.ref l) H'
theorem ok_w_case (T:Txt K mg t):FnOk P w K mg base CX0 3 t.a_w_case t.d_w_case ["_law_script"] (sp_w_case K t):=by
 have G_w_shape:FnOk P w K mg base CX0 2 t.a_w_shape t.d_w_shape ["_law_script"] (sp_w_shape K t):=ok_w_shape T
 have G_w_put:FnOk P w K mg base CX0 2 t.a_w_put t.d_w_put ["_law_script","_law_k","_law_more","_law_shape_here"] (sp_w_put K t):=ok_w_put T
 have G_w_at:FnOk P w K mg base CX0 1 t.a_w_at t.d_w_at ["_law_script","_law_k"] (sp_w_at K t):=ok_w_at T
 have G_w_hard:FnOk P w K mg base CX0 1 t.a_w_hard t.d_w_hard ["_law_cell"] (sp_w_hard K t):=ok_w_hard T
 have G_w_tilt:FnOk P w K mg base CX0 1 t.a_w_tilt t.d_w_tilt ["_law_hefts","_law_spots"] (sp_w_tilt K t):=ok_w_tilt T
 have G_w_limit:FnOk P w K mg base CX0 2 t.a_w_limit t.d_w_limit ["_law_script","_law_low"] (sp_w_limit K t):=ok_w_limit T
 refine T.F_w_case.ok sc_w_case (fun vs H Q E h=>?_) (fun cdv A outer s H vs Q E hr h=>?_)
 . obtain ⟨a,ns,rfl,hS,q⟩:=h
   rfl
 . obtain ⟨a,ns,rfl,hS,q⟩:=h
   have hr_w_shape:Room 2 _:=hr.mono (by decide)
   have hr_w_put:Room 2 _:=hr.mono (by decide)
   have hr_w_at:Room 1 _:=hr.mono (by decide)
   have hr_w_hard:Room 1 _:=hr.mono (by decide)
   have hr_w_tilt:Room 1 _:=hr.mono (by decide)
   have hr_w_limit:Room 2 _:=hr.mono (by decide)
   refine⟨_,(pss_cons (ps_set (i:=1) sc_w_case.nd rfl (Or.inl rfl) (pe_call G_w_shape hr_w_shape rfl T.m_w_shape T.k_w_shape T.b_w_shape .nil pass0 (pa_consP (pv 0) pa_nil)))
     (pss_cons (ps_asg (pv 1) (pg_lst rfl (pgs_cons (pg_name (i:=2) sc_w_case.nd rfl (Or.inl rfl)) (pgs_cons (pg_name (i:=3) sc_w_case.nd rfl (Or.inl rfl)) (pgs_cons (pg_name (i:=4) sc_w_case.nd rfl (Or.inl rfl)) pgs_nil)))))
     (pss_cons (ps_set (i:=5) sc_w_case.nd rfl (Or.inl rfl) (pe_call G_w_put hr_w_put rfl T.m_w_put T.k_w_put T.b_w_put .nil pass0 (pa_consP (pv 0) (pa_consP pe_int (pa_consP pe_int (pa_consP (pv 1) pa_nil))))))
     (pss_cons (ps_set (i:=6) sc_w_case.nd rfl (Or.inl rfl) (pe_call G_w_put hr_w_put rfl T.m_w_put T.k_w_put T.b_w_put .nil pass0 (pa_consP (pv 0) (pa_consP pe_int (pa_consP pe_int (pa_consP (pv 1) pa_nil))))))
     (pss_cons (ps_set (i:=7) sc_w_case.nd rfl (Or.inl rfl) (pe_call G_w_at hr_w_at rfl T.m_w_at T.k_w_at T.b_w_at .nil pass0 (pa_consP (pv 0) (pa_consP pe_int pa_nil))))
     (pss_cons (ps_if (pt_cmpR op_eq (pe_op op_mod (pv 7) pe_int) pe_int (nomark _)) (pss_one (ps_ret (pe_call G_w_hard hr_w_hard rfl T.m_w_hard T.k_w_hard T.b_w_hard .nil pass0 (pa_consP (pe_op op_fdiv (pv 7) pe_int) pa_nil)))) pss_nil)
     (pss_cons (ps_if (pt_cmpR op_eq (pe_op op_mod (pv 7) pe_int) pe_int (nomark _)) (pss_one (ps_set (i:=6) sc_w_case.nd rfl (Or.inl rfl) (pe_callTy call_list_of rfl T.n_list PyProof.Rows.boot_list (pa_consP (pv 5) pa_nil)))) pss_nil)
     (pss_cons (ps_if (PW.pt (pw_and (pt_cmpR op_eq (pe_op op_mod (pv 7) pe_int) pe_int (nomark _)) (pw_and1 (pt_cmpR op_gt (pe_callB call_len_seq rfl T.n_len PySem.boot_len (pa_consP (pv 4) pa_nil)) pe_int (nomark _))))) (pss_cons (ps_asg (pe_ix ix_list (pv 4) pe_int (fun _ _=>rfl)) (pg_sub (pv 4) pe_int set_list))
     (pss_cons (ps_set (i:=8) sc_w_case.nd rfl (Or.inl rfl) (pe_op op_add pe_int (pe_op op_mod (pe_op op_fdiv (pv 7) pe_int) (pv 2))))
     (pss_cons (ps_set (i:=5) sc_w_case.nd rfl (Or.inl rfl) (pe_op op_rep (pe_lst (pa_consP pe_int pa_nil)) (pe_callB call_len_seq rfl T.n_len PySem.boot_len (pa_consP (pv 4) pa_nil))))
     (pss_cons (ps_set (i:=6) sc_w_case.nd rfl (Or.inl rfl) (pe_op op_cat (pe_lst (pa_consP (pv 8) (pa_consP (pe_un un_neg (pv 8)) pa_nil))) (pe_op op_rep (pe_lst (pa_consP pe_int pa_nil)) (pe_op op_sub (pe_callB call_len_seq rfl T.n_len PySem.boot_len (pa_consP (pv 4) pa_nil)) pe_int))))
     (pss_one (ps_if (pt_cmpR op_eq (pe_op op_mod (pe_op op_fdiv (pv 7) pe_int) pe_int) pe_int (nomark _)) (pss_one (ps_par (i:=5) (j:=6) rfl sc_w_case.nd rfl rfl (by decide) rfl rfl (pa_consP (pv 6) (pa_consP (pv 5) pa_nil)) rfl)) pss_nil)))))) pss_nil)
     (pss_cons (ps_set (i:=9) sc_w_case.nd rfl (Or.inl rfl) (pe_callB (call_max2 rfl) rfl T.n_max PyProof.Rows.boot_max (pa_consP (pe_callB call_abs rfl T.n_abs PyProof.Rows.boot_abs (pa_consP (pe_call G_w_tilt hr_w_tilt rfl T.m_w_tilt T.k_w_tilt T.b_w_tilt .nil pass0 (pa_consP (pv 4) (pa_consP (pv 5) pa_nil))) pa_nil)) (pa_consP (pe_callB call_abs rfl T.n_abs PyProof.Rows.boot_abs (pa_consP (pe_call G_w_tilt hr_w_tilt rfl T.m_w_tilt T.k_w_tilt T.b_w_tilt .nil pass0 (pa_consP (pv 4) (pa_consP (pv 6) pa_nil))) pa_nil)) pa_nil))))
     (pss_one (ps_ret (pe_lst (pa_consP (pe_lst (pa_consP (pv 2) (pa_consP (pv 3) (pa_consP (pv 4) (pa_consP (pe_call G_w_limit hr_w_limit rfl T.m_w_limit T.k_w_limit T.b_w_limit .nil pass0 (pa_consP (pv 0) (pa_consP (pv 9) pa_nil))) pa_nil))))) (pa_consP (pe_callTy call_tuple_of rfl T.n_tuple PyProof.Rows.boot_tuple (pa_consP (pv 5) pa_nil)) (pa_consP (pe_callTy call_tuple_of rfl T.n_tuple PyProof.Rows.boot_tuple (pa_consP (pv 6) pa_nil)) pa_nil))))))))))))))),?_⟩
   refine⟨_,rfl,a,ns,rfl,hS,fun sh h H1 s1 fsh fh hh hsh=>?_⟩
   refine⟨_,rfl,sh,_,rfl,SqL.of hsh,rfl,_,_,rfl,_,_,rfl,_,_,rfl,rfl,?_⟩
   have okT:∀ lim:Int,0<=lim->lim<=400->BeamOk (shN ns) (shR ns) (shH ns) lim:=fun lim z1 z2=>sh_ok ns z1 z2
   have ok0:=okT 0 (by decide) (by decide)
   refine⟨_,rfl,_,rfl,a,sh,h,ns,3,0,shN ns,shR ns,shH ns,rfl,s1.seq hS,hsh,SqL.of hh,⟨ok0.n1,ok0.n2,ok0.r1,ok0.w⟩,fun fi H2 s2 ffi hfi=>?_⟩
   have V1:=put_ok ns 3 0 (shH ns).length ok0.n1 ok0.r1
   generalize putOf ns 3 0 (shN ns) (shR ns) (shH ns).length=s0 at V1 hfi
   have s02:=s1.trans s2
   refine⟨_,rfl,_,rfl,a,sh,h,ns,4,1000003,shN ns,shR ns,shH ns,rfl,s02.seq hS,s2 _ _ hsh,SqL.of (s2 _ _ hh),⟨ok0.n1,ok0.n2,ok0.r1,ok0.w⟩,fun la0 H3 s3 fla hla=>?_⟩
   have V2:=put_ok ns 4 1000003 (shH ns).length ok0.n1 ok0.r1
   generalize putOf ns 4 1000003 (shN ns) (shR ns) (shH ns).length=g0 at V2 hla
   have s03:=s02.trans s3
   have hh3:=s3 _ _ (s2 _ _ hh)
   have hfi3:=s3 _ _ hfi
   have S3:SqL K H3 a (ns.map V.int):=s03.seq hS
   generalize shN ns=n at *
   generalize shR ns=r at *
   generalize shH ns=hs0 at *
   have n1:=ok0.n1
   have n2:=ok0.n2
   have hw5:=ok0.w
   refine⟨_,rfl,a,ns,6,rfl,S3,?_⟩
   generalize ns.getD 6 0=c
   refine⟨_,rfl,_,_,rfl,rfl,(by show (0:Int) < 12; decide),rfl,_,rfl,?_⟩
   refine ite2 (fun h1=>?_) (fun h1=>?_)
   . exact⟨_,rfl,_,_,rfl,rfl,⟨by decide,by decide⟩,_,rfl,fun l sc h' st go H' n r lim hs s g C=>q l sc h' st go H' n r lim hs s g (CaseAt.from s03 C)⟩
   refine use_finA (R:=?R1) (S:=fun o H'=>Same H H'/\H' h=some (.lst (hs0.map V.int))/\H' fi=some (.lst (s0.map V.int))/\∃ g,H' o=some (.lst (g.map V.int))/\Valid n r hs0.length g) (fun fin1=>?main1) ?fin1
   case main1 =>
     refine⟨_,rfl,_,_,rfl,rfl,(by show (0:Int) < 12; decide),rfl,_,rfl,?_⟩
     refine ite2 (fun h2=>?_) (fun h2=>?_)
     . refine⟨_,rfl,fi,_,rfl,.inl (SqL.of hfi3),fun l4 f4=>?_⟩
       have s4:Same H3 (upd H3 l4 (.lst (s0.map V.int))):=Same.upd f4
       have h4:(upd H3 l4 (.lst (s0.map V.int))) l4=some (.lst (s0.map V.int)):=upd_same
       revert s4 h4
       generalize upd H3 l4 (.lst (s0.map V.int))=H4
       intro s4 h4
       exact fin1 l4 H4 ⟨s03.trans s4,s4 _ _ hh3,s4 _ _ hfi3,s0,h4,V1⟩
     . exact fin1 la0 H3 ⟨s03,hh3,hfi3,g0,hla,V2⟩
   case fin1 =>
     rintro la H4 ⟨s4,hh4,hfi4,g,hla4,V2⟩
     dsimp only[L2.start,List.map,List.length,List.replicate,List.append,List.set]
     refine use_finB (R:=?R2) (S:=fun x y H'=>Same H H'/\∃ hs s g,H' h=some (.lst (List.map V.int hs))/\H' x=some (.lst (List.map V.int s))/\H' y=some (.lst (List.map V.int g))/\(∀ lim:Int,0<=lim->lim<=400->BeamOk n r hs lim)/\Valid n r hs.length s/\Valid n r hs.length g) (fun fin2=>?main2) ?fin2
     case main2 =>
       refine⟨_,rfl,_,_,rfl,rfl,(by show (0:Int) < 3; decide),rfl,_,rfl,?_⟩
       refine ite2 (fun h3=>?_) (fun h3=>?_)
       . refine⟨_,rfl,h,_,rfl,.inl (SqL.of hh4),_,_,rfl,rfl,_,rfl,?_⟩
         rw[List.length_map]
         refine ite2 (fun h4=>?_) (fun h4=>?_)
         . have h4':1 < hs0.length:=by have:=of_decide_eq_true h4; omega
           obtain ⟨x0,x1,tl,rfl⟩:∃ x0 x1 tl,hs0=x0::x1::tl:=by
             match hs0,h4' with
             | x0::x1::tl,_=>exact⟨x0,x1,tl,rfl⟩
           have a0:atI (List.map V.int (x0::x1::tl)) 0=some (.int x0):=by
             unfold atI ixN
             rw[if_pos (by decide),if_pos (by simp only[List.length_map,List.length_cons]; omega)]
             rfl
           have i1:ixN (List.map V.int (x0::x1::tl)).length 1=some 1:=by
             unfold ixN
             rw[if_pos (by decide),if_pos (by simp only[List.length_map,List.length_cons]; omega)]
             rfl
           refine⟨_,rfl,h,_,_,_,rfl,rfl,SqL.of hh4,a0,_,rfl,h,_,1,1,rfl,rfl,hh4,i1,?_⟩
           have s5:Same H (upd H4 h (.lst ((List.map V.int (x0::x1::tl)).set 1 (.int x0)))):=s4.put fh
           have hh5:(upd H4 h (.lst ((List.map V.int (x0::x1::tl)).set 1 (.int x0)))) h=some (.lst ((x0::x0::tl).map V.int)):=upd_same
           revert s5 hh5
           generalize upd H4 h (.lst ((List.map V.int (x0::x1::tl)).set 1 (.int x0)))=H5
           intro s5 hh5
           have ok5:∀ lim:Int,0<=lim->lim<=400->BeamOk n r (x0::x0::tl) lim:=fun lim z1 z2=>by
             have o:=okT lim z1 z2
             refine⟨o.n1,o.n2,o.r1,o.r2,o.l1,o.l2,o.w,fun x hx=>?_,o.most⟩
             rcases List.mem_cons.mp hx with rfl | hx
             . exact o.h _ (.head _)
             . rcases List.mem_cons.mp hx with rfl | hx
               . exact o.h _ (.head _)
               . exact o.h _ (.tail _ (.tail _ hx))
           refine⟨_,rfl,_,_,rfl,rfl,⟨by decide,by decide⟩,_,rfl,_,_,rfl,rfl,(by show 0 < n; omega),_,_,rfl,rfl,?_⟩
           have hm0:0<=c / 3 % n:=Int.emod_nonneg _ (by omega)
           have hm1:c / 3 % n < n:=Int.emod_lt_of_pos _ (by omega)
           have hnt:1<=1+c / 3 % n/\1+c / 3 % n<=n:=by omega
           have wl:tl.length+2<=5:=hw5
           have hsl:sizeLine=16777216:=by decide
           refine⟨(by show 1<=sizeLine; decide),fun l6 f6=>⟨_,rfl,h,_,rfl,.inl (SqL.of (Same.upd f6 _ _ hh5)),l6,_,_,rfl,rfl,upd_same,?_,?_,?_,fun p6 e6=>?_⟩⟩
           . simp only[List.length_map,List.length_cons]; omega
           . simp only[List.length_map,List.length_cons]; omega
           . simp only[List.length_map,List.length_cons,List.length_nil,Int.toNat_natCast]; omega
           have s6:=(Same.upd (o:=.lst [.int 0]) f6).updT (o:=.lst (List.replicate (((List.map V.int (x0::x0::tl)).length:Nat):Int).toNat [V.int 0]).flatten) e6
           have k6:(upd (upd H5 l6 (.lst [.int 0])) p6 (.lst (List.replicate (((List.map V.int (x0::x0::tl)).length:Nat):Int).toNat [V.int 0]).flatten)) p6=some (.lst ((List.replicate (tl.length+2) (0:Int)).map V.int)):=by
             rw[upd_same,rep0,Int.toNat_natCast,List.length_map]
             rfl
           dsimp only
           revert s6 k6
           generalize upd (upd H5 l6 (.lst [.int 0])) p6 (.lst (List.replicate (((List.map V.int (x0::x0::tl)).length:Nat):Int).toNat [V.int 0]).flatten)=H6
           intro s6 k6
           have hh6:=s6 _ _ hh5
           generalize hnv:1+c / 3 % n=nt at hnt ⊢
           refine⟨_,rfl,_,rfl,_,rfl,(by show 2<=sizeLine; decide),fun l7 f7=>⟨(by show 1<=sizeLine; decide),fun l8 f8=>?_⟩⟩
           have s78:=(Same.upd (o:=.lst [.int nt,.int (-nt)]) f7).updT (o:=.lst [.int 0]) f8
           have k7:(upd (upd H6 l7 (.lst [.int nt,.int (-nt)])) l8 (.lst [.int 0])) l7=some (.lst [.int nt,.int (-nt)]):=Same.upd f8 _ _ upd_same
           have k8:(upd (upd H6 l7 (.lst [.int nt,.int (-nt)])) l8 (.lst [.int 0])) l8=some (.lst [.int 0]):=upd_same
           dsimp only
           revert s78 k7 k8
           generalize upd (upd H6 l7 (.lst [.int nt,.int (-nt)])) l8 (.lst [.int 0])=H8
           intro s78 k7 k8
           refine⟨_,rfl,h,_,rfl,.inl (SqL.of (s78 _ _ hh6)),_,_,rfl,rfl,l8,_,_,rfl,rfl,k8,?_,?_,?_,fun p8 e8=>?_⟩
           . simp only[List.length_map,List.length_cons]; omega
           . simp only[List.length_map,List.length_cons]; omega
           . simp only[List.length_map,List.length_cons,List.length_nil]; omega
           have el:((((List.map V.int (x0::x0::tl)).length:Nat):Int) - 2).toNat=tl.length:=by
             simp only[List.length_map,List.length_cons]
             omega
           rw[el,rep0]
           have s9:Same H8 (upd H8 p8 (.lst ((List.replicate tl.length (0:Int)).map V.int))):=Same.upd e8
           have k9:(upd H8 p8 (.lst ((List.replicate tl.length (0:Int)).map V.int))) p8=some (.lst ((List.replicate tl.length (0:Int)).map V.int)):=upd_same
           revert s9 k9
           generalize upd H8 p8 (.lst ((List.replicate tl.length (0:Int)).map V.int))=H9
           intro s9 k9
           refine⟨l7,p8,_,_,rfl,rfl,s9 _ _ k7,k9,?_,fun p9 e9=>?_⟩
           . simp only[List.length_map,List.length_replicate,List.length_cons,List.length_nil]; omega
           have s10:Same H9 (upd H9 p9 (.lst ([V.int nt,V.int (-nt)]++(List.replicate tl.length (0:Int)).map V.int))):=Same.upd e9
           have k10:(upd H9 p9 (.lst ([V.int nt,V.int (-nt)]++(List.replicate tl.length (0:Int)).map V.int))) p9=some (.lst ((nt::-nt::List.replicate tl.length 0).map V.int)):=upd_same
           revert s10 k10
           generalize upd H9 p9 (.lst ([V.int nt,V.int (-nt)]++(List.replicate tl.length (0:Int)).map V.int))=H10
           intro s10 k10
           have s610:=s78.trans (s9.trans s10)
           have sE:Same H H10:=s5.trans (s6.trans s610)
           have hhE:=s610 _ _ hh6
           have hpE:=s610 _ _ k6
           have Va:Valid n r (x0::x0::tl).length (List.replicate (tl.length+2) 0):=valid0 n1 _
           have Vb:Valid n r (x0::x0::tl).length (nt::-nt::List.replicate tl.length 0):=validP ok0.r1 hnt.1 hnt.2 _
           refine⟨_,rfl,_,_,rfl,rfl,⟨by decide,by decide⟩,_,_,rfl,rfl,(by show (0:Int) < 2; decide),rfl,_,rfl,?_⟩
           generalize some (V.int nt)=v8
           refine ite2 (fun h5=>?_) (fun h5=>?_)
           . refine⟨_,rfl,_,rfl,_,_,rfl,?_⟩
             exact fin2 p9 p6 v8 H10 ⟨sE,_,_,_,hhE,k10,hpE,ok5,Vb,Va⟩
           . exact fin2 p6 p9 v8 H10 ⟨sE,_,_,_,hhE,hpE,k10,ok5,Va,Vb⟩
         . exact fin2 fi la _ H4 ⟨s4,hs0,s0,g,hh4,hfi4,hla4,okT,V1,V2⟩
       . exact iteF (fin2 fi la _ H4 ⟨s4,hs0,s0,g,hh4,hfi4,hla4,okT,V1,V2⟩)
     case fin2 =>
       rintro x y v H5 ⟨s5,hs,s,g,hh5,hx5,hy5,ok5,V1,V2⟩
       dsimp only[List.set]
       refine st_eq (σ':=[some (.ref a),some (.ref sh),some (.int n),some (.int r),some (.ref h),some (.ref x),some (.ref y),some (.int c),v,none]) rfl ?_
       have hw:hs.length<=5:=(ok5 0 (by decide) (by decide)).w
       have hhs:=(ok5 0 (by decide) (by decide)).h
       have l1:=V1.len
       have l2:=V2.len
       obtain ⟨tl1,tl2⟩:=tilt_le (ok5 0 (by decide) (by decide)) V1
       obtain ⟨tl3,tl4⟩:=tilt_le (ok5 0 (by decide) (by decide)) V2
       refine⟨_,rfl,_,rfl,h,x,hs,s,rfl,SqL.of hh5,.inl (SqL.of hx5),⟨l1.symm,by omega,hhs⟩,_,rfl,_,rfl,_,rfl,h,y,hs,g,rfl,SqL.of hh5,.inl (SqL.of hy5),⟨l2.symm,by omega,hhs⟩,_,rfl,_,_,rfl,?_⟩
       have ea1:(if tiltOf hs s < 0 then -tiltOf hs s else tiltOf hs s)=absI (tiltOf hs s):=rfl
       have ea2:(if tiltOf hs g < 0 then -tiltOf hs g else tiltOf hs g)=absI (tiltOf hs g):=rfl
       rw[ea1,ea2]
       have hlow:∃ low:Int,(if absI (tiltOf hs g) > absI (tiltOf hs s) then absI (tiltOf hs g) else absI (tiltOf hs s))=low/\absI (tiltOf hs s)<=low/\absI (tiltOf hs g)<=low/\low<=240:=⟨_,rfl,by split <;> omega,by split <;> omega,by split <;> omega⟩
       obtain ⟨low,elow,w1,w2,w3⟩:=hlow
       rw[elow]
       refine⟨_,rfl,_,rfl,_,rfl,_,rfl,_,rfl,a,ns,low,rfl,s5.seq hS,⟨by omega,by omega⟩,fun lim z1 z2=>⟨(by show 4<=sizeLine; decide),fun sc fsc=>?_⟩⟩
       have s6:Same H5 (upd H5 sc (.lst [.int n,.int r,.ref h,.int lim])):=Same.upd fsc
       have k6:(upd H5 sc (.lst [.int n,.int r,.ref h,.int lim])) sc=some (.lst [.int n,.int r,.ref h,.int lim]):=upd_same
       dsimp only
       revert s6 k6
       generalize upd H5 sc (.lst [.int n,.int r,.ref h,.int lim])=H6
       intro s6 k6
       refine⟨_,rfl,x,_,rfl,.inl ⟨SqL.of (s6 _ _ hx5),fun st fst=>?_⟩⟩
       have s7:Same H6 (upd H6 st (.tup (s.map V.int))):=Same.upd fst
       have k7:(upd H6 st (.tup (s.map V.int))) st=some (.tup (s.map V.int)):=upd_same
       revert s7 k7
       generalize upd H6 st (.tup (s.map V.int))=H7
       intro s7 k7
       refine⟨_,rfl,y,_,rfl,.inl ⟨SqL.of (s7 _ _ (s6 _ _ hy5)),fun go fgo=>⟨(by show 3<=sizeLine; decide),fun l fl=>?_⟩⟩⟩
       have s8:Same H7 (upd (upd H7 go (.tup (g.map V.int))) l (.lst [.ref sc,.ref st,.ref go])):=(Same.upd fgo).updT fl
       have s58:=s6.trans (s7.trans s8)
       exact q l sc h st go _ n r lim hs s g ⟨s5.trans s58,s5.free fsc,fh,upd_same,s8 _ _ (s7 _ _ k6),s58 _ _ hh5,s8 _ _ k7,Same.upd fl _ _ upd_same,ok5 lim (by omega) z2,V1,V2,by omega,by omega⟩
end
end Bt
namespace Bt
open PySem L2
section
variable {P:Program} {w:World} {K:PySem.W.Frag} {mg:Str->Option Value} {base:Heap} {t:Adr}
theorem take_eq_succ {X Y:List (List Int)} {i:Nat} {x y:List Int} (hx:X[i]?=some x) (hy:Y[i]?=some y) (h:X.take i=Y.take i):X.take (i+1)=Y.take (i+1) ↔ x=y:=by
 rw[List.take_succ,List.take_succ,hx,hy,h]
 simp
def sp_w_same_rows (K:PySem.W.Frag) (t:Adr):Sp:=fun vs H Q _=>∃ (a b:Addr) (ys zs:List V) (X Y:List (List Int)),vs=[.ref a,.ref b]/\H a=some (.lst ys)/\Tups H ys X/\H b=some (.lst zs)/\Tups H zs Y/\Y.length<=1000/\(∀ y∈Y,y.length<=1000)/\Q (.bl (decide (X=Y))) H
theorem ok_w_same_rows (T:Txt K mg t):FnOk P w K mg base CX0 3 t.a_w_same_rows t.d_w_same_rows ["_law_found","_law_due"] (sp_w_same_rows K t):=by
 have G_w_same:FnOk P w K mg base CX0 2 t.a_w_same t.d_w_same ["_law_found","_law_due"] (sp_w_same K t):=ok_w_same T
 refine T.F_w_same_rows.ok sc_w_same_rows (fun vs H Q E h=>?_) (fun cdv A outer s H vs Q E hr h=>?_)
 . obtain ⟨a,b,ys,zs,X,Y,rfl,ha,TX,hb,TY,hY,hY2,q⟩:=h
   rfl
 . obtain ⟨a,b,ys,zs,X,Y,rfl,ha,TX,hb,TY,hY,hY2,q⟩:=h
   have hr_w_same:Room 2 _:=hr.mono (by decide)
   refine⟨_,(pss_cons (ps_if (PW.pt (pw_or (pt_not (pt_val (pe_callB call_isi rfl T.n_isinstance PyProof.Rows.boot_isinstance (pa_cons (pv 0) (pa_cons (pe_bltn (v:=.ty "list") rfl T.n_list PyProof.Rows.boot_list rfl) pa_nil))))) (pw_or1 (pt_cmpR op_ne (pe_callB call_len_seq rfl T.n_len PySem.boot_len (pa_cons (pv 0) pa_nil)) (pe_callB call_len_seq rfl T.n_len PySem.boot_len (pa_cons (pv 1) pa_nil)) (nomark _))))) (pss_one (ps_ret pe_bl)) pss_nil)
     (pss_cons (ps_for PassesOwn.never rfl (pi_range1 rfl T.n_range (pa_cons (pe_callB call_len_seq rfl T.n_len PySem.boot_len (pa_cons (pv 1) pa_nil)) pa_nil)) (pg_name (i:=2) sc_w_same_rows.nd rfl (Or.inl rfl)) (pss_one (ps_if (PW.pt (pw_or (pt_not (pt_val (pe_callB call_isi rfl T.n_isinstance PyProof.Rows.boot_isinstance (pa_cons (pe_ix ix_list (pv 0) (pv 2) (fun _ _=>rfl)) (pa_cons (pe_bltn (v:=.ty "tuple") rfl T.n_tuple PyProof.Rows.boot_tuple rfl) pa_nil))))) (pw_or1 (pt_not (pt_val (pe_call G_w_same hr_w_same rfl T.m_w_same T.k_w_same T.b_w_same .nil pass0 (pa_cons (pe_ix ix_list (pv 0) (pv 2) (fun _ _=>rfl)) (pa_cons (pe_ix ix_list (pv 1) (pv 2) (fun _ _=>rfl)) pa_nil)))))))) (pss_one (ps_ret pe_bl)) pss_nil)))
     (pss_one (ps_ret pe_bl)))),?_⟩
   have l1:=tups_len TX
   have l2:=tups_len TY
   refine⟨_,rfl,_,_,_,_,_,rfl,.ty _,.lst ha,rfl,_,rfl,iteF ?_⟩
   refine⟨_,rfl,a,_,rfl,.inl (SqL.of ha),_,rfl,b,_,rfl,.inl (SqL.of hb),rfl,_,rfl,?_⟩
   rw[dec_vint]
   refine ite2 (fun h1=>?_) (fun h1=>?_)
   . have:X≠Y:=fun z=>by
       subst z
       simp[l1,l2] at h1
     rw[decide_eq_false this] at q
     exact q
   have hXY:X.length=Y.length:=by
     simp at h1
     omega
   refine⟨_,rfl,b,_,rfl,.inl (SqL.of hb),_,rfl,by omega,by omega,for_range (n:=((zs.length:Nat):Int).toNat) (fun i σ H'=>∃ v,σ=[some (.ref a),some (.ref b),v]/\H'=H/\X.take i=Y.take i) ⟨none,rfl,rfl,rfl⟩ ?_ ?_⟩
   . rintro i σ H' hi ⟨v,rfl,rfl,ht⟩
     have hi':i < zs.length:=by simpa using hi
     have e0:(0:Int)+(i:Int)=(i:Int):=by omega
     rw[e0]
     obtain ⟨xb,x,ex,hx,hxb⟩:=tups_at TX (List.getElem?_eq_getElem (show i < ys.length by omega))
     obtain ⟨yb,y,ey,hy,hyb⟩:=tups_at TY (List.getElem?_eq_getElem hi')
     have ax:atI ys (i:Int)=some (.ref xb):=atI_nat (by rw[List.getElem?_eq_getElem (show i < ys.length by omega),ex])
     have ay:atI zs (i:Int)=some (.ref yb):=atI_nat (by rw[List.getElem?_eq_getElem hi',ey])
     refine⟨_,rfl,_,rfl,a,_,_,_,rfl,rfl,SqL.of ha,ax,_,_,_,_,_,rfl,.ty _,.tup hxb,rfl,_,rfl,iteF ?_⟩
     refine⟨_,rfl,_,rfl,a,_,_,_,rfl,rfl,SqL.of ha,ax,_,rfl,_,rfl,b,_,_,_,rfl,rfl,SqL.of hb,ay,xb,yb,x,y,rfl,.inr (SqT.of hxb),.inr (SqT.of hyb),hY2 y (List.mem_of_getElem? hy),_,rfl,?_⟩
     have key:=take_eq_succ hx hy ht
     refine ite2 (fun h2=>?_) (fun h2=>?_)
     . have hne:X≠Y:=fun z=>by
         have:x=y:=key.mp (by rw[z])
         rw[decide_eq_true this] at h2
         cases h2
       rw[decide_eq_false hne] at q
       exact q
     . have:x=y:=Classical.byContradiction fun z=>h2 (by rw[decide_eq_false z]; rfl)
       exact⟨_,rfl,rfl,key.mpr this⟩
   . rintro σ H' ⟨v,rfl,rfl,ht⟩
     rw[Int.toNat_natCast] at ht
     have:X=Y:=by
       rw[List.take_of_length_le (by omega),List.take_of_length_le (by omega)] at ht
       exact ht
     rw[decide_eq_true this] at q
     exact q
def sp_w_pick (K:PySem.W.Frag) (t:Adr):Sp:=fun vs H Q _=>∃ (c a:Addr) (cell n r lim:Int) (hs xs:List Int),vs=[.ref c,.ref a,.int cell]/\ScaleAt K H c n r hs lim/\Valid n r hs.length xs/\H a=some (.tup (xs.map V.int))/\∀ v H',Same H H'->(v = .non\/∃ (i:Nat) (q:Int) (mv:Addr),v = .ref mv/\Lets n r hs lim xs i q/\H' mv=some (.tup [.int ((i:Int)+1),.int (xs.getD i 0),.int q]))->Q v H'
theorem ok_w_pick (T:Txt K mg t):FnOk P w K mg base CX0 3 t.a_w_pick t.d_w_pick ["_law_scale","_law_spots","_law_cell"] (sp_w_pick K t):=by
 have G_w_near:FnOk P w K mg base CX0 2 t.a_w_near t.d_w_near ["_law_scale","_law_spots"] (sp_w_near K t):=ok_w_near T
 refine T.F_w_pick.ok sc_w_pick (fun vs H Q E h=>?_) (fun cdv A outer s H vs Q E hr h=>?_)
 . obtain ⟨c,a,cell,n,r,lim,hs,xs,rfl,S,V0,ha,q⟩:=h
   rfl
 . obtain ⟨c,a,cell,n,r,lim,hs,xs,rfl,S,V0,ha,q⟩:=h
   have hr_w_near:Room 2 _:=hr.mono (by decide)
   refine⟨_,(pss_cons (ps_set (i:=3) sc_w_pick.nd rfl (Or.inl rfl) (pe_call G_w_near hr_w_near rfl T.m_w_near T.k_w_near T.b_w_near .nil pass0 (pa_cons (pv 0) (pa_cons (pv 1) pa_nil))))
     (pss_cons (ps_if (pt_cmpR (op_eqE (Nat.lt_of_succ_lt (hu_of hr))) (pv 3) (pe_lst pa_nil) (nomark _)) (pss_one (ps_ret pe_non)) pss_nil)
     (pss_cons (ps_set (i:=4) sc_w_pick.nd rfl (Or.inr rfl) (pe_ix ix_list (pv 3) (pe_op op_mod (pv 2) (pe_callB call_len_seq rfl T.n_len PySem.boot_len (pa_cons (pv 3) pa_nil))) (fun _ _=>rfl)))
     (pss_cons (ps_set (i:=5) sc_w_pick.nd rfl (Or.inl rfl) (pe_ix ix_list (pe_comp rfl cs_w_pick_0 (pi_range1 rfl T.n_range (pa_cons (pe_callB call_len_seq rfl T.n_len PySem.boot_len (pa_cons (pv 1) pa_nil)) pa_nil)) (fun _ _ _ _ _=>(pg_name (i:=0) cs_w_pick_0.nd rfl (Or.inl rfl))) (fun _ _ _ _ _=>(pifs_one (pt_cmpR op_ne (pe_ix (ix_tupK K rfl) (pv 1) (pv 0) (fun _ _=>rfl)) (pe_ix (ix_tupK K rfl) (pv 2) (pv 0) (fun _ _=>rfl)) (nomark _)))) (fun _ _ _ _ _=>(pv 0))) pe_int (fun _ _=>rfl)))
     (pss_one (ps_ret (pe_tup (pa_cons (pe_op op_add (pv 5) pe_int) (pa_cons (pe_ix ix_tup (pv 1) (pv 5) (fun _ _=>rfl)) (pa_cons (pe_ix ix_tup (pv 4) (pv 5) (fun _ _=>rfl)) pa_nil)))))))))),?_⟩
   have hlen:=V0.len
   have hw:=(let ⟨_,h,_⟩:=S; h:BeamOk n r hs lim).w
   refine⟨_,rfl,_,rfl,c,a,n,r,lim,hs,xs,rfl,S,V0,ha,fun l H1 ys s1 fl hl TN=>?_⟩
   have hyl:=tups_len TN
   refine⟨_,rfl,Nat.zero_le _,fun l2 f2=>?_⟩
   have s2:Same H1 (upd H1 l2 (.lst [])):=Same.upd f2
   refine⟨l,l2,ys,rfl,rfl,SqL.of (s2 _ _ hl),SqL.of upd_same,_,rfl,?_⟩
   revert s2
   generalize upd H1 l2 (.lst [])=H2
   intro s2
   have s02:=s1.trans s2
   have hl2:=s2 _ _ hl
   have TN2:=s2.tups TN
   refine ite2 (fun h1=>?_) (fun h1=>?_)
   . exact q .non H2 s02 (.inl rfl)
   have hpos:0 < ys.length:=by
     cases ys with
     | nil=>exact absurd rfl h1
     | cons _ _=>simp
   have i1:0<=cell % (ys.length:Int):=Int.emod_nonneg _ (by omega)
   have i2:cell % (ys.length:Int) < ys.length:=Int.emod_lt_of_pos _ (by omega)
   obtain ⟨j,ej⟩:∃ j:Nat,cell % (ys.length:Int)=(j:Int):=⟨_,(Int.toNat_of_nonneg i1).symm⟩
   have hj:j < ys.length:=by omega
   obtain ⟨b,y,e1,e2,hb⟩:=tups_at TN2 (List.getElem?_eq_getElem hj)
   obtain ⟨i,p,L,rfl⟩:=mem_nbs.mp (List.mem_of_getElem? e2)
   have hi:=L.lt
   refine⟨_,rfl,_,rfl,_,rfl,l,_,rfl,.inl (SqL.of hl2),_,_,rfl,rfl,(by show (0:Int) < (ys.length:Int); omega),l,_,_,_,rfl,rfl,SqL.of hl2,(by show atI ys (cell % (ys.length:Int))=_; rw[ej]; exact atI_nat (by rw[List.getElem?_eq_getElem hj,e1])),?_⟩
   have ha2:=s02 _ _ ha
   refine⟨_,rfl,a,_,rfl,.inr (SqT.of ha2),?_⟩
   rw[List.length_map]
   refine⟨_,rfl,by omega,by omega,fun D hD=>?_⟩
   have gd:∀ k,k < xs.length->((xs.set i p).getD k 0=xs.getD k 0 ↔ k≠i):=fun k hk=>by
     rw[List.getD_eq_getElem?_getD,List.getD_eq_getElem?_getD,List.getElem?_set]
     by_cases e:i=k
     . subst e
       rw[if_pos rfl,if_pos hk]
       refine⟨fun z=>absurd ?_ L.ne,fun z=>absurd rfl z⟩
       rw[List.getD_eq_getElem?_getD]
       exact z
     . rw[if_neg e]
       exact⟨fun _ z=>e z.symm,fun _=>rfl⟩
   refine comp_rangeI (fun j H'=>H'=upd H2 D (.lst (if i < j then [V.int (i:Int)] else []))) (by rw[if_neg (Nat.not_lt_zero _)]) ?_ ?_
   . rintro k H' N hk rfl hN
     have hk':k < xs.length:=by simpa using hk
     have hD':(upd H2 D (.lst (if i < k then [V.int (i:Int)] else []))) D=some (.lst (if i < k then [V.int (i:Int)] else [])):=upd_same
     have sD:Same H2 (upd H2 D (.lst (if i < k then [V.int (i:Int)] else []))):=Same.upd hD
     have e0:(0:Int)+(k:Int)=(k:Int):=by omega
     have ax:atI (xs.map V.int) (0+(k:Int))=some (.int (xs.getD k 0)):=by rw[e0]; exact atI_intD (by omega) (by omega)
     have ay:atI ((xs.set i p).map V.int) (0+(k:Int))=some (.int ((xs.set i p).getD k 0)):=by rw[e0]; exact atI_intD (by omega) (by rw[List.length_set]; omega)
     refine⟨_,rfl,_,rfl,b,_,_,_,rfl,rfl,SqT.of (sD _ _ hb),ay,_,rfl,_,rfl,a,_,_,_,rfl,rfl,SqT.of (sD _ _ ha2),ax,rfl,_,rfl,?_⟩
     rw[dec_vint]
     refine ite2 (fun h2=>?_) (fun h2=>?_)
     . have hki:k=i:=Classical.byContradiction fun z=>by
         have:=(gd k hk').mpr z
         rw[decide_eq_true this] at h2
         cases h2
       subst hki
       refine⟨_,rfl,_,hD',small1000 (by rw[if_neg (Nat.lt_irrefl _)]; decide),hN _ ?_⟩
       rw[upd_upd,if_neg (Nat.lt_irrefl _),if_pos (Nat.lt_succ_self _),e0]
       rfl
     . have hki:k≠i:=(gd k hk').mp (Classical.byContradiction fun z=>h2 (by rw[decide_eq_false z]; rfl))
       refine hN _ ?_
       by_cases hlt:i < k
       . rw[if_pos hlt,if_pos (by omega)]
       . rw[if_neg hlt,if_neg (by omega)]
   . rintro H' rfl
     rw[Int.toNat_natCast,if_pos hi]
     have s3:Same H2 (upd H2 D (.lst [V.int (i:Int)])):=Same.upd hD
     have ax:atI (xs.map V.int) (i:Int)=some (.int (xs.getD i 0)):=atI_intD (by omega) (by omega)
     have ay:atI ((xs.set i p).map V.int) (i:Int)=some (.int p):=by
       have:=atI_intD (xs:=xs.set i p) (i:=(i:Int)) (by omega) (by rw[List.length_set]; omega)
       rw[Int.toNat_natCast,getD_set_self hi] at this
       exact this
     refine⟨D,_,_,_,rfl,rfl,SqL.of upd_same,rfl,?_⟩
     refine⟨_,rfl,_,_,rfl,rfl,_,rfl,_,rfl,a,_,_,_,rfl,rfl,SqT.of (s3 _ _ ha2),ax,_,rfl,_,rfl,b,_,_,_,rfl,rfl,SqT.of (s3 _ _ hb),ay,(by show 3<=sizeLine; decide),fun mv fmv=>?_⟩
     exact q (.ref mv) _ (s02.trans (s3.updT fmv)) (.inr ⟨i,p,mv,rfl,L,upd_same⟩)
end
end Bt
namespace Bt
open PySem L2
section
variable {P:Program} {w:World} {K:PySem.W.Frag} {mg:Str->Option Value} {base:Heap} {t:Adr}
/-! ### the trail -/
def Ch (n r:Int) (hs:List Int) (lim:Int) (s:List Int):List (List Int × Nat × Int)->List Int->Prop
 | [],c=>c=s
 | e::es,c=>c=e.1.set e.2.1 e.2.2/\Lets n r hs lim e.1 e.2.1 e.2.2/\Ch n r hs lim s es e.1
def rowE (e:List Int × Nat × Int):List Int:=[(e.2.1:Int)+1,e.1.getD e.2.1 0,e.2.2]
def rowsE (es:List (List Int × Nat × Int)):List (List Int):=(es.map rowE).reverse
theorem rowsE_cons (e:List Int × Nat × Int) (es:List (List Int × Nat × Int)):rowsE (e::es)=rowsE es++[rowE e]:=by unfold rowsE; rw[List.map_cons,List.reverse_cons]
theorem rowsE_len (es:List (List Int × Nat × Int)):(rowsE es).length=es.length:=by unfold rowsE; rw[List.length_reverse,List.length_map]
theorem rowsE_mem {es:List (List Int × Nat × Int)}:∀ y∈rowsE es,y.length<=1000:=fun y hy=>by
 unfold rowsE at hy
 obtain ⟨e,_,rfl⟩:=List.mem_map.mp (List.mem_reverse.mp hy)
 show 3<=1000
 decide
theorem Ch.valid {n r:Int} {hs:List Int} {lim:Int} {s:List Int} {w:Nat} (V0:Valid n r w s):∀ {es:List (List Int × Nat × Int)} {c:List Int},Ch n r hs lim s es c->Valid n r w c
 | [],c,h=>by obtain rfl:c=s:=h; exact V0
 | e::es,c,h=>by rw[h.1]; exact h.2.1.valid (Ch.valid V0 h.2.2)
theorem set_bk {x:List Int} {i:Nat} {q:Int} (hi:i < x.length):(x.set i q).set i (x.getD i 0)=x:=by
 rw[List.set_set,List.getD_eq_getElem?_getD,List.getElem?_eq_getElem hi,Option.getD_some,List.set_getElem_self]
theorem PlayAt.updL {t:Adr} {H:Hp} {p b s x m l:Addr} {n r lim:Int} {hs a c:List Int} {ys:List V} {ms:List (List Int)} {vs:List V} {o:HO} (P:PlayAt t H p b s x m n r hs lim a c ys ms) (hl:H l=some (.lst vs)) (nl:l≠m):PlayAt t (upd H l o) p b s x m n r hs lim a c ys ms:=by
 obtain ⟨ok,dx,h',hb,hh⟩:=P.bm
 have k:∀ {c:Addr} {o':HO},H c=some o'->(∀ vs,o'≠.lst vs)->upd H l o c=some o':=fun e ne=>by
   rw[upd_ne (fun z=>by rw[z,hl] at e; injection e with e; exact ne _ e.symm)]
   exact e
 exact⟨⟨ok,dx,h',k hb (fun _ z=>nomatch z),k hh (fun _ z=>nomatch z)⟩,P.nb,let ⟨dx,z⟩:=P.hp; ⟨dx,k z (fun _ z=>nomatch z)⟩,k P.hs (fun _ z=>nomatch z),k P.hx (fun _ z=>nomatch z),by rw[upd_ne nl.symm]; exact P.hm,tups_keep hl (fun _ z=>nomatch z) P.tm⟩
theorem cut_map (xs:List Int) (lo hi:Option Int):∃ ys:List Int,cutV (xs.map V.int) lo hi=ys.map V.int/\ys.length<=xs.length:=by
 unfold cutV
 refine⟨(xs.drop (HT.sIx (xs.map V.int).length 0 lo)).take (HT.sIx (xs.map V.int).length (xs.map V.int).length hi - HT.sIx (xs.map V.int).length 0 lo),by rw[List.map_take,List.map_drop],?_⟩
 rw[List.length_take,List.length_drop]
 omega
theorem tups_last {H:Hp} {ys:List V} {ks:List (List Int)} {k:List Int} (h:Tups H ys (ks++[k])):∃ y0 b,ys=y0++[.ref b]/\Tups H y0 ks/\H b=some (.tup (k.map V.int)):=by
 induction ks generalizing ys with
 | nil =>
   cases h with
   | cons a t =>
     obtain ⟨b,e,hb⟩:=a
     cases t
     exact⟨[],b,by rw[e]; rfl,.nil,hb⟩
 | cons k' ks ih =>
   cases h with
   | cons a t =>
     obtain ⟨y0,b,e,h1,h2⟩:=ih t
     exact⟨_::y0,b,by rw[e]; rfl,.cons a h1,h2⟩
theorem use_finH {R:Hp->Prop} {S:Hp->Prop} {G:Prop} (main:(∀ o,S o->R o)->G) (fin:∀ o,S o->R o):G:=main fin
structure DI (t:Adr) (H:Hp) (p b s0 x m md:Addr) (n r lim:Int) (hs s c:List Int) (ys yd:List V) (es:List (List Int × Nat × Int)):Prop where
 pl:PlayAt t H p b s0 x m n r hs lim s c ys (rowsE es)
 hmd:H md=some (.lst yd)
 td:Tups H yd (rowsE es)
 ch:Ch n r hs lim s es c
theorem DI.same {t:Adr} {H H':Hp} {p b s0 x m md:Addr} {n r lim:Int} {hs s c:List Int} {ys yd:List V} {es:List (List Int × Nat × Int)} (I:DI t H p b s0 x m md n r lim hs s c ys yd es) (e:Same H H'):DI t H' p b s0 x m md n r lim hs s c ys yd es:=⟨I.pl.same e,e _ _ I.hmd,e.tups I.td,I.ch⟩
def Same3 (p m d:Addr) (H H':Hp):Prop:=∀ b o,H b=some o->b≠p->b≠m->b≠d->H' b=some o
theorem Same.three {H H':Hp} (s:Same H H') (p m d:Addr):Same3 p m d H H':=fun b o e _ _ _=>s b o e
theorem Same3.after {p m d:Addr} {H H1 H2:Hp} (s:Same3 p m d H H1) (s':Same H1 H2):Same3 p m d H H2:=fun b o e h1 h2 h3=>s' b o (s b o e h1 h2 h3)
theorem Same3.ahead {p m d:Addr} {H H1 H2:Hp} (s:Same H H1) (s':Same3 p m d H1 H2):Same3 p m d H H2:=fun b o e h1 h2 h3=>s' b o (s b o e) h1 h2 h3
theorem DI.step {t:Adr} {H H3:Hp} {p b s0 x x' m md:Addr} {n r lim:Int} {hs s c c':List Int} {ys yd ys' yd':List V} {es es':List (List Int × Nat × Int)} (I:DI t H p b s0 x m md n r lim hs s c ys yd es) (nmd:md≠m) (s3:Same2 p m H H3) (P3:PlayAt t H3 p b s0 x' m n r hs lim s c' ys' (rowsE es')) (td:Tups H3 yd' (rowsE es')) (ch:Ch n r hs lim s es' c') :
   DI t (upd H3 md (.lst yd')) p b s0 x' m md n r lim hs s c' ys' yd' es'/\Same3 p m md H (upd H3 md (.lst yd')):=by
 have np:md≠p:=fun z=>by obtain ⟨C,dx,fs,hp⟩:=I.pl.ip; have:=I.hmd; rw[z,hp] at this; cases this
 have hmd3:H3 md=some (.lst yd):=s3 _ _ I.hmd np nmd
 refine⟨⟨P3.updL hmd3 nmd,upd_same,tups_keep hmd3 (fun _ z=>nomatch z) td,ch⟩,fun a o e h1 h2 h3=>?_⟩
 rw[upd_ne h3]
 exact s3 _ _ e h1 h2
def sp_w_deed (K:PySem.W.Frag) (t:Adr):Sp:=fun vs H Q _=>∃ (p k nw md b s0 x m:Addr) (cell n r lim:Int) (hs s c:List Int) (ys yd:List V) (es:List (List Int × Nat × Int)),vs=[.ref p,.ref k,.ref nw,.ref md,.int cell]/\ScaleAt K H k n r hs lim/\DI t H p b s0 x m md n r lim hs s c ys yd es/\H nw=some (.tup (c.map V.int))/\Valid n r hs.length s/\md≠m/\es.length < 300 ∧
 ∀ nw' x' c' ys' yd' es' H',Same3 p m md H H'->DI t H' p b s0 x' m md n r lim hs s c' ys' yd' es'->H' nw'=some (.tup (c'.map V.int))->es'.length<=es.length+1->Q (.ref nw') H'
theorem ok_w_deed (T:Txt K mg t):FnOk P w K mg base CX0 8 t.a_w_deed t.d_w_deed ["_law_play","_law_scale","_law_now","_law_made","_law_cell"] (sp_w_deed K t):=by
 have G_w_pick:FnOk P w K mg base CX0 3 t.a_w_pick t.d_w_pick ["_law_scale","_law_spots","_law_cell"] (sp_w_pick K t):=ok_w_pick T
 have G_Play_move:FnOk P w K mg base CX0 7 t.a_Play_move t.d_Play_move ["self","move"] (sp_Play_move K t):=ok_Play_move T
 have G_Play_back:FnOk P w K mg base CX0 2 t.a_Play_back t.d_Play_back ["self"] (sp_Play_back K t):=ok_Play_back T
 refine T.F_w_deed.ok sc_w_deed (fun vs H Q E h=>?_) (fun cdv A outer s H vs Q E hr h=>?_)
 . obtain ⟨p,k,nw,md,b,s0,x,m,cell,n,r,lim,hs,s,c,ys,yd,es,rfl,S,I,hnw,V0,nmd,hes,q⟩:=h
   rfl
 . obtain ⟨p,k,nw,md,b,s0,x,m,cell,n,r,lim,hs,s,c,ys,yd,es,rfl,S,I,hnw,V0,nmd,hes,q⟩:=h
   have hr_w_pick:Room 3 _:=hr.mono (by decide)
   have hr_Play_move:Room 7 _:=hr.mono (by decide)
   have hr_Play_back:Room 2 _:=hr.mono (by decide)
   refine⟨_,(pss_cons (ps_set (i:=5) sc_w_deed.nd rfl (Or.inl rfl) (pe_call G_w_pick hr_w_pick rfl T.m_w_pick T.k_w_pick T.b_w_pick .nil pass0 (pa_cons (pv 1) (pa_cons (pv 2) (pa_cons (pe_op op_fdiv (pv 4) pe_int) pa_nil)))))
     (pss_cons (ps_if (PW.pt (pw_and (pt_cmpR op_eq (pe_op op_mod (pe_op op_fdiv (pv 4) pe_int) pe_int) pe_int (nomark _)) (pw_and1 (pt_cmpR (op_neE (Nat.lt_of_succ_lt (hu_of hr))) (pv 3) (pe_lst pa_nil) (nomark _))))) (pss_cons (ps_expr (pe_meth0 (pv 0) T.cl_Play T.me_Play_back G_Play_back hr_Play_back T.b_Play_back .nil pass0))
     (pss_cons (ps_set (i:=5) sc_w_deed.nd rfl (Or.inl rfl) (pe_bm0 PySem.F.plainAttrs_list PySem.F.slot_list_pop PySem.F.type_list_pop mt_pop (pv 3)))
     (pss_one (ps_ret (pe_op op_catU (pe_op op_catU (pe_slice sl_tup (pv 2) po_none (po_some (pe_op op_sub (pe_ix ix_tup (pv 5) pe_int (fun _ _=>rfl)) pe_int))) (pe_tup (pa_cons (pe_ix ix_tup (pv 5) pe_int (fun _ _=>rfl)) pa_nil))) (pe_slice sl_tup (pv 2) (po_some (pe_ix ix_tup (pv 5) pe_int (fun _ _=>rfl))) po_none)))))) pss_nil)
     (pss_cons (ps_if (pt_cmpR op_isN (pv 5) pe_non (nomark _)) (pss_one (ps_ret (pv 2))) pss_nil)
     (pss_cons (ps_set (i:=6) sc_w_deed.nd rfl (Or.inl rfl) (pe_callTy call_list_of rfl T.n_list PyProof.Rows.boot_list (pa_cons (pv 5) pa_nil)))
     (pss_cons (ps_expr (pe_meth (pv 0) T.cl_Play T.me_Play_move G_Play_move hr_Play_move T.b_Play_move .nil pass0 (pa_cons (pv 6) pa_nil)))
     (pss_cons (ps_asg pe_int (pg_sub (pv 6) pe_int set_list))
     (pss_cons (ps_asg pe_int (pg_sub (pv 6) pe_int set_list))
     (pss_cons (ps_expr (pe_bm PySem.F.plainAttrs_list PySem.F.slot_list_append PySem.F.type_list_append mt_append (pv 3) (pa_cons (pv 5) pa_nil)))
     (pss_one (ps_ret (pe_op op_catU (pe_op op_catU (pe_slice sl_tup (pv 2) po_none (po_some (pe_op op_sub (pe_ix ix_tup (pv 5) pe_int (fun _ _=>rfl)) pe_int))) (pe_tup (pa_cons (pe_ix ix_tup (pv 5) pe_int (fun _ _=>rfl)) pa_nil))) (pe_slice sl_tup (pv 2) (po_some (pe_ix ix_tup (pv 5) pe_int (fun _ _=>rfl))) po_none)))))))))))),?_⟩
   have hw:=(let ⟨_,h,_⟩:=S; h:BeamOk n r hs lim).w
   have Vc:=I.ch.valid V0
   have hcl:=Vc.len
   refine⟨_,rfl,_,rfl,_,rfl,_,_,rfl,rfl,⟨by decide,by decide⟩,k,nw,_,n,r,lim,hs,c,rfl,S,Vc,hnw,fun v H1 s1 hv=>?_⟩
   replace I:=I.same s1
   have hnw1:=s1 _ _ hnw
   refine⟨_,rfl,_,_,rfl,rfl,⟨by decide,by decide⟩,_,_,rfl,rfl,(by show (0:Int) < 3; decide),rfl,_,rfl,?_⟩
   refine use_finH (R:=?R2) (S:=fun H2=>Same H1 H2) (fun fin=>?main) ?fin
   case main =>
     refine ite2 (fun h1=>?yes) (fun h1=>?no)
     case yes =>
       refine⟨_,rfl,Nat.zero_le _,fun l2 f2=>?_⟩
       have s2:Same H1 (upd H1 l2 (.lst [])):=Same.upd f2
       refine⟨md,l2,yd,rfl,rfl,SqL.of (s2 _ _ I.hmd),SqL.of upd_same,_,rfl,?_⟩
       revert s2
       generalize upd H1 l2 (.lst [])=H2
       intro s2
       refine ite2 (fun h2=>?_) (fun h2=>?_)
       . replace I:=I.same s2
         have hnw2:=s2 _ _ hnw1
         have s02:=s1.trans s2
         cases es with
         | nil =>
           have:=tups_len I.td
           rw[List.eq_nil_of_length_eq_zero this] at h2
           cases h2
         | cons e es =>
           obtain ⟨x0,i,qq⟩:=e
           obtain ⟨ec,L,ch⟩:=I.ch
           have td':=I.td
           have tp':=I.pl.tm
           rw[rowsE_cons] at td' tp'
           obtain ⟨yd0,bd,rfl,Td,hbd⟩:=tups_last td'
           obtain ⟨ys0,tv,rfl,Ts,htv⟩:=tups_last tp'
           have hx0:x0.length=hs.length:=(ch.valid V0).len
           have hlt:i < x0.length:=L.lt
           have hyl:(ys0++[V.ref tv]).length<=300:=by rw[tups_len I.pl.tm,rowsE_len]; omega
           obtain ⟨dxp,hpp⟩:=I.pl.hp
           have hP:PlayAt t H2 p b s0 x m n r hs lim s c (ys0++[.ref tv]) (rowsE es++[[(i:Int)+1,x0.getD i 0,qq]]):=by have:=I.pl; rw[rowsE_cons] at this; exact this
           refine⟨_,rfl,p,dxp,_,rfl,hpp,pf_back _ _ _ _,p,b,s0,x,m,n,r,lim,hs,s,c,_,_,rfl,hP,by omega,hyl,⟨ys0,rowsE es,tv,i,x0.getD i 0,qq,rfl,rfl,htv,by omega,fun x' H13 s13 P13=>?_⟩⟩
           have ecs:c.set i (x0.getD i 0)=x0:=by rw[ec]; exact set_bk hlt
           rw[ecs] at P13
           have ip:=I.pl.ip
           have im:∃ ys,H2 m=some (.lst ys):=⟨_,I.pl.hm⟩
           have np:∀ {a:Addr} {vs:List V},H2 a=some (.lst vs)->a≠p:=fun e z=>by rw[z,hpp] at e; cases e
           have hmd13:H13 md=some (.lst (yd0++[.ref bd])):=s13 _ _ I.hmd (np I.hmd) nmd
           have hbd13:=s13.tup ip im hbd
           have hnw13:=s13.tup ip im hnw2
           have hl1:(yd0++[V.ref bd])[(yd0++[V.ref bd]).length - 1]?=some (.ref bd):=by rw[List.length_append]; simp
           refine⟨_,rfl,.inl ⟨rfl,_,SqL.of hmd13⟩,md,_,_,rfl,rfl,hmd13,hl1,?_⟩
           rw[List.dropLast_concat]
           obtain ⟨J,s3⟩:=I.step nmd s13 P13 (s13.tups ip im Td) ch
           have k14:∀ {a:Addr} {vs:List V},H13 a=some (.tup vs)->(upd H13 md (.lst yd0)) a=some (.tup vs):=fun e=>by
             rw[upd_ne (fun z=>by rw[z,hmd13] at e; cases e)]
             exact e
           have hbd14:=k14 hbd13
           have hnw14:=k14 hnw13
           revert J s3 hbd14 hnw14
           generalize upd H13 md (.lst yd0)=H14
           intro J s3 hbd14 hnw14
           replace hbd14:H14 bd=some (.tup [.int ((i:Int)+1),.int (x0.getD i 0),.int qq]):=hbd14
           rw[List.length_cons] at hes q
           have e1:(i:Int)+1 - 1=(i:Int):=by omega
           refine⟨_,rfl,_,rfl,bd,_,_,_,rfl,rfl,SqT.of hbd14,rfl,_,_,rfl,rfl,_,rfl,nw,_,rfl,SqT.of hnw14,?_,fun l1 f1=>?_⟩
           . rw[e1,HT.sIx_none,HT.sIx_nat,List.length_map,Nat.min_eq_left (by omega)]
             omega
           rw[e1] at *
           have sa:Same H14 (upd H14 l1 (.tup (cutV (c.map V.int) none (some (i:Int))))):=Same.upd f1
           have ha1:(upd H14 l1 (.tup (cutV (c.map V.int) none (some (i:Int))))) l1=some (.tup (cutV (c.map V.int) none (some (i:Int)))):=upd_same
           revert sa ha1
           generalize upd H14 l1 (.tup (cutV (c.map V.int) none (some (i:Int))))=Ha
           intro sa ha1
           refine⟨_,rfl,bd,_,_,_,rfl,rfl,SqT.of (sa _ _ hbd14),rfl,(by show 1<=sizeLine; decide),fun l2 f2=>?_⟩
           have sb:Same Ha (upd Ha l2 (.tup [.int (x0.getD i 0)])):=Same.upd f2
           have hb2:(upd Ha l2 (.tup [.int (x0.getD i 0)])) l2=some (.tup [.int (x0.getD i 0)]):=upd_same
           revert sb hb2
           generalize upd Ha l2 (.tup [.int (x0.getD i 0)])=Hb
           intro sb hb2
           have len1:=cutV_length (c.map V.int) none (some (i:Int))
           rw[List.length_map] at len1
           refine⟨l1,l2,_,_,rfl,rfl,sb _ _ ha1,hb2,Nat.le_of_lt (small1000 (by show _+1<=_; omega)),fun l3 Hc sc' hc3=>?_⟩
           have s4c:=sa.trans (sb.trans sc')
           refine⟨_,rfl,_,rfl,bd,_,_,_,rfl,rfl,SqT.of (s4c _ _ hbd14),rfl,_,rfl,nw,_,rfl,SqT.of (s4c _ _ hnw14),?_,fun l4 f4=>?_⟩
           . rw[show ((i:Int)+1)=((i+1:Nat):Int) by omega,HT.sIx_nat,List.length_map]
             omega
           have sd:Same Hc (upd Hc l4 (.tup (cutV (c.map V.int) (some ((i:Int)+1)) none))):=Same.upd f4
           have hd4:(upd Hc l4 (.tup (cutV (c.map V.int) (some ((i:Int)+1)) none))) l4=some (.tup (cutV (c.map V.int) (some ((i:Int)+1)) none)):=upd_same
           revert sd hd4
           generalize upd Hc l4 (.tup (cutV (c.map V.int) (some ((i:Int)+1)) none))=Hd
           intro sd hd4
           have e5:=cut_set c i (x0.getD i 0) (by omega)
           refine⟨l3,l4,_,_,rfl,rfl,sd _ _ hc3,hd4,?_,fun l5 He se he=>?_⟩
           . rw[<-List.length_append,e5,List.length_map,List.length_set]
             exact Nat.le_of_lt (small1000 (by omega))
           rw[e5] at he
           have s_e:=s4c.trans (sd.trans se)
           rw[ecs] at he
           exact q l5 x' x0 ys0 yd0 es He (Same3.ahead s02 (s3.after s_e)) (J.same s_e) he (by omega)
       . exact fin H2 s2
     case no=>exact iteF (fin H1 (Same.refl _))
   case fin =>
     rintro H2 s2
     replace I:=I.same s2
     have hnw2:=s2 _ _ hnw1
     have s02:=s1.trans s2
     rcases hv with rfl | ⟨i,qq,mv,rfl,L,hmv⟩
     . exact⟨_,rfl,rfl,_,rfl,iteT ⟨_,rfl,q nw x c ys yd es H2 (Same.three s02 p m md) I hnw2 (by omega)⟩⟩
     refine⟨_,rfl,rfl,_,rfl,iteF ?_⟩
     have hmv2:=s2 _ _ hmv
     have hlt:=L.lt
     refine⟨_,rfl,mv,_,rfl,.inr (SqT.of hmv2),fun la fla=>?_⟩
     have s3:Same H2 (upd H2 la (.lst [.int ((i:Int)+1),.int (c.getD i 0),.int qq])):=Same.upd fla
     have hla:(upd H2 la (.lst [.int ((i:Int)+1),.int (c.getD i 0),.int qq])) la=some (.lst [.int ((i:Int)+1),.int (c.getD i 0),.int qq]):=upd_same
     have nlm:la≠m:=(ne_of_none I.pl.hm fla).symm
     have nld:la≠md:=(ne_of_none I.hmd fla).symm
     revert s3 hla
     generalize upd H2 la (.lst [.int ((i:Int)+1),.int (c.getD i 0),.int qq])=H3
     intro s3 hla
     have I3:=I.same s3
     obtain ⟨dxp,hpp⟩:=I3.pl.hp
     have hyl:ys.length=es.length:=by rw[tups_len I.pl.tm,rowsE_len]
     have hydl:yd.length=es.length:=by rw[tups_len I.td,rowsE_len]
     refine⟨_,rfl,p,dxp,_,rfl,hpp,pf_move _ _ _ _,_,rfl,p,la,b,s0,x,m,n,r,lim,qq,hs,s,c,ys,rowsE es,i,rfl,I3.pl,Vc,.inl hla,nlm,L,by omega,fun x' tv H4 s4 P4=>?_⟩
     have ip:=I3.pl.ip
     have im:∃ ys,H3 m=some (.lst ys):=⟨_,I3.pl.hm⟩
     have np:∀ {a:Addr} {vs:List V},H3 a=some (.lst vs)->a≠p:=fun e z=>by rw[z,hpp] at e; cases e
     have hla4:H4 la=some (.lst [.int ((i:Int)+1),.int (c.getD i 0),.int qq]):=s4 _ _ hla (np hla) nlm
     refine⟨_,rfl,la,_,0,0,rfl,rfl,hla4,rfl,?_⟩
     refine⟨_,rfl,la,_,2,2,rfl,rfl,upd_same,rfl,?_⟩
     rw[upd_upd]
     have P5:=P4.updL (o:=.lst (([V.int ((i:Int)+1),.int (c.getD i 0),.int qq].set 0 (.int 0)).set 2 (.int 77))) hla4 nlm
     have s5:Same2 p m H2 (upd H4 la (.lst (([V.int ((i:Int)+1),.int (c.getD i 0),.int qq].set 0 (.int 0)).set 2 (.int 77)))):=fun b o e h1 h2=>by
       rw[upd_ne (ne_of_none e fla)]
       exact s4 _ _ (s3 _ _ e) h1 h2
     revert P5 s5
     generalize upd H4 la (.lst (([V.int ((i:Int)+1),.int (c.getD i 0),.int qq].set 0 (.int 0)).set 2 (.int 77)))=H5
     intro P5 s5
     have ip2:=I.pl.ip
     have im2:∃ ys,H2 m=some (.lst ys):=⟨_,I.pl.hm⟩
     have np2:md≠p:=fun z=>by obtain ⟨C,dx,fs,hp⟩:=ip2; have:=I.hmd; rw[z,hp] at this; cases this
     have hmd5:H5 md=some (.lst yd):=s5 _ _ I.hmd np2 nmd
     have hmv5:=s5.tup ip2 im2 hmv2
     have hnw5:=s5.tup ip2 im2 hnw2
     refine⟨_,rfl,.inl ⟨rfl,_,SqL.of hmd5⟩,_,rfl,md,_,_,rfl,rfl,hmd5,small1000 (by omega),?_⟩
     obtain ⟨J,s6⟩:=I.step (yd':=yd++[.ref mv]) (es':=(c,i,qq)::es) nmd s5 (by rw[rowsE_cons]; exact P5) (by rw[rowsE_cons]; exact tups_snoc (s5.tups ip2 im2 I.td) hmv5) ⟨rfl,L,I.ch⟩
     have k6:∀ {a:Addr} {vs:List V},H5 a=some (.tup vs)->(upd H5 md (.lst (yd++[.ref mv]))) a=some (.tup vs):=fun e=>by
       rw[upd_ne (fun z=>by rw[z,hmd5] at e; cases e)]
       exact e
     have hmv6:=k6 hmv5
     have hnw6:=k6 hnw5
     revert J s6 hmv6 hnw6
     generalize upd H5 md (.lst (yd++[.ref mv]))=H6
     intro J s6 hmv6 hnw6
     have e1:(i:Int)+1 - 1=(i:Int):=by omega
     refine⟨_,rfl,_,rfl,mv,_,_,_,rfl,rfl,SqT.of hmv6,rfl,_,_,rfl,rfl,_,rfl,nw,_,rfl,SqT.of hnw6,?_,fun l1 f1=>?_⟩
     . rw[e1,HT.sIx_none,HT.sIx_nat,List.length_map,Nat.min_eq_left (by omega)]
       omega
     rw[e1] at *
     have sa:Same H6 (upd H6 l1 (.tup (cutV (c.map V.int) none (some (i:Int))))):=Same.upd f1
     have ha1:(upd H6 l1 (.tup (cutV (c.map V.int) none (some (i:Int))))) l1=some (.tup (cutV (c.map V.int) none (some (i:Int)))):=upd_same
     revert sa ha1
     generalize upd H6 l1 (.tup (cutV (c.map V.int) none (some (i:Int))))=Ha
     intro sa ha1
     refine⟨_,rfl,mv,_,_,_,rfl,rfl,SqT.of (sa _ _ hmv6),rfl,(by show 1<=sizeLine; decide),fun l2 f2=>?_⟩
     have sb:Same Ha (upd Ha l2 (.tup [.int (qq)])):=Same.upd f2
     have hb2:(upd Ha l2 (.tup [.int (qq)])) l2=some (.tup [.int (qq)]):=upd_same
     revert sb hb2
     generalize upd Ha l2 (.tup [.int (qq)])=Hb
     intro sb hb2
     have len1:=cutV_length (c.map V.int) none (some (i:Int))
     rw[List.length_map] at len1
     refine⟨l1,l2,_,_,rfl,rfl,sb _ _ ha1,hb2,Nat.le_of_lt (small1000 (by show _+1<=_; omega)),fun l3 Hc sc' hc3=>?_⟩
     have s4c:=sa.trans (sb.trans sc')
     refine⟨_,rfl,_,rfl,mv,_,_,_,rfl,rfl,SqT.of (s4c _ _ hmv6),rfl,_,rfl,nw,_,rfl,SqT.of (s4c _ _ hnw6),?_,fun l4 f4=>?_⟩
     . rw[show ((i:Int)+1)=((i+1:Nat):Int) by omega,HT.sIx_nat,List.length_map]
       omega
     have sd:Same Hc (upd Hc l4 (.tup (cutV (c.map V.int) (some ((i:Int)+1)) none))):=Same.upd f4
     have hd4:(upd Hc l4 (.tup (cutV (c.map V.int) (some ((i:Int)+1)) none))) l4=some (.tup (cutV (c.map V.int) (some ((i:Int)+1)) none)):=upd_same
     revert sd hd4
     generalize upd Hc l4 (.tup (cutV (c.map V.int) (some ((i:Int)+1)) none))=Hd
     intro sd hd4
     have e5:=cut_set c i (qq) (by omega)
     refine⟨l3,l4,_,_,rfl,rfl,sd _ _ hc3,hd4,?_,fun l5 He se he=>?_⟩
     . rw[<-List.length_append,e5,List.length_map,List.length_set]
       exact Nat.le_of_lt (small1000 (by omega))
     rw[e5] at he
     have s_e:=s4c.trans (sd.trans se)
     exact q l5 x' (c.set i qq) (ys++[.ref tv]) (yd++[.ref mv]) ((c,i,qq)::es) He (Same3.ahead s02 (s6.after s_e)) (J.same s_e) he (Nat.le_refl _)
end
end Bt
namespace Bt
open PySem L2
section
variable {P:Program} {w:World} {K:PySem.W.Frag} {mg:Str->Option Value} {base:Heap} {t:Adr}
def sp_w_fits (K:PySem.W.Frag) (t:Adr):Sp:=fun vs H Q _=>∃ (p k f1 nw md b s0 x m:Addr) (n r lim:Int) (hs s c:List Int) (ys yd:List V) (es:List (List Int × Nat × Int)),vs=[.ref p,.ref k,.ref f1,.ref nw,.ref md]/\ScaleAt K H k n r hs lim/\DI t H p b s0 x m md n r lim hs s c ys yd es/\H f1=some (.tup (s.map V.int))/\H nw=some (.tup (c.map V.int))/\Valid n r hs.length s/\es.length<=300/\∀ H',Same H H'->Q (.bl true) H'
theorem ok_w_fits (T:Txt K mg t):FnOk P w K mg base CX0 4 t.a_w_fits t.d_w_fits ["_law_play","_law_scale","_law_first","_law_now","_law_made"] (sp_w_fits K t):=by
 have G_Play_trail:FnOk P w K mg base CX0 1 t.a_Play_trail t.d_Play_trail ["self"] (sp_Play_trail K t):=ok_Play_trail T
 have G_w_same_rows:FnOk P w K mg base CX0 3 t.a_w_same_rows t.d_w_same_rows ["_law_found","_law_due"] (sp_w_same_rows K t):=ok_w_same_rows T
 have G_w_same:FnOk P w K mg base CX0 2 t.a_w_same t.d_w_same ["_law_found","_law_due"] (sp_w_same K t):=ok_w_same T
 refine T.F_w_fits.ok sc_w_fits (fun vs H Q E h=>?_) (fun cdv A outer s H vs Q E hr h=>?_)
 . obtain ⟨p,k,f1,nw,md,b,s0,x,m,n,r,lim,hs,s,c,ys,yd,es,rfl,⟨h,ok,hk,hh⟩,I,h1,h2,V0,hes,q⟩:=h
   rfl
 . obtain ⟨p,k,f1,nw,md,b,s0,x,m,n,r,lim,hs,s,c,ys,yd,es,rfl,⟨h,ok,hk,hh⟩,I,h1,h2,V0,hes,q⟩:=h
   have hr_Play_trail:Room 1 _:=hr.mono (by decide)
   have hr_w_same_rows:Room 3 _:=hr.mono (by decide)
   have hr_w_same:Room 2 _:=hr.mono (by decide)
   refine⟨_,(pss_cons (ps_if (PW.pt (pw_or (pt_not (pt_val (pe_callB call_isi rfl T.n_isinstance PyProof.Rows.boot_isinstance (pa_cons (pe_fld (pv 0) rfl) (pa_cons (pe_bltn (v:=.ty "tuple") rfl T.n_tuple PyProof.Rows.boot_tuple rfl) pa_nil))))) (pw_or1 (pt_not (pt_val (pe_call G_w_same hr_w_same rfl T.m_w_same T.k_w_same T.b_w_same .nil pass0 (pa_cons (pe_fld (pv 0) rfl) (pa_cons (pv 3) pa_nil)))))))) (pss_one (ps_ret pe_bl)) pss_nil)
     (pss_cons (ps_if (PW.pt (pw_or (pt_not (pt_val (pe_callB call_isi rfl T.n_isinstance PyProof.Rows.boot_isinstance (pa_cons (pe_fld (pv 0) rfl) (pa_cons (pe_bltn (v:=.ty "tuple") rfl T.n_tuple PyProof.Rows.boot_tuple rfl) pa_nil))))) (pw_or1 (pt_not (pt_val (pe_call G_w_same hr_w_same rfl T.m_w_same T.k_w_same T.b_w_same .nil pass0 (pa_cons (pe_fld (pv 0) rfl) (pa_cons (pv 2) pa_nil)))))))) (pss_one (ps_ret pe_bl)) pss_nil)
     (pss_cons (ps_set (i:=5) sc_w_fits.nd rfl (Or.inl rfl) (pe_lst (pa_cons (pe_fld (pe_fld (pv 0) rfl) rfl) (pa_cons (pe_fld (pe_fld (pv 0) rfl) rfl) (pa_cons (pe_fld (pe_fld (pv 0) rfl) rfl) pa_nil)))))
     (pss_cons (ps_if (PW.pt (pw_or (pt_not (pt_val (pe_call G_w_same hr_w_same rfl T.m_w_same T.k_w_same T.b_w_same .nil pass0 (pa_cons (pv 5) (pa_cons (pe_lst (pa_cons (pe_ix ix_list (pv 1) pe_int (fun _ _=>rfl)) (pa_cons (pe_ix ix_list (pv 1) pe_int (fun _ _=>rfl)) (pa_cons (pe_ix ix_list (pv 1) pe_int (fun _ _=>rfl)) pa_nil)))) pa_nil))))) (pw_or1 (pt_not (pt_val (pe_call G_w_same hr_w_same rfl T.m_w_same T.k_w_same T.b_w_same .nil pass0 (pa_cons (pe_fld (pe_fld (pv 0) rfl) rfl) (pa_cons (pe_ix ix_list (pv 1) pe_int (fun _ _=>rfl)) pa_nil)))))))) (pss_one (ps_ret pe_bl)) pss_nil)
     (pss_cons (ps_set (i:=6) sc_w_fits.nd rfl (Or.inl rfl) (pe_meth0 (pv 0) T.cl_Play T.me_Play_trail G_Play_trail hr_Play_trail T.b_Play_trail .nil pass0))
     (pss_cons (ps_if (pt_not (pt_val (pe_call G_w_same_rows hr_w_same_rows rfl T.m_w_same_rows T.k_w_same_rows T.b_w_same_rows .nil pass0 (pa_cons (pv 6) (pa_cons (pv 4) pa_nil))))) (pss_one (ps_ret pe_bl)) pss_nil)
     (pss_cons (ps_expr (pe_bm PySem.F.plainAttrs_list PySem.F.slot_list_append PySem.F.type_list_append mt_append (pv 6) (pa_cons (pe_tup (pa_cons pe_int (pa_cons pe_int (pa_cons pe_int pa_nil)))) pa_nil)))
     (pss_cons (ps_asg (pe_tup (pa_cons pe_int (pa_cons pe_int (pa_cons pe_int pa_nil)))) (pg_sub (pv 6) pe_int set_list))
     (pss_one (ps_ret pe_bl)))))))))),?_⟩
   have P0:=I.pl
   obtain ⟨dx,hp⟩:=P0.hp
   have hw:=ok.w
   have hl1:=V0.len
   have hl2:=(I.ch.valid V0).len
   refine⟨_,rfl,p,_,dx,_,_,rfl,hp,T.cl_Play,T.na_Play_standing,pf_standing _ _ _ _,_,_,_,_,_,rfl,.ty _,.tup P0.hx,rfl,_,rfl,iteF ?_⟩
   refine⟨_,rfl,p,_,dx,_,_,rfl,hp,T.cl_Play,T.na_Play_standing,pf_standing _ _ _ _,_,rfl,x,nw,c,c,rfl,.inr (SqT.of P0.hx),.inr (SqT.of h2),by omega,_,rfl,iteB (by rw[decide_eq_true rfl]; rfl) ?_⟩
   refine⟨_,rfl,p,_,dx,_,_,rfl,hp,T.cl_Play,T.na_Play_start,pf_start _ _ _ _,_,_,_,_,_,rfl,.ty _,.tup P0.hs,rfl,_,rfl,iteF ?_⟩
   refine⟨_,rfl,p,_,dx,_,_,rfl,hp,T.cl_Play,T.na_Play_start,pf_start _ _ _ _,_,rfl,s0,f1,s,s,rfl,.inr (SqT.of P0.hs),.inr (SqT.of h1),by omega,_,rfl,iteB (by rw[decide_eq_true rfl]; rfl) ?_⟩
   obtain ⟨_,dxb,hb',hb,hhb⟩:=P0.bm
   refine⟨_,rfl,p,_,dx,_,_,rfl,hp,T.cl_Play,T.na_Play_beam,pf_beam _ _ _ _,b,_,dxb,_,_,rfl,hb,T.cl_Beam,T.na_Beam_notches,b_notches _ _ _ _,_,rfl,p,_,dx,_,_,rfl,hp,T.cl_Play,T.na_Play_beam,pf_beam _ _ _ _,b,_,dxb,_,_,rfl,hb,T.cl_Beam,T.na_Beam_room,b_room _ _ _ _,_,rfl,p,_,dx,_,_,rfl,hp,T.cl_Play,T.na_Play_beam,pf_beam _ _ _ _,b,_,dxb,_,_,rfl,hb,T.cl_Beam,T.na_Beam_limit,b_limit _ _ _ _,(by show 3<=sizeLine; decide),fun l3 f3=>?_⟩
   have s3:Same H (upd H l3 (.lst [.int n,.int r,.int lim])):=Same.upd f3
   have h3:(upd H l3 (.lst [.int n,.int r,.int lim])) l3=some (.lst ([n,r,lim].map V.int)):=upd_same
   revert s3 h3
   generalize upd H l3 (.lst [.int n,.int r,.int lim])=H3
   intro s3 h3
   refine⟨_,rfl,_,rfl,k,_,_,_,rfl,rfl,s3.seq hk,rfl,_,rfl,k,_,_,_,rfl,rfl,s3.seq hk,rfl,_,rfl,k,_,_,_,rfl,rfl,s3.seq hk,rfl,(by show 3<=sizeLine; decide),fun l4 f4=>?_⟩
   have s4:Same H3 (upd H3 l4 (.lst [.int n,.int r,.int lim])):=Same.upd f4
   have h4:(upd H3 l4 (.lst [.int n,.int r,.int lim])) l4=some (.lst ([n,r,lim].map V.int)):=upd_same
   revert s4 h4
   generalize upd H3 l4 (.lst [.int n,.int r,.int lim])=H4
   intro s4 h4
   have s04:=s3.trans s4
   refine⟨l3,l4,[n,r,lim],[n,r,lim],rfl,.inl (SqL.of (s4 _ _ h3)),.inl (SqL.of h4),(by show 3<=1000; decide),_,rfl,iteB (by rw[decide_eq_true rfl]; rfl) ?_⟩
   refine⟨_,rfl,p,_,dx,_,_,rfl,s04 _ _ hp,T.cl_Play,T.na_Play_beam,pf_beam _ _ _ _,b,_,dxb,_,_,rfl,s04 _ _ hb,T.cl_Beam,T.na_Beam_hefts,b_hefts _ _ _ _,_,rfl,k,_,_,_,rfl,rfl,s04.seq hk,rfl,hb',h,hs,hs,rfl,.inr (SqT.of (s04 _ _ hhb)),.inl (s04.seq hh),by omega,_,rfl,iteB (by rw[decide_eq_true rfl]; rfl) ?_⟩
   have I4:=I.same s04
   have hyl:ys.length=es.length:=by rw[tups_len I.pl.tm,rowsE_len]
   refine⟨_,rfl,p,dx,_,rfl,s04 _ _ hp,pf_trail _ _ _ _,p,b,s0,x,m,n,r,lim,hs,s,c,ys,rowsE es,rfl,I4.pl,fun l5 f5=>?_⟩
   have s5:Same H4 (upd H4 l5 (.lst ys)):=Same.upd f5
   have h5:(upd H4 l5 (.lst ys)) l5=some (.lst ys):=upd_same
   have f50:=s04.free f5
   revert s5 h5
   generalize upd H4 l5 (.lst ys)=H5
   intro s5 h5
   have s05:=s04.trans s5
   refine⟨_,rfl,_,rfl,l5,md,ys,yd,rowsE es,rowsE es,rfl,h5,(s5.tups I4.pl.tm),s5 _ _ I4.hmd,s5.tups I4.td,by rw[rowsE_len]; omega,rowsE_mem,_,rfl,iteB (by rw[decide_eq_true rfl]; rfl) ?_⟩
   refine⟨_,rfl,.inl ⟨rfl,_,SqL.of h5⟩,(by show 3<=sizeLine; decide),fun l6 f6=>?_⟩
   have s6:Same H5 (upd H5 l6 (.tup [.int 1,.int 2,.int 3])):=Same.upd f6
   refine⟨l5,_,_,rfl,rfl,s6 _ _ h5,small1000 (by omega),?_⟩
   have h7:(upd (upd H5 l6 (.tup [.int 1,.int 2,.int 3])) l5 (.lst (ys++[.ref l6]))) l5=some (.lst (ys++[.ref l6])):=upd_same
   have s7:Same H (upd (upd H5 l6 (.tup [.int 1,.int 2,.int 3])) l5 (.lst (ys++[.ref l6]))):=(s05.trans s6).put f50
   revert h7 s7
   generalize upd (upd H5 l6 (.tup [.int 1,.int 2,.int 3])) l5 (.lst (ys++[.ref l6]))=H7
   intro h7 s7
   refine⟨(by show 3<=sizeLine; decide),fun l8 f8=>?_⟩
   have s8:=s7.updT (o:=.tup [.int 7,.int 7,.int 7]) f8
   refine⟨_,rfl,l5,_,0,0,rfl,rfl,Same.upd f8 _ _ h7,?_,?_⟩
   . unfold ixN
     rw[if_pos (by decide),if_pos (by rw[List.length_append,List.length_singleton]; omega)]
     rfl
   exact q _ (s8.put f50)
end
end Bt
namespace Bt
open PySem L2
section
variable {P:Program} {w:World} {K:PySem.W.Frag} {mg:Str->Option Value} {base:Heap} {t:Adr}
theorem DI.aside {t:Adr} {H H':Hp} {p b s0 x m md p' m' d':Addr} {n r lim:Int} {hs s c:List Int} {ys yd:List V} {es:List (List Int × Nat × Int)} (I:DI t H p b s0 x m md n r lim hs s c ys yd es) (e:Same3 p' m' d' H H') (hp':∃ C dx fs,H p'=some (.ins C dx fs)) (hm':∃ ys,H m'=some (.lst ys)) (hd':∃ ys,H d'=some (.lst ys))
   (npp:p≠p') (nb:b≠p') (n1:m≠m') (n2:m≠d') (n3:md≠m') (n4:md≠d'):DI t H' p b s0 x m md n r lim hs s c ys yd es:=by
 have kk:∀ {a:Addr} {o:HO},H a=some o->a≠p'->(∀ vs,o≠.lst vs)->H' a=some o:=fun {a o} h h1 h2=>e a o h h1 (fun z=>by obtain ⟨ys,hy⟩:=hm'; rw[z,hy] at h; injection h with h; exact h2 _ h.symm) (fun z=>by obtain ⟨ys,hy⟩:=hd'; rw[z,hy] at h; injection h with h; exact h2 _ h.symm)
 have kt:∀ {a:Addr} {vs:List V},H a=some (.tup vs)->H' a=some (.tup vs):=fun {a vs} h=>kk h (fun z=>by obtain ⟨C,dx,fs,hp⟩:=hp'; rw[z,hp] at h; cases h) (fun _ z=>nomatch z)
 have kl:∀ {a:Addr} {vs:List V},H a=some (.lst vs)->a≠m'->a≠d'->H' a=some (.lst vs):=fun {a vs} h h1 h2=>e a _ h (fun z=>by obtain ⟨C,dx,fs,hp⟩:=hp'; rw[z,hp] at h; cases h) h1 h2
 have P:=I.pl
 obtain ⟨ok,dx,h',hb,hh⟩:=P.bm
 obtain ⟨dxp,hp⟩:=P.hp
 exact⟨⟨⟨ok,dx,h',kk hb nb (fun _ z=>nomatch z),kt hh⟩,P.nb,⟨dxp,kk hp npp (fun _ z=>nomatch z)⟩,kt P.hs,kt P.hx,kl P.hm n1 n2,Paired.mapP P.tm fun y k ⟨b,e,hb⟩=>⟨b,e,kt hb⟩⟩,kl I.hmd n3 n4,Paired.mapP I.td fun y k ⟨b,e,hb⟩=>⟨b,e,kt hb⟩,I.ch⟩
def sel {α:Type} (a b:α):Nat->α
 | 0=>a
 | _=>b
theorem two_cases {k:Nat} (h:k < 2):k=0\/k=1:=by omega
theorem fresh_out {H:Hp} {L:List Addr} {l:Addr} (h:∀ a∈L,∃ o,H a=some o) (f:H l=none):l ∉ L:=fun z=>by
 obtain ⟨o,e⟩:=h l z
 rw[f] at e
 cases e
theorem ex_same {H H':Hp} {L:List Addr} (h:∀ a∈L,∃ o,H a=some o) (s:Same H H'):∀ a∈L,∃ o,H' a=some o:=fun a ha=>let ⟨o,e⟩:=h a ha; ⟨o,s _ _ e⟩
theorem ex_upd {H:Hp} {L:List Addr} {l:Addr} {u:HO} (h:∀ a∈L,∃ o,H a=some o):∀ a∈L,∃ o,(upd H l u) a=some o:=fun a ha=>by
 by_cases e:a=l
 . subst e; exact⟨u,upd_same⟩
 . obtain ⟨o,z⟩:=h a ha
   exact⟨o,by rw[upd_ne e]; exact z⟩
theorem ex_cons {H:Hp} {L:List Addr} {l:Addr} {o:HO} (h:∀ a∈L,∃ o,H a=some o) (e:H l=some o):∀ a∈l::L,∃ o,H a=some o:=fun a ha=>by
 rcases List.mem_cons.mp ha with rfl | ha
 . exact⟨o,e⟩
 . exact h a ha
structure Two (t:Adr) (H1 H:Hp) (b lp ln lm lc:Addr) (cells:List V) (p s0 m d:Nat->Addr) (n r lim:Int) (hs s:List Int) (x nw:Nat->Addr) (c:Nat->List Int) (ys yd:Nat->List V) (es:Nat->List (List Int × Nat × Int)):Prop where
 sm:Same H1 H
 hp:H lp=some (.lst [.ref (p 0),.ref (p 1)])
 hn:H ln=some (.lst [.ref (nw 0),.ref (nw 1)])
 hm:H lm=some (.lst [.ref (d 0),.ref (d 1)])
 hc:H lc=some (.lst cells)
 di:∀ k,k < 2->DI t H (p k) b (s0 k) (x k) (m k) (d k) n r lim hs s (c k) (ys k) (yd k) (es k)
 nt:∀ k,k < 2->H (nw k)=some (.tup ((c k).map V.int))
theorem Two.same {t:Adr} {H1 H H':Hp} {b lp ln lm lc:Addr} {cells:List V} {p s0 m d:Nat->Addr} {n r lim:Int} {hs s:List Int} {x nw:Nat->Addr} {c:Nat->List Int} {ys yd:Nat->List V} {es:Nat->List (List Int × Nat × Int)} (I:Two t H1 H b lp ln lm lc cells p s0 m d n r lim hs s x nw c ys yd es) (e:Same H H'):Two t H1 H' b lp ln lm lc cells p s0 m d n r lim hs s x nw c ys yd es :=
 ⟨I.sm.trans e,e _ _ I.hp,e _ _ I.hn,e _ _ I.hm,e _ _ I.hc,fun k hk=>(I.di k hk).same e,fun k hk=>e _ _ (I.nt k hk)⟩
theorem DI.updL {t:Adr} {H:Hp} {p b s0 x m md l:Addr} {n r lim:Int} {hs s c:List Int} {ys yd:List V} {es:List (List Int × Nat × Int)} {vs:List V} {o:HO} (I:DI t H p b s0 x m md n r lim hs s c ys yd es) (hl:H l=some (.lst vs)) (n1:l≠m) (n2:l≠md):DI t (upd H l o) p b s0 x m md n r lim hs s c ys yd es :=
 ⟨I.pl.updL hl n1,by rw[upd_ne n2.symm]; exact I.hmd,tups_keep hl (fun _ z=>nomatch z) I.td,I.ch⟩
def put {α:Type} (f:Nat->α) (k:Nat) (v:α):Nat->α:=fun j=>if j=k then v else f j
theorem put_at {α:Type} (f:Nat->α) (k:Nat) (v:α):put f k v k=v:=if_pos rfl
theorem put_ne {α:Type} (f:Nat->α) {k j:Nat} (v:α) (h:j≠k):put f k v j=f j:=if_neg h
theorem at2 (f:Nat->Addr) {k:Nat} (h:k < 2):atI [V.ref (f 0),V.ref (f 1)] (k:Int)=some (.ref (f k)):=by
 rcases two_cases h with rfl | rfl <;> rfl
theorem set2 (f:Nat->Addr) {k:Nat} (h:k < 2) (v:Addr):[V.ref (f 0),V.ref (f 1)].set k (.ref v)=[V.ref (put f k v 0),V.ref (put f k v 1)]:=by
 rcases two_cases h with rfl | rfl <;> rfl
end
end Bt
namespace Bt
open PySem L2
section
variable {P:Program} {w:World} {K:PySem.W.Frag} {mg:Str->Option Value} {base:Heap} {t:Adr}
theorem ok_law (T:Txt K mg t):FnOk P w K mg base CX0 9 t.a_law t.d_law ["_law_script"] (sp_law K t):=by
 have G_w_case:FnOk P w K mg base CX0 3 t.a_w_case t.d_w_case ["_law_script"] (sp_w_case K t):=ok_w_case T
 have G_w_beam:FnOk P w K mg base CX0 5 t.a_w_beam t.d_w_beam ["_law_scale"] (sp_w_beam K t):=ok_w_beam T
 have G_Play_init:FnOk P w K mg base CX0 5 t.a_Play_init t.d_Play_init ["self","beam","start"] (sp_Play_init K t):=ok_Play_init T
 have G_w_deed:FnOk P w K mg base CX0 8 t.a_w_deed t.d_w_deed ["_law_play","_law_scale","_law_now","_law_made","_law_cell"] (sp_w_deed K t):=ok_w_deed T
 have G_w_fits:FnOk P w K mg base CX0 4 t.a_w_fits t.d_w_fits ["_law_play","_law_scale","_law_first","_law_now","_law_made"] (sp_w_fits K t):=ok_w_fits T
 refine T.F_law.ok sc_law (fun vs H Q E h=>?_) (fun cdv A outer s H vs Q E hr h=>?_)
 . obtain ⟨a,ns,rfl,hS,hlen,q⟩:=h
   rfl
 . obtain ⟨a,ns,rfl,hS,hlen,q⟩:=h
   have hr_w_case:Room 3 _:=hr.mono (by decide)
   have hr_w_beam:Room 5 _:=hr.mono (by decide)
   have hr_Play:Room 6 _:=hr.mono (by decide)
   have hr_w_deed:Room 8 _:=hr.mono (by decide)
   have hr_w_fits:Room 4 _:=hr.mono (by decide)
   refine⟨_,(pss_cons (ps_asg (pe_call G_w_case hr_w_case rfl T.m_w_case T.k_w_case T.b_w_case .nil pass0 (pa_cons (pv 0) pa_nil)) (pg_lst rfl (pgs_cons (pg_name (i:=1) sc_law.nd rfl (Or.inl rfl)) (pgs_cons (pg_name (i:=2) sc_law.nd rfl (Or.inl rfl)) (pgs_cons (pg_name (i:=3) sc_law.nd rfl (Or.inl rfl)) pgs_nil)))))
     (pss_cons (ps_set (i:=4) sc_law.nd rfl (Or.inl rfl) (pe_callTy call_list_of rfl T.n_list PyProof.Rows.boot_list (pa_cons (pv 2) pa_nil)))
     (pss_cons (ps_set (i:=5) sc_law.nd rfl (Or.inl rfl) (pe_call G_w_beam hr_w_beam rfl T.m_w_beam T.k_w_beam T.b_w_beam .nil pass0 (pa_cons (pv 1) pa_nil)))
     (pss_cons (ps_set (i:=6) sc_law.nd rfl (Or.inl rfl) (pe_lst (pa_cons (pe_make T.mk_Play G_Play_init hr_Play rfl T.m_Play T.b_Play_init .nil pass0 (pa_cons (pv 5) (pa_cons (pv 4) pa_nil))) (pa_cons (pe_make T.mk_Play G_Play_init hr_Play rfl T.m_Play T.b_Play_init .nil pass0 (pa_cons (pv 5) (pa_cons (pe_callTy call_tuple_of rfl T.n_tuple PyProof.Rows.boot_tuple (pa_cons (pv 4) pa_nil)) pa_nil))) pa_nil))))
     (pss_cons (ps_expr (pe_bm PySem.F.plainAttrs_list PySem.F.slot_list_append PySem.F.type_list_append mt_append (pv 4) (pa_cons pe_int pa_nil)))
     (pss_cons (ps_asg pe_int (pg_sub (pv 4) pe_int set_list))
     (pss_cons (ps_set (i:=7) sc_law.nd rfl (Or.inl rfl) (pe_lst (pa_cons (pv 2) (pa_cons (pv 2) pa_nil))))
     (pss_cons (ps_set (i:=8) sc_law.nd rfl (Or.inl rfl) (pe_lst (pa_cons (pe_lst pa_nil) (pa_cons (pe_lst pa_nil) pa_nil))))
     (pss_cons (ps_for PassesOwn.never rfl (pi_list (pe_op op_cat (pe_lst (pa_cons pe_int pa_nil)) (pe_slice sl_list (pv 0) (po_some pe_int) (po_some pe_int)))) (pg_name (i:=9) sc_law.nd rfl (Or.inl rfl)) (pss_cons (ps_set (i:=10) sc_law.nd rfl (Or.inl rfl) (pe_op op_mod (pv 9) pe_int))
     (pss_cons (ps_asg (pe_call G_w_deed hr_w_deed rfl T.m_w_deed T.k_w_deed T.b_w_deed .nil pass0 (pa_cons (pe_ix ix_list (pv 6) (pv 10) (fun _ _=>rfl)) (pa_cons (pv 1) (pa_cons (pe_ix ix_list (pv 7) (pv 10) (fun _ _=>rfl)) (pa_cons (pe_ix ix_list (pv 8) (pv 10) (fun _ _=>rfl)) (pa_cons (pv 9) pa_nil)))))) (pg_sub (pv 7) (pv 10) set_list))
     (pss_one (ps_for PassesOwn.never rfl (pi_range1 rfl T.n_range (pa_cons pe_int pa_nil)) (pg_name (i:=11) sc_law.nd rfl (Or.inl rfl)) (pss_one (ps_if (pt_not (pt_val (pe_call G_w_fits hr_w_fits rfl T.m_w_fits T.k_w_fits T.b_w_fits .nil pass0 (pa_cons (pe_ix ix_list (pv 6) (pv 11) (fun _ _=>rfl)) (pa_cons (pv 1) (pa_cons (pv 2) (pa_cons (pe_ix ix_list (pv 7) (pv 11) (fun _ _=>rfl)) (pa_cons (pe_ix ix_list (pv 8) (pv 11) (fun _ _=>rfl)) pa_nil)))))))) (pss_one (ps_ret pe_bl)) pss_nil)))))))
     (pss_one (ps_ret pe_bl))))))))))),?_⟩
   refine⟨_,rfl,a,ns,rfl,hS,fun l sc h st go H1 n r lim hs s g C=>?_⟩
   refine⟨l,_,rfl,SqL.of C.hl,rfl,_,_,rfl,_,_,rfl,_,_,rfl,rfl,?_⟩
   have hw:=C.ok.w
   have hl1:=C.vs.len
   have S1:ScaleAt K H1 sc n r hs lim:=⟨h,C.ok,SqL.of C.hsc,SqL.of C.hh⟩
   refine⟨_,rfl,st,_,rfl,.inr (SqT.of C.hst),fun lh flh=>?_⟩
   have s2:Same H1 (upd H1 lh (.lst (s.map V.int))):=Same.upd flh
   have hlh2:(upd H1 lh (.lst (s.map V.int))) lh=some (.lst (s.map V.int)):=upd_same
   revert s2 hlh2
   generalize upd H1 lh (.lst (s.map V.int))=H2
   intro s2 hlh2
   refine⟨_,rfl,sc,n,r,lim,hs,rfl,S1.same s2,fun b H3 s3 B3=>?_⟩
   have hlh3:=s3 _ _ hlh2
   have s13:=s2.trans s3
   refine⟨_,rfl,_,rfl,fun p0 dx0 fp0 fdx0 ndx0=>?_⟩
   have s4:Same H3 (upd (upd H3 dx0 (.own p0)) p0 (.ins t.c_Play dx0 [])):=(Same.upd fdx0).updT (by rw[upd_ne (Ne.symm ndx0)]; exact fp0)
   have hp4:(upd (upd H3 dx0 (.own p0)) p0 (.ins t.c_Play dx0 [])) p0=some (.ins t.c_Play dx0 []):=upd_same
   revert s4 hp4
   generalize upd (upd H3 dx0 (.own p0)) p0 (.ins t.c_Play dx0 [])=H4
   intro s4 hp4
   have nb0:b≠p0:=fun z=>by obtain ⟨_,_,_,hb,_⟩:=B3; rw[z,fp0] at hb; cases hb
   refine⟨p0,b,lh,dx0,n,r,lim,hs,s,rfl,hp4,nb0,B3.same s4,C.vs,.inl (SqL.of (s4 _ _ hlh3)),C.ks,fun H5 s00 m0 x5 fm5 P5=>⟨rfl,?_⟩⟩
   have s35:Same H3 H5:=fun c o e=>x5 c o (s4 _ _ e) (ne_of_none e fp0)
   have hlh5:=s35 _ _ hlh3
   refine⟨_,rfl,_,rfl,lh,_,rfl,.inl ⟨SqL.of hlh5,fun tp ftp=>?_⟩⟩
   have s6:Same H5 (upd H5 tp (.tup (s.map V.int))):=Same.upd ftp
   have htp6:(upd H5 tp (.tup (s.map V.int))) tp=some (.tup (s.map V.int)):=upd_same
   revert s6 htp6
   generalize upd H5 tp (.tup (s.map V.int))=H6
   intro s6 htp6
   refine fun p1 dx1 fp1 fdx1 ndx1=>?_
   have s7:Same H6 (upd (upd H6 dx1 (.own p1)) p1 (.ins t.c_Play dx1 [])):=(Same.upd fdx1).updT (by rw[upd_ne (Ne.symm ndx1)]; exact fp1)
   have hp7:(upd (upd H6 dx1 (.own p1)) p1 (.ins t.c_Play dx1 [])) p1=some (.ins t.c_Play dx1 []):=upd_same
   revert s7 hp7
   generalize upd (upd H6 dx1 (.own p1)) p1 (.ins t.c_Play dx1 [])=H7
   intro s7 hp7
   have P6:=P5.same s6
   have B6:=P6.bm
   have nb1:b≠p1:=fun z=>by obtain ⟨_,_,_,hb,_⟩:=B6; rw[z,fp1] at hb; cases hb
   refine⟨p1,b,tp,dx1,n,r,lim,hs,s,rfl,hp7,nb1,B6.same s7,C.vs,.inr (s7 _ _ htp6),C.ks,fun H8 s01 m1 x8 fm8 P8=>⟨rfl,?_⟩⟩
   have s68:Same H6 H8:=fun c o e=>x8 c o (s7 _ _ e) (ne_of_none e fp1)
   have P08:=P6.same s68
   have npp:p0≠p1:=fun z=>by obtain ⟨dx,hp⟩:=P6.hp; rw[z,fp1] at hp; cases hp
   have n01:m0≠m1:=fun z=>by
     have:=s7 _ _ P6.hm
     rw[z,fm8] at this
     cases this
   have s18:Same H1 H8:=s13.trans (s35.trans (s6.trans s68))
   have hlh8:=(s6.trans s68) _ _ hlh5
   have ex8:∀ a∈[m1,m0],∃ o,H8 a=some o:=ex_cons (ex_cons (fun a ha=>nomatch ha) P08.hm) P8.hm
   have nd8:[m1,m0].Nodup:=by simp[n01.symm]
   refine⟨(by show 2<=sizeLine; decide),fun lp flp=>?_⟩
   have s9:Same H8 (upd H8 lp (.lst [.ref p0,.ref p1])):=Same.upd flp
   have hlp9:(upd H8 lp (.lst [.ref p0,.ref p1])) lp=some (.lst [.ref p0,.ref p1]):=upd_same
   have nd9:[lp,m1,m0].Nodup:=List.nodup_cons.mpr ⟨fresh_out ex8 flp,nd8⟩
   dsimp only
   revert s9 hlp9
   generalize upd H8 lp (.lst [.ref p0,.ref p1])=H9
   intro s9 hlp9
   have ex9:∀ a∈[lp,m1,m0],∃ o,H9 a=some o:=ex_cons (ex_same ex8 s9) hlp9
   have hlh9:=s9 _ _ hlh8
   have P09:=P08.same s9
   have P19:=P8.same s9
   have s19:=s18.trans s9
   refine⟨_,rfl,.inl ⟨rfl,_,SqL.of hlh9⟩,lh,_,_,rfl,rfl,hlh9,small1000 (by rw[List.length_map]; omega),?_⟩
   refine⟨_,rfl,lh,_,0,0,rfl,rfl,upd_same,?_,?_⟩
   . unfold ixN
     rw[if_pos (by decide),if_pos (by rw[List.length_append,List.length_singleton]; omega)]
     rfl
   rw[upd_upd]
   have nhm:∀ {mm:Addr} {vs:List V},H9 mm=some (.lst vs)->H1 mm=none->lh≠lp->True:=fun _ _ _=>trivial
   have f1m0:H1 m0=none:=s13.free (s4.free fm5)
   have f1m1:H1 m1=none:=s13.free (s35.free (s6.free (s7.free fm8)))
   have nlm0:lh≠m0:=ne_of_none (s4 _ _ hlh3) fm5
   have nlm1:lh≠m1:=ne_of_none (s7 _ _ (s6 _ _ hlh5)) fm8
   have nlp:lh≠lp:=ne_of_none hlh8 flp
   have s1A:Same H1 (upd H9 lh (.lst ((s.map V.int++[V.int 5]).set 0 (.int 99)))):=s19.put flh
   have P0A:=P09.updL (o:=.lst ((s.map V.int++[V.int 5]).set 0 (.int 99))) hlh9 nlm0
   have P1A:=P19.updL (o:=.lst ((s.map V.int++[V.int 5]).set 0 (.int 99))) hlh9 nlm1
   have hlpA:(upd H9 lh (.lst ((s.map V.int++[V.int 5]).set 0 (.int 99)))) lp=some (.lst [.ref p0,.ref p1]):=by rw[upd_ne nlp.symm]; exact hlp9
   have exA:=ex_upd (l:=lh) (u:=.lst ((s.map V.int++[V.int 5]).set 0 (.int 99))) ex9
   revert s1A P0A P1A hlpA exA
   generalize upd H9 lh (.lst ((s.map V.int++[V.int 5]).set 0 (.int 99)))=HA
   intro s1A P0A P1A hlpA exA
   refine⟨_,rfl,_,rfl,(by show 2<=sizeLine; decide),fun ln fln=>?_⟩
   have sB:Same HA (upd HA ln (.lst [.ref st,.ref st])):=Same.upd fln
   have hlnB:(upd HA ln (.lst [.ref st,.ref st])) ln=some (.lst [.ref st,.ref st]):=upd_same
   have ndB:=List.nodup_cons.mpr ⟨fresh_out exA fln,nd9⟩
   have fln1:=s1A.free fln
   dsimp only
   revert sB hlnB
   generalize upd HA ln (.lst [.ref st,.ref st])=HB
   intro sB hlnB
   have exB:=ex_cons (ex_same exA sB) hlnB
   refine⟨Nat.zero_le _,fun d0 fd0=>⟨Nat.zero_le _,fun d1 fd1=>⟨(by show 2<=sizeLine; decide),fun lm flm=>?_⟩⟩⟩
   have ndC:=List.nodup_cons.mpr ⟨fresh_out exB fd0,ndB⟩
   have exC:=ex_cons (ex_same exB (Same.upd (o:=.lst []) fd0)) upd_same
   have ndD:=List.nodup_cons.mpr ⟨fresh_out exC fd1,ndC⟩
   have exD:=ex_cons (ex_same exC (Same.upd (o:=.lst []) fd1)) upd_same
   have ndE:=List.nodup_cons.mpr ⟨fresh_out exD flm,ndD⟩
   have sE:Same HB (upd (upd (upd HB d0 (.lst [])) d1 (.lst [])) lm (.lst [.ref d0,.ref d1])):=((Same.upd fd0).updT fd1).updT flm
   have exE:=ex_cons (ex_same exD (Same.upd (o:=.lst [.ref d0,.ref d1]) flm)) upd_same
   have hd0E:(upd (upd (upd HB d0 (.lst [])) d1 (.lst [])) lm (.lst [.ref d0,.ref d1])) d0=some (.lst []):=Same.upd flm _ _ (Same.upd fd1 _ _ upd_same)
   have hd1E:(upd (upd (upd HB d0 (.lst [])) d1 (.lst [])) lm (.lst [.ref d0,.ref d1])) d1=some (.lst []):=Same.upd flm _ _ upd_same
   have hlmE:(upd (upd (upd HB d0 (.lst [])) d1 (.lst [])) lm (.lst [.ref d0,.ref d1])) lm=some (.lst [.ref d0,.ref d1]):=upd_same
   dsimp only
   revert sE exE hd0E hd1E hlmE
   generalize upd (upd (upd HB d0 (.lst [])) d1 (.lst [])) lm (.lst [.ref d0,.ref d1])=HE
   intro sE exE hd0E hd1E hlmE
   have sAE:=sB.trans sE
   have s1E:=s1A.trans sAE
   obtain ⟨cs,ecs,hcs⟩:=cut_map ns (some 7) (some 57)
   refine⟨(by show 1<=sizeLine; decide),fun l1 f1=>⟨_,rfl,_,rfl,_,rfl,a,_,rfl,((C.sm.trans s1E).trans (Same.upd f1)).seq hS,fun l2 f2=>?_⟩⟩
   have ec:(cutV (ns.map V.int) (some 7) (some 57))=cs.map V.int:=ecs
   rw[ec]
   have sF:Same HE (upd (upd HE l1 (.lst [.int 0])) l2 (.lst (cs.map V.int))):=(Same.upd f1).updT f2
   have h1F:(upd (upd HE l1 (.lst [.int 0])) l2 (.lst (cs.map V.int))) l1=some (.lst [.int 0]):=Same.upd f2 _ _ upd_same
   have h2F:(upd (upd HE l1 (.lst [.int 0])) l2 (.lst (cs.map V.int))) l2=some (.lst (cs.map V.int)):=upd_same
   revert sF h1F h2F
   generalize upd (upd HE l1 (.lst [.int 0])) l2 (.lst (cs.map V.int))=HF
   intro sF h1F h2F
   refine⟨l1,l2,_,_,rfl,rfl,h1F,h2F,Nat.le_of_lt (small1000 (by rw[List.length_map]; show 1+_<=_; omega)),fun lc flc=>?_⟩
   have sG:Same HF (upd HF lc (.lst ([V.int 0]++cs.map V.int))):=Same.upd flc
   have hlcG:(upd HF lc (.lst ([V.int 0]++cs.map V.int))) lc=some (.lst ((0::cs).map V.int)):=upd_same
   have ndG:=List.nodup_cons.mpr ⟨fresh_out (ex_same exE sF) flc,ndE⟩
   revert sG hlcG
   generalize upd HF lc (.lst ([V.int 0]++cs.map V.int))=HG
   intro sG hlcG
   have sEG:=sF.trans sG
   have sAG:=sAE.trans sEG
   have sBG:=sE.trans sEG
   have hst:=(s1E.trans sEG) _ _ C.hst
   have I0:Two t H1 HG b lp ln lm lc ((0::cs).map V.int) (sel p0 p1) (sel s00 s01) (sel m0 m1) (sel d0 d1) n r lim hs s (sel s00 s01) (sel st st) (sel s s) (fun _=>[]) (fun _=>[]) (fun _=>[]):=by
     refine⟨s1E.trans sEG,sAG _ _ hlpA,sBG _ _ hlnB,sEG _ _ hlmE,hlcG,fun k hk=>?_,fun k hk=>?_⟩
     . rcases two_cases hk with rfl | rfl
       . exact⟨P0A.same sAG,sEG _ _ hd0E,.nil,rfl⟩
       . exact⟨P1A.same sAG,sEG _ _ hd1E,.nil,rfl⟩
     . rcases two_cases hk with rfl | rfl <;> exact hst
   simp only[List.nodup_cons,List.mem_cons,List.not_mem_nil,or_false,not_or] at ndG
   obtain ⟨⟨nc1,nc2,nc3,nc4,nc5,nc6,nc7⟩,⟨nm1,nm2,nm3,nm4,nm5,nm6⟩,⟨nd1,nd2,nd3,nd4,nd5⟩,⟨ne1,ne2,ne3,ne4⟩,⟨nf1,nf2,nf3⟩,⟨ng1,ng2⟩,nh1,_⟩:=ndG
   have fp0':H1 p0=none:=s13.free fp0
   have fp1':H1 p1=none:=s13.free (s35.free (s6.free fp1))
   have fd0':H1 d0=none:=(s1A.trans sB).free fd0
   have fd1':H1 d1=none:=(s1A.trans sB).free ((Same.upd (o:=.lst []) fd0).free fd1)
   have fpp:∀ j k,j < 2->k < 2->j≠k->sel p0 p1 j≠sel p0 p1 k:=fun j k hj hk e=>by rcases two_cases hj with rfl | rfl <;> rcases two_cases hk with rfl | rfl <;> first | exact absurd rfl e | exact npp | exact npp.symm
   have fmm:∀ j k,j < 2->k < 2->j≠k->sel m0 m1 j≠sel m0 m1 k:=fun j k hj hk e=>by rcases two_cases hj with rfl | rfl <;> rcases two_cases hk with rfl | rfl <;> first | exact absurd rfl e | exact n01 | exact n01.symm
   have fdd:∀ j k,j < 2->k < 2->j≠k->sel d0 d1 j≠sel d0 d1 k:=fun j k hj hk e=>by rcases two_cases hj with rfl | rfl <;> rcases two_cases hk with rfl | rfl <;> first | exact absurd rfl e | exact nd1 | exact Ne.symm nd1
   have fmd:∀ j k,j < 2->k < 2->sel d0 d1 j≠sel m0 m1 k:=fun j k hj hk=>by rcases two_cases hj with rfl | rfl <;> rcases two_cases hk with rfl | rfl <;> first | exact ne4 | exact ne3 | exact nd5 | exact nd4
   have fl:∀ k,k < 2->(lp≠sel m0 m1 k/\lp≠sel d0 d1 k)/\(lm≠sel m0 m1 k/\lm≠sel d0 d1 k)/\(lc≠sel m0 m1 k/\lc≠sel d0 d1 k)/\(ln≠sel m0 m1 k/\ln≠sel d0 d1 k):=fun k hk=>by
     rcases two_cases hk with rfl | rfl
     . exact⟨⟨ng2,Ne.symm ne2⟩,⟨nm6,nm2⟩,⟨nc7,nc3⟩,⟨nf3,Ne.symm ne1⟩⟩
     . exact⟨⟨ng1,Ne.symm nd3⟩,⟨nm5,nm1⟩,⟨nc6,nc2⟩,⟨nf2,Ne.symm nd2⟩⟩
   have fr:∀ k,k < 2->H1 (sel p0 p1 k)=none/\H1 (sel m0 m1 k)=none/\H1 (sel d0 d1 k)=none/\b≠sel p0 p1 k:=fun k hk=>by
     rcases two_cases hk with rfl | rfl
     . exact⟨fp0',f1m0,fd0',nb0⟩
     . exact⟨fp1',f1m1,fd1',nb1⟩
   have nnp:ln≠lp/\ln≠lm/\ln≠lc:=⟨nf1,Ne.symm nm3,Ne.symm nc4⟩
   have len0:∀ k,k < 2->((fun _=>[]) k:List (List Int × Nat × Int)).length<=0:=fun k hk=>Nat.le_refl _
   revert I0 len0
   generalize (fun _=>[]:Nat->List (List Int × Nat × Int))=es0
   generalize (fun _=>[]:Nat->List V)=ys0
   generalize sel s s=c0
   generalize sel st st=nw0
   intro I0 len0
   have hx0:∃ x0,x0=sel s00 s01:=⟨_,rfl⟩
   obtain ⟨x0,ex0⟩:=hx0
   rw[show Two t H1 HG b lp ln lm lc ((0::cs).map V.int) (sel p0 p1) (sel s00 s01) (sel m0 m1) (sel d0 d1) n r lim hs s (sel s00 s01) nw0 c0 ys0 ys0 es0 ↔ Two t H1 HG b lp ln lm lc ((0::cs).map V.int) (sel p0 p1) (sel s00 s01) (sel m0 m1) (sel d0 d1) n r lim hs s x0 nw0 c0 ys0 ys0 es0 from by rw[ex0]] at I0
   clear ex0
   revert I0 fpp fmm fdd fmd fl fr
   generalize sel p0 p1=pp
   generalize sel s00 s01=ss
   generalize sel m0 m1=mm
   generalize sel d0 d1=dd
   intro fpp fmm fdd fmd fl fr I0
   refine⟨lc,rfl,⟨_,SqL.of I0.hc⟩,for_list (K:=K) (a:=lc) (xs:=(0::cs).map V.int) (fun i σ H'=>∃ v9 v10 v11 x nw c ys yd es,σ=[some (.ref a),some (.ref sc),some (.ref st),some (.ref go),some (.ref lh),some (.ref b),some (.ref lp),some (.ref ln),some (.ref lm),v9,v10,v11]/\Two t H1 H' b lp ln lm lc ((0::cs).map V.int) pp ss mm dd n r lim hs s x nw c ys yd es/\∀ k,k < 2->(es k).length<=i) ⟨none,none,none,x0,nw0,c0,ys0,ys0,es0,rfl,I0,len0⟩ (fun i σ H' _ ⟨_,_,_,_,_,_,_,_,_,_,I,_⟩=>SqL.of I.hc) ?_ ?_⟩
   . rintro i v σ H10 hi ⟨v9,v10,v11,x,nw,c,ys,yd,es,rfl,I,hes⟩
     obtain ⟨z,rfl,hz⟩:=int_at hi
     have hi64:i < 64:=by have:=(List.getElem?_eq_some_iff.mp hz).1; rw[List.length_cons] at this; omega
     obtain ⟨k,hk,ek⟩:∃ k:Nat,k < 2/\z % 2=(k:Int):=⟨(z % 2).toNat,by omega,by omega⟩
     refine⟨_,rfl,_,_,rfl,rfl,(by show (0:Int) < 2; decide),?_⟩
     dsimp only
     rw[ek]
     have hek:=hes k hk
     refine⟨_,rfl,_,rfl,lp,_,_,_,rfl,rfl,SqL.of I.hp,at2 pp hk,_,rfl,_,rfl,_,rfl,ln,_,_,_,rfl,rfl,SqL.of I.hn,at2 nw hk,_,rfl,_,rfl,lm,_,_,_,rfl,rfl,SqL.of I.hm,at2 dd hk,_,rfl,pp k,sc,nw k,dd k,b,ss k,x k,mm k,z,n,r,lim,hs,s,c k,ys k,yd k,es k,rfl,S1.same I.sm,I.di k hk,I.nt k hk,C.vs,fmd k k hk hk,by omega,fun nw' x' c' ys' yd' es' H11 s11 J hnw' hle=>?_⟩
     have Ik:=I.di k hk
     have ipk:=Ik.pl.ip
     have imk:∃ ys,H10 (mm k)=some (.lst ys):=⟨_,Ik.pl.hm⟩
     have idk:∃ ys,H10 (dd k)=some (.lst ys):=⟨_,Ik.hmd⟩
     have kl:∀ {a:Addr} {vs:List V},H10 a=some (.lst vs)->a≠mm k->a≠dd k->H11 a=some (.lst vs):=fun {a vs} h h1 h2=>s11 a _ h (fun z=>by obtain ⟨C,dx,fs,hp⟩:=ipk; rw[z,hp] at h; cases h) h1 h2
     have kt:∀ {a:Addr} {vs:List V},H10 a=some (.tup vs)->H11 a=some (.tup vs):=fun {a vs} h=>s11 a _ h (fun z=>by obtain ⟨C,dx,fs,hp⟩:=ipk; rw[z,hp] at h; cases h) (fun z=>by obtain ⟨_,e⟩:=imk; rw[z,e] at h; cases h) (fun z=>by obtain ⟨_,e⟩:=idk; rw[z,e] at h; cases h)
     obtain ⟨⟨q1,q2⟩,⟨q3,q4⟩,⟨q5,q6⟩,q7,q8⟩:=fl k hk
     have hn11:=kl I.hn q7 q8
     refine⟨_,rfl,_,rfl,ln,_,(k:Int),k,rfl,rfl,hn11,?_,?_⟩
     . rcases two_cases hk with rfl | rfl <;> rfl
     rw[set2 nw hk]
     have J0:Two t H1 (upd H11 ln (.lst [V.ref (put nw k nw' 0),V.ref (put nw k nw' 1)])) b lp ln lm lc ((0::cs).map V.int) pp ss mm dd n r lim hs s (put x k x') (put nw k nw') (put c k c') (put ys k ys') (put yd k yd') (put es k es'):=by
       refine⟨fun a' o e=>?_,by rw[upd_ne nnp.1.symm]; exact kl I.hp q1 q2,upd_same,by rw[upd_ne nnp.2.1.symm]; exact kl I.hm q3 q4,by rw[upd_ne nnp.2.2.symm]; exact kl I.hc q5 q6,fun j hj=>?_,fun j hj=>?_⟩
       . rw[upd_ne (ne_of_none e fln1)]
         exact s11 _ _ (I.sm _ _ e) (ne_of_none e (fr k hk).1) (ne_of_none e (fr k hk).2.1) (ne_of_none e (fr k hk).2.2.1)
       . obtain ⟨_,_,_,w7,w8⟩:=fl j hj
         by_cases e:j=k
         . subst e
           rw[put_at,put_at,put_at,put_at,put_at]
           exact J.updL hn11 w7 w8
         . rw[put_ne _ _ e,put_ne _ _ e,put_ne _ _ e,put_ne _ _ e,put_ne _ _ e]
           exact ((I.di j hj).aside s11 ipk imk idk (fpp j k hj hk e) (fr k hk).2.2.2 (fmm j k hj hk e) (Ne.symm (fmd k j hk hj)) (fmd j k hj hk) (fdd j k hj hk e)).updL hn11 w7 w8
       . have key:∀ {a:Addr} {vs:List V},H11 a=some (.tup vs)->(upd H11 ln (.lst [V.ref (put nw k nw' 0),V.ref (put nw k nw' 1)])) a=some (.tup vs):=fun {a vs} h=>by
           rw[upd_ne (fun z=>by rw[z,hn11] at h; cases h)]
           exact h
         by_cases e:j=k
         . subst e
           rw[put_at,put_at]
           exact key hnw'
         . rw[put_ne _ _ e,put_ne _ _ e]
           exact key (kt (I.nt j hj))
     have hes':∀ j,j < 2->(put es k es' j).length<=i+1:=fun j hj=>by
       by_cases e:j=k
       . subst e; rw[put_at]; omega
       . rw[put_ne _ _ e]; have:=hes j hj; omega
     revert J0 hes'
     generalize upd H11 ln (.lst [V.ref (put nw k nw' 0),V.ref (put nw k nw' 1)])=H12
     generalize put x k x'=x
     generalize put nw k nw'=nw
     generalize put c k c'=c
     generalize put ys k ys'=ys
     generalize put yd k yd'=yd
     generalize put es k es'=es
     intro J0 hes'
     refine⟨2,rfl,by decide,by decide,for_range (n:=(2:Int).toNat) (fun j σ H'=>∃ v11,σ=[some (.ref a),some (.ref sc),some (.ref st),some (.ref go),some (.ref lh),some (.ref b),some (.ref lp),some (.ref ln),some (.ref lm),some (.int z),some (.int (k:Int)),v11]/\Two t H1 H' b lp ln lm lc ((0::cs).map V.int) pp ss mm dd n r lim hs s x nw c ys yd es) ⟨v11,rfl,J0⟩ ?_ ?_⟩
     . rintro j σ H13 hj ⟨v11,rfl,I⟩
       have hj2:j < 2:=hj
       have e0:(0:Int)+(j:Int)=(j:Int):=by omega
       rw[e0]
       have hej:=hes' j hj2
       refine⟨_,rfl,_,rfl,lp,_,_,_,rfl,rfl,SqL.of I.hp,at2 pp hj2,_,rfl,_,rfl,_,rfl,_,rfl,ln,_,_,_,rfl,rfl,SqL.of I.hn,at2 nw hj2,_,rfl,_,rfl,lm,_,_,_,rfl,rfl,SqL.of I.hm,at2 dd hj2,pp j,sc,st,nw j,dd j,b,ss j,x j,mm j,n,r,lim,hs,s,c j,ys j,yd j,es j,rfl,S1.same I.sm,I.di j hj2,I.sm _ _ C.hst,I.nt j hj2,C.vs,by omega,fun H14 s14=>⟨_,rfl,iteF ?_⟩⟩
       exact⟨_,rfl,I.same s14⟩
     . rintro σ H13 ⟨v11,rfl,I⟩
       exact⟨_,_,_,x,nw,c,ys,yd,es,rfl,I,hes'⟩
   . rintro σ H10 ⟨v9,v10,v11,x,nw,c,ys,yd,es,rfl,I,hes⟩
     exact q _
end
end Bt
namespace Bt
open PySem L2
theorem ar1 {us:List Value} (h:us.length=1):∃ x0,us=[x0]:=by
 match us,h with
 | [a0],_=>exact⟨a0,rfl⟩
theorem ar2 {us:List Value} (h:us.length=2):∃ x0 x1,us=[x0,x1]:=by
 match us,h with
 | [a0,a1],_=>exact⟨a0,a1,rfl⟩
theorem ar3 {us:List Value} (h:us.length=3):∃ x0 x1 x2,us=[x0,x1,x2]:=by
 match us,h with
 | [a0,a1,a2],_=>exact⟨a0,a1,a2,rfl⟩
theorem ar4 {us:List Value} (h:us.length=4):∃ x0 x1 x2 x3,us=[x0,x1,x2,x3]:=by
 match us,h with
 | [a0,a1,a2,a3],_=>exact⟨a0,a1,a2,a3,rfl⟩
theorem ar5 {us:List Value} (h:us.length=5):∃ x0 x1 x2 x3 x4,us=[x0,x1,x2,x3,x4]:=by
 match us,h with
 | [a0,a1,a2,a3,a4],_=>exact⟨a0,a1,a2,a3,a4,rfl⟩
theorem all_mk {l:PySem.W.OpenLaw} {w:World} {K:PySem.W.Frag} {h:Heap} {mg:Str->Option Value} {fa:Addr} (X:K.In h) (G:h.Ns mainGlobals mg) (hfa:mg "law" = some (.ref fa))
   {oc_Beam_init kV_Beam_init dc_Beam_init pm_Beam_init cd_Beam_init ct_Beam_init:Value} {od_Beam_init an_Beam_init:Option Addr} {sl_Beam_init:Array (Option Value)} {f_Beam_init:Addr}
   {oc_outside kV_outside dc_outside pm_outside cd_outside ct_outside:Value} {od_outside an_outside:Option Addr} {sl_outside:Array (Option Value)} {f_outside:Addr}
   {oc_check_bounds kV_check_bounds dc_check_bounds pm_check_bounds cd_check_bounds ct_check_bounds:Value} {od_check_bounds an_check_bounds:Option Addr} {sl_check_bounds:Array (Option Value)} {f_check_bounds:Addr}
   {oc_check_hefts kV_check_hefts dc_check_hefts pm_check_hefts cd_check_hefts ct_check_hefts:Value} {od_check_hefts an_check_hefts:Option Addr} {sl_check_hefts:Array (Option Value)} {f_check_hefts:Addr}
   {oc_check_standings kV_check_standings dc_check_standings pm_check_standings cd_check_standings ct_check_standings:Value} {od_check_standings an_check_standings:Option Addr} {sl_check_standings:Array (Option Value)} {f_check_standings:Addr}
   {oc_as_standing kV_as_standing dc_as_standing pm_as_standing cd_as_standing ct_as_standing:Value} {od_as_standing an_as_standing:Option Addr} {sl_as_standing:Array (Option Value)} {f_as_standing:Addr}
   {oc_tilt kV_tilt dc_tilt pm_tilt cd_tilt ct_tilt:Value} {od_tilt an_tilt:Option Addr} {sl_tilt:Array (Option Value)} {f_tilt:Addr}
   {oc_past kV_past dc_past pm_past cd_past ct_past:Value} {od_past an_past:Option Addr} {sl_past:Array (Option Value)} {f_past:Addr}
   {oc_keeps kV_keeps dc_keeps pm_keeps cd_keeps ct_keeps:Value} {od_keeps an_keeps:Option Addr} {sl_keeps:Array (Option Value)} {f_keeps:Addr}
   {oc_in_hand kV_in_hand dc_in_hand pm_in_hand cd_in_hand ct_in_hand:Value} {od_in_hand an_in_hand:Option Addr} {sl_in_hand:Array (Option Value)} {f_in_hand:Addr}
   {oc_moved kV_moved dc_moved pm_moved cd_moved ct_moved:Value} {od_moved an_moved:Option Addr} {sl_moved:Array (Option Value)} {f_moved:Addr}
   {oc_turned kV_turned dc_turned pm_turned cd_turned ct_turned:Value} {od_turned an_turned:Option Addr} {sl_turned:Array (Option Value)} {f_turned:Addr}
   {oc_behind kV_behind dc_behind pm_behind cd_behind ct_behind:Value} {od_behind an_behind:Option Addr} {sl_behind:Array (Option Value)} {f_behind:Addr}
   {oc_full kV_full dc_full pm_full cd_full ct_full:Value} {od_full an_full:Option Addr} {sl_full:Array (Option Value)} {f_full:Addr}
   {oc_check_move kV_check_move dc_check_move pm_check_move cd_check_move ct_check_move:Value} {od_check_move an_check_move:Option Addr} {sl_check_move:Array (Option Value)} {f_check_move:Addr}
   {oc_check_weight kV_check_weight dc_check_weight pm_check_weight cd_check_weight ct_check_weight:Value} {od_check_weight an_check_weight:Option Addr} {sl_check_weight:Array (Option Value)} {f_check_weight:Addr}
   {oc_check_put kV_check_put dc_check_put pm_check_put cd_check_put ct_check_put:Value} {od_check_put an_check_put:Option Addr} {sl_check_put:Array (Option Value)} {f_check_put:Addr}
   {oc_check_tilts kV_check_tilts dc_check_tilts pm_check_tilts cd_check_tilts ct_check_tilts:Value} {od_check_tilts an_check_tilts:Option Addr} {sl_check_tilts:Array (Option Value)} {f_check_tilts:Addr}
   {oc_Play_init kV_Play_init dc_Play_init pm_Play_init cd_Play_init ct_Play_init:Value} {od_Play_init an_Play_init:Option Addr} {sl_Play_init:Array (Option Value)} {f_Play_init:Addr}
   {oc_Play_move kV_Play_move dc_Play_move pm_Play_move cd_Play_move ct_Play_move:Value} {od_Play_move an_Play_move:Option Addr} {sl_Play_move:Array (Option Value)} {f_Play_move:Addr}
   {oc_Play_back kV_Play_back dc_Play_back pm_Play_back cd_Play_back ct_Play_back:Value} {od_Play_back an_Play_back:Option Addr} {sl_Play_back:Array (Option Value)} {f_Play_back:Addr}
   {oc_Play_trail kV_Play_trail dc_Play_trail pm_Play_trail cd_Play_trail ct_Play_trail:Value} {od_Play_trail an_Play_trail:Option Addr} {sl_Play_trail:Array (Option Value)} {f_Play_trail:Addr}
   {oc_w_at kV_w_at dc_w_at pm_w_at cd_w_at ct_w_at:Value} {od_w_at an_w_at:Option Addr} {sl_w_at:Array (Option Value)} {f_w_at:Addr}
   {oc_w_whole kV_w_whole dc_w_whole pm_w_whole cd_w_whole ct_w_whole:Value} {od_w_whole an_w_whole:Option Addr} {sl_w_whole:Array (Option Value)} {f_w_whole:Addr}
   {oc_w_figs kV_w_figs dc_w_figs pm_w_figs cd_w_figs ct_w_figs:Value} {od_w_figs an_w_figs:Option Addr} {sl_w_figs:Array (Option Value)} {f_w_figs:Addr}
   {oc_w_shape kV_w_shape dc_w_shape pm_w_shape cd_w_shape ct_w_shape:Value} {od_w_shape an_w_shape:Option Addr} {sl_w_shape:Array (Option Value)} {f_w_shape:Addr}
   {oc_w_put kV_w_put dc_w_put pm_w_put cd_w_put ct_w_put:Value} {od_w_put an_w_put:Option Addr} {sl_w_put:Array (Option Value)} {f_w_put:Addr}
   {oc_w_tilt kV_w_tilt dc_w_tilt pm_w_tilt cd_w_tilt ct_w_tilt:Value} {od_w_tilt an_w_tilt:Option Addr} {sl_w_tilt:Array (Option Value)} {f_w_tilt:Addr}
   {oc_w_limit kV_w_limit dc_w_limit pm_w_limit cd_w_limit ct_w_limit:Value} {od_w_limit an_w_limit:Option Addr} {sl_w_limit:Array (Option Value)} {f_w_limit:Addr}
   {oc_w_hard kV_w_hard dc_w_hard pm_w_hard cd_w_hard ct_w_hard:Value} {od_w_hard an_w_hard:Option Addr} {sl_w_hard:Array (Option Value)} {f_w_hard:Addr}
   {oc_w_case kV_w_case dc_w_case pm_w_case cd_w_case ct_w_case:Value} {od_w_case an_w_case:Option Addr} {sl_w_case:Array (Option Value)} {f_w_case:Addr}
   {oc_w_near kV_w_near dc_w_near pm_w_near cd_w_near ct_w_near:Value} {od_w_near an_w_near:Option Addr} {sl_w_near:Array (Option Value)} {f_w_near:Addr}
   {oc_w_same kV_w_same dc_w_same pm_w_same cd_w_same ct_w_same:Value} {od_w_same an_w_same:Option Addr} {sl_w_same:Array (Option Value)} {f_w_same:Addr}
   {oc_w_same_rows kV_w_same_rows dc_w_same_rows pm_w_same_rows cd_w_same_rows ct_w_same_rows:Value} {od_w_same_rows an_w_same_rows:Option Addr} {sl_w_same_rows:Array (Option Value)} {f_w_same_rows:Addr}
   {oc_w_beam kV_w_beam dc_w_beam pm_w_beam cd_w_beam ct_w_beam:Value} {od_w_beam an_w_beam:Option Addr} {sl_w_beam:Array (Option Value)} {f_w_beam:Addr}
   {oc_w_pick kV_w_pick dc_w_pick pm_w_pick cd_w_pick ct_w_pick:Value} {od_w_pick an_w_pick:Option Addr} {sl_w_pick:Array (Option Value)} {f_w_pick:Addr}
   {oc_w_deed kV_w_deed dc_w_deed pm_w_deed cd_w_deed ct_w_deed:Value} {od_w_deed an_w_deed:Option Addr} {sl_w_deed:Array (Option Value)} {f_w_deed:Addr}
   {oc_w_fits kV_w_fits dc_w_fits pm_w_fits cd_w_fits ct_w_fits:Value} {od_w_fits an_w_fits:Option Addr} {sl_w_fits:Array (Option Value)} {f_w_fits:Addr}
   {oc_law kV_law dc_law pm_law cd_law ct_law:Value} {od_law an_law:Option Addr} {sl_law:Array (Option Value)} {f_law:Addr}
   {C_Beam:Addr}
   {C_Play:Addr}
   {q_MOST_NOTCHES:Tok}
   {q_MOST_ROOM:Tok}
   {q_MOST_LIMIT:Tok}
   {q_MOST_WEIGHTS:Tok}
   {q_MOST_HEFT:Tok}
   {q_MOST_STANDINGS:Tok}
   {q_MOST_MOVES:Tok}
   (a_Beam:PySem.W.nsIn K mainGlobals "Beam" = some (some (.ref C_Beam)))
   (a_Play:PySem.W.nsIn K mainGlobals "Play" = some (some (.ref C_Play)))
   (a_Beam_init:PySem.W.findIn K (.ref C_Beam) "__init__" = some (some (.ref f_Beam_init)))
   (i_Beam_init:PySem.W.isFn K (.ref f_Beam_init)=true)
   (l_Beam_init:K.lookup f_Beam_init=some ⟨oc_Beam_init,od_Beam_init,.func (PySem.W.fnOf "__init__" "Beam.__init__" (defArgs s_Beam_init) (defBody s_Beam_init) (defScope s_Beam_init) .none kV_Beam_init dc_Beam_init pm_Beam_init an_Beam_init cd_Beam_init ct_Beam_init),sl_Beam_init⟩)
   (c_Beam_init:PySem.W.codeIn K cd_Beam_init "Beam.__init__" = true) (k_Beam_init:PySem.W.keepIn K (.ref f_Beam_init)=true)
   (a_outside:PySem.W.nsIn K mainGlobals "outside" = some (some (.ref f_outside)))
   (l_outside:K.lookup f_outside=some ⟨oc_outside,od_outside,.func (PySem.W.fnOf "outside" "outside" (defArgs s_outside) (defBody s_outside) (defScope s_outside) .none kV_outside dc_outside pm_outside an_outside cd_outside ct_outside),sl_outside⟩)
   (c_outside:PySem.W.codeIn K cd_outside "outside" = true) (k_outside:PySem.W.keepIn K (.ref f_outside)=true)
   (a_check_bounds:PySem.W.nsIn K mainGlobals "check_bounds" = some (some (.ref f_check_bounds)))
   (l_check_bounds:K.lookup f_check_bounds=some ⟨oc_check_bounds,od_check_bounds,.func (PySem.W.fnOf "check_bounds" "check_bounds" (defArgs s_check_bounds) (defBody s_check_bounds) (defScope s_check_bounds) .none kV_check_bounds dc_check_bounds pm_check_bounds an_check_bounds cd_check_bounds ct_check_bounds),sl_check_bounds⟩)
   (c_check_bounds:PySem.W.codeIn K cd_check_bounds "check_bounds" = true) (k_check_bounds:PySem.W.keepIn K (.ref f_check_bounds)=true)
   (a_check_hefts:PySem.W.nsIn K mainGlobals "check_hefts" = some (some (.ref f_check_hefts)))
   (l_check_hefts:K.lookup f_check_hefts=some ⟨oc_check_hefts,od_check_hefts,.func (PySem.W.fnOf "check_hefts" "check_hefts" (defArgs s_check_hefts) (defBody s_check_hefts) (defScope s_check_hefts) .none kV_check_hefts dc_check_hefts pm_check_hefts an_check_hefts cd_check_hefts ct_check_hefts),sl_check_hefts⟩)
   (c_check_hefts:PySem.W.codeIn K cd_check_hefts "check_hefts" = true) (k_check_hefts:PySem.W.keepIn K (.ref f_check_hefts)=true)
   (a_check_standings:PySem.W.nsIn K mainGlobals "check_standings" = some (some (.ref f_check_standings)))
   (l_check_standings:K.lookup f_check_standings=some ⟨oc_check_standings,od_check_standings,.func (PySem.W.fnOf "check_standings" "check_standings" (defArgs s_check_standings) (defBody s_check_standings) (defScope s_check_standings) .none kV_check_standings dc_check_standings pm_check_standings an_check_standings cd_check_standings ct_check_standings),sl_check_standings⟩)
   (c_check_standings:PySem.W.codeIn K cd_check_standings "check_standings" = true) (k_check_standings:PySem.W.keepIn K (.ref f_check_standings)=true)
   (a_as_standing:PySem.W.nsIn K mainGlobals "as_standing" = some (some (.ref f_as_standing)))
   (l_as_standing:K.lookup f_as_standing=some ⟨oc_as_standing,od_as_standing,.func (PySem.W.fnOf "as_standing" "as_standing" (defArgs s_as_standing) (defBody s_as_standing) (defScope s_as_standing) .none kV_as_standing dc_as_standing pm_as_standing an_as_standing cd_as_standing ct_as_standing),sl_as_standing⟩)
   (c_as_standing:PySem.W.codeIn K cd_as_standing "as_standing" = true) (k_as_standing:PySem.W.keepIn K (.ref f_as_standing)=true)
   (a_tilt:PySem.W.nsIn K mainGlobals "tilt" = some (some (.ref f_tilt)))
   (l_tilt:K.lookup f_tilt=some ⟨oc_tilt,od_tilt,.func (PySem.W.fnOf "tilt" "tilt" (defArgs s_tilt) (defBody s_tilt) (defScope s_tilt) .none kV_tilt dc_tilt pm_tilt an_tilt cd_tilt ct_tilt),sl_tilt⟩)
   (c_tilt:PySem.W.codeIn K cd_tilt "tilt" = true) (k_tilt:PySem.W.keepIn K (.ref f_tilt)=true)
   (a_past:PySem.W.nsIn K mainGlobals "past" = some (some (.ref f_past)))
   (l_past:K.lookup f_past=some ⟨oc_past,od_past,.func (PySem.W.fnOf "past" "past" (defArgs s_past) (defBody s_past) (defScope s_past) .none kV_past dc_past pm_past an_past cd_past ct_past),sl_past⟩)
   (c_past:PySem.W.codeIn K cd_past "past" = true) (k_past:PySem.W.keepIn K (.ref f_past)=true)
   (a_keeps:PySem.W.nsIn K mainGlobals "keeps" = some (some (.ref f_keeps)))
   (l_keeps:K.lookup f_keeps=some ⟨oc_keeps,od_keeps,.func (PySem.W.fnOf "keeps" "keeps" (defArgs s_keeps) (defBody s_keeps) (defScope s_keeps) .none kV_keeps dc_keeps pm_keeps an_keeps cd_keeps ct_keeps),sl_keeps⟩)
   (c_keeps:PySem.W.codeIn K cd_keeps "keeps" = true) (k_keeps:PySem.W.keepIn K (.ref f_keeps)=true)
   (a_in_hand:PySem.W.nsIn K mainGlobals "in_hand" = some (some (.ref f_in_hand)))
   (l_in_hand:K.lookup f_in_hand=some ⟨oc_in_hand,od_in_hand,.func (PySem.W.fnOf "in_hand" "in_hand" (defArgs s_in_hand) (defBody s_in_hand) (defScope s_in_hand) .none kV_in_hand dc_in_hand pm_in_hand an_in_hand cd_in_hand ct_in_hand),sl_in_hand⟩)
   (c_in_hand:PySem.W.codeIn K cd_in_hand "in_hand" = true) (k_in_hand:PySem.W.keepIn K (.ref f_in_hand)=true)
   (a_moved:PySem.W.nsIn K mainGlobals "moved" = some (some (.ref f_moved)))
   (l_moved:K.lookup f_moved=some ⟨oc_moved,od_moved,.func (PySem.W.fnOf "moved" "moved" (defArgs s_moved) (defBody s_moved) (defScope s_moved) .none kV_moved dc_moved pm_moved an_moved cd_moved ct_moved),sl_moved⟩)
   (c_moved:PySem.W.codeIn K cd_moved "moved" = true) (k_moved:PySem.W.keepIn K (.ref f_moved)=true)
   (a_turned:PySem.W.nsIn K mainGlobals "turned" = some (some (.ref f_turned)))
   (l_turned:K.lookup f_turned=some ⟨oc_turned,od_turned,.func (PySem.W.fnOf "turned" "turned" (defArgs s_turned) (defBody s_turned) (defScope s_turned) .none kV_turned dc_turned pm_turned an_turned cd_turned ct_turned),sl_turned⟩)
   (c_turned:PySem.W.codeIn K cd_turned "turned" = true) (k_turned:PySem.W.keepIn K (.ref f_turned)=true)
   (a_behind:PySem.W.nsIn K mainGlobals "behind" = some (some (.ref f_behind)))
   (l_behind:K.lookup f_behind=some ⟨oc_behind,od_behind,.func (PySem.W.fnOf "behind" "behind" (defArgs s_behind) (defBody s_behind) (defScope s_behind) .none kV_behind dc_behind pm_behind an_behind cd_behind ct_behind),sl_behind⟩)
   (c_behind:PySem.W.codeIn K cd_behind "behind" = true) (k_behind:PySem.W.keepIn K (.ref f_behind)=true)
   (a_full:PySem.W.nsIn K mainGlobals "full" = some (some (.ref f_full)))
   (l_full:K.lookup f_full=some ⟨oc_full,od_full,.func (PySem.W.fnOf "full" "full" (defArgs s_full) (defBody s_full) (defScope s_full) .none kV_full dc_full pm_full an_full cd_full ct_full),sl_full⟩)
   (c_full:PySem.W.codeIn K cd_full "full" = true) (k_full:PySem.W.keepIn K (.ref f_full)=true)
   (a_check_move:PySem.W.nsIn K mainGlobals "check_move" = some (some (.ref f_check_move)))
   (l_check_move:K.lookup f_check_move=some ⟨oc_check_move,od_check_move,.func (PySem.W.fnOf "check_move" "check_move" (defArgs s_check_move) (defBody s_check_move) (defScope s_check_move) .none kV_check_move dc_check_move pm_check_move an_check_move cd_check_move ct_check_move),sl_check_move⟩)
   (c_check_move:PySem.W.codeIn K cd_check_move "check_move" = true) (k_check_move:PySem.W.keepIn K (.ref f_check_move)=true)
   (a_check_weight:PySem.W.nsIn K mainGlobals "check_weight" = some (some (.ref f_check_weight)))
   (l_check_weight:K.lookup f_check_weight=some ⟨oc_check_weight,od_check_weight,.func (PySem.W.fnOf "check_weight" "check_weight" (defArgs s_check_weight) (defBody s_check_weight) (defScope s_check_weight) .none kV_check_weight dc_check_weight pm_check_weight an_check_weight cd_check_weight ct_check_weight),sl_check_weight⟩)
   (c_check_weight:PySem.W.codeIn K cd_check_weight "check_weight" = true) (k_check_weight:PySem.W.keepIn K (.ref f_check_weight)=true)
   (a_check_put:PySem.W.nsIn K mainGlobals "check_put" = some (some (.ref f_check_put)))
   (l_check_put:K.lookup f_check_put=some ⟨oc_check_put,od_check_put,.func (PySem.W.fnOf "check_put" "check_put" (defArgs s_check_put) (defBody s_check_put) (defScope s_check_put) .none kV_check_put dc_check_put pm_check_put an_check_put cd_check_put ct_check_put),sl_check_put⟩)
   (c_check_put:PySem.W.codeIn K cd_check_put "check_put" = true) (k_check_put:PySem.W.keepIn K (.ref f_check_put)=true)
   (a_check_tilts:PySem.W.nsIn K mainGlobals "check_tilts" = some (some (.ref f_check_tilts)))
   (l_check_tilts:K.lookup f_check_tilts=some ⟨oc_check_tilts,od_check_tilts,.func (PySem.W.fnOf "check_tilts" "check_tilts" (defArgs s_check_tilts) (defBody s_check_tilts) (defScope s_check_tilts) .none kV_check_tilts dc_check_tilts pm_check_tilts an_check_tilts cd_check_tilts ct_check_tilts),sl_check_tilts⟩)
   (c_check_tilts:PySem.W.codeIn K cd_check_tilts "check_tilts" = true) (k_check_tilts:PySem.W.keepIn K (.ref f_check_tilts)=true)
   (a_Play_init:PySem.W.findIn K (.ref C_Play) "__init__" = some (some (.ref f_Play_init)))
   (i_Play_init:PySem.W.isFn K (.ref f_Play_init)=true)
   (l_Play_init:K.lookup f_Play_init=some ⟨oc_Play_init,od_Play_init,.func (PySem.W.fnOf "__init__" "Play.__init__" (defArgs s_Play_init) (defBody s_Play_init) (defScope s_Play_init) .none kV_Play_init dc_Play_init pm_Play_init an_Play_init cd_Play_init ct_Play_init),sl_Play_init⟩)
   (c_Play_init:PySem.W.codeIn K cd_Play_init "Play.__init__" = true) (k_Play_init:PySem.W.keepIn K (.ref f_Play_init)=true)
   (a_Play_move:PySem.W.findIn K (.ref C_Play) "move" = some (some (.ref f_Play_move)))
   (i_Play_move:PySem.W.isFn K (.ref f_Play_move)=true)
   (l_Play_move:K.lookup f_Play_move=some ⟨oc_Play_move,od_Play_move,.func (PySem.W.fnOf "move" "Play.move" (defArgs s_Play_move) (defBody s_Play_move) (defScope s_Play_move) .none kV_Play_move dc_Play_move pm_Play_move an_Play_move cd_Play_move ct_Play_move),sl_Play_move⟩)
   (c_Play_move:PySem.W.codeIn K cd_Play_move "Play.move" = true) (k_Play_move:PySem.W.keepIn K (.ref f_Play_move)=true)
   (a_Play_back:PySem.W.findIn K (.ref C_Play) "back" = some (some (.ref f_Play_back)))
   (i_Play_back:PySem.W.isFn K (.ref f_Play_back)=true)
   (l_Play_back:K.lookup f_Play_back=some ⟨oc_Play_back,od_Play_back,.func (PySem.W.fnOf "back" "Play.back" (defArgs s_Play_back) (defBody s_Play_back) (defScope s_Play_back) .none kV_Play_back dc_Play_back pm_Play_back an_Play_back cd_Play_back ct_Play_back),sl_Play_back⟩)
   (c_Play_back:PySem.W.codeIn K cd_Play_back "Play.back" = true) (k_Play_back:PySem.W.keepIn K (.ref f_Play_back)=true)
   (a_Play_trail:PySem.W.findIn K (.ref C_Play) "trail" = some (some (.ref f_Play_trail)))
   (i_Play_trail:PySem.W.isFn K (.ref f_Play_trail)=true)
   (l_Play_trail:K.lookup f_Play_trail=some ⟨oc_Play_trail,od_Play_trail,.func (PySem.W.fnOf "trail" "Play.trail" (defArgs s_Play_trail) (defBody s_Play_trail) (defScope s_Play_trail) .none kV_Play_trail dc_Play_trail pm_Play_trail an_Play_trail cd_Play_trail ct_Play_trail),sl_Play_trail⟩)
   (c_Play_trail:PySem.W.codeIn K cd_Play_trail "Play.trail" = true) (k_Play_trail:PySem.W.keepIn K (.ref f_Play_trail)=true)
   (a_w_at:PySem.W.nsIn K mainGlobals "_law_at" = some (some (.ref f_w_at)))
   (l_w_at:K.lookup f_w_at=some ⟨oc_w_at,od_w_at,.func (PySem.W.fnOf "_law_at" "_law_at" (defArgs s_w_at) (defBody s_w_at) (defScope s_w_at) .none kV_w_at dc_w_at pm_w_at an_w_at cd_w_at ct_w_at),sl_w_at⟩)
   (c_w_at:PySem.W.codeIn K cd_w_at "_law_at" = true) (k_w_at:PySem.W.keepIn K (.ref f_w_at)=true)
   (a_w_whole:PySem.W.nsIn K mainGlobals "_law_whole" = some (some (.ref f_w_whole)))
   (l_w_whole:K.lookup f_w_whole=some ⟨oc_w_whole,od_w_whole,.func (PySem.W.fnOf "_law_whole" "_law_whole" (defArgs s_w_whole) (defBody s_w_whole) (defScope s_w_whole) .none kV_w_whole dc_w_whole pm_w_whole an_w_whole cd_w_whole ct_w_whole),sl_w_whole⟩)
   (c_w_whole:PySem.W.codeIn K cd_w_whole "_law_whole" = true) (k_w_whole:PySem.W.keepIn K (.ref f_w_whole)=true)
   (a_w_figs:PySem.W.nsIn K mainGlobals "_law_figs" = some (some (.ref f_w_figs)))
   (l_w_figs:K.lookup f_w_figs=some ⟨oc_w_figs,od_w_figs,.func (PySem.W.fnOf "_law_figs" "_law_figs" (defArgs s_w_figs) (defBody s_w_figs) (defScope s_w_figs) .none kV_w_figs dc_w_figs pm_w_figs an_w_figs cd_w_figs ct_w_figs),sl_w_figs⟩)
   (c_w_figs:PySem.W.codeIn K cd_w_figs "_law_figs" = true) (k_w_figs:PySem.W.keepIn K (.ref f_w_figs)=true)
   (a_w_shape:PySem.W.nsIn K mainGlobals "_law_shape" = some (some (.ref f_w_shape)))
   (l_w_shape:K.lookup f_w_shape=some ⟨oc_w_shape,od_w_shape,.func (PySem.W.fnOf "_law_shape" "_law_shape" (defArgs s_w_shape) (defBody s_w_shape) (defScope s_w_shape) .none kV_w_shape dc_w_shape pm_w_shape an_w_shape cd_w_shape ct_w_shape),sl_w_shape⟩)
   (c_w_shape:PySem.W.codeIn K cd_w_shape "_law_shape" = true) (k_w_shape:PySem.W.keepIn K (.ref f_w_shape)=true)
   (a_w_put:PySem.W.nsIn K mainGlobals "_law_put" = some (some (.ref f_w_put)))
   (l_w_put:K.lookup f_w_put=some ⟨oc_w_put,od_w_put,.func (PySem.W.fnOf "_law_put" "_law_put" (defArgs s_w_put) (defBody s_w_put) (defScope s_w_put) .none kV_w_put dc_w_put pm_w_put an_w_put cd_w_put ct_w_put),sl_w_put⟩)
   (c_w_put:PySem.W.codeIn K cd_w_put "_law_put" = true) (k_w_put:PySem.W.keepIn K (.ref f_w_put)=true)
   (a_w_tilt:PySem.W.nsIn K mainGlobals "_law_tilt" = some (some (.ref f_w_tilt)))
   (l_w_tilt:K.lookup f_w_tilt=some ⟨oc_w_tilt,od_w_tilt,.func (PySem.W.fnOf "_law_tilt" "_law_tilt" (defArgs s_w_tilt) (defBody s_w_tilt) (defScope s_w_tilt) .none kV_w_tilt dc_w_tilt pm_w_tilt an_w_tilt cd_w_tilt ct_w_tilt),sl_w_tilt⟩)
   (c_w_tilt:PySem.W.codeIn K cd_w_tilt "_law_tilt" = true) (k_w_tilt:PySem.W.keepIn K (.ref f_w_tilt)=true)
   (a_w_limit:PySem.W.nsIn K mainGlobals "_law_limit" = some (some (.ref f_w_limit)))
   (l_w_limit:K.lookup f_w_limit=some ⟨oc_w_limit,od_w_limit,.func (PySem.W.fnOf "_law_limit" "_law_limit" (defArgs s_w_limit) (defBody s_w_limit) (defScope s_w_limit) .none kV_w_limit dc_w_limit pm_w_limit an_w_limit cd_w_limit ct_w_limit),sl_w_limit⟩)
   (c_w_limit:PySem.W.codeIn K cd_w_limit "_law_limit" = true) (k_w_limit:PySem.W.keepIn K (.ref f_w_limit)=true)
   (a_w_hard:PySem.W.nsIn K mainGlobals "_law_hard" = some (some (.ref f_w_hard)))
   (l_w_hard:K.lookup f_w_hard=some ⟨oc_w_hard,od_w_hard,.func (PySem.W.fnOf "_law_hard" "_law_hard" (defArgs s_w_hard) (defBody s_w_hard) (defScope s_w_hard) .none kV_w_hard dc_w_hard pm_w_hard an_w_hard cd_w_hard ct_w_hard),sl_w_hard⟩)
   (c_w_hard:PySem.W.codeIn K cd_w_hard "_law_hard" = true) (k_w_hard:PySem.W.keepIn K (.ref f_w_hard)=true)
   (a_w_case:PySem.W.nsIn K mainGlobals "_law_case" = some (some (.ref f_w_case)))
   (l_w_case:K.lookup f_w_case=some ⟨oc_w_case,od_w_case,.func (PySem.W.fnOf "_law_case" "_law_case" (defArgs s_w_case) (defBody s_w_case) (defScope s_w_case) .none kV_w_case dc_w_case pm_w_case an_w_case cd_w_case ct_w_case),sl_w_case⟩)
   (c_w_case:PySem.W.codeIn K cd_w_case "_law_case" = true) (k_w_case:PySem.W.keepIn K (.ref f_w_case)=true)
   (a_w_near:PySem.W.nsIn K mainGlobals "_law_near" = some (some (.ref f_w_near)))
   (l_w_near:K.lookup f_w_near=some ⟨oc_w_near,od_w_near,.func (PySem.W.fnOf "_law_near" "_law_near" (defArgs s_w_near) (defBody s_w_near) (defScope s_w_near) .none kV_w_near dc_w_near pm_w_near an_w_near cd_w_near ct_w_near),sl_w_near⟩)
   (c_w_near:PySem.W.codeIn K cd_w_near "_law_near" = true) (k_w_near:PySem.W.keepIn K (.ref f_w_near)=true)
   (a_w_same:PySem.W.nsIn K mainGlobals "_law_same" = some (some (.ref f_w_same)))
   (l_w_same:K.lookup f_w_same=some ⟨oc_w_same,od_w_same,.func (PySem.W.fnOf "_law_same" "_law_same" (defArgs s_w_same) (defBody s_w_same) (defScope s_w_same) .none kV_w_same dc_w_same pm_w_same an_w_same cd_w_same ct_w_same),sl_w_same⟩)
   (c_w_same:PySem.W.codeIn K cd_w_same "_law_same" = true) (k_w_same:PySem.W.keepIn K (.ref f_w_same)=true)
   (a_w_same_rows:PySem.W.nsIn K mainGlobals "_law_same_rows" = some (some (.ref f_w_same_rows)))
   (l_w_same_rows:K.lookup f_w_same_rows=some ⟨oc_w_same_rows,od_w_same_rows,.func (PySem.W.fnOf "_law_same_rows" "_law_same_rows" (defArgs s_w_same_rows) (defBody s_w_same_rows) (defScope s_w_same_rows) .none kV_w_same_rows dc_w_same_rows pm_w_same_rows an_w_same_rows cd_w_same_rows ct_w_same_rows),sl_w_same_rows⟩)
   (c_w_same_rows:PySem.W.codeIn K cd_w_same_rows "_law_same_rows" = true) (k_w_same_rows:PySem.W.keepIn K (.ref f_w_same_rows)=true)
   (a_w_beam:PySem.W.nsIn K mainGlobals "_law_beam" = some (some (.ref f_w_beam)))
   (l_w_beam:K.lookup f_w_beam=some ⟨oc_w_beam,od_w_beam,.func (PySem.W.fnOf "_law_beam" "_law_beam" (defArgs s_w_beam) (defBody s_w_beam) (defScope s_w_beam) .none kV_w_beam dc_w_beam pm_w_beam an_w_beam cd_w_beam ct_w_beam),sl_w_beam⟩)
   (c_w_beam:PySem.W.codeIn K cd_w_beam "_law_beam" = true) (k_w_beam:PySem.W.keepIn K (.ref f_w_beam)=true)
   (a_w_pick:PySem.W.nsIn K mainGlobals "_law_pick" = some (some (.ref f_w_pick)))
   (l_w_pick:K.lookup f_w_pick=some ⟨oc_w_pick,od_w_pick,.func (PySem.W.fnOf "_law_pick" "_law_pick" (defArgs s_w_pick) (defBody s_w_pick) (defScope s_w_pick) .none kV_w_pick dc_w_pick pm_w_pick an_w_pick cd_w_pick ct_w_pick),sl_w_pick⟩)
   (c_w_pick:PySem.W.codeIn K cd_w_pick "_law_pick" = true) (k_w_pick:PySem.W.keepIn K (.ref f_w_pick)=true)
   (a_w_deed:PySem.W.nsIn K mainGlobals "_law_deed" = some (some (.ref f_w_deed)))
   (l_w_deed:K.lookup f_w_deed=some ⟨oc_w_deed,od_w_deed,.func (PySem.W.fnOf "_law_deed" "_law_deed" (defArgs s_w_deed) (defBody s_w_deed) (defScope s_w_deed) .none kV_w_deed dc_w_deed pm_w_deed an_w_deed cd_w_deed ct_w_deed),sl_w_deed⟩)
   (c_w_deed:PySem.W.codeIn K cd_w_deed "_law_deed" = true) (k_w_deed:PySem.W.keepIn K (.ref f_w_deed)=true)
   (a_w_fits:PySem.W.nsIn K mainGlobals "_law_fits" = some (some (.ref f_w_fits)))
   (l_w_fits:K.lookup f_w_fits=some ⟨oc_w_fits,od_w_fits,.func (PySem.W.fnOf "_law_fits" "_law_fits" (defArgs s_w_fits) (defBody s_w_fits) (defScope s_w_fits) .none kV_w_fits dc_w_fits pm_w_fits an_w_fits cd_w_fits ct_w_fits),sl_w_fits⟩)
   (c_w_fits:PySem.W.codeIn K cd_w_fits "_law_fits" = true) (k_w_fits:PySem.W.keepIn K (.ref f_w_fits)=true)
   (a_law:PySem.W.nsIn K mainGlobals "law" = some (some (.ref f_law)))
   (l_law:K.lookup f_law=some ⟨oc_law,od_law,.func (PySem.W.fnOf "law" "law" (defArgs s_law) (defBody s_law) (defScope s_law) .none kV_law dc_law pm_law an_law cd_law ct_law),sl_law⟩)
   (c_law:PySem.W.codeIn K cd_law "law" = true) (k_law:PySem.W.keepIn K (.ref f_law)=true)
   (pg_Beam:PySem.W.plainGet K C_Beam Str.empty=true) (hd_Beam:PySem.W.hasDictIn K C_Beam=true) (po_Beam:PySem.W.plainOver K C_Beam=true) (sa_Beam:PySem.W.findIn K (.ref C_Beam) "__setattr__" = some (some (.builtin "object.__setattr__"))) (mk_Beam:PySem.W.makesIn K C_Beam=true) (kc_Beam:PySem.W.keepIn K (.ref C_Beam)=true)
   (na_Beam_notches:PySem.W.findIn K (.ref C_Beam) "notches" = some none)
   (na_Beam_room:PySem.W.findIn K (.ref C_Beam) "room" = some none)
   (na_Beam_hefts:PySem.W.findIn K (.ref C_Beam) "hefts" = some none)
   (na_Beam_limit:PySem.W.findIn K (.ref C_Beam) "limit" = some none)
   (pg_Play:PySem.W.plainGet K C_Play Str.empty=true) (hd_Play:PySem.W.hasDictIn K C_Play=true) (po_Play:PySem.W.plainOver K C_Play=true) (sa_Play:PySem.W.findIn K (.ref C_Play) "__setattr__" = some (some (.builtin "object.__setattr__"))) (mk_Play:PySem.W.makesIn K C_Play=true) (kc_Play:PySem.W.keepIn K (.ref C_Play)=true)
   (na_Play_beam:PySem.W.findIn K (.ref C_Play) "beam" = some none)
   (na_Play_start:PySem.W.findIn K (.ref C_Play) "start" = some none)
   (na_Play_standing:PySem.W.findIn K (.ref C_Play) "standing" = some none)
   (na_Play_made:PySem.W.findIn K (.ref C_Play) "made" = some none)
   (n_tuple:PySem.W.nsIn K mainGlobals "tuple" = some none)
   (n_len:PySem.W.nsIn K mainGlobals "len" = some none)
   (n_range:PySem.W.nsIn K mainGlobals "range" = some none)
   (n_sum:PySem.W.nsIn K mainGlobals "sum" = some none)
   (n_zip:PySem.W.nsIn K mainGlobals "zip" = some none)
   (n_abs:PySem.W.nsIn K mainGlobals "abs" = some none)
   (n_list:PySem.W.nsIn K mainGlobals "list" = some none)
   (n_isinstance:PySem.W.nsIn K mainGlobals "isinstance" = some none)
   (n_int:PySem.W.nsIn K mainGlobals "int" = some none)
   (n_bool:PySem.W.nsIn K mainGlobals "bool" = some none)
   (n_min:PySem.W.nsIn K mainGlobals "min" = some none)
   (n_max:PySem.W.nsIn K mainGlobals "max" = some none)
   (g_MOST_NOTCHES:PySem.W.nsIn K mainGlobals "MOST_NOTCHES" = some (some (.int 4 q_MOST_NOTCHES)))
   (g_MOST_ROOM:PySem.W.nsIn K mainGlobals "MOST_ROOM" = some (some (.int 3 q_MOST_ROOM)))
   (g_MOST_LIMIT:PySem.W.nsIn K mainGlobals "MOST_LIMIT" = some (some (.int 400 q_MOST_LIMIT)))
   (g_MOST_WEIGHTS:PySem.W.nsIn K mainGlobals "MOST_WEIGHTS" = some (some (.int 5 q_MOST_WEIGHTS)))
   (g_MOST_HEFT:PySem.W.nsIn K mainGlobals "MOST_HEFT" = some (some (.int 20 q_MOST_HEFT)))
   (g_MOST_STANDINGS:PySem.W.nsIn K mainGlobals "MOST_STANDINGS" = some (some (.int 1000 q_MOST_STANDINGS)))
   (g_MOST_MOVES:PySem.W.nsIn K mainGlobals "MOST_MOVES" = some (some (.int 300 q_MOST_MOVES))) :
   ∃ fd:FuncData,(∀ (s:Shared) (v:Value),BindsTo s fd ⟨[v],[]⟩ [("_law_script",v)])/\∀ base:Heap,K.In base->base.Ns mainGlobals mg->FnOk l.prog w K mg base CX0 9 fa fd ["_law_script"] (spLaw K):=by
 have e:=hfa.symm.trans (PySem.W.mg_of X G a_law)
 cases e
 have F_Beam_init:=fun_mk (st:=s_Beam_init) l_Beam_init c_Beam_init k_Beam_init
 have b_Beam_init:=F_Beam_init.binds (ps:=["self","notches","room","hefts","limit"]) fun _ _ _ _ _ _ us hl=>by obtain ⟨x0,x1,x2,x3,x4,rfl⟩:=ar5 hl; rfl
 have F_outside:=fun_mk (st:=s_outside) l_outside c_outside k_outside
 have b_outside:=F_outside.binds (ps:=["number","low","high"]) fun _ _ _ _ _ _ us hl=>by obtain ⟨x0,x1,x2,rfl⟩:=ar3 hl; rfl
 have F_check_bounds:=fun_mk (st:=s_check_bounds) l_check_bounds c_check_bounds k_check_bounds
 have b_check_bounds:=F_check_bounds.binds (ps:=["notches","room","limit"]) fun _ _ _ _ _ _ us hl=>by obtain ⟨x0,x1,x2,rfl⟩:=ar3 hl; rfl
 have F_check_hefts:=fun_mk (st:=s_check_hefts) l_check_hefts c_check_hefts k_check_hefts
 have b_check_hefts:=F_check_hefts.binds (ps:=["hefts"]) fun _ _ _ _ _ _ us hl=>by obtain ⟨x0,rfl⟩:=ar1 hl; rfl
 have F_check_standings:=fun_mk (st:=s_check_standings) l_check_standings c_check_standings k_check_standings
 have b_check_standings:=F_check_standings.binds (ps:=["notches","weights"]) fun _ _ _ _ _ _ us hl=>by obtain ⟨x0,x1,rfl⟩:=ar2 hl; rfl
 have F_as_standing:=fun_mk (st:=s_as_standing) l_as_standing c_as_standing k_as_standing
 have b_as_standing:=F_as_standing.binds (ps:=["beam","standing"]) fun _ _ _ _ _ _ us hl=>by obtain ⟨x0,x1,rfl⟩:=ar2 hl; rfl
 have F_tilt:=fun_mk (st:=s_tilt) l_tilt c_tilt k_tilt
 have b_tilt:=F_tilt.binds (ps:=["beam","standing"]) fun _ _ _ _ _ _ us hl=>by obtain ⟨x0,x1,rfl⟩:=ar2 hl; rfl
 have F_past:=fun_mk (st:=s_past) l_past c_past k_past
 have b_past:=F_past.binds (ps:=["beam","tipped"]) fun _ _ _ _ _ _ us hl=>by obtain ⟨x0,x1,rfl⟩:=ar2 hl; rfl
 have F_keeps:=fun_mk (st:=s_keeps) l_keeps c_keeps k_keeps
 have b_keeps:=F_keeps.binds (ps:=["beam","standing"]) fun _ _ _ _ _ _ us hl=>by obtain ⟨x0,x1,rfl⟩:=ar2 hl; rfl
 have F_in_hand:=fun_mk (st:=s_in_hand) l_in_hand c_in_hand k_in_hand
 have b_in_hand:=F_in_hand.binds (ps:=["beam","standing","weight"]) fun _ _ _ _ _ _ us hl=>by obtain ⟨x0,x1,x2,rfl⟩:=ar3 hl; rfl
 have F_moved:=fun_mk (st:=s_moved) l_moved c_moved k_moved
 have b_moved:=F_moved.binds (ps:=["beam","standing","move"]) fun _ _ _ _ _ _ us hl=>by obtain ⟨x0,x1,x2,rfl⟩:=ar3 hl; rfl
 have F_turned:=fun_mk (st:=s_turned) l_turned c_turned k_turned
 have b_turned:=F_turned.binds (ps:=["move"]) fun _ _ _ _ _ _ us hl=>by obtain ⟨x0,rfl⟩:=ar1 hl; rfl
 have F_behind:=fun_mk (st:=s_behind) l_behind c_behind k_behind
 have b_behind:=F_behind.binds (ps:=["places","move"]) fun _ _ _ _ _ _ us hl=>by obtain ⟨x0,x1,rfl⟩:=ar2 hl; rfl
 have F_full:=fun_mk (st:=s_full) l_full c_full k_full
 have b_full:=F_full.binds (ps:=["beam","places","place"]) fun _ _ _ _ _ _ us hl=>by obtain ⟨x0,x1,x2,rfl⟩:=ar3 hl; rfl
 have F_check_move:=fun_mk (st:=s_check_move) l_check_move c_check_move k_check_move
 have b_check_move:=F_check_move.binds (ps:=["beam","places","weight","taken","put"]) fun _ _ _ _ _ _ us hl=>by obtain ⟨x0,x1,x2,x3,x4,rfl⟩:=ar5 hl; rfl
 have F_check_weight:=fun_mk (st:=s_check_weight) l_check_weight c_check_weight k_check_weight
 have b_check_weight:=F_check_weight.binds (ps:=["places","weight","taken"]) fun _ _ _ _ _ _ us hl=>by obtain ⟨x0,x1,x2,rfl⟩:=ar3 hl; rfl
 have F_check_put:=fun_mk (st:=s_check_put) l_check_put c_check_put k_check_put
 have b_check_put:=F_check_put.binds (ps:=["beam","places","taken","put"]) fun _ _ _ _ _ _ us hl=>by obtain ⟨x0,x1,x2,x3,rfl⟩:=ar4 hl; rfl
 have F_check_tilts:=fun_mk (st:=s_check_tilts) l_check_tilts c_check_tilts k_check_tilts
 have b_check_tilts:=F_check_tilts.binds (ps:=["beam","held","added"]) fun _ _ _ _ _ _ us hl=>by obtain ⟨x0,x1,x2,rfl⟩:=ar3 hl; rfl
 have F_Play_init:=fun_mk (st:=s_Play_init) l_Play_init c_Play_init k_Play_init
 have b_Play_init:=F_Play_init.binds (ps:=["self","beam","start"]) fun _ _ _ _ _ _ us hl=>by obtain ⟨x0,x1,x2,rfl⟩:=ar3 hl; rfl
 have F_Play_move:=fun_mk (st:=s_Play_move) l_Play_move c_Play_move k_Play_move
 have b_Play_move:=F_Play_move.binds (ps:=["self","move"]) fun _ _ _ _ _ _ us hl=>by obtain ⟨x0,x1,rfl⟩:=ar2 hl; rfl
 have F_Play_back:=fun_mk (st:=s_Play_back) l_Play_back c_Play_back k_Play_back
 have b_Play_back:=F_Play_back.binds (ps:=["self"]) fun _ _ _ _ _ _ us hl=>by obtain ⟨x0,rfl⟩:=ar1 hl; rfl
 have F_Play_trail:=fun_mk (st:=s_Play_trail) l_Play_trail c_Play_trail k_Play_trail
 have b_Play_trail:=F_Play_trail.binds (ps:=["self"]) fun _ _ _ _ _ _ us hl=>by obtain ⟨x0,rfl⟩:=ar1 hl; rfl
 have F_w_at:=fun_mk (st:=s_w_at) l_w_at c_w_at k_w_at
 have b_w_at:=F_w_at.binds (ps:=["_law_script","_law_k"]) fun _ _ _ _ _ _ us hl=>by obtain ⟨x0,x1,rfl⟩:=ar2 hl; rfl
 have F_w_whole:=fun_mk (st:=s_w_whole) l_w_whole c_w_whole k_w_whole
 have b_w_whole:=F_w_whole.binds (ps:=["_law_found"]) fun _ _ _ _ _ _ us hl=>by obtain ⟨x0,rfl⟩:=ar1 hl; rfl
 have F_w_figs:=fun_mk (st:=s_w_figs) l_w_figs c_w_figs k_w_figs
 have b_w_figs:=F_w_figs.binds (ps:=["_law_cell","_law_count","_law_base","_law_mix"]) fun _ _ _ _ _ _ us hl=>by obtain ⟨x0,x1,x2,x3,rfl⟩:=ar4 hl; rfl
 have F_w_shape:=fun_mk (st:=s_w_shape) l_w_shape c_w_shape k_w_shape
 have b_w_shape:=F_w_shape.binds (ps:=["_law_script"]) fun _ _ _ _ _ _ us hl=>by obtain ⟨x0,rfl⟩:=ar1 hl; rfl
 have F_w_put:=fun_mk (st:=s_w_put) l_w_put c_w_put k_w_put
 have b_w_put:=F_w_put.binds (ps:=["_law_script","_law_k","_law_more","_law_shape_here"]) fun _ _ _ _ _ _ us hl=>by obtain ⟨x0,x1,x2,x3,rfl⟩:=ar4 hl; rfl
 have F_w_tilt:=fun_mk (st:=s_w_tilt) l_w_tilt c_w_tilt k_w_tilt
 have b_w_tilt:=F_w_tilt.binds (ps:=["_law_hefts","_law_spots"]) fun _ _ _ _ _ _ us hl=>by obtain ⟨x0,x1,rfl⟩:=ar2 hl; rfl
 have F_w_limit:=fun_mk (st:=s_w_limit) l_w_limit c_w_limit k_w_limit
 have b_w_limit:=F_w_limit.binds (ps:=["_law_script","_law_low"]) fun _ _ _ _ _ _ us hl=>by obtain ⟨x0,x1,rfl⟩:=ar2 hl; rfl
 have F_w_hard:=fun_mk (st:=s_w_hard) l_w_hard c_w_hard k_w_hard
 have b_w_hard:=F_w_hard.binds (ps:=["_law_cell"]) fun _ _ _ _ _ _ us hl=>by obtain ⟨x0,rfl⟩:=ar1 hl; rfl
 have F_w_case:=fun_mk (st:=s_w_case) l_w_case c_w_case k_w_case
 have b_w_case:=F_w_case.binds (ps:=["_law_script"]) fun _ _ _ _ _ _ us hl=>by obtain ⟨x0,rfl⟩:=ar1 hl; rfl
 have F_w_near:=fun_mk (st:=s_w_near) l_w_near c_w_near k_w_near
 have b_w_near:=F_w_near.binds (ps:=["_law_scale","_law_spots"]) fun _ _ _ _ _ _ us hl=>by obtain ⟨x0,x1,rfl⟩:=ar2 hl; rfl
 have F_w_same:=fun_mk (st:=s_w_same) l_w_same c_w_same k_w_same
 have b_w_same:=F_w_same.binds (ps:=["_law_found","_law_due"]) fun _ _ _ _ _ _ us hl=>by obtain ⟨x0,x1,rfl⟩:=ar2 hl; rfl
 have F_w_same_rows:=fun_mk (st:=s_w_same_rows) l_w_same_rows c_w_same_rows k_w_same_rows
 have b_w_same_rows:=F_w_same_rows.binds (ps:=["_law_found","_law_due"]) fun _ _ _ _ _ _ us hl=>by obtain ⟨x0,x1,rfl⟩:=ar2 hl; rfl
 have F_w_beam:=fun_mk (st:=s_w_beam) l_w_beam c_w_beam k_w_beam
 have b_w_beam:=F_w_beam.binds (ps:=["_law_scale"]) fun _ _ _ _ _ _ us hl=>by obtain ⟨x0,rfl⟩:=ar1 hl; rfl
 have F_w_pick:=fun_mk (st:=s_w_pick) l_w_pick c_w_pick k_w_pick
 have b_w_pick:=F_w_pick.binds (ps:=["_law_scale","_law_spots","_law_cell"]) fun _ _ _ _ _ _ us hl=>by obtain ⟨x0,x1,x2,rfl⟩:=ar3 hl; rfl
 have F_w_deed:=fun_mk (st:=s_w_deed) l_w_deed c_w_deed k_w_deed
 have b_w_deed:=F_w_deed.binds (ps:=["_law_play","_law_scale","_law_now","_law_made","_law_cell"]) fun _ _ _ _ _ _ us hl=>by obtain ⟨x0,x1,x2,x3,x4,rfl⟩:=ar5 hl; rfl
 have F_w_fits:=fun_mk (st:=s_w_fits) l_w_fits c_w_fits k_w_fits
 have b_w_fits:=F_w_fits.binds (ps:=["_law_play","_law_scale","_law_first","_law_now","_law_made"]) fun _ _ _ _ _ _ us hl=>by obtain ⟨x0,x1,x2,x3,x4,rfl⟩:=ar5 hl; rfl
 have F_law:=fun_mk (st:=s_law) l_law c_law k_law
 have b_law:=F_law.binds (ps:=["_law_script"]) fun _ _ _ _ _ _ us hl=>by obtain ⟨x0,rfl⟩:=ar1 hl; rfl
 have T:Txt K mg { a_Beam_init:=f_Beam_init,d_Beam_init:=_,a_outside:=f_outside,d_outside:=_,a_check_bounds:=f_check_bounds,d_check_bounds:=_,a_check_hefts:=f_check_hefts,d_check_hefts:=_,a_check_standings:=f_check_standings,d_check_standings:=_,a_as_standing:=f_as_standing,d_as_standing:=_,a_tilt:=f_tilt,d_tilt:=_,a_past:=f_past,d_past:=_,a_keeps:=f_keeps,d_keeps:=_,a_in_hand:=f_in_hand,d_in_hand:=_,a_moved:=f_moved,d_moved:=_,a_turned:=f_turned,d_turned:=_,a_behind:=f_behind,d_behind:=_,a_full:=f_full,d_full:=_,a_check_move:=f_check_move,d_check_move:=_,a_check_weight:=f_check_weight,d_check_weight:=_,a_check_put:=f_check_put,d_check_put:=_,a_check_tilts:=f_check_tilts,d_check_tilts:=_,a_Play_init:=f_Play_init,d_Play_init:=_,a_Play_move:=f_Play_move,d_Play_move:=_,a_Play_back:=f_Play_back,d_Play_back:=_,a_Play_trail:=f_Play_trail,d_Play_trail:=_,a_w_at:=f_w_at,d_w_at:=_,a_w_whole:=f_w_whole,d_w_whole:=_,a_w_figs:=f_w_figs,d_w_figs:=_,a_w_shape:=f_w_shape,d_w_shape:=_,a_w_put:=f_w_put,d_w_put:=_,a_w_tilt:=f_w_tilt,d_w_tilt:=_,a_w_limit:=f_w_limit,d_w_limit:=_,a_w_hard:=f_w_hard,d_w_hard:=_,a_w_case:=f_w_case,d_w_case:=_,a_w_near:=f_w_near,d_w_near:=_,a_w_same:=f_w_same,d_w_same:=_,a_w_same_rows:=f_w_same_rows,d_w_same_rows:=_,a_w_beam:=f_w_beam,d_w_beam:=_,a_w_pick:=f_w_pick,d_w_pick:=_,a_w_deed:=f_w_deed,d_w_deed:=_,a_w_fits:=f_w_fits,d_w_fits:=_,a_law:=fa,d_law:=_,c_Beam:=C_Beam,c_Play:=C_Play,q_MOST_NOTCHES:=q_MOST_NOTCHES,q_MOST_ROOM:=q_MOST_ROOM,q_MOST_LIMIT:=q_MOST_LIMIT,q_MOST_WEIGHTS:=q_MOST_WEIGHTS,q_MOST_HEFT:=q_MOST_HEFT,q_MOST_STANDINGS:=q_MOST_STANDINGS,q_MOST_MOVES:=q_MOST_MOVES }:={ F_Beam_init:=F_Beam_init,b_Beam_init:=b_Beam_init,k_Beam_init:=k_Beam_init,F_outside:=F_outside,b_outside:=b_outside,m_outside:=PySem.W.mg_of X G a_outside,k_outside:=k_outside,F_check_bounds:=F_check_bounds,b_check_bounds:=b_check_bounds,m_check_bounds:=PySem.W.mg_of X G a_check_bounds,k_check_bounds:=k_check_bounds,F_check_hefts:=F_check_hefts,b_check_hefts:=b_check_hefts,m_check_hefts:=PySem.W.mg_of X G a_check_hefts,k_check_hefts:=k_check_hefts,F_check_standings:=F_check_standings,b_check_standings:=b_check_standings,m_check_standings:=PySem.W.mg_of X G a_check_standings,k_check_standings:=k_check_standings,F_as_standing:=F_as_standing,b_as_standing:=b_as_standing,m_as_standing:=PySem.W.mg_of X G a_as_standing,k_as_standing:=k_as_standing,F_tilt:=F_tilt,b_tilt:=b_tilt,m_tilt:=PySem.W.mg_of X G a_tilt,k_tilt:=k_tilt,F_past:=F_past,b_past:=b_past,m_past:=PySem.W.mg_of X G a_past,k_past:=k_past,F_keeps:=F_keeps,b_keeps:=b_keeps,m_keeps:=PySem.W.mg_of X G a_keeps,k_keeps:=k_keeps,F_in_hand:=F_in_hand,b_in_hand:=b_in_hand,m_in_hand:=PySem.W.mg_of X G a_in_hand,k_in_hand:=k_in_hand,F_moved:=F_moved,b_moved:=b_moved,m_moved:=PySem.W.mg_of X G a_moved,k_moved:=k_moved,F_turned:=F_turned,b_turned:=b_turned,m_turned:=PySem.W.mg_of X G a_turned,k_turned:=k_turned,F_behind:=F_behind,b_behind:=b_behind,m_behind:=PySem.W.mg_of X G a_behind,k_behind:=k_behind,F_full:=F_full,b_full:=b_full,m_full:=PySem.W.mg_of X G a_full,k_full:=k_full,F_check_move:=F_check_move,b_check_move:=b_check_move,m_check_move:=PySem.W.mg_of X G a_check_move,k_check_move:=k_check_move,F_check_weight:=F_check_weight,b_check_weight:=b_check_weight,m_check_weight:=PySem.W.mg_of X G a_check_weight,k_check_weight:=k_check_weight,F_check_put:=F_check_put,b_check_put:=b_check_put,m_check_put:=PySem.W.mg_of X G a_check_put,k_check_put:=k_check_put,F_check_tilts:=F_check_tilts,b_check_tilts:=b_check_tilts,m_check_tilts:=PySem.W.mg_of X G a_check_tilts,k_check_tilts:=k_check_tilts,F_Play_init:=F_Play_init,b_Play_init:=b_Play_init,k_Play_init:=k_Play_init,F_Play_move:=F_Play_move,b_Play_move:=b_Play_move,k_Play_move:=k_Play_move,F_Play_back:=F_Play_back,b_Play_back:=b_Play_back,k_Play_back:=k_Play_back,F_Play_trail:=F_Play_trail,b_Play_trail:=b_Play_trail,k_Play_trail:=k_Play_trail,F_w_at:=F_w_at,b_w_at:=b_w_at,m_w_at:=PySem.W.mg_of X G a_w_at,k_w_at:=k_w_at,F_w_whole:=F_w_whole,b_w_whole:=b_w_whole,m_w_whole:=PySem.W.mg_of X G a_w_whole,k_w_whole:=k_w_whole,F_w_figs:=F_w_figs,b_w_figs:=b_w_figs,m_w_figs:=PySem.W.mg_of X G a_w_figs,k_w_figs:=k_w_figs,F_w_shape:=F_w_shape,b_w_shape:=b_w_shape,m_w_shape:=PySem.W.mg_of X G a_w_shape,k_w_shape:=k_w_shape,F_w_put:=F_w_put,b_w_put:=b_w_put,m_w_put:=PySem.W.mg_of X G a_w_put,k_w_put:=k_w_put,F_w_tilt:=F_w_tilt,b_w_tilt:=b_w_tilt,m_w_tilt:=PySem.W.mg_of X G a_w_tilt,k_w_tilt:=k_w_tilt,F_w_limit:=F_w_limit,b_w_limit:=b_w_limit,m_w_limit:=PySem.W.mg_of X G a_w_limit,k_w_limit:=k_w_limit,F_w_hard:=F_w_hard,b_w_hard:=b_w_hard,m_w_hard:=PySem.W.mg_of X G a_w_hard,k_w_hard:=k_w_hard,F_w_case:=F_w_case,b_w_case:=b_w_case,m_w_case:=PySem.W.mg_of X G a_w_case,k_w_case:=k_w_case,F_w_near:=F_w_near,b_w_near:=b_w_near,m_w_near:=PySem.W.mg_of X G a_w_near,k_w_near:=k_w_near,F_w_same:=F_w_same,b_w_same:=b_w_same,m_w_same:=PySem.W.mg_of X G a_w_same,k_w_same:=k_w_same,F_w_same_rows:=F_w_same_rows,b_w_same_rows:=b_w_same_rows,m_w_same_rows:=PySem.W.mg_of X G a_w_same_rows,k_w_same_rows:=k_w_same_rows,F_w_beam:=F_w_beam,b_w_beam:=b_w_beam,m_w_beam:=PySem.W.mg_of X G a_w_beam,k_w_beam:=k_w_beam,F_w_pick:=F_w_pick,b_w_pick:=b_w_pick,m_w_pick:=PySem.W.mg_of X G a_w_pick,k_w_pick:=k_w_pick,F_w_deed:=F_w_deed,b_w_deed:=b_w_deed,m_w_deed:=PySem.W.mg_of X G a_w_deed,k_w_deed:=k_w_deed,F_w_fits:=F_w_fits,b_w_fits:=b_w_fits,m_w_fits:=PySem.W.mg_of X G a_w_fits,k_w_fits:=k_w_fits,F_law:=F_law,b_law:=b_law,m_law:=PySem.W.mg_of X G a_law,k_law:=k_law,cl_Beam:=⟨pg_Beam,hd_Beam,po_Beam,sa_Beam⟩,m_Beam:=PySem.W.mg_of X G a_Beam,mk_Beam:=⟨mk_Beam,a_Beam_init,i_Beam_init,kc_Beam⟩,na_Beam_notches:=na_Beam_notches,na_Beam_room:=na_Beam_room,na_Beam_hefts:=na_Beam_hefts,na_Beam_limit:=na_Beam_limit,cl_Play:=⟨pg_Play,hd_Play,po_Play,sa_Play⟩,m_Play:=PySem.W.mg_of X G a_Play,mk_Play:=⟨mk_Play,a_Play_init,i_Play_init,kc_Play⟩,na_Play_beam:=na_Play_beam,na_Play_start:=na_Play_start,na_Play_standing:=na_Play_standing,na_Play_made:=na_Play_made,me_Play_move:=⟨a_Play_move,i_Play_move,k_Play_move⟩,me_Play_back:=⟨a_Play_back,i_Play_back,k_Play_back⟩,me_Play_trail:=⟨a_Play_trail,i_Play_trail,k_Play_trail⟩,n_tuple:=PySem.W.mg_none_of X G n_tuple,n_len:=PySem.W.mg_none_of X G n_len,n_range:=PySem.W.mg_none_of X G n_range,n_sum:=PySem.W.mg_none_of X G n_sum,n_zip:=PySem.W.mg_none_of X G n_zip,n_abs:=PySem.W.mg_none_of X G n_abs,n_list:=PySem.W.mg_none_of X G n_list,n_isinstance:=PySem.W.mg_none_of X G n_isinstance,n_int:=PySem.W.mg_none_of X G n_int,n_bool:=PySem.W.mg_none_of X G n_bool,n_min:=PySem.W.mg_none_of X G n_min,n_max:=PySem.W.mg_none_of X G n_max,g_MOST_NOTCHES:=PySem.W.mg_of X G g_MOST_NOTCHES,g_MOST_ROOM:=PySem.W.mg_of X G g_MOST_ROOM,g_MOST_LIMIT:=PySem.W.mg_of X G g_MOST_LIMIT,g_MOST_WEIGHTS:=PySem.W.mg_of X G g_MOST_WEIGHTS,g_MOST_HEFT:=PySem.W.mg_of X G g_MOST_HEFT,g_MOST_STANDINGS:=PySem.W.mg_of X G g_MOST_STANDINGS,g_MOST_MOVES:=PySem.W.mg_of X G g_MOST_MOVES }
 exact⟨_,fun s v=>.of_eq rfl,fun base _ _=>ok_law T⟩
theorem walk {l:PySem.W.OpenLaw} {q:Program} {loose:List Str} {XP:(Str->Option Value)->Heap->Prop} {YP:World->Heap->Prop} {d:DefRec} {K:Params->PySem.W.Frag} (hn:l.most=some 63) (hdf:d.params.defaults=[])
   (hY:∀ (w:World) (h:Heap),YP w h->(K w.params).In h)
   (F:∀ (w:World) (mg:Str->Option Value) (fa:Addr) (h:Heap),(K w.params).In h->h.Ns mainGlobals mg->mg d.name=some (.ref fa) →
     ∃ fd:FuncData,(∀ (s:Shared) (u:Value),BindsTo s fd ⟨[u],[]⟩ [("_law_script",u)])/\∀ base:Heap,(K w.params).In base->base.Ns mainGlobals mg->FnOk l.prog w (K w.params) mg base CX0 9 fa fd ["_law_script"] (spLaw (K w.params))) :
   PySem.W.WalkO q loose XP YP l.row.toRowW d [] (fun f vs=>PySem.call f vs) :=
 L2.walk_of (n:=63) (k:=9) (x:="_law_script") (CX:=fun _=>CX0) (sp:=fun w=>spLaw (K w.params)) hn (by decide) hdf ⟨rfl,by decide,by decide⟩ hY F (fun _ _ a ns hl _ hS=>⟨a,ns,rfl,hS,hl,fun _=>rfl⟩) fun _ _ _ _ _ z=>z
theorem walkZ {l:PySem.W.OpenLaw} {q:Program} {loose:List Str} {XP:(Str->Option Value)->Heap->Prop} {d:DefRec} {K:Params->PySem.W.Frag} (hn:l.most=some 63) (hdf:d.params.defaults=[])
 (F:∀ (w:World) (mg:Str->Option Value) (fa:Addr) (h:Heap),(K w.params).In h->h.Ns mainGlobals mg->mg d.name=some (.ref fa) →
   ∃ fd:FuncData,(∀ (s:Shared) (u:Value),BindsTo s fd ⟨[u],[]⟩ [("_law_script",u)])/\∀ base:Heap,(K w.params).In base->base.Ns mainGlobals mg->FnOk l.prog w (K w.params) mg base CX0 9 fa fd ["_law_script"] (spLaw (K w.params))) :
 PySem.W.WalkO q loose XP (fun w h=>(K w.params).In h) l.row.toRowW d [] (fun f vs=>PySem.call f vs):=walk hn hdf (fun _ _ Y=>Y) F
end Bt
def PySem.W.Fast.tw5439385475079991159:Unit:=()
def PySem.W.Fast.tw3556858740213925235:Unit:=()
def PySem.W.Fast.tw2227441745855038039:Unit:=()
def PySem.W.Fast.tw3219497428974076249:Unit:=()
def PySem.W.Fast.tw16620824967422522107:Unit:=()
def PySem.W.Fast.tw15462427275633593157:Unit:=()
def PySem.W.Fast.tw12619385794195096709:Unit:=()
def PySem.W.Fast.tw864622583242024136:Unit:=()
def PySem.W.Fast.tw7481411118625683762:Unit:=()
def PySem.W.Fast.tw11771984581187286237:Unit:=()
def PySem.W.Fast.tw16577178941061698637:Unit:=()
def PySem.W.Fast.tw3917660832009955539:Unit:=()
def PySem.W.Fast.tw18176704302314387896:Unit:=()
def PySem.W.Fast.tw10357334315166039643:Unit:=()
def PySem.W.Fast.tw2270329196426441108:Unit:=()
def PySem.W.Fast.tw11413105178063201805:Unit:=()
def PySem.W.Fast.tw13395523637363082308:Unit:=()
def PySem.W.Fast.tw6600934444307770814:Unit:=()
def PySem.W.Fast.tw5971512349588500212:Unit:=()
def PySem.W.Fast.tw10741652730936122076:Unit:=()
def PySem.W.Fast.tw10436370498190309853:Unit:=()
def PySem.W.Fast.tw15687499347858714655:Unit:=()
def PySem.W.Fast.tw5200129139989658606:Unit:=()
def PySem.W.Fast.tw10695158438389470590:Unit:=()
def PySem.W.Fast.tw150474823153229495:Unit:=()
def PySem.W.Fast.tw4749189364918258453:Unit:=()
def PySem.W.Fast.tw3319670362991291997:Unit:=()
def PySem.W.Fast.tw10524168892956078328:Unit:=()
def PySem.W.Fast.tw8488308795427828372:Unit:=()
def PySem.W.Fast.tw3674320239235608446:Unit:=()
def PySem.W.Fast.tw13916041220612508978:Unit:=()
def PySem.W.Fast.tw7420808586091572680:Unit:=()
def PySem.W.Fast.tw15132745674426253865:Unit:=()
def PySem.W.Fast.tw3511893803540876430:Unit:=()
def PySem.W.Fast.tw6525588843250753240:Unit:=()
def PySem.W.Fast.tw5406162304494181345:Unit:=()
def PySem.W.Fast.tw6119839167510201295:Unit:=()
def PySem.W.Fast.tw1189577062165841827:Unit:=()
def PySem.W.Fast.tw11554897482416687615:Unit:=()
def PySem.W.Fast.tw8742520946026753103:Unit:=()
def PySem.W.Fast.tw11870207150865562952:Unit:=()
def PySem.W.Fast.tw641693882716256593:Unit:=()
def PySem.W.Fast.tw3613676513870124077:Unit:=()
def PySem.W.Fast.tw9836952629585185715:Unit:=()
def PySem.W.Fast.tw4638470609580087175:Unit:=()
def PySem.W.Fast.tw16167182744825226048:Unit:=()
def PySem.W.Fast.tw14386224859595398158:Unit:=()
def PySem.W.Fast.tw4758601995827221057:Unit:=()
def PySem.W.Fast.tw1698914073414910945:Unit:=()
def PySem.W.Fast.tw8600668299547851599:Unit:=()
def PySem.W.Fast.tw4838852313834490546:Unit:=()
def PySem.W.Fast.tw6621108003171055806:Unit:=()
def PySem.W.Fast.tw9629275650078268803:Unit:=()
def PySem.W.Fast.tw18445690312521340425:Unit:=()
def PySem.W.Fast.tw17021540633699766505:Unit:=()
def PySem.W.Fast.tw11709475599576354271:Unit:=()
def PySem.W.Fast.tw10897859653753292356:Unit:=()
def PySem.W.Fast.tw4679253866383163940:Unit:=()
def PySem.W.Fast.tw15361286070369184659:Unit:=()
def PySem.W.Fast.tw16380740963824201917:Unit:=()
def PySem.W.Fast.tw2731675734316718234:Unit:=()
def PySem.W.Fast.tw3906863514437283653:Unit:=()
def PySem.W.Fast.tw13818214442240052439:Unit:=()
def PySem.W.Fast.tw5498105425583833689:Unit:=()
def PySem.W.Fast.tw15235848281319824746:Unit:=()
def PySem.W.Fast.tw6272930093146025868:Unit:=()
def PySem.W.Fast.tw7386764135057850045:Unit:=()
def PySem.W.Fast.tw11432853922537323950:Unit:=()
def PySem.W.Fast.tw17378468345033619300:Unit:=()
def PySem.W.Fast.tw17822731749725904636:Unit:=()
def PySem.W.Fast.tw11863981104220962812:Unit:=()
def PySem.W.Fast.tw7211809946128689227:Unit:=()
def PySem.W.Fast.tw13299660876602666977:Unit:=()
def PySem.W.Fast.tw1430185229449126298:Unit:=()
def PySem.W.Fast.tw6912046580856006842:Unit:=()
def PySem.W.Fast.tw8703920067633219006:Unit:=()
def PySem.W.Fast.tw169361441153042772:Unit:=()
def PySem.W.Fast.tw10902900226270485839:Unit:=()
def PySem.W.Fast.tw2111245863466676306:Unit:=()
def PySem.W.Fast.tw7404537502667986940:Unit:=()
def PySem.W.Fast.tw8193377137187565398:Unit:=()
def PySem.W.Fast.tw2005521104304731040:Unit:=()
def PySem.W.Fast.tw17084906501341227232:Unit:=()
def PySem.W.Fast.tw13534903282830918690:Unit:=()
def PySem.W.Fast.tw5156457565498450078:Unit:=()
def PySem.W.Fast.tw14749326118341810246:Unit:=()
def PySem.W.Fast.tw940355507265595008:Unit:=()
def PySem.W.Fast.tw3339937440235843954:Unit:=()
def PySem.W.Fast.tw10131265699118985164:Unit:=()
def PySem.W.Fast.tw12800160233775523725:Unit:=()
def PySem.W.Fast.tw8825687685657218951:Unit:=()
def PySem.W.Fast.tw3576685220280249489:Unit:=()
def PySem.W.Fast.tw14903371316759730935:Unit:=()
def PySem.W.Fast.tw11119353601208954852:Unit:=()
def PySem.W.Fast.tw5115181650833830991:Unit:=()
def PySem.W.Fast.tw12674511592469077660:Unit:=()
def PySem.W.Fast.tw10512056351029875942:Unit:=()
def PySem.W.Fast.tw4061717933831366519:Unit:=()
def PySem.W.Fast.tw7018560172066909534:Unit:=()
def PySem.W.Fast.tw14726285081666698266:Unit:=()
def PySem.W.Fast.tw4666072987047084132:Unit:=()
def PySem.W.Fast.tw17465391812450179080:Unit:=()
def PySem.W.Fast.tw8807410180165491234:Unit:=()
def PySem.W.Fast.tw9104710067465226163:Unit:=()
def PySem.W.Fast.tw6329307243229118887:Unit:=()
def PySem.W.Fast.tw2293172993664446985:Unit:=()
def PySem.W.Fast.tw15032406411862199867:Unit:=()
def PySem.W.Fast.tw13206854124995627649:Unit:=()
def PySem.W.Fast.tw5403967583778496452:Unit:=()
def PySem.W.Fast.tw10885720567798998071:Unit:=()
def PySem.W.Fast.tw16387335790068015221:Unit:=()
def PySem.W.Fast.tw130108455735458728:Unit:=()
def PySem.W.Fast.tw4900291456847577849:Unit:=()
def PySem.W.Fast.tw10956498267401163343:Unit:=()
def PySem.W.Fast.tw8127299856414679005:Unit:=()
def PySem.W.Fast.tw15979675327617373776:Unit:=()
def PySem.W.Fast.tw3621165067147465756:Unit:=()
def PySem.W.Fast.tw6546207524105626221:Unit:=()
def PySem.W.Fast.tw14686231771883383865:Unit:=()
def PySem.W.Fast.tw13931240804607660600:Unit:=()
def PySem.W.Fast.tw10382006690123050588:Unit:=()
def PySem.W.Fast.tw16031520032122047451:Unit:=()
def PySem.W.Fast.tw16059855434839193770:Unit:=()
def PySem.W.Fast.tw12550334095197495471:Unit:=()
def PySem.W.Fast.tw1453578926834234549:Unit:=()
def PySem.W.Fast.tw12174690946069695017:Unit:=()
def PySem.W.Fast.tw4913964438903389140:Unit:=()
def PySem.W.Fast.tw17505616993459911395:Unit:=()
def PySem.W.Fast.tw16505918959591969106:Unit:=()
def PySem.W.Fast.tw2124321705700321760:Unit:=()
def PySem.W.Fast.tw13812867593851142008:Unit:=()
def PySem.W.Fast.tw3187487591012629956:Unit:=()
def PySem.W.Fast.tw15719099218718285424:Unit:=()
def PySem.W.Fast.tw8489836532655268814:Unit:=()
def PySem.W.Fast.tw15686810455376193566:Unit:=()
def PySem.W.Fast.tw11074598627909416625:Unit:=()
def PySem.W.Fast.tw5673967650914765302:Unit:=()
def PySem.W.Fast.tw4250835731674307828:Unit:=()
def PySem.W.Fast.tw12152524168023877713:Unit:=()
def PySem.W.Fast.tw739610379874515146:Unit:=()
def PySem.W.Fast.tw10614738747548884931:Unit:=()
def PySem.W.Fast.tw1854709152664495329:Unit:=()
def PySem.W.Fast.tw9238355625153374592:Unit:=()
def PySem.W.Fast.tw6955938393077623267:Unit:=()
def PySem.W.Fast.tw18011327510112480089:Unit:=()
def PySem.W.Fast.tw16541756706763858947:Unit:=()
def PySem.W.Fast.tw16812709987629574962:Unit:=()
def PySem.W.Fast.tw8066905439289136863:Unit:=()
def PySem.W.Fast.tw11599888403804156748:Unit:=()
def PySem.W.Fast.tw9028087126913753147:Unit:=()
def PySem.W.Fast.tw3771202931290132599:Unit:=()
def PySem.W.Fast.tw17246939429778550294:Unit:=()
def PySem.W.Fast.tw9993092209165441040:Unit:=()
def PySem.W.Fast.tw3799722064822893213:Unit:=()
def PySem.W.Fast.tw9999038465212004915:Unit:=()
def PySem.W.Fast.tw4418977416754570907:Unit:=()
def PySem.W.Fast.tw6659630310052715641:Unit:=()
def PySem.W.Fast.tw3688540180496877503:Unit:=()
def PySem.W.Fast.tw8092237031401617249:Unit:=()
def PySem.W.Fast.tw14310488405134700088:Unit:=()
def PySem.W.Fast.tw11921309162276288791:Unit:=()
def PySem.W.Fast.tw4847308417893654645:Unit:=()
def PySem.W.Fast.tw1902306322538493587:Unit:=()
def PySem.W.Fast.tw7277407903085214118:Unit:=()
def PySem.W.Fast.tw13687488649960808305:Unit:=()
def PySem.W.Fast.tw3529066418131820587:Unit:=()
def PySem.W.Fast.tw11782008749987336268:Unit:=()
def PySem.W.Fast.tw15329644702582934804:Unit:=()
def PySem.W.Fast.tw16598614085745788924:Unit:=()
def PySem.W.Fast.tw3126165230436521382:Unit:=()
def PySem.W.Fast.tw14751701937215922325:Unit:=()
def PySem.W.Fast.tw15502323230193346719:Unit:=()
def PySem.W.Fast.tw14224431114713268996:Unit:=()
def PySem.W.Fast.tw12464824327364903998:Unit:=()
def PySem.W.Fast.tw4505583081365543809:Unit:=()
def PySem.W.Fast.tw8158672793023767164:Unit:=()
def PySem.W.Fast.tw8765162805914697795:Unit:=()
def PySem.W.Fast.tw12406510253761942120:Unit:=()
def PySem.W.Fast.tw1605318793801524076:Unit:=()
def PySem.W.Fast.tw10151334064500369491:Unit:=()
def PySem.W.Fast.tw2765603068216370816:Unit:=()
def PySem.W.Fast.tw15906040027822571032:Unit:=()
def PySem.W.Fast.tw3242381118361049835:Unit:=()
def PySem.W.Fast.tw5682110580823013706:Unit:=()
def PySem.W.Fast.tw10111560368804635540:Unit:=()
def PySem.W.Fast.tw12474970031495052848:Unit:=()
def PySem.W.Fast.tw9176014963965963643:Unit:=()
def PySem.W.Fast.tw15486586387413021842:Unit:=()
def PySem.W.Fast.tw9667978565414971476:Unit:=()
def PySem.W.Fast.tw15609895787236185044:Unit:=()
def PySem.W.Fast.tw16718905857832729549:Unit:=()
def PySem.W.Fast.tw7592791594073327728:Unit:=()
def PySem.W.Fast.tw9920959486410614646:Unit:=()
def PySem.W.Fast.tw3834933730265182839:Unit:=()
def PySem.W.Fast.tw9973367614870526498:Unit:=()
def PySem.W.Fast.tw5252349570527050128:Unit:=()
def PySem.W.Fast.tw1598581198444916768:Unit:=()
def PySem.W.Fast.tw702120306882850290:Unit:=()
def PySem.W.Fast.tw7794822946842600308:Unit:=()
def PySem.W.Fast.tw12593615154211706961:Unit:=()
def PySem.W.Fast.tw8499524196341280963:Unit:=()
def PySem.W.Fast.tw52439347460147612:Unit:=()
def PySem.W.Fast.tw16994801567724382999:Unit:=()
def PySem.W.Fast.tw14989876375669084709:Unit:=()
def PySem.W.Fast.tw15099895857357261819:Unit:=()
def PySem.W.Fast.tw18096267215157020881:Unit:=()
def PySem.W.Fast.tw11380009529550843060:Unit:=()
def PySem.W.Fast.tw3754784790788093091:Unit:=()
def PySem.W.Fast.tw10260817096136433011:Unit:=()
def PySem.W.Fast.tw13483638092822575612:Unit:=()
def PySem.W.Fast.tw17719221481541755053:Unit:=()
def PySem.W.Fast.tw16446651467877103647:Unit:=()
def PySem.W.Fast.tw12552019940863890309:Unit:=()
def PySem.W.Fast.tw3207025954008535788:Unit:=()
def PySem.W.Fast.tw16128643886015734937:Unit:=()
def PySem.W.Fast.tw13022809099284377262:Unit:=()
def PySem.W.Fast.tw12868346218931165339:Unit:=()
def PySem.W.Fast.tw16560272406905290860:Unit:=()
def PySem.W.Fast.tw7128802764073744579:Unit:=()
def PySem.W.Fast.tw8188563365862729985:Unit:=()
def PySem.W.Fast.tw1661314460053884939:Unit:=()
def PySem.W.Fast.tw15109830774830248805:Unit:=()
def PySem.W.Fast.tw16944722218692370092:Unit:=()
def PySem.W.Fast.tw12560243615514838421:Unit:=()
def PySem.W.Fast.tw2786678676378749531:Unit:=()
def PySem.W.Fast.tw8278813212729709349:Unit:=()
def PySem.W.Fast.tw7937474895934349558:Unit:=()
def PySem.W.Fast.tw17849129102962665131:Unit:=()
def PySem.W.Fast.tw15102204046145492714:Unit:=()
def PySem.W.Fast.tw14434264844938124259:Unit:=()
def PySem.W.Fast.tw12892549186553617882:Unit:=()
def PySem.W.Fast.tw3159674788612726875:Unit:=()
def PySem.W.Fast.tw3100284146472498254:Unit:=()
def PySem.W.Fast.tw11125668018545799273:Unit:=()
def PySem.W.Fast.tw9244315656157254081:Unit:=()
def PySem.W.Fast.tw6896526731631630113:Unit:=()
def PySem.W.Fast.tw17531801694832906444:Unit:=()
def PySem.W.Fast.tw14180863799330767307:Unit:=()
def PySem.W.Fast.tw423935975467417678:Unit:=()
def PySem.W.Fast.tw15146974581064314850:Unit:=()
def PySem.W.Fast.tw3591120062466611032:Unit:=()
def PySem.W.Fast.tw8453852634449133977:Unit:=()
def PySem.W.Fast.tw7849589315164538189:Unit:=()
def PySem.W.Fast.tw3801349598015680244:Unit:=()
def PySem.W.Fast.tw6365180550607809577:Unit:=()
def PySem.W.Fast.tw5875228982206997835:Unit:=()
def PySem.W.Fast.tw7503390376987911175:Unit:=()
def PySem.W.Fast.tw16368643125362265599:Unit:=()
def PySem.W.Fast.tw5377621075934691309:Unit:=()
def PySem.W.Fast.tw9438302735576068253:Unit:=()
def PySem.W.Fast.tw11573821756724395976:Unit:=()
def PySem.W.Fast.tw16104571603812893943:Unit:=()
def PySem.W.Fast.tw14459507301937016025:Unit:=()
def PySem.W.Fast.tw16078674371410789480:Unit:=()
def PySem.W.Fast.tw3199248724970719425:Unit:=()
def PySem.W.Fast.tw11435386182202373447:Unit:=()
def PySem.W.Fast.tw13250135215625926509:Unit:=()
def PySem.W.Fast.tw13251907114944004288:Unit:=()
def PySem.W.Fast.tw248393473336361872:Unit:=()
def PySem.W.Fast.tw2207068752055696339:Unit:=()
def PySem.W.Fast.tw17547634209237242130:Unit:=()
def PySem.W.Fast.tw6529203162545813791:Unit:=()
def PySem.W.Fast.tw17121808505057425352:Unit:=()
def PySem.W.Fast.tw6868950705181817136:Unit:=()
def PySem.W.Fast.tw10312718817716514084:Unit:=()
def PySem.W.Fast.tw2595651854241594902:Unit:=()
def PySem.W.Fast.tw14003897227198827085:Unit:=()
def PySem.W.Fast.tw14202362183693619879:Unit:=()
def PySem.W.Fast.tw4243132145848166698:Unit:=()
def PySem.W.Fast.tw7612859752034883738:Unit:=()
def PySem.W.Fast.tw11201162674794314884:Unit:=()
def PySem.W.Fast.tw2802571676747209950:Unit:=()
def PySem.W.Fast.tw15532937972601153803:Unit:=()
def PySem.W.Fast.tw3546221494258064789:Unit:=()
def PySem.W.Fast.tw11378117435126313344:Unit:=()
def PySem.W.Fast.tw2572278729626987825:Unit:=()
def PySem.W.Fast.tw5904455839264469956:Unit:=()
def PySem.W.Fast.tw8701010935812614855:Unit:=()
def PySem.W.Fast.tw14322852941347743290:Unit:=()
def PySem.W.Fast.tw5260830990667650153:Unit:=()
def PySem.W.Fast.tw18251596235145784277:Unit:=()
def PySem.W.Fast.tw10035512150467164789:Unit:=()
def PySem.W.Fast.tw9230500524002336943:Unit:=()
def PySem.W.Fast.tw15182938299368958617:Unit:=()
def PySem.W.Fast.tw3566068216460423909:Unit:=()
def PySem.W.Fast.tw11343526242712332720:Unit:=()
def PySem.W.Fast.tw2643060661046008969:Unit:=()
def PySem.W.Fast.tw17471944916130143080:Unit:=()
def PySem.W.Fast.tw13490357356648996761:Unit:=()
def PySem.W.Fast.tw7715139714278976558:Unit:=()
def PySem.W.Fast.tw17130666743645476571:Unit:=()
def PySem.W.Fast.tw13286783092788210966:Unit:=()
def PySem.W.Fast.tw11903170443283785920:Unit:=()
def PySem.W.Fast.tw17895401498797683798:Unit:=()
def PySem.W.Fast.tw15167843473618531829:Unit:=()
def PySem.W.Fast.tw435121984879614668:Unit:=()
def PySem.W.Fast.tw10243225749009474350:Unit:=()
def PySem.W.Fast.tw327167409967891615:Unit:=()
def PySem.W.Fast.tw14292840736753680605:Unit:=()
def PySem.W.Fast.tw6450689652871764493:Unit:=()
def PySem.W.Fast.tw9709893292224355458:Unit:=()
def PySem.W.Fast.tw14224395672339275032:Unit:=()
def PySem.W.Fast.tw5619537533287890819:Unit:=()
def PySem.W.Fast.tw11751470762327784281:Unit:=()
def PySem.W.Fast.tw7320817083628544839:Unit:=()
def PySem.W.Fast.tw4698666490799906266:Unit:=()
def PySem.W.Fast.tw11981101570860945435:Unit:=()
def PySem.W.Fast.tw4972040192300187792:Unit:=()
def PySem.W.Fast.tw3075419363778547972:Unit:=()
def PySem.W.Fast.tw6504220563743434749:Unit:=()
open PySem PySem.W PyProof.Rows
set_option maxRecDepth 100000 in
set_option maxHeartbeats 0 in
theorem PySem.Challenge.cw_beamtender_k26_plays_apart_holds : PySem.Challenge.rw_beamtender_k26_plays_apart.Holds := by
  w_on; o_law; z_head; (case hw => w_witness2)
  k_fill
  intro w0 s0 s1 mg0 mb0 G0 y0 fa0 o0 pm0 cd0 doc0 dV0 kV0 ho0 hd0 hcd0 hD0 hmg0 hg0 args0 vals0 as0 L0 hpre0 hlay0 hrd0 hwl0 hlo0
  z_open y0 L0 KX0 ZH0 ZN0 ZT0
  clear ZH0 ZN0 ZT0
  refine Bt.walkZ (l := PySem.Challenge.rw_beamtender_k26_plays_apart) rfl rfl ?F w0 s0 s1 mg0 mb0 G0 KX0 fa0 o0 pm0 cd0 doc0 dV0 kV0 ho0 hd0 hcd0 hD0 hmg0 hg0 args0 vals0 as0 hpre0 hlay0 hrd0 hwl0 hlo0
  case F =>
    clear y0 L0 KX0 G0 ho0 hd0 hcd0 hD0 hmg0 hg0 hpre0 hlay0 hrd0 hwl0 hlo0
    intro w mg fa h KX G hmg
    refine' Bt.all_mk KX G hmg ?a_Beam ?a_Play ?a_Beam_init ?i_Beam_init ?l_Beam_init ?c_Beam_init ?k_Beam_init ?a_outside ?l_outside ?c_outside ?k_outside ?a_check_bounds ?l_check_bounds ?c_check_bounds ?k_check_bounds ?a_check_hefts ?l_check_hefts ?c_check_hefts ?k_check_hefts ?a_check_standings ?l_check_standings ?c_check_standings ?k_check_standings ?a_as_standing ?l_as_standing ?c_as_standing ?k_as_standing ?a_tilt ?l_tilt ?c_tilt ?k_tilt ?a_past ?l_past ?c_past ?k_past ?a_keeps ?l_keeps ?c_keeps ?k_keeps ?a_in_hand ?l_in_hand ?c_in_hand ?k_in_hand ?a_moved ?l_moved ?c_moved ?k_moved ?a_turned ?l_turned ?c_turned ?k_turned ?a_behind ?l_behind ?c_behind ?k_behind ?a_full ?l_full ?c_full ?k_full ?a_check_move ?l_check_move ?c_check_move ?k_check_move ?a_check_weight ?l_check_weight ?c_check_weight ?k_check_weight ?a_check_put ?l_check_put ?c_check_put ?k_check_put ?a_check_tilts ?l_check_tilts ?c_check_tilts ?k_check_tilts ?a_Play_init ?i_Play_init ?l_Play_init ?c_Play_init ?k_Play_init ?a_Play_move ?i_Play_move ?l_Play_move ?c_Play_move ?k_Play_move ?a_Play_back ?i_Play_back ?l_Play_back ?c_Play_back ?k_Play_back ?a_Play_trail ?i_Play_trail ?l_Play_trail ?c_Play_trail ?k_Play_trail ?a_w_at ?l_w_at ?c_w_at ?k_w_at ?a_w_whole ?l_w_whole ?c_w_whole ?k_w_whole ?a_w_figs ?l_w_figs ?c_w_figs ?k_w_figs ?a_w_shape ?l_w_shape ?c_w_shape ?k_w_shape ?a_w_put ?l_w_put ?c_w_put ?k_w_put ?a_w_tilt ?l_w_tilt ?c_w_tilt ?k_w_tilt ?a_w_limit ?l_w_limit ?c_w_limit ?k_w_limit ?a_w_hard ?l_w_hard ?c_w_hard ?k_w_hard ?a_w_case ?l_w_case ?c_w_case ?k_w_case ?a_w_near ?l_w_near ?c_w_near ?k_w_near ?a_w_same ?l_w_same ?c_w_same ?k_w_same ?a_w_same_rows ?l_w_same_rows ?c_w_same_rows ?k_w_same_rows ?a_w_beam ?l_w_beam ?c_w_beam ?k_w_beam ?a_w_pick ?l_w_pick ?c_w_pick ?k_w_pick ?a_w_deed ?l_w_deed ?c_w_deed ?k_w_deed ?a_w_fits ?l_w_fits ?c_w_fits ?k_w_fits ?a_law ?l_law ?c_law ?k_law ?pg_Beam ?hd_Beam ?po_Beam ?sa_Beam ?mk_Beam ?kc_Beam ?na_Beam_notches ?na_Beam_room ?na_Beam_hefts ?na_Beam_limit ?pg_Play ?hd_Play ?po_Play ?sa_Play ?mk_Play ?kc_Play ?na_Play_beam ?na_Play_start ?na_Play_standing ?na_Play_made ?n_tuple ?n_len ?n_range ?n_sum ?n_zip ?n_abs ?n_list ?n_isinstance ?n_int ?n_bool ?n_min ?n_max ?g_MOST_NOTCHES ?g_MOST_ROOM ?g_MOST_LIMIT ?g_MOST_WEIGHTS ?g_MOST_HEFT ?g_MOST_STANDINGS ?g_MOST_MOVES
    (case a_Beam => k_is)
    (case a_Play => k_is)
    (case a_Beam_init => k_is)
    (case i_Beam_init => k_is)
    (case l_Beam_init => k_is)
    (case c_Beam_init => k_is)
    (case k_Beam_init => k_is)
    (case a_outside => k_is)
    (case l_outside => k_is)
    (case c_outside => k_is)
    (case k_outside => k_is)
    (case a_check_bounds => k_is)
    (case l_check_bounds => k_is)
    (case c_check_bounds => k_is)
    (case k_check_bounds => k_is)
    (case a_check_hefts => k_is)
    (case l_check_hefts => k_is)
    (case c_check_hefts => k_is)
    (case k_check_hefts => k_is)
    (case a_check_standings => k_is)
    (case l_check_standings => k_is)
    (case c_check_standings => k_is)
    (case k_check_standings => k_is)
    (case a_as_standing => k_is)
    (case l_as_standing => k_is)
    (case c_as_standing => k_is)
    (case k_as_standing => k_is)
    (case a_tilt => k_is)
    (case l_tilt => k_is)
    (case c_tilt => k_is)
    (case k_tilt => k_is)
    (case a_past => k_is)
    (case l_past => k_is)
    (case c_past => k_is)
    (case k_past => k_is)
    (case a_keeps => k_is)
    (case l_keeps => k_is)
    (case c_keeps => k_is)
    (case k_keeps => k_is)
    (case a_in_hand => k_is)
    (case l_in_hand => k_is)
    (case c_in_hand => k_is)
    (case k_in_hand => k_is)
    (case a_moved => k_is)
    (case l_moved => k_is)
    (case c_moved => k_is)
    (case k_moved => k_is)
    (case a_turned => k_is)
    (case l_turned => k_is)
    (case c_turned => k_is)
    (case k_turned => k_is)
    (case a_behind => k_is)
    (case l_behind => k_is)
    (case c_behind => k_is)
    (case k_behind => k_is)
    (case a_full => k_is)
    (case l_full => k_is)
    (case c_full => k_is)
    (case k_full => k_is)
    (case a_check_move => k_is)
    (case l_check_move => k_is)
    (case c_check_move => k_is)
    (case k_check_move => k_is)
    (case a_check_weight => k_is)
    (case l_check_weight => k_is)
    (case c_check_weight => k_is)
    (case k_check_weight => k_is)
    (case a_check_put => k_is)
    (case l_check_put => k_is)
    (case c_check_put => k_is)
    (case k_check_put => k_is)
    (case a_check_tilts => k_is)
    (case l_check_tilts => k_is)
    (case c_check_tilts => k_is)
    (case k_check_tilts => k_is)
    (case a_Play_init => k_is)
    (case i_Play_init => k_is)
    (case l_Play_init => k_is)
    (case c_Play_init => k_is)
    (case k_Play_init => k_is)
    (case a_Play_move => k_is)
    (case i_Play_move => k_is)
    (case l_Play_move => k_is)
    (case c_Play_move => k_is)
    (case k_Play_move => k_is)
    (case a_Play_back => k_is)
    (case i_Play_back => k_is)
    (case l_Play_back => k_is)
    (case c_Play_back => k_is)
    (case k_Play_back => k_is)
    (case a_Play_trail => k_is)
    (case i_Play_trail => k_is)
    (case l_Play_trail => k_is)
    (case c_Play_trail => k_is)
    (case k_Play_trail => k_is)
    (case a_w_at => k_is)
    (case l_w_at => k_is)
    (case c_w_at => k_is)
    (case k_w_at => k_is)
    (case a_w_whole => k_is)
    (case l_w_whole => k_is)
    (case c_w_whole => k_is)
    (case k_w_whole => k_is)
    (case a_w_figs => k_is)
    (case l_w_figs => k_is)
    (case c_w_figs => k_is)
    (case k_w_figs => k_is)
    (case a_w_shape => k_is)
    (case l_w_shape => k_is)
    (case c_w_shape => k_is)
    (case k_w_shape => k_is)
    (case a_w_put => k_is)
    (case l_w_put => k_is)
    (case c_w_put => k_is)
    (case k_w_put => k_is)
    (case a_w_tilt => k_is)
    (case l_w_tilt => k_is)
    (case c_w_tilt => k_is)
    (case k_w_tilt => k_is)
    (case a_w_limit => k_is)
    (case l_w_limit => k_is)
    (case c_w_limit => k_is)
    (case k_w_limit => k_is)
    (case a_w_hard => k_is)
    (case l_w_hard => k_is)
    (case c_w_hard => k_is)
    (case k_w_hard => k_is)
    (case a_w_case => k_is)
    (case l_w_case => k_is)
    (case c_w_case => k_is)
    (case k_w_case => k_is)
    (case a_w_near => k_is)
    (case l_w_near => k_is)
    (case c_w_near => k_is)
    (case k_w_near => k_is)
    (case a_w_same => k_is)
    (case l_w_same => k_is)
    (case c_w_same => k_is)
    (case k_w_same => k_is)
    (case a_w_same_rows => k_is)
    (case l_w_same_rows => k_is)
    (case c_w_same_rows => k_is)
    (case k_w_same_rows => k_is)
    (case a_w_beam => k_is)
    (case l_w_beam => k_is)
    (case c_w_beam => k_is)
    (case k_w_beam => k_is)
    (case a_w_pick => k_is)
    (case l_w_pick => k_is)
    (case c_w_pick => k_is)
    (case k_w_pick => k_is)
    (case a_w_deed => k_is)
    (case l_w_deed => k_is)
    (case c_w_deed => k_is)
    (case k_w_deed => k_is)
    (case a_w_fits => k_is)
    (case l_w_fits => k_is)
    (case c_w_fits => k_is)
    (case k_w_fits => k_is)
    (case a_law => k_is)
    (case l_law => k_is)
    (case c_law => k_is)
    (case k_law => k_is)
    (case pg_Beam => k_is)
    (case hd_Beam => k_is)
    (case po_Beam => k_is)
    (case sa_Beam => k_is)
    (case mk_Beam => k_is)
    (case kc_Beam => k_is)
    (case na_Beam_notches => k_is)
    (case na_Beam_room => k_is)
    (case na_Beam_hefts => k_is)
    (case na_Beam_limit => k_is)
    (case pg_Play => k_is)
    (case hd_Play => k_is)
    (case po_Play => k_is)
    (case sa_Play => k_is)
    (case mk_Play => k_is)
    (case kc_Play => k_is)
    (case na_Play_beam => k_is)
    (case na_Play_start => k_is)
    (case na_Play_standing => k_is)
    (case na_Play_made => k_is)
    (case n_tuple => k_is)
    (case n_len => k_is)
    (case n_range => k_is)
    (case n_sum => k_is)
    (case n_zip => k_is)
    (case n_abs => k_is)
    (case n_list => k_is)
    (case n_isinstance => k_is)
    (case n_int => k_is)
    (case n_bool => k_is)
    (case n_min => k_is)
    (case n_max => k_is)
    (case g_MOST_NOTCHES => k_is)
    (case g_MOST_ROOM => k_is)
    (case g_MOST_LIMIT => k_is)
    (case g_MOST_WEIGHTS => k_is)
    (case g_MOST_HEFT => k_is)
    (case g_MOST_STANDINGS => k_is)
    (case g_MOST_MOVES => k_is)
