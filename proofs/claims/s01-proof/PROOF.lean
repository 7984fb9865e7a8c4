import PyProof.Rows.All
import Wide.All
import OpenK.AllK
import Wide.FinOn
import PyProof.EqAt
import PyProof.EqKinds
import PyProof.TupleCall
import KE.BitLaws
import PySem.Challenge.RW_sparsetables_s01_answers
import VagraLineSpec
import VagrakSpec
import KE.KFind
import KE.KRevIter
import KE.KSortKeySt
import KE.KLam
import Open.SpecLaws
import KE.OsHead
import KE.OsGo
set_option Elab.async false
set_option linter.all false
set_option maxRecDepth 100000
set_option maxHeartbeats 2000000
local macro_rules|`(tactic|trivial)=>`(tactic|first|exact⟨rfl,rfl,rfl,by decide +kernel,rfl,by decide +kernel,by decide +kernel⟩|fail)
section
namespace L2
open PySem PySem.Spec PyProof.Rows
abbrev Key:=Sum Int Str
def uh:Key->Value->Bool
 | .inl k,v=>Value.isInt k v
 | .inr x,v=>Value.isStrOf x v
def keyH(w:World):Key->Int
 | .inl k=>hashInt k
 | .inr x=>hashStr w x
theorem dr:∀ {k:Key} {v:Value},uh k v=true->(∃ i t,k=Sum.inl i/\v=Value.int i t)\/(∃ x t,k=Sum.inr x/\v=Value.str x t)
 | .inl i,v,h=>by
  obtain⟨t,e⟩:=Value.isInt_shape (k:=i) (v:=v) h
  exact .inl ⟨i,t,rfl,e⟩
 | .inr x,v,h=>by
  obtain⟨t,e⟩:=Value.isStrOf_shape (x:=x) (v:=v) h
  exact .inr ⟨x,t,rfl,e⟩
theorem Kt(i:Int)(t:Tok):uh (.inl i) (.int i t)=true:=by simp[uh,Value.isInt]
theorem Ks(x:Str)(t:Tok):uh (.inr x) (.str x t)=true:=by simp[uh,Value.isStrOf]
theorem Uh(a b:Int):decide ((Sum.inl a:Key)=Sum.inl b)=(a==b):=by
 by_cases e:a=b
 .subst e;simp
 .have h:¬ (Sum.inl a:Key)=Sum.inl b:=λq=>e (Sum.inl.inj q)
  rw[decide_eq_false h]
  exact(beq_eq_false_iff_ne.mpr e).symm
theorem Ue(a b:Str):decide ((Sum.inr a:Key)=Sum.inr b)=decide (a=b):=by
 by_cases e:a=b
 .subst e;simp
 .have h:¬ (Sum.inr a:Key)=Sum.inr b:=λq=>e (Sum.inr.inj q)
  rw[decide_eq_false h,decide_eq_false e]
theorem Ug(a:Int)(b:Str):decide ((Sum.inl a:Key)=Sum.inr b)=false:=decide_eq_false (λq=>nomatch q)
theorem Uf(a:Str)(b:Int):decide ((Sum.inr a:Key)=Sum.inl b)=false:=decide_eq_false (λq=>nomatch q)
def gx(prog:Program)(w:World):PySem.KeyKind prog w Key where
 is:=uh
 hash:=keyH w
 inj:=λv a b ha hb=>by
  rcases dr ha with ⟨i,t,rfl,rfl⟩|⟨x,t,rfl,rfl⟩
  .rcases dr hb with ⟨j,u,rfl,e⟩|⟨y,u,rfl,e⟩
   .injection e with e1 _;rw[e1]
   .exact nomatch e
  .rcases dr hb with ⟨j,u,rfl,e⟩|⟨y,u,rfl,e⟩
   .exact nomatch e
   .injection e with e1 _;rw[e1]
 byValue:=λk v h=>by
  rcases dr h with ⟨i,t,rfl,rfl⟩|⟨x,t,rfl,rfl⟩ <;> rfl
 pyHash:=λhv h=>by
  rcases dr hv with ⟨i,t,rfl,rfl⟩|⟨x,t,rfl,rfl⟩
  .exact wpAny_pyHash_int h
  .exact wpAny_pyHash_str h
 eqBool:=λhu hv h=>by
  rcases dr hu with ⟨i,t,rfl,rfl⟩|⟨x,t,rfl,rfl⟩
  .rcases dr hv with ⟨j,u,rfl,rfl⟩|⟨y,u,rfl,rfl⟩
   .rw[Uh]at h;exact wpAny_eqBool_int h
   .rw[Ug]at h;exact SeqAt.EqAt.int_str i t y u _ _ _ _ h
  .rcases dr hv with ⟨j,u,rfl,rfl⟩|⟨y,u,rfl,rfl⟩
   .rw[Uf]at h;exact SeqAt.EqAt.str_int x t j u _ _ _ _ h
   .rw[Ue]at h;exact wpAny_eqBool_str h
 «strs»:=λk x t v h=>by
  rcases dr h with ⟨i,u,rfl,e⟩|⟨y,u,rfl,e⟩
  .exact nomatch e
  .injection e with e1 _
   subst e1
   cases v <;> rfl
theorem D6(prog:Program)(w:World)(i:Int)(t:Tok):(gx prog w).is (.inl i) (.int i t)=true:=Kt i t
theorem D5(prog:Program)(w:World)(x:Str)(t:Tok):(gx prog w).is (.inr x) (.str x t)=true:=Ks x t
inductive V where
 | non | bl (b:Bool) | int (i:Int) | str (x:Str) | byt (b:Array UInt8) | flt (b:UInt64) | ref (a:Addr) | ty (n:String)
 deriving DecidableEq
def RelV:V->Value->Prop
 | .non,u=>u=Value.none
 | .bl b,u=>u=Value.bool b
 | .int i,u=>∃ t,u=Value.int i t
 | .str x,u=>∃ t,u=Value.str x t
 | .byt b,u=>∃ t,u=Value.bytes b t
 | .flt b,u=>∃ t,u=Value.float b t
 | .ref a,u=>u=Value.ref a
 | .ty n,u=>u=Value.type n
abbrev Vals:List V->List Value->Prop:=Paired RelV
theorem Vals.length{xs:List V}{us:List Value}(r:Vals xs us):xs.length=us.length:=Paired.length r
theorem Vals.get:∀ {xs:List V} {us:List Value} {i:Nat} {x:V},Vals xs us->xs[i]? = some x->∃ u,us[i]? = some u/\RelV x u
 | _,_,_,_,.nil,e=>by simp at e
 | _,_,0,_,.cons r _,e=>by simp at e;subst e;exact⟨_,rfl,r⟩
 | _,_,i+1,x,.cons _ t,e=>by
  obtain⟨u,h1,h2⟩:=Vals.get (i:=i) (x:=x) t (by simpa using e)
  exact⟨u,by simpa using h1,h2⟩
theorem Vals.set{x:V}{u:Value}(r:RelV x u):∀ {xs:List V} {us:List Value} (i:Nat),Vals xs us->Vals (xs.set i x) (us.set i u)
 | _,_,_,.nil=>.nil
 | _,_,0,.cons _ t=>.cons r t
 | _,_,i+1,.cons q t=>.cons q (Vals.set r i t)
theorem Vals.append:∀ {xs ys:List V} {us ws:List Value},Vals xs us->Vals ys ws->Vals (xs++ys) (us++ws)
 | _,_,_,_,.nil,s=>s
 | _,_,_,_,.cons r t,s=>.cons r (Vals.append t s)
theorem Vals.take:∀ {xs:List V} {us:List Value} (n:Nat),Vals xs us->Vals (xs.take n) (us.take n)
 | _,_,0,_=>.nil
 | _,_,_+1,.nil=>.nil
 | _,_,n+1,.cons r t=>.cons r (Vals.take n t)
theorem Vals.drop:∀ {xs:List V} {us:List Value} (n:Nat),Vals xs us->Vals (xs.drop n) (us.drop n)
 | _,_,0,r=>r
 | _,_,_+1,.nil=>.nil
 | _,_,n+1,.cons _ t=>Vals.drop n t
def RelO:Option V->Option Value->Prop
 | some v,some u=>RelV v u
 | none,none=>True
 | _,_=>False
def KV{κ:Type}:List (κ×V)->List (κ×Value)->Prop:=Paired λ(p:κ×V) (q:κ×Value)=>p.1=q.1/\RelV p.2 q.2
def kV:Key->V
 | .inl i=>.int i
 | .inr x=>.str x
inductive HO where
 | lst (xs:List V)
 | tup (xs:List V)
 | dK (kvs:List (Key×V)) | dT (kvs:List (List Key×V))
 | set (S:Int->Bool) (n:Nat)
 | ins (C dx:Addr) (fs:List (Str×V))
 | own (x:Addr)
 | xd (fs:List (Str×V))
 | met (f x:Addr)
 | rng (lo hi:Int)
 | frz (o:Obj) (u:HO)
 | tbl (ps:Array Value)
 | ext (φ:Heap->Prop)
abbrev Hp:=Addr->Option HO
def upd(H:Hp)(a:Addr)(o:HO):Hp:=λb=>if b=a then some o else H b
theorem ak{H:Hp}{a:Addr}{o:HO}:upd H a o a=some o:=by unfold upd;rw[if_pos rfl]
theorem ay{H:Hp}{a b:Addr}{o:HO}(h:b≠a):upd H a o b=H b:=by unfold upd;rw[if_neg h]
theorem jm{H:Hp}{a:Addr}{o u:HO}:upd (upd H a o) a u=upd H a u:=by
 funext b;unfold upd;split <;> rfl
theorem d7{H:Hp}{a b:Addr}{o u:HO}(h:H a=some o)(h':H b=some u)(d:o≠u):a≠b:=by
 intro e;subst e;rw[h]at h';exact d (Option.some.inj h')
theorem ba{H:Hp}{a b:Addr}{o:HO}(h:H a=some o)(h':H b=none):a≠b:=by
 intro e;subst e;rw[h]at h';cases h'
section
variable(P:Program)(w:World)
def ga(H:Hp)(h:Heap)(a:Addr):HO->Prop
 | .lst xs=>xs.length<=sizeLine/\∃ (its:List Value) (n:Nat),Vals xs its/\h.get? a=some { cls:=.type "list",data:=.seq its.toArray n }
 | .tup xs=>xs.length<=sizeLine/\∃ its:List Value,Vals xs its/\IsTup h a its.toArray
 | .dK kvs=>kvs.length<=sizeLine/\(a==sysModules)=false/\∃ vs,KV kvs vs/\h.DictOf (gx P w) a vs
 | .dT kvs=>kvs.length<=sizeLine/\(a==sysModules)=false/\∃ xs:List (List Key×Addr×Value),
   Paired (λ(p:List Key×V) (q:List Key×Addr×Value)=>p.1=q.1/\H q.2.1=some (.tup (p.1.map kV))/\RelV p.2 q.2.2) kvs xs /\
   ∃ o es ep,h.get? a=some o/\o.ExactDict/\o.data=.dict es ep/\es.toList=xs.map (entryOfKey (tupleKind (gx P w)))/\(xs.map (·.1)).Nodup
 | .set S n=>h.SetOf (intKind P w) a S n
 | .ins C dx fs=>H dx=some (.own a)/\fs.length<=1000/\dx≠a/\h.get? a=some (W.instObj C dx) /\
   ∃ mA,h.Ns1 dx mA/\(∀ f,RelO (fs.lookup f) (mA f))/\PySem.Within mA (fs.map (·.1))
 | .own _=>∃ o,h.get? a=some o
 | .xd fs=>∃ mA,h.Ns1 a mA/\∀ f,RelO (fs.lookup f) (mA f)
 | .rng lo hi=>∃ t u v,h.get? a=some { cls:=.type "range",data:=.fields #[.int lo t,.int hi u,.int 1 v] }
 | .frz o u=>h.get? a=some o/\ga H h a u
 | .tbl ps=>h.get? a=some { cls:=.none,data:=.fields ps }
 | .met f x=>h.get? a=some (W.methodObj (.ref f) (.ref x))
 | .ext φ=>φ h/\(∃ o,h.get? a=some o)/\∀ h1 h2:Heap,φ h1->(∀ o,h1.get? a=some o->h2.get? a=some o)->φ h2
def HOk(H:Hp)(h:Heap):Prop:=∀ a o,H a=some o->ga P w H h a o
end
section
variable{P:Program}{w:World}{H H':Hp}{h h':Heap}{a:Addr}{o:HO}
theorem ga.lt(x:ga P w H h a o):a<h.objs.size:=by
 cases o with
 | lst xs=>obtain⟨_,_,_,_,e⟩:=x;exact Heap.lt_size e
 | tup xs=>obtain⟨_,_,_,p⟩:=x;exact p.lt
 | dK kvs=>obtain⟨_,_,_,_,o,_,_,e,_⟩:=x;exact Heap.lt_size e
 | dT kvs=>obtain⟨_,_,_,_,o,_,_,e,_⟩:=x;exact Heap.lt_size e
 | set S n=>obtain⟨o,_,_,_,e,_⟩:=x;exact Heap.lt_size e
 | ins C dx fs=>obtain⟨_,_,_,e,_⟩:=x;exact Heap.lt_size e
 | own y=>obtain⟨_,e⟩:=x;exact Heap.lt_size e
 | xd fs=>obtain⟨_,⟨_,_,_,e,_⟩,_⟩:=x;exact Heap.lt_size e
 | rng lo hi=>obtain⟨_,_,_,e⟩:=x;exact Heap.lt_size e
 | frz ob u=>obtain⟨e,_⟩:=x;exact Heap.lt_size e
 | tbl ps=>exact Heap.lt_size (show h.get? a=some _ from x)
 | met f y=>exact Heap.lt_size (show h.get? a=some _ from x)
 | ext φ=>obtain⟨_,⟨_,e⟩,_⟩:=x;exact Heap.lt_size e
theorem Paired.mapP{α β:Type}{F G:α->β->Prop}:∀ {l₁:List α} {l₂:List β},Paired F l₁ l₂->(∀ a b,F a b->G a b)->Paired G l₁ l₂
 | _,_,.nil,_=>.nil
 | _,_,.cons r t,f=>.cons (f _ _ r) (Paired.mapP t f)
theorem ga.stay(x:ga P w H h a o)(k:∀ b u,(b=a\/H b=some (.own a))->h.get? b=some u->h'.get? b=some u)
  (ho:∀ b,H b=some (.own a)->H' b=some (.own a)) (ht:∀ b xs,H b=some (.tup xs)->H' b=some (.tup xs)):ga P w H' h' a o:=by
 induction o with
 | lst xs=>obtain⟨z,its,n,r,e⟩:=x;exact⟨z,its,n,r,k _ _ (.inl rfl) e⟩
 | tup xs=>obtain⟨z,its,r,ob,e,c⟩:=x;exact⟨z,its,r,ob,k _ _ (.inl rfl) e,c⟩
 | dK kvs=>obtain⟨z,y,vs,r,ob,es,ep,e,c⟩:=x;exact⟨z,y,vs,r,ob,es,ep,k _ _ (.inl rfl) e,c⟩
 | dT kvs=>
  obtain⟨z,y,xs,r,ob,es,ep,e,c⟩:=x
  exact⟨z,y,xs,Paired.mapP r λp q z=>⟨z.1,ht _ _ z.2.1,z.2.2⟩,ob,es,ep,k _ _ (.inl rfl) e,c⟩
 | set S n=>obtain⟨ob,es,ep,t,e,c⟩:=x;exact⟨ob,es,ep,t,k _ _ (.inl rfl) e,c⟩
 | ins C dx fs=>
  obtain⟨d,z,ne,e,mA,⟨od,es,ep,e2,c⟩,r⟩:=x
  exact⟨ho _ d,z,ne,k _ _ (.inl rfl) e,mA,⟨od,es,ep,k _ _ (.inr d) e2,c⟩,r⟩
 | own y=>obtain⟨ob,e⟩:=x;exact⟨ob,k _ _ (.inl rfl) e⟩
 | xd fs=>obtain⟨mA,⟨od,es,ep,e,c⟩,r⟩:=x;exact⟨mA,⟨od,es,ep,k _ _ (.inl rfl) e,c⟩,r⟩
 | rng lo hi=>obtain⟨t,u,v,e⟩:=x;exact⟨t,u,v,k _ _ (.inl rfl) e⟩
 | frz ob u ih=>obtain⟨e,q⟩:=x;exact⟨k _ _ (.inl rfl) e,ih q⟩
 | tbl ps=>
  have e:h.get? a=some { cls:=.none,data:=.fields ps }:=x
  show h'.get? a=some { cls:=.none,data:=.fields ps }
  exact k a _ (.inl rfl) e
 | met f y=>
  have e:h.get? a=some (W.methodObj (.ref f) (.ref y)):=x
  show h'.get? a=some (W.methodObj (.ref f) (.ref y))
  exact k a _ (.inl rfl) e
 | ext φ=>obtain⟨p,⟨o,e⟩,st⟩:=x;exact⟨st _ _ p λo q=>k _ _ (.inl rfl) q,⟨o,k _ _ (.inl rfl) e⟩,st⟩
theorem HOk.lt(x:HOk P w H h)(e:H a=some o):a<h.objs.size:=(x a o e).lt
theorem HOk.fresh(x:HOk P w H h)(e:h.objs.size<=a):H a=none:=by
 cases q:H a with
 | none=>rfl
 | some u=>exact absurd (Nat.lt_of_lt_of_le (x.lt q) e) (Nat.lt_irrefl _)
theorem HOk.kept(x:HOk P w H h)(k:∀ b u,h.get? b=some u->h'.get? b=some u):HOk P w H h':=λa o e=>
 (x a o e).stay (λb u _ q=>k b u q) (λ_ q=>q) λ_ _ q=>q
theorem HOk.laid(x:HOk P w H h)(k:∀ b u,h.get? b=some u->h'.get? b=some u)(hp:h.objs.size<=a)(new:ga P w (upd H a o) h' a o):HOk P w (upd H a o) h':=λb u e=>by
 have hn:=x.fresh hp
 by_cases hb:b=a
 .subst hb;rw[ak]at e;cases e;exact new
 .rw[ay hb]at e
  exact(x b u e).stay (λc v _ q=>k c v q) (λc q=>by rw[ay (ba q hn)];exact q) λc xs q=>by rw[ay (ba q hn)];exact q
end
def Rd(H:Hp)(a:Addr)(u:HO):Prop:=H a=some u\/∃ o,H a=some (.frz o u)
theorem Rd.ok{P:Program}{w:World}{H:Hp}{h:Heap}{a:Addr}{u:HO}(r:Rd H a u)(x:HOk P w H h):ga P w H h a u:=by
 rcases r with r|⟨o,r⟩
 .exact x a u r
 .obtain⟨_,q⟩:=x a _ r
  exact q
def Mut:Option HO->Prop
 | some (.lst _)=>True
 | some (.dK _)=>True
 | some (.dT _)=>True
 | some (.set _ _)=>True
 | some (.ins _ _ _)=>True
 | some (.ext _)=>True
 | _=>False
section
variable{P:Program}{w:World}{H:Hp}{h h':Heap}{x e:Addr}{o':HO}
theorem HOk.write(ok:HOk P w H h)(mu:Mut (H x))(he:e=x\/H e=some (.own x))(k:∀ b u,b≠e->h.get? b=some u->h'.get? b=some u)(heo:∃ u,h'.get? e=some u)
  (new:ga P w (upd H x o') h' x o'):HOk P w (upd H x o') h':=λb u q=>by
 have nown:∀ c y,H c=some (.own y)->c≠x:=λc y r z=>by subst z;rw[r]at mu;exact mu
 have ntup:∀ c xs,H c=some (.tup xs)->c≠x:=λc xs r z=>by subst z;rw[r]at mu;exact mu
 by_cases hb:b=x
 .subst hb;rw[ak]at q;cases q;exact new
 .rw[ay hb]at q
  by_cases hbe:b=e
  .have q':H b=some (.own x):=by
    rcases he with z|z
    .exact absurd (hbe.trans z) hb
    .rw[hbe];exact z
   rw[q]at q';cases q'
   obtain⟨v,hv⟩:=heo
   exact⟨v,by rw[hbe];exact hv⟩
  .refine(ok b u q).stay (λc v hc r=>k c v ?_ r) (λc r=>by rw[ay (nown c b r)];exact r) λc xs r=>by rw[ay (ntup c xs r)];exact r
   rcases hc with rfl|hc
   .exact hbe
   .rintro rfl
    rcases he with z|z
    .exact nown c b hc z
    .rw[hc]at z;cases z;exact hb rfl
end
structure Un(fs ex:List Addr)(H H':Hp)(h h':Heap):Prop where
 keep:∀ b o,h.get? b=some o->H b=none->b ∉ fs->b ∉ ex->h'.get? b=some o
 slot:∀ b o,h.get? b=some o->H b=none->b∈fs->b ∉ ex->∃ sl,h'.get? b=some { o with slots:=sl }
 free:∀ b o,h.get? b=some o->H b=none->b ∉ ex->H' b=none
 there:∀ b o,h.get? b=some o->b ∉ ex->∃ o',h'.get? b=some o'
 tups:∀ b xs,H b=some (.tup xs)->H' b=some (.tup xs)
 frzs:∀ b o u,H b=some (.frz o u)->H' b=some (.frz o u)
 tbls:∀ b ps,H b=some (.tbl ps)->∃ more,H' b=some (.tbl (ps++more))
section
variable{fs fs' ex ex':List Addr}{H H1 H2:Hp}{h h1 h2 h':Heap}{a x e:Addr}{o:HO}
theorem Un.any(u:Un fs ex H H1 h h1){b:Addr}{ob:Obj}(q:h.get? b=some ob)(n:H b=none)(hx:b ∉ ex):∃ sl,h1.get? b=some { ob with slots:=sl }:=by
 by_cases hb:b∈fs
 .exact u.slot b ob q n hb hx
 .exact⟨ob.slots,u.keep b ob q n hb hx⟩
theorem Un.kept(k:∀ b u,h.get? b=some u->h'.get? b=some u):Un fs ex H H h h' :=
 ⟨λb ob q _ _ _=>k b ob q,λb ob q _ _ _=>⟨ob.slots,k b ob q⟩,λ_ _ _ n _=>n,λb ob q _=>⟨ob,k b ob q⟩,λ_ _ q=>q,λ_ _ _ q=>q,λ_ ps q=>⟨#[],by rw[q];simp⟩⟩
theorem Un.refl:Un fs ex H H h h:=Un.kept λ_ _ q=>q
theorem Un.laid(k:∀ b u,h.get? b=some u->h'.get? b=some u)(hp:h.objs.size<=a)(hn:H a=none):Un fs ex H (upd H a o) h h' where
 keep:=λb u q _ _ _=>k b u q
 slot:=λb u q _ _ _=>⟨u.slots,k b u q⟩
 free:=λb u q n _=>by rw[ay (Nat.ne_of_lt (Nat.lt_of_lt_of_le (Heap.lt_size q) hp))];exact n
 there:=λb u q _=>⟨u,k b u q⟩
 tups:=λb xs q=>by rw[ay (ba q hn)];exact q
 frzs:=λb u xs q=>by rw[ay (ba q hn)];exact q
 tbls:=λb ps q=>⟨#[],by rw[ay (ba q hn),q];simp⟩
theorem Un.write(mu:Mut (H x))(he:e=x\/H e=some (.own x))(k:∀ b u,b≠e->h.get? b=some u->h'.get? b=some u)(heo:∃ u,h'.get? e=some u):Un fs ex H (upd H x o) h h':=by
 have hx:∀ b,H b=none->b≠x:=λb n z=>by subst z;rw[n]at mu;exact mu
 have hb:∀ b,H b=none->b≠e:=λb n z=>by
  subst z
  rcases he with r|r
  .exact hx b n r
  .rw[n]at r;cases r
 have hm:∀ b u,H b=some u->¬ Mut (some u)->b≠x:=λb u q nm z=>by subst z;rw[q]at mu;exact nm mu
 refine⟨λb u q n _ _=>k b u (hb b n) q,λb u q n _ _=>⟨u.slots,k b u (hb b n) q⟩,λb u q n _=>by rw[ay (hx b n)];exact n,λb u q _=>?_,
  λb xs q=>by rw[ay (hm b _ q λz=>z)];exact q,λb u xs q=>by rw[ay (hm b _ q λz=>z)];exact q,λb ps q=>⟨#[],by rw[ay (hm b _ q λz=>z),q];simp⟩⟩
 by_cases hbe:b=e
 .subst hbe;exact heo
 .exact⟨u,k b u hbe q⟩
end
def trk(h:Heap)(H:Hp):List Addr:=(List.range h.objs.size).filter λa=>(H a).isSome
def hidT(h:Heap)(H:Hp):Heap:=W.hideAll h (trk h H)
theorem K0(h:Heap)(H:Hp):(hidT h H).objs.size=h.objs.size:=W.hideAll_size _ _
theorem rm{h:Heap}{H:Hp}{b:Addr}{o:Obj}(e:h.get? b=some o)(n:H b=none):(hidT h H).get? b=some o:=
 W.hideAll_get _ e λhm=>by
  have q:(H b).isSome=true:=(List.mem_filter.mp hm).2
  rw[n]at q;simp at q
theorem R5{h:Heap}{H:Hp}{b:Addr}{o:Obj}(e:(hidT h H).get? b=some o):h.get? b=some o/\H b=none:=by
 have e':h.get? b=some o:=W.of_hideAll (trk h H) e
 refine⟨e',?_⟩
 cases q:H b with
 | none=>rfl
 | some x=>
  have hm:b∈trk h H:=List.mem_filter.mpr ⟨List.mem_range.mpr (Heap.lt_size e'),by simp[q]⟩
  have z:(hidT h H).get? b=none:=W.hideAll_none (trk h H) hm
  rw[z]at e;cases e
def l6(g h:Heap)(L:Addr):List (Addr×Obj):=(List.range h.objs.size).filterMap λa=>if a=L\/(g.get? a).isSome=true then none else (h.get? a).map λo=>(a,o)
theorem ud{g h:Heap}{L a:Addr}{o:Obj}(h1:a≠L)(h2:g.get? a=none)(h3:h.get? a=some o):(a,o)∈l6 g h L :=
 List.mem_filterMap.mpr ⟨a,List.mem_range.mpr (Heap.lt_size h3),by simp[h1,h2,h3]⟩
theorem wp{g h:Heap}{L:Addr}{p:Addr×Obj}(hp:p∈l6 g h L):p.1≠L/\g.get? p.1=none/\h.get? p.1=some p.2:=by
 obtain⟨b,_,e⟩:=List.mem_filterMap.mp hp
 split at e
 .cases e
 .rename_i hn
  cases q:h.get? b with
  | none=>rw[q]at e;simp at e
  | some u=>
   rw[q]at e
   simp only[Option.map_some,Option.some.injEq]at e
   subst e
   refine⟨λz=>hn (.inl z),?_,q⟩
   show g.get? b=none
   cases r:g.get? b with
   | none=>rfl
   | some v=>exact(hn (.inr (by simp[r]))).elim
def rest(g h:Heap)(L d:Addr):List (Addr×Obj):=(l6 g h L).filter λp=>decide (p.1≠d)
theorem Oa{g h:Heap}{L:Addr}:News g L h (l6 g h L):=λp hp=>let ⟨a,b,c⟩:=wp hp;⟨c,a,b⟩
structure Mod(K:W.Frag)(mg:Str->Option Value)(base:Heap):Prop where
 kin:K.In base
 glob:base.Ns mainGlobals mg
 blt:∃ mb,base.Ns builtinsNs mb/\∀ x:Str,x≠"__name__"->mb x=bootBuiltins x
 nolimit:base.NoLimit
structure Cx where
 prog:Program
 w:World
 K:W.Frag
 mg:Str->Option Value
 base:Heap
 A:Around
 N:List Str
 s_0:Shared
 H_0:Hp
 env:Env
 outer:List Env
 stack:List Env
 ex:List Addr
 fn:Str->Bool
 calm:Bool
 pn:List (Addr×Obj)
 xe:Value->Shared->Prop
def frs(l:List Env):List Addr:=l.filterMap (·.frame)
abbrev Cx.fs(X:Cx):List Addr:=frs X.outer
def Vis(sc:Scope)(x:Str):Prop:=sc.names.lookup x=some .local\/sc.names.lookup x=some .cell\/sc.names.lookup x=some .free
def Loc(sc:Scope)(x:Str):Prop:=sc.names.lookup x=some .local\/sc.names.lookup x=some .cell
def Look(env:Env)(h:Heap)(m:Str->Option Value)(x:Str)(u:Value):Prop:=
 (env.kindOf x=some .local/\m x=some u)\/((env.kindOf x=some .cell\/env.kindOf x=some .free)/\∃ c,env.cells.lookup x=some c/\h.IsCell c (some u))
structure Cx.Ok(X:Cx):Prop where
 mod:Mod X.K X.mg X.base
 kind:X.env.scope.kind=.function
 glob:X.env.globals=mainGlobals
 blt:X.env.builtins=builtinsNs
 above:X.s_0.heap.objs.size<=X.env.locals
 inj:∀ x y c,X.env.cells.lookup x=some c->X.env.cells.lookup y=some c->x=y
 has:∀ x,(X.env.kindOf x=some .cell\/X.env.kindOf x=some .free)->∃ c,X.env.cells.lookup x=some c
 cab:∀ x c,X.fn x=true->X.env.cells.lookup x=some c->X.s_0.heap.objs.size<=c
 hd:X.calm=true->X.A.handled=none
 frames:X.A.frames=some X.stack
 stk:X.stack=X.outer\/(X.stack=X.env::X.outer/\X.env.frame=some X.env.locals)
 exf:∀ b∈X.ex,b≠X.env.locals/\∀ x c,X.env.cells.lookup x=some c->c≠b
 bs:∀ b o,X.base.get? b=some o->X.s_0.heap.get? b=some o/\X.H_0 b=none
 bsz:X.base.objs.size<=X.s_0.heap.objs.size
 noex:∀ b o,X.base.get? b=some o->b ∉ X.ex
 exfs:∀ b∈X.ex,b ∉ X.fs
 funs:X.s_0.heap.FunFrames X.base X.outer
 frf:∀ b∈X.fs,X.H_0 b=none
structure Inv(X:Cx)(pins:List (Addr×Obj))(Z:List (Option V))(H:Hp)(s:Shared):Prop where
 ok:X.Ok
 os:s.os=X.s_0.os
 bare:AllBare s.gens
 base:Un X.fs X.ex X.H_0 H X.s_0.heap s.heap
 loc:∃ m,s.heap.Ns X.env.locals m/\∀ (i:Nat) (x:Str) (v:V),X.N[i]? = some x->Z[i]? = some (some v)->Vis X.env.scope x->∃ u,RelV v u/\Look X.env s.heap m x u
 cell:∀ x c,X.env.cells.lookup x=some c->∃ v,s.heap.IsCell c v
 free:H X.env.locals=none
 freeC:∀ x c,X.env.cells.lookup x=some c->H c=none
 pin:∀ p∈X.pn++pins,s.heap.get? p.1=some p.2/\H p.1=none/\p.1≠X.env.locals/\p.1 ∉ X.fs/\∀ v,p.2.data≠.cell v
 hok:HOk X.prog X.w H s.heap
 len:Z.length=X.N.length
section
variable{X:Cx}{pins:List (Addr×Obj)}{Z:List (Option V)}{H H':Hp}{s:Shared}{h':Heap}
theorem Cx.Ok.nofr(ok:X.Ok){b:Addr}{o:Obj}(e:X.base.get? b=some o):b ∉ X.fs:=λhb=>by
 have:=(ok.funs.mem hb).1
 rw[e]at this;cases this
theorem Inv.bs(I:Inv X pins Z H s):∀ b o,X.base.get? b=some o->s.heap.get? b=some o/\H b=none:=λb o e=>
 ⟨I.base.keep b o (I.ok.bs b o e).1 (I.ok.bs b o e).2 (I.ok.nofr e) (I.ok.noex b o e),I.base.free b o (I.ok.bs b o e).1 (I.ok.bs b o e).2 (I.ok.noex b o e)⟩
theorem Inv.bk(I:Inv X pins Z H s):∀ b o,X.base.get? b=some o->s.heap.get? b=some o:=λb o e=>(I.bs b o e).1
theorem Inv.mod(I:Inv X pins Z H s):Mod X.K X.mg X.base:=I.ok.mod
theorem Inv.kIn(I:Inv X pins Z H s):X.K.In s.heap:=I.ok.mod.kin.keeps I.bk
theorem Inv.nolimit(I:Inv X pins Z H s):s.heap.NoLimit:=I.ok.mod.nolimit.keeps I.bk
theorem Inv.lt(I:Inv X pins Z H s):X.env.locals<s.heap.objs.size:=let ⟨_,hn,_⟩:=I.loc;hn.lt
theorem Inv.sz(I:Inv X pins Z H s):X.s_0.heap.objs.size<=s.heap.objs.size:=Nat.le_trans I.ok.above (Nat.le_of_lt I.lt)
theorem Inv.nofs(I:Inv X pins Z H s){a:Addr}(h:s.heap.objs.size<=a):a ∉ X.fs:=λhb=>by
 obtain⟨_,o,ho,_⟩:=I.ok.funs.mem hb
 exact absurd (Nat.lt_of_lt_of_le (Heap.lt_size ho) (Nat.le_trans I.sz h)) (Nat.lt_irrefl _)
theorem Inv.cne(I:Inv X pins Z H s):∀ x c,X.env.cells.lookup x=some c->c≠X.env.locals:=λx c e z=>by
 obtain⟨v,o,ho,hd⟩:=I.cell x c e
 obtain⟨m,⟨o',es,ep,ho',hd',_⟩,_⟩:=I.loc
 rw[z,ho']at ho;cases ho;rw[hd']at hd;cases hd
theorem Inv.funs(I:Inv X pins Z H s):s.heap.FunFrames X.base X.outer:=by
 have all:∀ (l:List Env),(∀ b∈frs l,b∈X.fs)->X.s_0.heap.FunFrames X.base l->s.heap.FunFrames X.base l:=by
  intro l
  induction l with
  | nil=>intro _ _;trivial
  | cons env r ih=>
   intro hs hl
   obtain⟨hk,⟨L,o,hf,hn,ho,hd⟩,hr⟩:=hl
   have hL:L∈X.fs:=hs L (by unfold frs;rw[List.filterMap_cons,hf];exact List.mem_cons_self)
   obtain⟨sl,e⟩:=I.base.slot L o ho (I.ok.frf L hL) hL λz=>I.ok.exfs L z hL
   exact⟨hk,⟨L,_,hf,hn,e,hd⟩,ih (λb hb=>hs b (by unfold frs;rw[List.filterMap_cons,hf];exact List.mem_cons_of_mem _ hb)) hr⟩
 exact all X.outer (λ_ hb=>hb) I.ok.funs
theorem Inv.stack(I:Inv X pins Z H s):s.heap.FunFrames X.base X.stack:=by
 rcases I.ok.stk with e|⟨e,hf⟩
 .rw[e];exact I.funs
 .rw[e]
  obtain⟨m,hn,_⟩:=I.loc
  refine .cons (by rw[I.ok.kind];decide) hf hn ?_ I.funs
  exact Heap.get?_none_of_le (Nat.le_trans I.ok.bsz I.ok.above)
theorem Inv.stkSub(I:Inv X pins Z H s):∀ b∈frs X.stack,b∈X.env.locals::X.fs:=λb hb=>by
 rcases I.ok.stk with e|⟨e,hf⟩
 .rw[e]at hb;exact List.mem_cons_of_mem _ hb
 .rw[e]at hb
  unfold frs at hb
  rw[List.filterMap_cons,hf]at hb
  exact hb
theorem Inv.stkFree(I:Inv X pins Z H s):∀ b∈frs X.stack,H b=none:=λb hb=>by
 rcases List.mem_cons.mp (I.stkSub b hb) with e|hb
 .rw[e];exact I.free
 .obtain⟨_,o,ho,_⟩:=I.ok.funs.mem hb
  exact I.base.free b o ho (I.ok.frf b hb) λz=>I.ok.exfs b z hb
theorem Inv.step{g':Array GenState}{t':Nat}{d':Drawn}{ch:List Addr}(I:Inv X pins Z H s)
  (hch:∀ b∈ch,(b∈X.ex\/X.s_0.heap.objs.size<=b)/\b≠X.env.locals/\(∀ x c,X.env.cells.lookup x=some c->c≠b)/\∀ p∈X.pn++pins,p.1≠b)
  (keep:∀ b o,b≠X.env.locals->b ∉ X.fs->b ∉ ch->s.heap.get? b=some o->H b=none->h'.get? b=some o)
  (slot:∀ b o,b≠X.env.locals->b∈X.fs->b ∉ ch->s.heap.get? b=some o->H b=none->∃ sl,h'.get? b=some { o with slots:=sl }) (free:∀ b o,b ∉ ch->s.heap.get? b=some o->H b=none->H' b=none)
  (there:∀ b o,b ∉ ch->s.heap.get? b=some o->∃ o',h'.get? b=some o')
  (tups:∀ b xs,H b=some (.tup xs)->H' b=some (.tup xs)) (frzs:∀ b o u,H b=some (.frz o u)->H' b=some (.frz o u)) (tbls:∀ b ps,H b=some (.tbl ps)->∃ more,H' b=some (.tbl (ps++more)))
  (ns:∀ m,s.heap.Ns X.env.locals m->h'.Ns X.env.locals m) (hok:HOk X.prog X.w H' h') (hg:AllBare g') :
  Inv X pins Z H' { s with heap:=h',gens:=g',drawn:=d',toks:=t' }:=by
 have neL:∀ b o,X.s_0.heap.get? b=some o->b≠X.env.locals:=λb o e=>Nat.ne_of_lt (Nat.lt_of_lt_of_le (Heap.lt_size e) I.ok.above)
 have neC:∀ b o,X.s_0.heap.get? b=some o->b ∉ X.ex->b ∉ ch:=λb o e hx hb=>by
  rcases (hch b hb).1 with z|z
  .exact hx z
  .exact absurd (Nat.lt_of_lt_of_le (Heap.lt_size e) z) (Nat.lt_irrefl _)
 have cellK:∀ x c,X.env.cells.lookup x=some c->∀ v,s.heap.IsCell c v->h'.IsCell c v:=λx c e v ⟨o,ho,hd⟩=>by
  have nch:c ∉ ch:=λz=>(hch c z).2.2.1 x c e rfl
  by_cases hc:c∈X.fs
  .obtain⟨sl,q⟩:=slot c o (I.cne x c e) hc nch ho (I.freeC x c e)
   exact⟨_,q,hd⟩
  .exact⟨o,keep c o (I.cne x c e) hc nch ho (I.freeC x c e),hd⟩
 refine⟨I.ok,I.os,hg,⟨λb o e n hb hx=>?_,λb o e n hb hx=>?_,λb o e n hx=>?_,λb o e hx=>?_,λb xs e=>tups b xs (I.base.tups b xs e),λb o xs e=>frzs b o xs (I.base.frzs b o xs e),λb ps e=>?_⟩,?_,λx c e=>?_,?_,λx c e=>?_,λp hp=>?_,hok,I.len⟩
 .exact keep b o (neL b o e) hb (neC b o e hx) (I.base.keep b o e n hb hx) (I.base.free b o e n hx)
 .obtain⟨sl,e1⟩:=I.base.slot b o e n hb hx
  obtain⟨sl',e2⟩:=slot b _ (neL b o e) hb (neC b o e hx) e1 (I.base.free b o e n hx)
  exact⟨sl',e2⟩
 .obtain⟨o',e1⟩:=I.base.there b o e hx
  exact free b o' (neC b o e hx) e1 (I.base.free b o e n hx)
 .obtain⟨o',e1⟩:=I.base.there b o e hx
  exact there b o' (neC b o e hx) e1
 .obtain⟨m1,e1⟩:=I.base.tbls b ps e
  obtain⟨m2,e2⟩:=tbls b _ e1
  exact⟨m1++m2,by rw[e2,Array.append_assoc]⟩
 .obtain⟨m,hn,hl⟩:=I.loc
  refine⟨m,ns m hn,λi x v e1 e2 e3=>?_⟩
  obtain⟨u,r,l⟩:=hl i x v e1 e2 e3
  refine⟨u,r,?_⟩
  rcases l with l|⟨k,c,e,z⟩
  .exact .inl l
  .exact .inr ⟨k,c,e,cellK x c e _ z⟩
 .obtain⟨v,z⟩:=I.cell x c e
  exact⟨v,cellK x c e v z⟩
 .obtain⟨m,⟨o,_,_,ho,_⟩,_⟩:=I.loc
  exact free _ o (λz=>(hch _ z).2.1 rfl) ho I.free
 .obtain⟨v,o,ho,hd⟩:=I.cell x c e
  exact free c o (λz=>(hch c z).2.2.1 x c e rfl) ho (I.freeC x c e)
 .obtain⟨e,n,ne,nf,d⟩:=I.pin p hp
  have nch:p.1 ∉ ch:=λz=>(hch p.1 z).2.2.2 p hp rfl
  exact⟨keep p.1 p.2 ne nf nch e n,free p.1 p.2 nch e n,ne,nf,d⟩
theorem Inv.un{t':Nat}(I:Inv X pins Z H s)(u:Un X.fs [] H H' s.heap h')(hok:HOk X.prog X.w H' h'):Inv X pins Z H' { s with heap:=h',toks:=t' }:=by
 obtain⟨m,⟨o,es,ep,ho,r⟩,_⟩:=id I.loc
 obtain⟨sl,hL⟩:=u.any ho I.free (by simp)
 exact I.step (g':=s.gens) (d':=s.drawn) (ch:=[]) (λ_ z=>nomatch z) (λb o _ hb _ e n=>u.keep b o e n hb (by simp)) (λb o _ hb _ e n=>u.slot b o e n hb (by simp)) (λb o _ e n=>u.free b o e n (by simp)) (λb o _ e=>u.there b o e (by simp)) u.tups u.frzs u.tbls (λm' hm=>by
  obtain⟨o',es',ep',ho',r'⟩:=hm
  rw[ho]at ho';cases ho'
  exact⟨_,es',ep',hL,r'⟩) hok I.bare
theorem Inv.call{g':Array GenState}{t':Nat}{d':Drawn}{ch:List Addr}(I:Inv X pins Z H s)(u:Un (frs X.stack) ch H H' s.heap h')(hok:HOk X.prog X.w H' h')(hg:AllBare g')
  (hch:∀ b∈ch,(b∈X.ex\/X.s_0.heap.objs.size<=b)/\b≠X.env.locals/\(∀ x c,X.env.cells.lookup x=some c->c≠b)/\∀ p∈X.pn++pins,p.1≠b) :
  Inv X pins Z H' { s with heap:=h',gens:=g',drawn:=d',toks:=t' }:=by
 obtain⟨m,⟨o,es,ep,ho,r⟩,_⟩:=id I.loc
 obtain⟨sl,hL⟩:=u.any ho I.free λz=>(hch _ z).2.1 rfl
 exact I.step (ch:=ch) hch (λb o hL hb hc e n=>u.keep b o e n (λz=>(List.mem_cons.mp (I.stkSub b z)).elim hL hb) hc) (λb o _ _ hc e n=>u.any e n hc) (λb o hc e n=>u.free b o e n hc) (λb o hc e=>u.there b o e hc) u.tups u.frzs u.tbls (λm' hm=>by
  obtain⟨o',es',ep',ho',r'⟩:=hm
  rw[ho]at ho';cases ho'
  exact⟨_,es',ep',hL,r'⟩) hok hg
theorem Inv.turned{t':Nat}{it:Addr}(I:Inv X pins Z H s)(k:∀ b o,b≠it->s.heap.get? b=some o->h'.get? b=some o)(hn:H it=none)(hL:it≠X.env.locals)
  (h1:it∈X.ex\/X.s_0.heap.objs.size<=it) (h2:∀ x c,X.env.cells.lookup x=some c->c≠it) (h3:∀ p∈X.pn++pins,p.1≠it):Inv X pins Z H { s with heap:=h',toks:=t' }:=by
 have nit:∀ b u,H b=some u->b≠it:=λb u e z=>by rw[z,hn]at e;cases e
 refine I.step (g':=s.gens) (d':=s.drawn) (ch:=[it]) (λb hb=>?_) (λb o _ _ hc e _=>k b o (λz=>hc (by simp[z])) e) (λb o _ _ hc e _=>⟨o.slots,k b o (λz=>hc (by simp[z])) e⟩) (λ_ _ _ _ n=>n)
  (λb o hc e=>⟨o,k b o (λz=>hc (by simp[z])) e⟩) (λ_ _ e=>e) (λ_ _ _ e=>e) (λb ps e=>⟨#[],by rw[e];simp⟩) (λm hm=>?_) (λb u e=>?_) I.bare
 .have e:b=it:=by simpa using hb
  subst e
  exact⟨h1,hL,h2,h3⟩
 .obtain⟨o,es,ep,ho,r⟩:=hm
  exact⟨o,es,ep,k _ o (Ne.symm hL) ho,r⟩
 .refine(I.hok b u e).stay (λc v hc q=>k c v ?_ q) (λ_ q=>q) λ_ _ q=>q
  rcases hc with z|z
  .rw[z];exact nit b u e
  .exact nit c _ z
theorem Inv.tok(I:Inv X pins Z H s)(t:Nat):Inv X pins Z H { s with toks:=t }:=I.un (h':=s.heap) (t':=t) Un.refl I.hok
theorem Inv.kept{t':Nat}(I:Inv X pins Z H s)(k:∀ b u,s.heap.get? b=some u->h'.get? b=some u):Inv X pins Z H { s with heap:=h',toks:=t' }:=I.un (Un.kept k) (I.hok.kept k)
theorem Inv.laid{a:Addr}{o:HO}{t':Nat}(I:Inv X pins Z H s)(k:∀ b u,s.heap.get? b=some u->h'.get? b=some u)(hp:s.heap.objs.size<=a)(new:ga X.prog X.w (upd H a o) h' a o) :
  Inv X pins Z (upd H a o) { s with heap:=h',toks:=t' }:=I.un (Un.laid k hp (I.hok.fresh hp)) (I.hok.laid k hp new)
theorem Inv.write{x e:Addr}{o:HO}{t':Nat}(I:Inv X pins Z H s)(mu:Mut (H x))(he:e=x\/H e=some (.own x))(k:∀ b u,b≠e->s.heap.get? b=some u->h'.get? b=some u)(heo:∃ u,h'.get? e=some u)
  (new:ga X.prog X.w (upd H x o) h' x o):Inv X pins Z (upd H x o) { s with heap:=h',toks:=t' }:=I.un (Un.write mu he k heo) (I.hok.write mu he k heo new)
theorem Inv.weak{Z':List (Option V)}(I:Inv X pins Z H s)(hl:Z'.length=Z.length)(w:∀ (i:Nat) v,Z'[i]? = some (some v)->Z[i]? = some (some v)):Inv X pins Z' H s:=
 ⟨I.ok,I.os,I.bare,I.base,let ⟨m,hn,hl'⟩:=I.loc;⟨m,hn,λi x v e1 e2 e3=>hl' i x v e1 (w i v e2) e3⟩,I.cell,I.free,I.freeC,I.pin,I.hok,hl.trans I.len⟩
theorem Inv.pins_of{pins':List (Addr×Obj)}(I:Inv X pins Z H s)(h:∀ p∈pins',s.heap.get? p.1=some p.2/\H p.1=none/\p.1≠X.env.locals/\p.1 ∉ X.fs/\∀ v,p.2.data≠.cell v):Inv X pins' Z H s:=
 ⟨I.ok,I.os,I.bare,I.base,I.loc,I.cell,I.free,I.freeC,λp hp=>(List.mem_append.mp hp).elim (λz=>I.pin p (List.mem_append_left _ z)) (h p),I.hok,I.len⟩
theorem Aa{N:List Str}(hN:N.Nodup){i j:Nat}{x:Str}(a:N[i]? = some x)(b:N[j]? = some x):i=j:=by
 obtain⟨h1,e1⟩:=List.getElem?_eq_some_iff.mp a
 obtain⟨h2,e2⟩:=List.getElem?_eq_some_iff.mp b
 exact(List.getElem_inj hN).mp (e1.trans e2.symm)
theorem A4{M:Model}{A:Around}{E:Value->Shared->Prop}{i:Nat}{x:Str}{v:V}{u:Value}{Q:Unit->Shared->Prop}(I:Inv X pins Z H s)(hN:X.N.Nodup)(hi:X.N[i]? = some x)(hx:Loc X.env.scope x)(r:RelV v u)
  (h:∀ s',Inv X pins (Z.set i (some v)) H s'->(∃ a,Heap.SameBut a s.heap s'.heap/\(a=X.env.locals\/X.env.cells.lookup x=some a))->Q () s') (hf:X.fn x=true\/X.env.scope.names.lookup x=some .local:=by first|exact .inl rfl|exact .inr rfl|assumption):wpAny M A (storeName X.env x u) Q E s:=by
 obtain⟨m,hn,hl⟩:=id I.loc
 have hcls:(X.env.scope.kind==.class||(X.env.scope.kind==.module&&X.env.locals != X.env.globals))=false:=by rw[I.ok.kind];rfl
 have hiZ:i < Z.length:=by rw[I.len];exact(List.getElem?_eq_some_iff.mp hi).1
 have cne:=I.cne
 have tracked:∀ {a:Addr} {h':Heap},(∃ o,s.heap.get? a=some o/\H a=none)->Heap.SameBut a s.heap h'->HOk X.prog X.w H h':=λ{a h'} ha hs b ob e=>by
  obtain⟨_,_,hfree⟩:=ha
  refine(I.hok b ob e).stay (λc w' hc q=>(hs.2 c ?_).trans q) (λ_ q=>q) λ_ _ q=>q
  rintro rfl
  rcases hc with rfl|hc
  .rw[hfree]at e;cases e
  .rw[hfree]at hc;cases hc
 rcases hx with hk|hk
 .refine wpAny_storeName_local hk hn (λh' hn' hs=>?_) hcls
  obtain⟨oL,_,_,hoL,_⟩:=id hn
  refine h _ ⟨I.ok,I.os,I.bare,⟨λb o e n hb hx=>?_,λb o e n hb hx=>?_,I.base.free,λb o e hx=>?_,I.base.tups,I.base.frzs,I.base.tbls⟩,⟨_,hn',λj y v' e1 e2 e3=>?_⟩,λy c e=>?_,I.free,I.freeC,λp hp=>?_,tracked ⟨oL,hoL,I.free⟩ hs,by simpa using I.len⟩ ⟨_,hs,.inl rfl⟩
  .exact(hs.2 b (Nat.ne_of_lt (Nat.lt_of_lt_of_le (Heap.lt_size e) I.ok.above))).trans (I.base.keep b o e n hb hx)
  .obtain⟨sl,e1⟩:=I.base.slot b o e n hb hx
   exact⟨sl,(hs.2 b (Nat.ne_of_lt (Nat.lt_of_lt_of_le (Heap.lt_size e) I.ok.above))).trans e1⟩
  .obtain⟨o',e1⟩:=I.base.there b o e hx
   exact⟨o',(hs.2 b (Nat.ne_of_lt (Nat.lt_of_lt_of_le (Heap.lt_size e) I.ok.above))).trans e1⟩
  .by_cases hj:j=i
   .subst hj
    rw[hi]at e1;cases e1
    rw[List.getElem?_set_self hiZ]at e2
    cases e2
    exact⟨u,r,.inl ⟨hk,by simp⟩⟩
   .rw[List.getElem?_set_ne (Ne.symm hj)]at e2
    obtain⟨u',r',q⟩:=hl j y v' e1 e2 e3
    refine⟨u',r',?_⟩
    rcases q with ⟨k,e⟩|⟨k,c,e,z⟩
    .refine .inl ⟨k,?_⟩
     have:y≠x:=λe=>hj (Aa hN e1 (e ▸ hi))
     simp[this,e]
    .exact .inr ⟨k,c,e,z.sameBut hs (cne y c e)⟩
  .obtain⟨w',z⟩:=I.cell y c e
   exact⟨w',z.sameBut hs (cne y c e)⟩
  .obtain⟨e,n,ne,nf,d⟩:=I.pin p hp
   exact⟨(hs.2 p.1 ne).trans e,n,ne,nf,d⟩
 .have hfn:X.fn x=true:=by
   rcases hf with z|z
   .exact z
   .rw[z]at hk;cases hk
  obtain⟨c,hc⟩:=I.ok.has x (.inl hk)
  obtain⟨w',z⟩:=I.cell x c hc
  refine wpAny_storeName_cell I.ok.kind hk hc z (λh' hc' hs=>?_)
  obtain⟨oc,hoc,hocd⟩:=id z
  refine h { s with heap:=h' } ⟨I.ok,I.os,I.bare,⟨λb o e n hb hx=>?_,λb o e n hb hx=>?_,I.base.free,λb o e hx=>?_,I.base.tups,I.base.frzs,I.base.tbls⟩,⟨m,hn.sameBut hs (Ne.symm (cne x c hc)),λj y v' e1 e2 e3=>?_⟩,λy c' e=>?_,I.free,I.freeC,λp hp=>?_,tracked ⟨oc,hoc,I.freeC x c hc⟩ hs,by simpa using I.len⟩ ⟨c,hs,.inr hc⟩
  .exact(hs.2 b (Nat.ne_of_lt (Nat.lt_of_lt_of_le (Heap.lt_size e) (I.ok.cab x c hfn hc)))).trans (I.base.keep b o e n hb hx)
  .obtain⟨sl,e1⟩:=I.base.slot b o e n hb hx
   exact⟨sl,(hs.2 b (Nat.ne_of_lt (Nat.lt_of_lt_of_le (Heap.lt_size e) (I.ok.cab x c hfn hc)))).trans e1⟩
  .obtain⟨o',e1⟩:=I.base.there b o e hx
   exact⟨o',(hs.2 b (Nat.ne_of_lt (Nat.lt_of_lt_of_le (Heap.lt_size e) (I.ok.cab x c hfn hc)))).trans e1⟩
  .by_cases hj:j=i
   .subst hj
    rw[hi]at e1;cases e1
    rw[List.getElem?_set_self hiZ]at e2
    cases e2
    exact⟨u,r,.inr ⟨.inl hk,c,hc,hc'⟩⟩
   .rw[List.getElem?_set_ne (Ne.symm hj)]at e2
    obtain⟨u',r',q⟩:=hl j y v' e1 e2 e3
    refine⟨u',r',?_⟩
    rcases q with q|⟨k,c',e,z'⟩
    .exact .inl q
    .refine .inr ⟨k,c',e,z'.sameBut hs ?_⟩
     rintro rfl
     exact hj (Aa hN e1 (I.ok.inj _ _ _ e hc ▸ hi))
  .by_cases hcc:c'=c
   .subst hcc;exact⟨_,hc'⟩
   .obtain⟨w2,z2⟩:=I.cell y c' e
    exact⟨w2,z2.sameBut hs hcc⟩
  .obtain⟨e,n,ne,nf,d⟩:=I.pin p hp
   refine⟨(hs.2 p.1 ?_).trans e,n,ne,nf,d⟩
   intro q
   rw[q,hoc]at e
   have q':oc=p.2:=Option.some.inj e
   exact d w' (by rw[<- q'];exact hocd)
theorem y3{M:Model}{A:Around}{E:Value->Shared->Prop}{i:Nat}{x:Str}{v:V}{u:Value}{Q:Unit->Shared->Prop}(I:Inv X pins Z H s)(hN:X.N.Nodup)(hi:X.N[i]? = some x)(hx:Loc X.env.scope x)(r:RelV v u)
  (h:∀ s',Inv X pins (Z.set i (some v)) H s'->Q () s') (hf:X.fn x=true\/X.env.scope.names.lookup x=some .local:=by first|exact .inl rfl|exact .inr rfl|assumption):wpAny M A (storeName X.env x u) Q E s:=
 A4 I hN hi hx r (λs' I' _=>h s' I') hf
theorem Inv.call'{s':Shared}{ch:List Addr}(I:Inv X pins Z H s)(ho:s'.os=s.os)(u:Un (frs X.stack) ch H H' s.heap s'.heap)(hok:HOk X.prog X.w H' s'.heap)(hg:AllBare s'.gens)
  (hch:∀ b∈ch,(b∈X.ex\/X.s_0.heap.objs.size<=b)/\b≠X.env.locals/\(∀ x c,X.env.cells.lookup x=some c->c≠b)/\∀ p∈X.pn++pins,p.1≠b):Inv X pins Z H' s':=by
 obtain⟨h',g',d',t',o'⟩:=s'
 have e:o'=s.os:=ho
 subst e
 exact I.call (g':=g') (t':=t') (d':=d') u hok hg hch
end
abbrev XK:=Value->Option Addr->Hp->Prop
abbrev St:=List (Option V)
abbrev VK:=V->Hp->Prop
abbrev TE:=St->Hp->VK->Prop
abbrev TT:=St->Hp->(Bool->Hp->Prop)->Prop
abbrev TA:=St->Hp->(List V->Hp->Prop)->Prop
structure Ends where
 nx:St->Hp->Prop
 rt:VK
 bk:St->Hp->Prop:=λ_ _=>False
 ct:St->Hp->Prop:=λ_ _=>False
abbrev TS:=Ends->St->Hp->Prop
def EP(X:Cx)(pins:List (Addr×Obj))(Z:St)(Q:VK)(u:Value)(s':Shared):Prop:=∃ v H',Inv X pins Z H' s'/\RelV v u/\Q v H'
def TP(X:Cx)(pins:List (Addr×Obj))(Z:St)(Q:Bool->Hp->Prop)(b:Bool)(s':Shared):Prop:=∃ H',Inv X pins Z H' s'/\Q b H'
def AP(X:Cx)(pins:List (Addr×Obj))(Z:St)(Q:List V->Hp->Prop)(us:List Value)(s':Shared):Prop:=∃ vs H',Inv X pins Z H' s'/\Vals vs us/\Q vs H'
def SP(X:Cx)(pins:List (Addr×Obj))(D:Ends)(f:Flow)(s':Shared):Prop:=
 match f with
 | .next=>∃ Z' H',Inv X pins Z' H' s'/\D.nx Z' H'
 | .brk=>∃ Z' H',Inv X pins Z' H' s'/\D.bk Z' H'
 | .cont=>∃ Z' H',Inv X pins Z' H' s'/\D.ct Z' H'
 | .ret u=>∃ v Z' H',Inv X pins Z' H' s'/\RelV v u/\D.rt v H'
def PE(X:Cx)(e:Expr)(t:TE):Prop:=
 ∀ (pins:List (Addr×Obj)) (s:Shared) (Z:St) (H:Hp) (Q:VK),Inv X pins Z H s->t Z H Q->wpAny (model X.prog X.w) X.A (eval e X.env) (EP X pins Z Q) X.xe s
def PT(X:Cx)(e:Expr)(t:TT):Prop:=
 ∀ (pins:List (Addr×Obj)) (s:Shared) (Z:St) (H:Hp) (Q:Bool->Hp->Prop),Inv X pins Z H s->t Z H Q->wpAny (model X.prog X.w) X.A (isTrue e X.env (eval e X.env)) (TP X pins Z Q) X.xe s
def PW(X:Cx)(e:Expr)(t:TT):Prop:=
 ∀ (whole:Sem Value) (pins:List (Addr×Obj)) (s:Shared) (Z:St) (H:Hp) (Q:Bool->Hp->Prop),Inv X pins Z H s->t Z H Q->wpAny (model X.prog X.w) X.A (isTrue e X.env whole) (TP X pins Z Q) X.xe s
theorem PW.pt{X:Cx}{e:Expr}{t:TT}(h:PW X e t):PT X e t:=h _
def PA(X:Cx)(es:List Expr)(t:TA):Prop:=
 ∀ (pos:Pos) (pins:List (Addr×Obj)) (s:Shared) (Z:St) (H:Hp) (Q:List V->Hp->Prop),Inv X pins Z H s->t Z H Q->wpAny (model X.prog X.w) X.A (spliced (backTo pos (starEach es X.env))) (AP X pins Z Q) X.xe s
def PS(X:Cx)(st:Stmt)(t:TS):Prop:=
 ∀ (pins:List (Addr×Obj)) (s:Shared) (Z:St) (H:Hp) (D:Ends),Inv X pins Z H s->t D Z H->wpAny (model X.prog X.w) X.A (exec st X.env) (SP X pins D) X.xe s
def PSs(X:Cx)(st:List Stmt)(t:TS):Prop:=
 ∀ (pins:List (Addr×Obj)) (s:Shared) (Z:St) (H:Hp) (D:Ends),Inv X pins Z H s->t D Z H->wpAny (model X.prog X.w) X.A (execs st X.env) (SP X pins D) X.xe s
theorem thn{α:Type}{t:Sem α}{Q Q':α->Shared->Prop}{M:Model}{A:Around}{E:Value->Shared->Prop}{s:Shared}(h:wpAny M A t Q E s)(hQ:∀ a s,Q a s->Q' a s):wpAny M A t Q' E s:=wpAny_mono h hQ λ_ _ x=>x
section
variable{X:Cx}
def tVar(i:Nat):TE:=λZ H Q=>∃ v,Z[i]? = some (some v)/\Q v H
def tC(v:V):TE:=λ_ H Q=>Q v H
theorem Pj{i:Nat}{x:Str}{pos:Pos}(hN:X.N[i]? = some x)(hv:Vis X.env.scope x)(hd:(x==("__debug__":Str))=false:=by decide)(hcd:(x==("__classdict__":Str))=false:=by decide):PE X (.Name x pos) (tVar i):=by
 intro pins s Z H Q I h
 obtain⟨v,e,h⟩:=h
 obtain⟨m,hn,hl⟩:=I.loc
 obtain⟨u,r,l⟩:=hl i x v hN e hv
 have fin:EP X pins Z Q u s:=⟨v,H,I,r,h⟩
 rcases l with ⟨hk,hm⟩|⟨hk,c,hc,hcell⟩
 .exact wpAny_Name (wpAny_loadName_local I.ok.kind hk hn hm fin) hd
 .rcases hk with hk|hk
  .exact wpAny_Name (wpAny_loadName_cell I.ok.kind hk hc hcell fin) hd
  .exact wpAny_Name (wpAny_loadName_free I.ok.kind hk hc hcell fin hcd) hd
theorem ax{i j pos}:PE X (.Constant (.int i) j pos) (tC (.int i)):=λ_ _ _ H _ I h=>wpAny_Constant_int ⟨.int i,H,I.tok _,⟨_,rfl⟩,h⟩
theorem Gz{b j pos}:PE X (.Constant (.bool b) j pos) (tC (.bl b)):=λ_ _ _ H _ I h=>Constant_bool ⟨.bl b,H,I,rfl,h⟩
theorem yd{j pos}:PE X (.Constant .none j pos) (tC .non):=λ_ _ _ H _ I h=>Constant_none ⟨.non,H,I,rfl,h⟩
def Gl(X:Cx)(x:Str):Prop:=X.env.kindOf x=some .globalImplicit
theorem ot{E:Value->Shared->Prop}{pins:List (Addr×Obj)}{s:Shared}{Z:St}{H:Hp}{x:Str}{u:Value}{pos:Pos}{Q:Value->Shared->Prop}(I:Inv X pins Z H s)(hg:Gl X x)(hm:X.mg x=some u)(h:Q u s)
  (hd:(x==("__debug__":Str))=false:=by decide):wpAny (model X.prog X.w) X.A (eval (.Name x pos) X.env) Q E s:=
 Calls.Name_function_global I.ok.kind hg (Calls.loadGlobal_global (by rw[I.ok.glob];exact I.mod.glob.keeps I.bk) hm h) hd
theorem jx{E:Value->Shared->Prop}{pins:List (Addr×Obj)}{s:Shared}{Z:St}{H:Hp}{x:Str}{u:Value}{pos:Pos}{Q:Value->Shared->Prop}(I:Inv X pins Z H s)(hg:Gl X x)(hm:X.mg x=none)(hv:bootBuiltins x=some u)(h:Q u s)
  (hn:x≠"__name__":=by decide) (hd:(x==("__debug__":Str))=false:=by decide):wpAny (model X.prog X.w) X.A (eval (.Name x pos) X.env) Q E s:=by
 obtain⟨mb,h1,h2⟩:=I.mod.blt
 exact Calls.Name_function_global I.ok.kind hg (Calls.loadGlobal_builtin (by rw[I.ok.glob];exact I.mod.glob.keeps I.bk) hm (by rw[I.ok.blt];exact h1.keeps I.bk) ((h2 x hn).trans hv) h) hd
theorem i8{x:Str}{v:V}{u:Value}{pos:Pos}(hg:Gl X x)(hm:X.mg x=some u)(r:RelV v u)(hd:(x==("__debug__":Str))=false:=by decide):PE X (.Name x pos) (tC v):=
 λ_ _ _ H _ I h=>ot I hg hm ⟨v,H,I,r,h⟩ hd
variable{a b:Expr}{ta tb:TE}{pos:Pos}
def tB(t:TE):TT:=λZ H Q=>t Z H λx H1=>∃ c,x=.bl c/\Q c H1
theorem gm{e:Expr}{t:TE}(h:PE X e t)(he:∀ whole,isTrue e X.env whole=(do let v <- whole;standAt e.pos;holding [v] (truthy v)):=by intro _;rfl):PT X e (tB t):=by
 intro pins s Z H Q I hw
 refine isTrue_plain (thn (h pins s Z H _ I hw) λv s1 ⟨x,H1,I1,r1,q1⟩=>?_) (he _)
 obtain⟨d,rfl,q⟩:=q1
 cases r1
 exact wpAny_truthy_bool ⟨H1,I1,q⟩
variable{tA tB':TT}{rest:List Expr}
def tAnd(t u:TT):TT:=λZ H Q=>t Z H λc H1=>if c=true then u Z H1 Q else Q false H1
def tOr(t u:TT):TT:=λZ H Q=>t Z H λc H1=>if c=true then Q true H1 else u Z H1 Q
def tNot(t:TT):TT:=λZ H Q=>t Z H λc H1=>Q (!c) H1
theorem Du(ha:PT X a tA):PW X (.BoolOp .And [a] pos) tA:=by
 intro wh pins s Z H Q I h
 refine isTrue_and (thn (ha pins s Z H Q I h) λc s1 e=>?_)
 cases c with
 | true=>exact isTrue_and_nil e
 | false=>exact e
theorem Pf(ha:PT X a tA):PW X (.BoolOp .Or [a] pos) tA:=by
 intro wh pins s Z H Q I h
 refine isTrue_or (thn (ha pins s Z H Q I h) λc s1 e=>?_)
 cases c with
 | false=>exact isTrue_or_nil e
 | true=>exact e
theorem Jp(ha:PT X a tA)(hb:PW X (.BoolOp .And (b::rest) pos) tB'):PW X (.BoolOp .And (a::b::rest) pos) (tAnd tA tB'):=by
 intro wh pins s Z H Q I h
 refine isTrue_and (thn (ha pins s Z H _ I h) λc s1 ⟨H1,I1,q1⟩=>?_)
 cases c with
 | true=>exact hb wh pins s1 Z H1 Q I1 q1
 | false=>exact⟨H1,I1,q1⟩
theorem Te(ha:PT X a tA)(hb:PW X (.BoolOp .Or (b::rest) pos) tB'):PW X (.BoolOp .Or (a::b::rest) pos) (tOr tA tB'):=by
 intro wh pins s Z H Q I h
 refine isTrue_or (thn (ha pins s Z H _ I h) λc s1 ⟨H1,I1,q1⟩=>?_)
 cases c with
 | true=>exact⟨H1,I1,q1⟩
 | false=>exact hb wh pins s1 Z H1 Q I1 q1
theorem kq(ha:PT X a tA):PT X (.UnaryOp .Not a pos) (tNot tA):=by
 intro pins s Z H Q I h
 exact isTrue_not (ha pins s Z H (λc H1=>Q (!c) H1) I h)
def S6(ta tb:TE):TE:=λZ H Q=>ta Z H λx H1=>∃ c,x=.bl c/\if c=true then tb Z H1 Q else Q (.bl false) H1
theorem Jw{op}{t:TE}(h:PE X a t):PE X (.BoolOp op [a] pos) t:=λpins s Z H Q I hw=>BoolOp_one (h pins s Z H Q I hw)
theorem Jy(ha:PE X a ta)(hb:PE X (.BoolOp .And (b::rest) pos) tb):PE X (.BoolOp .And (a::b::rest) pos) (S6 ta tb):=by
 intro pins s Z H Q I h
 refine BoolOp_and (thn (ha pins s Z H _ I h) λv s1 ⟨x,H1,I1,r1,q1⟩=>?_)
 obtain⟨c,rfl,q1⟩:=q1
 cases r1
 refine wpAny_truthy_bool ?_
 cases c with
 | true=>exact hb pins s1 Z H1 Q I1 q1
 | false=>exact⟨.bl false,H1,I1,rfl,q1⟩
def tIf(t:TT)(ta tb:TE):TE:=λZ H Q=>t Z H λc H1=>if c=true then ta Z H1 Q else tb Z H1 Q
theorem z7{c:Expr}(hc:PT X c tA)(ha:PE X a ta)(hb:PE X b tb):PE X (.IfExp c a b pos) (tIf tA ta tb):=by
 intro pins s Z H Q I h
 refine wpAny_IfExp (thn (hc pins s Z H _ I h) λd s1 ⟨H1,I1,q1⟩=>?_)
 cases d with
 | true=>exact ha pins s1 Z H1 Q I1 q1
 | false=>exact hb pins s1 Z H1 Q I1 q1
end
def SqL(K:W.Frag)(H:Hp)(a:Addr)(xs:List V):Prop:=
 Rd H a (.lst xs) \/
  ∃ (o:Obj) (its:Array Value) (n:Nat),K.lookup a=some o/\o.cls=.type "list"/\o.dict=none/\o.data=.seq its n/\its.size<=sizeLine/\Vals xs its.toList
def SqT(K:W.Frag)(H:Hp)(a:Addr)(xs:List V):Prop:=
 Rd H a (.tup xs) \/
  ∃ (o:Obj) (its:Array Value) (n:Nat),K.lookup a=some o/\o.cls=.type "tuple"/\o.data=.seq its n/\its.size<=sizeLine/\Vals xs its.toList
def absV:Value->Option V
 | .none=>some .non
 | .bool b=>some (.bl b)
 | .int i _=>some (.int i)
 | .str x _=>some (.str x)
 | .bytes b _=>some (.byt b)
 | .float b _=>some (.flt b)
 | .ref a=>some (.ref a)
 | .type n=>some (.ty n)
 | _=>none
theorem RelV.abs{x:V}{u:Value}(r:RelV x u):absV u=some x:=by
 cases x with
 | non=>cases r;rfl
 | bl _=>cases r;rfl
 | int _=>obtain⟨t,rfl⟩:=r;rfl
 | str _=>obtain⟨t,rfl⟩:=r;rfl
 | byt _=>obtain⟨t,rfl⟩:=r;rfl
 | flt _=>obtain⟨t,rfl⟩:=r;rfl
 | ref _=>cases r;rfl
 | ty _=>cases r;rfl
theorem RelV.inj{x y:V}{u:Value}(r:RelV x u)(q:RelV y u):x=y:=Option.some.inj (r.abs.symm.trans q.abs)
theorem Vals.inj:∀ {xs ys:List V} {us:List Value},Vals xs us->Vals ys us->xs=ys
 | _,_,_,.nil,.nil=>rfl
 | _,_,_,.cons r t,.cons r' t'=>by rw[r.inj r',Vals.inj t t']
section
variable{X:Cx}{pins:List (Addr×Obj)}{Z:St}{H:Hp}{s:Shared}{a:Addr}{xs ys:List V}
theorem SqL.of{K:W.Frag}(h:H a=some (.lst xs)):SqL K H a xs:=.inl (.inl h)
theorem Inv.list(I:Inv X pins Z H s)(h:SqL X.K H a xs):∃ its:List Value,Vals xs its/\PlainL s.heap a its.toArray/\xs.length<=sizeLine:=by
 rcases h with h|⟨o,its,n,hk,hc,hd,hs,hz,r⟩
 .obtain⟨z,its,n,r,e⟩:=h.ok I.hok
  exact⟨its,r,⟨_,n,e,rfl,rfl,rfl⟩,z⟩
 .refine⟨its.toList,r,⟨o,n,I.kIn a o hk,hc,hd,by simpa using hs⟩,?_⟩
  have e:=r.length
  simp only[Array.length_toList]at e
  omega
theorem Inv.tuple(I:Inv X pins Z H s)(h:SqT X.K H a xs):∃ its:List Value,Vals xs its/\IsTup s.heap a its.toArray/\xs.length<=sizeLine:=by
 rcases h with h|⟨o,its,n,hk,hc,hs,hz,r⟩
 .obtain⟨z,its,r,p⟩:=h.ok I.hok
  exact⟨its,r,p,z⟩
 .refine⟨its.toList,r,⟨o,I.kIn a o hk,hc,n,by simpa using hs⟩,?_⟩
  have e:=r.length
  simp only[Array.length_toList]at e
  omega
theorem Inv.list_inj(I:Inv X pins Z H s)(h:SqL X.K H a xs)(h':SqL X.K H a ys):xs=ys:=by
 obtain⟨its,r,⟨o,n,e,_,_,d⟩,_⟩:=I.list h
 obtain⟨its',r',⟨o',n',e',_,_,d'⟩,_⟩:=I.list h'
 rw[e]at e';cases e'
 rw[d]at d'
 injection d' with d1 _
 have:its=its':=by simpa using congrArg Array.toList d1
 subst this
 exact r.inj r'
theorem Inv.tuple_inj(I:Inv X pins Z H s)(h:SqT X.K H a xs)(h':SqT X.K H a ys):xs=ys:=by
 obtain⟨its,r,⟨o,e,_,n,d⟩,_⟩:=I.tuple h
 obtain⟨its',r',⟨o',e',_,n',d'⟩,_⟩:=I.tuple h'
 rw[e]at e';cases e'
 rw[d]at d'
 injection d' with d1 _
 have:its=its':=by simpa using congrArg Array.toList d1
 subst this
 exact r.inj r'
end
abbrev Cx.wish(X:Cx)(E:Value->Shared->Prop):Cx:={ X with xe:=E }
abbrev Cx.nox(X:Cx):Cx:=X.wish λ_ _=>False
theorem Cx.Ok.wish{X:Cx}(ok:X.Ok)(E:Value->Shared->Prop):(X.wish E).Ok:=
 ⟨ok.mod,ok.kind,ok.glob,ok.blt,ok.above,ok.inj,ok.has,ok.cab,ok.hd,ok.frames,ok.stk,ok.exf,ok.bs,ok.bsz,ok.noex,ok.exfs,ok.funs,ok.frf⟩
theorem Cx.Ok.unwish{X:Cx}{E:Value->Shared->Prop}(ok:(X.wish E).Ok):X.Ok:=
 ⟨ok.mod,ok.kind,ok.glob,ok.blt,ok.above,ok.inj,ok.has,ok.cab,ok.hd,ok.frames,ok.stk,ok.exf,ok.bs,ok.bsz,ok.noex,ok.exfs,ok.funs,ok.frf⟩
section
variable{X:Cx}{pins:List (Addr×Obj)}{Z:St}{H:Hp}{s:Shared}{E:Value->Shared->Prop}
theorem Inv.wish(I:Inv X pins Z H s)(E:Value->Shared->Prop):Inv (X.wish E) pins Z H s:=⟨I.ok.wish E,I.os,I.bare,I.base,I.loc,I.cell,I.free,I.freeC,I.pin,I.hok,I.len⟩
theorem Inv.unwish(I:Inv (X.wish E) pins Z H s):Inv X pins Z H s:=⟨I.ok.unwish,I.os,I.bare,I.base,I.loc,I.cell,I.free,I.freeC,I.pin,I.hok,I.len⟩
theorem SP.unwish{D:Ends}{f:Flow}{s':Shared}(h:SP (X.wish E) pins D f s'):SP X pins D f s':=by
 cases f with
 | next=>obtain⟨Z',H',I,q⟩:=h;exact⟨Z',H',I.unwish,q⟩
 | brk=>obtain⟨Z',H',I,q⟩:=h;exact⟨Z',H',I.unwish,q⟩
 | cont=>obtain⟨Z',H',I,q⟩:=h;exact⟨Z',H',I.unwish,q⟩
 | ret u=>obtain⟨v,Z',H',I,r,q⟩:=h;exact⟨v,Z',H',I.unwish,r,q⟩
theorem PSs.nox{st:List Stmt}{t:TS}(h:PSs X.nox st t):PSs X st t:=λpins s Z H D I hw=>
 wpAny_mono (h pins s Z H D (I.wish _) hw) (λ_ _ q=>q.unwish) λ_ _ z=>False.elim z
end
section
variable{X:Cx}{st:Stmt}{rest:List Stmt}{t u:TS}{e:Expr}{te:TE}{pos:Pos}
def k7:TS:=λD Z H=>D.nx Z H
def tSeq(t u:TS):TS:=λD Z H=>t { D with nx:=u D } Z H
theorem bu:PSs X [] k7:=λ_ _ Z H _ I h=>wpAny_execs_nil ⟨Z,H,I,h⟩
theorem af(h1:PS X st t)(h2:PSs X rest u):PSs X (st::rest) (tSeq t u):=by
 intro pins s Z H D I h
 refine wpAny_execs_cons (thn (h1 pins s Z H { D with nx:=u D } I h) λf s1 q=>?_)
 cases f with
 | next=>
  obtain⟨Z',H',I',q⟩:=q
  exact h2 pins s1 Z' H' D I' q
 | ret v=>exact q
 | brk=>exact q
 | cont=>exact q
theorem aq(h1:PS X st t):PSs X [st] t:=by
 intro pins s Z H D I h
 refine wpAny_execs_cons (thn (h1 pins s Z H D I h) λf s1 q=>?_)
 cases f with
 | next=>exact wpAny_execs_nil q
 | ret v=>exact q
 | brk=>exact q
 | cont=>exact q
theorem Inv.quiet{pins:List (Addr×Obj)}{Z:St}{H:Hp}{s:Shared}(I:Inv X pins Z H s):interactive X.env=false:=by simp[interactive,I.ok.kind]
def Md(te:TE):TS:=λD Z H=>te Z H λ_ H1=>D.nx Z H1
theorem cf(he:PE X e te)(hs:swapsWith e none pos.line X.env=pure false:=by rfl):PS X (.Expr e pos) (Md te):=by
 intro pins s Z H D I h
 exact wpAny_Expr_any (thn (he pins s Z H _ I h) λv s1 ⟨x,H1,I1,r1,q1⟩=>⟨Z,H1,I1,q1⟩) I.quiet hs
def tRet(te:TE):TS:=λD Z H=>te Z H D.rt
theorem az(he:PE X e te):PS X (.Return (some e) pos) (tRet te):=by
 intro pins s Z H D I h
 exact wpAny_Return_some (thn (he pins s Z H _ I h) λv s1 ⟨x,H1,I1,r1,q1⟩=>⟨x,Z,H1,I1,r1,q1⟩)
def tIfS(c:TT)(t u:TS):TS:=λD Z H=>c Z H λb H1=>if b=true then t D Z H1 else u D Z H1
theorem cw{c:Expr}{a b:List Stmt}{tc:TT}(hc:PT X c tc)(ha:PSs X a t)(hb:PSs X b u):PS X (.If c a b pos) (tIfS tc t u):=by
 intro pins s Z H D I h
 refine wpAny_If (thn (hc pins s Z H _ I h) λd s1 ⟨H1,I1,q1⟩=>?_)
 cases d with
 | true=>exact ha pins s1 Z H1 D I1 q1
 | false=>exact hb pins s1 Z H1 D I1 q1
end
abbrev TG:=V->St->Hp->(St->Hp->Prop)->Prop
abbrev TGs:=List V->St->Hp->(St->Hp->Prop)->Prop
def PG(X:Cx)(target:Expr)(t:TG):Prop:=
 ∀ (pins:List (Addr×Obj)) (s:Shared) (Z:St) (H:Hp) (v:V) (u:Value) (Q:St->Hp->Prop),Inv X pins Z H s->RelV v u->t v Z H Q ->
  wpAny (model X.prog X.w) X.A (assign target X.env u) (λ_ s'=>∃ Z' H',Inv X pins Z' H' s'/\Q Z' H') X.xe s
def PGs(X:Cx)(ts:List Expr)(t:TGs):Prop:=
 ∀ (pins:List (Addr×Obj)) (s:Shared) (Z:St) (H:Hp) (vs:List V) (us:List Value) (Q:St->Hp->Prop),Inv X pins Z H s->Vals vs us->t vs Z H Q ->
  wpAny (model X.prog X.w) X.A (assignInOrder ((assignEach ts X.env).map (·.2)) us) (λ_ s'=>∃ Z' H',Inv X pins Z' H' s'/\Q Z' H') X.xe s
abbrev TSet:=V->V->V->Hp->(Hp->Prop)->Prop
def PSet(X:Cx)(t:TSet):Prop:=
 ∀ (pins:List (Addr×Obj)) (s:Shared) (Z:St) (H:Hp) (o i v:V) (ov iv u:Value) (Q:Hp->Prop),Inv X pins Z H s->RelV o ov->RelV i iv->RelV v u->t o i v H Q ->
  wpAny (model X.prog X.w) X.A (setItem ov iv u) (λ_ s'=>∃ H',Inv X pins Z H' s'/\Q H') X.xe s
abbrev TIp:=V->V->Hp->VK->Prop
def PIp(X:Cx)(op:Operator)(t:TIp):Prop:=
 ∀ (pins:List (Addr×Obj)) (s:Shared) (Z:St) (H:Hp) (x y:V) (v u:Value) (Q:VK),Inv X pins Z H s->RelV x v->RelV y u->t x y H Q ->
  wpAny (model X.prog X.w) X.A (inplaceOp op v u) (EP X pins Z Q) X.xe s
section
variable{X:Cx}{pos:Pos}
def m7(i:Nat):TG:=λv Z H Q=>Q (Z.set i (some v)) H
theorem bi{i:Nat}{x:Str}(hN:X.N.Nodup)(hi:X.N[i]? = some x)(hx:Loc X.env.scope x)(hf:X.fn x=true\/X.env.scope.names.lookup x=some .local:=by first|exact .inl rfl|exact .inr rfl|assumption):PG X (.Name x pos) (m7 i):=by
 intro pins s Z H v u Q I r h
 exact wpAny_assign_Name (y3 I hN hi hx r (λs' I'=>⟨_,H,I',h⟩) hf)
def gNil:TGs:=λvs Z H Q=>vs=[]/\Q Z H
def Vm(t:TG)(u:TGs):TGs:=λvs Z H Q=>∃ v r,vs=v::r/\t v Z H λZ' H'=>u r Z' H' Q
theorem jt:PGs X [] gNil:=by
 intro pins s Z H vs us Q I r h
 obtain⟨e,h⟩:=h
 subst e
 cases r
 exact assignInOrder_nil ⟨Z,H,I,h⟩
theorem di{e:Expr}{es:List Expr}{t:TG}{u:TGs}(h1:PG X e t)(h2:PGs X es u)
  (hs:(assignEach (e::es) X.env).map (·.2)=assign e X.env::(assignEach es X.env).map (·.2):=by rfl):PGs X (e::es) (Vm t u):=by
 intro pins s Z H vs us Q I r h
 obtain⟨v,vr,e1,h⟩:=h
 subst e1
 cases r with
 | cons r rr=>
  rw[hs]
  refine assignInOrder_cons (thn (h1 pins s Z H _ _ _ I r h) λ_ s1 ⟨Z1,H1,I1,q1⟩=>?_)
  exact h2 pins s1 Z1 H1 _ _ Q I1 rr q1
def gTup(K:W.Frag)(n:Nat)(t:TGs):TG:=λv Z H Q=>∃ a xs,v=.ref a/\SqT K H a xs/\xs.length=n/\t xs Z H Q
theorem Fl{es:List Expr}{k:Nat}{t:TGs}{n:Nat}(hc:X.calm=true)(h:PGs X es t)
  (hn:(assignEach es X.env).length=n:=by rfl) (hst:(assignEach es X.env).findIdx? (·.1)=none:=by rfl):PG X (.Tuple es k pos) (gTup X.K n t):=by
 intro pins s Z H v u Q I r hw
 obtain⟨a,xs,e1,hq,hl,hw⟩:=hw
 subst e1
 cases r
 obtain⟨its,rv,ht,hz⟩:=I.tuple hq
 refine assign_Tuple_tuple (I.ok.hd hc) ht (by simp[hn,<- hl,rv.length]) hst λh' hx=>?_
 have I1:Inv X pins Z H { s with heap:=h' }:=I.kept (t':=s.toks) λb o e=>hx b o (Nat.ne_of_lt (Heap.lt_size e)) e
 exact h pins _ Z H xs _ Q I1 (by simpa using rv) hw
def gSub(to ti:TE)(t:TSet):TG:=λv Z H Q=>to Z H λo H1=>ti Z H1 λi H2=>t o i v H2 λH3=>Q Z H3
theorem Tj{o i:Expr}{to ti:TE}{t:TSet}(ho:PE X o to)(hi:PE X i ti)(hs:PSet X t)
  (ha:∀ v,assign (.Subscript o i pos) X.env v=(do
   let ov <- holding [v] (eval o X.env)
   let iv <- holding [v,ov] (eval i X.env)
   standAt pos
   holding [v,ov,iv] (setItem ov iv v)
   release [v,ov,iv] []):=by intro _;rfl):PG X (.Subscript o i pos) (gSub to ti t):=by
 intro pins s Z H v u Q I r h
 rw[ha]
 refine wpAny_bind (wpAny_holding (thn (ho pins s Z H _ I h) λov s1 ⟨x,H1,I1,r1,q1⟩=>?_))
 refine wpAny_bind (wpAny_holding (thn (hi pins s1 Z H1 _ I1 q1) λiv s2 ⟨y,H2,I2,r2,q2⟩=>?_))
 refine wpAny_bind (wpAny_standAt (wpAny_bind (wpAny_holding (thn (hs pins s2 Z H2 x y v ov iv u _ I2 r1 r2 r q2) λ_ s3 ⟨H3,I3,q3⟩=>?_))))
 exact wpAny_release ⟨Z,H3,I3,q3⟩
def tAsg(te:TE)(g:TG):TS:=λD Z H=>te Z H λx H1=>g x Z H1 D.nx
theorem Tg{tg e:Expr}{te:TE}{g:TG}(he:PE X e te)(hg:PG X tg g)(hs:swapsWithSole [tg] e pos.line X.env=pure false:=by rfl)(hw:swappedStores [tg] e X.env=pure none:=by rfl)
  (h1:(assignEach [tg] X.env).map (·.2)=[assign tg X.env]:=by rfl):PS X (.Assign [tg] e pos) (tAsg te g):=by
 intro pins s Z H D I h
 refine wpAny_Assign_stores (thn (he pins s Z H _ I h) λv s1 ⟨x,H1,I1,r1,q1⟩=>?_) hs hw
 rw[h1]
 exact thn (hg pins s1 Z H1 x v _ I1 r1 q1) λ_ s2 q=>q
theorem bg{i:Nat}{x:Str}{e:Expr}{te:TE}{pos':Pos}(hN:X.N.Nodup)(hi:X.N[i]? = some x)(hx:Loc X.env.scope x)(he:PE X e te)(hs:swapsWith e (some (.Name x pos')) pos.line X.env=pure false:=by rfl)(hf:X.fn x=true\/X.env.scope.names.lookup x=some .local:=by first|exact .inl rfl|exact .inr rfl|assumption) :
  PS X (.Assign [.Name x pos'] e pos) (tAsg te (m7 i)):=by
 intro pins s Z H D I h
 refine wpAny_Assign_Name (thn (he pins s Z H _ I h) λv s1 ⟨y,H1,I1,r1,q1⟩=>?_) hs
 exact y3 I1 hN hi hx r1 (λs2 I2=>⟨_,H1,I2,q1⟩) hf
def tAug(i:Nat)(te:TE)(ti:TIp):TS:=λD Z H=>∃ x,Z[i]? = some (some x)/\te Z H λy H1=>ti x y H1 λz H2=>D.nx (Z.set i (some z)) H2
theorem Jr{i:Nat}{x:Str}{e:Expr}{te:TE}{op:Operator}{ti:TIp}{pos':Pos}(hN:X.N.Nodup)(hi:X.N[i]? = some x)(hx:Loc X.env.scope x)(he:PE X e te)(ho:PIp X op ti)(hf:X.fn x=true\/X.env.scope.names.lookup x=some .local:=by first|exact .inl rfl|exact .inr rfl|assumption) :
  PS X (.AugAssign (.Name x pos') op e pos) (tAug i te ti):=by
 intro pins s Z H D I h
 obtain⟨v,e1,h⟩:=h
 obtain⟨m,hn,hl⟩:=I.loc
 have vis:Vis X.env.scope x:=by rcases hx with k|k;exact .inl k;exact .inr (.inl k)
 obtain⟨u,r,l⟩:=hl i x v hi e1 vis
 refine wpAny_AugAssign_Name ?_
 have go:wpAny (model X.prog X.w) X.A (eval e X.env) (λw s₂=>wpAny (model X.prog X.w) X.A (inplaceOp op u w) (λr s₃=>wpAny (model X.prog X.w) X.A (storeName X.env x r) (λ_=>SP X pins D .next) X.xe s₃) X.xe s₂) X.xe s:=by
  refine thn (he pins s Z H _ I h) λw s1 ⟨y,H1,I1,r1,q1⟩=>?_
  refine thn (ho pins s1 Z H1 v y u w _ I1 r r1 q1) λz s2 ⟨zv,H2,I2,r2,q2⟩=>?_
  exact y3 I2 hN hi hx r2 (λs3 I3=>⟨_,H2,I3,q2⟩) hf
 rcases l with ⟨hk,hm⟩|⟨hk,c,hc,hcell⟩
 .exact wpAny_loadName_local I.ok.kind hk hn hm go
 .rcases hk with hk|hk
  .exact wpAny_loadName_cell I.ok.kind hk hc hcell go
  .rcases hx with k|k
   .have:X.env.scope.names.lookup x=some .free:=hk
    rw[k]at this;cases this
   .have:X.env.scope.names.lookup x=some .free:=hk
    rw[k]at this;cases this
end
section
variable{X:Cx}{pos:Pos}
def O8(c:TT)(tb:TS):TS:=λD Z H=>∃ W:Nat->St->Hp->Prop,(∃ m,W m Z H)/\∀ m Z H,W m Z H ->
 c Z H λb H1=>if b=true then ∃ N:St->Hp->Prop,(∀ Z' H',N Z' H'->∃ m',m'<m/\W m' Z' H')/\tb { D with nx:=N,ct:=N,bk:=D.nx } Z H1 else D.nx Z H1
theorem ka{c:Expr}{body:List Stmt}{tc:TT}{tb:TS}(hp:PassesOwn (model X.prog X.w) X.A X.env X.xe)(hc:PT X c tc)(hb:PSs X body tb):PS X (.While c body [] pos) (O8 tc tb):=by
 intro pins s Z H D I h
 obtain⟨W,⟨m0,w0⟩,turn⟩:=h
 refine wpAny_While (codeAny_whileLoop (λn s'=>∃ Z' H',Inv X pins Z' H' s'/\W n Z' H') ?_ m0 ⟨Z,H,I,w0⟩)
 rintro n s1 ⟨Z1,H1,I1,w1⟩
 refine wpAny_passesOwn hp (thn (hc pins s1 Z1 H1 _ I1 (turn n Z1 H1 w1)) λb s2 ⟨H2,I2,q2⟩=>?_)
 cases b with
 | true=>
  obtain⟨N,hN,q2⟩:=q2
  rw[if_pos rfl]
  refine wpAny_passesOwn hp (thn (hb pins s2 Z1 H2 _ I2 q2) λf s3 q3=>?_)
  cases f with
  | next=>
   obtain⟨Z3,H3,I3,n3⟩:=q3
   obtain⟨m',hm,w3⟩:=hN Z3 H3 n3
   exact⟨m',hm,Z3,H3,I3,w3⟩
  | cont=>
   obtain⟨Z3,H3,I3,n3⟩:=q3
   obtain⟨m',hm,w3⟩:=hN Z3 H3 n3
   exact⟨m',hm,Z3,H3,I3,w3⟩
  | brk=>exact q3
  | ret v=>exact q3
 | false=>
  rw[if_neg Bool.false_ne_true]
  exact wpAny_execs_nil ⟨Z1,H2,I2,q2⟩
end
structure It where
 go:Nat->Hp->Prop
 yld:Nat->Hp->V->Hp->Prop
 stop:Nat->Hp->Prop
def FpOk(X:Cx)(pins:List (Addr×Obj))(H:Hp)(b:Addr):Prop:=
 H b=none/\b≠X.env.locals/\b ∉ X.fs/\(b∈X.ex\/X.s_0.heap.objs.size<=b)/\(∀ x c,X.env.cells.lookup x=some c->c≠b)/\∀ p∈X.pn++pins,p.1≠b
theorem Inv.fpOk{X:Cx}{pins:List (Addr×Obj)}{Z:St}{H H':Hp}{s:Shared}{b:Addr}(I:Inv X pins Z H s)(hb:s.heap.objs.size<=b)(hn:H' b=none):FpOk X pins H' b:=by
 refine⟨hn,Nat.ne_of_gt (Nat.lt_of_lt_of_le I.lt hb),I.nofs hb,.inr (Nat.le_trans I.sz hb),λx c e z=>?_,λp hp z=>?_⟩
 .obtain⟨v,q⟩:=I.cell x c e
  exact absurd (Nat.lt_of_lt_of_le q.lt (by rw[z];exact hb)) (Nat.lt_irrefl _)
 .exact absurd (Nat.lt_of_lt_of_le (Heap.lt_size (I.pin p hp).1) (by rw[z];exact hb)) (Nat.lt_irrefl _)
structure Turn(P:Program)(w:World)(K:W.Frag)(tg:Expr)(J:It)(fp:List Addr)(it:Addr)(tn:Nat->Heap->Prop):Prop where
 mem:it∈fp
 obj:∀ i h,tn i h->∀ b∈fp,∃ o,h.get? b=some o/\∀ v,o.data≠.cell v
 keep:∀ i h h',tn i h->(∀ b∈fp,∀ o,h.get? b=some o->h'.get? b=some o)->tn i h'
 item:∀ (X:Cx),X.prog=P->X.w=w->X.K=K->X.calm=true->∀ (i:Nat) (pins:List (Addr×Obj)) (s:Shared) (Z:St) (H:Hp) (E:Value->Shared->Prop),Inv X pins Z H s->(∀ b∈fp,FpOk X pins H b)->tn i s.heap->J.go i H ->
  wpAny (model P w) X.A (pyNext (.ref it)) (λr s1=>∃ u,r=some u /\
   wpAny (model P w) X.A (letOwnedTupleGo tg (.ref it) u) (λ_ s2=>∃ x H',Inv X pins Z H' s2/\RelV x u/\J.yld i H x H'/\tn (i+1) s2.heap/\∀ b∈fp,H' b=none) E s1) E s
 done:∀ (X:Cx),X.prog=P->X.w=w->X.K=K->X.calm=true->∀ (i:Nat) (pins:List (Addr×Obj)) (s:Shared) (Z:St) (H:Hp) (E:Value->Shared->Prop),Inv X pins Z H s->(∀ b∈fp,FpOk X pins H b)->tn i s.heap->J.stop i H ->
  wpAny (model P w) X.A (pyNext (.ref it)) (λr s1=>r=none/\Inv X pins Z H s1) E s
 self:∀ (A:Around) (i:Nat) (s:Shared) (Q:Value->Shared->Prop) (E:Value->Shared->Prop),tn i s.heap->Q (.ref it) s->wpAny (model P w) A (pyIter (.ref it)) Q E s
abbrev TI:=St->Hp->(It->Hp->Prop)->Prop
def PIE(X:Cx)(pins:List (Addr×Obj))(Z:St)(tg:Expr)(R:It->Hp->Prop)(itv:Value)(s2:Shared):Prop:=
 ∃ (it:Addr) (fp:List Addr) (tn:Nat->Heap->Prop) (J:It) (H':Hp),itv=.ref it/\Inv X pins Z H' s2/\Turn X.prog X.w X.K tg J fp it tn/\tn 0 s2.heap/\(∀ b∈fp,FpOk X pins H' b)/\R J H'
def PI(X:Cx)(tg iter:Expr)(wi:TI):Prop:=
 ∀ (pins:List (Addr×Obj)) (s:Shared) (Z:St) (H:Hp) (R:It->Hp->Prop),Inv X pins Z H s->wi Z H R ->
  wpAny (model X.prog X.w) X.A (eval iter X.env) (λv s1=>wpAny (model X.prog X.w) X.A (pyIter v) (PIE X pins Z tg R) X.xe s1) X.xe s
theorem Om {M : Model} {A : Around} {E : Value -> Shared -> Prop} {s : Shared} {tg : Expr} {it : Addr} {u : Value} {o : Obj} {n : String} {vs : Array Value} {Q : Unit -> Shared -> Prop} (ho : s.heap.get? it = some o) (hc : o.cls = .type n) (hd : o.data = .fields vs)
    (hn : ["enumerate", "zip", "dict_itemiterator", "dict_reverseitemiterator", "odict_iterator", "itertools.zip_longest", "itertools.pairwise"].contains n = false) (hQ : Q () s) : wpAny M A (letOwnedTupleGo tg (.ref it) u) Q E s := by
  unfold letOwnedTupleGo
  cases tg <;> first
    | exact wpAny_pure hQ
    | (cases u <;> first
        | exact wpAny_pure hQ
        | (refine wpAny_bind (wpAny_load ho ?_)
           rw [hc, hd]
           show wpAny M A (if (["enumerate", "zip", "dict_itemiterator", "dict_reverseitemiterator", "odict_iterator", "itertools.zip_longest", "itertools.pairwise"].contains n && vs[0]? == some (rawInt _)) = true then _ else _) Q E s
           rw [if_neg (by intro h; rw [hn, Bool.false_and] at h; cases h)]
           exact wpAny_pure hQ))
def Itl(K:W.Frag)(a:Addr):It:=
 ⟨λi H=>∃ xs x,SqL K H a xs/\xs[i]? = some x,λi H x H'=>H'=H/\∀ xs,SqL K H a xs->xs[i]? = some x,λi H=>∃ xs,SqL K H a xs/\xs.length<=i⟩
def Itt(K:W.Frag)(a:Addr):It:=
 ⟨λi H=>∃ xs x,SqT K H a xs/\xs[i]? = some x,λi H x H'=>H'=H/\∀ xs,SqT K H a xs->xs[i]? = some x,λi H=>∃ xs,SqT K H a xs/\xs.length<=i⟩
def Itr(lo:Int)(n:Nat):It:=⟨λi _=>i<n,λi H x H'=>H'=H/\x=.int (lo+i),λi _=>n<=i⟩
theorem Ia{P:Program}{w:World}{K:W.Frag}{tg:Expr}(a it:Addr):Turn P w K tg (Itl K a) [it] it (λi h=>h.IsListIter it a i) where
 mem:=by simp
 obj:=λi h st b hb=>by
  have e:b=it:=by simpa using hb
  subst e
  obtain⟨o,e,c,d⟩:=st
  exact⟨o,e,λv z=>by rw[d]at z;cases z⟩
 keep:=λi h h' st k=>st.at λo e=>k it (by simp) o e
 item:=by
  intro X hP hw hK hc i pins s Z H E I hf st hg
  subst hP hw hK
  obtain⟨xs,x,hq,hx⟩:=hg
  obtain⟨its,rv,p,hz⟩:=I.list hq
  obtain⟨u,hu,ru⟩:=rv.get hx
  obtain⟨f0,f1,f2,f3,f4,f5⟩:=hf it (by simp)
  refine wpAny_pyNext_list_item st p.isList (x:=u) (by simpa using hu) λh' st' sb=>?_
  have I1:Inv X pins Z H { s with heap:=h' }:=I.turned (t':=s.toks) (λb o hb e=>(sb.2 b hb).trans e) f0 f1 f3 f4 f5
  obtain⟨o,e,c,d⟩:=id st'
  exact⟨u,rfl,Om (s:={ s with heap:=h' }) e c d (by decide) ⟨x,H,I1,ru,⟨rfl,λys hy=>by rw[I.list_inj hy hq];exact hx⟩,st',λb hb=>(hf b hb).1⟩⟩
 done:=by
  intro X hP hw hK hc i pins s Z H E I hf st hg
  subst hP hw hK
  obtain⟨xs,hq,hx⟩:=hg
  obtain⟨its,rv,p,hz⟩:=I.list hq
  obtain⟨f0,f1,f2,f3,f4,f5⟩:=hf it (by simp)
  have hl:=rv.length
  exact wpAny_pyNext_list_end (I.ok.hd hc) st p.isList (by simp;omega) λh' eb=>⟨rfl,I.turned (t':=s.toks) (λb o hb e=>eb b o hb e) f0 f1 f3 f4 f5⟩
 self:=λ_ _ _ _ _ st h=>wpAny_pyIter_listiter st h
theorem Gr{P:Program}{w:World}{K:W.Frag}{tg:Expr}(a it:Addr):Turn P w K tg (Itt K a) [it] it (λi h=>h.IsTupleIter it a i) where
 mem:=by simp
 obj:=λi h st b hb=>by
  have e:b=it:=by simpa using hb
  subst e
  obtain⟨o,e,c,d⟩:=st
  exact⟨o,e,λv z=>by rw[d]at z;cases z⟩
 keep:=λi h h' st k=>st.at λo e=>k it (by simp) o e
 item:=by
  intro X hP hw hK hc i pins s Z H E I hf st hg
  subst hP hw hK
  obtain⟨xs,x,hq,hx⟩:=hg
  obtain⟨its,rv,p,hz⟩:=I.tuple hq
  obtain⟨u,hu,ru⟩:=rv.get hx
  obtain⟨f0,f1,f2,f3,f4,f5⟩:=hf it (by simp)
  refine wpAny_pyNext_tuple_item st (show s.heap.IsTuple a its.toArray from p) (x:=u) (by simpa using hu) λh' st' sb=>?_
  have I1:Inv X pins Z H { s with heap:=h' }:=I.turned (t':=s.toks) (λb o hb e=>(sb.2 b hb).trans e) f0 f1 f3 f4 f5
  obtain⟨o,e,c,d⟩:=id st'
  exact⟨u,rfl,Om (s:={ s with heap:=h' }) e c d (by decide) ⟨x,H,I1,ru,⟨rfl,λys hy=>by rw[I.tuple_inj hy hq];exact hx⟩,st',λb hb=>(hf b hb).1⟩⟩
 done:=by
  intro X hP hw hK hc i pins s Z H E I hf st hg
  subst hP hw hK
  obtain⟨xs,hq,hx⟩:=hg
  obtain⟨its,rv,p,hz⟩:=I.tuple hq
  obtain⟨f0,f1,f2,f3,f4,f5⟩:=hf it (by simp)
  have hl:=rv.length
  exact wpAny_pyNext_tuple_end (I.ok.hd hc) st (show s.heap.IsTuple a its.toArray from p) (by simp;omega) λh' eb=>⟨rfl,I.turned (t':=s.toks) (λb o hb e=>eb b o hb e) f0 f1 f3 f4 f5⟩
 self:=λ_ _ _ _ _ st h=>wpAny_pyIter_tupleiter st h
theorem Gs{P:Program}{w:World}{K:PySem.W.Frag}{tg:Expr}(it:Addr)(lo:Int)(n:Nat):Turn P w K tg (Itr lo n) [it] it (λi h=>IsRangeIter h it (lo+(i:Nat)*1) ((n:Int) - (i:Nat)) 1) where
 mem:=by simp
 obj:=λi h st b hb=>by
  have e:b=it:=by simpa using hb
  subst e
  exact⟨_,st,λv z=>by
   have z':Data.fields _=Data.cell v:=z
   cases z'⟩
 keep:=λi h h' st k=>k it (by simp) _ st
 item:=by
  intro X hP hw hK hc i pins s Z H E I hf st hg
  subst hP hw hK
  obtain⟨f0,f1,f2,f3,f4,f5⟩:=hf it (by simp)
  have W:=Walks.range (prog:=X.prog) (w:=X.w) (I.ok.hd hc) it lo 1 n
  refine W.item i s _ _ hg st λv h' tk hv st' kk=>?_
  obtain⟨t,rfl⟩:=hv
  have I1:Inv X pins Z H { s with heap:=h',toks:=tk }:=I.turned (λb o hb e=>kk b o (by simpa using hb) e) f0 f1 f3 f4 f5
  refine⟨_,rfl,Om (s:={ s with heap:=h',toks:=tk }) (n:="range_iterator") st' rfl rfl (by decide) ⟨.int (lo+i),H,I1,⟨t,?_⟩,⟨rfl,rfl⟩,st',λb hb=>(hf b hb).1⟩⟩
  rw[Int.mul_one]
 done:=by
  intro X hP hw hK hc i pins s Z H E I hf st hg
  subst hP hw hK
  obtain⟨f0,f1,f2,f3,f4,f5⟩:=hf it (by simp)
  exact wpAny_pyNext_range_end (I.ok.hd hc) st (by have:n<=i:=hg;omega) λh' eb=>⟨rfl,I.turned (t':=s.toks) (λb o hb e=>eb b o hb e) f0 f1 f3 f4 f5⟩
 self:=λ_ _ _ _ _ st h=>wpAny_pyIter_rangeiter st h
section
variable{X:Cx}{tg:Expr}
def Uj(K:W.Frag)(tl:TE):TI:=λZ H R=>tl Z H λx H1=>∃ a,x=.ref a/\(∃ xs,SqL K H1 a xs)/\R (Itl K a) H1
def iTup(K:W.Frag)(tl:TE):TI:=λZ H R=>tl Z H λx H1=>∃ a,x=.ref a/\(∃ xs,SqT K H1 a xs)/\R (Itt K a) H1
theorem cy{l:Expr}{tl:TE}(hl:PE X l tl):PI X tg l (Uj X.K tl):=by
 intro pins s Z H R I h
 refine thn (hl pins s Z H _ I h) λv s1 ⟨x,H1,I1,r1,q1⟩=>?_
 obtain⟨a,e,⟨xs,hq⟩,q⟩:=q1
 subst e
 cases r1
 obtain⟨its,rv,p,hz⟩:=I1.list hq
 refine wpAny_pyIter_list p.isList ?_
 refine⟨s1.heap.objs.size,[s1.heap.objs.size],_,_,H1,rfl,I1.kept (t':=s1.toks) λb o e=>Heap.get?_push_of_some _ e,Ia a _,⟨_,Heap.get?_push_size _ rfl,rfl,rfl⟩,λb hb=>?_,q⟩
 have e:b=s1.heap.objs.size:=by simpa using hb
 subst e
 exact I1.fpOk (Nat.le_refl _) (I1.hok.fresh (Nat.le_refl _))
theorem Fj{l:Expr}{tl:TE}(hl:PE X l tl):PI X tg l (iTup X.K tl):=by
 intro pins s Z H R I h
 refine thn (hl pins s Z H _ I h) λv s1 ⟨x,H1,I1,r1,q1⟩=>?_
 obtain⟨a,e,⟨xs,hq⟩,q⟩:=q1
 subst e
 cases r1
 obtain⟨its,rv,p,hz⟩:=I1.tuple hq
 refine wpAny_pyIter_tuple (show s1.heap.IsTuple a its.toArray from p) ?_
 refine⟨s1.heap.objs.size,[s1.heap.objs.size],_,_,H1,rfl,I1.kept (t':=s1.toks) λb o e=>Heap.get?_push_of_some _ e,Gr a _,⟨_,Heap.get?_push_size _ rfl,rfl,rfl⟩,λb hb=>?_,q⟩
 have e:b=s1.heap.objs.size:=by simpa using hb
 subst e
 exact I1.fpOk (Nat.le_refl _) (I1.hok.fresh (Nat.le_refl _))
theorem M5{pins:List (Addr×Obj)}{Z:St}{H:Hp}{s:Shared}{R:It->Hp->Prop}{E:Value->Shared->Prop}{lo hi:Int}{t u v:Tok}{tk:Nat}(I:Inv X pins Z H s)(h1:-(2 ^ 62)<=lo)(h2:lo<2 ^ 62)(h3:-(2 ^ 62)<=hi)(h4:hi<2 ^ 62)
  (q:R (Itr lo (hi - lo).toNat) H):wpAny (model X.prog X.w) X.A (pyIter (.ref s.heap.objs.size)) (PIE X pins Z tg R) E { s with heap:=s.heap.push { cls:=.type "range",data:=.fields #[.int lo t,.int hi u,.int 1 v] },toks:=tk }:=by
 refine wpAny_pyIter_range (IsRange.new ..) (small_one h1 h2 h3 h4) ?_
 have I1:Inv X pins Z H { s with heap:=s.heap.push { cls:=.type "range",data:=.fields #[.int lo t,.int hi u,.int 1 v] },toks:=tk }:=I.kept λb o e=>Heap.get?_push_of_some _ e
 refine⟨(s.heap.push { cls:=.type "range",data:=.fields #[.int lo t,.int hi u,.int 1 v] }).objs.size,[(s.heap.push { cls:=.type "range",data:=.fields #[.int lo t,.int hi u,.int 1 v] }).objs.size],_,_,H,rfl,
  I1.kept (t':=tk) λb o e=>Heap.get?_push_of_some _ e,Gs _ lo (hi - lo).toNat,?_,λb hb=>?_,q⟩
 .have e1:lo+((0:Nat):Int)*1=lo:=by simp
  have e2:(((hi - lo).toNat:Nat):Int) - ((0:Nat):Int)=Builtin.Range.rangeSize lo hi 1:=by rw[rangeSize_one];split <;> omega
  show IsRangeIter _ _ (lo+((0:Nat):Int)*1) ((((hi - lo).toNat:Nat):Int) - ((0:Nat):Int)) 1
  rw[e1,e2]
  exact Heap.get?_push_size _ rfl
 .have e:b=(s.heap.push { cls:=.type "range",data:=.fields #[.int lo t,.int hi u,.int 1 v] }).objs.size:=by simpa using hb
  subst e
  exact I1.fpOk (Nat.le_refl _) (I1.hok.fresh (Nat.le_refl _))
def Vk(ta:TA):TI:=λZ H R=>ta Z H λvs H1=>∃ j:Int,vs=[.int j]/\-(2 ^ 62)<=j/\j<2 ^ 62/\R (Itr 0 j.toNat) H1
theorem ez{a:Expr}{ta:TA}{p pos:Pos}(hg:Gl X "range")(hm:X.mg "range"=none)(ha:PA X [a] ta)(hs:starEach [a] X.env=[(false,eval a X.env)]:=by rfl):PI X tg (.Call (.Name "range" p) [a] [] pos) (Vk ta):=by
 intro pins s Z H R I h
 refine Call_ (jx I hg hm boot_range (PyProof.Rows.callWith_type1 (thn (ha pos pins s Z H _ I h) λus s1 ⟨vs,H1,I1,r1,q1⟩=>?_) hs rfl))
 obtain⟨j,e,q1,q2,q⟩:=q1
 subst e
 cases r1 with
 | cons r rr=>
  cases rr
  obtain⟨t,rfl⟩:=r
  exact call_range_1 (M5 I1 (by omega) (by omega) q1 q2 (by simpa using q))
def tFor(wi:TI)(g:TG)(tb:TS):TS:=λD Z H=>wi Z H λJ H1=>∃ W:Nat->Nat->St->Hp->Prop,(∃ m,W 0 m Z H1)/\∀ i m Z H,W i m Z H ->
 (J.stop i H/\D.nx Z H)\/(J.go i H/\∃ N:St->Hp->Prop,(∀ Z' H',N Z' H'->∃ m',m'<m/\W (i+1) m' Z' H')/\∀ x H',J.yld i H x H'->g x Z H' λZ2 H2=>tb { D with nx:=N,ct:=N,bk:=D.nx } Z2 H2)
def Bn(fp:List Addr)(h:Heap):List (Addr×Obj):=fp.filterMap λb=>(h.get? b).map λo=>(b,o)
theorem om{fp:List Addr}{h:Heap}{b:Addr}{o:Obj}(hb:b∈fp)(e:h.get? b=some o):(b,o)∈Bn fp h:=List.mem_filterMap.mpr ⟨b,hb,by rw[e];rfl⟩
theorem Kg{fp:List Addr}{h:Heap}{p:Addr×Obj}(hp:p∈Bn fp h):p.1∈fp/\h.get? p.1=some p.2:=by
 obtain⟨b,hb,e⟩:=List.mem_filterMap.mp hp
 cases q:h.get? b with
 | none=>rw[q]at e;cases e
 | some o=>
  rw[q]at e
  have e':(b,o)=p:=Option.some.inj e
  subst e'
  exact⟨hb,q⟩
theorem Inv.pinned{pins:List (Addr×Obj)}{Z:St}{H:Hp}{s:Shared}{fp:List Addr}(I:Inv X pins Z H s)(hf:∀ b∈fp,FpOk X pins H b)(ho:∀ b∈fp,∃ o,s.heap.get? b=some o/\∀ v,o.data≠.cell v):Inv X (pins++Bn fp s.heap) Z H s:=
 I.pins_of λp hp=>(List.mem_append.mp hp).elim (λz=>I.pin p (List.mem_append_right _ z)) λz=>by
  obtain⟨hb,e⟩:=Kg z
  obtain⟨f0,f1,f2,_⟩:=hf p.1 hb
  obtain⟨o,e',d⟩:=ho p.1 hb
  rw[e]at e';cases e'
  exact⟨e,f0,f1,f2,d⟩
theorem Inv.unpinned{pins pl:List (Addr×Obj)}{Z:St}{H:Hp}{s:Shared}(I:Inv X (pins++pl) Z H s):Inv X pins Z H s:=I.pins_of λp hp=>I.pin p (List.mem_append_right _ (List.mem_append_left _ hp))
theorem fj{iter:Expr}{body:List Stmt}{wi:TI}{g:TG}{tb:TS}{pos:Pos}(hp:PassesOwn (model X.prog X.w) X.A X.env X.xe)(hc:X.calm=true)(hi:PI X tg iter wi)(hg:PG X tg g)(hb:PSs X body tb)
  (hs:∀ x,foldedSetIterable iter X.env x=pure x:=by intro _;rfl):PS X (.For tg iter body [] pos) (tFor wi g tb):=by
 intro pins s Z H D I h
 refine wpAny_For (thn (hi pins s Z H _ I h) λv s1 h1=>thn h1 λitv s2 h2=>?_) hs
 obtain⟨it,fp,tn,J,H2,e,I2,T,st2,f2,W,⟨m0,w0⟩,turn⟩:=h2
 subst e
 have stat:∀ {H':Hp},(∀ b∈fp,H' b=none)->∀ b∈fp,FpOk X pins H' b:=λhn b hb=>⟨hn b hb,(f2 b hb).2⟩
 refine codeAny_forLoop_any (λn s'=>∃ i Z' H',Inv X pins Z' H' s'/\tn i s'.heap/\(∀ b∈fp,H' b=none)/\W i n Z' H') ?_ m0 ⟨0,Z,H2,I2,st2,λb hb=>(f2 b hb).1,w0⟩
 rintro n s3 ⟨i,Z3,H3,I3,st3,fr3,w3⟩
 rcases turn i n Z3 H3 w3 with ⟨stop,qn⟩|⟨go,N,hN,step⟩
 .refine wpAny_passesOwn hp (thn (T.done X rfl rfl rfl hc i pins s3 Z3 H3 X.xe I3 (stat fr3) st3 stop) λr s4 ⟨hr,I4⟩=>?_)
  subst hr
  exact wpAny_execs_nil ⟨Z3,H3,I4,qn⟩
 .refine wpAny_passesOwn hp (thn (T.item X rfl rfl rfl hc i pins s3 Z3 H3 X.xe I3 (stat fr3) st3 go) λr s4 ⟨u,hr,h4⟩=>?_)
  subst hr
  refine wpAny_passesOwn hp (thn h4 λ_ s5 ⟨x,H5,I5,r5,y5,st5,fr5⟩=>?_)
  have I5':=I5.pinned (stat fr5) (T.obj _ _ st5)
  refine wpAny_passesOwn hp (thn (hg _ s5 Z3 H5 x u _ I5' r5 (step x H5 y5)) λ_ s6 ⟨Z6,H6,I6,q6⟩=>?_)
  refine wpAny_passesOwn hp (thn (hb _ s6 Z6 H6 _ I6 q6) λf s7 q7=>?_)
  have again:∀ {Z7:St} {H7:Hp},Inv X (pins++Bn fp s5.heap) Z7 H7 s7->N Z7 H7->∃ m,m<n/\∃ i Z' H',Inv X pins Z' H' s7/\tn i s7.heap/\(∀ b∈fp,H' b=none)/\W i m Z' H':=λ{Z7 H7} I7 n7=>by
   obtain⟨m',hm,w7⟩:=hN Z7 H7 n7
   refine⟨m',hm,i+1,Z7,H7,I7.unpinned,T.keep _ _ _ st5 λb hb o e=>(I7.pin (b,o) (List.mem_append_right _ (List.mem_append_right _ (om hb e)))).1,λb hb=>?_,w7⟩
   obtain⟨o,e,d⟩:=T.obj _ _ st5 b hb
   exact(I7.pin (b,o) (List.mem_append_right _ (List.mem_append_right _ (om hb e)))).2.1
  cases f with
  | next=>obtain⟨Z7,H7,I7,n7⟩:=q7;exact again I7 n7
  | cont=>obtain⟨Z7,H7,I7,n7⟩:=q7;exact again I7 n7
  | brk=>obtain⟨Z7,H7,I7,q7⟩:=q7;exact⟨Z7,H7,I7.unpinned,q7⟩
  | ret v=>obtain⟨x7,Z7,H7,I7,r7,q7⟩:=q7;exact⟨x7,Z7,H7,I7.unpinned,r7,q7⟩
end
theorem ft{K:PySem.W.Frag}{a:Addr}{xs:List V}{g:TG}{tb:TS}{D:Ends}{Z:St}{H:Hp}(Pv:Nat->St->Hp->Prop)(h0:Pv 0 Z H)(hl:∀ i Z H,i<=xs.length->Pv i Z H->SqL K H a xs)
  (hs:∀ i x Z H,xs[i]? = some x->Pv i Z H->g x Z H λZ2 H2=>tb { D with nx:=Pv (i+1),ct:=Pv (i+1),bk:=D.nx } Z2 H2) (hd:∀ Z H,Pv xs.length Z H->D.nx Z H) :
  ∃ W:Nat->Nat->St->Hp->Prop,(∃ m,W 0 m Z H)/\∀ i m Z H,W i m Z H ->
   ((Itl K a).stop i H/\D.nx Z H)\/((Itl K a).go i H/\∃ N:St->Hp->Prop,(∀ Z' H',N Z' H'->∃ m',m'<m/\W (i+1) m' Z' H')/\∀ x H',(Itl K a).yld i H x H'->g x Z H' λZ2 H2=>tb { D with nx:=N,ct:=N,bk:=D.nx } Z2 H2):=by
 refine⟨λi m Z H=>m=xs.length - i/\i<=xs.length/\Pv i Z H,⟨xs.length,by simp,Nat.zero_le _,h0⟩,?_⟩
 rintro i m Z H ⟨rfl,hi,p⟩
 have q:=hl i Z H hi p
 by_cases hlt:i<xs.length
 .refine .inr ⟨⟨xs,xs[i],q,by simp[hlt]⟩,Pv (i+1),λZ' H' p'=>⟨xs.length - (i+1),by omega,rfl,hlt,p'⟩,λx H' y=>?_⟩
  obtain⟨e,y⟩:=y
  subst e
  exact hs i x Z _ (y xs q) p
 .have e:i=xs.length:=by omega
  subst e
  exact .inl ⟨⟨xs,q,Nat.le_refl _⟩,hd Z H p⟩
theorem K9{K:PySem.W.Frag}{a:Addr}{xs:List V}{g:TG}{tb:TS}{D:Ends}{Z:St}{H:Hp}(Pv:Nat->St->Hp->Prop)(h0:Pv 0 Z H)(hl:∀ i Z H,i<=xs.length->Pv i Z H->SqT K H a xs)
  (hs:∀ i x Z H,xs[i]? = some x->Pv i Z H->g x Z H λZ2 H2=>tb { D with nx:=Pv (i+1),ct:=Pv (i+1),bk:=D.nx } Z2 H2) (hd:∀ Z H,Pv xs.length Z H->D.nx Z H) :
  ∃ W:Nat->Nat->St->Hp->Prop,(∃ m,W 0 m Z H)/\∀ i m Z H,W i m Z H ->
   ((Itt K a).stop i H/\D.nx Z H)\/((Itt K a).go i H/\∃ N:St->Hp->Prop,(∀ Z' H',N Z' H'->∃ m',m'<m/\W (i+1) m' Z' H')/\∀ x H',(Itt K a).yld i H x H'->g x Z H' λZ2 H2=>tb { D with nx:=N,ct:=N,bk:=D.nx } Z2 H2):=by
 refine⟨λi m Z H=>m=xs.length - i/\i<=xs.length/\Pv i Z H,⟨xs.length,by simp,Nat.zero_le _,h0⟩,?_⟩
 rintro i m Z H ⟨rfl,hi,p⟩
 have q:=hl i Z H hi p
 by_cases hlt:i<xs.length
 .refine .inr ⟨⟨xs,xs[i],q,by simp[hlt]⟩,Pv (i+1),λZ' H' p'=>⟨xs.length - (i+1),by omega,rfl,hlt,p'⟩,λx H' y=>?_⟩
  obtain⟨e,y⟩:=y
  subst e
  exact hs i x Z _ (y xs q) p
 .have e:i=xs.length:=by omega
  subst e
  exact .inl ⟨⟨xs,q,Nat.le_refl _⟩,hd Z H p⟩
theorem B8{lo:Int}{n:Nat}{g:TG}{tb:TS}{D:Ends}{Z:St}{H:Hp}(Pv:Nat->St->Hp->Prop)(h0:Pv 0 Z H)
  (hs:∀ i Z H,i<n->Pv i Z H->g (.int (lo+i)) Z H λZ2 H2=>tb { D with nx:=Pv (i+1),ct:=Pv (i+1),bk:=D.nx } Z2 H2) (hd:∀ Z H,Pv n Z H->D.nx Z H) :
  ∃ W:Nat->Nat->St->Hp->Prop,(∃ m,W 0 m Z H)/\∀ i m Z H,W i m Z H ->
   ((Itr lo n).stop i H/\D.nx Z H)\/((Itr lo n).go i H/\∃ N:St->Hp->Prop,(∀ Z' H',N Z' H'->∃ m',m'<m/\W (i+1) m' Z' H')/\∀ x H',(Itr lo n).yld i H x H'->g x Z H' λZ2 H2=>tb { D with nx:=N,ct:=N,bk:=D.nx } Z2 H2):=by
 refine⟨λi m Z H=>m=n - i/\i<=n/\Pv i Z H,⟨n,by simp,Nat.zero_le _,h0⟩,?_⟩
 rintro i m Z H ⟨rfl,hi,p⟩
 by_cases hlt:i<n
 .refine .inr ⟨hlt,Pv (i+1),λZ' H' p'=>⟨n - (i+1),by omega,rfl,hlt,p'⟩,λx H' y=>?_⟩
  obtain⟨e,y⟩:=y
  subst e y
  exact hs i Z _ hlt p
 .have e:i=n:=by omega
  subst e
  exact .inl ⟨Nat.le_refl _,hd Z H p⟩
theorem ma{c:TT}{tb:TS}{D:Ends}{Z:St}{H:Hp}(Pv:St->Hp->Prop)(μ:St->Hp->Nat)(h0:Pv Z H)
  (hs:∀ Z H,Pv Z H->c Z H λb H1=>if b=true then tb { D with nx:=λZ' H'=>Pv Z' H'/\μ Z' H' < μ Z H,ct:=λZ' H'=>Pv Z' H'/\μ Z' H' < μ Z H,bk:=D.nx } Z H1 else D.nx Z H1)
  (mono:∀ Z H Q Q',(∀ b H1,Q b H1->Q' b H1)->c Z H Q->c Z H Q'):O8 c tb D Z H:=by
 refine⟨λm Z H=>m=μ Z H/\Pv Z H,⟨_,rfl,h0⟩,?_⟩
 rintro m Z H ⟨rfl,p⟩
 refine mono Z H _ _ (λb H1 q=>?_) (hs Z H p)
 cases b with
 | true=>exact⟨_,λZ' H' ⟨p',l⟩=>⟨_,l,rfl,p'⟩,q⟩
 | false=>exact q
abbrev R2:=V->V->Hp->VK->Prop
def OpR(X:Cx)(f:Value->Value->Sem Value)(r:R2):Prop:=
 ∀ (pins:List (Addr×Obj)) (s:Shared) (Z:St) (H:Hp) (x y:V) (v u:Value) (Q:VK),Inv X pins Z H s->RelV x v->RelV y u->r x y H Q ->
  wpAny (model X.prog X.w) X.A (f v u) (EP X pins Z Q) X.xe s
def UnR(X:Cx)(f:Value->Sem Value)(r:V->Hp->VK->Prop):Prop:=
 ∀ (pins:List (Addr×Obj)) (s:Shared) (Z:St) (H:Hp) (x:V) (v:Value) (Q:VK),Inv X pins Z H s->RelV x v->r x H Q ->
  wpAny (model X.prog X.w) X.A (f v) (EP X pins Z Q) X.xe s
def wn(X:Cx)(f:Value)(r:List V->Hp->VK->Prop):Prop:=
 ∀ (pins:List (Addr×Obj)) (s:Shared) (Z:St) (H:Hp) (xs:List V) (us:List Value) (Q:VK),Inv X pins Z H s->Vals xs us->r xs H Q ->
  wpAny (model X.prog X.w) X.A (call f us) (EP X pins Z Q) X.xe s
def tOp(r:R2)(ta tb:TE):TE:=λZ H Q=>ta Z H λx H1=>tb Z H1 λy H2=>r x y H2 Q
def tUn(r:V->Hp->VK->Prop)(ta:TE):TE:=λZ H Q=>ta Z H λx H1=>r x H1 Q
def rI(C:Int->Int->Prop)(g:Int->Int->V):R2:=λx y H Q=>∃ i j,x=.int i/\y=.int j/\C i j/\Q (g i j) H
def rI0(g:Int->Int->V):R2:=λx y H Q=>∃ i j,x=.int i/\y=.int j/\Q (g i j) H
def rU(g:Int->V):V->Hp->VK->Prop:=λx H Q=>∃ i,x=.int i/\Q (g i) H
section
variable{X:Cx}{a b c:Expr}{ta tb tc:TE}{pos:Pos}
theorem binT(ha:PE X a ta)(hb:PE X b tb){pins:List (Addr×Obj)}{s:Shared}{Z:St}{H:Hp}{R:V->V->Hp->Prop}(I:Inv X pins Z H s)
  (h:ta Z H λx H1=>tb Z H1 λy H2=>R x y H2) {Q:Value->Shared->Prop} {f:Value->Value->Sem Value}
  (hf:∀ v u s2 x y H2,Inv X pins Z H2 s2->RelV x v->RelV y u->R x y H2->wpAny (model X.prog X.w) X.A (f v u) Q X.xe s2) :
  wpAny (model X.prog X.w) X.A (eval a X.env) (λv s₁=>wpAny (model X.prog X.w) X.A (eval b X.env) (λu s₂=>wpAny (model X.prog X.w) X.A (f v u) Q X.xe s₂) X.xe s₁) X.xe s:=by
 refine thn (ha pins s Z H _ I h) λv s1 ⟨x,H1,I1,r1,q1⟩=>?_
 refine thn (hb pins s1 Z H1 _ I1 q1) λu s2 ⟨y,H2,I2,r2,q2⟩=>?_
 exact hf v u s2 x y H2 I2 r1 r2 q2
theorem ge{op:Operator}{r:R2}(ho:OpR X (binaryOp op) r)(ha:PE X a ta)(hb:PE X b tb):PE X (.BinOp a op b pos) (tOp r ta tb):=by
 intro pins s Z H Q I h
 exact wpAny_BinOp (binT ha hb I h λv u s2 x y H2 I2 rx ry q=>ho pins s2 Z H2 x y v u Q I2 rx ry q)
theorem tx{op:UnaryOp}{r:V->Hp->VK->Prop}(ho:UnR X (unaryOp op) r)(ha:PE X a ta):PE X (.UnaryOp op a pos) (tUn r ta):=by
 intro pins s Z H Q I h
 exact UnaryOp_ (thn (ha pins s Z H _ I h) λv s1 ⟨x,H1,I1,r1,q1⟩=>ho pins s1 Z H1 x v Q I1 r1 q1)
theorem opI{f:Value->Value->Sem Value}{C:Int->Int->Prop}{g:Int->Int->Int}
  (rule:∀ (i j:Int) (t u:Tok) (s:Shared) (Q:Value->Shared->Prop) (E:Value->Shared->Prop),C i j->Q (.int (g i j) s.toks) { s with toks:=s.toks+1 }->wpAny (model X.prog X.w) X.A (f (.int i t) (.int j u)) Q E s) :
  OpR X f (rI C λi j=>.int (g i j)):=by
 intro pins s Z H x y v u Q I rx ry h
 obtain⟨i,j,rfl,rfl,hc,q⟩:=h
 obtain⟨t,rfl⟩:=rx
 obtain⟨t',rfl⟩:=ry
 exact rule i j t t' s _ _ hc ⟨.int (g i j),H,I.tok _,⟨_,rfl⟩,q⟩
theorem opI0{f:Value->Value->Sem Value}{g:Int->Int->Int}
  (rule:∀ (i j:Int) (t u:Tok) (s:Shared) (Q:Value->Shared->Prop) (E:Value->Shared->Prop),Q (.int (g i j) s.toks) { s with toks:=s.toks+1 }->wpAny (model X.prog X.w) X.A (f (.int i t) (.int j u)) Q E s) :
  OpR X f (rI0 λi j=>.int (g i j)):=by
 intro pins s Z H x y v u Q I rx ry h
 obtain⟨i,j,rfl,rfl,q⟩:=h
 obtain⟨t,rfl⟩:=rx
 obtain⟨t',rfl⟩:=ry
 exact rule i j t t' s _ _ ⟨.int (g i j),H,I.tok _,⟨_,rfl⟩,q⟩
theorem opB0{f:Value->Value->Sem Value}{g:Int->Int->Bool}
  (rule:∀ (i j:Int) (t u:Tok) (s:Shared) (Q:Value->Shared->Prop) (E:Value->Shared->Prop),Q (.bool (g i j)) s->wpAny (model X.prog X.w) X.A (f (.int i t) (.int j u)) Q E s) :
  OpR X f (rI0 λi j=>.bl (g i j)):=by
 intro pins s Z H x y v u Q I rx ry h
 obtain⟨i,j,rfl,rfl,q⟩:=h
 obtain⟨t,rfl⟩:=rx
 obtain⟨t',rfl⟩:=ry
 exact rule i j t t' s _ _ ⟨.bl (g i j),H,I,rfl,q⟩
def CMul(i j:Int):Prop:=(-(2 ^ 64)<i/\i<2 ^ 64)\/(-(2 ^ 64)<j/\j<2 ^ 64)
theorem CMul.ok{i j:Int}(h:CMul i j):IntMulOk i j:=by
 rcases h with ⟨h1,h2⟩|⟨h1,h2⟩
 .exact .of_left (intBits_le_64 h1 h2)
 .exact .of_right (intBits_le_64 h1 h2)
theorem qc:OpR X (binaryOp .Add) (rI0 λi j=>.int (i+j)):=opI0 λ_ _ _ _ _ _ _ q=>add_int q
theorem Tm:OpR X (binaryOp .Sub) (rI0 λi j=>.int (i - j)):=opI0 λ_ _ _ _ _ _ _ q=>sub_int q
theorem Tn:OpR X (binaryOp .Mult) (rI CMul λi j=>.int (i*j)):=opI λ_ _ _ _ _ _ _ hc q=>mul_int q hc.ok
theorem To:OpR X (binaryOp .Mod) (rI (λ_ j=>0<j) λi j=>.int (i % j)):=opI λi j _ _ _ _ _ hc q=>by
 have h1:(0:Int)<j:=hc
 exact mod_int' (by omega) (by rw[Int.fmod_eq_emod_of_nonneg i (by omega)];exact q)
theorem Ee:OpR X (inplaceOp .Add) (rI0 λi j=>.int (i+j)):=opI0 λ_ _ _ _ _ _ _ q=>iadd_int q
theorem unI{f:Value->Sem Value}{g:Int->Int}
  (rule:∀ (i:Int) (t:Tok) (s:Shared) (Q:Value->Shared->Prop) (E:Value->Shared->Prop),Q (.int (g i) s.toks) { s with toks:=s.toks+1 }->wpAny (model X.prog X.w) X.A (f (.int i t)) Q E s) :
  UnR X f (rU λi=>.int (g i)):=by
 intro pins s Z H x v Q I rx h
 obtain⟨i,rfl,q⟩:=h
 obtain⟨t,rfl⟩:=rx
 exact rule i t s _ _ ⟨.int (g i),H,I.tok _,⟨_,rfl⟩,q⟩
theorem jn:UnR X (unaryOp .USub) (rU λi=>.int (-i)):=unI λ_ _ _ _ _ q=>neg_int q
end
def scal:V->V->Bool
 | .non,.non=>true | .non,.int _=>true | .int _,.non=>true | .non,.bl _=>true | .bl _,.non=>true | .non,.str _=>true | .str _,.non=>true
 | .int _,.int _=>true | .bl _,.bl _=>true | .str _,.str _=>true | .byt _,.byt _=>true
 | .int _,.str _=>true | .str _,.int _=>true | .bl _,.str _=>true | .str _,.bl _=>true
 | _,_=>false
def rEq:R2:=λx y H Q=>scal x y=true/\Q (.bl (decide (x=y))) H
def rNe:R2:=λx y H Q=>scal x y=true/\Q (.bl (!decide (x=y))) H
theorem Lh{i j:Int}:decide (V.int i=V.int j)=(i==j):=by
 rw[Bool.eq_iff_iff]
 simp
theorem Px{i j:Bool}:decide (V.bl i=V.bl j)=(i==j):=by
 rw[Bool.eq_iff_iff]
 simp
theorem Lg{i j:Str}:decide (V.str i=V.str j)=(i==j):=by
 rw[Bool.eq_iff_iff]
 simp
theorem Li{i j:Array UInt8}:decide (V.byt i=V.byt j)=(i.toList==j.toList):=by
 rw[Bool.eq_iff_iff]
 cases i
 cases j
 simp
section
variable{X:Cx}{a b c:Expr}{ta tb tc:TE}{pos:Pos}
theorem c7{pins:List (Addr×Obj)}{Z:St}{H:Hp}{s:Shared}{Q:VK}{k k':Bool}(I:Inv X pins Z H s)(q:Q (.bl k) H)(e:k=k'):EP X pins Z Q (.bool k') s:=by
 subst e
 exact⟨.bl k,H,I,rfl,q⟩
theorem fe:OpR X (compareOp .Eq) rEq:=by
 intro pins s Z H x y v u Q I rx ry h
 obtain⟨hs,q⟩:=h
 cases x with
 | non=>
  cases rx
  cases y with
  | non=>cases ry;exact PySem.EqNone.eq_none_none (c7 I q (by simp))
  | bl j=>cases ry;exact PySem.EqNone.eq_none_bool (c7 I q (by simp))
  | int j=>obtain⟨t',rfl⟩:=ry;exact PySem.EqNone.eq_none_int (c7 I q (by simp))
  | str j=>obtain⟨t',rfl⟩:=ry;exact PySem.EqNone.eq_none_str (c7 I q (by simp))
  | _=>exact absurd (show false=true from hs) Bool.false_ne_true
 | bl i=>
  cases rx
  cases y with
  | non=>cases ry;exact PySem.EqNone.eq_bool_none (c7 I q (by simp))
  | bl j=>cases ry;exact eq_bool (c7 I q Px)
  | str j=>obtain⟨t',rfl⟩:=ry;exact PySem.EqMixed.eq_bool_str (c7 I q (by simp))
  | _=>exact absurd (show false=true from hs) Bool.false_ne_true
 | int i=>
  obtain⟨t,rfl⟩:=rx
  cases y with
  | non=>cases ry;exact PySem.EqNone.eq_int_none (c7 I q (by simp))
  | int j=>obtain⟨t',rfl⟩:=ry;exact eq_int (c7 I q Lh)
  | str j=>obtain⟨t',rfl⟩:=ry;exact PySem.EqMixed.eq_int_str (c7 I q (by simp))
  | _=>exact absurd (show false=true from hs) Bool.false_ne_true
 | str i=>
  obtain⟨t,rfl⟩:=rx
  cases y with
  | non=>cases ry;exact PySem.EqNone.eq_str_none (c7 I q (by simp))
  | bl j=>cases ry;exact PySem.EqMixed.eq_str_bool (c7 I q (by simp))
  | int j=>obtain⟨t',rfl⟩:=ry;exact PySem.EqMixed.eq_str_int (c7 I q (by simp))
  | str j=>obtain⟨t',rfl⟩:=ry;exact eq_str (c7 I q Lg)
  | _=>exact absurd (show false=true from hs) Bool.false_ne_true
 | byt i=>
  obtain⟨t,rfl⟩:=rx
  cases y with
  | byt j=>obtain⟨t',rfl⟩:=ry;exact W.eq_bytes (c7 I q Li)
  | _=>exact absurd (show false=true from hs) Bool.false_ne_true
 | _=>cases y <;> exact absurd (show false=true from hs) Bool.false_ne_true
theorem J0:OpR X (compareOp .NotEq) rNe:=by
 intro pins s Z H x y v u Q I rx ry h
 obtain⟨hs,q⟩:=h
 cases x with
 | non=>
  cases rx
  cases y with
  | non=>cases ry;exact PySem.EqNone.ne_none_none (c7 I q (by simp))
  | bl j=>cases ry;exact PySem.EqNone.ne_none_bool (c7 I q (by simp))
  | int j=>obtain⟨t',rfl⟩:=ry;exact PySem.EqNone.ne_none_int (c7 I q (by simp))
  | str j=>obtain⟨t',rfl⟩:=ry;exact PySem.EqNone.ne_none_str (c7 I q (by simp))
  | _=>exact absurd (show false=true from hs) Bool.false_ne_true
 | bl i=>
  cases rx
  cases y with
  | non=>cases ry;exact PySem.EqNone.ne_bool_none (c7 I q (by simp))
  | bl j=>cases ry;exact ne_bool (c7 I q (congrArg not Px))
  | str j=>obtain⟨t',rfl⟩:=ry;exact PySem.EqMixed.ne_bool_str (c7 I q (by simp))
  | _=>exact absurd (show false=true from hs) Bool.false_ne_true
 | int i=>
  obtain⟨t,rfl⟩:=rx
  cases y with
  | non=>cases ry;exact PySem.EqNone.ne_int_none (c7 I q (by simp))
  | int j=>obtain⟨t',rfl⟩:=ry;exact ne_int (c7 I q (congrArg not Lh))
  | str j=>obtain⟨t',rfl⟩:=ry;exact PySem.EqMixed.ne_int_str (c7 I q (by simp))
  | _=>exact absurd (show false=true from hs) Bool.false_ne_true
 | str i=>
  obtain⟨t,rfl⟩:=rx
  cases y with
  | non=>cases ry;exact PySem.EqNone.ne_str_none (c7 I q (by simp))
  | bl j=>cases ry;exact PySem.EqMixed.ne_str_bool (c7 I q (by simp))
  | int j=>obtain⟨t',rfl⟩:=ry;exact PySem.EqMixed.ne_str_int (c7 I q (by simp))
  | str j=>obtain⟨t',rfl⟩:=ry;exact ne_str (c7 I q (congrArg not Lg))
  | _=>exact absurd (show false=true from hs) Bool.false_ne_true
 | byt i=>
  obtain⟨t,rfl⟩:=rx
  cases y with
  | byt j=>obtain⟨t',rfl⟩:=ry;exact W.ne_bytes (c7 I q (congrArg not Li))
  | _=>exact absurd (show false=true from hs) Bool.false_ne_true
 | _=>cases y <;> exact absurd (show false=true from hs) Bool.false_ne_true
theorem G0:OpR X (compareOp .Lt) (rI0 λi j=>.bl (decide (i<j))):=opB0 λ_ _ _ _ _ _ _ q=>lt_int q
theorem Rb:OpR X (compareOp .LtE) (rI0 λi j=>.bl (decide (i<=j))):=opB0 λ_ _ _ _ _ _ _ q=>le_int q
theorem Dy:OpR X (compareOp .Gt) (rI0 λi j=>.bl (decide (j<i))):=opB0 λ_ _ _ _ _ _ _ q=>gt_int q
theorem J1:OpR X (compareOp .GtE) (rI0 λi j=>.bl (decide (j<=i))):=opB0 λ_ _ _ _ _ _ _ q=>ge_int q
theorem Pl:OpR X (compareOp .Is) (λx y H Q=>y=.non/\Q (.bl (decide (x=.non))) H):=by
 intro pins s Z H x y v u Q I rx ry h
 obtain⟨rfl,q⟩:=h
 cases ry
 refine is_none_gen (c7 I q ?_)
 cases x <;> first
  | (cases rx;rfl)
  | (obtain⟨t,rfl⟩:=rx;rfl)
theorem Ra:OpR X (compareOp .IsNot) (λx y H Q=>y=.non/\Q (.bl (!decide (x=.non))) H):=by
 intro pins s Z H x y v u Q I rx ry h
 obtain⟨rfl,q⟩:=h
 cases ry
 refine isnot_none_gen (c7 I q ?_)
 cases x <;> first
  | (cases rx;rfl)
  | (obtain⟨t,rfl⟩:=rx;rfl)
theorem bv(b:Expr){op:CmpOp}(h:op≠.In:=by decide)(h2:op≠.NotIn:=by decide):behindInMarks op b=false:=by
 have e1:(op==CmpOp.In)=false:=by cases op <;> first|rfl|exact absurd rfl h
 have e2:(op==CmpOp.NotIn)=false:=by cases op <;> first|rfl|exact absurd rfl h2
 cases b <;> simp[behindInMarks,e1,e2]
theorem i9{op:CmpOp}{r:R2}(ho:OpR X (compareOp op) r)(ha:PE X a ta)(hb:PE X b tb)(hm:behindInMarks op b=false):PE X (.Compare a [op] [b] pos) (tOp r ta tb):=by
 intro pins s Z H Q I h
 exact wpAny_Compare1 (binT ha hb I h λv u s2 x y H2 I2 rx ry q=>ho pins s2 Z H2 x y v u Q I2 rx ry q) hm
def P6(t:TE):TT:=λZ H Q=>t Z H λx H'=>∃ k,x=.bl k/\Q k H'
theorem bp{op:CmpOp}{r:R2}(ho:OpR X (compareOp op) r)(ha:PE X a ta)(hb:PE X b tb)(hm:behindInMarks op b=false):PT X (.Compare a [op] [b] pos) (P6 (tOp r ta tb)):=by
 intro pins s Z H Q I h
 refine wpAny_isTrue_Compare1 (thn (ha pins s Z H _ I h) λv s1 ⟨x,H1,I1,r1,q1⟩=>thn (hb pins s1 Z H1 _ I1 q1) λu s2 ⟨y,H2,I2,r2,q2⟩=>
  thn (ho pins s2 Z H2 x y v u _ I2 r1 r2 q2) λc s3 ⟨z,H3,I3,r3,k,e,q3⟩=>?_) hm
 subst e
 cases r3
 exact wpAny_truthy_bool ⟨H3,I3,q3⟩
theorem Ft:(sizeLine:Nat)<2 ^ 63:=by rw[sizeLine_eq];decide
theorem P2{x:V}{us:List Value}(r:Vals [x] us):∃ u,us=[u]/\RelV x u:=by
 cases r with
 | cons r1 r2=>cases r2;exact⟨_,rfl,r1⟩
theorem Sy{x y:V}{us:List Value}(r:Vals [x,y] us):∃ u w',us=[u,w']/\RelV x u/\RelV y w':=by
 cases r with
 | cons r1 r2=>
  cases r2 with
  | cons r3 r4=>cases r4;exact⟨_,_,rfl,r1,r3⟩
theorem Am:wn X (.builtin "abs") (λxs H Q=>∃ i,xs=[.int i]/\Q (.int (if i<0 then -i else i)) H):=by
 intro pins s Z H xs us Q I r h
 obtain⟨i,rfl,q⟩:=h
 obtain⟨u,rfl,t,rfl⟩:=P2 r
 exact call_abs_int λu tk=>⟨.int (if i<0 then -i else i),H,I.tok _,⟨_,rfl⟩,q⟩
theorem Lp(hc:X.calm=true):wn X (.builtin "min") (λxs H Q=>∃ i j,xs=[.int i,.int j]/\Q (.int (if j<i then j else i)) H):=by
 intro pins s Z H xs us Q I r h
 obtain⟨i,j,rfl,q⟩:=h
 obtain⟨u,w',rfl,⟨t,rfl⟩,⟨t',rfl⟩⟩:=Sy r
 refine min_two_ints (I.ok.hd hc) λh' tk k=>⟨_,H,I.kept k,?_,q⟩
 by_cases hj:j<i
 .rw[if_pos hj,if_pos hj];exact⟨_,rfl⟩
 .rw[if_neg hj,if_neg hj];exact⟨_,rfl⟩
end
structure ObjM(h:Heap)(x dx C:Addr)(mA:Str->Option Value):Prop where
 obj:h.get? x=some (W.instObj C dx)
 ns:h.Ns1 dx mA
 ne:dx≠x
theorem Kn{h:Heap}{dx:Addr}{mA:Str->Option Value}(n:h.Ns1 dx mA):∃ od,h.get? dx=some od/\∀ name,W.lookIn name od=some (mA name):=by
 obtain⟨o,es,ep,ho,hd,hk,_,hm⟩:=n
 refine⟨o,ho,λname=>?_⟩
 have e:=hm name
 unfold nsFind findBy at e
 rw[<- Array.find?_toList]at e
 unfold W.lookIn
 rw[hd]
 dsimp only
 split
 .rename_i y q
  rw[q]at e
  exact congrArg some e
 .rename_i q
  rw[q]at e
  have a:es.toList.any (·.refKey)=false:=by
   rw[List.any_eq_false]
   intro y hy
   obtain⟨z,t,hkey⟩:=hk y (Array.mem_toList_iff.mp hy)
   simp[DictEntry.refKey,hkey]
  have a':¬ es.toList.any (·.refKey)=true:=by rw[a];exact Bool.false_ne_true
  rw[if_neg a']
  exact congrArg some e
theorem ObjM.look{h:Heap}{x dx C:Addr}{mA:Str->Option Value}(I:ObjM h x dx C mA):∃ od,W.InstAt h x (W.instObj C dx) C (some od)/\∀ name,W.lookIn name od=some (mA name):=
 let ⟨od,ho,hl⟩:=Kn I.ns
 ⟨od,⟨I.obj,rfl,rfl,ho⟩,hl⟩
section
variable{prog:Program}{w:World}{A:Around}{E:Value->Shared->Prop}{s:Shared}{K:W.Frag}{x dx C f:Addr}{mA:Str->Option Value}{name:Str}{v:Value}
theorem Sd{expr:Bool}{Q:Value->Shared->Prop}(X:K.In s.heap)(I:ObjM s.heap x dx C mA)(hg:W.plainGet K C name=true)(hh:W.hasDictIn K C=true)
  (ha:W.findIn K (.ref C) name=some none) (hv:mA name=some v) (hv':W.handedIn v=true) (h:Q v { s with toks:=s.toks+1 }) :
  wpAny (model prog w) A (getAttr (.ref x) name expr) Q E s:=by
 obtain⟨od,J,hl⟩:=I.look
 exact W.get_value X J (W.plainGet_of hg).1 (W.findObj_own hh ha rfl (by rw[hl,hv])) hv' h
theorem On{pl:Sem Bool}{Q:Value×List Value->Shared->Prop}(X:K.In s.heap)(I:ObjM s.heap x dx C mA)(hg:W.plainGet K C name=true)
  (hf:W.findIn K (.ref C) name=some (some (.ref f))) (ht:W.isFn K (.ref f)=true) (hv:mA name=none) (h:Q (.ref f,[.ref x]) s) :
  wpAny (model prog w) A (getMethod (.ref x) name pl) Q E s:=by
 obtain⟨od,J,hl⟩:=I.look
 exact W.method_fn X J (W.plainGet_of hg).1 (W.plainGet_of hg).2 hf (beq_iff_eq.mp ht) (by show(W.lookIn name od).map (·.isSome)=some false;rw[hl,hv];rfl) h
theorem Ql{ns:List Str}{Q:Unit->Shared->Prop}(X:K.In s.heap)(I:ObjM s.heap x dx C mA)
  (hs:W.findIn K (.ref C) "__setattr__"=some (some (.builtin "object.__setattr__"))) (hp:W.plainOver K C=true) (ht:W.takerIn K C name=some none) (hh:W.hasDictIn K C=true)
  (hw:PySem.Within mA ns) (hsz:ns.length<=sizeLine)
  (h:∀ h',ObjM h' x dx C (λy=>if y=name then some v else mA y)->Heap.SameBut dx s.heap h'->Q () { s with heap:=h',toks:=s.toks+2 }) :
  wpAny (model prog w) A (setAttr (.ref x) name v) Q E s:=by
 obtain⟨od,J,hl⟩:=I.look
 refine W.set_plain X J hs (W.osa_open (s:={ s with toks:=s.toks+1 }) (r:=none) X J hp ht λb=>?_)
 obtain⟨cd,hc,hd'⟩:=W.any_some hh
 have hx:s.heap.get? x=some ⟨.ref C,some dx,.plain,#[]⟩:=I.obj
 refine wpAny_bind (wpAny_pure (wpAny_bind (wpAny_bind (wpAny_loadPart hx (wpAny_bind (W.Looks.here (s:={ s with toks:=s.toks+1 }) (W.looks_clsIn X hc) ?_))))))
 rw[hd']
 refine wpAny_pure (a:=some dx) (wpAny_bind (wpAny_pure (wpAny_bind ?_)))
 refine wpAny_nsSet1 (s:={ s with toks:=s.toks+1 }) I.ns λh' hn2 hs2=>?_
 obtain⟨oD,esD,epD,hoD,hdD,hcD⟩:=hn2.count (PySem.Within.cons name v hw)
 refine wpAny_bind (wpAny_lookBehind hoD (by rw[hdD];exact pastItsLine_dict (Nat.le_trans hcD (by rw[List.length_cons];omega))) ?_)
 exact wpAny_pure (h _ ⟨(hs2.2 _ (Ne.symm I.ne)).trans I.obj,hn2,I.ne⟩ hs2)
theorem Of{R:Result->Shared->Prop}{vs:List Value}{kw:List (Str×Value)}(X:K.In s.heap)(hm:W.makesIn K C=true)
  (hi:W.findIn K (.ref C) "__init__"=some (some (.ref f))) (hf:W.typeIn K (.ref f)=some (.type "function"))
  (h:codeAny (model prog w) (A.under (.builtin "type.__call__" ⟨.ref C::vs,kw⟩)) (.call (.ref f) ⟨.ref (s.heap.objs.size+1)::vs,kw⟩) (W.InitBack (s.heap.objs.size+1) R)
   { s with heap:=(s.heap.push W.emptyDict).push (W.instObj C s.heap.objs.size) }) :
  codeAny (model prog w) A (.call (.ref C) ⟨vs,kw⟩) R s:=by
 obtain⟨hh,g,d,t,os⟩:=s
 exact W.make_core (W.makes_of X hm) (W.looks_findIn X hi) (λself=>W.bind_fn X self hf) (.inl rfl) h
end
def putF(f:Str)(v:V):List (Str×V)->List (Str×V)
 | []=>[(f,v)]
 | (g,x)::r=>if g=f then (g,v)::r else (g,x)::putF f v r
theorem uf(f g:Str)(v:V):∀ fs:List (Str×V),(putF f v fs).lookup g=if g=f then some v else fs.lookup g
 | []=>by
  show List.lookup g [(f,v)]=_
  by_cases h:g=f
  .have hb:(g==f)=true:=beq_iff_eq.mpr h
   simp only[List.lookup,hb,if_pos h]
  .have hb:(g==f)=false:=beq_eq_false_iff_ne.mpr h
   simp only[List.lookup,hb,if_neg h]
 | (k,x)::r=>by
  have ih:=uf f g v r
  rw[show putF f v ((k,x)::r)=(if k=f then (k,v)::r else (k,x)::putF f v r) from rfl]
  by_cases hk:k=f
  .rw[if_pos hk]
   by_cases h:g=k
   .have hb:(g==k)=true:=beq_iff_eq.mpr h
    simp only[List.lookup,hb,if_pos (h.trans hk)]
   .have hb:(g==k)=false:=beq_eq_false_iff_ne.mpr h
    simp only[List.lookup,hb,if_neg (λe:g=f=>h (e.trans hk.symm))]
  .rw[if_neg hk]
   by_cases h:g=k
   .have hb:(g==k)=true:=beq_iff_eq.mpr h
    simp only[List.lookup,hb,if_neg (λe:g=f=>hk (h.symm.trans e))]
   .have hb:(g==k)=false:=beq_eq_false_iff_ne.mpr h
    simp only[List.lookup,hb]
    exact ih
theorem ug(f:Str)(v:V):∀ fs:List (Str×V),f∈(putF f v fs).map (·.1)/\∀ g,g∈fs.map (·.1)->g∈(putF f v fs).map (·.1)
 | []=>⟨by simp[putF],λg h=>by simp at h⟩
 | (k,x)::r=>by
  obtain⟨i1,i2⟩:=ug f v r
  rw[show putF f v ((k,x)::r)=(if k=f then (k,v)::r else (k,x)::putF f v r) from rfl]
  by_cases hk:k=f
  .rw[if_pos hk]
   subst hk
   exact⟨by simp,λg h=>by simpa using h⟩
  .rw[if_neg hk]
   refine⟨?_,λg h=>?_⟩
   .rw[List.map_cons]
    exact List.mem_cons_of_mem _ i1
   .rw[List.map_cons]at h ⊢
    rcases List.mem_cons.mp h with e|e
    .exact List.mem_cons.mpr (.inl e)
    .exact List.mem_cons_of_mem _ (i2 g e)
theorem d9(f:Str)(v:V):∀ fs:List (Str×V),(putF f v fs).length<=fs.length+1
 | []=>by simp[putF]
 | (k,x)::r=>by
  have ih:=d9 f v r
  rw[show putF f v ((k,x)::r)=(if k=f then (k,v)::r else (k,x)::putF f v r) from rfl]
  by_cases hk:k=f
  .rw[if_pos hk,List.length_cons,List.length_cons];omega
  .rw[if_neg hk,List.length_cons,List.length_cons];omega
theorem RelO.some_of{v:V}{o:Option Value}(r:RelO (some v) o):∃ u,o=some u/\RelV v u:=by
 cases o with
 | none=>exact(show False from r).elim
 | some u=>exact⟨u,rfl,r⟩
theorem RelO.none_of{o:Option Value}(r:RelO none o):o=none:=by
 cases o with
 | none=>rfl
 | some u=>exact(show False from r).elim
theorem K4{v:V}{u:Value}(r:RelV v u):W.handedIn u=true:=by
 cases v with
 | non=>cases (show u=Value.none from r);rfl
 | bl b=>cases (show u=Value.bool b from r);rfl
 | int i=>obtain⟨t,e⟩:=(show ∃ t,u=Value.int i t from r);cases e;rfl
 | str x=>obtain⟨t,e⟩:=(show ∃ t,u=Value.str x t from r);cases e;rfl
 | byt b=>obtain⟨t,e⟩:=(show ∃ t,u=Value.bytes b t from r);cases e;rfl
 | flt b=>obtain⟨t,e⟩:=(show ∃ t,u=Value.float b t from r);cases e;rfl
 | ref a=>cases (show u=Value.ref a from r);rfl
 | ty n=>cases (show u=Value.type n from r);rfl
section
variable{P:Program}{w:World}{H H':Hp}{h h':Heap}{a C dx:Addr}{fs fs':List (Str×V)}
theorem Ef(hok:HOk P w H h)(e:H a=some (.ins C dx fs)):∃ mA,ObjM h a dx C mA/\(∀ f,RelO (fs.lookup f) (mA f))/\PySem.Within mA (fs.map (·.1))/\fs.length<=1000/\H dx=some (.own a):=by
 obtain⟨d,z,ne,ob,mA,n,r,q⟩:=(show ga P w H h a (.ins C dx fs) from hok a _ e)
 exact⟨mA,⟨ob,n,ne⟩,r,q,z,d⟩
end
structure Cls(K:W.Frag)(C:Addr):Prop where
 pg:W.plainGet K C Str.empty=true
 hd:W.hasDictIn K C=true
 po:W.plainOver K C=true
 sa:W.findIn K (.ref C) "__setattr__"=some (some (.builtin "object.__setattr__"))
theorem Cls.get{K:W.Frag}{C:Addr}(c:Cls K C)(f:Str):W.plainGet K C f=true:=c.pg
def fz(K:W.Frag)(C:Addr)(f:Str):Prop:=W.findIn K (.ref C) f=some none
theorem fz.taker{K:W.Frag}{C:Addr}{f:Str}(n:fz K C f):W.takerIn K C f=some none:=by
 unfold W.takerIn
 rw[show W.findIn K (.ref C) f=some none from n]
 rfl
structure Meth(K:W.Frag)(C:Addr)(m:Str)(f:Addr):Prop where
 at_:W.findIn K (.ref C) m=some (some (.ref f))
 fn:W.isFn K (.ref f)=true
 kp:W.keepIn K (.ref f)=true
section
variable{X:Cx}{pins:List (Addr×Obj)}{Z:St}{H:Hp}{s:Shared}{a C dx:Addr}{fs:List (Str×V)}{f:Str}{v:V}{A:Around}{E:Value->Shared->Prop}
theorem yl{b:Bool}{Q:Value->Shared->Prop}(I:Inv X pins Z H s)(e:H a=some (.ins C dx fs))(c:Cls X.K C)(n:fz X.K C f)(l:fs.lookup f=some v)
  (h:∀ u s',Inv X pins Z H s'->RelV v u->Q u s'):wpAny (model X.prog X.w) A (getAttr (.ref a) f b) Q E s:=by
 obtain⟨mA,O,r,_,_,_⟩:=Ef I.hok e
 obtain⟨u,hu,ru⟩:=RelO.some_of (v:=v) (o:=mA f) (by rw[<- l];exact r f)
 exact Sd I.kIn O (c.get f) c.hd n hu (K4 ru) (h u _ (I.tok _) ru)
theorem yk{m:Str}{g:Addr}{pl:Sem Bool}{Q:Value×List Value->Shared->Prop}(I:Inv X pins Z H s)(e:H a=some (.ins C dx fs))(c:Cls X.K C)(k:Meth X.K C m g)(l:fs.lookup m=none)
  (h:Q (.ref g,[.ref a]) s):wpAny (model X.prog X.w) A (getMethod (.ref a) m pl) Q E s:=by
 obtain⟨mA,O,r,_,_,_⟩:=Ef I.hok e
 have hn:mA m=none:=RelO.none_of (by rw[<- l];exact r m)
 exact On I.kIn O (c.get m) k.at_ k.fn hn h
theorem x8{y:V}{u:Value}{Q:Unit->Shared->Prop}(I:Inv X pins Z H s)(e:H a=some (.ins C dx fs))(c:Cls X.K C)(n:fz X.K C f)(hl:fs.length<1000)(ry:RelV y u)
  (h:∀ s',Inv X pins Z (upd H a (.ins C dx (putF f y fs))) s'->Q () s'):wpAny (model X.prog X.w) A (setAttr (.ref a) f u) Q E s:=by
 obtain⟨mA,O,r,wi,_,ho⟩:=Ef I.hok e
 have hz:(fs.map (·.1)).length<=sizeLine:=by rw[List.length_map,sizeLine_eq];omega
 refine Ql I.kIn O c.sa c.po n.taker c.hd wi hz λh' O' sb=>h _ ?_
 have hd:∃ o,h'.get? dx=some o:=let ⟨o,_,_,e',_⟩:=O'.ns;⟨o,e'⟩
 refine I.write (x:=a) (e:=dx) (by rw[e];exact True.intro) (.inr ho) (λb q hb z=>(sb.2 b hb).trans z) hd ?_
 refine⟨by rw[ay O.ne];exact ho,?_,O.ne,O'.obj,_,O'.ns,λg=>?_,λg hg=>?_⟩
 .have:=d9 f y fs;omega
 .show RelO ((putF f y fs).lookup g) (if g=f then some u else mA g)
  rw[uf]
  by_cases q:g=f
  .rw[if_pos q,if_pos q];exact ry
  .rw[if_neg q,if_neg q];exact r g
 .by_cases q:g=f
  .rw[q];exact(ug f y fs).1
  .refine(ug f y fs).2 g (wi g λz=>hg ?_)
   show(if g=f then some u else mA g)=none
   rw[if_neg q];exact z
theorem Inv.made(I:Inv X pins Z H s):Inv X pins Z (upd (upd H s.heap.objs.size (.own (s.heap.objs.size+1))) (s.heap.objs.size+1) (.ins C s.heap.objs.size []))
  { s with heap:=(s.heap.push W.emptyDict).push (W.instObj C s.heap.objs.size) }:=by
 have e1:(s.heap.push W.emptyDict).get? s.heap.objs.size=some W.emptyDict:=Heap.get?_push_size s.heap rfl
 have e2:((s.heap.push W.emptyDict).push (W.instObj C s.heap.objs.size)).get? (s.heap.objs.size+1)=some (W.instObj C s.heap.objs.size):=by
  have:=Heap.get?_push_size (s.heap.push W.emptyDict) (o:=W.instObj C s.heap.objs.size) rfl
  rwa [Heap.size_push]at this
 have e3:(s.heap.push W.emptyDict).Ns s.heap.objs.size (λ_=>none):=⟨W.emptyDict,#[],_,e1,rfl,(λe he=>absurd he (by simp)),λ_=>rfl⟩
 have I1:=I.laid (a:=s.heap.objs.size) (o:=.own (s.heap.objs.size+1)) (h':=s.heap.push W.emptyDict) (t':=s.toks) (λb u q=>Heap.get?_push_of_some _ q) (Nat.le_refl _) ⟨_,e1⟩
 refine I1.laid (a:=s.heap.objs.size+1) (o:=.ins C s.heap.objs.size []) (t':=s.toks) (λb u q=>Heap.get?_push_of_some _ q) (Nat.le_of_eq (Heap.size_push _ _)) ?_
 have ne:s.heap.objs.size≠s.heap.objs.size+1:=Nat.ne_of_lt (Nat.lt_succ_self _)
 refine⟨by rw[ay ne,ak],Nat.zero_le _,ne,e2,λ_=>none,(Heap.Ns1.of_empty e3).at λo q=>Heap.get?_push_of_some _ q,λ_=>True.intro,λy hy=>absurd rfl hy⟩
theorem Sr{prog:Program}{w:World}{env:Env}{e:Expr}{f:Str}{pos:Pos}{s:Shared}{Q:Value->Shared->Prop}(hb:attributeBase e f env (eval e env)=eval e env)
  (h:wpAny (model prog w) A (eval e env) (λo s₁=>wpAny (model prog w) A (getAttr o f true) Q E s₁) E s):wpAny (model prog w) A (eval (.Attribute e f pos) env) Q E s:=
 Attribute_any_ h (by rw[arm_eval_Attribute,hb])
end
def tFld(K:W.Frag)(ta:TE)(f:Str):TE:=λZ H Q=>ta Z H λx H1=>∃ a C dx fs v,x=.ref a/\H1 a=some (.ins C dx fs)/\Cls K C/\fz K C f/\fs.lookup f=some v/\Q v H1
def sFld(K:W.Frag)(ta tv:TE)(f:Str):TS:=λD Z H=>tv Z H λy H1=>ta Z H1 λx H2=>∃ a C dx fs,x=.ref a/\H2 a=some (.ins C dx fs)/\Cls K C/\fz K C f/\fs.length<1000 /\
 D.nx Z (upd H2 a (.ins C dx (putF f y fs)))
def InOp(X:Cx)(op:Operator)(rd:V->V->Hp->VK->Prop):Prop:=
 ∀ (pins:List (Addr×Obj)) (s:Shared) (Z:St) (H:Hp) (x y:V) (u v:Value) (Q:VK),Inv X pins Z H s->RelV x u->RelV y v->rd x y H Q->wpAny (model X.prog X.w) X.A (inplaceOp op u v) (EP X pins Z Q) X.xe s
def Qu(K:W.Frag)(ta tv:TE)(rd:V->V->Hp->VK->Prop)(f:Str):TS:=λD Z H=>ta Z H λx H1=>∃ a C dx fs v,x=.ref a/\H1 a=some (.ins C dx fs)/\Cls K C/\fz K C f/\fs.lookup f=some v /\
 tv Z H1 λy H2=>rd v y H2 λz H3=>∃ dx' fs',H3 a=some (.ins C dx' fs')/\fs'.length<1000/\D.nx Z (upd H3 a (.ins C dx' (putF f z fs')))
section
variable{X:Cx}{o e value:Expr}{f:Str}{pos pos' tpos:Pos}{ta tv:TE}
theorem fb(he:PE X e ta)(hb:attributeBase e f X.env (eval e X.env)=eval e X.env):PE X (.Attribute e f pos) (tFld X.K ta f):=by
 intro pins s Z H Q I h
 refine Sr hb (thn (he pins s Z H _ I h) λu s1 ⟨x,H1,I1,rx,a,C,dx,fs,v,ex,ea,c,n,l,q⟩=>?_)
 subst ex
 obtain rfl:u=Value.ref a:=rx
 exact yl I1 ea c n l λu' s2 I2 ru=>⟨v,H1,I2,ru,q⟩
theorem jq(ha:PE X o ta)(hv:PE X value tv)(hs:swapsWith value (some (.Attribute o f pos')) pos.line X.env=pure false):PS X (.Assign [.Attribute o f pos'] value pos) (sFld X.K ta tv f):=by
 intro pins s Z H D I h
 refine plainObj_wpAny_Assign_Attribute (thn (hv pins s Z H _ I h) λu s1 ⟨y,H1,I1,ry,q⟩=>thn (ha pins s1 Z H1 _ I1 q) λov s2 ⟨x,H2,I2,rx,a,C,dx,fs,ex,ea,c,n,l,q2⟩=>?_) hs
 subst ex
 obtain rfl:ov=Value.ref a:=rx
 exact x8 I2 ea c n l ry λs3 I3=>⟨Z,_,I3,q2⟩
theorem Bm{op:Operator}{rd:V->V->Hp->VK->Prop}(ha:PE X o ta)(hv:PE X value tv)(hop:InOp X op rd):PS X (.AugAssign (.Attribute o f tpos) op value pos) (Qu X.K ta tv rd f):=by
 intro pins s Z H D I h
 refine wpAny_AugAssign_AttributeAny (thn (ha pins s Z H _ I h) λov s1 ⟨x,H1,I1,rx,a,C,dx,fs,v,ex,ea,c,n,l,q⟩=>?_)
 subst ex
 obtain rfl:ov=Value.ref a:=rx
 refine yl I1 ea c n l λu s2 I2 ru=>thn (hv pins s2 Z H1 _ I2 q) λw3 s3 ⟨y,H2,I3,ry,q3⟩=>thn (hop pins s3 Z H2 v y u w3 _ I3 ru ry q3) λw4 s4 ⟨z,H3,I4,rz,dx',fs',ea',l',q4⟩=>?_
 exact x8 I4 ea' c n l' rz λs5 I5=>⟨Z,_,I5,q4⟩
def rAdd:V->V->Hp->VK->Prop:=λx y H Q=>∃ i j,x=.int i/\y=.int j/\Q (.int (i+j)) H
theorem Pq:InOp X .Add rAdd:=by
 rintro pins s Z H x y u v Q I rx ry ⟨i,j,rfl,rfl,q⟩
 obtain⟨t,rfl⟩:=(show ∃ t,u=Value.int i t from rx)
 obtain⟨t',rfl⟩:=(show ∃ t',v=Value.int j t' from ry)
 exact PyProof.Rows.iadd_int ⟨.int (i+j),H,I.tok _,⟨_,rfl⟩,q⟩
end
structure Room(k:Nat)(A:Around):Prop where
 hd:A.handled=none
 dp:A.depth+3*k+5<recursionLimit
 un:A.units+16*k+200<cLine
theorem Room.mono{j k:Nat}{A:Around}(r:Room k A)(h:j<=k):Room j A:=⟨r.hd,by have:=r.dp;omega,by have:=r.un;omega⟩
theorem Room.deeper{k:Nat}{A:Around}(r:Room (k+1) A)(env:Env):Room k (A.deeper env):=
 ⟨r.hd,by have:=r.dp;show A.depth+1+3*k+5<_;omega,by have:=r.un;show A.units+3+16*k+200<_;omega⟩
theorem Ha{A:Around}{C:Addr}{us:List Value}{kw:List (Str×Value)}:(A.under (.builtin "type.__call__" ⟨.ref C::us,kw⟩)).depth=A.depth+1:=by
 first|rfl|simp[Around.under,Code.weight,Code.isCreation,Code.isGuard,Code.isCaller,Code.frames,Code.isFrame,guardIds]
theorem G9{A:Around}{C:Addr}{us:List Value}{kw:List (Str×Value)}:(A.under (.builtin "type.__call__" ⟨.ref C::us,kw⟩)).units=A.units+1:=by
 first|rfl|simp[Around.under,Code.cUnits,Code.frames,Code.isFrame]
theorem Room.make{k:Nat}{A:Around}(r:Room (k+1) A)(C:Addr)(us:List Value)(kw:List (Str×Value)):Room k (A.under (.builtin "type.__call__" ⟨.ref C::us,kw⟩)):=
 ⟨r.hd,by have:=r.dp;rw[Ha];omega,by have:=r.un;rw[G9];omega⟩
theorem Room.depth{k:Nat}{A:Around}(r:Room k A):A.depth<recursionLimit:=by have:=r.dp;omega
theorem Room.units{k:Nat}{A:Around}(r:Room k A):A.units+64<cLine:=by have:=r.un;omega
def tNil:TA:=λ_ H Q=>Q [] H
def n6(ta:TE)(tr:TA):TA:=λZ H Q=>ta Z H λx H1=>tr Z H1 λxs H2=>Q (x::xs) H2
section
variable{X:Cx}{e:Expr}{es:List Expr}{te:TE}{t:TA}{pos:Pos}
theorem aj:PA X [] tNil:=λ_ _ _ _ H Q I h=>Calls.spliced_nil ⟨[],H,I,.nil,h⟩
theorem aa(ha:PE X e te)(hr:PA X es t)(hs:starEach (e::es) X.env=(false,eval e X.env)::starEach es X.env:=by rfl):PA X (e::es) (n6 te t):=by
 intro pos pins s Z H Q I h
 rw[hs]
 show wpAny _ _ (spliced ((false,eval e X.env)::backTo pos (starEach es X.env))) _ _ s
 refine Calls.spliced_cons (thn (ha pins s Z H _ I h) λu s1 ⟨x,H1,I1,r1,q1⟩=>?_)
 exact thn (hr pos pins s1 Z H1 _ I1 q1) λus s2 ⟨xs,H2,I2,r2,q2⟩=>⟨x::xs,H2,I2,.cons r1 r2,q2⟩
def tTup(t:TA):TE:=λZ H Q=>t Z H λxs H1=>xs.length<=sizeLine/\∀ p,H1 p=none->Q (.ref p) (upd H1 p (.tup xs))
def tLst(t:TA):TE:=λZ H Q=>t Z H λxs H1=>xs.length<=sizeLine/\∀ p,H1 p=none->Q (.ref p) (upd H1 p (.lst xs))
theorem ia{x1}(h:PA X es t):PE X (.Tuple es x1 pos) (tTup t):=by
 intro pins s Z H Q I hq
 refine wpAny_Tuple_spliced (thn (h pos pins s Z H _ I hq) λus s1 ⟨xs,H1,I1,r,z,q⟩=>⟨by rw[<- r.length];exact z,?_⟩)
 have hf:H1 s1.heap.objs.size=none:=I1.hok.fresh (Nat.le_refl _)
 refine⟨.ref s1.heap.objs.size,upd H1 s1.heap.objs.size (.tup xs),I1.laid (t':=s1.toks) (λb u e=>Heap.get?_push_of_some _ e) (Nat.le_refl _) ?_,rfl,q _ hf⟩
 exact⟨z,us,r,⟨_,Heap.get?_push_size _ rfl,rfl,_,rfl⟩⟩
theorem cu(h:PA X es t):PE X (.List es pos) (tLst t):=by
 intro pins s Z H Q I hq
 refine wpAny_List_spliced (thn (h pos pins s Z H _ I hq) λus s1 ⟨xs,H1,I1,r,z,q⟩=>⟨by rw[<- r.length];exact z,?_⟩)
 have hf:H1 s1.heap.objs.size=none:=I1.hok.fresh (Nat.le_refl _)
 refine⟨.ref s1.heap.objs.size,upd H1 s1.heap.objs.size (.lst xs),I1.laid (t':=s1.toks) (λb u e=>Heap.get?_push_of_some _ e) (Nat.le_refl _) ?_,rfl,q _ hf⟩
 exact⟨z,us,0,r,Heap.get?_push_size _ rfl⟩
end
abbrev Sp:=List V->Hp->VK->XK->Prop
abbrev CXT:=List Env->Hp->Shared->XK->Value->Shared->Prop
structure Env0(P:Program)(w:World)(K:W.Frag)(mg:Str->Option Value)(base:Heap)(A:Around)(outer:List Env)(s:Shared)(H:Hp):Prop where
 frames:A.frames=some outer
 mod:Mod K mg base
 bs:∀ b o,base.get? b=some o->s.heap.get? b=some o/\H b=none
 bsz:base.objs.size<=s.heap.objs.size
 funs:s.heap.FunFrames base outer
 frf:∀ b∈frs outer,H b=none
 hok:HOk P w H s.heap
 bare:AllBare s.gens
def CE(outer:List Env)(P:Program)(w:World)(H:Hp)(s:Shared)(Q:VK)(u:Value)(s':Shared):Prop:=
 ∃ v H',s'.os=s.os/\AllBare s'.gens/\Un (frs outer) [] H H' s.heap s'.heap/\HOk P w H' s'.heap/\RelV v u/\Q v H'
def CR(CX:CXT)(outer:List Env)(P:Program)(w:World)(H:Hp)(s:Shared)(Q:VK)(E:XK)(r:Result)(s':Shared):Prop:=
 match r with
 | .ok (.ret u)=>CE outer P w H s Q u s'
 | .ok _=>False
 | .error e=>CX outer H s E e s'
structure FnOk(P:Program)(w:World)(K:W.Frag)(mg:Str->Option Value)(base:Heap)(CX:CXT)(k:Nat)(f:Addr)(fd:FuncData)(ps:List Str)(sp:Sp):Prop where
 len:∀ vs H Q E,sp vs H Q E->vs.length=ps.length
 run:∀ (A:Around) (outer:List Env) (s:Shared) (H:Hp) (args:Args) (us:List Value) (vs:List V) (Q:VK) (E:XK),Room k A->Env0 P w K mg base A outer s H->BindsTo s fd args (ps.zip us)->Vals vs us->sp vs H Q E ->
  codeAny (model P w) A (.call (.ref f) args) (CR CX outer P w H s Q E) s
theorem FnOk.imp{P:Program}{w:World}{K:W.Frag}{mg:Str->Option Value}{base:Heap}{CX:CXT}{k:Nat}{f:Addr}{fd:FuncData}{ps:List Str}{sp sp':Sp}(F:FnOk P w K mg base CX k f fd ps sp)
  (h:∀ vs H Q E,sp' vs H Q E->sp vs H Q E):FnOk P w K mg base CX k f fd ps sp' :=
 ⟨λvs H Q E q=>F.len vs H Q E (h _ _ _ _ q),λA outer s H args us vs Q E hr he hb hv hs=>F.run A outer s H args us vs Q E hr he hb hv (h _ _ _ _ hs)⟩
theorem Env0.make{P:Program}{w:World}{K:W.Frag}{mg:Str->Option Value}{base:Heap}{A:Around}{outer:List Env}{s:Shared}{H:Hp}(e:Env0 P w K mg base A outer s H)(C:Addr)(us:List Value)(kw:List (Str×Value)) :
  Env0 P w K mg base (A.under (.builtin "type.__call__" ⟨.ref C::us,kw⟩)) outer s H:=⟨by first|exact e.frames|(simpa [Around.under,Code.envs,Code.isFrame,pushEnvs] using e.frames),e.mod,e.bs,e.bsz,e.funs,e.frf,e.hok,e.bare⟩
section
variable{X:Cx}{pins:List (Addr×Obj)}{Z:St}{H:Hp}{s s':Shared}
theorem Inv.env0(I:Inv X pins Z H s):Env0 X.prog X.w X.K X.mg X.base X.A X.stack s H :=
 ⟨I.ok.frames,I.ok.mod,I.bs,Nat.le_trans I.ok.bsz I.sz,I.stack,I.stkFree,I.hok,I.bare⟩
theorem Inv.after{Q:VK}{u:Value}(I:Inv X pins Z H s)(h:CE X.stack X.prog X.w H s Q u s'):EP X pins Z Q u s':=by
 obtain⟨v,H',os,bare,un,hok,r,q⟩:=h
 obtain⟨hh,g,d,t,os'⟩:=s'
 obtain rfl:os'=s.os:=os
 exact⟨v,H',I.call (h':=hh) (g':=g) (d':=d) (t':=t) (ch:=[]) un hok bare (λb z=>absurd z (by simp)),r,q⟩
end
def Me(sp:Sp)(dvs:List V)(E:XK)(t:TA):TE:=λZ H Q=>t Z H λvs H1=>sp (vs++dvs) H1 Q E
def Ma(C:Addr)(m:Str)(sp:Sp)(dvs:List V)(E:XK)(ta:TE)(t:TA):TE:=λZ H Q=>ta Z H λx H1=>∃ a dx fs,x=.ref a/\H1 a=some (.ins C dx fs)/\fs.lookup m=none /\
 t Z H1 λvs H2=>sp (x::(vs++dvs)) H2 Q E
def Mb(C:Addr)(sp:Sp)(dvs:List V)(E:XK)(t:TA):TE:=λZ H Q=>t Z H λvs H1=>∀ x dx,H1 x=none->H1 dx=none->dx≠x ->
 sp (.ref x::(vs++dvs)) (upd (upd H1 dx (.own x)) x (.ins C dx [])) (λv H2=>v=.non/\Q (.ref x) H2) E
def jh(K:W.Frag)(fd:FuncData)(ps:List Str)(ds:List Value):Prop:=
 ∀ (s:Shared) (us:List Value),K.In s.heap->(us++ds).length=ps.length->BindsTo s fd ⟨us,[]⟩ (ps.zip (us++ds))
theorem jh.all{K:W.Frag}{fd:FuncData}{ps:List Str}(h:∀ us:List Value,us.length=ps.length->bindArgs fd ⟨us,[]⟩=pure (ps.zip us)):jh K fd ps []:=λs us _ hl=>by
 rw[List.append_nil]at hl ⊢
 exact .of_eq (h us hl)
def gn(CX:CXT)(X:Cx)(E:XK):Prop:=∀ (pins:List (Addr×Obj)) (Z:St) (H:Hp) (s:Shared) (e:Value) (s':Shared),Inv X pins Z H s->CX X.stack H s E e s'->X.xe e s'
section
variable{X:Cx}{CX:CXT}{k:Nat}{f C:Addr}{fd:FuncData}{ps:List Str}{sp:Sp}{dvs:List V}{ds:List Value}{E:XK}{x m:Str}{p pos apos:Pos}{e o:Expr}{es:List Expr}{ta:TE}{t:TA}
theorem Fe{pins:List (Addr×Obj)}{Z:St}{H:Hp}{s:Shared}{Q:VK}{us:List Value}{vs:List V}(F:FnOk X.prog X.w X.K X.mg X.base CX k f fd ps sp)(hr:Room k X.A)(hb:jh X.K fd ps ds)(hd:Vals dvs ds)(hx:gn CX X E)
  (I:Inv X pins Z H s) (r:Vals vs us) (h:sp (vs++dvs) H Q E):wpAny (model X.prog X.w) X.A (call (.ref f) us) (EP X pins Z Q) X.xe s:=by
 have r2:Vals (vs++dvs) (us++ds):=r.append hd
 have hl:(us++ds).length=ps.length:=by rw[<- r2.length];exact F.len _ _ _ _ h
 refine wpAny_call (codeAny_mono (F.run X.A X.stack s H ⟨us,[]⟩ (us++ds) (vs++dvs) Q E hr I.env0 (hb s us I.kIn hl) r2 h) λr s' hq=>?_)
 cases r with
 | error e=>exact hx pins Z H s e s' I hq
 | ok fl=>
  cases fl with
  | ret u=>exact I.after hq
  | next=>exact False.elim hq
  | brk=>exact False.elim hq
  | cont=>exact False.elim hq
theorem Q8(F:FnOk X.prog X.w X.K X.mg X.base CX k f fd ps sp)(hr:Room k X.A)(hg:Gl X x)(hm:X.mg x=some (.ref f))(hk:W.keepIn X.K (.ref f)=true)(hb:jh X.K fd ps ds)(hd:Vals dvs ds)(hx:gn CX X E)
  (ha:PA X (e::es) t) (hdb:(x==("__debug__":Str))=false:=by decide) (he:starEach (e::es) X.env=(false,eval e X.env)::starEach es X.env:=by rfl) (hpl:(backTo pos (starEach es X.env)).any (·.1)=false:=by rfl) :
  PE X (.Call (.Name x p) (e::es) [] pos) (Me sp dvs E t):=by
 intro pins s Z H Q I h
 refine wpAny_Call_Name_kw (ot I hg hm ?_ hdb)
 refine W.callWith_K (h₀:=X.base) I.ok.mod.kin hk (thn (ha pos pins s Z H _ I h) λus s1 ⟨vs,H1,I1,r,q⟩=>⟨I1.kIn,?_⟩) he hpl
 exact Fe F hr hb hd hx I1 r q
theorem Q5{pl:Sem Bool}(he:PE X o ta)(c:Cls X.K C)(hm:Meth X.K C m f)(F:FnOk X.prog X.w X.K X.mg X.base CX k f fd ps sp)(hr:Room k X.A)(hb:jh X.K fd ps ds)(hd:Vals dvs ds)(hx:gn CX X E)(ha:PA X (e::es) t)
  (hst:starEach (e::es) X.env=(false,eval e X.env)::starEach es X.env:=by rfl) (hpl:(backTo pos (starEach es X.env)).any (·.1)=false:=by rfl)
  (ht:eval (.Call (.Attribute o m apos) (e::es) [] pos) X.env=(do
   let ov <- eval o X.env
   standAt apos.atName
   let (f,first) <- holding [ov] (getMethod ov m pl)
   callWith pos f first (backTo pos (starEach (e::es) X.env)) (backToKw pos (keywordEach [] X.env))):=by rfl) :
  PE X (.Call (.Attribute o m apos) (e::es) [] pos) (Ma C m sp dvs E ta t):=by
 intro pins s Z H Q I h
 refine W.methodCall_KW (pl:=pl) (thn (he pins s Z H _ I h) λu s1 ⟨x,H1,I1,rx,a,dx,fs,ex,ea,l,q⟩=>?_) ht
 subst ex
 obtain rfl:u=Value.ref a:=rx
 refine yk I1 ea c hm l ?_
 refine W.callWith_K (first:=[.ref a]) (h₀:=X.base) I.ok.mod.kin hm.kp (thn (ha pos pins s1 Z H1 _ I1 q) λus s2 ⟨vs,H2,I2,r,q2⟩=>⟨I2.kIn,?_⟩) hst hpl
 exact Fe (us:=.ref a::us) (vs:=.ref a::vs) F hr hb hd hx I2 (.cons rfl r) q2
theorem Na{pl:Sem Bool}(he:PE X o ta)(c:Cls X.K C)(hm:Meth X.K C m f)(F:FnOk X.prog X.w X.K X.mg X.base CX k f fd ps sp)(hr:Room k X.A)(hb:jh X.K fd ps ds)(hd:Vals dvs ds)(hx:gn CX X E)
  (ht:eval (.Call (.Attribute o m apos) [] [] pos) X.env=(do
   let ov <- eval o X.env
   standAt apos.atName
   let (f,first) <- holding [ov] (getMethod ov m pl)
   callWith pos f first (backTo pos (starEach [] X.env)) (backToKw pos (keywordEach [] X.env))):=by rfl) :
  PE X (.Call (.Attribute o m apos) [] [] pos) (Ma C m sp dvs E ta tNil):=by
 intro pins s Z H Q I h
 refine W.methodCall_KW (pl:=pl) (thn (he pins s Z H _ I h) λu s1 ⟨x,H1,I1,rx,a,dx,fs,ex,ea,l,q⟩=>?_) ht
 subst ex
 obtain rfl:u=Value.ref a:=rx
 refine yk I1 ea c hm l ?_
 exact W.callWith_K0 (first:=[.ref a]) I1.kIn hm.kp (Fe (us:=[.ref a]) (vs:=[.ref a]) F hr hb hd hx I1 (.cons rfl .nil) q)
structure Mk(K:W.Frag)(C f:Addr):Prop where
 makes:W.makesIn K C=true
 init:W.findIn K (.ref C) "__init__"=some (some (.ref f))
 fn:W.isFn K (.ref f)=true
 kp:W.keepIn K (.ref C)=true
theorem Fd{pins:List (Addr×Obj)}{Z:St}{H:Hp}{s:Shared}{Q:VK}{us:List Value}{vs:List V}(M:Mk X.K C f)(F:FnOk X.prog X.w X.K X.mg X.base CX k f fd ps sp)(hr:Room (k+1) X.A)(hb:jh X.K fd ps ds)(hd:Vals dvs ds)
  (hx:gn CX X E) (I:Inv X pins Z H s) (r:Vals vs us)
  (h:∀ x dx,H x=none->H dx=none->dx≠x->sp (.ref x::(vs++dvs)) (upd (upd H dx (.own x)) x (.ins C dx [])) (λv H2=>v=.non/\Q (.ref x) H2) E) :
  wpAny (model X.prog X.w) X.A (call (.ref C) us) (EP X pins Z Q) X.xe s:=by
 have hq:=h (s.heap.objs.size+1) s.heap.objs.size (I.hok.fresh (Nat.le_succ _)) (I.hok.fresh (Nat.le_refl _)) (Nat.ne_of_lt (Nat.lt_succ_self _))
 have I2:=Inv.made (C:=C) I
 have r2:Vals (V.ref (s.heap.objs.size+1)::(vs++dvs)) (Value.ref (s.heap.objs.size+1)::(us++ds)):=.cons rfl (r.append hd)
 have hl:(Value.ref (s.heap.objs.size+1)::us++ds).length=ps.length:=by
  have e:=r2.length
  rw[F.len _ _ _ _ hq]at e
  exact e.symm
 refine wpAny_call (Of (f:=f) I.kIn M.makes M.init (beq_iff_eq.mp M.fn) (codeAny_mono (F.run _ X.stack _ _ ⟨Value.ref (s.heap.objs.size+1)::us,[]⟩ (Value.ref (s.heap.objs.size+1)::(us++ds)) _ _ E (hr.make C us [])
  (I2.env0.make C us []) (hb _ (Value.ref (s.heap.objs.size+1)::us) I2.kIn hl) r2 hq) λr s' hq'=>?_))
 cases r with
 | error e=>exact hx pins Z _ _ e s' I2 hq'
 | ok fl=>
  cases fl with
  | ret u=>
   obtain⟨v,H',I3,rv,ev,q3⟩:=I2.after hq'
   subst ev
   exact⟨rv,⟨V.ref (s.heap.objs.size+1),H',I3,rfl,q3⟩⟩
  | next=>exact False.elim hq'
  | brk=>exact False.elim hq'
  | cont=>exact False.elim hq'
theorem Q7(M:Mk X.K C f)(F:FnOk X.prog X.w X.K X.mg X.base CX k f fd ps sp)(hr:Room (k+1) X.A)(hg:Gl X x)(hm:X.mg x=some (.ref C))(hb:jh X.K fd ps ds)(hd:Vals dvs ds)(hx:gn CX X E)
  (ha:PA X (e::es) t) (hdb:(x==("__debug__":Str))=false:=by decide) (he:starEach (e::es) X.env=(false,eval e X.env)::starEach es X.env:=by rfl) (hpl:(backTo pos (starEach es X.env)).any (·.1)=false:=by rfl) :
  PE X (.Call (.Name x p) (e::es) [] pos) (Mb C sp dvs E t):=by
 intro pins s Z H Q I h
 refine wpAny_Call_Name_kw (ot I hg hm ?_ hdb)
 refine W.callWith_K (h₀:=X.base) I.ok.mod.kin M.kp (thn (ha pos pins s Z H _ I h) λus s1 ⟨vs,H1,I1,r,q⟩=>⟨I1.kIn,?_⟩) he hpl
 exact Fd M F hr hb hd hx I1 r q
theorem Nc(M:Mk X.K C f)(F:FnOk X.prog X.w X.K X.mg X.base CX k f fd ps sp)(hr:Room (k+1) X.A)(hg:Gl X x)(hm:X.mg x=some (.ref C))(hb:jh X.K fd ps ds)(hd:Vals dvs ds)(hx:gn CX X E)
  (hdb:(x==("__debug__":Str))=false:=by decide):PE X (.Call (.Name x p) [] [] pos) (Mb C sp dvs E tNil):=by
 intro pins s Z H Q I h
 refine wpAny_Call_Name_kw (ot I hg hm ?_ hdb)
 exact W.callWith_K0 I.kIn M.kp (Fd (us:=[]) M F hr hb hd hx I .nil h)
end
def PK(X:Cx)(kws:List Keyword)(t:TA):Prop:=
 ∀ (pos:Pos) (pins:List (Addr×Obj)) (s:Shared) (Z:St) (H:Hp) (Q:List V->Hp->Prop),Inv X pins Z H s->t Z H Q->wpAny (model X.prog X.w) X.A (evalAll ((backToKw pos (keywordEach kws X.env)).map (·.2))) (AP X pins Z Q) X.xe s
section
variable{X:Cx}{CX:CXT}{k:Nat}{f C:Addr}{fd:FuncData}{ps ks:List Str}{sp:Sp}{E:XK}{x m:Str}{p pos apos kpos:Pos}{e o:Expr}{es:List Expr}{kws:List Keyword}{te ta:TE}{t tk:TA}{nm:Option Str}
theorem Pi:PK X [] tNil:=λ_ _ _ _ H Q I h=>wpAny_evalAll_nil ⟨[],H,I,.nil,h⟩
theorem Ju(ha:PE X e te)(hr:PK X kws t):PK X (⟨nm,e,kpos⟩::kws) (n6 te t):=by
 intro pos pins s Z H Q I h
 show wpAny _ _ (evalAll ((do let v <- eval e X.env;standAt pos;pure v)::(backToKw pos (keywordEach kws X.env)).map (·.2))) _ _ s
 refine wpAny_evalAll_cons (wpAny_bind (thn (ha pins s Z H _ I h) λu s1 ⟨x,H1,I1,r1,q1⟩=>wpAny_bind (wpAny_standAt (wpAny_pure ?_))))
 exact thn (hr pos pins s1 Z H1 _ I1 q1) λus s2 ⟨xs,H2,I2,r2,q2⟩=>⟨x::xs,H2,I2,.cons r1 r2,q2⟩
variable{g:List Value->List Value->List Value}{gV:List V->List V->List V}
end
structure FnScope(N P:List Str)(sc:Scope):Prop where
 kind:sc.kind=.function
 co:sc.isCoroutine=false
 gen:sc.isGenerator=false
 nd:N.Nodup
 pre:N.take P.length=P
 par:∀ x∈P,sc.names.lookup x=some .local\/sc.names.lookup x=some .cell
 nofree:∀ y∈sc.names,y.2≠.free
theorem Cl{kindOf:Str->Option NameKind}{x:Str}:∀ {binds:List (Str×Value)} {m:Str->Option Value},(∀ v,(x,v) ∉ binds)->bindL kindOf binds m x=m x
 | [],_,_=>rfl
 | (n,v)::r,m,h=>by
  unfold bindL
  rw[Cl λw hw=>h w (List.mem_cons_of_mem _ hw)]
  split
  .have:x≠n:=by rintro rfl;exact h v List.mem_cons_self
   simp[this]
  .rfl
theorem Cn{kindOf:Str->Option NameKind}{x:Str}:∀ {binds:List (Str×Value)} {m:Str->Option Value},(∀ v,(x,v) ∉ binds)->bindC kindOf binds m x=m x
 | [],_,_=>rfl
 | (n,v)::r,m,h=>by
  unfold bindC
  rw[Cn λw hw=>h w (List.mem_cons_of_mem _ hw)]
  split
  .rfl
  .have:x≠n:=by rintro rfl;exact h v List.mem_cons_self
   simp[this]
theorem Cm{kindOf:Str->Option NameKind}{x:Str}{v:Value}:∀ {P:List Str} {vs:List Value} {i:Nat} {m:Str->Option Value},P.Nodup->P[i]? = some x->vs[i]? = some v->kindOf x=some .local ->
  bindL kindOf (P.zip vs) m x=some v
 | [],_,_,_,_,h,_,_=>by simp at h
 | _::_,[],_,_,_,_,h,_=>by simp at h
 | p::P,w::vs,0,m,nd,h1,h2,hk=>by
  simp at h1 h2;subst h1;subst h2
  show bindL kindOf ((p,w)::P.zip vs) m p=_
  unfold bindL
  rw[Cl λv hv=>(List.nodup_cons.mp nd).1 (List.of_mem_zip hv).1,if_pos hk]
  simp
 | p::P,w::vs,i+1,m,nd,h1,h2,hk=>by
  show bindL kindOf ((p,w)::P.zip vs) m x=_
  unfold bindL
  exact Cm (i:=i) (List.nodup_cons.mp nd).2 (by simpa using h1) (by simpa using h2) hk
theorem Co{kindOf:Str->Option NameKind}{x:Str}{v:Value}:∀ {P:List Str} {vs:List Value} {i:Nat} {m:Str->Option Value},P.Nodup->P[i]? = some x->vs[i]? = some v->kindOf x≠some .local ->
  bindC kindOf (P.zip vs) m x=some v
 | [],_,_,_,_,h,_,_=>by simp at h
 | _::_,[],_,_,_,_,h,_=>by simp at h
 | p::P,w::vs,0,m,nd,h1,h2,hk=>by
  simp at h1 h2;subst h1;subst h2
  show bindC kindOf ((p,w)::P.zip vs) m p=_
  unfold bindC
  rw[Cn λv hv=>(List.nodup_cons.mp nd).1 (List.of_mem_zip hv).1,if_neg hk]
  simp
 | p::P,w::vs,i+1,m,nd,h1,h2,hk=>by
  show bindC kindOf ((p,w)::P.zip vs) m x=_
  unfold bindC
  exact Co (i:=i) (List.nodup_cons.mp nd).2 (by simpa using h1) (by simpa using h2) hk
def start(N:List Str)(vs:List V):St:=vs.map some++List.replicate (N.length - vs.length) none
def cxOf(CX:CXT)(P:Program)(w:World)(K:W.Frag)(mg:Str->Option Value)(base:Heap)(N:List Str)(qual:Str)(scope:Scope)(f:Addr)(cd:Value)(A:Around)(outer:List Env)(s:Shared)(H:Hp)(E:XK):Cx where
 prog:=P
 w:=w
 K:=K
 mg:=mg
 base:=base
 A:=A.deeper (envOfC qual scope s.heap.objs.size f cd)
 N:=N
 s_0:=s
 H_0:=H
 env:=envOfC qual scope s.heap.objs.size f cd
 outer:=outer
 stack:=envOfC qual scope s.heap.objs.size f cd::outer
 ex:=[]
 calm:=true
 fn:=λ_=>true
 pn:=[]
 xe:=λe s'=>wpAny (model P w) (A.deeper (envOfC qual scope s.heap.objs.size f cd)) (leaving (envOfC qual scope s.heap.objs.size f cd) e) (λ_ s''=>CX outer H s E e s'') (λe' s''=>CX outer H s E e' s'') s'
theorem Gn{sc:Scope}{n:Nat}{x:Str}(h:sc.names.lookup x=some .cell):∃ c,(cellsFrom n sc.names []).lookup x=some c:=by
 have q:=W.cellsFrom_some sc.names n [] (.inl h)
 exact Option.isSome_iff_exists.mp q
theorem Kv{CX:CXT}{P:Program}{w:World}{K:W.Frag}{mg:Str->Option Value}{base:Heap}{N ps:List Str}{qual:Str}{scope:Scope}{f:Addr}{cd:Value}{A:Around}{outer:List Env}{s s1:Shared}{H:Hp}{E:XK}{us:List Value}{vs:List V}
  (S:FnScope N ps scope) (hd:A.handled=none) (e0:Env0 P w K mg base A outer s H) (hl:vs.length=ps.length) (r:Vals vs us)
  (x:InCallC s s.heap.objs.size (bindL (envOfC qual scope s.heap.objs.size f cd).kindOf (ps.zip us) λ_=>none) (cellsFrom (s.heap.objs.size+1) scope.names []) (bindC (envOfC qual scope s.heap.objs.size f cd).kindOf (ps.zip us) λ_=>none) s1) :
  Inv (cxOf CX P w K mg base N qual scope f cd A outer s H E) [] (start N vs) H s1:=by
 have hpl:ps.length<=N.length:=by have:=congrArg List.length S.pre;rw[List.length_take]at this;omega
 obtain⟨h1,tk,rfl,hk⟩:=x.done
 have noA:∀ b:Addr,b ∉ (cxOf CX P w K mg base N qual scope f cd A outer s H E).ex:=λb z=>absurd (show b∈([]:List Addr) from z) (by simp)
 refine⟨⟨e0.mod,S.kind,rfl,rfl,Nat.le_refl _,λy z c h1 h2=>?_,λy hy=>?_,λy c _ h=>?_,λ_=>hd,Around.frames_deeper e0.frames,.inr ⟨rfl,rfl⟩,λb z=>absurd z (noA b),e0.bs,e0.bsz,λb _ _=>noA b,λb z=>absurd z (noA b),e0.funs,e0.frf⟩,
  rfl,e0.bare,Un.kept hk,⟨_,x.toInCall.ns,λi y v h1 h2 h3=>?_⟩,λy c h=>⟨_,x.cell y c h⟩,e0.hok.fresh (Nat.le_refl _),λy c h=>?_,λp hp=>absurd (show p∈([]:List (Addr×Obj)) from hp) (by simp),e0.hok.kept hk,?_⟩
 .exact name_of_addr x.apart (PySem.mem_of_lookup h1) (PySem.mem_of_lookup h2)
 .have hy:scope.names.lookup y=some .cell\/scope.names.lookup y=some .free:=hy
  rcases hy with hy|hy
  .exact Gn hy
  .exact absurd rfl (S.nofree _ (PySem.mem_of_lookup hy))
 .exact Nat.le_of_lt (x.above y c (PySem.mem_of_lookup h))
 .have hi:i<vs.length:=by
   unfold start at h2
   by_cases hi:i<vs.length
   .exact hi
   .rw[List.getElem?_append_right (by simpa using hi)]at h2
    rw[List.getElem?_replicate]at h2
    split at h2 <;> cases h2
  have ha:vs[i]? = some v:=by
   unfold start at h2
   rw[List.getElem?_append_left (by simpa using hi),List.getElem?_map]at h2
   cases e:vs[i]? with
   | none=>rw[e]at h2;cases h2
   | some a=>rw[e]at h2;cases h2;rfl
  obtain⟨u,hu,rv⟩:=r.get ha
  have hp:ps[i]? = some y:=by
   rw[<- S.pre,List.getElem?_take_of_lt (by omega)];exact h1
  have ndP:ps.Nodup:=by rw[<- S.pre];exact S.nd.sublist (List.take_sublist _ _)
  refine⟨u,rv,?_⟩
  rcases S.par y (List.mem_of_getElem? hp) with k|k
  .exact .inl ⟨k,Cm ndP hp hu k⟩
  .obtain⟨c,e⟩:=Gn (n:=s.heap.objs.size+1) k
   refine .inr ⟨.inl k,c,e,?_⟩
   have q:=x.cell y c e
   rw[Co ndP hp hu (by show scope.names.lookup y≠_;rw[k];decide)]at q
   exact q
 .exact e0.hok.fresh (Nat.le_of_lt (x.above y c (PySem.mem_of_lookup h)))
 .unfold start
  show _=N.length
  rw[List.length_append,List.length_map,List.length_replicate]
  omega
theorem Sg{CX:CXT}{P:Program}{w:World}{K:W.Frag}{mg:Str->Option Value}{base:Heap}{k:Nat}{f:Addr}{name qual:Str}{params:Arguments}{body:List Stmt}{scope:Scope}{dV kV doc pm cdv ct oc:Value}{an od:Option Addr}
  {osl:Array (Option Value)} {N ps:List Str} {sp:Sp} (lk:K.lookup f=some ⟨oc,od,.func (W.fnOf name qual params body scope dV kV doc pm an cdv ct),osl⟩) (hcd:W.codeIn K cdv qual=true) (S:FnScope N ps scope)
  (len:∀ vs H Q E,sp vs H Q E->vs.length=ps.length)
  (hbody:∀ (A:Around) (outer:List Env) (s:Shared) (H:Hp) (vs:List V) (Q:VK) (E:XK),Room k (A.deeper (envOfC qual scope s.heap.objs.size f cdv))->sp vs H Q E ->
   ∃ t,PSs (cxOf CX P w K mg base N qual scope f cdv A outer s H E) body t/\t { nx:=λ_ H'=>Q .non H',rt:=Q } (start N vs) H) :
  FnOk P w K mg base CX (k+1) f (W.fnOf name qual params body scope dV kV doc pm an cdv ct) ps sp:=by
 refine⟨len,λA outer s H args us vs Q E hr e0 hb r hsp=>?_⟩
 have hl:=len _ _ _ _ hsp
 have KX:K.In s.heap:=e0.mod.kin.keeps λb o e=>(e0.bs b o e).1
 have lim:s.heap.NoLimit:=e0.mod.nolimit.keeps λb o e=>(e0.bs b o e).1
 have hkind:∀ y∈ps.zip us,scope.names.lookup y.1=some .local\/(scope.names.lookup y.1=some .cell/\((cellsFrom (s.heap.objs.size+1) scope.names []).lookup y.1).isSome=true):=λ⟨n,v⟩ hy=>by
  rcases S.par n (List.of_mem_zip hy).1 with q|q
  .exact .inl q
  .exact .inr ⟨q,W.cellsFrom_some _ _ _ (.inl q)⟩
 refine codeAny_call_function hr.depth (KX _ _ lk) rfl S.co S.gen rfl (W.codeRec_of KX hcd) (hb _ _ _ _ ?_)
 refine wpAny_newFunctionEnv_cells S.kind hkind λenv he s1 x=>?_
 subst he
 refine⟨lim.keeps x.toInCall.keep,codeAny_func ?_⟩
 obtain⟨t,ht,hq⟩:=hbody A outer s H vs Q E (hr.deeper _) hsp
 have I:Inv (cxOf CX P w K mg base N qual scope f cdv A outer s H E) [] (start N vs) H s1:=Kv S hr.hd e0 hl r x
 refine wpAny_mono (ht [] s1 (start N vs) H _ I hq) (λfl s' hs=>?_) λe s' hs=>hs
 have fin:∀ {Z':St} {H':Hp} {v:V} {u:Value},Inv (cxOf CX P w K mg base N qual scope f cdv A outer s H E) [] Z' H' s'->RelV v u->Q v H'->CE outer P w H s Q u s' :=
  λ{Z' H' v u} J rv q=>⟨v,H',J.os,J.bare,J.base,J.hok,rv,q⟩
 cases fl with
 | ret u=>
  obtain⟨v,Z',H',J,rv,q⟩:=hs
  exact fin J rv q
 | next=>
  obtain⟨Z',H',J,q⟩:=hs
  exact fin (v:=V.non) (u:=Value.none) J rfl q
 | brk=>
  obtain⟨_,_,_,q⟩:=hs
  exact False.elim q
 | cont=>
  obtain⟨_,_,_,q⟩:=hs
  exact False.elim q
section
variable{X:Cx}{x:Str}{p pos:Pos}{e:Expr}{es:List Expr}{t:TA}{id T:String}{r:List V->Hp->VK->Prop}
def tCB(r:List V->Hp->VK->Prop)(t:TA):TE:=λZ H Q=>t Z H λvs H1=>r vs H1 Q
theorem bj(hc:wn X (.builtin id) r)(hg:Gl X x)(hm:X.mg x=none)(hv:bootBuiltins x=some (.builtin id))(ha:PA X (e::es) t)(hn:x≠"__name__":=by decide)(hdb:(x==("__debug__":Str))=false:=by decide)
  (he:starEach (e::es) X.env=(false,eval e X.env)::starEach es X.env:=by rfl) (hpl:(backTo pos (starEach es X.env)).any (·.1)=false:=by rfl):PE X (.Call (.Name x p) (e::es) [] pos) (tCB r t):=by
 intro pins s Z H Q I h
 refine wpAny_Call_Name_kw (jx I hg hm hv ?_ hn hdb)
 exact PyProof.Rows.callWith_builtin1 (thn (ha pos pins s Z H _ I h) λus s1 ⟨vs,H1,I1,r1,q1⟩=>hc pins s1 Z H1 vs us Q I1 r1 q1) he hpl
theorem mq(hc:wn X (.type T) r)(hg:Gl X x)(hm:X.mg x=none)(hv:bootBuiltins x=some (.type T))(ha:PA X (e::es) t)(hn:x≠"__name__":=by decide)(hdb:(x==("__debug__":Str))=false:=by decide)
  (he:starEach (e::es) X.env=(false,eval e X.env)::starEach es X.env:=by rfl) (hpl:(backTo pos (starEach es X.env)).any (·.1)=false:=by rfl):PE X (.Call (.Name x p) (e::es) [] pos) (tCB r t):=by
 intro pins s Z H Q I h
 refine wpAny_Call_Name_kw (jx I hg hm hv ?_ hn hdb)
 exact PyProof.Rows.callWith_type1 (thn (ha pos pins s Z H _ I h) λus s1 ⟨vs,H1,I1,r1,q1⟩=>hc pins s1 Z H1 vs us Q I1 r1 q1) he hpl
end
end L2
namespace HT
open PySem PyProof.Rows
def lexLt:List Int->List Int->Bool
 | [],[]=>false
 | [],_::_=>true
 | _::_,[]=>false
 | x::xs,y::ys=>if x=y then lexLt xs ys else decide (x<y)
theorem lexLt_cons(x y:Int)(xs ys:List Int):lexLt (x::xs) (y::ys)=if x=y then lexLt xs ys else decide (x<y):=rfl
theorem Ac:lexLt [] []=false:=rfl
theorem wq(y:Int)(ys:List Int):lexLt [] (y::ys)=true:=rfl
theorem wt(x:Int)(xs:List Int):lexLt (x::xs) []=false:=rfl
theorem Oq(A:Around)(s:Shared)(a:Int)(t:Tok)(c:Int)(u:Tok):∃ e,SeqAt.EqAt A s (.int a t) (.int c u) e/\(e=true↔a=c):=
 ⟨(a==c),SeqAt.EqAt.int_int a t c u,by simp⟩
theorem M4(A:Around)(s:Shared)(a:Int)(t:Tok)(c:Int)(u:Tok)(prog:Program)(w:World)(E:Value->Shared->Prop)(Q:Value->Shared->Prop)(h:Q (.bool (decide (a<c))) s) :
  wpAny (model prog w) A (richCompare .Lt (.int a t) (.int c u)) Q E s:=
 (PyProof.Rows.lt_int h:wpAny (model prog w) A (compareOp .Lt (.int a t) (.int c u)) Q E s)
section
open PySem.SeqAt
open PySem.AutoSeq1 (wpAny_loadPart')
open PySem.MeetsSeq PySem.MeetsSeq2 PySem.MeetsSeq3
theorem yu(l b:Addr)(items items2:Array Value)(n n2:Nat)(dd dd2:Option Addr)(sl sl2:Array (Option Value))(ns ms:List Int)(hi:IntsAre items.toList ns)(hj:IntsAre items2.toList ms) :
  Meets (Builtin.«tuple.__lt__» ⟨[.ref l,.ref b],[]⟩)
   (λ_ R s=>s.heap.get? l=some { cls:=.type "tuple",dict:=dd,data:=.seq items n,slots:=sl }/\s.heap.get? b=some { cls:=.type "tuple",dict:=dd2,data:=.seq items2 n2,slots:=sl2 } /\
    R (.ok (.ret (.bool (lexLt ns ms)))) s):=
 .of_wp λprog w A R s h=>by
  obtain⟨hp,g,d,tk,os⟩:=s;obtain⟨hl,hb,h⟩:=h
  have f2:=AutoSeq1.sub_tuple_tuple
  have z1:items.size=ns.length:=by rw[<- hi.length];simp
  have z2:items2.size=ms.length:=by rw[<- hj.length];simp
  wp_walk using wpAny_loadPart' hl,wpAny_loadPart' hb,wpAny_forIn_list _ (λrest b s'=>b.1=none/\s'=⟨hp,g,d,tk,os⟩/\∃ (vs ws:List Value) (ns' ms':List Int),rest=vs.zip ws /\
   IntsAre vs ns'/\IntsAre ws ms'/\ns'.length+items2.size=ms'.length+items.size/\R (.ok (.ret (.bool (lexLt ns' ms')))) ⟨hp,g,d,tk,os⟩) _
  case turn=>
   rintro ⟨y,x⟩ rest b s' ⟨hb',rfl,vs,ws,ns',ms',hz,hvi,hwi,hlen,hR⟩
   cases hvi with
   | nil=>rw[List.zip_nil_left]at hz;cases hz
   | cons a t hvi' =>
    cases hwi with
    | nil=>rw[List.zip_nil_right]at hz;cases hz
    | cons c u hwi' =>
     rw[List.zip_cons_cons]at hz
     injection hz with hyx hrest
     injection hyx with hy hx
     subst hy hx
     rw[lexLt_cons]at hR
     simp only[List.length_cons]at hlen
     obtain⟨e,he,hiff⟩:=Oq A.in1 ⟨hp,g,d,tk,os⟩ a t c u
     refine wpAny_bind (he prog w _ _ ?_)
     cases e with
     | true=>
      rw[if_pos (hiff.mp rfl)]at hR
      wp_walk
      exact⟨rfl,rfl,_,_,_,_,hrest,hvi',hwi',by omega,hR⟩
     | false=>
      rw[if_neg (λq=>absurd (hiff.mpr q) Bool.false_ne_true)]at hR
      have hri:=M4 A.in1 ⟨hp,g,d,tk,os⟩ a t c u prog w
      wp_walk using hri
      exact⟨_,rfl,by simpa using hR⟩
  case fin=>
   rintro ⟨b1,b2⟩ s' ⟨hb',rfl,vs,ws,ns',ms',hz,hvi,hwi,hlen,hR⟩
   simp only at hb'
   subst hb'
   have hv:lexLt ns' ms'=decide (items.size<items2.size):=by
    cases hvi with
    | nil=>
     cases hwi with
     | nil=>
      simp only[List.length_nil]at hlen
      rw[Ac]
      exact(decide_eq_false (by omega)).symm
     | cons c u hw=>
      simp only[List.length_nil,List.length_cons]at hlen
      rw[wq]
      exact(decide_eq_true (by omega)).symm
    | cons a t hv=>
     cases hwi with
     | nil=>
      simp only[List.length_nil,List.length_cons]at hlen
      rw[wt]
      exact(decide_eq_false (by omega)).symm
     | cons c u hw=>
      rw[List.zip_cons_cons]at hz
      cases hz
   rw[hv]at hR
   wp_walk
   exact⟨_,rfl,by simpa [Builtin.Tuple.tupleCompareSizes] using hR⟩
  case h=>
   exact⟨rfl,rfl,items.toList,items2.toList,ns,ms,rfl,hi,hj,by omega,h⟩
end
section
variable{prog:Program}{w:World}{A:Around}{E:Value->Shared->Prop}{s:Shared}
theorem lt_tupInts{l b:Addr}{items items2:Array Value}{ns ms:List Int}{Q:Value->Shared->Prop}(hl:IsTup s.heap l items)(hb:IsTup s.heap b items2)(hi:IntsAre items.toList ns)(hj:IntsAre items2.toList ms)
  (hu:A.units<cLine) (h:Q (.bool (lexLt ns ms)) s):wpAny (model prog w) A (compareOp .Lt (.ref l) (.ref b)) Q E s:=by
 obtain⟨⟨cls,dd,data,sl⟩,ho,hc,n,hd⟩:=id hl
 obtain⟨⟨cls2,dd2,data2,sl2⟩,ho2,hc2,n2,hd2⟩:=id hb
 simp only at hc hd hc2 hd2
 subst hc hd hc2 hd2
 exact richCompare_meets_room (op:=.Lt) ⟨_,ho,rfl⟩ ⟨_,ho2,rfl⟩ PySem.F.slot_tuple_lt PySem.F.entry_tuple_lt (PySem.F.args_tuple_lt_2 _ _) (yu l b items items2 n n2 dd dd2 sl sl2 ns ms hi hj)
  ⟨ho,ho2,show Value.bool (lexLt ns ms)≠Value.notImplemented/\Q (.bool (lexLt ns ms)) s from ⟨(λx=>nomatch x),h⟩⟩ hu
def sIx(n d:Nat):Option Int->Nat
 | none=>d
 | some v=>if v<0 then (v+(n:Int)).toNat else min v.toNat n
theorem sIx_nat(n d k:Nat):sIx n d (some (k:Int))=min k n:=by
 show(if (k:Int)<0 then ((k:Int)+(n:Int)).toNat else min (k:Int).toNat n)=min k n
 rw[if_neg (by omega),Int.toNat_natCast]
theorem Tb(n d:Nat)(hd:d<=n)(o:Option Int):sIx n d o<=n:=by
 cases o with
 | none=>exact hd
 | some v=>
  show(if v<0 then (v+(n:Int)).toNat else min v.toNat n)<=n
  by_cases hv:v<0
  .rw[if_pos hv];omega
  .rw[if_neg hv];exact Nat.min_le_right _ _
theorem Lm(v:Int)(n d:Nat):(if v<0 then max (v+(n:Int)) 0 else min v (n:Int))=((sIx n d (some v):Nat):Int):=by
 show(if v<0 then max (v+(n:Int)) 0 else min v (n:Int))=(((if v<0 then (v+(n:Int)).toNat else min v.toNat n):Nat):Int)
 by_cases hv:v<0
 .simp only[if_pos hv];omega
 .simp only[if_neg hv];omega
theorem Hu(lo hi:Option Int)(n:Nat):Builtin.Slice.sliceAdjust lo hi 1 (n:Int)=(((sIx n 0 lo:Nat):Int),((sIx n n hi:Nat):Int)):=by
 have h1:¬ ((1:Int)<0):=by omega
 unfold Builtin.Slice.sliceAdjust
 simp only[h1,if_false]
 refine Prod.ext ?_ ?_
 .cases lo with
  | none=>rfl
  | some v=>exact Lm v n 0
 .cases hi with
  | none=>rfl
  | some v=>exact Lm v n n
theorem Gx(i j:Nat):Builtin.Slice.slicePlaces (i:Int) (j:Int) 1=j - i:=by
 unfold Builtin.Slice.slicePlaces
 have h1:(1:Int) > 0:=by omega
 simp only[h1,if_true,Int.ediv_one]
 split <;> omega
theorem x6{v:Value}{o:Option Int}{Q:Option Int->Shared->Prop}(p:IsPart v o)(h:Q o s):wpAny (model prog w) A (Builtin.Slice.slicePartIndex v) Q E s:=by
 cases p with
 | none=>exact slicePart_none h
 | int i t=>exact slicePart_int h
theorem qm{sl:Addr}{vl vu:Value}{lo hi:Option Int}{n:Nat}{Q:Int×Int×Nat->Shared->Prop}(hs:s.heap.IsSliceOf sl vl vu .none)(pl:IsPart vl lo)(pu:IsPart vu hi)
  (h:Q (((sIx n 0 lo:Nat):Int),1,sIx n n hi - sIx n 0 lo) s):wpAny (model prog w) A (Builtin.Slice.sliceApplied (.ref sl) (pure (n:Int))) Q E s:=by
 obtain⟨os,hos,hcs,hds⟩:=id hs
 unfold Builtin.Slice.sliceApplied Builtin.Slice.sliceFields
 refine wpAny_bind (wpAny_bind (wpAny_field hos hds (x:=vl) rfl (wpAny_bind (wpAny_field hos hds (x:=vu) rfl (wpAny_bind (wpAny_field hos hds (x:=.none) rfl (wpAny_pure ?_)))))))
 refine wpAny_bind (slicePart_none ?_)
 show wpAny _ _ (if ((1:Int)==0)=true then _ else _) _ _ s
 rw[if_neg (by decide)]
 refine wpAny_bind (x6 pl (wpAny_bind (x6 pu (wpAny_bind (wpAny_pure ?_)))))
 show wpAny _ _ (match Builtin.Slice.sliceAdjust lo hi 1 (n:Int) with|(lo,hi)=>pure (lo,(1:Int),Builtin.Slice.slicePlaces lo hi 1)) _ _ s
 rw[Hu lo hi n]
 show wpAny _ _ (pure (((sIx n 0 lo:Nat):Int),(1:Int),Builtin.Slice.slicePlaces ((sIx n 0 lo:Nat):Int) ((sIx n n hi:Nat):Int) 1)) _ _ s
 rw[Gx]
 exact wpAny_pure h
theorem M9(xs:Array Value)(i k:Nat):((List.range k).filterMap λ(m:Nat)=>xs[((i:Int)+(m:Int)*1).toNat]?).toArray=((xs.toList.drop i).take k).toArray:=by
 have e:(λ(m:Nat)=>xs[((i:Int)+(m:Int)*1).toNat]?)=λm=>xs[i+m]?:=by
  funext m
  have:((i:Int)+(m:Int)*1).toNat=i+m:=by omega
  rw[this]
 rw[e]
 have:=pick_run xs i k
 rw[List.filterMap_map]at this
 have e2:((λx=>xs[x]?)∘λx=>i+x)=λm=>xs[i+m]?:=rfl
 rw[e2]at this
 rw[this]
theorem getItem_tuple_cut{t sl:Addr}{items:Array Value}{vl vu:Value}{lo hi:Option Int}{Q:Value->Shared->Prop}(ht:IsTup s.heap t items)(hs:s.heap.IsSliceOf sl vl vu .none)(pl:IsPart vl lo)(pu:IsPart vu hi)
  (hw:¬ (sIx items.size 0 lo=0/\sIx items.size items.size hi=items.size))
  (h:Q (.ref s.heap.objs.size) { s with heap:=s.heap.push { cls:=.type "tuple",data:=.seq ((items.toList.drop (sIx items.size 0 lo)).take (sIx items.size items.size hi - sIx items.size 0 lo)).toArray } })
  (hsz:items.size<=sizeLine):wpAny (model prog w) A (getItem (.ref t) (.ref sl)) Q E s:=by
 have htake:sizeOk (.seq ((items.toList.drop (sIx items.size 0 lo)).take (sIx items.size items.size hi - sIx items.size 0 lo)).toArray):=by
  show((items.toList.drop (sIx items.size 0 lo)).take (sIx items.size items.size hi - sIx items.size 0 lo)).toArray.size<=sizeLine
  rw[List.size_toArray,List.length_take,List.length_drop,Array.length_toList]
  omega
 have hj:sIx items.size items.size hi<=items.size:=Tb _ _ (Nat.le_refl _) hi
 obtain⟨os,hos,hcs,hds⟩:=id hs
 have hTs:s.TypeIs (.ref sl) "slice":=⟨os,hos,hcs⟩
 unfold getItem
 try with_reducible refine wpAny_holding ?_
 first|refine wpAny_bind (wpAny_pure ?_)|skip
 refine wpAny_bind (wpAny_sequenceKey ht.typeIs (by decide) ?_)
 refine wpAny_bind (wpAny_callSpecial?_slot (name:=Str.ofString "__getitem__") ht.typeIs PyProof.Rows.slot_tuple_getitem
  (wpAny_call_entry PyProof.Rows.slot_tuple_getitem ht.typeIs entry_tuple_getitem ?_ (args_tuple_getitem _ _)))
 show wpAny _ _ (Builtin.Tuple.tupleItemsOf (.ref t)>>=_) _ _ s
 refine wpAny_bind (tupleItemsOf_ ht ?_)
 refine wpAny_bind (wpAny_typeOf hTs ?_)
 rw[if_pos (by decide)]
 refine wpAny_bind (qm hs pl pu ?_)
 have hno:¬ ((((sIx items.size 0 lo:Nat):Int)==0&&(1:Int)==1&&(sIx items.size items.size hi - sIx items.size 0 lo)==items.size)=true):=by
  intro q
  rw[Bool.and_eq_true,Bool.and_eq_true]at q
  have q1:((sIx items.size 0 lo:Nat):Int)=0:=eq_of_beq q.1.1
  have q2:sIx items.size items.size hi - sIx items.size 0 lo=items.size:=eq_of_beq q.2
  exact hw ⟨by omega,by omega⟩
 show wpAny _ _ (if (((sIx items.size 0 lo:Nat):Int)==0&&(1:Int)==1&&(sIx items.size items.size hi - sIx items.size 0 lo)==items.size)=true then _ else _) _ _ s
 rw[if_neg hno,M9]
 first
  | exact wpAny_bind (m:=Builtin.Tuple.tupleExact _) (wpAny_newObj_type (wpAny_pure ⟨_,rfl,wpAny_pure h⟩) htake)
  | exact wpAny_bind (m:=Builtin.Tuple.tupleExact _) (wpAny_newObj_type (wpAny_bind (wpAny_pure (wpAny_pure ⟨_,rfl,wpAny_pure h⟩))) htake)
  | exact wpAny_bind (wpAny_bind (m:=Builtin.Tuple.tupleExact _) (wpAny_newObj_type (wpAny_pure (wpAny_pure ⟨_,rfl,wpAny_pure h⟩)) htake))
  | exact wpAny_bind (wpAny_bind (m:=Builtin.Tuple.tupleExact _) (wpAny_newObj_type (wpAny_pure ⟨_,rfl,wpAny_pure h⟩) htake))
end
end HT
namespace L2
open PySem PySem.Spec PyProof.Rows
abbrev TO:=St->Hp->(Option Int->Hp->Prop)->Prop
def PO(X:Cx)(e:Option Expr)(t:TO):Prop:=
 ∀ (pins:List (Addr×Obj)) (s:Shared) (Z:St) (H:Hp) (Q:Option Int->Hp->Prop),Inv X pins Z H s->t Z H Q ->
  wpAny (model X.prog X.w) X.A (evalPart e X.env) (λu s'=>∃ o H',Inv X pins Z H' s'/\IsPart u o/\Q o H') X.xe s
def P7:TO:=λ_ H Q=>Q none H
def U5(t:TE):TO:=λZ H Q=>t Z H λx H1=>∃ i,x=.int i/\Q (some i) H1
theorem Hc{ns:List Int}:∀ {us:List Value},Vals (ns.map V.int) us->IntsAre us ns:=by
 induction ns with
 | nil=>intro us r;rw[List.map_nil]at r;cases r;exact .nil
 | cons n ns ih=>
  intro us r
  rw[List.map_cons]at r
  cases r with
  | cons r1 r2=>
   obtain⟨t,e⟩:=r1
   subst e
   exact .cons n t (ih r2)
section
variable{X:Cx}{e:Expr}{te:TE}{lo hi:Option Expr}{tl th:TO}{pos p2:Pos}
theorem Jt:PO X none P7:=by
 intro pins s Z H Q I h
 rw[evalPart_none]
 exact wpAny_pure ⟨none,H,I,.none,h⟩
theorem oj(h:PE X e te):PO X (some e) (U5 te):=by
 intro pins s Z H Q I hw
 rw[evalPart_some]
 refine thn (h pins s Z H _ I hw) λu s1 ⟨x,H1,I1,r1,q1⟩=>?_
 obtain⟨i,rfl,q⟩:=q1
 obtain⟨t,rfl⟩:=r1
 exact⟨some i,H1,I1,.int i t,q⟩
def SlR(X:Cx)(r:V->Option Int->Option Int->Hp->VK->Prop):Prop:=
 ∀ (pins:List (Addr×Obj)) (s:Shared) (Z:St) (H:Hp) (x:V) (v vl vu:Value) (lo hi:Option Int) (sl:Addr) (Q:VK),Inv X pins Z H s->RelV x v->s.heap.IsSliceOf sl vl vu .none->IsPart vl lo->IsPart vu hi->r x lo hi H Q ->
  ∃ T id,typeLookup (.type T) "__getitem__"=pure (some (.builtin id))/\s.TypeIs v T/\wpAny (model X.prog X.w) X.A (getItem v (.ref sl)) (EP X pins Z Q) X.xe s
def tSl(r:V->Option Int->Option Int->Hp->VK->Prop)(te:TE)(tl th:TO):TE:=λZ H Q=>te Z H λx H1=>tl Z H1 λl H2=>th Z H2 λu H3=>r x l u H3 Q
theorem rk{r:V->Option Int->Option Int->Hp->VK->Prop}(hr:SlR X r)(he:PE X e te)(hl:PO X lo tl)(hu:PO X hi th):PE X (.Subscript e (.Slice lo hi none p2) pos) (tSl r te tl th):=by
 intro pins s Z H Q I h
 refine Subscript_ (thn (he pins s Z H _ I h) λv s1 ⟨x,H1,I1,r1,q1⟩=>?_)
 refine wpAny_Slice (thn (hl pins s1 Z H1 _ I1 q1) λvl s2 ⟨l,H2,I2,pl,q2⟩=>thn (hu pins s2 Z H2 _ I2 q2) λvu s3 ⟨u,H3,I3,pu,q3⟩=>?_)
 rw[evalPart_none]
 refine wpAny_pure ?_
 have I4:Inv X pins Z H3 { s3 with heap:=s3.heap.push { cls:=.type "slice",data:=.fields #[vl,vu,.none] } }:=I3.kept (t':=s3.toks) λb ob q=>Heap.get?_push_of_some _ q
 obtain⟨T,id,hT,ht,hg⟩:=hr pins { s3 with heap:=s3.heap.push { cls:=.type "slice",data:=.fields #[vl,vu,.none] } } Z H3 x v vl vu l u s3.heap.objs.size Q I4 r1 (Heap.IsSliceOf.new ..) pl pu q3
 show wpAny (model X.prog X.w) X.A (subscriptTail e (.Slice lo hi none p2) v (.ref s3.heap.objs.size)) (EP X pins Z Q) X.xe { s3 with heap:=s3.heap.push { cls:=.type "slice",data:=.fields #[vl,vu,.none] } }
 exact tail_any (ops:=[.ref s3.heap.objs.size,v]) ht hT hg (by with_unfolding_all rfl)
def cutV(xs:List V)(lo hi:Option Int):List V:=(xs.drop (HT.sIx xs.length 0 lo)).take (HT.sIx xs.length xs.length hi - HT.sIx xs.length 0 lo)
theorem ur(xs:List V)(lo hi:Option Int):(cutV xs lo hi).length<=xs.length:=by
 unfold cutV
 rw[List.length_take,List.length_drop]
 omega
def rSlT(K:W.Frag):V->Option Int->Option Int->Hp->VK->Prop:=λx lo hi H Q=>∃ a xs,x=.ref a/\SqT K H a xs /\
 ¬ (HT.sIx xs.length 0 lo=0/\HT.sIx xs.length xs.length hi=xs.length)/\∀ p,H p=none->Q (.ref p) (upd H p (.tup (cutV xs lo hi)))
theorem Pa:SlR X (rSlT X.K):=by
 intro pins s Z H x v vl vu lo hi sl Q I rx hs pl pu h
 obtain⟨a,xs,rfl,hx,hw,q⟩:=h
 cases rx
 obtain⟨its,r,ht,hz⟩:=I.tuple hx
 have hlen:its.toArray.size=xs.length:=by rw[List.size_toArray];exact r.length.symm
 refine⟨"tuple",_,PyProof.Rows.slot_tuple_getitem.lookup,ht.typeIs,?_⟩
 refine HT.getItem_tuple_cut ht hs pl pu (by rw[hlen];exact hw) ?_ (by rw[hlen];exact hz)
 rw[hlen]
 refine⟨.ref s.heap.objs.size,_,I.laid (t':=s.toks) (o:=.tup (cutV xs lo hi)) (λb ob q=>Heap.get?_push_of_some _ q) (Nat.le_refl _) ?_,rfl,q _ (I.hok.fresh (Nat.le_refl _))⟩
 exact⟨Nat.le_trans (ur xs lo hi) hz,_,(r.drop (HT.sIx xs.length 0 lo)).take (HT.sIx xs.length xs.length hi - HT.sIx xs.length 0 lo),IsTup.new _ _⟩
end
def ixN(n:Nat)(i:Int):Option Nat:=if 0<=i then (if i<n then some i.toNat else none) else if -(n:Int)<=i then some (i+n).toNat else none
def atI{α:Type}(xs:List α)(i:Int):Option α:=(ixN xs.length i).bind λj=>xs[j]?
theorem Ku{n:Nat}{i:Int}{j:Nat}(h:ixN n i=some j):seqIndex? i n=some j/\j<n/\-(n:Int)<=i/\i<n:=by
 unfold ixN at h
 by_cases h0:0<=i
 .rw[if_pos h0]at h
  by_cases h1:i<n
  .rw[if_pos h1]at h
   have e:i.toNat=j:=Option.some.inj h
   exact⟨by rw[seqIndex_of h0 h1,e],by omega,by omega,h1⟩
  .rw[if_neg h1]at h;cases h
 .rw[if_neg h0]at h
  by_cases h1:-(n:Int)<=i
  .rw[if_pos h1]at h
   have e:(i+n).toNat=j:=Option.some.inj h
   exact⟨by rw[seqIndex_neg (by omega) h1,e],by omega,h1,by omega⟩
  .rw[if_neg h1]at h;cases h
theorem L0{α:Type}{xs:List α}{i:Int}{v:α}(h:atI xs i=some v):∃ j,seqIndex? i xs.length=some j/\xs[j]? = some v/\j<xs.length/\-(xs.length:Int)<=i/\i<xs.length:=by
 unfold atI at h
 cases e:ixN xs.length i with
 | none=>rw[e]at h;cases h
 | some j=>
  rw[e]at h
  obtain⟨h1,h2,h3,h4⟩:=Ku e
  exact⟨j,h1,h,h2,h3,h4⟩
theorem Su{α:Type}{xs:List α}{j:Nat}{v:α}(h:xs[j]? = some v):atI xs (j:Int)=some v:=by
 have hj:j<xs.length:=(List.getElem?_eq_some_iff.mp h).1
 have e:ixN xs.length (j:Int)=some j:=by
  unfold ixN
  rw[if_pos (by omega),if_pos (by omega)];simp
 unfold atI;rw[e];exact h
def Sv(b:Expr):Prop:=∀ o i,subscripted b false o i=operate [o,i] (getItem o i)
def IxR(X:Cx)(r:R2):Prop:=
 ∀ (value slice:Expr) (pins:List (Addr×Obj)) (s:Shared) (Z:St) (H:Hp) (x y:V) (v u:Value) (Q:VK),Inv X pins Z H s->RelV x v->RelV y u->r x y H Q ->
  subscripted slice false v u=operate [v,u] (getItem v u)->wpAny (model X.prog X.w) X.A (subscriptTail value slice v u) (EP X pins Z Q) X.xe s
def MtR(X:Cx)(id:String)(r:V->List V->Hp->VK->Prop):Prop:=
 ∀ (pins:List (Addr×Obj)) (s:Shared) (Z:St) (H:Hp) (x:V) (xs:List V) (v:Value) (us:List Value) (Q:VK),Inv X pins Z H s->RelV x v->Vals xs us->r x xs H Q ->
  wpAny (model X.prog X.w) X.A (call (.builtin id) (v::us)) (EP X pins Z Q) X.xe s
section
variable{X:Cx}{a b:Expr}{ta tb:TE}{pos:Pos}
theorem bf{r:R2}(hr:IxR X r)(ha:PE X a ta)(hb:PE X b tb)(hs:Sv b):PE X (.Subscript a b pos) (tOp r ta tb):=by
 intro pins s Z H Q I h
 exact Subscript_ (binT ha hb I h λv u s2 x y H2 I2 rx ry q=>hr a b pins s2 Z H2 x y v u Q I2 rx ry q (hs _ _))
def rIxL(K:W.Frag):R2:=λx y H Q=>∃ p xs i v,x=.ref p/\y=.int i/\SqL K H p xs/\atI xs i=some v/\Q v H
def rIxT(K:W.Frag):R2:=λx y H Q=>∃ p xs i v,x=.ref p/\y=.int i/\SqT K H p xs/\atI xs i=some v/\Q v H
theorem bc:IxR X (rIxL X.K):=by
 intro value slice pins s Z H x y v u Q I rx ry h hs
 obtain⟨p,xs,i,z,rfl,rfl,hq,he,q⟩:=h
 cases rx
 obtain⟨t,rfl⟩:=ry
 obtain⟨its,r,pl,hz⟩:=I.list hq
 obtain⟨j,h1,h2,h3,h4,h5⟩:=L0 he
 obtain⟨w,ew,rw'⟩:=r.get h2
 have hl:=r.length
 have hn:=Ft
 have fin:EP X pins Z Q w s:=⟨z,H,I,rw',q⟩
 by_cases h0:0<=i
 .have hj:i.toNat=j:=by
   rw[seqIndex_of h0 h5]at h1
   exact Option.some.inj h1
  exact item_listR pl.isList h0 (by omega) (by rw[hj];simpa using ew) fin hs
 .have hj:(i+(its.toArray.size:Int)).toNat=j:=by
   rw[seqIndex_neg (by omega) h4]at h1
   rw[List.size_toArray,<- hl]
   exact Option.some.inj h1
  exact subscriptTail_builtinR (x:=w) pl.isList.typeIs slot_list_getitem.lookup
   (wpAny_getItem_list_neg (Q:=λr s'=>r=w/\EP X pins Z Q r s') pl.isList (by omega) (by rw[List.size_toArray] <;> omega) (by omega) (by rw[hj];simpa using ew) ⟨rfl,fin⟩) hs
theorem bq:IxR X (rIxT X.K):=by
 intro value slice pins s Z H x y v u Q I rx ry h hs
 obtain⟨p,xs,i,z,rfl,rfl,hq,he,q⟩:=h
 cases rx
 obtain⟨t,rfl⟩:=ry
 obtain⟨its,r,pl,hz⟩:=I.tuple hq
 obtain⟨j,h1,h2,h3,h4,h5⟩:=L0 he
 obtain⟨w,ew,rw'⟩:=r.get h2
 have hl:=r.length
 have hn:=Ft
 have fin:EP X pins Z Q w s:=⟨z,H,I,rw',q⟩
 exact subscriptTail_builtinR (x:=w) pl.typeIs slot_tuple_getitem.lookup
  (getItem_tuple (j:=j) (Q:=λr s'=>r=w/\EP X pins Z Q r s') pl (by omega) (by omega) (by rw[List.size_toArray,<- hl];exact h1) (by simpa using ew) ⟨rfl,fin⟩) hs
theorem G8(its:List Value)(n j:Nat)(u:Value):Obj.mapSeq (·.setIfInBounds j u) { cls:=.type "list",data:=.seq its.toArray n }={ cls:=.type "list",data:=.seq (its.set j u).toArray n }:=by
 simp[Obj.mapSeq]
theorem Inv.lst{pins:List (Addr×Obj)}{Z:St}{H:Hp}{s:Shared}{p:Addr}{xs:List V}(I:Inv X pins Z H s)(h:H p=some (.lst xs)) :
  ∃ (its:List Value) (n:Nat),Vals xs its/\s.heap.get? p=some { cls:=.type "list",data:=.seq its.toArray n }/\xs.length<=sizeLine:=by
 obtain⟨z,its,n,r,e⟩:=I.hok p _ h
 exact⟨its,n,r,e,z⟩
theorem Inv.lstUpd{pins:List (Addr×Obj)}{Z:St}{H:Hp}{s:Shared}{p:Addr}{xs ys:List V}{its its':List Value}{n n':Nat}{f:Obj->Obj}(I:Inv X pins Z H s)(h:H p=some (.lst xs))
  (ho:s.heap.get? p=some { cls:=.type "list",data:=.seq its.toArray n }) (hf:f { cls:=.type "list",data:=.seq its.toArray n }={ cls:=.type "list",data:=.seq its'.toArray n' }) (r:Vals ys its') (hz:ys.length<=sizeLine) (t:Nat) :
  Inv X pins Z (upd H p (.lst ys)) { s with heap:=s.heap.update p f,toks:=t }:=by
 have e:(s.heap.update p f).get? p=some { cls:=.type "list",data:=.seq its'.toArray n' }:=by
  rw[Heap.get?_update_self f ho (by rw[hf] <;> rfl),hf]
 refine I.write (x:=p) (e:=p) (by rw[h];trivial) (.inl rfl) (λb u hb q=>(Heap.get?_update_other _ _ (Ne.symm hb)).trans q) ⟨_,e⟩ ?_
 exact⟨hz,its',n',r,e⟩
def Va:V->V->V->Hp->(Hp->Prop)->Prop:=λo i v H Q=>∃ p xs k j,o=.ref p/\i=.int k/\H p=some (.lst xs)/\ixN xs.length k=some j/\Q (upd H p (.lst (xs.set j v)))
theorem Mq:PSet X Va:=by
 intro pins s Z H o i v ov iv u Q I ro ri rv h
 obtain⟨p,xs,k,j,rfl,rfl,hp,hj,q⟩:=h
 cases ro
 obtain⟨t,rfl⟩:=ri
 obtain⟨its,n,r,ho,hz⟩:=I.lst hp
 obtain⟨h1,h2,h3,h4⟩:=Ku hj
 have hl:=r.length
 have hn:=Ft
 have I':Inv X pins Z (upd H p (.lst (xs.set j v))) { s with heap:=s.heap.update p (Obj.mapSeq (·.setIfInBounds j u)) }:=
  I.lstUpd hp ho (G8 its n j u) (r.set rv j) (by rw[List.length_set];exact hz) s.toks
 by_cases h0:0<=k
 .have hk:k.toNat=j:=by
   rw[seqIndex_of h0 h4]at h1
   exact Option.some.inj h1
  exact W.ki_setAt ho h0 (by omega) (by rw[List.size_toArray,<- hl];exact h4) (by rw[hk];exact⟨_,I',q⟩)
 .have hk:(k+(its.toArray.size:Int)).toNat=j:=by
   rw[seqIndex_neg (by omega) h3]at h1
   rw[List.size_toArray,<- hl]
   exact Option.some.inj h1
  exact W.ki_setBack ho (by omega) (by rw[List.size_toArray,<- hl];exact h3) (by omega) (by rw[hk];exact⟨_,I',q⟩)
theorem A8(lo hi:Option Int)(n:Nat):(sliceBounds lo hi none n).1=((HT.sIx n 0 lo:Nat):Int)/\(sliceBounds lo hi none n).2.1=((HT.sIx n n hi:Nat):Int)/\(sliceBounds lo hi none n).2.2=1:=by
 refine⟨?_,?_,rfl⟩
 .cases lo with
  | none=>simp[sliceBounds,HT.sIx]
  | some i=>
   simp only[sliceBounds,HT.sIx,Option.getD_none,show(1:Int) > 0 by decide,if_true]
   by_cases h:i<0
   .simp only[h,if_true] <;> omega
   .simp only[h,if_false] <;> omega
 .cases hi with
  | none=>simp[sliceBounds,HT.sIx]
  | some i=>
   simp only[sliceBounds,HT.sIx,Option.getD_none,show(1:Int) > 0 by decide,if_true]
   by_cases h:i<0
   .simp only[h,if_true] <;> omega
   .simp only[h,if_false] <;> omega
theorem zj(its:List Value)(lo hi:Option Int):slicePick its.toArray lo hi none=((its.drop (HT.sIx its.length 0 lo)).take (HT.sIx its.length its.length hi - HT.sIx its.length 0 lo)).toArray:=by
 obtain⟨h1,h2,h3⟩:=A8 lo hi its.toArray.size
 unfold slicePick
 rw[h1,h2,h3]
 simp only[sliceRange_one,pick_run,List.size_toArray] <;> rfl
def rSlL(K:W.Frag):V->Option Int->Option Int->Hp->VK->Prop:=λx lo hi H Q=>∃ a xs,x=.ref a/\SqL K H a xs/\∀ p,H p=none->Q (.ref p) (upd H p (.lst (cutV xs lo hi)))
theorem Iz:SlR X (rSlL X.K):=by
 intro pins s Z H x v vl vu lo hi sl Q I rx hs pl pu h
 obtain⟨a,xs,rfl,hx,q⟩:=h
 cases rx
 obtain⟨its,r,ht,hz⟩:=I.list hx
 have hlen:=r.length
 refine⟨"list",_,slot_list_getitem.lookup,ht.isList.typeIs,?_⟩
 refine wpAny_getItem_list_slice ht.isList hs pl pu .none (by simp) ?_ (by rw[List.size_toArray] <;> omega)
 rw[zj,<- hlen]
 refine⟨.ref s.heap.objs.size,_,I.laid (t':=s.toks) (o:=.lst (cutV xs lo hi)) (λb ob q=>Heap.get?_push_of_some _ q) (Nat.le_refl _) ?_,rfl,q _ (I.hok.fresh (Nat.le_refl _))⟩
 exact⟨Nat.le_trans (ur xs lo hi) hz,_,0,(r.drop (HT.sIx xs.length 0 lo)).take (HT.sIx xs.length xs.length hi - HT.sIx xs.length 0 lo),Heap.get?_push_size _ rfl⟩
def wv:V->Bool
 | .non=>true
 | .bl _=>true
 | .int _=>true
 | .str _=>true
 | _=>false
def eqV:V->V->Bool
 | .non,.non=>true
 | .bl a,.bl b=>a==b
 | .bl a,.int b=>(if a then 1 else 0)==b
 | .int a,.bl b=>a==(if b then 1 else 0)
 | .int a,.int b=>a==b
 | .str a,.str b=>a==b
 | _,_=>false
theorem Uq{A:Around}{s:Shared}{y x:V}{u v:Value}(ry:RelV y u)(rx:RelV x v)(fy:wv y=true)(fx:wv x=true):SeqAt.EqAt A s u v (eqV y x):=by
 cases y with
 | non=>
  cases ry
  cases x with
  | non=>cases rx;exact SeqAt.EqAt.same _
  | bl b=>cases rx;exact SeqAt.EqAt.none_bool b
  | int b=>obtain⟨t,rfl⟩:=rx;exact SeqAt.EqAt.none_int b t
  | str b=>obtain⟨t,rfl⟩:=rx;exact SeqAt.EqAt.none_str b t
  | _=>exact absurd (show false=true from fx) Bool.false_ne_true
 | bl a=>
  cases ry
  cases x with
  | non=>cases rx;exact SeqAt.EqAt.bool_none a
  | bl b=>cases rx;exact SeqAt.EqAt.bool_bool a b
  | int b=>obtain⟨t,rfl⟩:=rx;exact SeqAt.EqAt.bool_int a b t
  | str b=>obtain⟨t,rfl⟩:=rx;exact SeqAt.EqAt.bool_str a b t
  | _=>exact absurd (show false=true from fx) Bool.false_ne_true
 | int a=>
  obtain⟨t',rfl⟩:=ry
  cases x with
  | non=>cases rx;exact SeqAt.EqAt.int_none a t'
  | bl b=>cases rx;exact SeqAt.EqAt.int_bool a t' b
  | int b=>obtain⟨t,rfl⟩:=rx;exact SeqAt.EqAt.int_int a t' b t
  | str b=>obtain⟨t,rfl⟩:=rx;exact SeqAt.EqAt.int_str a t' b t
  | _=>exact absurd (show false=true from fx) Bool.false_ne_true
 | str a=>
  obtain⟨t',rfl⟩:=ry
  cases x with
  | non=>cases rx;exact SeqAt.EqAt.str_none a t'
  | bl b=>cases rx;exact SeqAt.EqAt.str_bool a t' b
  | int b=>obtain⟨t,rfl⟩:=rx;exact SeqAt.EqAt.str_int a t' b t
  | str b=>obtain⟨t,rfl⟩:=rx;exact SeqAt.EqAt.str_str a t' b t
  | _=>exact absurd (show false=true from fx) Bool.false_ne_true
 | _=>exact absurd (show false=true from fy) Bool.false_ne_true
def eqU(x:V)(u:Value):Bool:=match u with
 | .none=>eqV .non x
 | .bool b=>eqV (.bl b) x
 | .int i _=>eqV (.int i) x
 | .str z _=>eqV (.str z) x
 | _=>false
theorem Pw{x y:V}{u:Value}(r:RelV y u)(f:wv y=true):eqU x u=eqV y x:=by
 cases y with
 | non=>cases r;rfl
 | bl b=>cases r;rfl
 | int i=>obtain⟨t,rfl⟩:=r;rfl
 | str z=>obtain⟨t,rfl⟩:=r;rfl
 | _=>exact absurd (show false=true from f) Bool.false_ne_true
theorem wm{x:V}:∀ {xs:List V} {us:List Value},Vals xs us->xs.all wv=true->us.any (eqU x)=xs.any λy=>eqV y x
 | _,_,.nil,_=>rfl
 | y::xs,u::us,.cons r t,f=>by
  rw[List.all_cons,Bool.and_eq_true]at f
  rw[List.any_cons,List.any_cons,Pw r f.1,wm t f.2]
theorem mx{A:Around}{s:Shared}{x:V}{v:Value}(rx:RelV x v)(fx:wv x=true):∀ {xs:List V} {us:List Value},Vals xs us->xs.all wv=true->∀ u∈us,SeqAt.EqAt A s u v (eqU x u)
 | _,_,.nil,_=>λu hu=>by cases hu
 | y::xs,u::us,.cons r t,f=>λu' hu=>by
  rw[List.all_cons,Bool.and_eq_true]at f
  rcases List.mem_cons.mp hu with rfl|hu
  .rw[Pw r f.1];exact Uq r rx f.1 fx
  .exact mx rx fx t f.2 u' hu
def inV(x:V)(xs:List V):Bool:=xs.any λy=>eqV y x
def rIn(K:W.Frag)(neg:Bool):R2:=λx y H Q=>∃ p xs,y=.ref p/\(SqL K H p xs\/SqT K H p xs)/\wv x=true/\xs.all wv=true/\Q (.bl (if neg then !inV x xs else inV x xs)) H
theorem Bu:OpR X (compareOp .In) (rIn X.K false):=by
 intro pins s Z H x y v u Q I rx ry h
 obtain⟨p,xs,rfl,hq,fx,fs,q⟩:=h
 cases ry
 rcases hq with hq|hq
 .obtain⟨its,r,pl,hz⟩:=I.list hq
  refine SeqAt.in_listAt (eqU x) pl.isList (λw hw=>mx rx fx r fs w (by simpa using hw)) ⟨.bl _,H,I,rfl,?_⟩
  rw[show its.toArray.any (eqU x)=its.any (eqU x) by simp,wm r fs]
  exact q
 .obtain⟨its,r,pl,hz⟩:=I.tuple hq
  refine SeqAt.in_tupleAt (eqU x) pl (λw hw=>mx rx fx r fs w (by simpa using hw)) ⟨.bl _,H,I,rfl,?_⟩
  rw[show its.toArray.any (eqU x)=its.any (eqU x) by simp,wm r fs]
  exact q
theorem Bt:OpR X (compareOp .NotIn) (rIn X.K true):=by
 intro pins s Z H x y v u Q I rx ry h
 obtain⟨p,xs,rfl,hq,fx,fs,q⟩:=h
 cases ry
 rcases hq with hq|hq
 .obtain⟨its,r,pl,hz⟩:=I.list hq
  refine SeqAt.notIn_listAt (eqU x) pl.isList (λw hw=>mx rx fx r fs w (by simpa using hw)) ⟨.bl _,H,I,rfl,?_⟩
  rw[show its.toArray.any (eqU x)=its.any (eqU x) by simp,wm r fs]
  exact q
 .obtain⟨its,r,pl,hz⟩:=I.tuple hq
  refine SeqAt.notIn_tupleAt (eqU x) pl (λw hw=>mx rx fx r fs w (by simpa using hw)) ⟨.bl _,H,I,rfl,?_⟩
  rw[show its.toArray.any (eqU x)=its.any (eqU x) by simp,wm r fs]
  exact q
theorem be:wn X (.builtin "len") (λxs H Q=>∃ p ys,xs=[.ref p]/\(SqL X.K H p ys\/SqT X.K H p ys)/\Q (.int ys.length) H):=by
 intro pins s Z H xs us Q I r h
 obtain⟨p,ys,rfl,hq,q⟩:=h
 obtain⟨u,rfl,rx⟩:=P2 r
 cases rx
 have hn:=Ft
 rcases hq with hq|hq
 .obtain⟨its,r',pl,hz⟩:=I.list hq
  have hlen:=r'.length
  exact Calls.call_len_list pl.isList (by simp only[List.size_toArray] <;> omega) ⟨.int ys.length,H,I.tok _,⟨s.toks+1,by rw[List.size_toArray,hlen]⟩,q⟩
 .obtain⟨its,r',pl,hz⟩:=I.tuple hq
  have hlen:=r'.length
  exact len_tuple pl (by simp only[List.size_toArray] <;> omega) ⟨.int ys.length,H,I.tok _,⟨s.toks+1,by rw[List.size_toArray,hlen]⟩,q⟩
theorem Al:wn X (.type "tuple") (λxs H Q=>∃ p ys,xs=[.ref p]/\((SqL X.K H p ys/\∀ l,H l=none->Q (.ref l) (upd H l (.tup ys)))\/(SqT X.K H p ys/\Q (.ref p) H))):=by
 intro pins s Z H xs us Q I r h
 obtain⟨p,ys,rfl,h⟩:=h
 obtain⟨u,rfl,rx⟩:=P2 r
 cases rx
 rcases h with ⟨hq,q⟩|⟨hq,q⟩
 .obtain⟨its,r',pl,hz⟩:=I.list hq
  have hlen:=r'.length
  refine call_tuple_list pl.isList (λh' kp=>?_) (by simp only[List.size_toArray] <;> omega)
  have I1:Inv X pins Z H { s with heap:=h' }:=I.kept (t':=s.toks) kp
  have I2:Inv X pins Z (upd H h'.objs.size (.tup ys)) { s with heap:=h'.push { cls:=.type "tuple",data:=.seq its.toArray } }:=
   I1.laid (t':=s.toks) (λb o e=>Heap.get?_push_of_some _ e) (Nat.le_refl _) (show ga X.prog X.w _ _ _ (.tup ys) from ⟨hz,its,r',IsTup.new _ _⟩)
  exact⟨.ref h'.objs.size,_,I2,rfl,q _ (I1.hok.fresh (Nat.le_refl _))⟩
 .obtain⟨its,r',pl,hz⟩:=I.tuple hq
  exact call_tuple_same pl ⟨.ref p,H,I,rfl,q⟩
def tyV(K:W.Frag)(T:String)(x:V)(H:Hp):Prop:=match x with
 | .str _=>T="str"
 | .int _=>T="int"
 | .ref p=>(T="list"/\∃ xs,SqL K H p xs)\/(T="tuple"/\∃ o,K.lookup p=some o/\o.cls=.type "tuple"/\o.dict=none) \/
   (T="dict"/\((∃ kvs,H p=some (.dK kvs))\/∃ kvs,H p=some (.dT kvs)))\/(T="set"/\∃ S n,H p=some (.set S n))
 | _=>False
theorem O7{pins:List (Addr×Obj)}{Z:St}{H:Hp}{s:Shared}{T:String}{x:V}{v:Value}(I:Inv X pins Z H s)(r:RelV x v)(ty:tyV X.K T x H) :
  s.TypeIs v T/\∀ a,v=.ref a->∃ ob,s.heap.get? a=some ob/\ob.dict=none:=by
 cases x with
 | str z=>
  obtain⟨t,rfl⟩:=r
  cases (show T="str" from ty)
  exact⟨typeIs_str s z t,λ_ e=>nomatch e⟩
 | int i=>
  obtain⟨t,rfl⟩:=r
  cases (show T="int" from ty)
  exact⟨typeIs_int s i t,λ_ e=>nomatch e⟩
 | ref p=>
  cases r
  rcases ty with ⟨rfl,xs,hq⟩|⟨rfl,o,hk,hc,hd⟩|⟨rfl,hk⟩|⟨rfl,S,n,hk⟩
  .obtain⟨its,_,pl,_⟩:=I.list hq
   refine⟨pl.isList.typeIs,λa e=>?_⟩
   cases e
   obtain⟨o,n,e,c,hd,_⟩:=pl
   exact⟨o,e,hd⟩
  .refine⟨⟨o,I.kIn p o hk,hc⟩,λa e=>?_⟩
   cases e
   exact⟨o,I.kIn _ o hk,hd⟩
  .have z:∃ o,s.heap.get? p=some o/\o.ExactDict:=by
    rcases hk with ⟨kvs,hk⟩|⟨kvs,hk⟩
    .obtain⟨_,_,_,_,o,_,_,e,ex,_⟩:=I.hok p _ hk
     exact⟨o,e,ex⟩
    .obtain⟨_,_,_,_,o,_,_,e,ex,_⟩:=I.hok p _ hk
     exact⟨o,e,ex⟩
   obtain⟨o,e,ex⟩:=z
   refine⟨⟨o,e,ex.1⟩,λa e2=>?_⟩
   cases e2
   exact⟨o,e,ex.2.1⟩
  .obtain⟨o,_,_,_,e,ex,_⟩:=I.hok p _ hk
   refine⟨⟨o,e,ex.1⟩,λa e2=>?_⟩
   cases e2
   exact⟨o,e,ex.2.1⟩
 | _=>exact False.elim ty
def tBM0(K:W.Frag)(T:String)(r:V->List V->Hp->VK->Prop)(to:TE):TE:=λZ H Q=>to Z H λx H1=>tyV K T x H1/\r x [] H1 Q
def tBM(K:W.Frag)(T:String)(r:V->List V->Hp->VK->Prop)(to:TE)(t:TA):TE:=λZ H Q=>to Z H λx H1=>tyV K T x H1/\t Z H1 λxs H2=>r x xs H2 Q
variable{o e:Expr}{es:List Expr}{to:TE}{t:TA}{name:Str}{apos cpos:Pos}{T id:String}{r:V->List V->Hp->VK->Prop}
theorem Pk(pa:PlainAttrs T)(slot:Slot T name id)(hty:typeOf (.builtin id)=pure (.type "method_descriptor"))(hm:MtR X id r)(ho:PE X o to)
  (hbase:attributeBase o name X.env (eval o X.env)=eval o X.env:=by rfl) (hline:(apos.endLine==cpos.line)=true:=by rfl):PE X (.Call (.Attribute o name apos) [] [] cpos) (tBM0 X.K T r to):=by
 intro pins s Z H Q I h
 refine wpAny_Call_method0_late hbase hline (thn (ho pins s Z H _ I h) λv s1 ⟨x,H1,I1,r1,ty,q1⟩=>?_)
 obtain⟨h1,h2⟩:=O7 I1 r1 ty
 exact⟨T,id,pa,slot,hty,h1,h2,Calls.callWith_builtin rfl (PySem.evalArgs_none (hm pins s1 Z H1 x [] v [] Q I1 r1 .nil q1))⟩
theorem ju(pa:PlainAttrs T)(slot:Slot T name id)(hty:typeOf (.builtin id)=pure (.type "method_descriptor"))(hm:MtR X id r)(ho:PE X o to)(ha:PA X (e::es) t)
  (hbase:attributeBase o name X.env (eval o X.env)=eval o X.env:=by rfl)
  (hfew:((backTo cpos (starEach (e::es) X.env)).all (λx=>!x.1)&&(backToKw cpos (keywordEach [] X.env)).all (λx=>x.1.isSome)
   && decide ((e::es).length+([]:List Keyword).length+(if ([]:List Keyword).isEmpty then 0 else 1)<30))=true:=by rfl)
  (hline:(apos.endLine==cpos.line)=true:=by rfl) (hs:starEach (e::es) X.env=(false,eval e X.env)::starEach es X.env:=by rfl) (hplain:(backTo cpos (starEach es X.env)).any (·.1)=false:=by rfl) :
  PE X (.Call (.Attribute o name apos) (e::es) [] cpos) (tBM X.K T r to t):=by
 intro pins s Z H Q I h
 refine wpAny_Call_method_late hbase hfew hline rfl (thn (ho pins s Z H _ I h) λv s1 ⟨x,H1,I1,r1,ty,q1⟩=>?_)
 obtain⟨h1,h2⟩:=O7 I1 r1 ty
 refine⟨T,id,pa,slot,hty,h1,h2,?_⟩
 have hA:=ha cpos pins s1 Z H1 _ I1 q1
 rw[hs]at hA ⊢
 refine Calls.callWith_builtin (by show(false||(backTo cpos (starEach es X.env)).any (·.1))=false;rw[hplain] <;> rfl) (Calls.evalArgs_plain ?_)
 exact thn hA λus s2 ⟨vs,H2,I2,r2,q2⟩=>hm pins s2 Z H2 x vs v us Q I2 r1 r2 q2
end
def MtM(X:Cx)(id:String)(r:V->List V->Hp->VK->Prop):Prop:=
 ∀ (pins:List (Addr×Obj)) (s:Shared) (Z:St) (H:Hp) (x:V) (xs:List V) (v:Value) (us:List Value) (Q:VK),Inv X pins Z H s->RelV x v->Vals xs us->r x xs H Q ->
  wpAny (model X.prog X.w) X.A (call (.builtin id) (v::us)) (EP X pins Z Q) X.xe s
theorem Vals.one:∀ {x:V} {us:List Value},Vals [x] us->∃ u,us=[u]/\RelV x u
 | _,_,.cons r .nil=>⟨_,rfl,r⟩
section
variable{X:Cx}{pins:List (Addr×Obj)}{Z:St}{H:Hp}{s:Shared}{l b:Addr}{xs ys zs:List V}
theorem Inv.lset{its its':List Value}{n:Nat}{f:Array Value->Array Value}{t':Nat}(I:Inv X pins Z H s)(hH:H l=some (.lst xs))
  (e:s.heap.get? l=some { cls:=.type "list",data:=.seq its.toArray n }) (hf:f its.toArray=its'.toArray) (hv:Vals ys its') (hz:ys.length<=sizeLine) :
  Inv X pins Z (upd H l (.lst ys)) { s with heap:=s.heap.update l (Obj.mapSeq f),toks:=t' }:=by
 have q:=PySem.IsL.update e f
 rw[hf]at q
 refine I.write (x:=l) (e:=l) (by rw[hH];exact trivial) (.inl rfl) (λb' u hb hu=>(Heap.get?_update_other s.heap (Obj.mapSeq f) (Ne.symm hb)).trans hu) ⟨_,q⟩ ?_
 exact⟨hz,its',_,hv,q⟩
theorem Inv.lnew{its:List Value}{t':Nat}(I:Inv X pins Z H s)(hv:Vals ys its)(hz:ys.length<=sizeLine) :
  Inv X pins Z (upd H s.heap.objs.size (.lst ys)) { s with heap:=s.heap.push { cls:=.type "list",data:=.seq its.toArray },toks:=t' }:=
 I.laid (λ_ _ q=>Heap.get?_push_of_some _ q) (Nat.le_refl _) ⟨hz,its,0,hv,Heap.get?_push_size _ rfl⟩
theorem Inv.fresh(I:Inv X pins Z H s):H s.heap.objs.size=none:=I.hok.fresh (Nat.le_refl _)
theorem Inv.lstM(I:Inv X pins Z H s)(hH:H l=some (.lst xs)):xs.length<=sizeLine/\∃ (its:List Value) (n:Nat),Vals xs its/\xs.length=its.length/\s.heap.get? l=some { cls:=.type "list",data:=.seq its.toArray n }:=by
 obtain⟨z,its,n,r,e⟩:=I.hok l _ hH
 exact⟨z,its,n,r,r.length,e⟩
theorem Fq{n:Nat}(h:n<=sizeLine):Builtin.List.listTooLong n=false:=by
 unfold Builtin.List.listTooLong
 exact decide_eq_false (by omega)
end
section
variable{X:Cx}
def Qz:V->List V->Hp->VK->Prop:=λx vs H Q=>∃ l xs y,x=.ref l/\vs=[y]/\H l=some (.lst xs)/\xs.length<sizeLine/\Q .non (upd H l (.lst (xs++[y])))
theorem d8:MtM X "list.append" Qz:=by
 intro pins s Z H x vs v us Q I rx rv h
 obtain⟨l,xs,y,rfl,rfl,hH,hz,q⟩:=h
 cases rx
 obtain⟨u,rfl,ru⟩:=rv.one
 obtain⟨z,its,n,r,hl,e⟩:=I.lstM hH
 refine call_meets F.slot_list_append ⟨_,e,rfl⟩ F.entry_list_append (F.args_list_append_2 _ _) (PySem.list_append l its.toArray n u (by rw[List.size_toArray];omega)) ⟨e,?_⟩
 refine⟨.non,_,I.lset (its':=its++[u]) hH e (by simp) (r.append (.cons ru .nil)) ?_,rfl,q⟩
 rw[List.length_append,List.length_singleton]
 omega
def Qx:V->List V->Hp->VK->Prop:=λx vs H Q=>∃ l b xs zs,x=.ref l/\vs=[.ref b]/\H l=some (.lst xs)/\H b=some (.lst zs)/\xs.length+zs.length<=sizeLine/\Q .non (upd H l (.lst (xs++zs)))
theorem uc:MtM X "list.extend" Qx:=by
 intro pins s Z H x vs v us Q I rx rv h
 obtain⟨l,b,xs,zs,rfl,rfl,hH,hB,hz,q⟩:=h
 cases rx
 obtain⟨u,rfl,ru⟩:=rv.one
 cases ru
 obtain⟨z,its,n,r,hl,e⟩:=I.lstM hH
 obtain⟨z2,its2,n2,r2,hl2,e2⟩:=I.lstM hB
 have hsz:its.toArray.size+its2.toArray.size<=sizeLine:=by rw[List.size_toArray,List.size_toArray];omega
 have hlong:¬ (!its.toArray.isEmpty&&Builtin.List.listTooLong (its.toArray.size+its2.toArray.size))=true:=by
  rw[Fq hsz,Bool.and_false]
  exact Bool.false_ne_true
 refine call_meets F.slot_list_extend ⟨_,e,rfl⟩ F.entry_list_extend (F.args_list_extend_2 _ _)
  (AutoSeq1.list_extend_list_list_0 l its.toArray n b its2.toArray n2 hlong (by rw[List.size_toArray];omega) (by omega)) ⟨e,e2,?_⟩
 refine⟨.non,_,I.lset (its':=its++its2) hH e (by simp) (r.append r2) ?_,rfl,q⟩
 rw[List.length_append]
 omega
def rCat:R2:=λx y H Q=>∃ l b xs zs,x=.ref l/\y=.ref b/\H l=some (.lst xs)/\H b=some (.lst zs)/\xs.length+zs.length<=sizeLine/\∀ p,H p=none->Q (.ref p) (upd H p (.lst (xs++zs)))
theorem J2:OpR X (binaryOp .Add) rCat:=by
 intro pins s Z H x y v u Q I rx ry h
 obtain⟨l,b,xs,zs,rfl,rfl,hH,hB,hz,q⟩:=h
 cases rx
 cases ry
 obtain⟨z,its,n,r,hl,e⟩:=I.lstM hH
 obtain⟨z2,its2,n2,r2,hl2,e2⟩:=I.lstM hB
 refine PySem.P.add_list e e2 ?_ (by rw[List.size_toArray,List.size_toArray];omega)
 have ea:its.toArray++its2.toArray=(its++its2).toArray:=by simp
 rw[ea]
 exact⟨.ref _,_,I.lnew (t':=s.toks) (r.append r2) (by rw[List.length_append];omega),rfl,q _ I.fresh⟩
end
theorem Vals.ints:∀ {ns:List Int} {us:List Value},Vals (ns.map V.int) us->IntsAre us ns
 | [],us,h=>by
  rw[List.map_nil]at h
  cases h
  exact IntsAre.nil
 | n::ns,us,h=>by
  rw[List.map_cons]at h
  cases h with
  | cons r t=>
   obtain⟨k,rfl⟩:=r
   exact IntsAre.cons n k (Vals.ints t)
theorem Vals.bls:∀ {bs:List Bool} {us:List Value},Vals (bs.map V.bl) us->us=bs.map Value.bool
 | [],us,h=>by
  rw[List.map_nil]at h
  cases h
  rfl
 | b::bs,us,h=>by
  rw[List.map_cons]at h
  cases h with
  | cons r t=>
   cases r
   rw[Vals.bls t,List.map_cons]
theorem Vals.ref1{a:Addr}{us:List Value}(r:Vals [V.ref a] us):us=[Value.ref a]:=by
 cases r with
 | cons r t=>
  cases t
  cases r
  rfl
theorem Fv{prog:Program}{w:World}{A:Around}{E:Value->Shared->Prop}{s:Shared}{l:Addr}{items:Array Value}{Q:Value->Shared->Prop}(hl:s.heap.IsList l items)
  (h:∀ s₂:Shared,s₂={ s with heap:=s.heap.push { cls:=.type "list_iterator",data:=.fields #[.ref l,.int 0 0] } } ->
   (s₂.heap.IsListIter s.heap.objs.size l 0/\s₂.heap.IsList l items)->l≠s.heap.objs.size->Q (.ref s.heap.objs.size) s₂):wpAny (model prog w) A (pyIter (.ref l)) Q E s:=by
 have hlt:l<s.heap.objs.size:=by obtain⟨_,e,_⟩:=hl;exact Heap.lt_size e
 exact wpAny_pyIter_list hl (h _ rfl ⟨⟨_,Heap.get?_push_size _ rfl,rfl,rfl⟩,hl.push _⟩ (Nat.ne_of_lt hlt))
theorem si{prog:Program}{w:World}{A:Around}{bs:List Bool}{its:List Value}(e:its=bs.map Value.bool) :
  TruthOf prog w A (λi v=>its.toArray[i]? = some v) (λi=>bs.getD i false):=λi v s Q E hv hq=>by
 have hv':its[i]? = some v:=by simpa using hv
 rw[e,List.getElem?_map]at hv'
 obtain⟨b,hb,rfl⟩:=Option.map_eq_some_iff.mp hv'
 have hg:bs.getD i false=b:=by rw[List.getD_eq_getElem?_getD,hb] <;> rfl
 have hq':Q (bs.getD i false) s:=hq
 rw[hg]at hq'
 exact wpAny_truthy_bool hq'
theorem Cv:∀ bs:List Bool,(List.range bs.length).any (λi=>bs.getD i false)=bs.any id
 | []=>rfl
 | b::bs=>by
  rw[List.length_cons,List.range_succ_eq_map,List.any_cons,List.any_map,List.any_cons,<- Cv bs]
  all_goals rfl
theorem Cw:∀ bs:List Bool,(List.range bs.length).all (λi=>bs.getD i false)=bs.all id
 | []=>rfl
 | b::bs=>by
  rw[List.length_cons,List.range_succ_eq_map,List.all_cons,List.all_map,List.all_cons,<- Cw bs]
  all_goals rfl
section
variable{X:Cx}
def rAny(K:W.Frag):List V->Hp->VK->Prop:=λvs H Q=>∃ (a:Addr) (bs:List Bool),vs=[V.ref a]/\SqL K H a (bs.map V.bl)/\Q (.bl (bs.any id)) H
def rAll(K:W.Frag):List V->Hp->VK->Prop:=λvs H Q=>∃ (a:Addr) (bs:List Bool),vs=[V.ref a]/\SqL K H a (bs.map V.bl)/\Q (.bl (bs.all id)) H
theorem Lk(hc:X.calm=true):wn X (.builtin "any") (rAny X.K):=by
 intro pins s Z H vs us Q I r h
 obtain⟨a,bs,rfl,hs,q⟩:=h
 obtain⟨its,rv,hl,_⟩:=I.list hs
 rw[Vals.ref1 r]
 have hb:=rv.bls
 refine call_any_walk (Fv hl.isList λs₂ e2 st hne=>?_)
 subst e2
 refine⟨_,_,_,_,_,_,_,rfl,Walks.list (A:=X.A.in1) (I.ok.hd hc) _ a hne its.toArray,st,si hb,λh' tk hk=>?_⟩
 refine⟨.bl _,H,I.kept λb o eo=>hk b o (λhmem=>?_) (Heap.get?_push_of_some _ eo),?_,q⟩
 .rcases List.mem_cons.mp hmem with e1|hmem
  .exact absurd (e1 ▸ Heap.lt_size eo) (Nat.lt_irrefl _)
  .cases hmem
 .show Value.bool _=Value.bool _
  rw[<- Cv,hb,List.size_toArray,List.length_map]
theorem Pz(hc:X.calm=true):wn X (.builtin "all") (rAll X.K):=by
 intro pins s Z H vs us Q I r h
 obtain⟨a,bs,rfl,hs,q⟩:=h
 obtain⟨its,rv,hl,_⟩:=I.list hs
 rw[Vals.ref1 r]
 have hb:=rv.bls
 refine call_all_walk (Fv hl.isList λs₂ e2 st hne=>?_)
 subst e2
 refine⟨_,_,_,_,_,_,_,rfl,Walks.list (A:=X.A.in1) (I.ok.hd hc) _ a hne its.toArray,st,si hb,λh' tk hk=>?_⟩
 refine⟨.bl _,H,I.kept λb o eo=>hk b o (λhmem=>?_) (Heap.get?_push_of_some _ eo),?_,q⟩
 .rcases List.mem_cons.mp hmem with e1|hmem
  .exact absurd (e1 ▸ Heap.lt_size eo) (Nat.lt_irrefl _)
  .cases hmem
 .show Value.bool _=Value.bool _
  rw[<- Cw,hb,List.size_toArray,List.length_map]
end
abbrev P1(h:Heap)(c:Addr)(v:Option Value):Prop:=h.IsCell c v
def relS(scope sc:Scope):Scope:=
 { scope with names:=scope.names.map λ(n,k)=>if (k==.free&&sc.kind==.function&&sc.names.lookup n==some .cell) then (n,.cell) else (n,k) }
def db(cells:List (Str×Addr)):List (Str×NameKind)->List (Str×Addr)->List (Str×Addr)
 | [],acc=>acc
 | (n,k)::r,acc=>if k==.free then db cells r ((n,(cells.lookup n).getD 0)::acc) else db cells r acc
theorem qk(env:Env)(f:Str×NameKind->List (Str×Addr)->Sem (ForInStep (List (Str×Addr))))
  (hf:∀ n k c,f (n,k) c=if k==.free then (do let a <- cellOf env n;pure (.yield ((n,a)::c))) else pure (.yield c)) :
  ∀ (names:List (Str×NameKind)) (acc:List (Str×Addr)),(∀ y∈names,y.2=.free->∃ c,env.cells.lookup y.1=some c)->forIn names acc f=pure (db env.cells names acc)
 | [],acc,_=>by rw[List.forIn_nil];rfl
 | (n,k)::r,acc,h=>by
  rw[List.forIn_cons,hf]
  have ih:=λacc=>qk env f hf r acc λy hy=>h y (List.mem_cons_of_mem _ hy)
  unfold db
  by_cases hk:(k==NameKind.free)=true
  .rw[if_pos hk,if_pos hk]
   obtain⟨c,hc⟩:=h (n,k) List.mem_cons_self (by simpa using hk)
   have e:cellOf env n=pure c:=by unfold cellOf;rw[hc]
   rw[e]
   have e2:(env.cells.lookup n).getD 0=c:=by rw[hc];rfl
   rw[e2]
   exact ih _
  .rw[if_neg hk,if_neg hk]
   exact ih _
theorem Hm{scope:Scope}{env:Env}(h:∀ y∈scope.names,y.2=.free->∃ c,env.cells.lookup y.1=some c):closureFor scope env=pure (db env.cells scope.names []):=by
 simp only[closureFor]
 rw[qk env _ (λn k c=>rfl) scope.names [] h]
 rfl
theorem on{α:Type}:∀ {l:List (Str×α)} {n:Str} {c:α},(n,c)∈l->∃ c',l.lookup n=some c'
 | (k,v)::r,n,c,h=>by
  rw[List.lookup_cons]
  cases hb:n==k with
  | true=>exact⟨_,rfl⟩
  | false=>
   rcases List.mem_cons.mp h with e|h
   .cases e;simp at hb
   .exact on h
theorem jf{cells:List (Str×Addr)}:∀ {names:List (Str×NameKind)} {acc:List (Str×Addr)} {n:Str} {c:Addr},(n,c)∈db cells names acc->(n,c)∈acc\/((n,.free)∈names/\c=(cells.lookup n).getD 0)
 | [],_,_,_,h=>.inl h
 | (m,k)::r,acc,n,c,h=>by
  unfold db at h
  split at h
  .rename_i hk
   have hk:k=.free:=by simpa using hk
   rcases jf h with h|⟨h1,h2⟩
   .rcases List.mem_cons.mp h with e|h
    .cases e;exact .inr ⟨hk ▸ List.mem_cons_self,rfl⟩
    .exact .inl h
   .exact .inr ⟨List.mem_cons_of_mem _ h1,h2⟩
  .rcases jf h with h|⟨h1,h2⟩
   .exact .inl h
   .exact .inr ⟨List.mem_cons_of_mem _ h1,h2⟩
theorem lw{cells:List (Str×Addr)}:∀ {names:List (Str×NameKind)} {acc:List (Str×Addr)} {p:Str×Addr},p∈acc->p∈db cells names acc
 | [],_,_,h=>h
 | (m,k)::r,acc,p,h=>by
  unfold db
  split
  .exact lw (List.mem_cons_of_mem _ h)
  .exact lw h
theorem lv{cells:List (Str×Addr)}:∀ {names:List (Str×NameKind)} {acc:List (Str×Addr)} {n:Str},(n,.free)∈names->(n,(cells.lookup n).getD 0)∈db cells names acc
 | (m,k)::r,acc,n,h=>by
  unfold db
  rcases List.mem_cons.mp h with e|h
  .cases e
   exact lw List.mem_cons_self
  .split
   .exact lv h
   .exact lv h
theorem j2:∀ {names:List (Str×NameKind)} {h:Heap} {acc:List (Str×Addr)} {x:Str} {c:Addr},(x,c)∈cellsFrom h.objs.size names acc ->
  (x,c)∈acc\/((x,.cell)∈names/\h.objs.size<=c/\P1 (pushCells h names) c none)
 | [],_,_,_,_,h=>.inl h
 | (n,k)::r,h,acc,x,c,hm=>by
  unfold cellsFrom at hm
  unfold pushCells
  split at hm
  .rename_i hk
   rw[if_pos hk]
   have hk:k=.cell:=by simpa using hk
   rw[<- Heap.size_push h { cls:=.type "cell",data:=.cell none }]at hm
   rcases j2 hm with hm|⟨h1,h2,h3⟩
   .rcases List.mem_cons.mp hm with e|hm
    .cases e
     exact .inr ⟨hk ▸ List.mem_cons_self,Nat.le_refl _,_,pushCells_keeps r _ _ _ (Heap.get?_push_size _ rfl),rfl⟩
    .exact .inl hm
   .rw[Heap.size_push]at h2
    exact .inr ⟨List.mem_cons_of_mem _ h1,Nat.le_of_succ_le h2,h3⟩
  .rename_i hk
   rw[if_neg hk]
   rcases j2 hm with hm|⟨h1,h2,h3⟩
   .exact .inl hm
   .exact .inr ⟨List.mem_cons_of_mem _ h1,h2,h3⟩
theorem na:∀ {names:List (Str×NameKind)} {n:Nat} {acc:List (Str×Addr)} {p:Str×Addr},p∈acc->p∈cellsFrom n names acc
 | [],_,_,_,h=>h
 | (m,k)::r,n,acc,p,h=>by
  unfold cellsFrom
  split
  .exact na (List.mem_cons_of_mem _ h)
  .exact na h
theorem uz:∀ {names:List (Str×NameKind)} {n:Nat} {acc:List (Str×Addr)} {x:Str},(x,.cell)∈names->∃ c,(x,c)∈cellsFrom n names acc
 | (m,k)::r,n,acc,x,h=>by
  unfold cellsFrom
  rcases List.mem_cons.mp h with e|h
  .cases e
   exact⟨n,na List.mem_cons_self⟩
  .split
   .exact uz h
   .exact uz h
theorem uy:∀ {names:List (Str×NameKind)} {h:Heap} {acc:List (Str×Addr)} {x y:Str} {c:Addr},(∀ p∈acc,p.2<h.objs.size)->(∀ x y c,(x,c)∈acc->(y,c)∈acc->x=y) ->
  (x,c)∈cellsFrom h.objs.size names acc->(y,c)∈cellsFrom h.objs.size names acc->x=y
 | [],_,_,_,_,_,_,hi,h1,h2=>hi _ _ _ h1 h2
 | (n,k)::r,h,acc,x,y,c,hl,hi,h1,h2=>by
  unfold cellsFrom at h1 h2
  split at h1
  .rename_i hk
   rw[if_pos hk]at h2
   rw[<- Heap.size_push h { cls:=.type "cell",data:=.cell none }]at h1 h2
   refine uy (h:=h.push _) (λp hp=>?_) (λx y c a b=>?_) h1 h2
   .rw[Heap.size_push]
    rcases List.mem_cons.mp hp with rfl|hp
    .exact Nat.lt_succ_self _
    .exact Nat.lt_succ_of_lt (hl p hp)
   .rcases List.mem_cons.mp a with e|a <;> rcases List.mem_cons.mp b with e' | b
    .cases e;cases e';rfl
    .cases e;exact absurd (hl _ b) (Nat.lt_irrefl _)
    .cases e';exact absurd (hl _ a) (Nat.lt_irrefl _)
    .exact hi _ _ _ a b
  .rename_i hk
   rw[if_neg hk]at h2
   exact uy hl hi h1 h2
theorem D0{M:Model}{A:Around}{E:Value->Shared->Prop}{s:Shared}{scope:Scope}{globals:Addr}{closure:List (Str×Addr)}{qual:Str}{func:Option Addr}{code:Value}{around:Env}{builtins:Addr}{Q:Env->Shared->Prop}
  (h:Q (newEnv scope s.heap.objs.size globals (cellsFrom (s.heap.objs.size+1) scope.names closure) qual func code (some around) builtins)
   { s with heap:=pushCells (s.heap.push { cls:=.type "dict",data:=.dict #[] }) scope.names }) :
  wpAny M A (newFunctionEnv scope globals closure [] qual func code (some around) builtins) Q E s:=by
 simp only[newFunctionEnv,Option.isSome_some,if_true]
 refine wpAny_bind (wpAny_alloc ?_)
 refine wpAny_bind (wpAny_layCells _ (λn k c=>rfl) scope.names closure _ _ ?_)
 rw[show({ s with heap:=s.heap.push { cls:=.type "dict",data:=.dict #[] } }:Shared).heap.objs.size=s.heap.objs.size+1 from Heap.size_push ..]
 rw[List.forIn_nil]
 exact wpAny_bind (wpAny_pure (wpAny_pure h))
theorem lh{sc:Scope}:∀ {names:List (Str×NameKind)} {x:Str} {k:NameKind},
  (names.map λ(n,k)=>if (k==NameKind.free&&sc.kind==.function&&sc.names.lookup n==some .cell) then (n,NameKind.cell) else (n,k)).lookup x=some k ->
  ∃ k',names.lookup x=some k'/\(k=k'\/(k'=.free/\k=.cell))
 | [],_,_,h=>by simp at h
 | (n,k₀)::r,x,k,h=>by
  have ih:=@lh sc r x k
  have h':List.lookup x ((if (k₀==NameKind.free&&sc.kind==.function&&sc.names.lookup n==some .cell)=true then (n,NameKind.cell) else (n,k₀))::(r.map _))=some k:=h
  cases hx:x==n with
  | true=>
   simp only[List.lookup_cons,hx]
   by_cases hc:(k₀==NameKind.free&&sc.kind==.function&&sc.names.lookup n==some .cell)=true
   .rw[if_pos hc]at h'
    simp only[List.lookup_cons,hx]at h'
    cases h'
    simp only[Bool.and_eq_true,beq_iff_eq]at hc
    exact⟨k₀,rfl,.inr ⟨hc.1.1,rfl⟩⟩
   .rw[if_neg hc]at h'
    simp only[List.lookup_cons,hx]at h'
    cases h'
    exact⟨_,rfl,.inl rfl⟩
  | false=>
   simp only[List.lookup_cons,hx]
   by_cases hc:(k₀==NameKind.free&&sc.kind==.function&&sc.names.lookup n==some .cell)=true
   .rw[if_pos hc]at h'
    simp only[List.lookup_cons,hx]at h'
    exact ih h'
   .rw[if_neg hc]at h'
    simp only[List.lookup_cons,hx]at h'
    exact ih h'
structure BlkOk(N:List Str)(sc scope:Scope)(own:List (Str×Nat)):Prop where
 kind:scope.kind=.function
 uniq:∀ y∈scope.names,scope.names.lookup y.1=some y.2
 ix:∀ p∈own,N[p.2]? = some p.1
 free:∀ y∈scope.names,y.2=.free->sc.names.lookup y.1=some .cell\/sc.names.lookup y.1=some .free
 own:∀ y∈scope.names,y.2=.local\/y.2=.cell->y.1∈own.map (·.1)\/y.1 ∉ N
def wipe(Z:St):List Nat->St
 | []=>Z
 | v::vs=>(wipe Z vs).set v none
theorem ky(Z:St):∀ vs:List Nat,(wipe Z vs).length=Z.length
 | []=>rfl
 | v::vs=>by unfold wipe;rw[List.length_set,ky Z vs]
theorem se{Z:St}{i:Nat}{x:V}:∀ {vs:List Nat},(wipe Z vs)[i]? = some (some x)->Z[i]? = some (some x)/\i ∉ vs
 | [],h=>⟨h,by simp⟩
 | v::vs,h=>by
  unfold wipe at h
  by_cases hi:v=i
  .subst hi
   by_cases hv:v<(wipe Z vs).length
   .rw[List.getElem?_set_self hv]at h;cases h
   .rw[List.getElem?_eq_none (by simpa using hv)]at h;cases h
  .rw[List.getElem?_set_ne hi]at h
   obtain⟨h1,h2⟩:=se h
   exact⟨h1,by simp only[List.mem_cons,not_or];exact⟨λe=>hi e.symm,h2⟩⟩
abbrev Cx.blk(X:Cx)(s:Shared)(H:Hp)(scope:Scope)(cenv:Env)(fp:List Addr):Cx:={ X with s_0:=s,H_0:=H,env:=cenv,outer:=X.stack,ex:=fp,fn:=λx=>scope.names.lookup x==some .cell,pn:=[],xe:=λ_ _=>False }
section
variable{X:Cx}{pins:List (Addr×Obj)}{Z:St}{H:Hp}{s:Shared}
theorem Et{scope:Scope}{own:List (Str×Nat)}{fp:List Addr}(I:Inv X pins Z H s)(ok:BlkOk X.N X.env.scope scope own)(hN:X.N.Nodup)(hfp:∀ b∈fp,FpOk X pins H b/\b<s.heap.objs.size) :
  Inv (X.blk s H scope (compEnvC scope (cellsFrom (s.heap.objs.size+1) scope.names (db X.env.cells scope.names [])) s.heap.objs.size X.env) fp) [] (wipe Z (own.map (·.2))) H { s with heap:=pushCells (s.heap.push { cls:=.type "dict",data:=.dict #[] }) scope.names }:=by
 have hfree:∀ y∈scope.names,y.2=.free->∃ c,X.env.cells.lookup y.1=some c:=λy hy e=>by
  rcases ok.free y hy e with k|k
  .exact I.ok.has _ (.inl k)
  .exact I.ok.has _ (.inr k)
 generalize hcenv:compEnvC scope (cellsFrom (s.heap.objs.size+1) scope.names (db X.env.cells scope.names [])) s.heap.objs.size X.env=cenv
 have kp:∀ b o,s.heap.get? b=some o->(pushCells (s.heap.push { cls:=.type "dict",data:=.dict #[] }) scope.names).get? b=some o:=λb o e=>pushCells_keeps _ _ _ _ (Heap.get?_push_of_some _ e)
 have hL:cenv.locals=s.heap.objs.size:=by rw[<- hcenv];rfl
 have hcl:cenv.cells=cellsFrom (s.heap.objs.size+1) scope.names (db X.env.cells scope.names []):=by rw[<- hcenv];rfl
 have hsc:cenv.scope=relS scope X.env.scope:=by rw[<- hcenv];rfl
 rw[<- Heap.size_push s.heap { cls:=.type "dict",data:=.dict #[] }]at hcl
 have cm:∀ {y c},(y,c)∈db X.env.cells scope.names []->X.env.cells.lookup y=some c/\c<s.heap.objs.size:=λ{y c} hm=>by
  rcases jf hm with hm|⟨h1,rfl⟩
  .cases hm
  .obtain⟨c,hc⟩:=hfree _ h1 rfl
   rw[hc]
   obtain⟨w,z⟩:=I.cell _ _ hc
   exact⟨rfl,z.lt⟩
 have mem:∀ {y c},cenv.cells.lookup y=some c->(X.env.cells.lookup y=some c/\c<s.heap.objs.size)\/(s.heap.objs.size+1<=c/\P1 (pushCells (s.heap.push { cls:=.type "dict",data:=.dict #[] }) scope.names) c none):=λ{y c} e=>by
  rw[hcl]at e
  rcases j2 (PySem.mem_of_lookup e) with hm|⟨_,h2,h3⟩
  .exact .inl (cm hm)
  .rw[Heap.size_push]at h2;exact .inr ⟨h2,h3⟩
 have look:∀ {y},scope.names.lookup y=some .free->∃ c,cenv.cells.lookup y=some c/\X.env.cells.lookup y=some c:=λ{y} hl=>by
  have hy:(y,NameKind.free)∈scope.names:=PySem.mem_of_lookup hl
  obtain⟨c',e'⟩:=on (na (names:=scope.names) (n:=(s.heap.push { cls:=.type "dict",data:=.dict #[] }).objs.size) (lv (cells:=X.env.cells) (acc:=[]) hy))
  rw[<- hcl]at e'
  refine⟨c',e',?_⟩
  rw[hcl]at e'
  rcases j2 (PySem.mem_of_lookup e') with hm|⟨h1,_,_⟩
  .exact(cm hm).1
  .have:=ok.uniq _ h1
   rw[hl]at this;cases this
 have okB:(X.blk s H scope cenv fp).Ok:=by
  refine⟨I.ok.mod,by show cenv.scope.kind=_;rw[hsc];exact ok.kind,by show cenv.globals=_;rw[<- hcenv];exact I.ok.glob,by show cenv.builtins=_;rw[<- hcenv];exact I.ok.blt,by show s.heap.objs.size<=cenv.locals;rw[hL];exact Nat.le_refl _,
   λy z c e1 e2=>?_,λy hy=>?_,λy c z e=>?_,I.ok.hd,I.ok.frames,.inl rfl,λb hb=>⟨?_,λy c e z=>?_⟩,I.bs,Nat.le_trans I.ok.bsz I.sz,λb o e hb=>?_,λb hb z=>?_,I.stack,I.stkFree⟩
  .have e1:cenv.cells.lookup y=some c:=e1
   have e2:cenv.cells.lookup z=some c:=e2
   rw[hcl]at e1 e2
   refine uy (λp hp=>?_) (λy z c a b=>I.ok.inj y z c (cm a).1 (cm b).1) (PySem.mem_of_lookup e1) (PySem.mem_of_lookup e2)
   rw[Heap.size_push]
   exact Nat.lt_succ_of_lt (cm (y:=p.1) (c:=p.2) hp).2
  .show ∃ c,cenv.cells.lookup y=some c
   have key:∀ k,cenv.kindOf y=some k->(k=.cell\/k=.free)->∃ c,cenv.cells.lookup y=some c:=λk hk hk'=>by
    unfold Env.kindOf at hk
    rw[hsc]at hk
    obtain⟨k',e,r⟩:=lh hk
    have:k'=.cell\/k'=.free:=by
     rcases r with rfl|⟨rfl,_⟩
     .exact hk'
     .exact .inr rfl
    rcases this with rfl|rfl
    .obtain⟨c,hm⟩:=uz (n:=(s.heap.push { cls:=.type "dict",data:=.dict #[] }).objs.size) (acc:=db X.env.cells scope.names []) (PySem.mem_of_lookup e)
     obtain⟨c',e'⟩:=on hm
     exact⟨c',by rw[hcl];exact e'⟩
    .obtain⟨c,h1,_⟩:=look e
     exact⟨c,h1⟩
   rcases hy with hy|hy
   .exact key _ hy (.inl rfl)
   .exact key _ hy (.inr rfl)
  .have z:(scope.names.lookup y==some NameKind.cell)=true:=z
   have z:scope.names.lookup y=some .cell:=by simpa using z
   have e:cenv.cells.lookup y=some c:=e
   rw[hcl]at e
   rcases j2 (PySem.mem_of_lookup e) with hm|⟨_,h2,_⟩
   .rcases jf hm with hm|⟨h1,_⟩
    .cases hm
    .have q:=ok.uniq _ h1
     rw[z]at q;cases q
   .rw[Heap.size_push]at h2
    exact Nat.le_of_succ_le h2
  .show b≠cenv.locals
   rw[hL];exact Nat.ne_of_lt (hfp b hb).2
  .have e:cenv.cells.lookup y=some c:=e
   rcases mem e with ⟨h1,_⟩|⟨h1,_⟩
   .exact(hfp b hb).1.2.2.2.2.1 y c h1 z
   .have h2:s.heap.objs.size+1<=b:=by rw[<- z];exact h1
    exact absurd (Nat.lt_of_lt_of_le (hfp b hb).2 (Nat.le_of_succ_le h2)) (Nat.lt_irrefl _)
  .rcases (hfp b hb).1.2.2.2.1 with z|z
   .exact I.ok.noex b o e z
   .exact absurd (Nat.lt_of_lt_of_le (Heap.lt_size e) (Nat.le_trans I.ok.bsz z)) (Nat.lt_irrefl _)
  .rcases List.mem_cons.mp (I.stkSub b z) with z|z
   .exact(hfp b hb).1.2.1 z
   .exact(hfp b hb).1.2.2.1 z
 refine⟨okB,rfl,I.bare,Un.kept kp,⟨λ_=>none,?_,λi y av e1 e2 e3=>?_⟩,λy c e=>?_,?_,λy c e=>?_,λp hp=>?_,I.hok.kept kp,by rw[ky];exact I.len⟩
 .show Heap.Ns _ cenv.locals _
  rw[hL]
  exact Heap.Ns.keeps (Heap.Ns.new ..) λb o e=>pushCells_keeps _ _ _ _ e
 .obtain⟨e2,hne⟩:=se e2
  have hfr:scope.names.lookup y=some .free/\(cenv.kindOf y=some .cell\/cenv.kindOf y=some .free):=by
   have key:∀ k,cenv.scope.names.lookup y=some k->k=.local\/k=.cell\/k=.free->scope.names.lookup y=some .free/\(cenv.kindOf y=some .cell\/cenv.kindOf y=some .free):=λk hk hk'=>by
    have hk0:=hk
    rw[hsc]at hk
    obtain⟨k',e,r⟩:=lh hk
    have no:¬ (k'=.local\/k'=.cell):=λhh=>by
     rcases ok.own _ (PySem.mem_of_lookup e) hh with e' | e'
     .obtain⟨p,hp,hpy⟩:=List.mem_map.mp e'
      have e3:=ok.ix p hp
      have:p.1=y:=hpy
      rw[this]at e3
      exact hne (List.mem_map.mpr ⟨p,hp,Aa hN e3 e1⟩)
     .exact e' (List.mem_of_getElem? e1)
    rcases r with rfl|⟨rfl,rfl⟩
    .rcases hk' with rfl|rfl|rfl
     .exact absurd (.inl rfl) no
     .exact absurd (.inr rfl) no
     .exact⟨e,.inr hk0⟩
    .exact⟨e,.inl hk0⟩
   have e3:Vis cenv.scope y:=e3
   rcases e3 with e3|e3|e3
   .exact key _ e3 (.inl rfl)
   .exact key _ e3 (.inr (.inl rfl))
   .exact key _ e3 (.inr (.inr rfl))
  obtain⟨m,hn,hl⟩:=I.loc
  have hvis:Vis X.env.scope y:=(ok.free _ (PySem.mem_of_lookup hfr.1) rfl).elim (λk=>.inr (.inl k)) (λk=>.inr (.inr k))
  obtain⟨w,r,q⟩:=hl i y av e1 e2 hvis
  refine⟨w,r,.inr ⟨hfr.2,?_⟩⟩
  obtain⟨c,h1,h2⟩:=look hfr.1
  rcases q with ⟨k,_⟩|⟨_,c',e',z⟩
  .have k:X.env.scope.names.lookup y=some .local:=k
   rcases ok.free _ (PySem.mem_of_lookup hfr.1) rfl with k' | k' <;> rw[show X.env.scope.names.lookup y=_ from k']at k <;> cases k
  .rw[h2]at e';cases e'
   exact⟨c,h1,z.keeps kp⟩
 .have e:cenv.cells.lookup y=some c:=e
  rcases mem e with ⟨h1,_⟩|⟨_,z⟩
  .obtain⟨w,z⟩:=I.cell y c h1
   exact⟨w,z.keeps kp⟩
  .exact⟨_,z⟩
 .show H cenv.locals=none
  rw[hL];exact I.hok.fresh (Nat.le_refl _)
 .have e:cenv.cells.lookup y=some c:=e
  rcases mem e with ⟨h1,_⟩|⟨h1,_⟩
  .exact I.freeC y c h1
  .exact I.hok.fresh (Nat.le_of_succ_le h1)
 .exact absurd (show p∈([]:List (Addr×Obj))++[] from hp) (by simp)
theorem Ux{E:Value->Shared->Prop}{D:Addr}{xs:List V}{y:V}{v:Value}{Q:Value->Shared->Prop}(I:Inv X pins Z H s)(hD:H D=some (.lst xs))(hz:xs.length<sizeLine)(r:RelV y v)
  (h:∀ s',Inv X pins Z (upd H D (.lst (xs++[y]))) s'->Q .none s'):wpAny (model X.prog X.w) X.A (call (.builtin "list.append") [.ref D,v]) Q E s:=by
 obtain⟨hz',its,n,ri,e⟩:=I.hok D _ hD
 have hl:=ri.length
 refine append_at (hsz:=by rw[List.size_toArray];omega) e λh' sb ho'=>?_
 refine h { s with heap:=h' } (I.write (t':=s.toks) (by rw[hD];trivial) (.inl rfl) (λb u hb q=>(sb.2 b hb).trans q) ⟨_,ho'⟩ ⟨by rw[List.length_append];exact hz,its++[v],n+1,ri.append (.cons r .nil),?_⟩)
 rw[ho']
 simp
def PTs(X:Cx)(ifs:List Expr)(t:TT):Prop:=
 ∀ (pins:List (Addr×Obj)) (s:Shared) (Z:St) (H:Hp) (Q:Bool->Hp->Prop),Inv X pins Z H s->t Z H Q ->
  wpAny (model X.prog X.w) X.A (forIn ifs true λc r=>if r=true then do let ok <- isTrue c X.env (eval c X.env);pure (ForInStep.yield ok) else pure (ForInStep.yield r)) (TP X pins Z Q) X.xe s
def tYes:TT:=λ_ H Q=>Q true H
theorem c8:PTs X [] tYes:=λ_ _ _ H _ I h=>wpAny_tests_nil ⟨H,I,h⟩
theorem oi{c:Expr}{t:TT}(h:PT X c t):PTs X [c] t:=λpins s Z H Q I hw=>wpAny_tests_one (h pins s Z H Q I hw)
end
theorem thnF{α:Type}{t:Sem α}{Q Q':α->Shared->Prop}{M:Model}{A:Around}{E:Value->Shared->Prop}{s:Shared}(h:wpAny M A t Q (λ_ _=>False) s)(hQ:∀ a s,Q a s->Q' a s):wpAny M A t Q' E s:=wpAny_mono h hQ λ_ _ z=>False.elim z
theorem Ch{prog:Program}{w:World}{A:Around}{R:Result->Shared->Prop}{s:Shared}{elt target iter:Expr}{ifs:List Expr}{scope:Scope}{pos:Pos}{it acc:Value}{env:Env}(I:Nat->Shared->Prop)
  (turn:∀ n s,I n s->wpAny (model prog w) A (pyNext it) (λr s₁=>match r with
   | none=>R (.ok .next) s₁
   | some v=>wpAny (model prog w) A (letOwnedTupleGo target it v) (λ_ s₁'=>wpAny (model prog w) A (assign target env v) (λ_ s₂ =>
     wpAny (model prog w) A (forIn ifs true λc r=>if r=true then do let ok <- isTrue c env (eval c env);pure (ForInStep.yield ok) else pure (ForInStep.yield r)) (λok s₃ =>
      if ok=true then wpAny (model prog w) A (eval elt env) (λx s₄ =>
       wpAny (model prog w) A (call (.builtin "list.append") [acc,x]) (λ_ s₅=>∃ m,m<n/\I m s₅) (notedBy (model prog w) A env λe s'=>R (.error e) s') s₄) (notedBy (model prog w) A env λe s'=>R (.error e) s') s₃
      else ∃ m,m<n/\I m s₃) (notedBy (model prog w) A env λe s'=>R (.error e) s') s₂) (notedBy (model prog w) A env λe s'=>R (.error e) s') s₁') (notedBy (model prog w) A env λe s'=>R (.error e) s') s₁) (notedBy (model prog w) A env λe s'=>R (.error e) s') s)
  (n:Nat) (h:I n s) :
  codeAny (model prog w) A (.compLoop (.ListComp elt [⟨target,iter,ifs,0⟩] scope pos) 0 it acc env) R s:=by
 refine codeAny_loop rfl I (λn s hI=>?_) n h
 show wpAny _ A ((compTurn (.ListComp elt [⟨target,iter,ifs,0⟩] scope pos) 0 it acc env).onRaise (λx=>do noteFrame x env;theTreesLotGoes x)) _ _ s
 refine wpAny_noted ?_
 rw[compTurn_list]
 refine wpAny_bind (wpAny_standAt (wpAny_bind (wpAny_mono (turn n s hI) (λr s₁ h₁=>?_) λ_ _ h'=>h')))
 cases r with
 | none=>exact wpAny_pure h₁
 | some v=>
  refine wpAny_bind (wpAny_mono h₁ (λ_ s₁' h₁'=>?_) λ_ _ h'=>h')
  refine wpAny_bind (wpAny_mono h₁' (λ_ s₂ h₂=>wpAny_bind (wpAny_mono h₂ (λok s₃ h₃=>?_) λ_ _ h'=>h')) λ_ _ h'=>h')
  cases ok with
  | false=>exact wpAny_pure ⟨rfl,h₃⟩
  | true=>
   exact wpAny_bind (wpAny_bind (wpAny_mono h₃ (λx s₄ h₄=>wpAny_bind (wpAny_mono h₄ (λ_ s₅ h₅=>wpAny_pure (wpAny_pure ⟨rfl,h₅⟩)) λ_ _ h'=>h')) λ_ _ h'=>h'))
section
variable{X:Cx}
def tLc(wi:TI)(g:TG)(tt:TT)(te:TE)(vs:List Nat):TE:=λZ H Q=>wi Z H λJ H1=>∀ D,H1 D=none->∃ W:Nat->Nat->Hp->Prop,(∃ m,W 0 m (upd H1 D (.lst [])))/\∀ i m H,W i m H ->
 (J.stop i H/\Q (.ref D) H)\/(J.go i H/\∃ Nx:Hp->Prop,(∀ H',Nx H'->∃ m',m'<m/\W (i+1) m' H')/\∀ x H',J.yld i H x H'->g x (wipe Z vs) H' λZ2 H2=>wipe Z2 vs=wipe Z vs/\tt Z2 H2 λb H3=>
  if b=true then te Z2 H3 λy H4=>∃ acc,H4 D=some (.lst acc)/\acc.length<sizeLine/\Nx (upd H4 D (.lst (acc++[y]))) else Nx H3)
theorem Kr{pins:List (Addr×Obj)}{s:Shared}{Z:St}{H:Hp}{Q:VK}{elt tg iter:Expr}{ifs:List Expr}{scope:Scope}{own:List (Str×Nat)}{pos pos':Pos}{wi:TI}{g:TG}{tt:TT}{te:TE}{use:Option (Value->Sem Unit)}{Qf:Value->Shared->Prop}
  (hc:X.calm=true) (hN:X.N.Nodup) (I:Inv X pins Z H s) (hi:PI X tg iter wi) (ok:BlkOk X.N X.env.scope scope own)
  (hg:∀ (s:Shared) (H:Hp) (C:Addr) (cl:List (Str×Addr)) (fp:List Addr),PG (X.blk s H scope (compEnvC scope cl C X.env) fp) tg g) (ht:∀ (s:Shared) (H:Hp) (C:Addr) (cl:List (Str×Addr)) (fp:List Addr),PTs (X.blk s H scope (compEnvC scope cl C X.env) fp) ifs tt)
  (he:∀ (s:Shared) (H:Hp) (C:Addr) (cl:List (Str×Addr)) (fp:List Addr),PE (X.blk s H scope (compEnvC scope cl C X.env) fp) elt te) (hs:∀ x,foldedSetIterable iter X.env x=pure x)
  (h:tLc wi g tt te (own.map (·.2)) Z H Q)
  (hRR:∀ D C s' m H',Inv X pins Z H' s'->Q (.ref D) H'->s'.heap.Ns C m->FpOk X pins H' C->compPost (model X.prog X.w) X.A X.xe use Qf (.ref D) C (.ok .next) s') :
  wpAny (model X.prog X.w) X.A (comprehension (.ListComp elt [⟨tg,iter,ifs,0⟩] scope pos) scope X.env pos' (newList []) false (eval iter X.env) use) Qf X.xe s:=by
 have hfree:∀ y∈scope.names,y.2=.free->∃ c,X.env.cells.lookup y.1=some c:=λy hy e=>by
  rcases ok.free y hy e with k|k
  .exact I.ok.has _ (.inl k)
  .exact I.ok.has _ (.inr k)
 refine wpAny_comprehension_free (use:=use) rfl hs (Hm hfree) ok.kind (λy hy e=>by rw[ok.uniq y hy,e])
  (thn (hi pins s Z H _ I h) λxv s1 hx=>thn hx λitv s2 h2=>?_)
 obtain⟨it,fp,tn,J,H2,e,I2,T,st2,f2,q⟩:=h2
 subst e
 refine wpAny_newObj_type (D0 ?_) (by show 0<=sizeLine;decide)
 generalize hD:s2.heap.objs.size=D
 have hDn:H2 D=none:=I2.hok.fresh (Nat.le_of_eq hD)
 obtain⟨W,⟨m0,w0⟩,turn⟩:=q D hDn
 generalize hs3:({ s2 with heap:=s2.heap.push { cls:=.type "list",data:=.seq ([]:List Value).toArray } }:Shared)=s3
 have I3:Inv X pins Z (upd H2 D (.lst [])) s3:=by
  rw[<- hs3]
  refine I2.laid (t':=s2.toks) (λb o e=>Heap.get?_push_of_some _ e) (Nat.le_of_eq hD) ⟨Nat.zero_le _,[],0,.nil,?_⟩
  rw[<- hD]
  exact Heap.get?_push_size _ rfl
 have h3:s3.heap=s2.heap.push { cls:=.type "list",data:=.seq ([]:List Value).toArray }:=by rw[<- hs3]
 have sz:∀ b∈fp,b<s2.heap.objs.size:=λb hb=>by
  obtain⟨o,e,_⟩:=T.obj _ _ st2 b hb
  exact Heap.lt_size e
 have f3:∀ b∈fp,FpOk X pins (upd H2 D (.lst [])) b/\b<s3.heap.objs.size:=λb hb=>by
  have hlt:=sz b hb
  refine⟨⟨?_,(f2 b hb).2⟩,by rw[h3,Heap.size_push];exact Nat.lt_succ_of_lt hlt⟩
  rw[ay (by rw[<- hD];exact Nat.ne_of_lt hlt)]
  exact(f2 b hb).1
 have st3:tn 0 s3.heap:=T.keep _ _ _ st2 λb _ o e=>by rw[h3];exact Heap.get?_push_of_some _ e
 have I4:=Et I3 ok hN f3
 have pg:=hg s3 (upd H2 D (.lst [])) s3.heap.objs.size (cellsFrom (s3.heap.objs.size+1) scope.names (db X.env.cells scope.names [])) fp
 have pt:=ht s3 (upd H2 D (.lst [])) s3.heap.objs.size (cellsFrom (s3.heap.objs.size+1) scope.names (db X.env.cells scope.names [])) fp
 have pe:=he s3 (upd H2 D (.lst [])) s3.heap.objs.size (cellsFrom (s3.heap.objs.size+1) scope.names (db X.env.cells scope.names [])) fp
 show codeAny _ _ (.compStart (.ListComp elt [⟨tg,iter,ifs,0⟩] scope pos) 0 (.ref it) (.ref D) (compEnvC scope (cellsFrom (s3.heap.objs.size+1) scope.names (db X.env.cells scope.names [])) s3.heap.objs.size X.env)) (compPost (model X.prog X.w) X.A X.xe use Qf (.ref D) s3.heap.objs.size) { s3 with heap:=pushCells (s3.heap.push { cls:=.type "dict",data:=.dict #[] }) scope.names }
 have nfp:∀ b∈fp,(upd H2 D (.lst [])) b=none:=λb hb=>(f3 b hb).1.1
 generalize hce:compEnvC scope (cellsFrom (s3.heap.objs.size+1) scope.names (db X.env.cells scope.names [])) s3.heap.objs.size X.env=ce at I4 pg pt pe ⊢
 have cL:ce.locals=s3.heap.objs.size:=by subst hce;rfl
 generalize hH3:upd H2 D (.lst [])=H3 at I3 I4 pg pt pe w0 nfp f3
 generalize hs4:({ s3 with heap:=pushCells (s3.heap.push { cls:=.type "dict",data:=.dict #[] }) scope.names }:Shared)=s4 at I4 ⊢
 have st4:tn 0 s4.heap:=T.keep _ _ _ st3 λb _ o e=>by rw[<- hs4];exact pushCells_keeps _ _ _ _ (Heap.get?_push_of_some _ e)
 have stat:∀ {Z':St} {H':Hp} {s':Shared},Inv (X.blk s3 H3 scope ce fp) [] Z' H' s'->(∀ b∈fp,H' b=none)->∀ b∈fp,FpOk (X.blk s3 H3 scope ce fp) [] H' b:=λ{Z' H' s'} I' hn b hb=>
  ⟨hn b hb,(I'.ok.exf b hb).1,I'.ok.exfs b hb,.inl hb,λx c e=>(I'.ok.exf b hb).2 x c e,λp hp=>absurd (show p∈([]:List (Addr×Obj))++[] from hp) (by simp)⟩
 have loop:codeAny (model X.prog X.w) X.A (.compLoop (.ListComp elt [⟨tg,iter,ifs,0⟩] scope pos) 0 (.ref it) (.ref D) ce) (compPost (model X.prog X.w) X.A X.xe use Qf (.ref D) s3.heap.objs.size) s4:=by
  refine Ch (λn s'=>∃ i H',Inv (X.blk s3 H3 scope ce fp) [] (wipe Z (own.map (·.2))) H' s'/\tn i s'.heap/\(∀ b∈fp,H' b=none)/\W i n H') ?_ m0 ⟨0,H3,I4,st4,nfp,w0⟩
  rintro n s5 ⟨i,H5,I5,st5,n5,w5⟩
  rcases turn i n H5 w5 with ⟨stop,qq⟩|⟨go,Nx,hNx,step⟩
  .have td:=T.done (X.blk s3 H3 scope ce fp) rfl rfl rfl hc i [] s5 _ H5 (λ_ _=>False) I5 (stat I5 n5) st5 stop
   refine thnF td λr s6 ⟨hr,I6⟩=>?_
   subst hr
   have I7:Inv X pins Z H5 s6:=I3.call' (ch:=fp) I6.os I6.base I6.hok I6.bare λb hb=>⟨(f3 b hb).1.2.2.2.1,(f3 b hb).1.2.1,(f3 b hb).1.2.2.2.2.1,(f3 b hb).1.2.2.2.2.2⟩
   have nC:H5 s3.heap.objs.size=none:=by
    have z:H5 ce.locals=none:=I6.free
    rw[cL]at z
    exact z
   obtain⟨m,hn,_⟩:=I6.loc
   have hn:s6.heap.Ns ce.locals m:=hn
   rw[cL]at hn
   exact hRR D s3.heap.objs.size s6 m H5 I7 qq hn (I3.fpOk (Nat.le_refl _) nC)
  .have ti:=T.item (X.blk s3 H3 scope ce fp) rfl rfl rfl hc i [] s5 _ H5 (λ_ _=>False) I5 (stat I5 n5) st5 go
   refine thnF ti λr s6 ⟨u,hr,h6⟩=>?_
   subst hr
   refine thnF h6 λ_ s7 ⟨x,H7,I7,r7,y7,st7,n7⟩=>?_
   have I7':=I7.pinned (stat I7 n7) (T.obj _ _ st7)
   refine thnF (pg _ s7 _ H7 x u _ I7' r7 (step x H7 y7)) λ_ s8 ⟨Z8,H8,I8,hw8,q8⟩=>?_
   refine thnF (pt _ s8 Z8 H8 _ I8 q8) λb s9 ⟨H9,I9,q9⟩=>?_
   have fin:∀ {s':Shared} {H':Hp},Inv (X.blk s3 H3 scope ce fp) ([]++Bn fp s7.heap) Z8 H' s'->Nx H'->∃ m,m<n/\∃ i H',Inv (X.blk s3 H3 scope ce fp) [] (wipe Z (own.map (·.2))) H' s'/\tn i s'.heap/\(∀ b∈fp,H' b=none)/\W i m H':=λ{s' H'} I' nx=>by
    obtain⟨m',hm,w'⟩:=hNx H' nx
    have pin':∀ b∈fp,∀ o,s7.heap.get? b=some o->s'.heap.get? b=some o/\H' b=none:=λb hb o e=>
     let z:=I'.pin (b,o) (List.mem_append_right _ (List.mem_append_right _ (om hb e)))
     ⟨z.1,z.2.1⟩
    have hl:(wipe Z (own.map (·.2))).length=Z8.length:=by rw[<- hw8,ky]
    refine⟨m',hm,i+1,H',(I'.unpinned (pins:=[])).weak hl (λj v e=>?_),T.keep _ _ _ st7 λb hb o e=>(pin' b hb o e).1,λb hb=>?_,w'⟩
    .rw[<- hw8]at e
     exact(se e).1
    .obtain⟨o,e,_⟩:=T.obj _ _ st7 b hb
     exact(pin' b hb o e).2
   cases b with
   | false=>
    simp only[Bool.false_eq_true,if_false]at q9 ⊢
    exact fin I9 q9
   | true=>
    simp only[if_true]at q9 ⊢
    refine thnF (pe _ s9 Z8 H9 _ I9 q9) λz s10 ⟨yv,H10,I10,r10,acc,hD10,hz10,nx⟩=>?_
    exact Ux (X:=X.blk s3 H3 scope ce fp) I10 hD10 hz10 r10 λs11 I11=>fin I11 nx
 exact codeAny_compStart_list loop (T.self X.A 0 _ _ _ st4 loop)
theorem gv{elt tg iter:Expr}{ifs:List Expr}{scope:Scope}{own:List (Str×Nat)}{pos:Pos}{wi:TI}{g:TG}{tt:TT}{te:TE}(hc:X.calm=true)(hN:X.N.Nodup)(hi:PI X tg iter wi)(ok:BlkOk X.N X.env.scope scope own)
  (hg:∀ (s:Shared) (H:Hp) (C:Addr) (cl:List (Str×Addr)) (fp:List Addr),PG (X.blk s H scope (compEnvC scope cl C X.env) fp) tg g) (ht:∀ (s:Shared) (H:Hp) (C:Addr) (cl:List (Str×Addr)) (fp:List Addr),PTs (X.blk s H scope (compEnvC scope cl C X.env) fp) ifs tt)
  (he:∀ (s:Shared) (H:Hp) (C:Addr) (cl:List (Str×Addr)) (fp:List Addr),PE (X.blk s H scope (compEnvC scope cl C X.env) fp) elt te) (hs:∀ x,foldedSetIterable iter X.env x=pure x:=by intro _;rfl) :
  PE X (.ListComp elt [⟨tg,iter,ifs,0⟩] scope pos) (tLc wi g tt te (own.map (·.2))):=by
 intro pins s Z H Q I h
 rw[eval_ListComp]
 refine Kr hc hN I hi ok hg ht he hs h λD C s' m H' I' q hn f=>⟨m,hn,λh'' sb=>?_⟩
 obtain⟨f0,f1,f2,f3,f4,f5⟩:=f
 exact⟨.ref D,H',I'.turned (t':=s'.toks) (λb o hb e=>(sb.2 b hb).trans e) f0 f1 f3 f4 f5,rfl,q⟩
theorem kc{i:Nat}{y:Str}{py:Pos}{elt tg iter:Expr}{ifs:List Expr}{scope:Scope}{own:List (Str×Nat)}{pos spos:Pos}{wi:TI}{g:TG}{tt:TT}{te:TE}(hc:X.calm=true)(hN:X.N.Nodup)(hy:X.N[i]? = some y)(hyl:X.env.scope.names.lookup y=some .local)
  (hsw:swapsWith (.ListComp elt [⟨tg,iter,ifs,0⟩] scope pos) (some (.Name y py)) spos.line X.env=pure true) (hi:PI X tg iter wi) (ok:BlkOk X.N X.env.scope scope own)
  (hg:∀ (s:Shared) (H:Hp) (C:Addr) (cl:List (Str×Addr)) (fp:List Addr),PG (X.blk s H scope (compEnvC scope cl C X.env) fp) tg g) (ht:∀ (s:Shared) (H:Hp) (C:Addr) (cl:List (Str×Addr)) (fp:List Addr),PTs (X.blk s H scope (compEnvC scope cl C X.env) fp) ifs tt)
  (he:∀ (s:Shared) (H:Hp) (C:Addr) (cl:List (Str×Addr)) (fp:List Addr),PE (X.blk s H scope (compEnvC scope cl C X.env) fp) elt te) (hs:∀ x,foldedSetIterable iter X.env x=pure x:=by intro _;rfl) :
  PS X (.Assign [.Name y py] (.ListComp elt [⟨tg,iter,ifs,0⟩] scope pos) spos) (tAsg (tLc wi g tt te (own.map (·.2))) (m7 i)):=by
 intro pins s Z H D I h
 rw[exec_Assign_Name_used _ _ _ _ hsw]
 refine wpAny_bind (wpAny_standAt (wpAny_bind ?_))
 show wpAny _ X.A (do let _ <- comprehension (.ListComp elt [⟨tg,iter,ifs,0⟩] scope pos) scope X.env (firstIterPos [⟨tg,iter,ifs,0⟩] pos) (newList []) false (eval iter X.env) (some (assign (.Name y py) X.env))) _ _ s
 have h:tLc wi g tt te (own.map (·.2)) Z H (λx H1=>m7 i x Z H1 D.nx):=h
 refine wpAny_bind (thn (Kr (Qf:=λ_ s'=>SP X pins D .next s') hc hN I hi ok hg ht he hs h λL C s' m H' I' q hn f=>?_) λ_ s' hq=>wpAny_pure (wpAny_pure hq))
 show wpAny _ _ (assign (.Name y py) X.env (.ref L)) _ _ _
 refine wpAny_assign_Name (A4 (v:=V.ref L) I' hN hy (.inl hyl) rfl (λs2 I2 ⟨a,sb,ha⟩=>?_) (.inr hyl))
 obtain⟨f0,f1,f2,f3,f4,f5⟩:=f
 have haC:C≠a:=by
  rcases ha with z|z
  .rw[z];exact f1
  .exact λe=>f4 y a z e.symm
 refine⟨m,hn.sameBut sb haC,λh3 sb3=>?_⟩
 exact⟨_,H',I2.turned (t':=s2.toks) (λb o hb e=>(sb3.2 b hb).trans e) f0 f1 f3 f4 f5,q⟩
end
def blkC(N:List Str)(sc scope:Scope)(own:List (Str×Nat)):Bool:=
 (match scope.kind with | .function=>true|_=>false)&&(scope.names.all λy=>decide (scope.names.lookup y.1=some y.2))&&(own.all λp=>decide (N[p.2]? = some p.1)) &&
  (scope.names.all λy=>match y.2 with
   | .free=>(match sc.names.lookup y.1 with | some .cell=>true | some .free=>true | _=>false)
   | .local=>decide (y.1∈own.map (·.1))||decide (y.1 ∉ N)
   | .cell=>decide (y.1∈own.map (·.1))||decide (y.1 ∉ N)
   | _=>true)
theorem b8{N:List Str}{sc scope:Scope}{own:List (Str×Nat)}(h:blkC N sc scope own=true):BlkOk N sc scope own:=by
 unfold blkC at h
 simp only[Bool.and_eq_true,List.all_eq_true,decide_eq_true_eq]at h
 obtain⟨⟨⟨h1,h2⟩,h3⟩,h4⟩:=h
 refine⟨?_,h2,h3,λy hy e=>?_,λy hy e=>?_⟩
 .split at h1
  .assumption
  .cases h1
 .have q:=h4 y hy
  simp only[e]at q
  split at q <;> first|exact .inl (by assumption)|exact .inr (by assumption)|cases q
 .have q:=h4 y hy
  rcases e with e|e <;> (simp only[e,Bool.or_eq_true,decide_eq_true_eq]at q;exact q)
section
variable{κ:Type}[DecidableEq κ]
def valV(kvs:List (κ×V))(k:κ):Option V:=(kvs.find? λkv=>decide (kv.1=k)).map (·.2)
theorem Ew{p:κ×V}{r:List (κ×V)}{k:κ}(e:p.1=k):valV (p::r) k=some p.2:=by simp[valV,List.find?_cons,e]
theorem Ex{p:κ×V}{r:List (κ×V)}{k:κ}(e:¬ p.1=k):valV (p::r) k=valV r k:=by simp[valV,List.find?_cons,e]
theorem KV.val{kvs:List (κ×V)}{vs:List (κ×Value)}(r:KV kvs vs)(k:κ):RelO (valV kvs k) (valueAt vs k):=by
 unfold KV at r
 induction r with
 | nil=>exact True.intro
 | @cons p q ps qs h t ih=>
  obtain⟨h1,h2⟩:=h
  by_cases e:p.1=k
  .have e':q.1=k:=h1.symm.trans e
   have b:valueAt (q::qs) k=some q.2:=by simp[valueAt,List.find?_cons,e']
   rw[Ew e,b];exact h2
  .have e':¬ q.1=k:=λz=>e (h1.trans z)
   have b:valueAt (q::qs) k=valueAt qs k:=by simp[valueAt,List.find?_cons,e']
   rw[Ex e,b];exact ih
end
theorem Sc{P:Program}{w:World}{k:Key}{u:Value}(r:RelV (kV k) u):(gx P w).is k u=true:=by
 cases k with
 | inl i=>obtain⟨t,e⟩:=(show ∃ t,u=Value.int i t from r);subst e;exact D6 P w i t
 | inr x=>obtain⟨t,e⟩:=(show ∃ t,u=Value.str x t from r);subst e;exact D5 P w x t
theorem B3{P:Program}{w:World}:∀ {ks:List Key} {us:List Value},Vals (ks.map kV) us->ItemsAre (gx P w) ks us
 | [],_,r=>by rw[List.map_nil]at r;cases r;exact .nil
 | k::ks,_,r=>by
  rw[List.map_cons]at r
  cases r with
  | cons h t=>exact .cons (Sc h) (B3 t)
abbrev KT(H:Hp):List (List Key×V)->List (List Key×Addr×Value)->Prop:=Paired λp q=>p.1=q.1/\H q.2.1=some (.tup (p.1.map kV))/\RelV p.2 q.2.2
theorem KT.val{H:Hp}{kvs:List (List Key×V)}{xs:List (List Key×Addr×Value)}(r:KT H kvs xs)(k:List Key):RelO (valV kvs k) ((atKey xs k).map (·.2)):=by
 induction r with
 | nil=>exact True.intro
 | @cons p q ps qs h t ih=>
  obtain⟨h1,_,h2⟩:=h
  by_cases e:p.1=k
  .have e':q.1=k:=h1.symm.trans e
   have b:atKey (q::qs) k=some q.2:=by simp[atKey,List.find?_cons,e']
   rw[Ew e,b];exact h2
  .have e':¬ q.1=k:=λz=>e (h1.trans z)
   have b:atKey (q::qs) k=atKey qs k:=by simp[atKey,List.find?_cons,e']
   rw[Ex e,b];exact ih
section
variable{P:Program}{w:World}{H:Hp}{h:Heap}{a:Addr}
theorem Tc{u:HO}(ok:HOk P w H h)(e:Rd H a u):ga P w H h a u:=e.ok ok
theorem Uu{kvs:List (Key×V)}(ok:HOk P w H h)(e:Rd H a (.dK kvs)):kvs.length<=sizeLine/\(a==sysModules)=false/\∃ vs,KV kvs vs/\h.DictOf (gx P w) a vs:=
 show ga P w H h a (.dK kvs) from Tc ok e
theorem Pp{ks:List Key}(ok:HOk P w H h)(e:H a=some (.tup (ks.map kV))):(tupleKind (gx P w)).is h ks a:=by
 obtain⟨_,its,r,o,h1,h2,n,h3⟩:=(show ga P w H h a (.tup (ks.map kV)) from ok a _ e)
 exact⟨o,its.toArray,n,h1,h2,h3,by simpa using B3 r⟩
theorem Ut{kvs:List (List Key×V)}(ok:HOk P w H h)(e:Rd H a (.dT kvs)):kvs.length<=sizeLine/\(a==sysModules)=false /\
  ∃ xs,KT H kvs xs/\h.DictOfH (tupleKind (gx P w)) a xs:=by
 obtain⟨z,y,xs,r,o,es,ep,h1,h2,h3,h4,h5⟩:=(show ga P w H h a (.dT kvs) from Tc ok e)
 refine⟨z,y,xs,r,o,es,ep,h1,h2,h3,h4,λx hx=>?_,h5⟩
 have all:∀ {l:List (List Key×V)} {m:List (List Key×Addr×Value)},KT H l m->∀ x∈m,(tupleKind (gx P w)).is h x.1 x.2.1:=by
  intro l m q
  induction q with
  | nil=>intro x hx;exact nomatch hx
  | @cons p q ps qs hq t ih=>
   intro x hx
   rcases List.mem_cons.mp hx with e|hx
   .subst e
    exact Pp ok (by rw[<- hq.1];exact hq.2.1)
   .exact ih x hx
 exact all r x hx
end
def DGet(H:Hp)(a:Addr)(y:V)(r:Option V):Prop:=
 (∃ kvs k,Rd H a (.dK kvs)/\y=kV k/\r=valV kvs k)\/∃ kvs k b,Rd H a (.dT kvs)/\y=.ref b/\H b=some (.tup (k.map kV))/\r=valV kvs k
section
variable{X:Cx}{pins:List (Addr×Obj)}{Z:St}{H:Hp}{s:Shared}{a:Addr}{y v:V}{u r:Value}{o:Option V}{A:Around}{E:Value->Shared->Prop}
theorem Lj{Q:Value->Shared->Prop}(hu:A.units+1<cLine)(I:Inv X pins Z H s)(g:DGet H a y (some v))(ry:RelV y u)(h:∀ w' s',Inv X pins Z H s'->RelV v w'->Q w' s') :
  wpAny (model X.prog X.w) A (getItem (.ref a) u) Q E s:=by
 rcases g with ⟨kvs,k,e,ey,l⟩|⟨kvs,k,b,e,ey,eb,l⟩
 .subst ey
  obtain⟨z,hd,vs,rel,dd⟩:=Uu I.hok e
  obtain⟨w',hw,rw'⟩:=RelO.some_of (v:=v) (o:=valueAt vs k) (by rw[l];exact rel.val k)
  exact wpAny_getItem_of (Sc ry) dd.mapOf hw (h w' _ (I.tok _) rw')
 .subst ey
  cases (show u=Value.ref b from ry)
  obtain⟨z,hd,xs,rel,dd⟩:=Ut I.hok e
  obtain⟨w',hw,rw'⟩:=RelO.some_of (v:=v) (o:=(atKey xs k).map (·.2)) (by rw[l];exact rel.val k)
  obtain⟨p,hp,hp2⟩:=Option.map_eq_some_iff.mp hw
  refine wpAny_getItem_heap (tupleKind_room_in1 hu) (Pp I.hok eb) dd hp ?_
  rw[hp2]
  exact h w' _ (I.tok _) rw'
end
def NoSl(i:Expr):Prop:=∀ ov iv,subscripted i false ov iv=operate [ov,iv] (getItem ov iv)
theorem P9{prog:Program}{w:World}{A:Around}{E:Value->Shared->Prop}{s:Shared}{env:Env}{value slice:Expr}{pos:Pos}{T id:String}{Q:Value->Shared->Prop}
  (hl:typeLookup (.type T) "__getitem__"=pure (some (.builtin id))) (hs:NoSl slice)
  (h:wpAny (model prog w) A (eval value env) (λo s₁=>wpAny (model prog w) A (eval slice env) (λi s₂=>s₂.TypeIs o T/\wpAny (model prog w) A (getItem o i) Q E s₂) E s₁) E s) :
  wpAny (model prog w) A (eval (.Subscript value slice pos) env) Q E s:=by
 refine Subscript_ (wpAny_mono h (λo s₁ h₁=>wpAny_mono h₁ (λi s₂ h₂=>?_) λ_ _ x=>x) λ_ _ x=>x)
 obtain⟨hT,h₂⟩:=h₂
 unfold subscriptTail
 refine wpAny_bind ?_
 rw[getitemInPython_of_ne hT.not_modules]
 refine wpAny_bind (wpAny_specialOf hT hl ?_)
 have fin:wpAny (model prog w) A (subscripted slice false o i) (λr s₃=>wpAny (model prog w) A (letTemporaryGo value o r>>=λ_=>pure r) Q E s₃) E s₂:=by
  rw[hs o i]
  exact wpAny_operating (wpAny_mono h₂ (λr s₃ h₃=>wpAny_bind (wpAny_letTemporaryGo (wpAny_pure h₃))) λ_ _ x=>x)
 first
  | exact wpAny_pure (wpAny_bind fin)
  | exact wpAny_bind (wpAny_pure (wpAny_bind fin))
  | exact wpAny_bind fin
theorem Em{X:Cx}{pins:List (Addr×Obj)}{Z:St}{H:Hp}{s:Shared}{a:Addr}{y:V}{o:Option V}(I:Inv X pins Z H s)(g:DGet H a y o):s.TypeIs (.ref a) "dict":=by
 rcases g with ⟨kvs,k,e,_,_⟩|⟨kvs,k,b,e,_,_,_⟩
 .obtain⟨_,_,vs,_,dd⟩:=Uu I.hok e
  exact dd.typeIs
 .obtain⟨_,_,xs,_,dd⟩:=Ut I.hok e
  exact dd.typeIs
def U7(td ty:TE):TE:=λZ H Q=>td Z H λx H1=>ty Z H1 λy H2=>∃ a v,x=.ref a/\DGet H2 a y (some v)/\Q v H2
section
variable{X:Cx}{o i e value:Expr}{pos pos' tpos:Pos}{td ty tv:TE}
theorem Jx(hu:X.A.units+1<cLine)(ho:PE X o td)(hi:PE X i ty)(hs:NoSl i):PE X (.Subscript o i pos) (U7 td ty):=by
 intro pins s Z H Q I h
 refine P9 PySem.F.slot_dict_getitem.lookup hs (thn (ho pins s Z H _ I h) λu s1 ⟨x,H1,I1,rx,q1⟩=>thn (hi pins s1 Z H1 _ I1 q1) λiv s2 ⟨y,H2,I2,ry,a,v,ex,g,q2⟩=>?_)
 subst ex
 obtain rfl:u=Value.ref a:=rx
 exact⟨Em I2 g,Lj hu I2 g ry λw' s3 I3 rw'=>⟨v,H2,I3,rw',q2⟩⟩
end
section
variable{X:Cx}
theorem rl{pins:List (Addr×Obj)}{Z:St}{H:Hp}{s:Shared}(I:Inv X pins Z H s):∀ {ps:List Addr} {kvs:List (Key×V)},Paired (λp kv=>SqT X.K H p [kV kv.1,kv.2]) ps kvs ->
  ∃ prs:List (Key×Value),KV kvs prs/\prs.length=ps.length/\∀ (j:Nat) (q:Key×Value),prs[j]? = some q->∃ (b:Addr) (u:Value),ps[j]? = some b/\IsTup s.heap b #[u,q.2]/\uh q.1 u=true
 | _,_,.nil=>⟨[],.nil,rfl,λj q e=>by simp at e⟩
 | _,_,.cons (a:=p) (b:=kv) h t=>by
  obtain⟨prs,r,hl,hp⟩:=rl I t
  obtain⟨its,rv,ht,_⟩:=I.tuple h
  obtain⟨u,y,ei,ru,ry⟩:=Sy rv
  subst ei
  refine⟨(kv.1,y)::prs,.cons ⟨rfl,ry⟩ r,by rw[List.length_cons,List.length_cons,hl],λj q e=>?_⟩
  cases j with
  | zero=>
   have e':(kv.1,y)=q:=Option.some.inj e
   subst e'
   exact⟨p,u,rfl,ht,Sc (P:=X.prog) (w:=X.w) ru⟩
  | succ j=>
   obtain⟨b,u',e1,e2,e3⟩:=hp j q (by simpa using e)
   exact⟨b,u',by simpa using e1,e2,e3⟩
end
theorem ww:bootBuiltins "reversed"=some (.type "reversed"):=by decide +kernel
section
variable{X:Cx}{pins:List (Addr×Obj)}{Z:St}{H:Hp}{s:Shared}{h':Heap}
theorem Inv.turnedL{t':Nat}{ch:List Addr}(I:Inv X pins Z H s)(k:∀ b o,b ∉ ch->s.heap.get? b=some o->h'.get? b=some o)(hf:∀ b∈ch,FpOk X pins H b):Inv X pins Z H { s with heap:=h',toks:=t' }:=by
 have nit:∀ b u,H b=some u->b ∉ ch:=λb u e z=>by
  have q:=(hf b z).1
  rw[q]at e;cases e
 refine I.step (g':=s.gens) (d':=s.drawn) (ch:=ch) (λb hb=>⟨(hf b hb).2.2.2.1,(hf b hb).2.1,(hf b hb).2.2.2.2.1,(hf b hb).2.2.2.2.2⟩) (λb o _ _ hc e _=>k b o hc e) (λb o _ _ hc e _=>⟨o.slots,k b o hc e⟩)
  (λ_ _ _ _ n=>n) (λb o hc e=>⟨o,k b o hc e⟩) (λ_ _ e=>e) (λ_ _ _ e=>e) (λb ps e=>⟨#[],by rw[e];simp⟩) (λm hm=>?_) (λb u e=>?_) I.bare
 .obtain⟨o,es,ep,ho,r⟩:=hm
  exact⟨o,es,ep,k _ o (λz=>(hf _ z).2.1 rfl) ho,r⟩
 .refine(I.hok b u e).stay (λc v hc q=>k c v ?_ q) (λ_ q=>q) λ_ _ q=>q
  rcases hc with z|z
  .rw[z];exact nit b u e
  .exact nit c _ z
theorem Inv.turnedNew{t':Nat}{ch:List Addr}{T:Addr}{ob:HO}(I:Inv X pins Z H s)(k:∀ b o,b ∉ ch->s.heap.get? b=some o->h'.get? b=some o)(hf:∀ b∈ch,FpOk X pins H b)(hT:s.heap.objs.size<=T)
  (new:ga X.prog X.w (upd H T ob) h' T ob):Inv X pins Z (upd H T ob) { s with heap:=h',toks:=t' }:=by
 have hn:H T=none:=I.hok.fresh hT
 have nit:∀ b u,H b=some u->b ∉ ch:=λb u e z=>by
  have q:=(hf b z).1
  rw[q]at e;cases e
 refine I.step (g':=s.gens) (d':=s.drawn) (ch:=ch) (λb hb=>⟨(hf b hb).2.2.2.1,(hf b hb).2.1,(hf b hb).2.2.2.2.1,(hf b hb).2.2.2.2.2⟩) (λb o _ _ hc e _=>k b o hc e) (λb o _ _ hc e _=>⟨o.slots,k b o hc e⟩)
  (λb o _ e n=>?_) (λb o hc e=>⟨o,k b o hc e⟩) (λb xs e=>?_) (λb o u e=>?_) (λb ps e=>⟨#[],?_⟩) (λm hm=>?_) (λb u e=>?_) I.bare
 .rw[ay (Nat.ne_of_lt (Nat.lt_of_lt_of_le (Heap.lt_size e) hT))];exact n
 .rw[ay (ba e hn)];exact e
 .rw[ay (ba e hn)];exact e
 .rw[ay (ba e hn),e];simp
 .obtain⟨o,es,ep,ho,r⟩:=hm
  exact⟨o,es,ep,k _ o (λz=>(hf _ z).2.1 rfl) ho,r⟩
 .by_cases hb:b=T
  .subst hb
   rw[ak]at e
   cases e
   exact new
  .rw[ay hb]at e
   refine(I.hok b u e).stay (λc v hc q=>k c v ?_ q) (λc q=>by rw[ay (ba q hn)];exact q) λc xs q=>by rw[ay (ba q hn)];exact q
   rcases hc with z|z
   .rw[z];exact nit b u e
   .exact nit c _ z
end
section
variable{X:Cx}
theorem Th{tg:Expr}{pins:List (Addr×Obj)}{Z:St}{H:Hp}{s:Shared}{R:It->Hp->Prop}{J:It}{tn:Nat->Heap->Prop}{tk:Nat}(I:Inv X pins Z H s)(o:Obj)
  (T:Turn X.prog X.w X.K tg J [s.heap.objs.size] s.heap.objs.size tn) (st:tn 0 (s.heap.push o)) (q:R J H):PIE X pins Z tg R (.ref s.heap.objs.size) { s with heap:=s.heap.push o,toks:=tk }:=by
 refine⟨s.heap.objs.size,[s.heap.objs.size],tn,J,H,rfl,I.kept λb ob e=>Heap.get?_push_of_some _ e,T,st,λb hb=>?_,q⟩
 have e:b=s.heap.objs.size:=by simpa using hb
 subst e
 exact I.fpOk (Nat.le_refl _) (I.hok.fresh (Nat.le_refl _))
end
def Itc(lo c:Int)(n:Nat):It:=⟨λi _=>i<n,λi H x H'=>H'=H/\x=.int (lo+(i:Nat)*c),λi _=>n<=i⟩
theorem C0{P:Program}{w:World}{K:PySem.W.Frag}{tg:Expr}(it:Addr)(lo c:Int)(n:Nat):Turn P w K tg (Itc lo c n) [it] it (λi h=>IsRangeIter h it (lo+(i:Nat)*c) ((n:Int) - (i:Nat)) c) where
 mem:=by simp
 obj:=λi h st b hb=>by
  have e:b=it:=by simpa using hb
  subst e
  exact⟨_,st,λv z=>nomatch z⟩
 keep:=λi h h' st k=>k it (by simp) _ st
 item:=by
  intro X hP hw hK hc i pins s Z H E I hf st hg
  subst hP hw hK
  obtain⟨f0,f1,f2,f3,f4,f5⟩:=hf it (by simp)
  have W:=Walks.range (prog:=X.prog) (w:=X.w) (I.ok.hd hc) it lo c n
  refine W.item i s _ _ hg st λv h' tk hv st' kk=>?_
  obtain⟨t,rfl⟩:=hv
  have I1:Inv X pins Z H { s with heap:=h',toks:=tk }:=I.turned (λb o hb e=>kk b o (by simpa using hb) e) f0 f1 f3 f4 f5
  exact⟨_,rfl,Om (s:={ s with heap:=h',toks:=tk }) (n:="range_iterator") st' rfl rfl (by decide) ⟨.int (lo+(i:Nat)*c),H,I1,⟨t,rfl⟩,⟨rfl,rfl⟩,st',λb hb=>(hf b hb).1⟩⟩
 done:=by
  intro X hP hw hK hc i pins s Z H E I hf st hg
  subst hP hw hK
  obtain⟨f0,f1,f2,f3,f4,f5⟩:=hf it (by simp)
  exact wpAny_pyNext_range_end (I.ok.hd hc) st (by have:n<=i:=hg;omega) λh' eb=>⟨rfl,I.turned (t':=s.toks) (λb o hb e=>eb b o hb e) f0 f1 f3 f4 f5⟩
 self:=λA i s Q E st h=>wpAny_pyIter_rangeiter st h
def RgC(i j c:Int)(n:Nat):Prop:=c≠0/\c.natAbs<1073741824/\Builtin.Range.small i j c=true/\Builtin.Range.rangeSize i j c=n
def Vj(ta:TA):TI:=λZ H R=>ta Z H λvs H1=>∃ (i j c:Int) (n:Nat),vs=[.int i,.int j,.int c]/\RgC i j c n/\R (Itc i c n) H1
section
variable{X:Cx}{tg:Expr}
theorem Jv{a b c:Expr}{ta:TA}{p pos:Pos}(hg:Gl X "range")(hm:X.mg "range"=none)(ha:PA X [a,b,c] ta)
  (hs:starEach [a,b,c] X.env=(false,eval a X.env)::starEach [b,c] X.env:=by rfl) (hpl:(backTo pos (starEach [b,c] X.env)).any (·.1)=false:=by rfl) :
  PI X tg (.Call (.Name "range" p) [a,b,c] [] pos) (Vj ta):=by
 intro pins s Z H R I h
 refine Call_ (jx I hg hm boot_range (PyProof.Rows.callWith_type1 (thn (ha pos pins s Z H _ I h) λus s1 ⟨vs,H1,I1,r1,q1⟩=>?_) hs hpl))
 obtain⟨i,j,k,n,e,⟨c0,c1,c2,c3⟩,q⟩:=q1
 subst e
 cases r1 with
 | cons r rr=>
  cases rr with
  | cons r' rr=>
   cases rr with
   | cons r'' rr=>
    cases rr
    obtain⟨t,rfl⟩:=r
    obtain⟨t',rfl⟩:=r'
    obtain⟨t'',rfl⟩:=r''
    refine call_range_3 c0 ?_ (.inl (PyProof.noPylong_small c1))
    refine wpAny_pyIter_range (IsRange.new ..) c2 ?_
    have I2:Inv X pins Z H1 { s1 with heap:=s1.heap.push { cls:=.type "range",data:=.fields #[.int i t,.int j t',.int k t''] } }:=I1.kept (t':=s1.toks) λb o e=>Heap.get?_push_of_some _ e
    refine Th (tk:=s1.toks) I2 _ (C0 _ i k n) ?_ q
    have e1:i+((0:Nat):Int)*k=i:=by simp
    have e2:(n:Int) - ((0:Nat):Int)=Builtin.Range.rangeSize i j k:=by rw[c3];simp
    show IsRangeIter _ _ (i+((0:Nat):Int)*k) ((n:Int) - ((0:Nat):Int)) k
    rw[e1,e2]
    exact Heap.get?_push_size _ rfl
end
theorem Hh{lo c:Int}{n:Nat}{g:TG}{tb:TS}{D:Ends}{Z:St}{H:Hp}(Pv:Nat->St->Hp->Prop)(h0:Pv 0 Z H)
  (hs:∀ i Z H,i<n->Pv i Z H->g (.int (lo+(i:Nat)*c)) Z H λZ2 H2=>tb { D with nx:=Pv (i+1),ct:=Pv (i+1),bk:=D.nx } Z2 H2) (hd:∀ Z H,Pv n Z H->D.nx Z H) :
  ∃ W:Nat->Nat->St->Hp->Prop,(∃ m,W 0 m Z H)/\∀ i m Z H,W i m Z H ->
   ((Itc lo c n).stop i H/\D.nx Z H)\/((Itc lo c n).go i H/\∃ N:St->Hp->Prop,(∀ Z' H',N Z' H'->∃ m',m'<m/\W (i+1) m' Z' H')/\∀ x H',(Itc lo c n).yld i H x H'->g x Z H' λZ2 H2=>tb { D with nx:=N,ct:=N,bk:=D.nx } Z2 H2):=by
 refine⟨λi m Z H=>m=n - i/\i<=n/\Pv i Z H,⟨n,by simp,Nat.zero_le _,h0⟩,?_⟩
 rintro i m Z H ⟨rfl,hi,p⟩
 by_cases hlt:i<n
 .refine .inr ⟨hlt,Pv (i+1),λZ' H' p'=>⟨n - (i+1),by omega,rfl,hlt,p'⟩,λx H' y=>?_⟩
  obtain⟨e,y⟩:=y
  subst e y
  exact hs i Z _ hlt p
 .have e:i=n:=by omega
  subst e
  exact .inl ⟨Nat.le_refl _,hd Z H p⟩
def Ite(K:W.Frag)(a:Addr):It:=
 ⟨λi H=>∃ (xs:List V) (x:V),SqL K H a xs/\xs[i]? = some x,λi H v H'=>∃ T x,v=.ref T/\H T=none/\H'=upd H T (.tup [.int (i:Nat),x])/\∀ xs,SqL K H a xs->xs[i]? = some x,λi H=>∃ xs:List V,SqL K H a xs/\xs.length<=i⟩
theorem Ib{P:Program}{w:World}{K:W.Frag}{elts:List Expr}{kk:Nat}{tpos:Pos}(a e it:Addr) :
  Turn P w K (.Tuple elts kk tpos) (Ite K a) [e,it] e (λi h=>(∃ old,IsEnum h e it ((i:Nat):Int) old)/\h.IsListIter it a i/\e≠it) where
 mem:=by simp
 obj:=λi h st b hb=>by
  obtain⟨⟨old,he⟩,⟨o,ho,hc,hd⟩,_⟩:=st
  have e':b=e\/b=it:=by simpa using hb
  rcases e' with z|z
  .rw[z];exact⟨_,he,λv q=>nomatch q⟩
  .rw[z];exact⟨o,ho,λv q=>by rw[hd]at q;cases q⟩
 keep:=λi h h' st k=>let ⟨⟨old,he⟩,hi,hne⟩:=st;⟨⟨old,k e (by simp) _ he⟩,hi.at λo q=>k it (by simp) o q,hne⟩
 item:=by
  intro X hP hw hK hc i pins s Z H E I hf st hg
  subst hP hw hK
  obtain⟨⟨old,he⟩,hit,hne⟩:=st
  obtain⟨xs,x,hq,hx⟩:=hg
  obtain⟨its,rv,p,hz⟩:=I.list hq
  obtain⟨u,hu,ru⟩:=rv.get hx
  have hel:e<s.heap.objs.size:=Heap.lt_size he
  have hil:it<s.heap.objs.size:=by obtain⟨_,q,_⟩:=hit;exact Heap.lt_size q
  refine wpAny_pyNext_enum_item he hit p.isList (x:=u) (by simpa using hu) hne λh' ho hit' hT hsz hk=>?_
  refine⟨_,rfl,wpAny_letOwnedTupleGo_enum (s:={ s with heap:=h',toks:=s.toks+1 }) ho λh'' he' sb=>?_⟩
  have hT2:h''.get? s.heap.objs.size=some { cls:=.type "tuple",data:=.seq #[.int i s.toks,u] }:=(sb.2 _ (Nat.ne_of_gt hel)).trans hT
  have new:ga X.prog X.w (upd H s.heap.objs.size (.tup [.int (i:Nat),x])) h'' s.heap.objs.size (.tup [.int (i:Nat),x]):=
   ⟨by show 2<=sizeLine;decide,[.int i s.toks,u],.cons ⟨_,rfl⟩ (.cons ru .nil),⟨_,hT2,rfl,_,rfl⟩⟩
  have I1:Inv X pins Z (upd H s.heap.objs.size (.tup [.int (i:Nat),x])) { s with heap:=h'',toks:=s.toks+1 }:=
   I.turnedNew (ch:=[e,it]) (λb ob hb q=>(sb.2 b (λz=>hb (by simp[z]))).trans (hk b ob (λz=>hb (by simp[z])) (λz=>hb (by simp[z])) q)) hf (Nat.le_refl _) new
  refine⟨.ref s.heap.objs.size,_,I1,rfl,⟨_,x,rfl,I.hok.fresh (Nat.le_refl _),rfl,λys hy=>by rw[I.list_inj hy hq];exact hx⟩,⟨⟨u,?_⟩,hit'.at λo q=>(sb.2 it (Ne.symm hne)).trans q,hne⟩,λb hb=>?_⟩
  .have e1:((i+1:Nat):Int)=(i:Int)+1:=by omega
   rw[e1];exact he'
  .have hb':b<s.heap.objs.size:=by
    have e':b=e\/b=it:=by simpa using hb
    rcases e' with z|z
    .rw[z];exact hel
    .rw[z];exact hil
   rw[ay (Nat.ne_of_lt hb')]
   exact(hf b hb).1
 done:=by
  intro X hP hw hK hc i pins s Z H E I hf st hg
  subst hP hw hK
  obtain⟨⟨old,he⟩,hit,hne⟩:=st
  obtain⟨xs,hq,hx⟩:=hg
  obtain⟨its,rv,p,hz⟩:=I.list hq
  obtain⟨f0,f1,f2,f3,f4,f5⟩:=hf it (by simp)
  have hl:=rv.length
  exact wpAny_pyNext_enum_end (I.ok.hd hc) he hit p.isList (by simp;omega) λh' eb=>⟨rfl,I.turned (t':=s.toks) (λb o hb q=>eb b o hb q) f0 f1 f3 f4 f5⟩
 self:=λA i s Q E st h=>let ⟨⟨_,he⟩,_⟩:=st;wpAny_pyIter_enum he h
def Vl(K:W.Frag)(ta:TA):TI:=λZ H R=>ta Z H λvs H1=>∃ a xs,vs=[.ref a]/\SqL K H1 a xs/\R (Ite K a) H1
theorem z6{X:Cx}{e:Expr}{ta:TA}{p pos tpos:Pos}{elts:List Expr}{kk:Nat}(hg:Gl X "enumerate")(hm:X.mg "enumerate"=none)(ha:PA X [e] ta)(hs:starEach [e] X.env=[(false,eval e X.env)]:=by rfl) :
  PI X (.Tuple elts kk tpos) (.Call (.Name "enumerate" p) [e] [] pos) (Vl X.K ta):=by
 intro pins s Z H R I h
 refine Call_ (jx I hg hm boot_enumerate (PyProof.Rows.callWith_type1 (thn (ha pos pins s Z H _ I h) λus s1 ⟨vs,H1,I1,r1,q1⟩=>?_) hs rfl))
 obtain⟨a,xs,ex,hq,q⟩:=q1
 subst ex
 cases r1 with
 | cons r rr=>
  cases rr
  cases r
  obtain⟨its,rv,p',hz⟩:=I1.list hq
  refine call_enumerate_list p'.isList λh' he hit hsz hk=>wpAny_pyIter_enum he ?_
  have I2:Inv X pins Z H1 { s1 with heap:=h' }:=I1.kept (t':=s1.toks) hk
  refine⟨s1.heap.objs.size+1,[s1.heap.objs.size+1,s1.heap.objs.size],_,_,H1,rfl,I2,Ib a (s1.heap.objs.size+1) s1.heap.objs.size,⟨⟨.none,he⟩,hit,Nat.succ_ne_self _⟩,λb hb=>?_,q⟩
  have e':b=s1.heap.objs.size+1\/b=s1.heap.objs.size:=by simpa using hb
  have hle:s1.heap.objs.size<=b:=by
   rcases e' with z|z
   .rw[z];exact Nat.le_add_right _ _
   .rw[z];exact Nat.le_refl _
  exact I1.fpOk hle (I1.hok.fresh hle)
theorem Lr:bootBuiltins "zip"=some (.type "zip"):=by decide +kernel
def Itz(K:W.Frag)(a b:Addr):It:=
 ⟨λi H=>∃ (xs ys:List V) (x y:V),SqL K H a xs/\SqL K H b ys/\xs[i]? = some x/\ys[i]? = some y,
  λi H v H'=>∃ T x y,v=.ref T/\H T=none/\H'=upd H T (.tup [x,y])/\(∀ xs,SqL K H a xs->xs[i]? = some x)/\∀ ys,SqL K H b ys->ys[i]? = some y,
  λi H=>∃ xs ys:List V,SqL K H a xs/\SqL K H b ys/\(xs.length<=i\/ys.length<=i)⟩
theorem L6{P:Program}{w:World}{K:W.Frag}{elts:List Expr}{kk:Nat}{tpos:Pos}{a b z TI TO i1 i2:Addr}(D:ZipApart z TI TO i1 i2 a b) :
  Turn P w K (.Tuple elts kk tpos) (Itz K a b) [z,TI,TO,i1,i2] z (λi h=>IsZip h z TI TO .none/\IsPair h TI (.ref i1) (.ref i2)/\(∃ x y,IsPair h TO x y)/\h.IsListIter i1 a i/\h.IsListIter i2 b i) where
 mem:=by simp
 obj:=λi h st c hc=>by
  obtain⟨hz,hTI,⟨x,y,hTO⟩,⟨o1,e1,_,d1⟩,⟨o2,e2,_,d2⟩⟩:=st
  have e':c=z\/c=TI\/c=TO\/c=i1\/c=i2:=by simpa using hc
  rcases e' with q|q|q|q|q
  .rw[q];exact⟨_,hz,λv q=>nomatch q⟩
  .rw[q];exact⟨_,hTI,λv q=>nomatch q⟩
  .rw[q];exact⟨_,hTO,λv q=>nomatch q⟩
  .rw[q];exact⟨o1,e1,λv q=>by rw[d1]at q;cases q⟩
  .rw[q];exact⟨o2,e2,λv q=>by rw[d2]at q;cases q⟩
 keep:=λi h h' st k=>by
  obtain⟨hz,hTI,⟨x,y,hTO⟩,h1,h2⟩:=st
  exact⟨k z (by simp) _ hz,k TI (by simp) _ hTI,⟨x,y,k TO (by simp) _ hTO⟩,h1.at λo q=>k i1 (by simp) o q,h2.at λo q=>k i2 (by simp) o q⟩
 item:=by
  intro X hP hw hK hc i pins s Z H E I hf st hg
  subst hP hw hK
  obtain⟨hz,hTI,⟨x0,y0,hTO⟩,h1,h2⟩:=st
  obtain⟨xs,ys,x,y,hqx,hqy,hx,hy⟩:=hg
  obtain⟨its,rv,p,_⟩:=I.list hqx
  obtain⟨its2,rv2,p2,_⟩:=I.list hqy
  obtain⟨u,hu,ru⟩:=rv.get hx
  obtain⟨u2,hu2,ru2⟩:=rv2.get hy
  have hzl:z<s.heap.objs.size:=Heap.lt_size hz
  refine wpAny_pyNext_zip_item D hz hTI hTO h1 h2 p.isList p2.isList (x:=u) (y:=u2) (by simpa using hu) (by simpa using hu2) λh' z' TO' h1' h2' hT hsz hk=>?_
  refine⟨_,rfl,wpAny_letOwnedTupleGo_zip (s:={ s with heap:=h' }) z' λh'' z'' sb=>?_⟩
  have hT2:h''.get? s.heap.objs.size=some { cls:=.type "tuple",data:=.seq #[u,u2] }:=(sb.2 _ (Nat.ne_of_gt hzl)).trans hT
  have new:ga X.prog X.w (upd H s.heap.objs.size (.tup [x,y])) h'' s.heap.objs.size (.tup [x,y]):=
   ⟨by show 2<=sizeLine;decide,[u,u2],.cons ru (.cons ru2 .nil),⟨_,hT2,rfl,_,rfl⟩⟩
  have I1:Inv X pins Z (upd H s.heap.objs.size (.tup [x,y])) { s with heap:=h'' }:=
   I.turnedNew (t':=s.toks) (ch:=[z,TI,TO,i1,i2]) (λc o hb q=>(sb.2 c (λq'=>hb (by simp[q']))).trans (hk c o (λq'=>hb (by simp[q'])) (λq'=>hb (by simp[q'])) (λq'=>hb (by simp[q'])) (λq'=>hb (by simp[q'])) q)) hf (Nat.le_refl _) new
  refine⟨.ref s.heap.objs.size,_,I1,rfl,⟨_,x,y,rfl,I.hok.fresh (Nat.le_refl _),rfl,λl hl=>by rw[I.list_inj hl hqx];exact hx,λl hl=>by rw[I.list_inj hl hqy];exact hy⟩,⟨z'',?_,⟨u,u2,?_⟩,?_,?_⟩,λc hcm=>?_⟩
  .exact(sb.2 _ D.TIz).trans (hk _ _ D.TIz D.TITO D.TIi1 D.TIi2 hTI)
  .exact(sb.2 _ D.TOz).trans TO'
  .exact h1'.at λo q=>(sb.2 _ D.i1z).trans q
  .exact h2'.at λo q=>(sb.2 _ D.i2z).trans q
  .have hlt:c<s.heap.objs.size:=by
    have e':c=z\/c=TI\/c=TO\/c=i1\/c=i2:=by simpa using hcm
    rcases e' with q|q|q|q|q
    .rw[q];exact hzl
    .rw[q];exact Heap.lt_size hTI
    .rw[q];exact Heap.lt_size hTO
    .rw[q];obtain⟨_,e1,_⟩:=h1;exact Heap.lt_size e1
    .rw[q];obtain⟨_,e2,_⟩:=h2;exact Heap.lt_size e2
   rw[ay (Nat.ne_of_lt hlt)]
   exact(hf c hcm).1
 done:=by
  intro X hP hw hK hc i pins s Z H E I hf st hg
  subst hP hw hK
  obtain⟨hz,hTI,⟨x0,y0,hTO⟩,h1,h2⟩:=st
  obtain⟨xs,ys,hqx,hqy,hend⟩:=hg
  obtain⟨its,rv,p,_⟩:=I.list hqx
  obtain⟨its2,rv2,p2,_⟩:=I.list hqy
  have l1:=rv.length
  have l2:=rv2.length
  have he:its.toArray[i]? = none\/its2.toArray[i]? = none:=by
   rcases hend with q|q
   .exact .inl (by simp;omega)
   .exact .inr (by simp;omega)
  exact wpAny_pyNext_zip_end (I.ok.hd hc) D hz hTI hTO h1 h2 p.isList p2.isList he λh' hk=>⟨rfl,I.turnedL (t':=s.toks) (ch:=[z,TI,TO,i1,i2]) (λc o hb q=>
   hk c o (λq'=>hb (by simp[q'])) (λq'=>hb (by simp[q'])) (λq'=>hb (by simp[q'])) (λq'=>hb (by simp[q'])) q) hf⟩
 self:=λA i s Q E st h=>wpAny_pyIter_zip st.1 h
def iZip(K:W.Frag)(ta:TA):TI:=λZ H R=>ta Z H λvs H1=>∃ a b xs ys,vs=[.ref a,.ref b]/\SqL K H1 a xs/\SqL K H1 b ys/\R (Itz K a b) H1
theorem Fi{X:Cx}{e e2:Expr}{ta:TA}{p pos tpos:Pos}{elts:List Expr}{kk:Nat}(hg:Gl X "zip")(hm:X.mg "zip"=none)(ha:PA X [e,e2] ta)
  (hs:starEach [e,e2] X.env=(false,eval e X.env)::starEach [e2] X.env:=by rfl) (hpl:(backTo pos (starEach [e2] X.env)).any (·.1)=false:=by rfl) :
  PI X (.Tuple elts kk tpos) (.Call (.Name "zip" p) [e,e2] [] pos) (iZip X.K ta):=by
 intro pins s Z H R I h
 refine Call_ (jx I hg hm Lr (PyProof.Rows.callWith_type1 (thn (ha pos pins s Z H _ I h) λus s1 ⟨vs,H1,I1,r1,q1⟩=>?_) hs hpl))
 obtain⟨a,b,xs,ys,ex,hqx,hqy,q⟩:=q1
 subst ex
 cases r1 with
 | cons r rr=>
  cases rr with
  | cons r' rr=>
   cases rr
   cases r
   cases r'
   obtain⟨its,rv,p1,_⟩:=I1.list hqx
   obtain⟨its2,rv2,p2,_⟩:=I1.list hqy
   have la:a<s1.heap.objs.size:=p1.lt
   have lb:b<s1.heap.objs.size:=p2.lt
   refine call_zip_2 p1.isList p2.isList λh' hz hTI hTO h1 h2 hsz hk=>wpAny_pyIter_zip hz ?_
   have I2:Inv X pins Z H1 { s1 with heap:=h' }:=I1.kept (t':=s1.toks) hk
   refine⟨s1.heap.objs.size+4,[s1.heap.objs.size+4,s1.heap.objs.size+2,s1.heap.objs.size+3,s1.heap.objs.size,s1.heap.objs.size+1],_,_,H1,rfl,I2,L6 (W.ktu_apart s1.heap.objs.size a b la lb),⟨hz,hTI,⟨_,_,hTO⟩,h1,h2⟩,λc hcm=>?_,q⟩
   have e':c=s1.heap.objs.size+4\/c=s1.heap.objs.size+2\/c=s1.heap.objs.size+3\/c=s1.heap.objs.size\/c=s1.heap.objs.size+1:=by simpa using hcm
   have hle:s1.heap.objs.size<=c:=by
    rcases e' with z|z|z|z|z
    .rw[z];exact Nat.le_add_right _ _
    .rw[z];exact Nat.le_add_right _ _
    .rw[z];exact Nat.le_add_right _ _
    .rw[z];exact Nat.le_refl _
    .rw[z];exact Nat.le_add_right _ _
   exact I1.fpOk hle (I1.hok.fresh hle)
def ij(s:Stmt)(j:Nat):Stmt:=match s with
 | .ClassDef _ _ _ body _ _ _ _ _ _ _=>body.getD j (.Pass ⟨0,0,0,0⟩)
 | _=>.Pass ⟨0,0,0,0⟩
def gj(s:Stmt):Arguments:=match s with
 | .FunctionDef _ a _ _ _ _ _ _ _ _=>a
 | _=>{ posonlyargs:=[],args:=[],vararg:=none,kwonlyargs:=[],kw_defaults:=[],kwarg:=none,defaults:=[] }
def dt(s:Stmt):List Stmt:=match s with
 | .FunctionDef _ _ b _ _ _ _ _ _ _=>b
 | _=>[]
def au(s:Stmt):Scope:=match s with
 | .FunctionDef _ _ _ _ _ _ sc _ _ _=>sc
 | _=>{ kind:=.function,names:=[],isGenerator:=false,isCoroutine:=false }
abbrev CX0:CXT:=λ_ _ _ _ _ _=>False
abbrev E0:XK:=λ_ _ _=>False
theorem bo{X:Cx}:gn CX0 X E0:=λ_ _ _ _ _ _ _ h=>h.elim
structure Fun(K:W.Frag)(x qual:Str)(st:Stmt)(f:Addr)(fd:FuncData):Prop where
 ex:∃ (oc:Value) (od:Option Addr) (kV doc pm:Value) (an:Option Addr) (cdv ct:Value) (osl:Array (Option Value)),
  fd=W.fnOf x qual (gj st) (dt st) (au st) .none kV doc pm an cdv ct/\K.lookup f=some ⟨oc,od,.func fd,osl⟩/\W.codeIn K cdv qual=true
 kp:W.keepIn K (.ref f)=true
section
variable{P:Program}{w:World}{K:W.Frag}{mg:Str->Option Value}{base:Heap}
theorem Fun.ok{x qual:Str}{st:Stmt}{f:Addr}{fd:FuncData}{N ps:List Str}{k:Nat}{sp:Sp}(F:Fun K x qual st f fd)(S:FnScope N ps (au st))(len:∀ vs H Q E,sp vs H Q E->vs.length=ps.length)
  (hbody:∀ (cdv:Value) (A:Around) (outer:List Env) (s:Shared) (H:Hp) (vs:List V) (Q:VK) (E:XK),Room k (A.deeper (envOfC qual (au st) s.heap.objs.size f cdv))->sp vs H Q E ->
   ∃ t,PSs (cxOf CX0 P w K mg base N qual (au st) f cdv A outer s H E).nox (dt st) t/\t { nx:=λ_ H'=>Q .non H',rt:=Q } (start N vs) H):FnOk P w K mg base CX0 (k+1) f fd ps sp:=by
 obtain⟨oc,od,kV,doc,pm,an,cdv,ct,osl,rfl,lk,hcd⟩:=F.ex
 refine Sg lk hcd S len λA outer s H vs Q E hr hsp=>?_
 obtain⟨t,h,q⟩:=hbody cdv A outer s H vs Q E hr hsp
 exact⟨t,h.nox,q⟩
theorem Fun.binds{x qual:Str}{st:Stmt}{f:Addr}{fd:FuncData}{ps:List Str}(F:Fun K x qual st f fd)
  (h:∀ (kV doc pm:Value) (an:Option Addr) (cdv ct:Value) (us:List Value),us.length=ps.length->bindArgs (W.fnOf x qual (gj st) (dt st) (au st) .none kV doc pm an cdv ct) ⟨us,[]⟩=pure (ps.zip us)):jh K fd ps []:=by
 obtain⟨oc,od,kV,doc,pm,an,cdv,ct,osl,rfl,lk,hcd⟩:=F.ex
 exact .all (h kV doc pm an cdv ct)
theorem Um{x qual:Str}{st:Stmt}{f:Addr}{oc:Value}{od an:Option Addr}{osl:Array (Option Value)}{kV doc pm cdv ct:Value}(l:K.lookup f=some ⟨oc,od,.func (W.fnOf x qual (gj st) (dt st) (au st) .none kV doc pm an cdv ct),osl⟩)
  (c:W.codeIn K cdv qual=true) (k:W.keepIn K (.ref f)=true):Fun K x qual st f (W.fnOf x qual (gj st) (dt st) (au st) .none kV doc pm an cdv ct):=⟨⟨oc,od,kV,doc,pm,an,cdv,ct,osl,rfl,l,c⟩,k⟩
end
theorem Uk{A:Around}{k:Nat}(hr:Room k A):A.units+1<cLine:=Nat.lt_of_le_of_lt (Nat.add_le_add_left (by decide:1<=64) _) hr.units
section
variable{X:Cx}
theorem pv(i:Nat){x:Str}{pos:Pos}(hN:X.N[i]? = some x:=by rfl)(hv:Vis X.env.scope x:=by first|exact Or.inl rfl|exact Or.inr (Or.inl rfl)|exact Or.inr (Or.inr rfl))(hd:(x==("__debug__":Str))=false:=by decide)
  (hcd:(x==("__classdict__":Str))=false:=by decide):PE X (.Name x pos) (tVar i):=Pj hN hv hd hcd
end
theorem iteF{A B:Prop}(h:B):if false=true then A else B:=by
 rw[if_neg Bool.false_ne_true]
 exact h
theorem iteT{A B:Prop}(h:A):if true=true then A else B:=by
 rw[if_pos rfl]
 exact h
theorem ite2{c A B:Prop}[Decidable c](h1:c->A)(h2:¬ c->B):if c then A else B:=by
 by_cases h:c
 .rw[if_pos h]
  exact h1 h
 .rw[if_neg h]
  exact h2 h
def Same(H H':Hp):Prop:=∀ b o,H b=some o->H' b=some o
theorem Same.refl(H:Hp):Same H H:=λ_ _ h=>h
theorem Same.trans{H H1 H2:Hp}(a:Same H H1)(b:Same H1 H2):Same H H2:=λc o h=>b c o (a c o h)
theorem Same.free{H H':Hp}(e:Same H H'){l:Addr}(h:H' l=Option.none):H l=Option.none:=by
 cases q:H l with
 | none=>rfl
 | some o=>
  rw[e l o q]at h
  cases h
theorem Same.seq{K:W.Frag}{H H':Hp}{a:Addr}{xs:List V}(e:Same H H')(h:SqL K H a xs):SqL K H' a xs:=by
 rcases h with (h|⟨o,h⟩)|h
 .exact .inl (.inl (e _ _ h))
 .exact .inl (.inr ⟨o,e _ _ h⟩)
 .exact .inr h
theorem ck{xs:List V}{z:Int}{j:Nat}{v:V}(e:z=(j:Int))(h:xs[j]? = some v):atI xs z=some v:=by
 rw[e]
 exact Su h
theorem Vi{α:Type}{l:List α}(hN:l.Nodup){i j:Nat}{x:α}(a:l[i]? = some x)(b:l[j]? = some x):i=j:=by
 obtain⟨h1,e1⟩:=List.getElem?_eq_some_iff.mp a
 obtain⟨h2,e2⟩:=List.getElem?_eq_some_iff.mp b
 exact(List.getElem_inj hN).mp (e1.trans e2.symm)
theorem HOk.some_at{P:Program}{w:World}{H:Hp}{h:Heap}(x:HOk P w H h):∀ {b:Addr} {u:HO},H b=some u->∃ o,h.get? b=some o:=by
 intro b u q
 have y:=x b u q
 cases u with
 | lst xs=>obtain⟨_,_,_,_,e⟩:=y;exact⟨_,e⟩
 | tup xs=>obtain⟨_,_,_,o,e,_⟩:=y;exact⟨_,e⟩
 | dK kvs=>obtain⟨_,_,_,_,o,_,_,e,_⟩:=y;exact⟨_,e⟩
 | dT kvs=>obtain⟨_,_,_,_,o,_,_,e,_⟩:=y;exact⟨_,e⟩
 | set S n=>obtain⟨o,_,_,_,e,_⟩:=y;exact⟨_,e⟩
 | ins C dx fs=>obtain⟨_,_,_,e,_⟩:=y;exact⟨_,e⟩
 | own z=>exact y
 | xd fs=>obtain⟨_,⟨_,_,_,e,_⟩,_⟩:=y;exact⟨_,e⟩
 | rng lo hi=>obtain⟨_,_,_,e⟩:=y;exact⟨_,e⟩
 | frz ob v=>exact⟨_,y.1⟩
 | tbl ps=>exact⟨_,y⟩
 | met f z=>exact⟨_,y⟩
 | ext f=>obtain⟨_,e,_⟩:=y;exact e
def CXE(P:Program)(w:World):CXT:=λouter H s E e s' =>
 ∃ (a:Addr) (cls a0:Value) (H':Hp) (B:Heap),e=.ref a/\s'.os=s.os/\AllBare s'.gens/\Un (frs outer) [] H H' s.heap s'.heap/\HOk P w H' s'.heap /\
  Heap.FlyingW B outer a cls a0 s'.heap/\(∀ b o,s'.heap.get? b=some o->b ∉ frs outer->((∃ o0,s.heap.get? b=some o0)\/∃ u,H' b=some u)->B.get? b=some o)/\E cls none H'
section
variable{X:Cx}{pins:List (Addr×Obj)}{Z:St}{H:Hp}{s:Shared}{h':Heap}
theorem Inv.onward(I:Inv X pins Z H s)(hst:X.stack=X.env::X.outer)(hfr:X.env.frame=some X.env.locals)
  (cover:∀ b o,s.heap.get? b=some o->b ∉ frs X.stack->((∃ o0,X.s_0.heap.get? b=some o0)\/∃ u,H b=some u)->h'.get? b=some o) (sm:s.heap.UpToSlots h') :
  Un X.fs X.ex X.H_0 H X.s_0.heap h'/\HOk X.prog X.w H h':=by
 have hin:∀ b,b∈frs X.stack->b=X.env.locals\/b∈X.fs:=λb hb=>by
  rw[hst]at hb
  unfold frs at hb
  rw[List.filterMap_cons,hfr]at hb
  rcases List.mem_cons.mp hb with e|e
  .exact .inl e
  .exact .inr e
 have old:∀ b o,X.s_0.heap.get? b=some o->b≠X.env.locals:=λb o e q=>by
  have h1:=Heap.lt_size e
  have h2:=I.ok.above
  rw[q]at h1
  exact absurd h1 (Nat.not_lt.mpr h2)
 have trk:∀ b u,H b=some u->b ∉ frs X.stack:=λb u e q=>by
  rw[I.stkFree b q]at e
  cases e
 have fsn:∀ b,b∈X.fs->∃ o,s.heap.get? b=some o/\∀ vs,o.data≠.fields vs:=λb hb=>by
  have q:b∈frs X.stack:=by
   rw[hst]
   unfold frs
   rw[List.filterMap_cons,hfr]
   exact List.mem_cons_of_mem _ hb
  exact(I.stack.mem q).2
 refine⟨⟨λb o e n hb hx=>?_,λb o e n hb hx=>?_,I.base.free,λb o e hx=>?_,I.base.tups,I.base.frzs,I.base.tbls⟩,λb u q=>?_⟩
 .have e1:=I.base.keep b o e n hb hx
  exact cover b o e1 (λq=>(hin b q).elim (old b o e) hb) (.inl ⟨_,e⟩)
 .obtain⟨sl,e1⟩:=I.base.slot b o e n hb hx
  obtain⟨o',e2,nf⟩:=fsn b hb
  rw[e1]at e2
  cases e2
  obtain⟨sl',e3⟩:=sm b _ e1 nf
  exact⟨sl',e3⟩
 .obtain⟨o',e1⟩:=I.base.there b o e hx
  by_cases hb:b∈frs X.stack
  .rcases hin b hb with q|q
   .exact absurd q (old b o e)
   .obtain⟨o2,e2,nf⟩:=fsn b q
    obtain⟨sl,e3⟩:=sm b o2 e2 nf
    exact⟨_,e3⟩
  .exact⟨o',cover b o' e1 hb (.inl ⟨_,e⟩)⟩
 .exact(I.hok b u q).stay (λc v hc r=>cover c v r (hc.elim (λz=>by rw[z];exact trk b u q) (λz=>trk c _ z)) (.inr (hc.elim (λz=>⟨u,by rw[z];exact q⟩) λz=>⟨_,z⟩))) (λ_ z=>z) λ_ _ z=>z
end
section
variable{X:Cx}{pins:List (Addr×Obj)}{Z:St}{H:Hp}{s:Shared}{M:Model}{A:Around}{E2:Value->Shared->Prop}
theorem Inv.leave_on{E:XK}{e:Value}{s':Shared}(I:Inv X pins Z H s)(hst:X.stack=X.env::X.outer)(hfr:X.env.frame=some X.env.locals)(hex:X.ex=[])(hA:A.frames=some X.stack)
  (x:CXE X.prog X.w X.stack H s E e s'):wpAny M A (leaving X.env e) (λ_ s2=>CXE X.prog X.w X.outer X.H_0 X.s_0 E e s2) E2 s':=by
 obtain⟨a,cls,a0,H',B,rfl,os,bare,un,hok,fl,cov,hE⟩:=x
 have I':Inv X pins Z H' s':=I.call' os un hok bare λb z=>absurd z (by simp)
 have fl':Heap.FlyingW B (X.env::X.outer) a cls a0 s'.heap:=by rw[<- hst];exact fl
 have oldS:∀ b o,X.s_0.heap.get? b=some o->∃ o0,s.heap.get? b=some o0:=λb o q=>I.base.there b o q (by rw[hex];simp)
 refine wpAny_leaves_onW (by rw[hA,hst]) hfr fl' λh2 fl2 sm=>?_
 have kB:=fl2.1
 obtain⟨u2,ok2⟩:=I'.onward (h':=h2) hst hfr (λb o q hb hd=>kB b o (cov b o q hb (hd.imp (λ⟨o0,z⟩=>oldS b o0 z) id))) sm
 refine⟨a,cls,a0,H',B,rfl,I'.os,I'.bare,(by rw[hex]at u2;exact u2),ok2,fl2,λb o q hb hd=>?_,hE⟩
 have hb2:b ∉ frs X.stack:=λz=>by
  rw[hst]at z
  unfold frs at z
  rw[List.filterMap_cons,hfr]at z
  rcases List.mem_cons.mp z with e|e
  .rcases hd with ⟨o0,q0⟩|⟨v,q0⟩
   .have h1:=Heap.lt_size q0
    have h2:=I.ok.above
    rw[e]at h1
    exact absurd h1 (Nat.not_lt.mpr h2)
   .rw[e,I'.free]at q0
    cases q0
  .exact hb e
 obtain⟨o1,q1⟩:∃ o1,s'.heap.get? b=some o1:=by
  rcases hd with ⟨o0,q0⟩|⟨v,q0⟩
  .exact I'.base.there b o0 q0 (by rw[hex];simp)
  .exact hok.some_at q0
 have q2:=cov b o1 q1 hb2 (hd.imp (λ⟨o0,z⟩=>oldS b o0 z) id)
 have q3:=kB b o1 q2
 have q':h2.get? b=some o:=q
 rw[q']at q3
 cases q3
 exact q2
theorem Inv.leave_made{E:XK}{a:Addr}{cls:Value}{h1:Heap}(I:Inv X pins Z H s)(hst:X.stack=X.env::X.outer)(hfr:X.env.frame=some X.env.locals)(hex:X.ex=[])(hA:A.frames=some X.stack)
  (hx:Heap.MadeExcOf s.heap h1 a cls []) (hE:E cls none H):wpAny M A (leaving X.env (.ref a)) (λ_ s2=>CXE X.prog X.w X.outer X.H_0 X.s_0 E (.ref a) s2) E2 { s with heap:=h1 }:=by
 have hin:∀ env∈X.stack,∀ b,env.frame=some b->b∈frs X.stack:=λenv he b hb=>List.mem_filterMap.mpr ⟨env,he,hb⟩
 have ff:s.heap.FunFrames (W.hideAll s.heap (frs X.stack)) (X.env::X.outer):=by
  rw[<- hst]
  exact W.funFrames_hide I.stack hin
 refine wpAny_leaves_madeW (base:=W.hideAll s.heap (frs X.stack)) (h:=s.heap) (by rw[hA,hst]) hfr (λb o q=>W.of_hideAll _ q) ff hx λh2 t fl tup tn sm=>?_
 have kB:=fl.1
 have sm2:s.heap.UpToSlots h2:=(Heap.UpToSlots.of_keeps hx.keeps).trans sm
 obtain⟨u2,ok2⟩:=I.onward (h':=h2) hst hfr (λb o q hb _=>kB b o (W.hideAll_get _ q hb)) sm2
 refine⟨a,cls,_,H,_,rfl,I.os,I.bare,(by rw[hex]at u2;exact u2),ok2,fl,λb o q hb hd=>?_,hE⟩
 have hb2:b ∉ frs X.stack:=λz=>by
  rw[hst]at z
  unfold frs at z
  rw[List.filterMap_cons,hfr]at z
  rcases List.mem_cons.mp z with e|e
  .rcases hd with ⟨o0,q0⟩|⟨v,q0⟩
   .have h1:=Heap.lt_size q0
    have h2:=I.ok.above
    rw[e]at h1
    exact absurd h1 (Nat.not_lt.mpr h2)
   .rw[e,I.free]at q0
    cases q0
  .exact hb e
 obtain⟨o1,q1⟩:∃ o1,s.heap.get? b=some o1:=by
  rcases hd with ⟨o0,q0⟩|⟨v,q0⟩
  .exact I.base.there b o0 q0 (by rw[hex];simp)
  .exact I.hok.some_at q0
 have q2:=W.hideAll_get _ q1 hb2
 have q3:=kB b o1 q2
 have q':h2.get? b=some o:=q
 rw[q']at q3
 cases q3
 exact q2
end
def U0(X:Cx)(E:XK):Prop:=∀ (pins:List (Addr×Obj)) (Z:St) (H:Hp) (s:Shared) (a C:Addr) (h':Heap),Inv X pins Z H s->Heap.MadeExcOf s.heap h' a (.ref C) []->E (.ref C) none H->X.xe (.ref a) { s with heap:=h' }
theorem Dx{K:W.Frag}{h:Heap}{mg:Str->Option Value}{x:Str}{C:Addr}{bmB:List Value}{newId:String}(KX:K.In h)(hm:mg x=some (.ref C))(q:W.excIn K C bmB newId=true):OwnCls x C bmB newId mg h:=by
 refine⟨hm,?_⟩
 unfold W.excIn at q
 split at q
 .next dd cd sl look=>
  split at q
  .next C2 tl k0 k1 k2 k3 id k5 hmro hsl=>
   obtain⟨nm,bs,mro,ns,qn,hd,sn,sub,ab,col,del⟩:=cd
   obtain⟨arr⟩:=sl
   simp only[Bool.and_eq_true,beq_iff_eq,Bool.not_eq_true']at q
   obtain⟨⟨⟨⟨⟨c1,c2⟩,c3⟩,c4⟩,c5⟩,c6⟩:=q
   dsimp only at hmro hsl c3 c5 c6
   subst c1 c2 hmro c3 hsl
   exact⟨tl,ns,nm,qn,bs,hd,sn,sub,ab,col,dd,k0,k1,k2,k3,k5,_,KX _ _ look,Heap.Ns.of_isNs (W.isNs_of_in KX c5),W.nsMap_none_of_in KX c5 c6,W.tail_of_in KX c4⟩
  .cases q
 .cases q
def S4(E:XK)(C:Addr):TS:=λ_ _ H=>E (.ref C) none H
theorem cn{X:Cx}{E:XK}{x:Str}{C:Addr}{np cpos pos:Pos}(mk:U0 X E)(hc:X.calm=true)(hg:Gl X x)(hm:X.mg x=some (.ref C))(ex:W.excIn X.K C [.type "Exception",.type "BaseException",.type "object"] "Exception.__new__"=true)(hd:(x==("__debug__":Str))=false:=by decide) :
  PS X (.Raise (some (.Call (.Name x np) [] [] cpos)) none pos) (S4 E C):=by
 intro pins s Z H D I q
 have O:OwnCls x C _ _ X.mg s.heap:=Dx I.kIn hm ex
 obtain⟨tl,N,nm,qn,bs,hdct,sn,sub,ab,col,dd,k0,k1,k2,k3,k5,mN,hC,hN,hni,T⟩:=O.obj
 refine wpAny_Raise_call_subT (C:=C) (nm:=nm) (q:=qn) (N:=N) (bs:=bs) (bm:=tl) (hdct:=hdct) (sn:=sn) (sub:=sub) (ab:=ab) (col:=col) (dd:=dd) (k0:=k0) (k1:=k1) (k2:=k2) (k3:=k3) (k5:=k5) (newId:="Exception.__new__")
  PySem.F.excBase_Exception (mN:=mN) (T.hasType PySem.F.excBase_Exception.hasBase) (I.ok.hd hc) rfl hni (ot I hg hm ⟨rfl,?_⟩ hd)
 exact evalArgs_empty ⟨rfl,Nat.zero_le _,hC,hN,T,λh' e hx=>mk pins Z H s e C h' I hx q⟩
section
variable{P:Program}{w:World}{K:W.Frag}{mg:Str->Option Value}{base:Heap}{N:List Str}{qual:Str}{scope:Scope}{f:Addr}{cdv:Value}{A:Around}{outer:List Env}{s:Shared}{H:Hp}{E:XK}
theorem cz:U0 (cxOf (CXE P w) P w K mg base N qual scope f cdv A outer s H E) E:=λ_ _ _ _ _ _ _ I hx q=>I.leave_made rfl rfl rfl I.ok.frames hx q
theorem bw:gn (CXE P w) (cxOf (CXE P w) P w K mg base N qual scope f cdv A outer s H E) E:=λ_ _ _ _ _ _ I x=>I.leave_on rfl rfl rfl I.ok.frames x
theorem m9:PassesOwn (model P w) (cxOf (CXE P w) P w K mg base N qual scope f cdv A outer s H E).A (cxOf (CXE P w) P w K mg base N qual scope f cdv A outer s H E).env (cxOf (CXE P w) P w K mg base N qual scope f cdv A outer s H E).xe:=
 PassesOwn.leaving (Q₁:=λe s2=>CXE P w outer H s E e s2)
theorem Fun.okE{x qual:Str}{st:Stmt}{f:Addr}{fd:FuncData}{N ps:List Str}{k:Nat}{sp:Sp}(F:Fun K x qual st f fd)(S:FnScope N ps (au st))(len:∀ vs H Q E,sp vs H Q E->vs.length=ps.length)
  (hbody:∀ (cdv:Value) (A:Around) (outer:List Env) (s:Shared) (H:Hp) (vs:List V) (Q:VK) (E:XK),Room k (A.deeper (envOfC qual (au st) s.heap.objs.size f cdv))->sp vs H Q E ->
   ∃ t,PSs (cxOf (CXE P w) P w K mg base N qual (au st) f cdv A outer s H E) (dt st) t/\t { nx:=λ_ H'=>Q .non H',rt:=Q } (start N vs) H):FnOk P w K mg base (CXE P w) (k+1) f fd ps sp:=by
 obtain⟨oc,od,kV,doc,pm,an,cdv,ct,osl,rfl,lk,hcd⟩:=F.ex
 exact Sg lk hcd S len λA outer s H vs Q E hr hsp=>hbody cdv A outer s H vs Q E hr hsp
end
theorem UpToSlots.cell{h h':Heap}(x:h.UpToSlots h'){c:Addr}{v:Option Value}(q:h.IsCell c v):h'.IsCell c v:=by
 obtain⟨o,e,d⟩:=q
 obtain⟨sl,e2⟩:=x c o e λvs z=>by rw[d]at z;cases z
 exact⟨_,e2,d⟩
abbrev Cx.tried(X:Cx)(pn:List (Addr×Obj))(xe:Value->Shared->Prop):Cx:={ X with pn:=pn,xe:=xe }
abbrev Cx.suite(X:Cx)(e:Addr):Cx:={ X with A:=X.A.mark (some (.ref e)),calm:=false,xe:=λ_ _=>False }
section
variable{X:Cx}{pins pins':List (Addr×Obj)}{Z:St}{H:Hp}{s:Shared}{xe:Value->Shared->Prop}
theorem Inv.tried (I : Inv X pins Z H s) (xe : Value -> Shared -> Prop) : Inv (X.tried (X.pn ++ pins) xe) [] Z H s :=
  ⟨⟨I.ok.mod, I.ok.kind, I.ok.glob, I.ok.blt, I.ok.above, I.ok.inj, I.ok.has, I.ok.cab, I.ok.hd, I.ok.frames, I.ok.stk, I.ok.exf, I.ok.bs, I.ok.bsz, I.ok.noex, I.ok.exfs, I.ok.funs, I.ok.frf⟩, I.os, I.bare, I.base, I.loc, I.cell, I.free, I.freeC,
    λp hp => I.pin p (by simpa using hp), I.hok, I.len⟩
theorem Inv.untried (I : Inv (X.tried (X.pn ++ pins) xe) pins' Z H s) : Inv X pins Z H s :=
  ⟨⟨I.ok.mod, I.ok.kind, I.ok.glob, I.ok.blt, I.ok.above, I.ok.inj, I.ok.has, I.ok.cab, I.ok.hd, I.ok.frames, I.ok.stk, I.ok.exf, I.ok.bs, I.ok.bsz, I.ok.noex, I.ok.exfs, I.ok.funs, I.ok.frf⟩, I.os, I.bare, I.base, I.loc, I.cell, I.free, I.freeC,
    λp hp => I.pin p (List.mem_append.mpr (.inl hp)), I.hok, I.len⟩
theorem SP.untried{D:Ends}{f:Flow}{s':Shared}(h:SP (X.tried (X.pn++pins) xe) pins' D f s'):SP X pins D f s':=by
 cases f with
 | next=>obtain⟨Z',H',I,q⟩:=h;exact⟨Z',H',I.untried,q⟩
 | brk=>obtain⟨Z',H',I,q⟩:=h;exact⟨Z',H',I.untried,q⟩
 | cont=>obtain⟨Z',H',I,q⟩:=h;exact⟨Z',H',I.untried,q⟩
 | ret u=>obtain⟨v,Z',H',I,r,q⟩:=h;exact⟨v,Z',H',I.untried,r,q⟩
theorem Inv.suite(I:Inv X pins Z H s)(e:Addr):Inv (X.suite e) pins Z H s:=
 ⟨⟨I.ok.mod,I.ok.kind,I.ok.glob,I.ok.blt,I.ok.above,I.ok.inj,I.ok.has,I.ok.cab,(λz=>Bool.noConfusion z),I.ok.frames,I.ok.stk,I.ok.exf,I.ok.bs,I.ok.bsz,I.ok.noex,I.ok.exfs,I.ok.funs,I.ok.frf⟩,I.os,I.bare,I.base,I.loc,I.cell,I.free,I.freeC,I.pin,I.hok,I.len⟩
theorem Inv.unsuite{A0:Around}{c0:Bool}(hX:X.Ok){e:Addr}(I:Inv (X.suite e) pins Z H s):Inv X pins Z H s:=
 ⟨hX,I.os,I.bare,I.base,I.loc,I.cell,I.free,I.freeC,I.pin,I.hok,I.len⟩
theorem SP.unsuite(hX:X.Ok){e:Addr}{D:Ends}{f:Flow}{s':Shared}(h:SP (X.suite e) pins D f s'):SP X pins D f s':=by
 cases f with
 | next=>obtain⟨Z',H',I,q⟩:=h;exact⟨Z',H',I.unsuite (A0:=X.A) (c0:=true) hX,q⟩
 | brk=>obtain⟨Z',H',I,q⟩:=h;exact⟨Z',H',I.unsuite (A0:=X.A) (c0:=true) hX,q⟩
 | cont=>obtain⟨Z',H',I,q⟩:=h;exact⟨Z',H',I.unsuite (A0:=X.A) (c0:=true) hX,q⟩
 | ret u=>obtain⟨v,Z',H',I,r,q⟩:=h;exact⟨v,Z',H',I.unsuite (A0:=X.A) (c0:=true) hX,r,q⟩
theorem Inv.caught{H1:Hp}{s1:Shared}{B:Heap}(hst:X.stack=X.env::X.outer)(hfr:X.env.frame=some X.env.locals)(hex:X.ex=[])(I1:Inv X pins Z H1 s1)(I:Inv X pins Z H s)
  (cov:∀ b o,s.heap.get? b=some o->b ∉ frs X.stack->((∃ o0,s1.heap.get? b=some o0)\/∃ u,H b=some u)->B.get? b=some o) {h':Heap} (kB:B.StaysIn h') (sm:s.heap.UpToSlots h') :
  Inv X pins Z H { s with heap:=h' }:=by
 have oldS:∀ b o,X.s_0.heap.get? b=some o->∃ o0,s1.heap.get? b=some o0:=λb o q=>I1.base.there b o q (by rw[hex];simp)
 obtain⟨u2,ok2⟩:=I.onward (h':=h') hst hfr (λb o q hb hd=>kB b o (cov b o q hb (hd.imp (λ⟨o0,z⟩=>oldS b o0 z) id))) sm
 refine⟨I.ok,I.os,I.bare,u2,?_,λx c q=>?_,I.free,I.freeC,λp hp=>?_,ok2,I.len⟩
 .obtain⟨m,hn,hl⟩:=I.loc
  refine⟨m,sm.ns hn,λi x v h1 h2 h3=>?_⟩
  obtain⟨u,r,l⟩:=hl i x v h1 h2 h3
  refine⟨u,r,l.imp id λ⟨hk,c,hc,hcell⟩=>⟨hk,c,hc,UpToSlots.cell sm hcell⟩⟩
 .obtain⟨v,q2⟩:=I.cell x c q
  exact⟨v,UpToSlots.cell sm q2⟩
 .obtain⟨p1,p2,p3,p4,p5⟩:=I.pin p hp
  refine⟨kB _ _ (cov _ _ p1 (λz=>?_) (.inl ⟨_,(I1.pin p hp).1⟩)),p2,p3,p4,p5⟩
  rw[hst]at z
  unfold frs at z
  rw[List.filterMap_cons,hfr]at z
  rcases List.mem_cons.mp z with e|e
  .exact p3 e
  .exact p4 e
end
def PH(X:Cx)(hs:List ExceptHandler)(th:Value->TS):Prop:=
 ∀ (pins:List (Addr×Obj)) (s:Shared) (Z:St) (H:Hp) (D:Ends) (e:Addr) (cls a0:Value) (B:Heap),(∀ h',B.StaysIn h'->s.heap.UpToSlots h'->Inv X pins Z H { s with heap:=h' })->Heap.FlyingW B X.stack e cls a0 s.heap->th cls D Z H ->
  wpAny (model X.prog X.w) X.A (handleBy (.ref e) X.env hs) (SP X pins D) X.xe s
def tTry(tb:XK->TS)(th:Value->TS):TS:=λD Z H=>tb (λcls _ H'=>∀ Z',th cls D Z' H') D Z H
theorem Tf{X:Cx}{body:List Stmt}{h0:ExceptHandler}{hs:List ExceptHandler}{pos:Pos}{tb:XK->TS}{th:Value->TS}(hst:X.stack=X.env::X.outer)(hfr:X.env.frame=some X.env.locals)(hex:X.ex=[])
  (hb:∀ pn xe E,gn (CXE X.prog X.w) (X.tried pn xe) E->PSs (X.tried pn xe) body (tb E)) (hh:PH X (h0::hs) th):PS X (.Try body (h0::hs) [] [] pos) (tTry tb th):=by
 intro pins s Z H D I q
 refine wpAny_Try_except ?_
 refine thn (hb (X.pn++pins) _ _ (λpins' Z' H1 s1 e s' I1 x=>?_) [] s Z H D (I.tried _) q) λfl s' z=>?_
 .obtain⟨a,cls,a0,H',B,rfl,os,bare,un,hok,fl,cov,hE⟩:=x
  have I2:Inv X pins Z' H' s':=(I1.call' os un hok bare λb z=>absurd z (by simp)).untried
  have J:∀ h',B.StaysIn h'->s'.heap.UpToSlots h'->Inv X pins Z' H' { s' with heap:=h' }:=λh' kB sm=>Inv.caught hst hfr hex I1.untried I2 cov kB sm
  have fl':Heap.FlyingW B (X.env::X.outer) a cls a0 s'.heap:=by rw[<- hst];exact fl
  refine wpAny_looks_onW (by rw[I.ok.frames,hst]) hfr fl' λh4 held sm4=>?_
  refine wpAny_landsW held λh5 fl5 sm5=>?_
  refine hh pins { s' with heap:=h5 } Z' H' D a cls a0 B (λh' kB sm=>J h' kB ((sm4.trans sm5).trans sm)) (by rw[hst];exact fl5) (hE Z')
 .have z':=SP.untried z
  cases fl with
  | next=>exact wpAny_execs_nil z'
  | brk=>exact z'
  | cont=>exact z'
  | ret u=>exact z'
def mroIn(K:W.Frag)(C:Addr):Bool:=match K.lookup C with
 | some ⟨_,_,.cls cd,_⟩=>cd.mro==[.ref C,.type "Exception",.type "BaseException",.type "object"]
 | _=>false
structure Err(K:W.Frag)(mg:Str->Option Value)(x:Str)(C:Addr):Prop where
 mg:mg x=some (.ref C)
 ex:W.excIn K C [.type "Exception",.type "BaseException",.type "object"] "Exception.__new__"=true
 mro:mroIn K C=true
theorem Ua{K:W.Frag}{h:Heap}{C:Addr}{o:Obj}{cd:ClassData}(KX:K.In h)(q:mroIn K C=true)(e:h.get? C=some o)(hd:o.data=.cls cd):cd.mro=[.ref C,.type "Exception",.type "BaseException",.type "object"]:=by
 unfold mroIn at q
 split at q
 .next c1 d1 cd2 sl look=>
  have e2:=KX _ _ look
  rw[e]at e2
  cases e2
  cases hd
  exact beq_iff_eq.mp q
 .cases q
section
variable{M:Model}{A:Around}{E:Value->Shared->Prop}
theorem qp{nm q nm' q':Str}{C N C' N':Addr}{bs bm bs' bm':List Value}{hdct hdct':Bool}{sn sn':List Str}{sub sub':List Value}{ab ab':Bool}{col col':Option Bool}{dd dd':Option Addr}{k0 k1 k2 k3 k5 l0 l1 l2 l3 l5:Option Value}{newId newId':String}
  {h:Heap} {g:Array GenState} {d:Drawn} {t:Nat} {os:OsState} {e:Addr} {oe:Obj} {Q:Bool->Shared->Prop}
  (hC:h.get? C=some (excClassObj nm q C N bs bm hdct sn sub ab col dd k0 k1 k2 k3 k5 newId)) (hC':h.get? C'=some (excClassObj nm' q' C' N' bs' bm' hdct' sn' sub' ab' col' dd' l0 l1 l2 l3 l5 newId'))
  (he:h.get? e=some oe) (hcls:oe.cls=.ref C') (hbase:bm.contains (.type "BaseException")=true) (hno:(Value.ref C'::bm').contains (.ref C)=false)
  (hq:Q false ⟨h,g,d,t,os⟩):wpAny M A (excMatches (.ref e) (.ref C)) Q E ⟨h,g,d,t,os⟩:=by
 have hcB:(Value.ref C::bm).contains (.type "BaseException")=true:=by rw[List.contains_cons,hbase,Bool.or_true]
 have f:=tc_notTuple
 unfold excMatches
 repeat (first
  | (with_reducible refine wpAny_loadPart_at he ?_;rw[hcls])
  | with_reducible refine wpAny_loadPart_at hC ?_
  | (with_reducible refine wpAny_isSubtype_exc hC ?_;rw[hcB])
  | (with_reducible refine wpAny_isSubtype_exc hC' ?_;rw[hno])
  | wp_step)
 exact hq
end
def U4(C:Addr)(K:W.Frag)(mg:Str->Option Value)(ts:TS)(th:Value->TS):Value->TS:=λcls D Z H=>(cls=.ref C/\ts D Z H)\/∃ x' C',cls=.ref C'/\C'≠C/\Err K mg x' C'/\th cls D Z H
theorem jr{X:Cx}{x:Str}{C:Addr}{np pos:Pos}{b0:Stmt}{suite:List Stmt}{rest:List ExceptHandler}{ts:TS}{th:Value->TS}(hg:Gl X x)(er:Err X.K X.mg x C)(hsu:∀ e,PSs (X.suite e) (b0::suite) ts)(hr:PH X rest th)(hst:X.stack=X.env::X.outer)(hd:(x==("__debug__":Str))=false:=by decide) :
  PH X (.ExceptHandler (some (.Name x np)) none (b0::suite) pos::rest) (U4 C X.K X.mg ts th):=by
 intro pins s Z H D e cls a0 B J fl q
 have I:Inv X pins Z H s:=J s.heap fl.1 (.refl _)
 obtain⟨ob,hob,hobc⟩:=fl.there
 obtain⟨tl,N,nm,qn,bs,hdct,sn,sub,ab,col,dd,k0,k1,k2,k3,k5,mN,hC,hN,hni,T⟩:=(Dx I.kIn er.mg er.ex).obj
 have hbase:tl.contains (.type "BaseException")=true:=T.hasType (by decide +kernel)
 refine wpAny_handleBy_cons (codeAny_handlers_test (ot (I.suite e) hg er.mg ?_ hd)) (by intro z;cases z)
 rcases q with ⟨rfl,q⟩|⟨x',C',rfl,hne,er',q⟩
 .refine wpAny_excMatches_sub_self hC hob hobc hbase (codeAny_handlers_suite ?_)
  refine lands_againW fl λh6 fl6 sm6=>?_
  have I6:=(J h6 fl6.1 sm6).suite e
  exact wpAny_mono (hsu e pins _ Z H D I6 q) (λf s2 z=>SP.unsuite I.ok z) λ_ _ z=>False.elim z
 .obtain⟨tl',N',nm',qn',bs',hdct',sn',sub',ab',col',dd',l0,l1,l2,l3,l5,mN',hC',_,_,_⟩:=(Dx I.kIn er'.mg er'.ex).obj
  have hm:=Ua I.kIn er'.mro hC' rfl
  have hm':Value.ref C'::tl'=[.ref C',.type "Exception",.type "BaseException",.type "object"]:=hm
  refine qp hC hC' hob hobc hbase (by rw[hm'];simp[hne.symm]) ?_
  exact hr pins s Z H D e _ a0 B J fl q
theorem Ti{X:Cx}:PH X [] (λ_ _ _ _=>False):=λ_ _ _ _ _ _ _ _ _ _ _ q=>False.elim q
def Sz(n:Nat)(i:Int):Prop:=i.natAbs<2 ^ n
theorem Sz.bits{n:Nat}{i:Int}(h:Sz n i):Builtin.Int.intBits i<=n:=by
 unfold Builtin.Int.intBits
 split
 .exact Nat.zero_le _
 .next hne=>
  have h0:i.natAbs≠0:=λz=>hne (by rw[Int.natAbs_eq_zero.mp z];rfl)
  have:=(Nat.log2_lt h0).mpr h
  omega
theorem Sz.mono{m n:Nat}{i:Int}(h:Sz m i)(hmn:m<=n):Sz n i:=Nat.lt_of_lt_of_le h (Nat.pow_le_pow_right (by decide) hmn)
def Sw(i j:Int):Prop:=Sz 8000000 i/\Sz 8000000 j
theorem Sw.ok{i j:Int}(h:Sw i j):IntMulOk i j:=PyProof.Rows.mulOk_of_bits h.1.bits h.2.bits (by decide)
section
variable{X:Cx}
theorem t8:OpR X (binaryOp .Mult) (rI Sw λi j=>.int (i*j)):=opI λ_ _ _ _ _ _ _ hc q=>mul_int q hc.ok
structure Calm0(P:Program)(base:Heap):Prop where
 seer:base.NoSeer
 tree:P.given.tree=none
theorem jb(c0:Calm0 X.prog X.base)(hr:Room 40 X.A)(hst:X.stack=X.env::X.outer)(hgen:X.env.scope.isGenerator=false)(hco:X.env.scope.isCoroutine=false):OpR X (binaryOp .FloorDiv) (rI (λ_ j=>j≠0) λi j=>.int (i.fdiv j)):=by
 intro pins s Z H x y v u Q I rx ry h
 obtain⟨i,j,rfl,rfl,hc,q⟩:=h
 obtain⟨t,rfl⟩:=rx
 obtain⟨t',rfl⟩:=ry
 have hd:X.A.depth+Builtin.pylongFrames<recursionLimit:=by
  have:=hr.dp
  show X.A.depth+100<_
  omega
 exact floordiv_int hc ⟨.int (i.fdiv j),H,I.tok _,⟨_,rfl⟩,q⟩ (.inr (PylongRoom.of I.nolimit hd (SeerAt.of (c0.seer.keeps I.bk) c0.tree (by rw[I.ok.frames,hst]) hgen hco I.ok.blt I.ok.glob)))
theorem Kj:MtR X "int.bit_length" (λx xs H Q=>∃ i,x=.int i/\xs=[]/\Q (.int (Builtin.Int.intBits i)) H):=by
 intro pins s Z H x xs v us Q I rx rs h
 obtain⟨i,rfl,rfl,q⟩:=h
 obtain⟨t,rfl⟩:=rx
 cases rs
 exact PyProof.Rows.call_int_bit_length ⟨.int _,H,I.tok _,⟨_,rfl⟩,q⟩
end
def Df(K:W.Frag)(mg:Str->Option Value)(x:Str)(st:Stmt)(ps:List Str):Prop:=∃ f fd,Fun K x x st f fd/\mg x=some (.ref f)/\jh K fd ps []
def Fn(P:Program)(w:World)(K:W.Frag)(mg:Str->Option Value)(base:Heap)(CX:CXT)(k:Nat)(x:Str)(ps:List Str)(sp:Sp):Prop:=
 ∃ f fd,FnOk P w K mg base CX k f fd ps sp/\mg x=some (.ref f)/\W.keepIn K (.ref f)=true/\jh K fd ps []
section
variable{P:Program}{w:World}{K:W.Frag}{mg:Str->Option Value}{base:Heap}{x:Str}{st:Stmt}{N ps:List Str}{k:Nat}{sp:Sp}
theorem Df.ok(D:Df K mg x st ps)(S:FnScope N ps (au st))(len:∀ vs H Q E,sp vs H Q E->vs.length=ps.length)
  (hbody:∀ (f:Addr) (cdv:Value) (A:Around) (outer:List Env) (s:Shared) (H:Hp) (vs:List V) (Q:VK) (E:XK),Room k (A.deeper (envOfC x (au st) s.heap.objs.size f cdv))->sp vs H Q E ->
   ∃ t,PSs (cxOf CX0 P w K mg base N x (au st) f cdv A outer s H E).nox (dt st) t/\t { nx:=λ_ H'=>Q .non H',rt:=Q } (start N vs) H):Fn P w K mg base CX0 (k+1) x ps sp:=by
 obtain⟨f,fd,F,hm,hb⟩:=D
 exact⟨f,fd,F.ok S len λcdv A outer s H vs Q E hr q=>hbody f cdv A outer s H vs Q E hr q,hm,F.kp,hb⟩
theorem Df.okE(D:Df K mg x st ps)(S:FnScope N ps (au st))(len:∀ vs H Q E,sp vs H Q E->vs.length=ps.length)
  (hbody:∀ (f:Addr) (cdv:Value) (A:Around) (outer:List Env) (s:Shared) (H:Hp) (vs:List V) (Q:VK) (E:XK),Room k (A.deeper (envOfC x (au st) s.heap.objs.size f cdv))->sp vs H Q E ->
   ∃ t,PSs (cxOf (CXE P w) P w K mg base N x (au st) f cdv A outer s H E) (dt st) t/\t { nx:=λ_ H'=>Q .non H',rt:=Q } (start N vs) H):Fn P w K mg base (CXE P w) (k+1) x ps sp:=by
 obtain⟨f,fd,F,hm,hb⟩:=D
 exact⟨f,fd,F.okE S len λcdv A outer s H vs Q E hr q=>hbody f cdv A outer s H vs Q E hr q,hm,F.kp,hb⟩
end
section
variable{X:Cx}{CX:CXT}{k:Nat}{x:Str}{ps:List Str}{sp:Sp}{E:XK}{p pos:Pos}{e:Expr}{es:List Expr}{t:TA}
theorem bh(F:Fn X.prog X.w X.K X.mg X.base CX k x ps sp)(hr:Room k X.A)(hg:Gl X x)(hx:gn CX X E)(ha:PA X (e::es) t)
  (hdb:(x==("__debug__":Str))=false:=by decide) (he:starEach (e::es) X.env=(false,eval e X.env)::starEach es X.env:=by rfl) (hpl:(backTo pos (starEach es X.env)).any (·.1)=false:=by rfl) :
  PE X (.Call (.Name x p) (e::es) [] pos) (Me sp [] E t):=by
 obtain⟨f,fd,G,hm,hk,hb⟩:=F
 exact Q8 G hr hg hm hk hb .nil hx ha hdb he hpl
end
abbrev Rp(α:Type):=Hp->V->α->Prop
def Rp.Mono{α:Type}(R:Rp α):Prop:=∀ H H' v x,Same H H'->R H v x->R H' v x
def rInt:Rp Int:=λ_ v i=>v=.int i
def rNat:Rp Nat:=λ_ v i=>v=.int i
def rBl:Rp Bool:=λ_ v b=>v=.bl b
def rLs{α:Type}(K:W.Frag)(R:Rp α):Rp (List α):=λH v l=>∃ a xs,v=.ref a/\SqL K H a xs/\Paired (R H) xs l
def rTp{α:Type}(K:W.Frag)(R:Rp α):Rp (List α):=λH v l=>∃ a xs,v=.ref a/\SqT K H a xs/\Paired (R H) xs l
theorem Same.new{H:Hp}{p:Addr}{o:HO}(h:H p=none):Same H (upd H p o):=λb u e=>by rw[ay (ba e h)];exact e
theorem Same.set{H0 H:Hp}{p:Addr}{o:HO}(h:H0 p=none)(s:Same H0 H):Same H0 (upd H p o):=λb u e=>by rw[ay (ba e h)];exact s b u e
theorem Same.seqT{K:W.Frag}{H H':Hp}{a:Addr}{xs:List V}(e:Same H H')(h:SqT K H a xs):SqT K H' a xs:=by
 rcases h with (h|⟨o,h⟩)|h
 .exact .inl (.inl (e _ _ h))
 .exact .inl (.inr ⟨o,e _ _ h⟩)
 .exact .inr h
theorem rInt.mono:Rp.Mono rInt:=λ_ _ _ _ _ q=>q
theorem rNat.mono:Rp.Mono rNat:=λ_ _ _ _ _ q=>q
theorem rBl.mono:Rp.Mono rBl:=λ_ _ _ _ _ q=>q
theorem rLs.mono{α:Type}{K:W.Frag}{R:Rp α}(m:Rp.Mono R):Rp.Mono (rLs K R):=λH H' v l s ⟨a,xs,e,h,p⟩=>⟨a,xs,e,s.seq h,Paired.mapP p λu x q=>m H H' u x s q⟩
theorem rTp.mono{α:Type}{K:W.Frag}{R:Rp α}(m:Rp.Mono R):Rp.Mono (rTp K R):=λH H' v l s ⟨a,xs,e,h,p⟩=>⟨a,xs,e,s.seqT h,Paired.mapP p λu x q=>m H H' u x s q⟩
theorem eg{α β:Type}{R:α->β->Prop}:∀ {l:List α} {m:List β},Paired R l m->l.length=m.length
 | _,_,.nil=>rfl
 | _,_,.cons _ t=>congrArg (· + 1) (eg t)
theorem gp{α β:Type}{R:α->β->Prop}:∀ {l:List α} {m:List β},Paired R l m->∀ {i:Nat} {y:β},m[i]? = some y->∃ x,l[i]? = some x/\R x y
 | _,_,.nil,i,y,h=>by simp at h
 | _,_,.cons r t,0,y,h=>by
  have e:=Option.some.inj h
  subst e
  exact⟨_,rfl,r⟩
 | _,_,.cons r t,i+1,y,h=>gp t (i:=i) h
theorem eh{α β:Type}{R:α->β->Prop}:∀ {l:List α} {m:List β},Paired R l m->∀ {i:Nat} {x:α},l[i]? = some x->∃ y,m[i]? = some y/\R x y
 | _,_,.nil,i,y,h=>by simp at h
 | _,_,.cons r t,0,y,h=>by
  have e:=Option.some.inj h
  subst e
  exact⟨_,rfl,r⟩
 | _,_,.cons r t,i+1,y,h=>eh t (i:=i) h
theorem gg{α β:Type}{R:α->β->Prop}:∀ {l:List α} {m:List β},Paired R l m->∀ {x:α} {y:β},R x y->Paired R (l++[x]) (m++[y])
 | _,_,.nil,_,_,r=>.cons r .nil
 | _,_,.cons q t,_,_,r=>.cons q (gg t r)
theorem Ph{α β:Type}{R:α->β->Prop}:∀ {l:List α} {m:List β},Paired R l m->∀ {l':List α} {m':List β},Paired R l' m'->Paired R (l++l') (m++m')
 | _,_,.nil,_,_,r=>r
 | _,_,.cons q t,_,_,r=>.cons q (Ph t r)
theorem f8{H:Hp}:∀ {xs:List V} {l:List Int},Paired (rInt H) xs l->xs=l.map V.int
 | _,_,.nil=>rfl
 | _,_,.cons (e:_=_) t=>by rw[e,f8 t];rfl
theorem ja{H:Hp}:∀ {xs:List V} {l:List Nat},Paired (rNat H) xs l->xs=l.map λn:Nat=>V.int (n:Int)
 | _,_,.nil=>rfl
 | _,_,.cons (e:_=_) t=>by rw[e,ja t];rfl
theorem fg{H:Hp}:∀ {xs:List V} {l:List Bool},Paired (rBl H) xs l->xs=l.map V.bl
 | _,_,.nil=>rfl
 | _,_,.cons (e:_=_) t=>by rw[e,fg t];rfl
theorem jd{H:Hp}:∀ (l:List Int),Paired (rInt H) (l.map V.int) l
 | []=>.nil
 | _::l=>.cons rfl (jd l)
theorem lg{H:Hp}:∀ (l:List Nat),Paired (rNat H) (l.map λn:Nat=>V.int (n:Int)) l
 | []=>.nil
 | _::l=>.cons rfl (lg l)
theorem oz{H:Hp}:∀ (l:List Bool),Paired (rBl H) (l.map V.bl) l
 | []=>.nil
 | _::l=>.cons rfl (oz l)
theorem rLs.ints{K:W.Frag}{H:Hp}{v:V}{l:List Int}:rLs K rInt H v l↔∃ a,v=.ref a/\SqL K H a (l.map V.int):=
 ⟨λ⟨a,xs,e,h,p⟩=>⟨a,e,by rw[<- f8 p];exact h⟩,λ⟨a,e,h⟩=>⟨a,_,e,h,jd l⟩⟩
theorem rTp.ints{K:W.Frag}{H:Hp}{v:V}{l:List Int}:rTp K rInt H v l↔∃ a,v=.ref a/\SqT K H a (l.map V.int):=
 ⟨λ⟨a,xs,e,h,p⟩=>⟨a,e,by rw[<- f8 p];exact h⟩,λ⟨a,e,h⟩=>⟨a,_,e,h,jd l⟩⟩
theorem take_snoc{α:Type}:∀ {l:List α} {i:Nat} {x:α},l[i]? = some x->l.take (i+1)=l.take i++[x]
 | [],i,x,h=>by simp at h
 | a::l,0,x,h=>by
  have e:a=x:=Option.some.inj h
  subst e
  rfl
 | a::l,i+1,x,h=>by
  have ih:=take_snoc (l:=l) (i:=i) (x:=x) h
  show a::l.take (i+1)=a::l.take i++[x]
  rw[ih]
  rfl
def Sb(p:Addr)(H H':Hp):Prop:=∀ b o,H b=some o->b≠p->H' b=some o
theorem Same.sb{p:Addr}{H H':Hp}(s:Same H H'):Sb p H H':=λb o e _=>s b o e
theorem Sb.upd{p:Addr}{H:Hp}{o:HO}:Sb p H (upd H p o):=λb u e hb=>by rw[ay hb];exact e
theorem Sb.trans{p:Addr}{H H1 H2:Hp}(a:Sb p H H1)(b:Sb p H1 H2):Sb p H H2:=λc o e hc=>b c o (a c o e hc) hc
theorem SqL.sb{K:W.Frag}{p a:Addr}{H H':Hp}{xs:List V}(s:Sb p H H')(ha:a≠p)(h:SqL K H a xs):SqL K H' a xs:=by
 rcases h with (h|⟨o,h⟩)|h
 .exact .inl (.inl (s _ _ h ha))
 .exact .inl (.inr ⟨o,s _ _ h ha⟩)
 .exact .inr h
theorem SqT.sb{K:W.Frag}{p a:Addr}{H H':Hp}{xs ys:List V}(hp:H p=some (.lst ys))(s:Sb p H H')(h:SqT K H a xs):SqT K H' a xs:=by
 rcases h with (h|⟨o,h⟩)|h
 .exact .inl (.inl (s _ _ h (d7 h hp (by intro z;cases z))))
 .exact .inl (.inr ⟨o,s _ _ h (d7 h hp (by intro z;cases z))⟩)
 .exact .inr h
def Rp.Av{α:Type}(R:Rp α):Prop:=∀ (p:Addr) (ys:List V) (H H':Hp) (v:V) (x:α),H p=some (.lst ys)->Sb p H H'->v≠.ref p->R H v x->R H' v x
def Rp.AvT{α:Type}(R:Rp α):Prop:=∀ (p:Addr) (ys:List V) (H H':Hp) (v:V) (x:α),H p=some (.lst ys)->Sb p H H'->R H v x->R H' v x
theorem Rp.AvT.av{α:Type}{R:Rp α}(h:R.AvT):R.Av:=λp ys H H' v x hp s _ r=>h p ys H H' v x hp s r
theorem rInt.avT:Rp.AvT rInt:=λ_ _ _ _ _ _ _ _ q=>q
theorem rNat.avT:Rp.AvT rNat:=λ_ _ _ _ _ _ _ _ q=>q
theorem rBl.avT:Rp.AvT rBl:=λ_ _ _ _ _ _ _ _ q=>q
theorem rTp.avT{α:Type}{K:W.Frag}{R:Rp α}(h:R.AvT):Rp.AvT (rTp K R):=λp ys H H' v l hp s ⟨a,xs,e,q,pr⟩=>⟨a,xs,e,SqT.sb hp s q,Paired.mapP pr λu x z=>h p ys H H' u x hp s z⟩
theorem rLs.av{α:Type}{K:W.Frag}{R:Rp α}(h:R.AvT):Rp.Av (rLs K R):=λp ys H H' v l hp s hv ⟨a,xs,e,q,pr⟩=>⟨a,xs,e,SqL.sb s (λz=>hv (by rw[e,z])) q,Paired.mapP pr λu x z=>h p ys H H' u x hp s z⟩
theorem pz{α:Type}{R:Rp α}(h:R.AvT){p:Addr}{ys:List V}{H H':Hp}{xs:List V}{l:List α}(hp:H p=some (.lst ys))(s:Sb p H H')(pr:Paired (R H) xs l):Paired (R H') xs l:=Paired.mapP pr λu x z=>h p ys H H' u x hp s z
def rNq{α:Type}(R:Rp α)(p:Addr):Rp α:=λH v x=>R H v x/\v≠.ref p
theorem Dv{α:Type}{R:Rp α}(h:R.Av){p:Addr}{ys:List V}{H H':Hp}{xs:List V}{l:List α}(hp:H p=some (.lst ys))(s:Sb p H H')(pr:Paired (rNq R p H) xs l):Paired (rNq R p H') xs l:=Paired.mapP pr λu x z=>⟨h p ys H H' u x hp s z.2 z.1,z.2⟩
theorem Js{α:Type}{R:Rp α}{p:Addr}{H:Hp}{xs:List V}{l:List α}(pr:Paired (rNq R p H) xs l):Paired (R H) xs l:=Paired.mapP pr λu x z=>z.1
section
variable{prog:Program}{w:World}{A:Around}{E:Value->Shared->Prop}{s:Shared}{l:Addr}{its:List Value}{ns:List Int}{Q:Value->Shared->Prop}
theorem Ob(hh:A.handled=none)(hl:IsTup s.heap l its.toArray)(hi:IntsAre its ns)(hne:0<ns.length)
  (h:∀ h' tk M t',(∀ b o,s.heap.get? b=some o->h'.get? b=some o)->M∈ns->(∀ a,a∈ns->M<=a)->Q (.int M t') { s with heap:=h',toks:=tk }):wpAny (model prog w) A (call (.builtin "min") [.ref l]) Q E s:=by
 obtain⟨xs,e⟩:=hi.allInts.items
 have hn:numsOf (intItems xs).toList=ns:=by rw[<- e];exact hi.numsOf
 rw[nums_intItems]at hn
 subst hn
 rw[e]at hl
 have hsz:0<xs.size:=by simpa using hne
 have hlt:l<s.heap.objs.size:=hl.lt
 refine call_min_walk (wpAny_pyIter_tuple (show s.heap.IsTuple l (intItems xs) from hl) ?_)
 have hl2:(s.heap.push { cls:=.type "tuple_iterator",data:=.fields #[.ref l,.int 0 0] }).IsTuple l (intItems xs):=by
  obtain⟨o,q,r⟩:=hl
  exact⟨o,Heap.get?_push_of_some _ q,r⟩
 refine⟨_,_,_,_,_,_,_,rfl,Walks.tuple (A:=A.in1) hh s.heap.objs.size l (Nat.ne_of_lt hlt) (intItems xs),⟨⟨_,Heap.get?_push_size _ rfl,rfl,rfl⟩,hl2⟩,λb hb=>?_,by simpa [intItems] using hsz,CmpOf.ints_lt (numAt xs) (λ_ _=>intItems_at),λv h' tk hP hk=>?_⟩
 .rw[Heap.size_push]
  rcases List.mem_cons.mp hb with z|z
  .rw[z];exact Nat.lt_succ_self _
  .rw[List.mem_singleton.mp z];exact Nat.lt_succ_of_lt hlt
 .obtain⟨t,rfl⟩:=intItems_at hP
  obtain⟨h1,h2⟩:=argBest_lt (numAt xs) ((intItems xs).size - 1)
  have hss:(intItems xs).size=xs.size:=by simp[intItems]
  rw[hss]at h1 h2
  refine h h' tk _ t (λb o q=>hk b o (λz=>?_) (Heap.get?_push_of_some _ q)) ?_ λa ha=>?_
  .rw[List.mem_singleton.mp z]at q
   exact absurd (Heap.lt_size q) (Nat.lt_irrefl _)
  .rw[hss,numAt_eq]
   exact PySem.getD_mem (by rw[List.length_map,Array.length_toList];omega)
  .obtain⟨j,hj,rfl⟩:=mem_getD ha
   rw[List.length_map,Array.length_toList]at hj
   rw[hss,<- numAt_eq]
   exact h2 j (by omega)
end
section
variable{X:Cx}
def Vb(K:W.Frag):List V->Hp->VK->Prop:=λvs H Q=>∃ (a:Addr) (ns:List Int),vs=[V.ref a]/\SqT K H a (ns.map V.int)/\0<ns.length/\∀ m,m∈ns->(∀ y,y∈ns->m<=y)->Q (.int m) H
theorem Sm(hc:X.calm=true):wn X (.builtin "min") (Vb X.K):=by
 intro pins s Z H vs us Q I r h
 obtain⟨a,ns,rfl,hs,hne,q⟩:=h
 obtain⟨its,rv,hl,_⟩:=I.tuple hs
 rw[Vals.ref1 r]
 exact Ob (I.ok.hd hc) hl rv.ints hne λh' tk m t' hk h1 h2=>⟨.int _,H,I.kept hk,⟨_,rfl⟩,q m h1 h2⟩
end
theorem Ah{K:PySem.W.Frag}{a:Addr}{xs:List V}{g:TG}{tb:TS}{D:Ends}{Z:St}{H:Hp}(Pv:Nat->St->Hp->Prop)(h0:Pv 0 Z H)(hl:∀ i Z H,i<=xs.length->Pv i Z H->SqL K H a xs)
  (hs:∀ i x Z H T,xs[i]? = some x->Pv i Z H->H T=none->g (.ref T) Z (upd H T (.tup [.int (i:Nat),x])) λZ2 H2=>tb { D with nx:=Pv (i+1),ct:=Pv (i+1),bk:=D.nx } Z2 H2) (hd:∀ Z H,Pv xs.length Z H->D.nx Z H) :
  ∃ W:Nat->Nat->St->Hp->Prop,(∃ m,W 0 m Z H)/\∀ i m Z H,W i m Z H ->
   ((Ite K a).stop i H/\D.nx Z H)\/((Ite K a).go i H/\∃ N:St->Hp->Prop,(∀ Z' H',N Z' H'->∃ m',m'<m/\W (i+1) m' Z' H')/\∀ x H',(Ite K a).yld i H x H'->g x Z H' λZ2 H2=>tb { D with nx:=N,ct:=N,bk:=D.nx } Z2 H2):=by
 refine⟨λi m Z H=>m=xs.length - i/\i<=xs.length/\Pv i Z H,⟨xs.length,by simp,Nat.zero_le _,h0⟩,?_⟩
 rintro i m Z H ⟨rfl,hi,p⟩
 have q:=hl i Z H hi p
 by_cases hlt:i<xs.length
 .refine .inr ⟨⟨xs,xs[i],q,by simp[hlt]⟩,Pv (i+1),λZ' H' p'=>⟨xs.length - (i+1),by omega,rfl,hlt,p'⟩,λv H' y=>?_⟩
  obtain⟨T,x,e1,e2,e3,e4⟩:=y
  subst e1 e3
  exact hs i x Z _ T (e4 xs q) p e2
 .have e:i=xs.length:=by omega
  subst e
  exact .inl ⟨⟨xs,q,Nat.le_refl _⟩,hd Z H p⟩
def LcW(J:It)(g:TG)(tt:TT)(te:TE)(vs:List Nat)(Z:St)(H1:Hp)(D:Addr)(Q:VK):Prop:=∃ W:Nat->Nat->Hp->Prop,(∃ m,W 0 m (upd H1 D (.lst [])))/\∀ i m H,W i m H ->
 (J.stop i H/\Q (.ref D) H)\/(J.go i H/\∃ Nx:Hp->Prop,(∀ H',Nx H'->∃ m',m'<m/\W (i+1) m' H')/\∀ x H',J.yld i H x H'->g x (wipe Z vs) H' λZ2 H2=>wipe Z2 vs=wipe Z vs/\tt Z2 H2 λb H3=>
  if b=true then te Z2 H3 λy H4=>∃ acc,H4 D=some (.lst acc)/\acc.length<sizeLine/\Nx (upd H4 D (.lst (acc++[y]))) else Nx H3)
def yr{β:Type}(R:Rp β)(g:TG)(tt:TT)(te:TE)(vs:List Nat)(Z:St)(D:Addr)(H:Hp)(r:Option β)(x:V)(H':Hp):Prop:=
 ∀ (k:V->Hp->Prop) (k0:Hp->Prop),(∀ y H4 z,r=some z->Same H H4->R H4 y z->y≠.ref D->k y H4)->(∀ H3,r=none->Same H H3->k0 H3) ->
  g x (wipe Z vs) H' λZ2 H2=>wipe Z2 vs=wipe Z vs/\tt Z2 H2 λb H3=>if b=true then te Z2 H3 k else k0 H3
theorem c9{wi:TI}{g:TG}{tt:TT}{te:TE}{vs:List Nat}{Z:St}{H:Hp}{Q:VK}(h:wi Z H λJ H1=>∀ D,H1 D=none->LcW J g tt te vs Z H1 D Q):tLc wi g tt te vs Z H Q:=h
theorem By{β:Type}{R:Rp β}{J:It}{n:Nat}{g:TG}{tt:TT}{te:TE}{vs:List Nat}{Z:St}{H1:Hp}{D:Addr}{Q:VK}(av:R.Av)(F:Nat->Option β)(hD:H1 D=none)(hn:n<=sizeLine)
  (hJ:∀ i H,i<=n->Same H1 H->(i=n/\J.stop i H)\/(i<n/\J.go i H))
  (hs:∀ i x H H' acc,i<n->Same H1 H->H D=some (.lst acc)->J.yld i H x H'->yr R g tt te vs Z D H (F i) x H')
  (hd:∀ H ys,Same H1 H->H D=some (.lst ys)->Paired (R H) ys ((List.range n).filterMap F)->Q (.ref D) H):LcW J g tt te vs Z H1 D Q:=by
 have sn:∀ i,(List.range (i+1)).filterMap F=(List.range i).filterMap F++(F i).toList:=λi=>by
  rw[List.range_succ,List.filterMap_append]
  cases e:F i <;> simp[List.filterMap,e]
 refine⟨λi m H=>m=n - i/\i<=n/\Same H1 H/\∃ ys,H D=some (.lst ys)/\ys.length<=i/\Paired (rNq R D H) ys ((List.range i).filterMap F),⟨n,rfl,Nat.zero_le _,.new hD,[],ak,Nat.le_refl _,.nil⟩,?_⟩
 rintro i m H ⟨rfl,hi,s,ys,hy,hl,pr⟩
 rcases hJ i H hi s with ⟨rfl,st⟩|⟨hlt,go⟩
 .exact .inl ⟨st,hd H ys s hy (Js pr)⟩
 .refine .inr ⟨go,_,λH' z=>⟨n - (i+1),by omega,rfl,hlt,z⟩,λx H' y=>?_⟩
  refine hs i x H H' ys hlt s hy y _ _ (λv H4 z e s4 r ne=>?_) (λH3 e s3=>?_)
  .refine⟨ys,s4 _ _ hy,by omega,.set hD (s.trans s4),ys++[v],ak,by rw[List.length_append];show ys.length+1<=_;omega,?_⟩
   rw[sn,e]
   refine gg (Dv av hy (Sb.trans s4.sb Sb.upd) pr) ⟨av D ys _ _ _ _ (s4 _ _ hy) Sb.upd ne r,ne⟩
  .refine⟨s.trans s3,ys,s3 _ _ hy,by omega,?_⟩
   rw[sn,e]
   show Paired _ ys (_++[])
   rw[List.append_nil]
   exact Dv av hy s3.sb pr
section
variable{β:Type}{R:Rp β}{K:W.Frag}{n:Nat}{g:TG}{tt:TT}{te:TE}{vs:List Nat}{Z:St}{H1:Hp}{D:Addr}{Q:VK}{a b:Addr}{xs ys0:List V}
theorem lcR(av:R.Av)(F:Nat->Option β)(hD:H1 D=none)(hn:n<=sizeLine){lo:Int}(hs:∀ i H acc,i<n->Same H1 H->H D=some (.lst acc)->yr R g tt te vs Z D H (F i) (.int (lo+i)) H)
  (hd:∀ H ys,Same H1 H->H D=some (.lst ys)->Paired (R H) ys ((List.range n).filterMap F)->Q (.ref D) H):LcW (Itr lo n) g tt te vs Z H1 D Q:=by
 refine By av F hD hn (λi H hi s=>?_) (λi x H H' acc hi s hy y=>?_) hd
 .by_cases h:i<n
  .exact .inr ⟨h,h⟩
  .exact .inl ⟨by omega,show n<=i by omega⟩
 .obtain⟨e1,e2⟩:=y
  subst e1 e2
  exact hs i _ acc hi s hy
theorem lcL(av:R.Av)(F:Nat->Option β)(hD:H1 D=none)(hl:SqL K H1 a xs)(hn:xs.length<=sizeLine)(hs:∀ i x H acc,xs[i]? = some x->Same H1 H->H D=some (.lst acc)->yr R g tt te vs Z D H (F i) x H)
  (hd:∀ H ys,Same H1 H->H D=some (.lst ys)->Paired (R H) ys ((List.range xs.length).filterMap F)->Q (.ref D) H):LcW (Itl K a) g tt te vs Z H1 D Q:=by
 refine By av F hD hn (λi H hi s=>?_) (λi x H H' acc hi s hy y=>?_) hd
 .by_cases h:i<xs.length
  .exact .inr ⟨h,xs,xs[i],s.seq hl,by simp[h]⟩
  .exact .inl ⟨by omega,xs,s.seq hl,by omega⟩
 .obtain⟨e1,e2⟩:=y
  subst e1
  exact hs i x _ acc (e2 xs (s.seq hl)) s hy
theorem lcT(av:R.Av)(F:Nat->Option β)(hD:H1 D=none)(hl:SqT K H1 a xs)(hn:xs.length<=sizeLine)(hs:∀ i x H acc,xs[i]? = some x->Same H1 H->H D=some (.lst acc)->yr R g tt te vs Z D H (F i) x H)
  (hd:∀ H ys,Same H1 H->H D=some (.lst ys)->Paired (R H) ys ((List.range xs.length).filterMap F)->Q (.ref D) H):LcW (Itt K a) g tt te vs Z H1 D Q:=by
 refine By av F hD hn (λi H hi s=>?_) (λi x H H' acc hi s hy y=>?_) hd
 .by_cases h:i<xs.length
  .exact .inr ⟨h,xs,xs[i],s.seqT hl,by simp[h]⟩
  .exact .inl ⟨by omega,xs,s.seqT hl,by omega⟩
 .obtain⟨e1,e2⟩:=y
  subst e1
  exact hs i x _ acc (e2 xs (s.seqT hl)) s hy
theorem lcE(av:R.Av)(F:Nat->Option β)(hD:H1 D=none)(hl:SqL K H1 a xs)(hn:xs.length<=sizeLine)
  (hs:∀ i x H T acc,xs[i]? = some x->Same H1 H->H D=some (.lst acc)->H T=none->yr R g tt te vs Z D H (F i) (.ref T) (upd H T (.tup [.int (i:Nat),x])))
  (hd:∀ H ys,Same H1 H->H D=some (.lst ys)->Paired (R H) ys ((List.range xs.length).filterMap F)->Q (.ref D) H):LcW (Ite K a) g tt te vs Z H1 D Q:=by
 refine By av F hD hn (λi H hi s=>?_) (λi x H H' acc hi s hy y=>?_) hd
 .by_cases h:i<xs.length
  .exact .inr ⟨h,xs,xs[i],s.seq hl,by simp[h]⟩
  .exact .inl ⟨by omega,xs,s.seq hl,by omega⟩
 .obtain⟨T,z,e1,e2,e3,e4⟩:=y
  subst e1 e3
  exact hs i z _ T acc (e4 xs (s.seq hl)) s hy e2
theorem lcZ(av:R.Av)(F:Nat->Option β)(hD:H1 D=none)(hl:SqL K H1 a xs)(hl2:SqL K H1 b ys0)(hlen:ys0.length=xs.length)(hn:xs.length<=sizeLine)
  (hs:∀ i x y H T acc,xs[i]? = some x->ys0[i]? = some y->Same H1 H->H D=some (.lst acc)->H T=none->yr R g tt te vs Z D H (F i) (.ref T) (upd H T (.tup [x,y])))
  (hd:∀ H ys,Same H1 H->H D=some (.lst ys)->Paired (R H) ys ((List.range xs.length).filterMap F)->Q (.ref D) H):LcW (Itz K a b) g tt te vs Z H1 D Q:=by
 refine By av F hD hn (λi H hi s=>?_) (λi x H H' acc hi s hy y=>?_) hd
 .by_cases h:i<xs.length
  .have h2:i<ys0.length:=by omega
   exact .inr ⟨h,xs,ys0,xs[i],ys0[i],s.seq hl,s.seq hl2,by simp[h],by simp[h2]⟩
  .exact .inl ⟨by omega,xs,ys0,s.seq hl,s.seq hl2,.inl (by omega)⟩
 .obtain⟨T,z,z2,e1,e2,e3,e4,e5⟩:=y
  subst e1 e3
  exact hs i z z2 _ T acc (e4 xs (s.seq hl)) (e5 ys0 (s.seq hl2)) s hy e2
end
theorem ip{α β:Type}(f:α->Option β):∀ (l:List α),(List.range l.length).filterMap (λi=>(l[i]?).bind f)=l.filterMap f
 | []=>rfl
 | x::l=>by
  rw[List.length_cons,List.range_succ_eq_map,List.filterMap_cons,List.filterMap_map,List.filterMap_cons]
  have ih:=ip f l
  have e:((λi:Nat=>((x::l)[i]?).bind f)∘Nat.succ)=λi:Nat=>(l[i]?).bind f:=by
   funext i
   simp
  rw[e,ih]
  rfl
theorem dw{α β:Type}(f:α->β)(l:List α):(List.range l.length).filterMap (λi=>(l[i]?).map f)=l.map f:=by
 have h:=ip (λx=>some (f x)) l
 have e:(λi:Nat=>(l[i]?).bind λx=>some (f x))=λi:Nat=>(l[i]?).map f:=by
  funext i
  cases l[i]? <;> rfl
 rw[e]at h
 rw[h]
 induction l with
 | nil=>rfl
 | cons x l ih=>simp
theorem d6{β:Type}(f:Nat->β)(n:Nat):(List.range n).filterMap (λi=>some (f i))=(List.range n).map f:=by
 induction List.range n with
 | nil=>rfl
 | cons x l ih=>simp
theorem U2{t u:TT}{Z:St}{H:Hp}{Q:Bool->Hp->Prop}(c1 c2:Bool)(h1:∀ Q:Bool->Hp->Prop,Q c1 H->t Z H Q)(h2:c1=true->∀ Q:Bool->Hp->Prop,Q c2 H->u Z H Q)(q:Q (c1&&c2) H):tAnd t u Z H Q:=by
 refine h1 _ ?_
 cases c1 with
 | true=>exact iteT (h2 rfl _ q)
 | false=>exact iteF q
theorem Hv{t u:TE}{Z:St}{H:Hp}{Q:VK}(c1 c2:Bool)(h1:∀ Q:VK,Q (.bl c1) H->t Z H Q)(h2:c1=true->∀ Q:VK,Q (.bl c2) H->u Z H Q)(q:Q (.bl (c1&&c2)) H):S6 t u Z H Q:=by
 refine h1 _ ⟨c1,rfl,?_⟩
 cases c1 with
 | true=>exact iteT (h2 rfl _ q)
 | false=>exact iteF q
def rLt{α:Type}(R:Rp α):Rp (List α):=λH v l=>∃ a xs,v=.ref a/\H a=some (.lst xs)/\Paired (R H) xs l
theorem rLt.ls{α:Type}{K:W.Frag}{R:Rp α}{H:Hp}{v:V}{l:List α}(h:rLt R H v l):rLs K R H v l:=let ⟨a,xs,e,q,p⟩:=h;⟨a,xs,e,SqL.of q,p⟩
theorem rLt.mono{α:Type}{R:Rp α}(m:Rp.Mono R):Rp.Mono (rLt R):=λH H' v l s ⟨a,xs,e,h,p⟩=>⟨a,xs,e,s _ _ h,Paired.mapP p λu x q=>m H H' u x s q⟩
theorem rLt.av{α:Type}{R:Rp α}(h:R.AvT):Rp.Av (rLt R):=λp ys H H' v l hp s hv ⟨a,xs,e,q,pr⟩=>⟨a,xs,e,s _ _ q (λz=>hv (by rw[e,z])),Paired.mapP pr λu x z=>h p ys H H' u x hp s z⟩
theorem rLt.ne{α:Type}{R:Rp α}{H:Hp}{v:V}{l:List α}{D:Addr}(h:rLt R H v l)(hD:H D=none):v≠.ref D:=λz=>by
 obtain⟨a,xs,e,q,_⟩:=h
 rw[e]at z
 cases z
 rw[hD]at q
 cases q
theorem rLt.len{α:Type}{R:Rp α}{H:Hp}{v:V}{l:List α}(h:rLt R H v l):∃ a xs,v=.ref a/\H a=some (.lst xs)/\Paired (R H) xs l/\xs.length=l.length:=let ⟨a,xs,e,q,p⟩:=h;⟨a,xs,e,q,p,eg p⟩
theorem rLs.bls{K:W.Frag}{H:Hp}{v:V}{l:List Bool}:rLs K rBl H v l↔∃ a,v=.ref a/\SqL K H a (l.map V.bl):=
 ⟨λ⟨a,xs,e,h,p⟩=>⟨a,e,by rw[<- fg p];exact h⟩,λ⟨a,e,h⟩=>⟨a,_,e,h,oz l⟩⟩
theorem rLt.bls{H:Hp}{v:V}{l:List Bool}:rLt rBl H v l↔∃ a,v=.ref a/\H a=some (.lst (l.map V.bl)):=
 ⟨λ⟨a,xs,e,h,p⟩=>⟨a,e,by rw[<- fg p];exact h⟩,λ⟨a,e,h⟩=>⟨a,_,e,h,oz l⟩⟩
theorem rLs.nats{K:W.Frag}{H:Hp}{v:V}{l:List Nat}:rLs K rNat H v l↔∃ a,v=.ref a/\SqL K H a (l.map λn:Nat=>V.int (n:Int)):=
 ⟨λ⟨a,xs,e,h,p⟩=>⟨a,e,by rw[<- ja p];exact h⟩,λ⟨a,e,h⟩=>⟨a,_,e,h,lg l⟩⟩
theorem rLt.nats{H:Hp}{v:V}{l:List Nat}:rLt rNat H v l↔∃ a,v=.ref a/\H a=some (.lst (l.map λn:Nat=>V.int (n:Int))):=
 ⟨λ⟨a,xs,e,h,p⟩=>⟨a,e,by rw[<- ja p];exact h⟩,λ⟨a,e,h⟩=>⟨a,_,e,h,lg l⟩⟩
theorem rLt.ints{H:Hp}{v:V}{l:List Int}:rLt rInt H v l↔∃ a,v=.ref a/\H a=some (.lst (l.map V.int)):=
 ⟨λ⟨a,xs,e,h,p⟩=>⟨a,e,by rw[<- f8 p];exact h⟩,λ⟨a,e,h⟩=>⟨a,_,e,h,jd l⟩⟩
end L2
end
section
namespace Sp
open PySem PySem.Spec PyProof.Rows L2
abbrev Vc:Program:=PySem.Challenge.pw_sparsetables_s01_answers
def top(i:Nat):Stmt:=Vc.main.body.getD i (.Pass ⟨0,0,0,0⟩)
abbrev d_common_divisor:Stmt:=top 12
abbrev d_lowest_terms:Stmt:=top 13
abbrev d_plus:Stmt:=top 14
abbrev d_opposite:Stmt:=top 15
abbrev d_minus:Stmt:=top 16
abbrev d_times:Stmt:=top 17
abbrev d_turned_over:Stmt:=top 18
abbrev d_over:Stmt:=top 19
abbrev d_weight:Stmt:=top 20
abbrev d_read_fractions:Stmt:=top 21
abbrev d_split_lines:Stmt:=top 31
abbrev d_line_at:Stmt:=top 32
abbrev d_well_formed:Stmt:=top 33
abbrev d_parts:Stmt:=top 34
abbrev d_uses_are_there:Stmt:=top 35
abbrev d_line_changes:Stmt:=top 37
abbrev d_line_change:Stmt:=top 38
abbrev d_product_change:Stmt:=top 39
abbrev d_quotient_change:Stmt:=top 40
abbrev d_side_entries:Stmt:=top 48
abbrev d_share_entry:Stmt:=top 49
abbrev d_meeting_columns:Stmt:=top 50
abbrev d_columns_met:Stmt:=top 51
abbrev d_meeting_pairs:Stmt:=top 52
abbrev d_ordered_columns:Stmt:=top 53
abbrev d_taken_away_order:Stmt:=top 54
abbrev d_fewest_met:Stmt:=top 55
abbrev d_told_colours:Stmt:=top 56
abbrev d_least_other:Stmt:=top 57
abbrev d_colour_count:Stmt:=top 58
abbrev d_first_clash:Stmt:=top 59
abbrev d_fewest_colours:Stmt:=top 60
abbrev d_can_be_coloured:Stmt:=top 61
abbrev d_whole_table:Stmt:=top 63
abbrev d_packed_table:Stmt:=top 64
abbrev d_packed_by_columns:Stmt:=top 65
abbrev d_colour_directions:Stmt:=top 66
abbrev d_colour_direction:Stmt:=top 67
abbrev d_out_changes:Stmt:=top 68
abbrev d_packed_by_rows:Stmt:=top 69
abbrev d_sum_of_rows:Stmt:=top 70
abbrev d_told_apart:Stmt:=top 71
abbrev d_hanging:Stmt:=top 73
abbrev d_line_hangs:Stmt:=top 74
abbrev d_pattern_rows:Stmt:=top 75
abbrev d_entry_columns:Stmt:=top 76
abbrev d_run:Stmt:=top 82
abbrev d_divides_by_zero:Stmt:=top 83
abbrev d_line_value:Stmt:=top 84
abbrev d_joined:Stmt:=top 85
abbrev d_within:Stmt:=top 93
abbrev d_need_side:Stmt:=top 94
abbrev d_need_order:Stmt:=top 95
abbrev d_need_outs:Stmt:=top 96
abbrev d_need_colours:Stmt:=top 97
abbrev d_need_values:Stmt:=top 98
abbrev d_tell_table:Stmt:=top 99
abbrev d_answer_code:Stmt:=top 100
abbrev d_answer_point:Stmt:=top 101
abbrev d_answer_pattern:Stmt:=top 102
abbrev d_answer_meets:Stmt:=top 103
abbrev d_answer_order:Stmt:=top 104
abbrev d_answer_colours:Stmt:=top 105
abbrev d_answer_check:Stmt:=top 106
abbrev d_answer_least:Stmt:=top 107
abbrev d_answer_plan:Stmt:=top 108
abbrev d_answer_dense:Stmt:=top 109
abbrev d_answer_packed:Stmt:=top 110
abbrev d_answer_table:Stmt:=top 111
abbrev d_answer_apart:Stmt:=top 112
abbrev d_tell_packed_apart:Stmt:=top 113
abbrev d_answer_call:Stmt:=top 115
abbrev d_Held_init:Stmt:=ij (top 117) 0
abbrev d_Held_take_program:Stmt:=ij (top 117) 1
abbrev d_Held_take_point:Stmt:=ij (top 117) 2
abbrev d_Held_pattern:Stmt:=ij (top 117) 3
abbrev d_Held_columns_met:Stmt:=ij (top 117) 4
abbrev d_Reader_init:Stmt:=ij (top 120) 0
abbrev d_Reader_at_end:Stmt:=ij (top 120) 1
abbrev d_Reader_take_number:Stmt:=ij (top 120) 2
abbrev d_Reader_take_numbers:Stmt:=ij (top 120) 3
abbrev d_Reader_take_row:Stmt:=ij (top 120) 4
abbrev d_answers:Stmt:=top 121
abbrev d_answer_next:Stmt:=top 122
structure Blt(mg:Str->Option Value):Prop where
 abs:mg "abs"=none
 len:mg "len"=none
 range:mg "range"=none
 any:mg "any"=none
 all:mg "all"=none
 min:mg "min"=none
 max:mg "max"=none
 list:mg "list"=none
 tuple:mg "tuple"=none
 sorted:mg "sorted"=none
 reversed:mg "reversed"=none
 enumerate:mg "enumerate"=none
 zip:mg "zip"=none
def frV(f:Vagraa.Frac):List V:=[.int f.num,.int (f.den:Int)]
def rFr(K:W.Frag):Rp Vagraa.Frac:=λH v f=>∃ a,v=.ref a/\SqT K H a (frV f)
theorem rFr.mono{K:W.Frag}:Rp.Mono (rFr K):=λ_ _ _ _ s ⟨a,e,h⟩=>⟨a,e,s.seqT h⟩
theorem rFr.avT{K:W.Frag}:Rp.AvT (rFr K):=λp ys H H' v l hp s ⟨a,e,q⟩=>⟨a,e,SqT.sb hp s q⟩
theorem rFr.new{K:W.Frag}{H:Hp}{p:Addr}{f:Vagraa.Frac}:rFr K (upd H p (.tup (frV f))) (.ref p) f:=⟨p,rfl,.inl (.inl ak)⟩
structure FrOk(n:Nat)(f:Vagraa.Frac):Prop where
 pos:0<f.den
 num:Sz n f.num
 den:Sz n f.den
 cop:Nat.gcd f.num.natAbs f.den=1
theorem FrOk.mono{m n:Nat}{f:Vagraa.Frac}(h:FrOk m f)(hmn:m<=n):FrOk n f:=⟨h.pos,h.num.mono hmn,h.den.mono hmn,h.cop⟩
theorem FrOk.neg{n:Nat}{f:Vagraa.Frac}(h:FrOk n f):FrOk n (Vagraa.neg f):=⟨h.pos,(by show(-f.num).natAbs<2 ^ n;rw[Int.natAbs_neg];exact h.num),h.den,(by show Nat.gcd (-f.num).natAbs f.den=1;rw[Int.natAbs_neg];exact h.cop)⟩
theorem Fz{m n:Nat}(h:0<Nat.gcd m n):Nat.gcd (m / Nat.gcd m n) (n / Nat.gcd m n)=1:=by
 rw[Nat.gcd_div (Nat.gcd_dvd_left _ _) (Nat.gcd_dvd_right _ _),Nat.div_self h]
theorem Oo{t:Int}{b:Nat}(hb:b≠0):(Vagraa.frac t b).num=t.fdiv (Nat.gcd t.natAbs b:Nat):=by
 unfold Vagraa.frac
 rw[if_neg hb]
 exact(Int.fdiv_eq_ediv_of_nonneg _ (by omega)).symm
theorem Op{t:Int}{b:Nat}(hb:b≠0):((Vagraa.frac t b).den:Int)=(b:Int).fdiv (Nat.gcd t.natAbs b:Nat):=by
 unfold Vagraa.frac
 rw[if_neg hb]
 show((b / Nat.gcd t.natAbs b:Nat):Int)=_
 rw[Int.fdiv_eq_ediv_of_nonneg _ (by omega)]
 exact Int.natCast_ediv _ _
theorem uo{n:Int}{d g:Nat}(hg:0<g)(hd:0<d)(hc:Nat.gcd n.natAbs d=1):Vagraa.frac (n*g) (d*g)=⟨n,d⟩:=by
 have hdg:d*g≠0:=Nat.ne_of_gt (Nat.mul_pos hd hg)
 have e:Nat.gcd (n*(g:Int)).natAbs (d*g)=g:=by
  rw[Int.natAbs_mul,Int.natAbs_natCast,Nat.gcd_mul_right,hc,Nat.one_mul]
 unfold Vagraa.frac
 rw[if_neg hdg,e,Int.mul_ediv_cancel _ (by omega),Nat.mul_div_cancel _ hg]
def Low(f:Vagraa.Frac):Prop:=0<f.den/\Nat.gcd f.num.natAbs f.den=1
theorem Ei(n:Int){d:Nat}(hd:0<d):0<(Vagraa.frac n d).den/\Nat.gcd (Vagraa.frac n d).num.natAbs (Vagraa.frac n d).den=1:=by
 have hg:0<Nat.gcd n.natAbs d:=Nat.gcd_pos_of_pos_right _ hd
 unfold Vagraa.frac
 rw[if_neg (Nat.ne_of_gt hd)]
 refine⟨Nat.div_pos (Nat.le_of_dvd hd (Nat.gcd_dvd_right _ _)) hg,?_⟩
 show Nat.gcd (n / (Nat.gcd n.natAbs d:Nat)).natAbs (d / Nat.gcd n.natAbs d)=1
 have h1:(n / (Nat.gcd n.natAbs d:Nat)).natAbs=n.natAbs / Nat.gcd n.natAbs d:=by
  rw[Int.natAbs_ediv_of_dvd (Int.ofNat_dvd_left.mpr (Nat.gcd_dvd_left _ _)),Int.natAbs_natCast]
 rw[h1]
 exact Fz hg
theorem Ai(a b:Nat):(a:Int).fdiv b=((a / b:Nat):Int):=by
 rw[Int.fdiv_eq_ediv_of_nonneg _ (by omega)]
 exact(Int.natCast_ediv _ _).symm
theorem T9{a b:Vagraa.Frac}(ha:0<a.den)(hb:0<b.den)(ca:Nat.gcd a.num.natAbs a.den=1)(cb:Nat.gcd b.num.natAbs b.den=1) :
  Vagraa.mul a b=⟨(Vagraa.frac a.num b.den).num*(Vagraa.frac b.num a.den).num,(Vagraa.frac a.num b.den).den*(Vagraa.frac b.num a.den).den⟩:=by
 obtain⟨an,ad⟩:=a
 obtain⟨bn,bd⟩:=b
 dsimp only at ha hb ca cb ⊢
 have p1:=Ei an hb
 have p2:=Ei bn ha
 have g1:0<Nat.gcd an.natAbs bd:=Nat.gcd_pos_of_pos_right _ hb
 have g2:0<Nat.gcd bn.natAbs ad:=Nat.gcd_pos_of_pos_right _ ha
 have e1:an=(Vagraa.frac an bd).num*(Nat.gcd an.natAbs bd:Nat):=by
  unfold Vagraa.frac
  rw[if_neg (Nat.ne_of_gt hb)]
  exact(Int.ediv_mul_cancel (Int.ofNat_dvd_left.mpr (Nat.gcd_dvd_left _ _))).symm
 have e2:bn=(Vagraa.frac bn ad).num*(Nat.gcd bn.natAbs ad:Nat):=by
  unfold Vagraa.frac
  rw[if_neg (Nat.ne_of_gt ha)]
  exact(Int.ediv_mul_cancel (Int.ofNat_dvd_left.mpr (Nat.gcd_dvd_left _ _))).symm
 have e3:bd=(Vagraa.frac an bd).den*Nat.gcd an.natAbs bd:=by
  unfold Vagraa.frac
  rw[if_neg (Nat.ne_of_gt hb)]
  exact(Nat.div_mul_cancel (Nat.gcd_dvd_right _ _)).symm
 have e4:ad=(Vagraa.frac bn ad).den*Nat.gcd bn.natAbs ad:=by
  unfold Vagraa.frac
  rw[if_neg (Nat.ne_of_gt ha)]
  exact(Nat.div_mul_cancel (Nat.gcd_dvd_right _ _)).symm
 generalize Vagraa.frac an bd=x at *
 generalize Vagraa.frac bn ad=y at *
 generalize Nat.gcd an.natAbs bd=g at *
 generalize Nat.gcd bn.natAbs ad=h at *
 have c1:Nat.gcd x.num.natAbs y.den=1:=by
  refine Nat.eq_one_of_dvd_one ?_
  rw[<- ca]
  refine Nat.dvd_gcd (Nat.dvd_trans (Nat.gcd_dvd_left _ _) ?_) (Nat.dvd_trans (Nat.gcd_dvd_right _ _) ?_)
  .rw[e1,Int.natAbs_mul];exact Nat.dvd_mul_right _ _
  .rw[e4];exact Nat.dvd_mul_right _ _
 have c2:Nat.gcd y.num.natAbs x.den=1:=by
  refine Nat.eq_one_of_dvd_one ?_
  rw[<- cb]
  refine Nat.dvd_gcd (Nat.dvd_trans (Nat.gcd_dvd_left _ _) ?_) (Nat.dvd_trans (Nat.gcd_dvd_right _ _) ?_)
  .rw[e2,Int.natAbs_mul];exact Nat.dvd_mul_right _ _
  .rw[e3];exact Nat.dvd_mul_right _ _
 show Vagraa.frac (an*bn) (ad*bd)=_
 have en:an*bn=(x.num*y.num)*((g*h:Nat):Int):=by
  rw[e1,e2,Int.natCast_mul];ac_rfl
 have ed:ad*bd=(x.den*y.den)*(g*h):=by
  rw[e3,e4];ac_rfl
 rw[en,ed]
 refine uo (Nat.mul_pos g1 g2) (Nat.mul_pos p1.1 p2.1) ?_
 rw[Int.natAbs_mul]
 exact Nat.Coprime.mul_left (Nat.Coprime.mul_right p1.2 c1) (Nat.Coprime.mul_right c2 p2.2)
theorem Uy{a b:Vagraa.Frac}(ha:0<a.den)(hb:0<b.den)(ca:Nat.gcd a.num.natAbs a.den=1)(cb:Nat.gcd b.num.natAbs b.den=1){s r:Nat}{t:Int}
  (hs:s=Nat.gcd a.den b.den) (ht:t=a.num*((b.den / s:Nat):Int)+b.num*((a.den / s:Nat):Int)) (hr:r=Nat.gcd t.natAbs s) :
  0<s/\0<r/\Vagraa.add a b=⟨t.fdiv r,a.den / s*(b.den / r)⟩:=by
 obtain⟨an,ad⟩:=a
 obtain⟨bn,bd⟩:=b
 dsimp only at ha hb ca cb hs ht ⊢
 have s0:0<s:=hs ▸ Nat.gcd_pos_of_pos_right _ hb
 have r0:0<r:=hr ▸ Nat.gcd_pos_of_pos_right _ s0
 refine⟨s0,r0,?_⟩
 have hu:ad=s*(ad / s):=(Nat.mul_div_cancel' (hs ▸ Nat.gcd_dvd_left _ _)).symm
 have hv:bd=s*(bd / s):=(Nat.mul_div_cancel' (hs ▸ Nat.gcd_dvd_right _ _)).symm
 have cuv:Nat.gcd (ad / s) (bd / s)=1:=by
  rw[hs];exact Fz (hs ▸ s0)
 generalize ad / s=u at *
 generalize bd / s=v at *
 have hrs:r ∣ s:=hr ▸ Nat.gcd_dvd_right _ _
 have hrt:r ∣ t.natAbs:=hr ▸ Nat.gcd_dvd_left _ _
 obtain⟨s',es⟩:=hrs
 have hrt':(r:Int) ∣ t:=Int.ofNat_dvd_left.mpr hrt
 obtain⟨t',et⟩:=hrt'
 have r0':(r:Int)≠0:=by omega
 have e5:t.fdiv r=t':=by rw[et,Int.mul_fdiv_cancel_left _ r0']
 have u0:0<u:=Nat.pos_of_ne_zero λz=>by rw[z]at hu;omega
 have v0:0<v:=Nat.pos_of_ne_zero λz=>by rw[z]at hv;omega
 have s'0:0<s':=Nat.pos_of_ne_zero λz=>by rw[z]at es;omega
 have e6:bd / r=s'*v:=by rw[hv,es,Nat.mul_assoc,Nat.mul_div_cancel_left _ r0]
 have cts:Nat.gcd t'.natAbs s'=1:=by
  have h1:r*Nat.gcd t'.natAbs s'=r*1:=by
   rw[<- Nat.gcd_mul_left,Nat.mul_one,<- es]
   rw[et,Int.natAbs_mul,Int.natAbs_natCast]at hr
   exact hr.symm
  exact Nat.eq_of_mul_eq_mul_left r0 h1
 have cau:Nat.gcd an.natAbs u=1:=Nat.Coprime.coprime_dvd_right (by rw[hu];exact Nat.dvd_mul_left _ _) ca
 have cbv:Nat.gcd bn.natAbs v=1:=Nat.Coprime.coprime_dvd_right (by rw[hv];exact Nat.dvd_mul_left _ _) cb
 have key:∀ (x y:Int) (p q z:Nat),z ∣ p->z ∣ (x*q+y*p).natAbs->z ∣ x.natAbs*q:=λx y p q z h1 h2=>by
  have h3:(z:Int) ∣ x*q+y*p:=Int.ofNat_dvd_left.mpr h2
  have h4:(z:Int) ∣ y*p:=Int.dvd_mul_of_dvd_right (Int.natCast_dvd_natCast.mpr h1)
  have h5:(z:Int) ∣ x*q:=(Int.dvd_add_left h4).mp h3
  have h6:=Int.ofNat_dvd_left.mp h5
  rw[Int.natAbs_mul,Int.natAbs_natCast]at h6
  exact h6
 have ctu:Nat.gcd t.natAbs u=1:=by
  refine Nat.eq_one_of_dvd_one ?_
  have h1:Nat.gcd t.natAbs u ∣ an.natAbs*v:=key an bn u v _ (Nat.gcd_dvd_right _ _) (by rw[<- ht];exact Nat.gcd_dvd_left _ _)
  have h2:Nat.gcd (an.natAbs*v) u=1:=Nat.Coprime.mul_left cau (Nat.Coprime.symm cuv)
  rw[<- h2]
  exact Nat.dvd_gcd h1 (Nat.gcd_dvd_right _ _)
 have ctv:Nat.gcd t.natAbs v=1:=by
  refine Nat.eq_one_of_dvd_one ?_
  have h1:Nat.gcd t.natAbs v ∣ bn.natAbs*u:=key bn an v u _ (Nat.gcd_dvd_right _ _) (by rw[Int.add_comm,<- ht];exact Nat.gcd_dvd_left _ _)
  have h2:Nat.gcd (bn.natAbs*u) v=1:=Nat.Coprime.mul_left cbv cuv
  rw[<- h2]
  exact Nat.dvd_gcd h1 (Nat.gcd_dvd_right _ _)
 have ht':t'.natAbs ∣ t.natAbs:=by rw[et,Int.natAbs_mul];exact Nat.dvd_mul_left _ _
 rw[e5,e6]
 show Vagraa.frac (an*(bd:Int)+bn*(ad:Int)) (ad*bd)=_
 have en:an*(bd:Int)+bn*(ad:Int)=t'*((r*s:Nat):Int):=by
  have:an*(bd:Int)+bn*(ad:Int)=(s:Int)*t:=by
   rw[ht,hu,hv,Int.natCast_mul,Int.natCast_mul,Int.mul_add]
   ac_rfl
  rw[this,et,Int.natCast_mul]
  ac_rfl
 have ed:ad*bd=(u*(s'*v))*(r*s):=by
  have h1:ad*bd=(s*u)*(s*v):=by rw[<- hu,<- hv]
  have h2:(s*u)*(s*v)=(s*u)*((r*s')*v):=by rw[<- es]
  rw[h1,h2]
  ac_rfl
 rw[en,ed]
 refine uo (Nat.mul_pos r0 s0) (Nat.mul_pos u0 (Nat.mul_pos s'0 v0)) ?_
 exact Nat.Coprime.mul_right (Nat.Coprime.coprime_dvd_left ht' ctu) (Nat.Coprime.mul_right cts (Nat.Coprime.coprime_dvd_left ht' ctv))
theorem Low.frac(n:Int){d:Nat}(hd:0<d):Low (Vagraa.frac n d):=Ei n hd
theorem Low.neg{f:Vagraa.Frac}(h:Low f):Low (Vagraa.neg f):=⟨h.1,by show Nat.gcd (-f.num).natAbs f.den=1;rw[Int.natAbs_neg];exact h.2⟩
theorem FrOk.low{n:Nat}{f:Vagraa.Frac}(h:FrOk n f):Low f:=⟨h.pos,h.cop⟩
theorem Kw{b:Vagraa.Frac}(h0:b.num≠0)(c:Nat.gcd b.num.natAbs b.den=1):0<(Vagraa.inv b).den/\Nat.gcd (Vagraa.inv b).num.natAbs (Vagraa.inv b).den=1:=by
 unfold Vagraa.inv
 by_cases hn:b.num<0
 .rw[if_pos hn]
  refine⟨by show 0<b.num.natAbs;omega,?_⟩
  show Nat.gcd (-(b.den:Int)).natAbs b.num.natAbs=1
  rw[Int.natAbs_neg,Int.natAbs_natCast,Nat.gcd_comm]
  exact c
 .rw[if_neg hn,if_neg h0]
  refine⟨by show 0<b.num.natAbs;omega,?_⟩
  show Nat.gcd (b.den:Int).natAbs b.num.natAbs=1
  rw[Int.natAbs_natCast,Nat.gcd_comm]
  exact c
theorem Ev(i:Int):(if i<0 then -i else i)=(i.natAbs:Int):=by
 split <;> omega
section
variable{P:Program}{w:World}{K:W.Frag}{mg:Str->Option Value}{base:Heap}
def Mm:Sp:=λvs H Q _=>∃ a b:Nat,vs=[.int a,.int b]/\Q (.int (Nat.gcd a b:Nat)) H
theorem Fb:FnScope ["first","second","rest"] ["first","second"] (au d_common_divisor):=by trivial
theorem T3(D:Df K mg "common_divisor" d_common_divisor ["first","second"]):Fn P w K mg base CX0 1 "common_divisor" ["first","second"] Mm:=by
 refine D.ok Fb (λvs H Q E h=>?_) (λf cdv A outer s H vs Q E hr h=>?_)
 .obtain⟨a,b,rfl,_⟩:=h
  rfl
 .obtain⟨a,b,rfl,q⟩:=h
  refine⟨_,af (ka PassesOwn.never (bp J0 (pv 1) ax (bv _))
   (af (bg (i:=2) Fb.nd rfl (Or.inl rfl) (ge To (pv 0) (pv 1))) (af (bg (i:=0) Fb.nd rfl (Or.inl rfl) (pv 1)) (aq (bg (i:=1) Fb.nd rfl (Or.inl rfl) (pv 2))))))
   (aq (az (pv 0))),?_⟩
  refine ma (λZ H'=>∃ (m n:Nat) (r:Option V),Z=[some (.int m),some (.int n),r]/\Nat.gcd m n=Nat.gcd a b/\H'=H) (λZ _=>match Z with | [_,some (.int n),_]=>n.toNat|_=>0) ⟨a,b,none,rfl,rfl,rfl⟩ ?_ ?_
  .rintro Z H' ⟨m,n,r,rfl,hg,rfl⟩
   refine⟨_,rfl,rfl,_,rfl,?_⟩
   by_cases hn:n=0
   .subst hn
    have e:(!decide (V.int ((0:Nat):Int)=V.int 0))=false:=by simp
    rw[e]
    refine iteF ⟨_,rfl,?_⟩
    rw[Nat.gcd_zero_right]at hg
    rw[hg]
    exact q
   .have e:(!decide (V.int (n:Int)=V.int 0))=true:=by simp;omega
    rw[e]
    refine iteT ⟨_,rfl,_,rfl,_,_,rfl,rfl,(by show(0:Int)<n;omega),_,rfl,_,rfl,?_⟩
    refine⟨⟨n,m % n,some (.int (m % n:Nat)),rfl,?_,rfl⟩,?_⟩
    .rw[<- hg,Nat.gcd_comm m n,Nat.gcd_rec n m,Nat.gcd_comm]
    .show((m:Int) % n).toNat<((n:Int)).toNat
     have:=Nat.mod_lt m (Nat.pos_of_ne_zero hn)
     omega
  .rintro Z H' Q1 Q2 hq ⟨v,e1,e2,k,e3,e4⟩
   exact⟨v,e1,e2,k,e3,hq _ _ e4⟩
def Ir:Sp:=λvs H Q _=>∃ (t:Int) (b:Nat),vs=[.int t,.int b]/\b≠0/\∀ p,H p=none->Q (.ref p) (upd H p (.tup (frV (Vagraa.frac t b))))
theorem Pe:FnScope ["top","bottom","divisor"] ["top","bottom"] (au d_lowest_terms):=by trivial
theorem T2(B:Blt mg)(c0:Calm0 P base)(G:Fn P w K mg base CX0 1 "common_divisor" ["first","second"] Mm)(D:Df K mg "lowest_terms" d_lowest_terms ["top","bottom"]):Fn P w K mg base CX0 41 "lowest_terms" ["top","bottom"] Ir:=by
 refine D.ok Pe (λvs H Q E h=>?_) (λf cdv A outer s H vs Q E hr h=>?_)
 .obtain⟨a,b,rfl,_⟩:=h
  rfl
 .obtain⟨t,b,rfl,hb,q⟩:=h
  refine⟨_,af (bg (i:=2) Pe.nd rfl (Or.inl rfl) (bh G (hr.mono (by decide)) rfl bo (aa (bj Am rfl B.abs boot_abs (aa (pv 0) aj)) (aa (pv 1) aj))))
   (aq (az (ia (aa (ge (jb c0 hr rfl rfl rfl) (pv 0) (pv 2)) (aa (ge (jb c0 hr rfl rfl rfl) (pv 1) (pv 2)) aj))))),?_⟩
  have hg:0<Nat.gcd t.natAbs b:=Nat.gcd_pos_of_pos_right _ (Nat.pos_of_ne_zero hb)
  refine⟨_,rfl,t,rfl,_,rfl,t.natAbs,b,by rw[Ev];rfl,?_⟩
  have fin:∀ p,H p=none->Q (.ref p) (upd H p (.tup [.int (t.fdiv (Nat.gcd t.natAbs b:Nat)),.int ((b:Int).fdiv (Nat.gcd t.natAbs b:Nat))])):=λp hp=>by
   have z:=q p hp
   unfold frV at z
   rw[Oo hb,Op hb]at z
   exact z
  exact⟨_,rfl,_,rfl,_,_,rfl,rfl,(by omega),_,rfl,_,rfl,_,_,rfl,rfl,(by omega),(by show 2<=sizeLine;decide),fin⟩
def g7(K:W.Frag)(C:Vagraa.Frac->Vagraa.Frac->Prop)(g:Vagraa.Frac->Vagraa.Frac->Vagraa.Frac):Sp:=λvs H Q _=>∃ va vb a b,vs=[va,vb]/\rFr K H va a/\rFr K H vb b/\C a b/\∀ v H',Same H H'->rFr K H' v (g a b)->Q v H'
def CFr(a b:Vagraa.Frac):Prop:=FrOk 4000000 a/\FrOk 4000000 b
def CFrD(a b:Vagraa.Frac):Prop:=FrOk 4000000 a/\FrOk 4000000 b/\b.num≠0
theorem E4{n m k:Nat}(h:Sz n ((m:Nat):Int))(hk:k<=m):Sz n ((k:Nat):Int):=by
 unfold Sz at *
 omega
theorem zn:FnScope ["first","second","shared","top","rest"] ["first","second"] (au d_plus):=by trivial
theorem Rl(B:Blt mg)(c0:Calm0 P base)(G:Fn P w K mg base CX0 1 "common_divisor" ["first","second"] Mm)(D:Df K mg "plus" d_plus ["first","second"]):Fn P w K mg base CX0 42 "plus" ["first","second"] (g7 K CFr Vagraa.add):=by
 refine D.ok zn (λvs H Q E h=>?_) (λf cdv A outer s H vs Q E hr h=>?_)
 .obtain⟨va,vb,a,b,rfl,_⟩:=h
  rfl
 .obtain⟨va,vb,a,b,rfl,⟨pa,rfl,sa⟩,⟨pb,rfl,sb⟩,⟨ha,hb⟩,q⟩:=h
  have hr1:Room 40 (A.deeper (envOfC "plus" (au d_plus) s.heap.objs.size f cdv)):=hr.mono (by decide)
  refine⟨_,af (bg (i:=2) zn.nd rfl (Or.inl rfl) (bh G (hr.mono (by decide)) rfl bo (aa (bf bq (pv 0) ax (λ_ _=>rfl)) (aa (bf bq (pv 1) ax (λ_ _=>rfl)) aj))))
   (af (bg (i:=3) zn.nd rfl (Or.inl rfl) (ge qc (ge t8 (bf bq (pv 0) ax (λ_ _=>rfl)) (ge (jb c0 hr1 rfl rfl rfl) (bf bq (pv 1) ax (λ_ _=>rfl)) (pv 2)))
    (ge t8 (bf bq (pv 1) ax (λ_ _=>rfl)) (ge (jb c0 hr1 rfl rfl rfl) (bf bq (pv 0) ax (λ_ _=>rfl)) (pv 2)))))
   (af (bg (i:=4) zn.nd rfl (Or.inl rfl) (bh G (hr.mono (by decide)) rfl bo (aa (bj Am rfl B.abs boot_abs (aa (pv 3) aj)) (aa (pv 2) aj))))
   (aq (az (ia (aa (ge (jb c0 hr1 rfl rfl rfl) (pv 3) (pv 4)) (aa (ge t8 (ge (jb c0 hr1 rfl rfl rfl) (bf bq (pv 0) ax (λ_ _=>rfl)) (pv 2)) (ge (jb c0 hr1 rfl rfl rfl) (bf bq (pv 1) ax (λ_ _=>rfl)) (pv 4))) aj))))))),?_⟩
  obtain⟨s0,r0,e⟩:=Uy ha.pos hb.pos ha.cop hb.cop rfl rfl rfl
  have zb:Sz 4000000 ((b.den / Nat.gcd a.den b.den:Nat):Int):=E4 hb.den (Nat.div_le_self _ _)
  have za:Sz 4000000 ((a.den / Nat.gcd a.den b.den:Nat):Int):=E4 ha.den (Nat.div_le_self _ _)
  have f1:=Ai b.den (Nat.gcd a.den b.den)
  have f2:=Ai a.den (Nat.gcd a.den b.den)
  refine⟨_,rfl,pa,_,_,_,rfl,rfl,sa,rfl,_,rfl,pb,_,_,_,rfl,rfl,sb,rfl,a.den,b.den,rfl,?_⟩
  refine⟨_,rfl,pa,_,_,_,rfl,rfl,sa,rfl,_,rfl,pb,_,_,_,rfl,rfl,sb,rfl,_,rfl,_,_,rfl,rfl,(by omega),_,_,rfl,rfl,⟨ha.num.mono (by decide),(by rw[f1];exact zb.mono (by decide))⟩,?_⟩
  refine⟨_,rfl,pb,_,_,_,rfl,rfl,sb,rfl,_,rfl,pa,_,_,_,rfl,rfl,sa,rfl,_,rfl,_,_,rfl,rfl,(by omega),_,_,rfl,rfl,⟨hb.num.mono (by decide),(by rw[f2];exact za.mono (by decide))⟩,_,_,rfl,rfl,?_⟩
  rw[f1,f2]
  dsimp only
  generalize ht:a.num*((b.den / Nat.gcd a.den b.den:Nat):Int)+b.num*((a.den / Nat.gcd a.den b.den:Nat):Int)=t at e r0 ⊢
  have zr:Sz 4000000 ((b.den / Nat.gcd t.natAbs (Nat.gcd a.den b.den):Nat):Int):=E4 hb.den (Nat.div_le_self _ _)
  have f3:=Ai b.den (Nat.gcd t.natAbs (Nat.gcd a.den b.den))
  refine⟨_,rfl,t,rfl,_,rfl,t.natAbs,Nat.gcd a.den b.den,(by rw[Ev];rfl),?_⟩
  refine⟨_,rfl,_,rfl,_,_,rfl,rfl,(by omega),_,rfl,pa,_,_,_,rfl,rfl,sa,rfl,_,rfl,_,_,rfl,rfl,(by omega),_,rfl,pb,_,_,_,rfl,rfl,sb,rfl,_,rfl,_,_,rfl,rfl,(by omega),_,_,rfl,rfl,⟨(by rw[f2];exact za.mono (by decide)),(by rw[f3];exact zr.mono (by decide))⟩,(by show 2<=sizeLine;decide),λp hp=>?_⟩
  refine q _ _ (.new hp) ?_
  rw[e,f2,f3]
  dsimp only
  rw[<- Int.natCast_mul]
  exact rFr.new (f:=⟨_,_⟩)
theorem Ta:FnScope ["fraction"] ["fraction"] (au d_opposite):=by trivial
def Ip(K:W.Frag):Sp:=λvs H Q _=>∃ va a,vs=[va]/\rFr K H va a/\∀ p,H p=none->Q (.ref p) (upd H p (.tup (frV (Vagraa.neg a))))
theorem T0(D:Df K mg "opposite" d_opposite ["fraction"]):Fn P w K mg base CX0 1 "opposite" ["fraction"] (Ip K):=by
 refine D.ok Ta (λvs H Q E h=>?_) (λf cdv A outer s H vs Q E hr h=>?_)
 .obtain⟨va,a,rfl,_⟩:=h
  rfl
 .obtain⟨va,a,rfl,⟨pa,rfl,sa⟩,q⟩:=h
  refine⟨_,aq (az (ia (aa (tx jn (bf bq (pv 0) ax (λ_ _=>rfl))) (aa (bf bq (pv 0) ax (λ_ _=>rfl)) aj)))),?_⟩
  exact⟨_,rfl,pa,_,_,_,rfl,rfl,sa,rfl,_,rfl,_,rfl,pa,_,_,_,rfl,rfl,sa,rfl,(by show 2<=sizeLine;decide),q⟩
theorem Mx:FnScope ["first","second"] ["first","second"] (au d_minus):=by trivial
theorem Nw(L:Fn P w K mg base CX0 42 "plus" ["first","second"] (g7 K CFr Vagraa.add))(O:Fn P w K mg base CX0 1 "opposite" ["fraction"] (Ip K))(D:Df K mg "minus" d_minus ["first","second"]):Fn P w K mg base CX0 43 "minus" ["first","second"] (g7 K CFr Vagraa.sub):=by
 refine D.ok Mx (λvs H Q E h=>?_) (λf cdv A outer s H vs Q E hr h=>?_)
 .obtain⟨va,vb,a,b,rfl,_⟩:=h
  rfl
 .obtain⟨va,vb,a,b,rfl,ra,rb,⟨ha,hb⟩,q⟩:=h
  refine⟨_,aq (az (bh L hr rfl bo (aa (pv 0) (aa (bh O (hr.mono (by decide)) rfl bo (aa (pv 1) aj)) aj)))),?_⟩
  refine⟨_,rfl,_,rfl,vb,b,rfl,rb,λp hp=>?_⟩
  have s1:Same H (upd H p (.tup (frV (Vagraa.neg b)))):=.new hp
  exact⟨_,_,a,Vagraa.neg b,rfl,rFr.mono _ _ _ _ s1 ra,rFr.new,⟨ha,hb.neg⟩,λv2 H2 s2 r2=>q _ _ (s1.trans s2) r2⟩
theorem zl:FnScope ["first","second","one","other"] ["first","second"] (au d_times):=by trivial
theorem Sz.frac{n:Nat}{t:Int}{b:Nat}(ht:Sz n t)(hb:Sz n (b:Int))(h0:0<b):Sz n (Vagraa.frac t b).num/\Sz n ((Vagraa.frac t b).den:Int):=by
 unfold Vagraa.frac
 rw[if_neg (Nat.ne_of_gt h0)]
 refine⟨?_,E4 hb (Nat.div_le_self _ _)⟩
 show(t / (Nat.gcd t.natAbs b:Nat)).natAbs<2 ^ n
 rw[Int.natAbs_ediv_of_dvd (Int.ofNat_dvd_left.mpr (Nat.gcd_dvd_left _ _)),Int.natAbs_natCast]
 exact Nat.lt_of_le_of_lt (Nat.div_le_self _ _) ht
theorem Nk(L:Fn P w K mg base CX0 41 "lowest_terms" ["top","bottom"] Ir)(D:Df K mg "times" d_times ["first","second"]):Fn P w K mg base CX0 42 "times" ["first","second"] (g7 K CFr Vagraa.mul):=by
 refine D.ok zl (λvs H Q E h=>?_) (λf cdv A outer s H vs Q E hr h=>?_)
 .obtain⟨va,vb,a,b,rfl,_⟩:=h
  rfl
 .obtain⟨va,vb,a,b,rfl,⟨pa,rfl,sa⟩,⟨pb,rfl,sb⟩,⟨ha,hb⟩,q⟩:=h
  refine⟨_,af (bg (i:=2) zl.nd rfl (Or.inl rfl) (bh L hr rfl bo (aa (bf bq (pv 0) ax (λ_ _=>rfl)) (aa (bf bq (pv 1) ax (λ_ _=>rfl)) aj))))
   (af (bg (i:=3) zl.nd rfl (Or.inl rfl) (bh L hr rfl bo (aa (bf bq (pv 1) ax (λ_ _=>rfl)) (aa (bf bq (pv 0) ax (λ_ _=>rfl)) aj))))
   (aq (az (ia (aa (ge t8 (bf bq (pv 2) ax (λ_ _=>rfl)) (bf bq (pv 3) ax (λ_ _=>rfl))) (aa (ge t8 (bf bq (pv 2) ax (λ_ _=>rfl)) (bf bq (pv 3) ax (λ_ _=>rfl))) aj)))))),?_⟩
  refine⟨_,rfl,pa,_,_,_,rfl,rfl,sa,rfl,_,rfl,pb,_,_,_,rfl,rfl,sb,rfl,a.num,b.den,rfl,Nat.ne_of_gt hb.pos,λp1 hp1=>?_⟩
  have s1:Same H (upd H p1 (.tup (frV (Vagraa.frac a.num b.den)))):=.new hp1
  have sa1:=s1.seqT sa
  have sb1:=s1.seqT sb
  refine⟨_,rfl,pb,_,_,_,rfl,rfl,sb1,rfl,_,rfl,pa,_,_,_,rfl,rfl,sa1,rfl,b.num,a.den,rfl,Nat.ne_of_gt ha.pos,λp2 hp2=>?_⟩
  have s2:=Same.new (o:=.tup (frV (Vagraa.frac b.num a.den))) hp2
  have x1:SqT K _ p1 (frV (Vagraa.frac a.num b.den)):=s2.seqT (.inl (.inl ak))
  have x2:SqT K (upd (upd H p1 (.tup (frV (Vagraa.frac a.num b.den)))) p2 (.tup (frV (Vagraa.frac b.num a.den)))) p2 (frV (Vagraa.frac b.num a.den)):=.inl (.inl ak)
  obtain⟨z1,z2⟩:=Sz.frac ha.num hb.den hb.pos
  obtain⟨z3,z4⟩:=Sz.frac hb.num ha.den ha.pos
  refine⟨_,rfl,p1,_,_,_,rfl,rfl,x1,rfl,_,rfl,p2,_,_,_,rfl,rfl,x2,rfl,_,_,rfl,rfl,⟨z1.mono (by decide),z3.mono (by decide)⟩,
   _,rfl,p1,_,_,_,rfl,rfl,x1,rfl,_,rfl,p2,_,_,_,rfl,rfl,x2,rfl,_,_,rfl,rfl,⟨z2.mono (by decide),z4.mono (by decide)⟩,(by show 2<=sizeLine;decide),λp3 hp3=>?_⟩
  refine q _ _ (s1.trans (s2.trans (.new hp3))) ?_
  rw[T9 ha.pos hb.pos ha.cop hb.cop]
  dsimp only
  rw[<- Int.natCast_mul]
  exact rFr.new (f:=⟨_,_⟩)
def Ij(K:W.Frag):Sp:=λvs H Q _=>∃ va a,vs=[va]/\rFr K H va a/\a.num≠0/\∀ p,H p=none->Q (.ref p) (upd H p (.tup (frV (Vagraa.inv a))))
theorem Qm:FnScope ["fraction"] ["fraction"] (au d_turned_over):=by trivial
theorem Re(D:Df K mg "turned_over" d_turned_over ["fraction"]):Fn P w K mg base CX0 1 "turned_over" ["fraction"] (Ij K):=by
 refine D.ok Qm (λvs H Q E h=>?_) (λf cdv A outer s H vs Q E hr h=>?_)
 .obtain⟨va,a,rfl,_⟩:=h
  rfl
 .obtain⟨va,a,rfl,⟨pa,rfl,sa⟩,h0,q⟩:=h
  refine⟨_,af (cw (bp G0 (bf bq (pv 0) ax (λ_ _=>rfl)) ax (bv _)) (aq (az (ia (aa (tx jn (bf bq (pv 0) ax (λ_ _=>rfl))) (aa (tx jn (bf bq (pv 0) ax (λ_ _=>rfl))) aj))))) bu)
   (aq (az (ia (aa (bf bq (pv 0) ax (λ_ _=>rfl)) (aa (bf bq (pv 0) ax (λ_ _=>rfl)) aj))))),?_⟩
  refine⟨_,rfl,pa,_,_,_,rfl,rfl,sa,rfl,_,_,rfl,rfl,_,rfl,?_⟩
  refine ite2 (λhn=>?_) (λhn=>?_)
  .have hn:a.num<0:=of_decide_eq_true hn
   have e:Vagraa.inv a=⟨-(a.den:Int),a.num.natAbs⟩:=by unfold Vagraa.inv;rw[if_pos hn]
   have e2:((a.num.natAbs:Nat):Int)=-a.num:=by omega
   unfold frV at q
   rw[e]at q
   dsimp only at q
   rw[e2]at q
   exact⟨_,rfl,pa,_,_,_,rfl,rfl,sa,rfl,_,rfl,_,rfl,pa,_,_,_,rfl,rfl,sa,rfl,_,rfl,(by show 2<=sizeLine;decide),q⟩
  .have hn:¬ a.num<0:=λz=>hn (decide_eq_true z)
   have e:Vagraa.inv a=⟨a.den,a.num.natAbs⟩:=by unfold Vagraa.inv;rw[if_neg hn,if_neg h0]
   have e2:((a.num.natAbs:Nat):Int)=a.num:=by omega
   unfold frV at q
   rw[e]at q
   dsimp only at q
   rw[e2]at q
   exact⟨_,rfl,pa,_,_,_,rfl,rfl,sa,rfl,_,rfl,pa,_,_,_,rfl,rfl,sa,rfl,(by show 2<=sizeLine;decide),q⟩
theorem FrOk.inv{n:Nat}{f:Vagraa.Frac}(h:FrOk n f)(h0:f.num≠0):FrOk n (Vagraa.inv f):=by
 refine⟨(Kw h0 h.cop).1,?_,?_,(Kw h0 h.cop).2⟩
 .unfold Vagraa.inv Sz
  by_cases hn:f.num<0
  .rw[if_pos hn]
   show(-(f.den:Int)).natAbs<2 ^ n
   have:=h.den
   unfold Sz at this
   omega
  .rw[if_neg hn,if_neg h0]
   exact h.den
 .unfold Vagraa.inv Sz
  by_cases hn:f.num<0
  .rw[if_pos hn]
   exact h.num
  .rw[if_neg hn,if_neg h0]
   exact h.num
theorem Qo:FnScope ["first","second"] ["first","second"] (au d_over):=by trivial
theorem Rm(L:Fn P w K mg base CX0 42 "times" ["first","second"] (g7 K CFr Vagraa.mul))(T:Fn P w K mg base CX0 1 "turned_over" ["fraction"] (Ij K))(D:Df K mg "over" d_over ["first","second"]):Fn P w K mg base CX0 43 "over" ["first","second"] (g7 K CFrD Vagraa.div):=by
 refine D.ok Qo (λvs H Q E h=>?_) (λf cdv A outer s H vs Q E hr h=>?_)
 .obtain⟨va,vb,a,b,rfl,_⟩:=h
  rfl
 .obtain⟨va,vb,a,b,rfl,ra,rb,⟨ha,hb,h0⟩,q⟩:=h
  refine⟨_,aq (az (bh L hr rfl bo (aa (pv 0) (aa (bh T (hr.mono (by decide)) rfl bo (aa (pv 1) aj)) aj)))),?_⟩
  refine⟨_,rfl,_,rfl,vb,b,rfl,rb,h0,λp hp=>?_⟩
  have s1:Same H (upd H p (.tup (frV (Vagraa.inv b)))):=.new hp
  exact⟨_,_,a,Vagraa.inv b,rfl,rFr.mono _ _ _ _ s1 ra,rFr.new,⟨ha,hb.inv h0⟩,λv2 H2 s2 r2=>q _ _ (s1.trans s2) r2⟩
theorem Lu(n:Nat):Builtin.Int.intBits (n:Int)=Vagraa.bits n:=by
 unfold Builtin.Int.intBits Vagraa.bits
 by_cases h:n=0
 .subst h
  rfl
 .have h2:((n:Int)==0)=false:=by simp;omega
  rw[h2,if_neg h]
  rfl
def qx(K:W.Frag):Sp:=λvs H Q _=>∃ va a,vs=[va]/\rFr K H va a/\Q (.int (Vagraa.weight a:Nat)) H
theorem Jc:FnScope ["fraction"] ["fraction"] (au d_weight):=by trivial
theorem J4(B:Blt mg)(D:Df K mg "weight" d_weight ["fraction"]):Fn P w K mg base CX0 1 "weight" ["fraction"] (qx K):=by
 refine D.ok Jc (λvs H Q E h=>?_) (λf cdv A outer s H vs Q E hr h=>?_)
 .obtain⟨va,a,rfl,_⟩:=h
  rfl
 .obtain⟨va,a,rfl,⟨pa,rfl,sa⟩,q⟩:=h
  refine⟨_,aq (az (ge qc (Pk PySem.F.plainAttrs_int PySem.F.slot_int_bit_length PySem.F.type_int_bit_length Kj (bj Am rfl B.abs boot_abs (aa (bf bq (pv 0) ax (λ_ _=>rfl)) aj)))
   (Pk PySem.F.plainAttrs_int PySem.F.slot_int_bit_length PySem.F.type_int_bit_length Kj (bf bq (pv 0) ax (λ_ _=>rfl))))),?_⟩
  refine⟨_,rfl,pa,_,_,_,rfl,rfl,sa,rfl,_,rfl,rfl,_,rfl,rfl,_,rfl,pa,_,_,_,rfl,rfl,sa,rfl,rfl,_,rfl,rfl,_,_,rfl,rfl,?_⟩
  rw[Ev,Lu,Lu]
  exact q
end
theorem lp:∀ (k:Nat) (l:List Int) (fs:List Vagraa.Frac),l.length<=k->VagraLine.fracsOf l=some fs->l.length=2*fs.length
 | _,[],fs,_,h=>by
  unfold VagraLine.fracsOf at h
  cases h
  rfl
 | _,[_],fs,_,h=>by
  unfold VagraLine.fracsOf at h
  cases h
 | k,n::d::r,fs,hk,h=>by
  unfold VagraLine.fracsOf at h
  split at h
  .cases h
  .cases e:VagraLine.fracsOf r with
   | none=>
    rw[e]at h
    cases h
   | some gs=>
    rw[e]at h
    cases h
    have hk':r.length+2<=k:=hk
    have ih:=lp (k - 2) r gs (by omega) e
    show r.length+2=2*(gs.length+1)
    omega
theorem j0{n d:Int}{r:List Int}:VagraLine.fracsOf (n::d::r)=if d<1 then none else (VagraLine.fracsOf r).map λl=>Vagraa.frac n d.toNat::l:=by rw[VagraLine.fracsOf]
theorem K8{n:Nat}{l:List Int}(h:¬ l.length=2*n):Vagrak.fracs n l=.error (-2):=by
 unfold Vagrak.fracs
 cases e:VagraLine.fracsOf l with
 | none=>rfl
 | some fs=>
  have:=lp l.length l fs (Nat.le_refl _) e
  show(if fs.length=n then _ else _)=_
  rw[if_neg (by omega)]
theorem Hg{n:Nat}{l:List Int}(h:VagraLine.fracsOf l=none):Vagrak.fracs n l=.error (-2):=by
 unfold Vagrak.fracs
 rw[h]
theorem Hf{n:Nat}{l:List Int}{fs:List Vagraa.Frac}(h:VagraLine.fracsOf l=some fs)(hn:l.length=2*n):Vagrak.fracs n l=.ok fs:=by
 unfold Vagrak.fracs
 have:=lp l.length l fs (Nat.le_refl _) h
 rw[h]
 show(if fs.length=n then _ else _)=_
 rw[if_pos (by omega)]
theorem Ou{α:Type}{l:List α}{i:Nat}(h:i+1<l.length):∃ a b,l[i]? = some a/\l[i+1]? = some b/\l.drop i=a::b::l.drop (i+2):=by
 refine⟨l[i],l[i+1],List.getElem?_eq_getElem (by omega),List.getElem?_eq_getElem h,?_⟩
 rw[List.drop_eq_getElem_cons (show i<l.length by omega),List.drop_eq_getElem_cons h]
theorem Qv(n:Nat)(h:n<=1000000):RgC 0 ((2*n:Nat):Int) 2 n:=by
 have e:Builtin.Range.rangeSize 0 ((2*n:Nat):Int) 2=(n:Int):=by
  unfold Builtin.Range.rangeSize
  rw[if_pos (by decide)]
  split <;> omega
 refine⟨by decide,by decide,?_,e⟩
 unfold Builtin.Range.small
 rw[e]
 have h2:∀ k:Int,0<=k->k<=4000000->Builtin.Range.rangeFitsLong k=true:=λk a b=>by
  unfold Builtin.Range.rangeFitsLong
  rw[Bool.and_eq_true]
  exact⟨decide_eq_true (by omega),decide_eq_true (by omega)⟩
 simp only[h2 0 (by omega) (by omega),h2 2 (by omega) (by omega),h2 ((2*n:Nat):Int) (by omega) (by omega),h2 (n:Int) (by omega) (by omega),if_pos (show(2:Int) > 0 by decide),h2 (((2*n:Nat):Int)+(2 - 1)) (by omega) (by omega),Bool.or_true,Bool.and_self]
section
variable{P:Program}{w:World}{K:W.Frag}{mg:Str->Option Value}{base:Heap}
def Il(K:W.Frag)(CW:Addr):Sp:=λvs H Q E=>∃ vl l n,vs=[vl,.int (n:Nat)]/\rLs K rInt H vl l/\l.length<=1000000 /\
 (∀ fs p H',Vagrak.fracs n l=.ok fs->H p=none->Same H H'->rLs K (rFr K) H' (.ref p) fs->Q (.ref p) H')/\(∀ H',Vagrak.fracs n l=.error (-2)->Same H H'->E (.ref CW) none H')
theorem Dk:FnScope ["numbers","how_many","fractions","place"] ["numbers","how_many"] (au d_read_fractions):=by trivial
theorem Ri{CW:Addr}(B:Blt mg)(W:Err K mg "WrongForm" CW)(L:Fn P w K mg base CX0 41 "lowest_terms" ["top","bottom"] Ir)(D:Df K mg "read_fractions" d_read_fractions ["numbers","how_many"]) :
  Fn P w K mg base (CXE P w) 42 "read_fractions" ["numbers","how_many"] (Il K CW):=by
 refine D.okE Dk (λvs H Q E h=>?_) (λf cdv A outer s H vs Q E hr h=>?_)
 .obtain⟨vl,l,n,rfl,_⟩:=h
  rfl
 .obtain⟨vl,l,n,rfl,hl,hlen,q,qe⟩:=h
  obtain⟨a,rfl,sl⟩:=rLs.ints.mp hl
  refine⟨_,af (cw (bp J0 (bj be rfl B.len PySem.boot_len (aa (pv 0) aj)) (ge Tn ax (pv 1)) (bv _)) (aq (cn cz rfl rfl W.mg W.ex)) bu)
   (af (bg (i:=2) Dk.nd rfl (Or.inl rfl) (cu aj))
   (af (fj m9 rfl (Jv rfl B.range (aa ax (aa (bj be rfl B.len PySem.boot_len (aa (pv 0) aj)) (aa ax aj)))) (bi (i:=3) Dk.nd rfl (Or.inl rfl))
    (af (cw (bp G0 (bf bc (pv 0) (ge qc (pv 3) ax) (λ_ _=>rfl)) ax (bv _)) (aq (cn cz rfl rfl W.mg W.ex)) bu)
    (aq (cf (ju PySem.F.plainAttrs_list PySem.F.slot_list_append PySem.F.type_list_append d8 (pv 2) (aa (bh L (hr.mono (by decide)) rfl bo (aa (bf bc (pv 0) (pv 3) (λ_ _=>rfl)) (aa (bf bc (pv 0) (ge qc (pv 3) ax) (λ_ _=>rfl)) aj))) aj))))))
   (aq (az (pv 2))))),?_⟩
  refine⟨_,rfl,a,_,rfl,.inl sl,_,rfl,_,_,rfl,rfl,.inl ⟨by decide,by decide⟩,rfl,_,rfl,?_⟩
  refine ite2 (λhc=>?_) (λhc=>?_)
  .have hne:¬ l.length=2*n:=λz=>by
    rw[List.length_map,z]at hc
    simp at hc
   exact qe H (K8 hne) (.refl H)
  .have hn:l.length=2*n:=by
    simp at hc
    omega
   refine⟨Nat.zero_le _,λp hp=>?_⟩
   have s1:Same H (upd H p (.lst [])):=.new hp
   refine⟨_,rfl,a,_,rfl,.inl (s1.seq sl),0,_,2,n,rfl,(by rw[List.length_map,hn];exact Qv n (by omega)),Hh (λi Z H'=>∃ pl xs fs,Z=[some (.ref a),some (.int (n:Nat)),some (.ref p),pl]/\Same H H'/\H' p=some (.lst xs)/\Paired (rFr K H') xs fs/\xs.length=i /\
    VagraLine.fracsOf l=(VagraLine.fracsOf (l.drop (2*i))).map (fs++·)) ⟨none,[],[],rfl,s1,ak,.nil,rfl,?_⟩ ?_ ?_⟩
   .show VagraLine.fracsOf l=(VagraLine.fracsOf l).map ([]++·)
    cases VagraLine.fracsOf l <;> rfl
   .rintro i Z H' hi ⟨pl,xs,fs,rfl,s2,hp',pr,hx,hf⟩
    obtain⟨t,d,ht,hd,hdr⟩:=Ou (l:=l) (i:=2*i) (by omega)
    have sl':=s2.seq sl
    have e1:(0:Int)+(i:Nat)*2=((2*i:Nat):Int):=by omega
    have e2:(0:Int)+(i:Nat)*2+1=((2*i+1:Nat):Int):=by omega
    have g1:(l.map V.int)[2*i]? = some (V.int t):=by rw[List.getElem?_map,ht];rfl
    have g2:(l.map V.int)[2*i+1]? = some (V.int d):=by rw[List.getElem?_map,hd];rfl
    refine⟨_,rfl,_,rfl,_,_,rfl,rfl,a,_,_,_,rfl,rfl,sl',ck e2 g2,_,_,rfl,rfl,_,rfl,?_⟩
    refine ite2 (λhc=>?_) (λhc=>?_)
    .have hc:d<1:=of_decide_eq_true hc
     refine qe H' (Hg ?_) s2
     rw[hf,hdr,j0,if_pos hc]
     rfl
    .have hc:¬ d<1:=λz=>hc (decide_eq_true z)
     refine⟨_,rfl,.inl ⟨rfl,_,SqL.of hp'⟩,_,rfl,_,rfl,a,_,_,_,rfl,rfl,sl',ck e1 g1,_,rfl,_,rfl,_,_,rfl,rfl,a,_,_,_,rfl,rfl,sl',ck e2 g2,t,d.toNat,(by show _=[V.int t,V.int ((d.toNat:Nat):Int)];rw[Int.toNat_of_nonneg (by omega)];rfl),(by omega),λp2 hp2=>?_⟩
     have hne:p≠p2:=ba hp' hp2
     refine⟨p,_,_,rfl,rfl,(by rw[ay hne];exact hp'),(by rw[hx];show i<sizeLine;rw[sizeLine_eq];omega),?_⟩
     have s3:Same H' (upd H' p2 (.tup (frV (Vagraa.frac t d.toNat)))):=.new hp2
     have s4:Same H (upd (upd H' p2 (.tup (frV (Vagraa.frac t d.toNat)))) p (.lst (xs++[.ref p2]))):=.set hp (s2.trans s3)
     refine⟨_,xs++[.ref p2],fs++[Vagraa.frac t d.toNat],rfl,s4,ak,?_,by rw[List.length_append,hx];rfl,?_⟩
     .refine gg (pz rFr.avT hp' (Sb.trans s3.sb Sb.upd) pr) ⟨p2,rfl,?_⟩
      exact .inl (.inl (by rw[ay (Ne.symm hne)];exact ak))
     .rw[hf,hdr,j0,if_neg hc]
      show _=Option.map _ (VagraLine.fracsOf (l.drop (2*i+2)))
      cases VagraLine.fracsOf (l.drop (2*i+2)) with
      | none=>rfl
      | some z=>simp
   .rintro Z H' ⟨pl,xs,fs,rfl,s2,hp',pr,hx,hf⟩
    rw[List.drop_of_length_le (by omega)]at hf
    have hf2:VagraLine.fracsOf l=some fs:=by
     rw[hf]
     show some (fs++[])=_
     rw[List.append_nil]
    exact⟨_,rfl,q fs p H' (Hf hf2 hn) hp s2 ⟨p,xs,rfl,SqL.of hp',pr⟩⟩
end
end Sp
end
section
namespace Sp
open VagraLine (Line Code codeOf)
def behind(k:Int):Option Nat:=if k=0\/k=6 then some 1 else if 1<=k/\k<=5 then some 2 else none
def wf(a:List Int):Bool:=if a.headD 0=1 then decide (1<=a.getD 2 0) else (a.drop 1).all λi=>decide (0<=i)
def cq(l:List Int):Option (List Int×List Int):=match l with
 | []=>none
 | k::r=>match behind k with
  | none=>none
  | some m=>if r.length<m then none else if wf (k::r.take m)=true then some (k::r.take m,r.drop m) else none
def bz(a:List Int):Line:=
 if a.headD 0=0 then .input (a.getD 1 0).toNat
 else if a.headD 0=1 then .num (Vagraa.frac (a.getD 1 0) (a.getD 2 0).toNat)
 else if a.headD 0=2 then .add (a.getD 1 0).toNat (a.getD 2 0).toNat
 else if a.headD 0=3 then .sub (a.getD 1 0).toNat (a.getD 2 0).toNat
 else if a.headD 0=4 then .mul (a.getD 1 0).toNat (a.getD 2 0).toNat
 else if a.headD 0=5 then .div (a.getD 1 0).toNat (a.getD 2 0).toNat
 else .neg (a.getD 1 0).toNat
def fi:Nat->List Int->Option (List (List Int))
 | _,[]=>some []
 | 0,_::_=>none
 | f+1,k::r=>(cq (k::r)).bind λx=>(fi f x.2).map (x.1::·)
structure RawOk(a:List Int):Prop where
 ex:∃ k r m,a=k::r/\behind k=some m/\r.length=m
 good:wf a=true
theorem fh:∀ {k:Int} {m:Nat},behind k=some m->(k=0/\m=1)\/(k=1/\m=2)\/(k=2/\m=2)\/(k=3/\m=2)\/(k=4/\m=2)\/(k=5/\m=2)\/(k=6/\m=1)
 | .ofNat 0,_,h=>.inl ⟨rfl,(Option.some.inj h).symm⟩
 | .ofNat 1,_,h=>.inr (.inl ⟨rfl,(Option.some.inj h).symm⟩)
 | .ofNat 2,_,h=>.inr (.inr (.inl ⟨rfl,(Option.some.inj h).symm⟩))
 | .ofNat 3,_,h=>.inr (.inr (.inr (.inl ⟨rfl,(Option.some.inj h).symm⟩)))
 | .ofNat 4,_,h=>.inr (.inr (.inr (.inr (.inl ⟨rfl,(Option.some.inj h).symm⟩))))
 | .ofNat 5,_,h=>.inr (.inr (.inr (.inr (.inr (.inl ⟨rfl,(Option.some.inj h).symm⟩)))))
 | .ofNat 6,_,h=>.inr (.inr (.inr (.inr (.inr (.inr ⟨rfl,(Option.some.inj h).symm⟩)))))
 | .ofNat (n+7),m,h=>by
  rw[Int.ofNat_eq_natCast,behind,if_neg (by omega),if_neg (by omega)]at h
  cases h
 | .negSucc n,m,h=>nomatch (show none=some m from h)
theorem u7{k:Int}(h:behind k=none):k<0\/6<k:=by
 unfold behind at h
 split at h
 .cases h
 .split at h
  .cases h
  .omega
theorem lj{l a s:List Int}(h:cq l=some (a,s)):RawOk a/\l=a++s/\2<=a.length:=by
 unfold cq at h
 split at h
 .cases h
 .next k r=>
  split at h
  .cases h
  .next m hm=>
   split at h
   .cases h
   .next hl=>
    split at h
    .next hw=>
     cases h
     have hlt:(r.take m).length=m:=by rw[List.length_take];omega
     refine⟨⟨⟨k,r.take m,m,rfl,hm,hlt⟩,hw⟩,by simp,?_⟩
     rcases fh hm with ⟨_,e⟩|⟨_,e⟩|⟨_,e⟩|⟨_,e⟩|⟨_,e⟩|⟨_,e⟩|⟨_,e⟩ <;> (rw[List.length_cons,hlt];omega)
    .cases h
theorem i7{P:Int->Prop}(o:∀ n:Nat,P ((n+7:Nat):Int))(q:∀ n,P (.negSucc n)):∀ {k:Int},k<0\/6<k->P k
 | .negSucc n,_=>q n
 | .ofNat n,h=>by
  obtain⟨m,rfl⟩:∃ m,n=m+7:=⟨n - 7,by rw[Int.ofNat_eq_natCast]at h;omega⟩
  exact o m
theorem C4{k:Int}{r:List Int}{m:Nat}{b:Bool}(hb:behind k=some m)(hl:m<=r.length)(hw:wf (k::r.take m)=b):cq (k::r)=if b=true then some (k::r.take m,r.drop m) else none:=by
 unfold cq
 dsimp only
 rw[hb]
 dsimp only
 rw[if_neg (Nat.not_lt.mpr hl),hw]
theorem S7{f:Nat}{k:Int}{g:Nat->Line}(hb:behind k=some 1)(hw:∀ i,wf [k,i]=(decide (0<=i)&&true))(h0:codeOf (f+1) [k]=none)(h2:∀ i s,codeOf (f+1) (k::i::s)=if i<0 then none else (codeOf f s).map λc=>g i.toNat::c)(hl:∀ i,bz [k,i]=g i.toNat):∀ r,codeOf (f+1) (k::r)=(cq (k::r)).bind λx=>(codeOf f x.2).map (bz x.1::·)
 | []=>by
  rw[h0]
  unfold cq
  dsimp only
  rw[hb]
  rfl
 | i::s=>by
  rw[h2,C4 (r:=i::s) hb (by simp) (hw i)]
  by_cases hi:i<0
  .rw[if_pos hi,decide_eq_false (by omega)]
   rfl
  .rw[if_neg hi,decide_eq_true (by omega)]
   show _=(codeOf f s).map (bz [k,i]::·)
   rw[hl]
theorem Mh{f:Nat}{k:Int}{g:Nat->Nat->Line}(hb:behind k=some 2)(hw:∀ i j,wf [k,i,j]=(decide (0<=i)&&(decide (0<=j)&&true)))(h0:codeOf (f+1) [k]=none)(h1:∀ i,codeOf (f+1) [k,i]=none)(h2:∀ i j s,codeOf (f+1) (k::i::j::s)=if i<0\/j<0 then none else (codeOf f s).map λc=>g i.toNat j.toNat::c)(hl:∀ i j,bz [k,i,j]=g i.toNat j.toNat):∀ r,codeOf (f+1) (k::r)=(cq (k::r)).bind λx=>(codeOf f x.2).map (bz x.1::·)
 | []=>by
  rw[h0]
  unfold cq
  dsimp only
  rw[hb]
  rfl
 | [i]=>by
  rw[h1]
  unfold cq
  dsimp only
  rw[hb]
  rfl
 | i::j::s=>by
  rw[h2,C4 (r:=i::j::s) hb (by simp) (hw i j)]
  by_cases hi:i<0
  .rw[if_pos (.inl hi),decide_eq_false (by omega)]
   rfl
  .rw[decide_eq_true (show 0<=i by omega)]
   by_cases hj:j<0
   .rw[if_pos (.inr hj),decide_eq_false (by omega)]
    rfl
   .rw[if_neg (by omega),decide_eq_true (by omega)]
    show _=(codeOf f s).map (bz [k,i,j]::·)
    rw[hl]
theorem Ep(f:Nat)(k:Int)(r:List Int):codeOf (f+1) (k::r)=(cq (k::r)).bind λx=>(codeOf f x.2).map (bz x.1::·):=by
 cases hb:behind k with
 | none=>
  have e:cq (k::r)=none:=by
   unfold cq
   dsimp only
   rw[hb]
  rw[e]
  exact i7 (P:=λk=>codeOf (f+1) (k::r)=none) (λ_=>rfl) (λ_=>rfl) (u7 hb)
 | some m=>
  rcases fh hb with ⟨rfl,rfl⟩|⟨rfl,rfl⟩|⟨rfl,rfl⟩|⟨rfl,rfl⟩|⟨rfl,rfl⟩|⟨rfl,rfl⟩|⟨rfl,rfl⟩
  .exact S7 rfl (λ_=>rfl) rfl (λ_ _=>rfl) (λ_=>rfl) r
  .rcases r with _|⟨i,_|⟨j,s⟩⟩
   .rfl
   .rfl
   .rw[C4 hb (by simp) (b:=decide (1<=j)) rfl]
    by_cases hj:j<1
    .rw[decide_eq_false (by omega)]
     exact if_pos hj
    .rw[decide_eq_true (by omega)]
     exact if_neg hj
  .exact Mh rfl (λ_ _=>rfl) rfl (λ_=>rfl) (λ_ _ _=>rfl) (λ_ _=>rfl) r
  .exact Mh rfl (λ_ _=>rfl) rfl (λ_=>rfl) (λ_ _ _=>rfl) (λ_ _=>rfl) r
  .exact Mh rfl (λ_ _=>rfl) rfl (λ_=>rfl) (λ_ _ _=>rfl) (λ_ _=>rfl) r
  .exact Mh rfl (λ_ _=>rfl) rfl (λ_=>rfl) (λ_ _ _=>rfl) (λ_ _=>rfl) r
  .exact S7 rfl (λ_=>rfl) rfl (λ_ _=>rfl) (λ_=>rfl) r
theorem oy:∀ (f:Nat) (l:List Int),codeOf f l=(fi f l).map (·.map bz)
 | f,[]=>by
  cases f <;> rfl
 | 0,_::_=>rfl
 | f+1,k::r=>by
  rw[Ep,fi]
  cases cq (k::r) with
  | none=>rfl
  | some x=>
   show(codeOf f x.2).map _=Option.map _ ((fi f x.2).map _)
   rw[oy f x.2]
   cases fi f x.2 <;> rfl
theorem Ff:∀ (f:Nat) (l:List Int) (rs:List (List Int)),fi f l=some rs->(∀ a∈rs,RawOk a)/\l=rs.flatten
 | f,[],rs,h=>by
  have e:rs=[]:=by cases f <;> (unfold fi at h;cases h;rfl)
  subst e
  exact⟨λa ha=>(nomatch ha),rfl⟩
 | 0,_::_,rs,h=>by
  unfold fi at h
  cases h
 | f+1,k::r,rs,h=>by
  rw[fi]at h
  cases e:cq (k::r) with
  | none=>
   rw[e]at h
   cases h
  | some x=>
   rw[e]at h
   have h2:(fi f x.2).map (x.1::·)=some rs:=h
   cases e2:fi f x.2 with
   | none=>
    rw[e2]at h2
    cases h2
   | some ts=>
    rw[e2]at h2
    cases h2
    obtain⟨h3,h4,_⟩:=lj e
    obtain⟨h5,h6⟩:=Ff f x.2 ts e2
    refine⟨λa ha=>?_,by rw[h4,h6];rfl⟩
    rcases List.mem_cons.mp ha with z|z
    .rw[z];exact h3
    .exact h5 a z
theorem px:∀ (f g:Nat) (l:List Int),l.length<=f->l.length<=g->fi f l=fi g l
 | f,g,[],_,_=>by cases f <;> cases g <;> rfl
 | 0,_,_::_,h,_=>by simp at h
 | _,0,_::_,_,h=>by simp at h
 | f+1,g+1,k::r,hf,hg=>by
  rw[fi,fi]
  cases e:cq (k::r) with
  | none=>rfl
  | some x=>
   obtain⟨_,h4,h5⟩:=lj e
   have hl:(k::r).length=x.1.length+x.2.length:=by rw[h4,List.length_append]
   have hl':r.length+1=x.1.length+x.2.length:=hl
   have hf':r.length+1<=f+1:=hf
   have hg':r.length+1<=g+1:=hg
   show(fi f x.2).map _=(fi g x.2).map _
   rw[px f g x.2 (by omega) (by omega)]
def cp(a:List Int):List Int:=if a.headD 0=0\/a.headD 0=1 then [] else a.drop 1
def g8(inputs:Nat)(number:Nat)(a:List Int):Bool:=!(decide (a.headD 0=0)&&decide ((inputs:Int)<=a.getD 1 0))&&!((cp a).any λi=>decide ((number:Int)<=i))
def cx(inputs:Nat):Nat->List (List Int)->Bool
 | _,[]=>true
 | n,a::r=>g8 inputs n a&&cx inputs (n+1) r
theorem RawOk.shape{a:List Int}(h:RawOk a):(∃ i,a=[0,i]/\0<=i)\/(∃ n d,a=[1,n,d]/\1<=d)\/(∃ k i j,a=[k,i,j]/\2<=k/\k<=5/\0<=i/\0<=j)\/(∃ i,a=[6,i]/\0<=i):=by
 obtain⟨⟨k,r,m,rfl,hb,hl⟩,hw⟩:=h
 rcases fh hb with ⟨rfl,rfl⟩|⟨rfl,rfl⟩|⟨rfl,rfl⟩|⟨rfl,rfl⟩|⟨rfl,rfl⟩|⟨rfl,rfl⟩|⟨rfl,rfl⟩
 .rcases r with _|⟨i,_|⟨j,r⟩⟩ <;> simp at hl
  exact .inl ⟨i,rfl,by simpa [wf] using hw⟩
 .rcases r with _|⟨i,_|⟨j,_|⟨q,r⟩⟩⟩ <;> simp at hl
  exact .inr (.inl ⟨i,j,rfl,by simpa [wf] using hw⟩)
 .rcases r with _|⟨i,_|⟨j,_|⟨q,r⟩⟩⟩ <;> simp at hl
  exact .inr (.inr (.inl ⟨2,i,j,rfl,by omega,by omega,by simpa [wf] using hw⟩))
 .rcases r with _|⟨i,_|⟨j,_|⟨q,r⟩⟩⟩ <;> simp at hl
  exact .inr (.inr (.inl ⟨3,i,j,rfl,by omega,by omega,by simpa [wf] using hw⟩))
 .rcases r with _|⟨i,_|⟨j,_|⟨q,r⟩⟩⟩ <;> simp at hl
  exact .inr (.inr (.inl ⟨4,i,j,rfl,by omega,by omega,by simpa [wf] using hw⟩))
 .rcases r with _|⟨i,_|⟨j,_|⟨q,r⟩⟩⟩ <;> simp at hl
  exact .inr (.inr (.inl ⟨5,i,j,rfl,by omega,by omega,by simpa [wf] using hw⟩))
 .rcases r with _|⟨i,_|⟨j,r⟩⟩ <;> simp at hl
  exact .inr (.inr (.inr ⟨i,rfl,by simpa [wf] using hw⟩))
theorem D9{a:List Int}(h:RawOk a):(bz a).uses=(cp a).map Int.toNat:=by
 rcases h.shape with ⟨i,rfl,h1⟩|⟨n,d,rfl,h1⟩|⟨k,i,j,rfl,h1,h2,h3,h4⟩|⟨i,rfl,h1⟩
 .rfl
 .rfl
 .have hk:k=2\/k=3\/k=4\/k=5:=by omega
  rcases hk with rfl|rfl|rfl|rfl <;> rfl
 .rfl
theorem Hy{inputs n:Nat}{a:List Int}(h:RawOk a):g8 inputs n a=((bz a).uses.all (λi=>decide (i<n))&&(match bz a with | .input k=>decide (k<inputs)|_=>true)):=by
 rw[Bool.eq_iff_iff]
 rcases h.shape with ⟨i,rfl,h1⟩|⟨m,d,rfl,h1⟩|⟨k,i,j,rfl,h1,h2,h3,h4⟩|⟨i,rfl,h1⟩
 .simp[g8,cp,bz,Line.uses]
  omega
 .simp[g8,cp,bz,Line.uses]
 .have hk:k=2\/k=3\/k=4\/k=5:=by omega
  rcases hk with rfl|rfl|rfl|rfl <;> (simp[g8,cp,bz,Line.uses];omega)
 .simp[g8,cp,bz,Line.uses]
  omega
theorem sf(inputs:Nat):∀ (n:Nat) (rs:List (List Int)),(∀ a∈rs,RawOk a)->cx inputs n rs=VagraLine.wellFrom inputs n (rs.map bz)
 | _,[],_=>rfl
 | n,a::r,h=>by
  rw[cx,sf inputs (n+1) r λb hb=>h b (List.mem_cons_of_mem _ hb),Hy (h a (List.mem_cons_self ..))]
  rfl
end Sp
end
section
namespace Sp
open PySem PySem.Spec PyProof.Rows L2
def Gc(mg:Str->Option Value)(x:Str)(n:Int):Prop:=∃ t,mg x=some (.int n t)
theorem br{X:Cx}{x:Str}{n:Int}{pos:Pos}(g:Gc X.mg x n)(hg:Gl X x)(hd:(x==("__debug__":Str))=false:=by decide):PE X (.Name x pos) (tC (.int n)):=by
 obtain⟨t,h⟩:=g
 exact i8 hg h ⟨t,rfl⟩ hd
structure Kinds(mg:Str->Option Value):Prop where
 input:Gc mg "INPUT" 0
 constant:Gc mg "CONSTANT" 1
 sum:Gc mg "SUM" 2
 difference:Gc mg "DIFFERENCE" 3
 product:Gc mg "PRODUCT" 4
 quotient:Gc mg "QUOTIENT" 5
 opposite:Gc mg "OPPOSITE" 6
section
variable{P:Program}{w:World}{K:W.Frag}{mg:Str->Option Value}{base:Heap}
theorem Ov(k:Int)(r:List Int):cutV ((k::r).map V.int) (some 1) none=r.map V.int:=by
 unfold cutV
 have e1:HT.sIx ((k::r).map V.int).length 0 (some 1)=1:=by
  show min 1 ((k::r).map V.int).length=1
  rw[List.length_map,List.length_cons]
  omega
 rw[e1]
 show List.take (((k::r).map V.int).length - 1) (List.drop 1 ((k::r).map V.int))=_
 simp
 exact List.take_of_length_le (by simp)
theorem f9(i j:Int):decide (V.int i=V.int j)=decide (i=j):=by
 rw[Bool.eq_iff_iff]
 simp
def spWf(K:W.Frag):Sp:=λvs H Q _=>∃ v k r,vs=[v]/\rTp K rInt H v (k::r)/\r≠[]/\(k=1->r.length=2)/\∀ H',Same H H'->Q (.bl (wf (k::r))) H'
theorem U8:FnScope ["line"] ["line"] (au d_well_formed):=by trivial
theorem Vf(B:Blt mg)(C:Kinds mg)(D:Df K mg "well_formed" d_well_formed ["line"]):Fn P w K mg base CX0 1 "well_formed" ["line"] (spWf K):=by
 refine D.ok U8 (λvs H Q E h=>?_) (λf cdv A outer s H vs Q E hr h=>?_)
 .obtain⟨v,k,r,rfl,_⟩:=h
  rfl
 .obtain⟨v,k,r,rfl,hv,hne,h1,q⟩:=h
  obtain⟨a,rfl,sa⟩:=rTp.ints.mp hv
  refine⟨_,af (cw (bp fe (bf bq (pv 0) ax (λ_ _=>rfl)) (br C.constant rfl) (bv _)) (aq (az (i9 J1 (bf bq (pv 0) ax (λ_ _=>rfl)) ax (bv _)))) bu)
   (aq (az (i9 J1 (bj (Sm rfl) rfl B.min boot_min (aa (rk Pa (pv 0) (oj ax) Jt) aj)) ax (bv _)))),?_⟩
  refine⟨_,rfl,a,_,_,V.int k,rfl,rfl,sa,ck (j:=0) rfl rfl,rfl,_,rfl,?_⟩
  refine ite2 (λhc=>?_) (λhc=>?_)
  .have hk:k=1:=by simpa using hc
   subst hk
   rcases r with _|⟨i,_|⟨j,_|⟨z,r⟩⟩⟩ <;> simp at h1
   refine⟨_,rfl,a,_,_,V.int j,rfl,rfl,sa,rfl,_,_,rfl,rfl,?_⟩
   have e:wf [1,i,j]=decide (1<=j):=rfl
   have z:=q H (.refl H)
   rw[e]at z
   exact z
  .have hk:¬ k=1:=by simpa using hc
   have hl:0<r.length:=List.length_pos_iff.mpr hne
   refine⟨_,rfl,_,rfl,a,_,rfl,sa,?_,λp hp=>?_⟩
   .show ¬ (min 1 (r.map V.int).length.succ=0/\_)
    intro z
    have:=z.1
    omega
   .have ec:cutV ((k::r).map V.int) (some 1) none=r.map V.int:=by
     unfold cutV
     have e1:HT.sIx ((k::r).map V.int).length 0 (some 1)=1:=by
      show min 1 ((k::r).map V.int).length=1
      rw[List.length_map,List.length_cons]
      omega
     rw[e1]
     show List.take (((k::r).map V.int).length - 1) (List.drop 1 ((k::r).map V.int))=_
     simp
     exact List.take_of_length_le (by simp)
    rw[ec]
    refine⟨p,r,rfl,.inl (.inl ak),hl,λm hm hmin=>?_⟩
    refine⟨_,_,rfl,rfl,?_⟩
    have e2:wf (k::r)=decide (0<=m):=by
     unfold wf
     rw[if_neg (by simpa using hk)]
     show r.all _=_
     rw[Bool.eq_iff_iff]
     simp only[List.all_eq_true,decide_eq_true_eq]
     exact⟨λz=>z m hm,λz y hy=>Int.le_trans z (hmin y hy)⟩
    have z:=q (upd H p (.tup (r.map V.int))) (.new hp)
    rw[e2]at z
    exact z
def Nb(K:W.Frag)(mg:Str->Option Value):Prop:=∃ a,mg "NUMBERS_BEHIND"=some (.ref a)/\∀ H,SqT K H a (([1,2,2,2,2,2,1]:List Int).map V.int)
def ze(K:W.Frag)(CW:Addr):Sp:=λvs H Q E=>∃ vl l j,vs=[vl,.int (j:Nat)]/\rLs K rInt H vl l/\j<l.length /\
 (∀ a rest v H',cq (l.drop j)=some (a,rest)->Same H H'->rTp K rInt H' v a->Q v H')/\(∀ H',cq (l.drop j)=none->Same H H'->E (.ref CW) none H')
theorem Gi(l:List Int){i j:Nat}(hij:i<=j)(hj:j<=l.length):cutV (l.map V.int) (some (i:Int)) (some (j:Int))=((l.drop i).take (j - i)).map V.int:=by
 unfold cutV
 rw[HT.sIx_nat,HT.sIx_nat,List.length_map,Nat.min_eq_left (show i<=l.length by omega),Nat.min_eq_left hj,<- List.map_drop,<- List.map_take]
theorem mj:FnScope ["numbers","place","kind","end","line"] ["numbers","place"] (au d_line_at):=by trivial
theorem Lv{k:Int}{m:Nat}(h:behind k=some m):0<=k/\k<=6/\atI (([1,2,2,2,2,2,1]:List Int).map V.int) k=some (.int m):=by
 rcases fh h with ⟨rfl,rfl⟩|⟨rfl,rfl⟩|⟨rfl,rfl⟩|⟨rfl,rfl⟩|⟨rfl,rfl⟩|⟨rfl,rfl⟩|⟨rfl,rfl⟩ <;> exact⟨by decide,by decide,rfl⟩
theorem J8{CW:Addr}(B:Blt mg)(C:Kinds mg)(N:Nb K mg)(W:Err K mg "WrongForm" CW)(G:Fn P w K mg base CX0 1 "well_formed" ["line"] (spWf K))(D:Df K mg "line_at" d_line_at ["numbers","place"]) :
  Fn P w K mg base (CXE P w) 2 "line_at" ["numbers","place"] (ze K CW):=by
 refine D.okE mj (λvs H Q E h=>?_) (λf cdv A outer s H vs Q E hr h=>?_)
 .obtain⟨vl,l,j,rfl,_⟩:=h
  rfl
 .obtain⟨vl,l,j,rfl,hl,hj,q,qe⟩:=h
  obtain⟨a,rfl,sl⟩:=rLs.ints.mp hl
  obtain⟨aN,hN,sN⟩:=N
  refine⟨_,af (bg (i:=2) mj.nd rfl (Or.inl rfl) (bf bc (pv 0) (pv 1) (λ_ _=>rfl)))
   (af (cw (PW.pt (Te (bp G0 (pv 2) (br C.input rfl) (bv _)) (Pf (bp Dy (pv 2) (br C.opposite rfl) (bv _))))) (aq (cn cz rfl rfl W.mg W.ex)) bu)
   (af (bg (i:=3) mj.nd rfl (Or.inl rfl) (ge qc (ge qc (pv 1) ax) (bf bq (i8 rfl hN (v:=.ref aN) rfl) (pv 2) (λ_ _=>rfl))))
   (af (cw (bp Dy (pv 3) (bj be rfl B.len PySem.boot_len (aa (pv 0) aj)) (bv _)) (aq (cn cz rfl rfl W.mg W.ex)) bu)
   (af (bg (i:=4) mj.nd rfl (Or.inl rfl) (mq Al rfl B.tuple PyProof.Rows.boot_tuple (aa (rk Iz (pv 0) (oj (pv 1)) (oj (pv 3))) aj)))
   (af (cw (kq (gm (bh G (hr.mono (by decide)) rfl bo (aa (pv 4) aj)))) (aq (cn cz rfl rfl W.mg W.ex)) bu)
   (aq (az (pv 4)))))))),?_⟩
  obtain⟨k,hk⟩:∃ k,l[j]? = some k:=⟨l[j],List.getElem?_eq_getElem hj⟩
  have hd:l.drop j=k::l.drop (j+1):=by
   rw[List.drop_eq_getElem_cons hj]
   rw[List.getElem?_eq_getElem hj]at hk
   cases hk
   rfl
  have gk:(l.map V.int)[j]? = some (V.int k):=by rw[List.getElem?_map,hk];rfl
  rw[hd]at q qe
  refine⟨_,rfl,_,rfl,a,_,_,_,rfl,rfl,sl,ck rfl gk,?_⟩
  cases hb:behind k with
  | none=>
   have hn:=u7 hb
   have e:cq (k::l.drop (j+1))=none:=by
    unfold cq
    dsimp only
    rw[hb]
   refine⟨_,rfl,_,_,rfl,rfl,_,rfl,ite2 (λ_=>iteT (qe H e (.refl H))) λh1=>?_⟩
   have h1:¬ k<0:=λz=>h1 (decide_eq_true z)
   refine⟨_,rfl,_,_,rfl,rfl,_,rfl,?_⟩
   rw[decide_eq_true (show(6:Int)<k by omega)]
   exact iteT (qe H e (.refl H))
  | some m=>
   obtain⟨k0,k6,kb⟩:=Lv hb
   have hm:m=1\/m=2:=by rcases fh hb with ⟨_,z⟩|⟨_,z⟩|⟨_,z⟩|⟨_,z⟩|⟨_,z⟩|⟨_,z⟩|⟨_,z⟩ <;> omega
   refine⟨_,rfl,_,_,rfl,rfl,_,rfl,?_⟩
   rw[decide_eq_false (show ¬ k<0 by omega)]
   refine iteF ⟨_,rfl,_,_,rfl,rfl,_,rfl,?_⟩
   rw[decide_eq_false (show ¬ (6:Int)<k by omega)]
   refine iteF ⟨_,rfl,_,_,rfl,rfl,_,rfl,aN,_,_,_,rfl,rfl,sN H,kb,_,_,rfl,rfl,?_⟩
   refine⟨_,rfl,_,rfl,a,_,rfl,.inl sl,_,_,rfl,rfl,_,rfl,ite2 (λh1=>?_) λh1=>?_⟩
   .have h1:(l.map V.int).length<j+1+m:=by have:=of_decide_eq_true h1;omega
    rw[List.length_map]at h1
    refine qe H ?_ (.refl H)
    unfold cq
    dsimp only
    rw[hb]
    dsimp only
    rw[if_pos (by rw[List.length_drop];omega)]
   .have h1:¬ (l.map V.int).length<j+1+m:=λz=>h1 (decide_eq_true (by omega))
    rw[List.length_map]at h1
    have ej:(j:Int)+1+(m:Int)=((j+1+m:Nat):Int):=by omega
    refine⟨_,rfl,_,rfl,_,rfl,_,rfl,_,rfl,a,_,rfl,sl,λp hp=>?_⟩
    rw[ej,Gi l (by omega) (by omega),show j+1+m - j=m+1 by omega,hd]
    show ∃ q,_
    refine⟨p,_,rfl,.inl ⟨SqL.of ak,λp2 hp2=>?_⟩⟩
    have s2:Same H (upd (upd H p (.lst ((List.take (m+1) (k::l.drop (j+1))).map V.int))) p2 (.tup ((List.take (m+1) (k::l.drop (j+1))).map V.int))):=(Same.new hp).trans (.new hp2)
    have et:List.take (m+1) (k::l.drop (j+1))=k::(l.drop (j+1)).take m:=rfl
    rw[et]at s2
    have hlen:((l.drop (j+1)).take m).length=m:=by rw[List.length_take,List.length_drop];omega
    refine⟨_,rfl,.ref p2,k,(l.drop (j+1)).take m,rfl,rTp.ints.mpr ⟨p2,rfl,.inl (.inl ak)⟩,(λz=>by rw[z]at hlen;simp at hlen;omega),(λz=>by
     subst z
     have:m=2:=by
      have:=Option.some.inj (hb.symm.trans (show behind 1=some 2 from rfl))
      exact this
     omega),λH3 s3=>⟨_,rfl,?_⟩⟩
    refine ite2 (λh2=>?_) λh2=>?_
    .have h2:wf (k::(l.drop (j+1)).take m)=false:=by simpa using h2
     refine qe H3 ?_ (s2.trans s3)
     unfold cq
     dsimp only
     rw[hb]
     dsimp only
     rw[if_neg (by rw[List.length_drop];omega),if_neg (by rw[h2];exact Bool.false_ne_true)]
    .have h2:wf (k::(l.drop (j+1)).take m)=true:=by simpa using h2
     refine⟨_,rfl,q (k::(l.drop (j+1)).take m) ((l.drop (j+1)).drop m) _ H3 ?_ (s2.trans s3) ?_⟩
     .unfold cq
      dsimp only
      rw[hb]
      dsimp only
      rw[if_neg (by rw[List.length_drop];omega),if_pos h2]
     .exact rTp.mono rInt.mono _ _ _ _ s3 (rTp.ints.mpr ⟨p2,rfl,.inl (.inl ak)⟩)
def C8(K:W.Frag)(CW:Addr):Sp:=λvs H Q E=>∃ vl l,vs=[vl]/\rLs K rInt H vl l/\l.length<=1000000 /\
 (∀ rs p H',fi l.length l=some rs->H p=none->Same H H'->rLs K (rTp K rInt) H' (.ref p) rs->Q (.ref p) H')/\(∀ H',fi l.length l=none->Same H H'->E (.ref CW) none H')
theorem mh:FnScope ["numbers","lines","place","line"] ["numbers"] (au d_split_lines):=by trivial
theorem Nn{CW:Addr}(B:Blt mg)(L:Fn P w K mg base (CXE P w) 2 "line_at" ["numbers","place"] (ze K CW))(D:Df K mg "split_lines" d_split_lines ["numbers"]):Fn P w K mg base (CXE P w) 3 "split_lines" ["numbers"] (C8 K CW):=by
 refine D.okE mh (λvs H Q E h=>?_) (λf cdv A outer s H vs Q E hr h=>?_)
 .obtain⟨vl,l,rfl,_⟩:=h
  rfl
 .obtain⟨vl,l,rfl,hl,hlen,q,qe⟩:=h
  obtain⟨a,rfl,sl⟩:=rLs.ints.mp hl
  refine⟨_,af (bg (i:=1) mh.nd rfl (Or.inl rfl) (cu aj)) (af (bg (i:=2) mh.nd rfl (Or.inl rfl) ax)
   (af (ka m9 (bp G0 (pv 2) (bj be rfl B.len PySem.boot_len (aa (pv 0) aj)) (bv _))
    (af (bg (i:=3) mh.nd rfl (Or.inl rfl) (bh L (hr.mono (by decide)) rfl bw (aa (pv 0) (aa (pv 2) aj))))
    (af (cf (ju PySem.F.plainAttrs_list PySem.F.slot_list_append PySem.F.type_list_append d8 (pv 1) (aa (pv 3) aj)))
    (aq (Jr (i:=2) mh.nd rfl (Or.inl rfl) (bj be rfl B.len PySem.boot_len (aa (pv 3) aj)) Ee)))))
   (aq (az (pv 1))))),?_⟩
  refine⟨Nat.zero_le _,λp hp=>?_⟩
  have s1:Same H (upd H p (.lst [])):=.new hp
  refine ma (λZ H'=>∃ (j:Nat) (ln:Option V) (xs:List V) (rs:List (List Int)),Z=[some (.ref a),some (.ref p),some (.int j),ln]/\j<=l.length/\Same H H'/\H' p=some (.lst xs)/\xs.length<=j/\Paired (rTp K rInt H') xs rs/\fi l.length l=(fi (l.length - j) (l.drop j)).map (rs++·))
   (λZ _=>match Z with | [_,_,some (.int j),_]=>l.length - j.toNat|_=>0) ⟨0,none,[],[],rfl,Nat.zero_le _,s1,ak,Nat.le_refl _,.nil,?_⟩ ?_ ?_
  .show fi l.length l=(fi l.length l).map ([]++·)
   cases fi l.length l <;> rfl
  .rintro Z H' ⟨j,ln,xs,rs,rfl,hj,s2,hp',hxl,pr,hraw⟩
   have sl':=s2.seq sl
   refine⟨_,rfl,_,rfl,a,_,rfl,.inl sl',_,_,rfl,rfl,_,rfl,?_⟩
   rw[List.length_map]
   refine ite2 (λhc=>?_) (λhc=>?_)
   .have hc:j<l.length:=by have:=of_decide_eq_true hc;omega
    obtain⟨k,hk⟩:∃ k,l.drop j=k::l.drop (j+1):=⟨l[j],List.drop_eq_getElem_cons hc⟩
    obtain⟨g,hg⟩:∃ g,l.length - j=g+1:=⟨l.length - j - 1,by omega⟩
    refine⟨_,rfl,_,rfl,.ref a,l,j,rfl,rLs.ints.mpr ⟨a,rfl,sl'⟩,hc,λb rest v H3 et s3 hv=>?_,λH3 et s3=>?_⟩
    .obtain⟨ok1,ok2,ok3⟩:=lj et
     have hlb:l.length - j=b.length+rest.length:=by rw[<- List.length_drop,ok2,List.length_append]
     obtain⟨q1,ys,rfl,sb,prb⟩:=hv
     have hys:=eg prb
     have hp3:=s3 _ _ hp'
     refine⟨_,rfl,.inl ⟨rfl,_,SqL.of hp3⟩,_,rfl,p,_,_,rfl,rfl,hp3,(by show xs.length<sizeLine;rw[sizeLine_eq];omega),?_⟩
     have sb2:SqT K (upd H3 p (.lst (xs++[.ref q1]))) q1 ys:=SqT.sb hp3 Sb.upd sb
     refine⟨_,rfl,_,rfl,q1,ys,rfl,.inr sb2,_,_,rfl,rfl,?_⟩
     rw[hys]
     refine⟨⟨j+b.length,_,xs++[.ref q1],rs++[b],rfl,by omega,.set hp (s2.trans s3),ak,by rw[List.length_append];show xs.length+1<=_;omega,?_,?_⟩,?_⟩
     .exact gg (pz (rTp.avT rInt.avT) hp' (Sb.trans s3.sb Sb.upd) pr) ⟨q1,ys,rfl,sb2,prb⟩
     .have hrest:l.drop (j+b.length)=rest:=by rw[<- List.drop_drop,ok2,List.drop_left]
      rw[hraw,hg,hrest]
      rw[hk]at et ⊢
      rw[fi,et]
      show Option.map _ ((fi g rest).map (b::·))=_
      rw[px g (l.length - (j+b.length)) rest (by omega) (by omega)]
      cases fi (l.length - (j+b.length)) rest <;> simp
     .show l.length - ((j:Int)+(b.length:Nat)).toNat<l.length - ((j:Int)).toNat
      omega
    .refine qe H3 ?_ (s2.trans s3)
     rw[hraw,hg]
     rw[hk]at et ⊢
     rw[fi,et]
     rfl
   .have hc:¬ j<l.length:=λz=>hc (decide_eq_true (by omega))
    have e0:l.length - j=0:=by omega
    rw[List.drop_of_length_le (by omega),e0]at hraw
    have e1:fi l.length l=some rs:=by
     rw[hraw]
     show some (rs++[])=_
     rw[List.append_nil]
    exact⟨_,rfl,q rs p H' e1 hp s2 ⟨p,xs,rfl,SqL.of hp',pr⟩⟩
  .rintro Z H' Q1 Q2 hq ⟨v,e1,v2,e2,b,ys,e3,e4,i1,i2,e5,e6,k,e7,e8⟩
   exact⟨v,e1,v2,e2,b,ys,e3,e4,i1,i2,e5,e6,k,e7,hq _ _ e8⟩
def y8(K:W.Frag):Sp:=λvs H Q _=>∃ v a,vs=[v]/\rTp K rInt H v a/\RawOk a/\∀ v' H',Same H H'->rTp K rInt H' v' (cp a)->Q v' H'
theorem Mv:FnScope ["line"] ["line"] (au d_parts):=by trivial
theorem RawOk.ne{a:List Int}(h:RawOk a):∃ k r,a=k::r/\r≠[]:=by
 obtain⟨⟨k,r,m,rfl,hb,hl⟩,_⟩:=h
 refine⟨k,r,rfl,λz=>?_⟩
 subst z
 rcases fh hb with ⟨_,z⟩|⟨_,z⟩|⟨_,z⟩|⟨_,z⟩|⟨_,z⟩|⟨_,z⟩|⟨_,z⟩ <;> (simp at hl;omega)
theorem Nq(C:Kinds mg)(D:Df K mg "parts" d_parts ["line"]):Fn P w K mg base CX0 1 "parts" ["line"] (y8 K):=by
 refine D.ok Mv (λvs H Q E h=>?_) (λf cdv A outer s H vs Q E hr h=>?_)
 .obtain⟨v,a,rfl,_⟩:=h
  rfl
 .obtain⟨v,a,rfl,hv,ha,q⟩:=h
  obtain⟨k,r,rfl,hne⟩:=ha.ne
  obtain⟨t,rfl,sa⟩:=rTp.ints.mp hv
  refine⟨_,af (cw (PW.pt (Te (bp fe (bf bq (pv 0) ax (λ_ _=>rfl)) (br C.input rfl) (bv _)) (Pf (bp fe (bf bq (pv 0) ax (λ_ _=>rfl)) (br C.constant rfl) (bv _))))) (aq (az (ia aj))) bu)
   (aq (az (rk Pa (pv 0) (oj ax) Jt))),?_⟩
  have em:∀ p,H p=none->(k=0\/k=1)->Q (.ref p) (upd H p (.tup [])):=λp hp hk=>by
   refine q _ _ (.new hp) ?_
   have e:cp (k::r)=[]:=if_pos hk
   rw[e]
   exact rTp.ints.mpr ⟨p,rfl,.inl (.inl ak)⟩
  refine⟨_,rfl,t,_,_,V.int k,rfl,rfl,sa,ck (j:=0) rfl rfl,rfl,_,rfl,ite2 (λhc=>?_) λhc=>?_⟩
  .have hk:k=0:=by simpa using hc
   exact iteT ⟨Nat.zero_le _,λp hp=>em p hp (.inl hk)⟩
  .have hk:¬ k=0:=by simpa using hc
   refine⟨_,rfl,t,_,_,V.int k,rfl,rfl,sa,ck (j:=0) rfl rfl,rfl,_,rfl,ite2 (λhc=>?_) λhc=>?_⟩
   .have hk:k=1:=by simpa using hc
    exact⟨Nat.zero_le _,λp hp=>em p hp (.inr hk)⟩
   .have hk1:¬ k=1:=by simpa using hc
    have hl:0<r.length:=List.length_pos_iff.mpr hne
    refine⟨_,rfl,_,rfl,t,_,rfl,sa,?_,λp hp=>?_⟩
    .show ¬ (min 1 (r.map V.int).length.succ=0/\_)
     intro z
     have:=z.1
     omega
    .rw[Ov]
     refine q _ _ (.new hp) ?_
     have e:cp (k::r)=r:=if_neg (by rintro (z|z) <;> contradiction)
     rw[e]
     exact rTp.ints.mpr ⟨p,rfl,.inl (.inl ak)⟩
end
section
variable{P:Program}{w:World}{K:W.Frag}{mg:Str->Option Value}{base:Heap}
def Ii(K:W.Frag):Sp:=λvs H Q _=>∃ v rs n,vs=[v,.int (n:Nat)]/\rLs K (rTp K rInt) H v rs/\(∀ a∈rs,RawOk a)/\rs.length<=1000000/\∀ H',Same H H'->Q (.bl (cx n 0 rs)) H'
theorem su:FnScope ["lines","inputs","number","line","part"] ["lines","inputs"] (au d_uses_are_there):=by trivial
theorem k4(n:Nat):∀ (rs:List (List Int)) (k i:Nat) (a:List Int),rs[i]? = some a->g8 n (k+i) a=false->cx n k rs=false
 | [],_,i,_,h,_=>by simp at h
 | b::r,k,0,a,h,hf=>by
  have e:=Option.some.inj h
  subst e
  rw[cx]
  rw[show k+0=k from rfl]at hf
  rw[hf]
  rfl
 | b::r,k,i+1,a,h,hf=>by
  rw[cx,k4 n r (k+1) i a h (by rw[show k+1+i=k+(i+1) by omega];exact hf),Bool.and_false]
theorem pk(n:Nat):∀ (rs:List (List Int)) (k:Nat),(∀ i a,rs[i]? = some a->g8 n (k+i) a=true)->cx n k rs=true
 | [],_,_=>rfl
 | b::r,k,h=>by
  have h0:g8 n k b=true:=h 0 b rfl
  rw[cx,h0,pk n r (k+1) λi a z=>by rw[show k+1+i=k+(i+1) by omega];exact h (i+1) a z]
  rfl
theorem RawOk.parts_le{a:List Int}(h:RawOk a):(cp a).length<=2:=by
 rcases h.shape with ⟨i,rfl,h1⟩|⟨n,d,rfl,h1⟩|⟨k,i,j,rfl,h1,h2,h3,h4⟩|⟨i,rfl,h1⟩
 .exact Nat.zero_le _
 .exact Nat.zero_le _
 .rw[show cp [k,i,j]=[i,j] from if_neg (by show ¬ (k=0\/k=1);omega)]
  exact Nat.le_refl _
 .show 1<=2
  decide
theorem fm{α:Type}{f:α->V}{l:List α}{i:Nat}{x:V}(h:(l.map f)[i]? = some x):∃ y,l[i]? = some y/\x=f y:=by
 rw[List.getElem?_map]at h
 cases e:l[i]? with
 | none=>
  rw[e]at h
  cases h
 | some y=>
  rw[e]at h
  exact⟨y,rfl,(Option.some.inj h).symm⟩
theorem Rc(B:Blt mg)(C:Kinds mg)(G:Fn P w K mg base CX0 1 "parts" ["line"] (y8 K))(D:Df K mg "uses_are_there" d_uses_are_there ["lines","inputs"]):Fn P w K mg base CX0 2 "uses_are_there" ["lines","inputs"] (Ii K):=by
 refine D.ok su (λvs H Q E h=>?_) (λf cdv A outer s H vs Q E hr h=>?_)
 .obtain⟨v,rs,n,rfl,_⟩:=h
  rfl
 .obtain⟨v,rs,n,rfl,⟨a,xs,rfl,sl,pr⟩,hok,hlen,q⟩:=h
  refine⟨_,af (fj PassesOwn.never rfl (z6 rfl B.enumerate (aa (pv 0) aj)) (Fl rfl (di (bi (i:=2) su.nd rfl (Or.inr rfl)) (di (bi (i:=3) su.nd rfl (Or.inl rfl)) jt)))
   (af (cw (PW.pt (Jp (bp fe (bf bq (pv 3) ax (λ_ _=>rfl)) (br C.input rfl) (bv _)) (Du (bp J1 (bf bq (pv 3) ax (λ_ _=>rfl)) (pv 1) (bv _))))) (aq (az Gz)) bu)
   (aq (cw (gm (bj (Lk rfl) rfl B.any boot_any (aa (gv (own:=[("part",4)]) rfl su.nd (Fj (bh G (hr.mono (by decide)) rfl bo (aa (pv 3) aj))) (b8 (by kernel_rfl)) (λ_ _ _ _ _=>bi (i:=4) su.nd rfl (Or.inl rfl)) (λ_ _ _ _ _=>c8)
    (λ_ _ _ _ _=>i9 J1 (pv 4) (pv 2) (bv _))) aj))) (aq (az Gz)) bu))))
   (aq (az Gz)),?_⟩
  refine⟨_,rfl,a,xs,rfl,sl,Ah (K:=K) (a:=a) (xs:=xs) (λi Z H'=>∃ v2 v3,Z=[some (.ref a),some (.int (n:Nat)),v2,v3,none]/\Same H H'/\∀ j b,j<i->rs[j]? = some b->g8 n j b=true)
   ⟨none,none,rfl,.refl H,λj b hj=>absurd hj (Nat.not_lt_zero _)⟩ (λi Z H' _ ⟨_,_,_,s1,_⟩=>s1.seq sl) ?_ ?_⟩
  .rintro i x Z H' T hx ⟨v2,v3,rfl,s1,hall⟩ hT
   obtain⟨b,hb,rb⟩:=eh pr hx
   have s2:Same H (upd H' T (.tup [.int (i:Nat),x])):=s1.trans (.new hT)
   have okb:=hok b (List.mem_of_getElem? hb)
   have rb2:=rTp.mono rInt.mono _ _ _ _ s2 rb
   obtain⟨k,r,rfl,hne⟩:=okb.ne
   obtain⟨t,rfl,sb⟩:=rTp.ints.mp rb2
   obtain⟨i1,r1,hr1⟩:∃ i1 r1,r=i1::r1:=by
    cases r with
    | nil=>exact absurd rfl hne
    | cons z y=>exact⟨z,y,rfl⟩
   refine⟨T,_,rfl,.inl (.inl ak),rfl,_,_,rfl,_,_,rfl,rfl,?_⟩
   refine U2 (decide (V.int k=V.int 0)) (decide ((n:Int)<=i1)) (λQ q=>⟨_,rfl,t,_,_,V.int k,rfl,rfl,sb,ck (j:=0) rfl rfl,rfl,_,rfl,q⟩) (λ_ Q q=>⟨_,rfl,t,_,_,V.int i1,rfl,rfl,sb,ck (j:=1) rfl (by rw[hr1];rfl),_,rfl,_,_,rfl,rfl,_,rfl,q⟩) ?_
   rw[f9]
   have e1:g8 n i (k::r)=(!(decide (k=0)&&decide ((n:Int)<=i1))&&!((cp (k::r)).any λp=>decide ((i:Int)<=p))):=by
    rw[hr1]
    rfl
   refine ite2 (λhc=>?_) (λhc=>?_)
   .have hf:g8 n (0+i) (k::r)=false:=by
     rw[Nat.zero_add,e1,hc]
     rfl
    have z:=q (upd H' T (.tup [.int (i:Nat),.ref t])) s2
    rw[k4 n rs 0 i (k::r) hb hf]at z
    exact z
   .have hc:(decide (k=0)&&decide ((n:Int)<=i1))=false:=by simpa using hc
    rw[hc]at e1
    dsimp only [k7,tSeq,tIfS,tB,P6,tCB,n6]
    refine c9 ?_
    refine⟨_,rfl,_,k::r,rfl,rTp.ints.mpr ⟨t,rfl,sb⟩,okb,λv' H5 s5 hv'=>?_⟩
    obtain⟨c,rfl,sc⟩:=rTp.ints.mp hv'
    refine⟨c,rfl,⟨_,sc⟩,λD hD=>lcT (R:=rBl) (K:=K) rBl.avT.av (λj=>((cp (k::r))[j]?).map λp=>decide ((i:Int)<=p)) hD sc ?_ (λj x H6 acc hx s6 hy k1 k0 kk kn=>?_) (λH6 ys s6 hy p6=>?_)⟩
    .rw[List.length_map,sizeLine_eq]
     have:=okb.parts_le
     omega
    .obtain⟨p,hp,rfl⟩:=fm hx
     refine⟨rfl,_,rfl,_,rfl,_,_,rfl,rfl,?_⟩
     exact kk _ _ (decide ((i:Int)<=p)) (by rw[hp];rfl) (.refl _) rfl (by intro z;cases z)
    .rw[List.length_map,dw]at p6
     have e6:=fg p6
     rw[e6]at hy
     refine⟨D,_,rfl,SqL.of hy,_,rfl,?_⟩
     rw[List.any_map]
     refine ite2 (λhc=>?_) (λhc=>?_)
     .have hc:((cp (k::r)).any λp=>decide ((i:Int)<=p))=true:=hc
      have hf:g8 n (0+i) (k::r)=false:=by
       rw[Nat.zero_add,e1,hc]
       rfl
      have z:=q H6 ((s2.trans s5).trans s6)
      rw[k4 n rs 0 i (k::r) hb hf]at z
      exact z
     .have hc:((cp (k::r)).any λp=>decide ((i:Int)<=p))=false:=Bool.eq_false_iff.mpr hc
      refine⟨_,_,rfl,(s2.trans s5).trans s6,λj b hj hb2=>?_⟩
      by_cases hji:j<i
      .exact hall j b hji hb2
      .have hji:j=i:=by omega
       subst hji
       rw[hb]at hb2
       cases hb2
       rw[e1,hc]
       rfl
  .rintro Z H' ⟨v2,v3,rfl,s1,hall⟩
   have z:=q H' s1
   rw[pk n rs 0 λi b hb=>by
    rw[Nat.zero_add]
    have hl:=eg pr
    exact hall i b (by have:=(List.getElem?_eq_some_iff.mp hb).1;omega) hb]at z
   exact z
end
end Sp
end
section
namespace Sp
open VagraLine (Line Code)
def yj(hs:List (List Bool))(a:List Int)(c:Nat):Bool:=if a.headD 0=0 then decide (a.getD 1 0=(c:Int)) else (cp a).any λp=>(hs.getD p.toNat []).getD c false
def lm(inputs:Nat)(hs:List (List Bool))(a:List Int):List Bool:=(List.range inputs).map (yj hs a)
def cg(inputs:Nat):List (List Bool)->List (List Int)->List (List Bool)
 | hs,[]=>hs
 | hs,a::r=>cg inputs (hs++[lm inputs hs a]) r
theorem He{inputs:Nat}{hs:List (List Bool)}{a:List Int}(h:RawOk a):lm inputs hs a=Vagrae.Line.reaches inputs hs (bz a):=by
 unfold lm Vagrae.Line.reaches
 refine List.map_congr_left λc _=>?_
 unfold yj
 rw[D9 h,List.any_map]
 rcases h.shape with ⟨i,rfl,h1⟩|⟨n,d,rfl,h1⟩|⟨k,i,j,rfl,h1,h2,h3,h4⟩|⟨i,rfl,h1⟩
 .rw[if_pos (show([0,i]:List Int).headD 0=0 from rfl)]
  show decide (i=(c:Int))=(decide (i.toNat=c)||false)
  rw[Bool.or_false,Bool.eq_iff_iff]
  simp
  omega
 .rw[if_neg (by show ¬ (1:Int)=0;decide)]
  rfl
 .rw[if_neg (by show ¬ k=0;omega)]
  have hk:k=2\/k=3\/k=4\/k=5:=by omega
  rcases hk with rfl|rfl|rfl|rfl <;> rfl
 .rw[if_neg (by show ¬ (6:Int)=0;decide)]
  rfl
theorem um(inputs:Nat):∀ (rs:List (List Int)) (hs:List (List Bool)),(∀ a∈rs,RawOk a)->cg inputs hs rs=Vagrae.reachesFrom inputs hs (rs.map bz)
 | [],_,_=>rfl
 | a::r,hs,h=>by
  rw[cg,He (h a (List.mem_cons_self ..)),um inputs r _ λb hb=>h b (List.mem_cons_of_mem _ hb)]
  rfl
theorem m6(inputs:Nat):∀ (rs:List (List Int)) (hs:List (List Bool)) (a:List Int),cg inputs hs (rs++[a])=cg inputs hs rs++[lm inputs (cg inputs hs rs) a]
 | [],_,_=>rfl
 | b::r,hs,a=>by
  show cg inputs (hs++[lm inputs hs b]) (r++[a])=_
  rw[m6 inputs r]
  rfl
theorem ib(inputs:Nat):∀ (rs:List (List Int)) (hs:List (List Bool)),(cg inputs hs rs).length=hs.length+rs.length
 | [],_=>rfl
 | a::r,hs=>by
  rw[cg,ib inputs r]
  simp
  omega
theorem je(inputs:Nat):∀ (rs:List (List Int)) (hs:List (List Bool)),(∀ b∈hs,b.length=inputs)->∀ b∈cg inputs hs rs,b.length=inputs
 | [],_,h=>h
 | a::r,hs,h=>by
  rw[cg]
  refine je inputs r _ λb hb=>?_
  rcases List.mem_append.mp hb with z|z
  .exact h b z
  .rw[List.mem_singleton.mp z]
   unfold lm
   rw[List.length_map,List.length_range]
theorem gb(inputs:Nat):∀ (rs:List (List Int)) (k i:Nat) (a:List Int),cx inputs k rs=true->rs[i]? = some a->(∀ p∈cp a,p<((k+i:Nat):Int))/\(a.headD 0=0->a.getD 1 0<(inputs:Int))
 | [],_,i,_,_,h=>by simp at h
 | b::r,k,0,a,hu,h=>by
  have e:=Option.some.inj h
  subst e
  rw[cx,Bool.and_eq_true]at hu
  have h1:=hu.1
  unfold g8 at h1
  rw[Bool.and_eq_true]at h1
  obtain⟨h2,h3⟩:=h1
  refine⟨λp hp=>?_,λh0=>?_⟩
  .have h3:((cp b).any λi=>decide ((k:Int)<=i))=false:=by simpa using h3
   rw[List.any_eq_false]at h3
   have:=h3 p hp
   simp at this
   omega
  .rw[decide_eq_true h0]at h2
   simp at h2
   simpa using h2
 | b::r,k,i+1,a,hu,h=>by
  rw[cx,Bool.and_eq_true]at hu
  have ih:=gb inputs r (k+1) i a hu.2 h
  rw[show k+(i+1)=k+1+i by omega]
  exact ih
theorem Bp{a:List Int}(h:RawOk a):∀ p∈cp a,0<=p:=by
 rcases h.shape with ⟨i,rfl,h1⟩|⟨n,d,rfl,h1⟩|⟨k,i,j,rfl,h1,h2,h3,h4⟩|⟨i,rfl,h1⟩
 .intro p hp;exact nomatch hp
 .intro p hp;exact nomatch hp
 .rw[show cp [k,i,j]=[i,j] from if_neg (by show ¬ (k=0\/k=1);omega)]
  intro p hp
  simp at hp
  omega
 .intro p hp
  have:p∈[i]:=hp
  simp at this
  omega
end Sp
end
section
namespace Sp
open PySem PySem.Spec PyProof.Rows L2
section
variable{P:Program}{w:World}{K:W.Frag}{mg:Str->Option Value}{base:Heap}
theorem uq{α:Type}(p:α->Bool):∀ (l:List α),(l.filterMap λj=>if p j=true then some j else none)=l.filter p
 | []=>rfl
 | x::l=>by
  rw[List.filterMap_cons,List.filter_cons,uq p l]
  cases p x <;> rfl
theorem tw{X:Cx}{K:W.Frag}{pos:Pos}{es:List Expr}{k:Nat}{t:TGs}{n:Nat}(hK:X.K=K)(hc:X.calm=true)(h:PGs X es t)
  (hn:(assignEach es X.env).length=n:=by rfl) (hst:(assignEach es X.env).findIdx? (·.1)=none:=by rfl):PG X (.Tuple es k pos) (gTup K n t):=by
 subst hK
 exact Fl hc h hn hst
def Dc(K:W.Frag):Sp:=λvs H Q _=>∃ vl vh a hs c inputs,vs=[vl,.int (c:Nat),vh]/\rTp K rInt H vl a/\RawOk a/\rLt (rLt rBl) H vh hs/\(∀ b∈hs,b.length=inputs)/\c<inputs/\(∀ p∈cp a,p<(hs.length:Int))/\∀ H',Same H H'->Q (.bl (yj hs a c)) H'
theorem zt:FnScope ["line","column","hangs","part"] ["line","column","hangs"] (au d_line_hangs):=by trivial
theorem N1(B:Blt mg)(C:Kinds mg)(G:Fn P w K mg base CX0 1 "parts" ["line"] (y8 K))(D:Df K mg "line_hangs" d_line_hangs ["line","column","hangs"]):Fn P w K mg base CX0 2 "line_hangs" ["line","column","hangs"] (Dc K):=by
 refine D.ok zt (λvs H Q E h=>?_) (λf cdv A outer s H vs Q E hr h=>?_)
 .obtain⟨vl,vh,a,hs,c,inputs,rfl,_⟩:=h
  rfl
 .obtain⟨vl,vh,a,hs,c,inputs,rfl,hl,ha,hh,hrow,hc,hp,q⟩:=h
  obtain⟨t,rfl,sa⟩:=rTp.ints.mp hl
  refine⟨_,af (cw (bp fe (bf bq (pv 0) ax (λ_ _=>rfl)) (br C.input rfl) (bv _)) (aq (az (i9 fe (bf bq (pv 0) ax (λ_ _=>rfl)) (pv 1) (bv _)))) bu)
   (aq (az (bj (Lk rfl) rfl B.any boot_any (aa (gv (own:=[("part",3)]) rfl zt.nd (Fj (bh G (hr.mono (by decide)) rfl bo (aa (pv 0) aj))) (b8 (by kernel_rfl)) (λ_ _ _ _ _=>bi (i:=3) zt.nd rfl (Or.inl rfl)) (λ_ _ _ _ _=>c8)
    (λ_ _ _ _ _=>bf (r:=rIxL K) bc (bf (r:=rIxL K) bc (pv 2) (pv 3) (λ_ _=>rfl)) (pv 1) (λ_ _=>rfl))) aj)))),?_⟩
  obtain⟨k,r,rfl,hne⟩:=ha.ne
  obtain⟨i1,r1,hr1⟩:∃ i1 r1,r=i1::r1:=by
   cases r with
   | nil=>exact absurd rfl hne
   | cons z y=>exact⟨z,y,rfl⟩
  refine⟨_,rfl,t,_,_,V.int k,rfl,rfl,sa,ck (j:=0) rfl rfl,rfl,_,rfl,ite2 (λhk=>?_) λhk=>?_⟩
  .have hk:k=0:=by simpa using hk
   refine⟨_,rfl,t,_,_,V.int i1,rfl,rfl,sa,ck (j:=1) rfl (by rw[hr1];rfl),_,rfl,rfl,?_⟩
   have z:=q H (.refl H)
   unfold yj at z
   rw[if_pos (show(k::r).headD 0=0 from hk),hr1]at z
   rw[f9]
   exact z
  .have hk:¬ k=0:=by simpa using hk
   dsimp only [k7,tSeq,tRet,tIfS,tB,P6,tCB,n6]
   refine c9 ?_
   refine⟨_,rfl,_,k::r,rfl,rTp.ints.mpr ⟨t,rfl,sa⟩,ha,λv' H5 s5 hv'=>?_⟩
   obtain⟨cc,rfl,sc⟩:=rTp.ints.mp hv'
   refine⟨cc,rfl,⟨_,sc⟩,λD hD=>lcT (R:=rBl) (K:=K) rBl.avT.av (λj=>((cp (k::r))[j]?).map λp=>(hs.getD p.toNat []).getD c false) hD sc ?_ (λj x H6 acc hx s6 hy k1 k0 kk kn=>?_) (λH6 ys s6 hy p6=>?_)⟩
   .rw[List.length_map,sizeLine_eq]
    have:=ha.parts_le
    omega
   .obtain⟨p,hp1,rfl⟩:=fm hx
    have pm:=List.mem_of_getElem? hp1
    have p0:=Bp ha p pm
    have p1:=hp p pm
    have hh6:=rLt.mono (rLt.mono rBl.mono) _ _ _ _ (s5.trans s6) hh
    obtain⟨ah,xs,rfl,hxs,prh⟩:=hh6
    obtain⟨row,hrw⟩:∃ row,hs[p.toNat]? = some row:=⟨hs[p.toNat]'(by omega),List.getElem?_eq_getElem (by omega)⟩
    obtain⟨vr,hvr,rr⟩:=gp prh hrw
    obtain⟨ar,rfl,hrow2⟩:=rLt.bls.mp rr
    have hlr:=hrow row (List.mem_of_getElem? hrw)
    obtain⟨b,hb⟩:∃ b,row[c]? = some b:=⟨row[c]'(by omega),List.getElem?_eq_getElem (by omega)⟩
    have e1:hs.getD p.toNat []=row:=by rw[List.getD_eq_getElem?_getD,hrw];rfl
    have e2:row.getD c false=b:=by rw[List.getD_eq_getElem?_getD,hb];rfl
    refine⟨rfl,_,rfl,_,rfl,ah,_,_,_,rfl,rfl,SqL.of hxs,ck (j:=p.toNat) (by omega) hvr,_,rfl,ar,_,_,V.bl b,rfl,rfl,SqL.of hrow2,ck (j:=c) rfl (by rw[List.getElem?_map,hb];rfl),?_⟩
    exact kk _ _ b (by rw[hp1];show some ((hs.getD p.toNat []).getD c false)=some b;rw[e1,e2]) (.refl _) rfl (by intro z;cases z)
   .rw[List.length_map,dw]at p6
    rw[fg p6]at hy
    refine⟨D,_,rfl,SqL.of hy,?_⟩
    have z:=q H6 (s5.trans s6)
    unfold yj at z
    rw[if_neg (show ¬ (k::r).headD 0=0 from hk)]at z
    rw[List.any_map]
    exact z
def sk(K:W.Frag):Sp:=λvs H Q _=>∃ vl rs inputs,vs=[.int (inputs:Nat),vl]/\rLs K (rTp K rInt) H vl rs/\(∀ a∈rs,RawOk a)/\cx inputs 0 rs=true/\inputs<=1000/\rs.length<=1000/\∀ v H',Same H H'->rLt (rLt rBl) H' v (cg inputs [] rs)->Q v H'
theorem il:FnScope ["inputs","lines","hangs","line","column"] ["inputs","lines"] (au d_hanging):=by trivial
theorem G1(B:Blt mg)(G:Fn P w K mg base CX0 2 "line_hangs" ["line","column","hangs"] (Dc K))(D:Df K mg "hanging" d_hanging ["inputs","lines"]):Fn P w K mg base CX0 3 "hanging" ["inputs","lines"] (sk K):=by
 refine D.ok il (λvs H Q E h=>?_) (λf cdv A outer s H vs Q E hr h=>?_)
 .obtain⟨vl,rs,inputs,rfl,_⟩:=h
  rfl
 .obtain⟨vl,rs,inputs,rfl,⟨al,xs,rfl,sl,pr⟩,hok,hu,hin,hlen,q⟩:=h
  refine⟨_,af (bg (i:=2) il.nd rfl (Or.inr rfl) (cu aj))
   (af (fj PassesOwn.never rfl (cy (pv 1)) (bi (i:=3) il.nd rfl (Or.inr rfl))
    (aq (cf (ju PySem.F.plainAttrs_list PySem.F.slot_list_append PySem.F.type_list_append d8 (pv 2) (aa (gv (own:=[("column",4)]) rfl il.nd (ez rfl B.range (aa (pv 0) aj)) (b8 (by kernel_rfl)) (λ_ _ _ _ _=>bi (i:=4) il.nd rfl (Or.inl rfl)) (λ_ _ _ _ _=>c8)
     (λ_ _ _ _ _=>bh G (hr.mono (by decide)) rfl bo (aa (pv 3) (aa (pv 4) (aa (pv 2) aj))))) aj)))))
   (aq (az (pv 2)))),?_⟩
  refine⟨Nat.zero_le _,λp hp=>?_⟩
  have hl:=eg pr
  refine⟨_,rfl,al,rfl,⟨_,(Same.new hp).seq sl⟩,ft (K:=K) (a:=al) (xs:=xs) (λi Z H'=>∃ v3 zs,Z=[some (.int (inputs:Nat)),some (.ref al),some (.ref p),v3,none]/\Same H H'/\H' p=some (.lst zs)/\Paired (rNq (rLt rBl) p H') zs (cg inputs [] (rs.take i)))
   ⟨none,[],rfl,.new hp,ak,.nil⟩ (λi Z H' _ ⟨_,_,_,s1,_⟩=>s1.seq sl) ?_ ?_⟩
  .rintro i x Z H' hx ⟨v3,zs,rfl,s1,hp',prz⟩
   obtain⟨b,hb,rb⟩:=eh pr hx
   have okb:=hok b (List.mem_of_getElem? hb)
   have hi:i<rs.length:=(List.getElem?_eq_some_iff.mp hb).1
   have hpl:=(gb inputs rs 0 i b hu hb).1
   have hlz:=eg prz
   have hlf:(cg inputs [] (rs.take i)).length=i:=by
    rw[ib,List.length_take]
    show 0+min i rs.length=i
    omega
   dsimp only [k7,tSeq,Md,tBM,tCB,n6]
   refine⟨_,rfl,.inl ⟨rfl,_,SqL.of hp'⟩,c9 ?_⟩
   refine⟨_,rfl,_,rfl,by omega,by omega,λD hD=>lcR (R:=rBl) rBl.avT.av (λc=>some (yj (cg inputs [] (rs.take i)) b c)) hD (by rw[sizeLine_eq];omega) (λc H6 acc hc s6 hy k1 k0 kk kn=>?_) (λH6 ys s6 hy p6=>?_)⟩
   .have e0:(0:Int)+(c:Nat)=(c:Nat):=by omega
    have hc:c<inputs:=by simpa using hc
    refine⟨rfl,_,rfl,_,rfl,_,rfl,x,.ref p,b,cg inputs [] (rs.take i),c,inputs,by rw[e0];rfl,rTp.mono rInt.mono _ _ _ _ (s1.trans s6) rb,okb,rLt.mono (rLt.mono rBl.mono) _ _ _ _ s6 ⟨p,zs,rfl,hp',Js prz⟩,je inputs _ _ (λz hz=>nomatch hz),hc,?_,λH7 s7=>?_⟩
    .intro z hz
     have:=hpl z hz
     rw[hlf]
     omega
    .exact kk _ _ _ rfl s7 rfl (by intro z;cases z)
   .have e1:((inputs:Nat):Int).toNat=inputs:=by omega
    rw[e1,d6]at p6
    have p6:Paired (rBl H6) ys (lm inputs (cg inputs [] (rs.take i)) b):=p6
    have hne:D≠p:=λz=>by
     rw[z,hp']at hD
     cases hD
    refine⟨p,_,_,rfl,rfl,s6 _ _ hp',(by rw[hlz,hlf,sizeLine_eq];omega),?_⟩
    refine⟨_,zs++[.ref D],rfl,.set hp (s1.trans s6),ak,?_⟩
    rw[take_snoc hb,m6]
    refine gg (Dv (rLt.av rBl.avT) hp' (Sb.trans s6.sb Sb.upd) prz) ⟨⟨D,ys,rfl,by rw[ay hne];exact hy,p6⟩,λz=>hne (by cases z;rfl)⟩
  .rintro Z H' ⟨v3,zs,rfl,s1,hp',prz⟩
   rw[hl,List.take_length]at prz
   exact⟨_,rfl,q (.ref p) H' s1 ⟨p,zs,rfl,hp',Js prz⟩⟩
def Ve(inputs:Nat)(rs:List (List Int))(outs:List Nat):List (List Bool):=outs.map λo=>(cg inputs [] rs).getD o []
def Qe(K:W.Frag):Sp:=λvs H Q _=>∃ vl vo rs outs inputs,vs=[.int (inputs:Nat),vl,vo]/\rLs K (rTp K rInt) H vl rs/\rLs K rNat H vo outs/\(∀ a∈rs,RawOk a)/\cx inputs 0 rs=true/\inputs<=1000/\rs.length<=1000/\outs.length<=1000/\(∀ o∈outs,o<rs.length) /\
 ∀ v H',Same H H'->rLt (rLt rBl) H' v (Ve inputs rs outs)->Q v H'
theorem E9:FnScope ["inputs","lines","outs","hangs","out"] ["inputs","lines","outs"] (au d_pattern_rows):=by trivial
theorem Ty(G:Fn P w K mg base CX0 3 "hanging" ["inputs","lines"] (sk K))(D:Df K mg "pattern_rows" d_pattern_rows ["inputs","lines","outs"]):Fn P w K mg base CX0 4 "pattern_rows" ["inputs","lines","outs"] (Qe K):=by
 refine D.ok E9 (λvs H Q E h=>?_) (λf cdv A outer s H vs Q E hr h=>?_)
 .obtain⟨vl,vo,rs,outs,inputs,rfl,_⟩:=h
  rfl
 .obtain⟨vl,vo,rs,outs,inputs,rfl,hrs,ho,hok,hu,hin,hlen,hol,hob,q⟩:=h
  refine⟨_,af (bg (i:=3) E9.nd rfl (Or.inr rfl) (bh G (hr.mono (by decide)) rfl bo (aa (pv 0) (aa (pv 1) aj))))
   (aq (az (gv (own:=[("out",4)]) rfl E9.nd (cy (pv 2)) (b8 (by kernel_rfl)) (λ_ _ _ _ _=>bi (i:=4) E9.nd rfl (Or.inl rfl)) (λ_ _ _ _ _=>c8) (λ_ _ _ _ _=>bf (r:=rIxL K) bc (pv 3) (pv 4) (λ_ _=>rfl))))),?_⟩
  refine⟨_,rfl,_,rfl,vl,rs,inputs,rfl,hrs,hok,hu,hin,hlen,λvh H1 s1 hh=>?_⟩
  obtain⟨ao,rfl,so⟩:=rLs.nats.mp (rLs.mono rNat.mono _ _ _ _ s1 ho)
  dsimp only [tRet]
  refine c9 ?_
  refine⟨_,rfl,ao,rfl,⟨_,so⟩,λD hD=>lcL (R:=rLt rBl) (K:=K) (rLt.av rBl.avT) (λj=>(outs[j]?).map λo=>(cg inputs [] rs).getD o []) hD so (by rw[List.length_map,sizeLine_eq];omega) (λj x H6 acc hx s6 hy k1 k0 kk kn=>?_) (λH6 ys s6 hy p6=>?_)⟩
  .obtain⟨o,ho1,rfl⟩:=fm hx
   have hlt:=hob o (List.mem_of_getElem? ho1)
   obtain⟨row,hrw⟩:∃ row,(cg inputs [] rs)[o]? = some row:=⟨(cg inputs [] rs)[o]'(by rw[ib];simpa using hlt),List.getElem?_eq_getElem _⟩
   have e1:(cg inputs [] rs).getD o []=row:=by rw[List.getD_eq_getElem?_getD,hrw];rfl
   obtain⟨ah,xs,rfl,hxs,prh⟩:=hh
   obtain⟨vr,hvr,rr⟩:=gp prh hrw
   refine⟨rfl,_,rfl,_,rfl,ah,_,_,_,rfl,rfl,SqL.of (s6 _ _ hxs),ck (j:=o) rfl hvr,?_⟩
   exact kk _ _ row (by rw[ho1];show some ((cg inputs [] rs).getD o [])=_;rw[e1]) (.refl _) (rLt.mono rBl.mono _ _ _ _ s6 rr) (rr.ne hD)
  .rw[List.length_map,dw]at p6
   exact q _ _ (s1.trans s6) ⟨D,ys,rfl,hy,p6⟩
def ir(row:List Bool):List Nat:=(List.range row.length).filter λc=>row.getD c false
def De(K:W.Frag):Sp:=λvs H Q _=>∃ v row,vs=[v]/\rLs K rBl H v row/\row.length<=1000/\∀ p H',H p=none->Same H H'->rLt rNat H' (.ref p) (ir row)->Q (.ref p) H'
theorem rh:FnScope ["row","column","entry"] ["row"] (au d_entry_columns):=by trivial
theorem N3(B:Blt mg)(D:Df K mg "entry_columns" d_entry_columns ["row"]):Fn P w K mg base CX0 1 "entry_columns" ["row"] (De K):=by
 refine D.ok rh (λvs H Q E h=>?_) (λf cdv A outer s H vs Q E hr h=>?_)
 .obtain⟨v,row,rfl,_⟩:=h
  rfl
 .obtain⟨v,row,rfl,hv,hl,q⟩:=h
  obtain⟨a,rfl,sa⟩:=rLs.bls.mp hv
  refine⟨_,aq (az (gv (own:=[("column",1),("entry",2)]) rfl rh.nd (z6 rfl B.enumerate (aa (pv 0) aj)) (b8 (by kernel_rfl)) (λ_ _ _ _ _=>tw (K:=K) (n:=2) rfl rfl (di (bi (i:=1) rh.nd rfl (Or.inl rfl)) (di (bi (i:=2) rh.nd rfl (Or.inl rfl)) jt)))
   (λ_ _ _ _ _=>oi (gm (pv 2))) (λ_ _ _ _ _=>pv 1))),?_⟩
  dsimp only [tRet]
  refine c9 ?_
  refine⟨_,rfl,a,_,rfl,sa,λD hD=>lcE (R:=rNat) (K:=K) rNat.avT.av (λj=>if row.getD j false=true then some j else none) hD sa (by rw[List.length_map,sizeLine_eq];omega) (λj x H6 T acc hx s6 hy hT k1 k0 kk kn=>?_) (λH6 ys s6 hy p6=>?_)⟩
  .obtain⟨b,hb,rfl⟩:=fm hx
   have e1:row.getD j false=b:=by rw[List.getD_eq_getElem?_getD,hb];rfl
   refine⟨T,_,rfl,.inl (.inl ak),rfl,_,_,rfl,_,_,rfl,rfl,rfl,_,rfl,b,rfl,?_⟩
   rw[e1]at kk kn
   refine ite2 (λhc=>?_) (λhc=>?_)
   .exact⟨_,rfl,kk _ _ j (if_pos hc) (.new hT) rfl (by intro z;cases z)⟩
   .exact kn _ (if_neg hc) (.new hT)
  .refine q D H6 hD s6 ⟨D,ys,rfl,hy,?_⟩
   rw[List.length_map]at p6
   have e:(List.range row.length).filterMap (λj=>if row.getD j false=true then some j else none)=ir row:=by
    exact uq _ _
   rw[e]at p6
   exact p6
end
end Sp
end
section
namespace Sp
open VagraLine (Line Code)
open Vagraa (Frac)
def Ae(k:Int)(a b:Frac):Frac:=if k=2 then Vagraa.add a b else if k=3 then Vagraa.sub a b else if k=4 then Vagraa.mul a b else Vagraa.div a b
def g9(pts vs:List Frac)(a:List Int):Frac:=
 if a.headD 0=0 then VagraLine.at_ pts (a.getD 1 0).toNat
 else if a.headD 0=1 then Vagraa.frac (a.getD 1 0) (a.getD 2 0).toNat
 else if a.headD 0=6 then Vagraa.neg (VagraLine.at_ vs (a.getD 1 0).toNat)
 else Ae (a.headD 0) (VagraLine.at_ vs (a.getD 1 0).toNat) (VagraLine.at_ vs (a.getD 2 0).toNat)
def k9(vs:List Frac)(a:List Int):Bool:=decide (a.headD 0=5)&&decide ((VagraLine.at_ vs (a.getD 2 0).toNat).num=0)
theorem Bk{pts vs:List Frac}{a:List Int}(h:RawOk a):(bz a).value pts vs=if k9 vs a=true then none else some (g9 pts vs a):=by
 rcases h.shape with ⟨i,rfl,h1⟩|⟨n,d,rfl,h1⟩|⟨k,i,j,rfl,h1,h2,h3,h4⟩|⟨i,rfl,h1⟩
 .rfl
 .rfl
 .have hk:k=2\/k=3\/k=4\/k=5:=by omega
  rcases hk with rfl|rfl|rfl|rfl
  .rfl
  .rfl
  .rfl
  .show(if Vagraa.isZero (VagraLine.at_ vs j.toNat)=true then none else some (Vagraa.div (VagraLine.at_ vs i.toNat) (VagraLine.at_ vs j.toNat)))=if (true&&decide ((VagraLine.at_ vs j.toNat).num=0))=true then none else some (Vagraa.div (VagraLine.at_ vs i.toNat) (VagraLine.at_ vs j.toNat))
   rw[Bool.true_and]
   rfl
 .rfl
theorem Ls{n k:Nat}(h:Vagraa.bits n<=k):n<2 ^ k:=by
 unfold Vagraa.bits at h
 split at h
 .next e=>rw[e];exact Nat.two_pow_pos k
 .next hn=>exact(Nat.log2_lt hn).mp (by omega)
theorem B6{n:Int}{d:Nat}(h:0<d):0<(Vagraa.frac n d).den:=by
 unfold Vagraa.frac
 rw[if_neg (by omega)]
 exact Nat.div_pos (Nat.le_of_dvd h (Nat.gcd_dvd_right _ _)) (Nat.gcd_pos_of_pos_right _ h)
theorem Ej(n:Int)(d:Nat):(Vagraa.frac n d).num.natAbs<=n.natAbs:=by
 unfold Vagraa.frac
 split
 .exact Nat.zero_le _
 .show(n / ((Nat.gcd n.natAbs d:Nat):Int)).natAbs<=n.natAbs
  have hd:((Nat.gcd n.natAbs d:Nat):Int) ∣ n:=Int.dvd_natAbs.mp (Int.natCast_dvd_natCast.mpr (Nat.gcd_dvd_left _ _))
  obtain⟨k,hk⟩:=hd
  have hg:0<Nat.gcd n.natAbs d:=Nat.gcd_pos_of_pos_right _ (by omega)
  generalize Nat.gcd n.natAbs d=g at hk hg
  rw[hk,Int.mul_ediv_cancel_left _ (by omega),Int.natAbs_mul,Int.natAbs_natCast]
  exact Nat.le_mul_of_pos_left _ hg
theorem Ek(n:Int){d:Nat}(h:0<d):(Vagraa.frac n d).den<=d:=by
 unfold Vagraa.frac
 rw[if_neg (by omega)]
 exact Nat.div_le_self _ _
end Sp
end
section
namespace Sp
open PySem PySem.Spec PyProof.Rows L2
section
variable{P:Program}{w:World}{K:W.Frag}{mg:Str->Option Value}{base:Heap}
theorem FrOk.of_weight{f:Vagraa.Frac}{n:Nat}(hp:Low f)(h:Vagraa.weight f<=n):FrOk n f:=by
 unfold Vagraa.weight at h
 exact⟨hp.1,Ls (by omega),by show(f.den:Int).natAbs<_;rw[Int.natAbs_natCast];exact Ls (by omega),hp.2⟩
theorem FrOk.frac{n:Int}{d k:Nat}(hd:0<d)(hn:Sz k n)(hs:d<2 ^ k):FrOk k (Vagraa.frac n d):=
 ⟨B6 hd,Nat.lt_of_le_of_lt (Ej n d) hn,by show((Vagraa.frac n d).den:Int).natAbs<_;rw[Int.natAbs_natCast];exact Nat.lt_of_le_of_lt (Ek n hd) hs,(Low.frac n hd).2⟩
def zf(K:W.Frag):Sp:=λvs H Q _=>∃ k va vb a b,vs=[.int k,va,vb]/\2<=k/\k<=5/\rFr K H va a/\rFr K H vb b/\CFr a b/\(k=5->b.num≠0)/\∀ v H',Same H H'->rFr K H' v (Ae k a b)->Q v H'
theorem Jf:FnScope ["kind","first","second"] ["kind","first","second"] (au d_joined):=by trivial
theorem J9(C:Kinds mg)(F1:Fn P w K mg base CX0 42 "plus" ["first","second"] (g7 K CFr Vagraa.add))(F2:Fn P w K mg base CX0 43 "minus" ["first","second"] (g7 K CFr Vagraa.sub))(F3:Fn P w K mg base CX0 42 "times" ["first","second"] (g7 K CFr Vagraa.mul))(F4:Fn P w K mg base CX0 43 "over" ["first","second"] (g7 K CFrD Vagraa.div))
  (D:Df K mg "joined" d_joined ["kind","first","second"]):Fn P w K mg base CX0 44 "joined" ["kind","first","second"] (zf K):=by
 refine D.ok Jf (λvs H Q E h=>?_) (λf cdv A outer s H vs Q E hr h=>?_)
 .obtain⟨k,va,vb,a,b,rfl,_⟩:=h
  rfl
 .obtain⟨k,va,vb,a,b,rfl,hk1,hk2,ra,rb,hc,hz,q⟩:=h
  refine⟨_,af (cw (bp fe (pv 0) (br C.sum rfl) (bv _)) (aq (az (bh F1 (hr.mono (by decide)) rfl bo (aa (pv 1) (aa (pv 2) aj))))) bu)
   (af (cw (bp fe (pv 0) (br C.difference rfl) (bv _)) (aq (az (bh F2 (hr.mono (by decide)) rfl bo (aa (pv 1) (aa (pv 2) aj))))) bu)
   (af (cw (bp fe (pv 0) (br C.product rfl) (bv _)) (aq (az (bh F3 (hr.mono (by decide)) rfl bo (aa (pv 1) (aa (pv 2) aj))))) bu)
   (aq (az (bh F4 (hr.mono (by decide)) rfl bo (aa (pv 1) (aa (pv 2) aj))))))),?_⟩
  have new:∀ (g:Vagraa.Frac),Ae k a b=g->∀ v H',Same H H'->rFr K H' v g->Q v H':=λg e v H' s1 r1=>q v H' s1 (by rw[e];exact r1)
  refine⟨_,rfl,rfl,_,rfl,ite2 (λh=>?_) λh=>?_⟩
  .have h:k=2:=by simpa using h
   exact⟨_,rfl,_,rfl,va,vb,a,b,rfl,ra,rb,hc,new _ (by rw[Ae,if_pos h])⟩
  .have h2:¬ k=2:=by simpa using h
   refine⟨_,rfl,rfl,_,rfl,ite2 (λh=>?_) λh=>?_⟩
   .have h:k=3:=by simpa using h
    refine⟨_,rfl,_,rfl,va,vb,a,b,rfl,ra,rb,hc,λv H' s1 r1=>q v H' s1 ?_⟩
    rw[Ae,if_neg h2,if_pos h]
    exact r1
   .have h3:¬ k=3:=by simpa using h
    refine⟨_,rfl,rfl,_,rfl,ite2 (λh=>?_) λh=>?_⟩
    .have h:k=4:=by simpa using h
     exact⟨_,rfl,_,rfl,va,vb,a,b,rfl,ra,rb,hc,new _ (by rw[Ae,if_neg h2,if_neg h3,if_pos h])⟩
    .have h4:¬ k=4:=by simpa using h
     exact⟨_,rfl,_,rfl,va,vb,a,b,rfl,ra,rb,⟨hc.1,hc.2,hz (by omega)⟩,new _ (by rw[Ae,if_neg h2,if_neg h3,if_neg h4])⟩
structure RowIn(inputs:Nat)(n:Nat)(a:List Int):Prop where
 ok:RawOk a
 parts:∀ p∈cp a,p<(n:Int)
 inp:a.headD 0=0->a.getD 1 0<(inputs:Int)
def Iu(K:W.Frag):Sp:=λvs H Q _=>∃ vl vv a vals inputs,vs=[vl,vv]/\rTp K rInt H vl a/\RowIn inputs vals.length a/\rLs K (rFr K) H vv vals/\Q (.bl (k9 vals a)) H
theorem Qs:FnScope ["line","values"] ["line","values"] (au d_divides_by_zero):=by trivial
theorem de{vals:List Vagraa.Frac}{i:Nat}(h:i<vals.length):vals[i]? = some (VagraLine.at_ vals i):=by
 unfold VagraLine.at_
 rw[List.getD_eq_getElem?_getD,List.getElem?_eq_getElem h]
 rfl
theorem Rs(C:Kinds mg)(D:Df K mg "divides_by_zero" d_divides_by_zero ["line","values"]):Fn P w K mg base CX0 1 "divides_by_zero" ["line","values"] (Iu K):=by
 refine D.ok Qs (λvs H Q E h=>?_) (λf cdv A outer s H vs Q E hr h=>?_)
 .obtain⟨vl,vv,a,vals,inputs,rfl,_⟩:=h
  rfl
 .obtain⟨vl,vv,a,vals,inputs,rfl,hl,hin,⟨av,xs,rfl,sv,prv⟩,q⟩:=h
  obtain⟨t,rfl,sa⟩:=rTp.ints.mp hl
  refine⟨_,aq (az (Jy (i9 fe (bf bq (pv 0) ax (λ_ _=>rfl)) (br C.quotient rfl) (bv _)) (Jw (i9 fe (bf bq (bf bc (pv 1) (bf bq (pv 0) ax (λ_ _=>rfl)) (λ_ _=>rfl)) ax (λ_ _=>rfl)) ax (bv _))))),?_⟩
  obtain⟨k,r,rfl,hne⟩:=hin.ok.ne
  refine Hv (decide (V.int k=V.int 5)) (decide ((VagraLine.at_ vals ((k::r).getD 2 0).toNat).num=0)) (λQ q=>⟨_,rfl,t,_,_,V.int k,rfl,rfl,sa,ck (j:=0) rfl rfl,rfl,q⟩) (λhk Q q=>?_) ?_
  .have hk:k=5:=by simpa using hk
   subst hk
   rcases hin.ok.shape with ⟨i,e,h1⟩|⟨n,d,e,h1⟩|⟨k,i,j,e,h1,h2,h3,h4⟩|⟨i,e,h1⟩
   .cases e
   .cases e
   .cases e
    have hj:=hin.parts j (by show j∈[i,j];simp)
    have hv:=de (vals:=vals) (i:=j.toNat) (by omega)
    obtain⟨u,hu,⟨b,rfl,sb⟩⟩:=gp prv hv
    refine⟨_,rfl,_,rfl,t,_,_,V.int j,rfl,rfl,sa,rfl,av,_,_,_,rfl,rfl,sv,ck (j:=j.toNat) (by omega) hu,b,_,_,_,rfl,rfl,sb,rfl,rfl,?_⟩
    rw[f9]
    exact q
   .cases e
  .rw[f9]
   exact q
def Qb(K:W.Frag):Sp:=λvs H Q _=>∃ vl vv vp a vals pts inputs,vs=[vl,vv,vp]/\rTp K rInt H vl a/\RowIn inputs vals.length a/\rLs K (rFr K) H vv vals/\rLs K (rFr K) H vp pts/\pts.length=inputs/\(∀ f∈vals,FrOk 4000000 f)/\k9 vals a=false/\∀ v H',Same H H'->rFr K H' v (g9 pts vals a)->Q v H'
theorem Pb:FnScope ["line","values","point","kind"] ["line","values","point"] (au d_line_value):=by trivial
theorem Tp(C:Kinds mg)(F1:Fn P w K mg base CX0 41 "lowest_terms" ["top","bottom"] Ir)(F2:Fn P w K mg base CX0 1 "opposite" ["fraction"] (Ip K))(F3:Fn P w K mg base CX0 44 "joined" ["kind","first","second"] (zf K))
  (D:Df K mg "line_value" d_line_value ["line","values","point"]):Fn P w K mg base CX0 45 "line_value" ["line","values","point"] (Qb K):=by
 refine D.ok Pb (λvs H Q E h=>?_) (λf cdv A outer s H vs Q E hr h=>?_)
 .obtain⟨vl,vv,vp,a,vals,pts,inputs,rfl,_⟩:=h
  rfl
 .obtain⟨vl,vv,vp,a,vals,pts,inputs,rfl,hl,hin,⟨av,xs,rfl,sv,prv⟩,⟨ap,ys,rfl,sp,prp⟩,hpl,hfr,hdz,q⟩:=h
  obtain⟨t,rfl,sa⟩:=rTp.ints.mp hl
  refine⟨_,af (bg (i:=3) Pb.nd rfl (Or.inl rfl) (bf bq (pv 0) ax (λ_ _=>rfl)))
   (af (cw (bp fe (pv 3) (br C.input rfl) (bv _)) (aq (az (bf bc (pv 2) (bf bq (pv 0) ax (λ_ _=>rfl)) (λ_ _=>rfl)))) bu)
   (af (cw (bp fe (pv 3) (br C.constant rfl) (bv _)) (aq (az (bh F1 (hr.mono (by decide)) rfl bo (aa (bf bq (pv 0) ax (λ_ _=>rfl)) (aa (bf bq (pv 0) ax (λ_ _=>rfl)) aj))))) bu)
   (af (cw (bp fe (pv 3) (br C.opposite rfl) (bv _)) (aq (az (bh F2 (hr.mono (by decide)) rfl bo (aa (bf bc (pv 1) (bf bq (pv 0) ax (λ_ _=>rfl)) (λ_ _=>rfl)) aj)))) bu)
   (aq (az (bh F3 (hr.mono (by decide)) rfl bo (aa (pv 3) (aa (bf bc (pv 1) (bf bq (pv 0) ax (λ_ _=>rfl)) (λ_ _=>rfl)) (aa (bf bc (pv 1) (bf bq (pv 0) ax (λ_ _=>rfl)) (λ_ _=>rfl)) aj))))))))),?_⟩
  rcases hin.ok.shape with ⟨i,rfl,h1⟩|⟨n,d,rfl,h1⟩|⟨k,i,j,rfl,h1,h2,h3,h4⟩|⟨i,rfl,h1⟩
  .have hi:i<(inputs:Int):=hin.inp rfl
   have hv:=de (vals:=pts) (i:=i.toNat) (by omega)
   obtain⟨u,hu,ru⟩:=gp prp hv
   refine⟨_,rfl,t,_,_,_,rfl,rfl,sa,rfl,_,rfl,rfl,_,rfl,?_⟩
   refine iteT ⟨_,rfl,_,rfl,t,_,_,V.int i,rfl,rfl,sa,rfl,ap,_,_,_,rfl,rfl,sp,ck (j:=i.toNat) (by omega) hu,q _ _ (.refl H) ru⟩
  .refine⟨_,rfl,t,_,_,_,rfl,rfl,sa,rfl,_,rfl,rfl,_,rfl,iteF ⟨_,rfl,rfl,_,rfl,iteT ?_⟩⟩
   refine⟨_,rfl,t,_,_,V.int n,rfl,rfl,sa,rfl,_,rfl,t,_,_,V.int d,rfl,rfl,sa,rfl,n,d.toNat,(by show _=[V.int n,V.int ((d.toNat:Nat):Int)];rw[Int.toNat_of_nonneg (by omega)];rfl),by omega,λp hp=>q _ _ (.new hp) ?_⟩
   exact rFr.new
  .have e0:∀ m:Int,m=0\/m=1\/m=6->decide (V.int k=V.int m)=false:=λm hm=>by
    rw[f9]
    exact decide_eq_false (by omega)
   have ep:cp [k,i,j]=[i,j]:=if_neg (by show ¬ (k=0\/k=1);omega)
   have hi:=hin.parts i (by rw[ep];simp)
   have hj:=hin.parts j (by rw[ep];simp)
   have hvi:=de (vals:=vals) (i:=i.toNat) (by omega)
   have hvj:=de (vals:=vals) (i:=j.toNat) (by omega)
   obtain⟨u,hu,ru⟩:=gp prv hvi
   obtain⟨u2,hu2,ru2⟩:=gp prv hvj
   refine⟨_,rfl,t,_,_,V.int k,rfl,rfl,sa,rfl,_,rfl,rfl,_,rfl,?_⟩
   rw[e0 0 (by omega)]
   refine iteF ⟨_,rfl,rfl,_,rfl,?_⟩
   rw[e0 1 (by omega)]
   refine iteF ⟨_,rfl,rfl,_,rfl,?_⟩
   rw[e0 6 (by omega)]
   refine iteF ⟨_,rfl,_,rfl,_,rfl,t,_,_,V.int i,rfl,rfl,sa,rfl,av,_,_,_,rfl,rfl,sv,ck (j:=i.toNat) (by omega) hu,_,rfl,_,rfl,t,_,_,V.int j,rfl,rfl,sa,rfl,av,_,_,_,rfl,rfl,sv,ck (j:=j.toNat) (by omega) hu2,k,u,u2,_,_,rfl,h1,h2,ru,ru2,⟨hfr _ (List.mem_of_getElem? hvi),hfr _ (List.mem_of_getElem? hvj)⟩,λz=>?_,λv H' s1 r1=>q v H' s1 ?_⟩
   .subst z
    intro z2
    unfold k9 at hdz
    have:(true&&decide ((VagraLine.at_ vals j.toNat).num=0))=false:=hdz
    rw[z2]at this
    simp at this
   .have e:g9 pts vals [k,i,j]=Ae k (VagraLine.at_ vals i.toNat) (VagraLine.at_ vals j.toNat):=by
     unfold g9
     rw[if_neg (by show ¬ k=0;omega),if_neg (by show ¬ k=1;omega),if_neg (by show ¬ k=6;omega)]
     rfl
    rw[e]
    exact r1
  .have hi:=hin.parts i (by show i∈[i];simp)
   have hvi:=de (vals:=vals) (i:=i.toNat) (by omega)
   obtain⟨u,hu,ru⟩:=gp prv hvi
   refine⟨_,rfl,t,_,_,_,rfl,rfl,sa,rfl,_,rfl,rfl,_,rfl,iteF ⟨_,rfl,rfl,_,rfl,iteF ⟨_,rfl,rfl,_,rfl,iteT ?_⟩⟩⟩
   exact⟨_,rfl,_,rfl,t,_,_,V.int i,rfl,rfl,sa,rfl,av,_,_,_,rfl,rfl,sv,ck (j:=i.toNat) (by omega) hu,u,_,rfl,ru,λp hp=>q _ _ (.new hp) rFr.new⟩
end
def Uz(pts:List Vagraa.Frac)(code:VagraLine.Code)(vals:List Vagraa.Frac)(fault:Nat):Prop:=
 (VagraLine.run (some Vagrae.HEAVY) pts code=.ok vals/\fault=0/\vals.length=code.length/\∀ f∈vals,FrOk 200 f)\/(VagraLine.run (some Vagrae.HEAVY) pts code=.error ⟨vals.length,fault⟩/\(fault=1\/fault=2))
theorem pw{pts vs:List Vagraa.Frac}{l:VagraLine.Line}{r:VagraLine.Code}:VagraLine.runFrom (some Vagrae.HEAVY) pts vs (l::r)=match l.value pts vs with
  | none=>.error ⟨vs.length,1⟩
  | some a=>if Vagrae.HEAVY<Vagraa.weight a then .error ⟨vs.length,2⟩ else VagraLine.runFrom (some Vagrae.HEAVY) pts (vs++[a]) r:=by
 rw[VagraLine.runFrom]
 cases l.value pts vs with
 | none=>rfl
 | some a=>
  show(if decide (Vagrae.HEAVY<Vagraa.weight a)=true then _ else _)=_
  by_cases h:Vagrae.HEAVY<Vagraa.weight a
  .rw[if_pos (decide_eq_true h)]
   show _=if Vagrae.HEAVY<Vagraa.weight a then _ else _
   rw[if_pos h]
  .rw[if_neg (by rw[decide_eq_false h];exact Bool.false_ne_true)]
   show _=if Vagrae.HEAVY<Vagraa.weight a then _ else _
   rw[if_neg h]
theorem Gw{pts vals:List Vagraa.Frac}{a:List Int}{inputs:Nat}(h:RowIn inputs vals.length a)(hp:pts.length=inputs)(h1:∀ f∈pts,Low f)(h2:∀ f∈vals,Low f)(hz:k9 vals a=false):Low (g9 pts vals a):=by
 have at1:∀ i:Nat,i<vals.length->Low (VagraLine.at_ vals i):=λi hi=>h2 _ (List.mem_of_getElem? (de hi))
 rcases h.ok.shape with ⟨i,rfl,h3⟩|⟨n,d,rfl,h3⟩|⟨k,i,j,rfl,h3,h4,h5,h6⟩|⟨i,rfl,h3⟩
 .have hi:i<(inputs:Int):=h.inp rfl
  exact h1 _ (List.mem_of_getElem? (de (vals:=pts) (i:=i.toNat) (by omega)))
 .exact Low.frac _ (show 0<d.toNat by omega)
 .have ep:cp [k,i,j]=[i,j]:=if_neg (by show ¬ (k=0\/k=1);omega)
  have hi:=h.parts i (by rw[ep];simp)
  have hj:=h.parts j (by rw[ep];simp)
  have pi:=at1 i.toNat (by omega)
  have pj:=at1 j.toNat (by omega)
  have e:g9 pts vals [k,i,j]=Ae k (VagraLine.at_ vals i.toNat) (VagraLine.at_ vals j.toNat):=by
   unfold g9
   rw[if_neg (by show ¬ k=0;omega),if_neg (by show ¬ k=1;omega),if_neg (by show ¬ k=6;omega)]
   rfl
  rw[e]
  have hk:k=2\/k=3\/k=4\/k=5:=by omega
  rcases hk with rfl|rfl|rfl|rfl
  .exact Low.frac _ (Nat.mul_pos pi.1 pj.1)
  .exact Low.frac _ (Nat.mul_pos pi.1 pj.1)
  .exact Low.frac _ (Nat.mul_pos pi.1 pj.1)
  .have hn:(VagraLine.at_ vals j.toNat).num≠0:=λz=>by
    have hz2:(true&&decide ((VagraLine.at_ vals j.toNat).num=0))=false:=hz
    rw[z]at hz2
    simp at hz2
   exact Low.frac _ (Nat.mul_pos pi.1 (Kw hn pj.2).1)
 .have hi:=h.parts i (by show i∈[i];simp)
  exact(at1 i.toNat (by omega)).neg
structure Faults(mg:Str->Option Value):Prop where
 no:Gc mg "NO_FAULT" 0
 div:Gc mg "DIVISOR_FAULT" 1
 heavy:Gc mg "WEIGHT_FAULT" 2
 most:Gc mg "MOST_WEIGHT" 200
section
variable{P:Program}{w:World}{K:W.Frag}{mg:Str->Option Value}{base:Heap}
def Mj(K:W.Frag):Sp:=λvs H Q _=>∃ vl vp rs pts inputs,vs=[vl,vp]/\rLs K (rTp K rInt) H vl rs/\(∀ a∈rs,RawOk a)/\cx inputs 0 rs=true/\rs.length<=1000/\rLs K (rFr K) H vp pts/\pts.length=inputs/\(∀ f∈pts,Low f) /\
 ∀ vals fault p q H',Uz pts (rs.map bz) vals fault->Same H H'->H p=none->H' p=some (.tup [.ref q,.int (fault:Nat)])->rLt (rFr K) H' (.ref q) vals->Q (.ref p) H'
theorem E8:FnScope ["lines","point","values","line","value"] ["lines","point"] (au d_run):=by trivial
theorem Ts(C:Faults mg)(F1:Fn P w K mg base CX0 1 "divides_by_zero" ["line","values"] (Iu K))(F2:Fn P w K mg base CX0 45 "line_value" ["line","values","point"] (Qb K))(F3:Fn P w K mg base CX0 1 "weight" ["fraction"] (qx K))
  (D:Df K mg "run" d_run ["lines","point"]):Fn P w K mg base CX0 46 "run" ["lines","point"] (Mj K):=by
 refine D.ok E8 (λvs H Q E h=>?_) (λf cdv A outer s H vs Q E hr h=>?_)
 .obtain⟨vl,vp,rs,pts,inputs,rfl,_⟩:=h
  rfl
 .obtain⟨vl,vp,rs,pts,inputs,rfl,⟨al,xs,rfl,sl,pr⟩,hok,hu,hlen,hp,hpl,hpd,q⟩:=h
  refine⟨_,af (bg (i:=2) E8.nd rfl (Or.inl rfl) (cu aj))
   (af (fj PassesOwn.never rfl (cy (pv 0)) (bi (i:=3) E8.nd rfl (Or.inl rfl))
    (af (cw (gm (bh F1 (hr.mono (by decide)) rfl bo (aa (pv 3) (aa (pv 2) aj)))) (aq (az (ia (aa (pv 2) (aa (br C.div rfl) aj))))) bu)
    (af (bg (i:=4) E8.nd rfl (Or.inl rfl) (bh F2 (hr.mono (by decide)) rfl bo (aa (pv 3) (aa (pv 2) (aa (pv 1) aj)))))
    (af (cw (bp Dy (bh F3 (hr.mono (by decide)) rfl bo (aa (pv 4) aj)) (br C.most rfl) (bv _)) (aq (az (ia (aa (pv 2) (aa (br C.heavy rfl) aj))))) bu)
    (aq (cf (ju PySem.F.plainAttrs_list PySem.F.slot_list_append PySem.F.type_list_append d8 (pv 2) (aa (pv 4) aj))))))))
   (aq (az (ia (aa (pv 2) (aa (br C.no rfl) aj)))))),?_⟩
  refine⟨Nat.zero_le _,λp hp0=>?_⟩
  have hl:=eg pr
  refine⟨_,rfl,al,rfl,⟨_,(Same.new hp0).seq sl⟩,ft (K:=K) (a:=al) (xs:=xs) (λi Z H'=>∃ v3 v4 zs vals,Z=[some (.ref al),some vp,some (.ref p),v3,v4]/\Same H H'/\H' p=some (.lst zs)/\Paired (rFr K H') zs vals/\vals.length=i/\(∀ f∈vals,FrOk 200 f) /\
    VagraLine.run (some Vagrae.HEAVY) pts (rs.map bz)=VagraLine.runFrom (some Vagrae.HEAVY) pts vals ((rs.drop i).map bz))
   ⟨none,none,[],[],rfl,.new hp0,ak,.nil,rfl,(λf hf=>(nomatch hf)),rfl⟩ (λi Z H' _ ⟨_,_,_,_,_,s1,_⟩=>s1.seq sl) ?_ ?_⟩
  .rintro i x Z H' hx ⟨v3,v4,zs,vals,rfl,s1,hp',prz,hvl,hfr,hrun⟩
   obtain⟨b,hb,rb⟩:=eh pr hx
   have okb:=hok b (List.mem_of_getElem? hb)
   obtain⟨hpa,hpi⟩:=gb inputs rs 0 i b hu hb
   have hin:RowIn inputs vals.length b:=⟨okb,λz hz=>by have:=hpa z hz;omega,hpi⟩
   have hi:i<rs.length:=(List.getElem?_eq_some_iff.mp hb).1
   have rb1:=rTp.mono rInt.mono _ _ _ _ s1 rb
   have hvs:rLs K (rFr K) H' (.ref p) vals:=⟨p,zs,rfl,SqL.of hp',prz⟩
   have hdr:(rs.drop i).map bz=bz b::(rs.drop (i+1)).map bz:=by
    have:rs.drop i=b::rs.drop (i+1):=by
     rw[List.drop_eq_getElem_cons hi]
     rw[List.getElem?_eq_getElem hi]at hb
     cases hb
     rfl
    rw[this]
    rfl
   rw[hdr,pw,Bk okb]at hrun
   have out:∀ (fault:Nat) (H2:Hp),(fault=1\/fault=2)->VagraLine.run (some Vagrae.HEAVY) pts (rs.map bz)=.error ⟨vals.length,fault⟩->Same H' H2->∀ p2,H2 p2=none->Q (.ref p2) (upd H2 p2 (.tup [.ref p,.int (fault:Nat)])):=λfault H2 hf he s2 p2 hp2=>by
    have s3:Same H' (upd H2 p2 (.tup [.ref p,.int (fault:Nat)])):=s2.trans (.new hp2)
    exact q vals fault p2 p _ (.inr ⟨he,hf⟩) (s1.trans s3) ((s1.trans s2).free hp2) ak (rLt.mono rFr.mono _ _ _ _ s3 ⟨p,zs,rfl,hp',prz⟩)
   refine⟨_,rfl,_,rfl,x,.ref p,b,vals,inputs,rfl,rb1,hin,hvs,_,rfl,?_⟩
   refine ite2 (λhz=>?_) λhz=>?_
   .rw[hz,if_pos rfl]at hrun
    exact⟨_,rfl,(by show 2<=sizeLine;decide),out 1 H' (.inl rfl) hrun (.refl _)⟩
   .have hz:k9 vals b=false:=by simpa using hz
    rw[hz,if_neg (by simp)]at hrun
    have hrun:VagraLine.run (some Vagrae.HEAVY) pts (rs.map bz)=if Vagrae.HEAVY<Vagraa.weight (g9 pts vals b) then .error ⟨vals.length,2⟩ else VagraLine.runFrom (some Vagrae.HEAVY) pts (vals++[g9 pts vals b]) ((rs.drop (i+1)).map bz):=hrun
    have hpos:=Gw hin hpl hpd (λf hf=>(hfr f hf).low) hz
    refine⟨_,rfl,_,rfl,_,rfl,x,.ref p,vp,b,vals,pts,inputs,rfl,rb1,hin,hvs,rLs.mono rFr.mono _ _ _ _ s1 hp,hpl,λf hf=>(hfr f hf).mono (by decide),hz,λv H2 s2 rv=>?_⟩
    refine⟨_,rfl,v,_,rfl,rv,_,_,rfl,rfl,_,rfl,?_⟩
    refine ite2 (λhw=>?_) λhw=>?_
    .have hw:Vagrae.HEAVY<Vagraa.weight (g9 pts vals b):=by
      have:=of_decide_eq_true hw
      show 200<_
      omega
     rw[if_pos hw]at hrun
     exact⟨_,rfl,(by show 2<=sizeLine;decide),out 2 H2 (.inr rfl) hrun s2⟩
    .have hw:¬ Vagrae.HEAVY<Vagraa.weight (g9 pts vals b):=λz=>hw (decide_eq_true (by
      have:200<Vagraa.weight (g9 pts vals b):=z
      omega))
     rw[if_neg hw]at hrun
     have hp2:=s2 _ _ hp'
     have hzl:=eg prz
     refine⟨_,rfl,.inl ⟨rfl,_,SqL.of hp2⟩,_,rfl,p,_,_,rfl,rfl,hp2,(by rw[hzl,hvl,sizeLine_eq];omega),?_⟩
     refine⟨_,_,zs++[v],vals++[g9 pts vals b],rfl,.set hp0 (s1.trans s2),ak,gg (pz rFr.avT hp' (Sb.trans s2.sb Sb.upd) prz) (rFr.avT _ _ _ _ _ _ hp2 Sb.upd rv),by rw[List.length_append,hvl];rfl,λg hg=>?_,hrun⟩
     rcases List.mem_append.mp hg with z|z
     .exact hfr g z
     .rw[List.mem_singleton.mp z]
      exact FrOk.of_weight hpos (by
       have:¬ 200<Vagraa.weight (g9 pts vals b):=hw
       omega)
  .rintro Z H' ⟨v3,v4,zs,vals,rfl,s1,hp',prz,hvl,hfr,hrun⟩
   rw[hl]at hvl
   rw[hl,List.drop_of_length_le (Nat.le_refl _)]at hrun
   refine⟨_,rfl,(by show 2<=sizeLine;decide),λp2 hp2=>?_⟩
   have s3:Same H' (upd H' p2 (.tup [.ref p,.int 0])):=.new hp2
   exact q vals 0 p2 p _ (.inl ⟨hrun,rfl,by rw[List.length_map,hvl],hfr⟩) (s1.trans s3) (s1.free hp2) ak (rLt.mono rFr.mono _ _ _ _ s3 ⟨p,zs,rfl,hp',prz⟩)
end
end Sp
end
section
namespace L2
open PySem PySem.Spec PyProof.Rows
theorem Cd(l:Addr)(items:Array Value)(n:Nat)(b:Addr)(items2:Array Value)(n2:Nat)(dd:Option Addr)(sl:Array (Option Value))(hs0:¬(!items.isEmpty&&Builtin.List.listTooLong (items.size+items2.size))=true)(hs1:items.size<=sizeLine)
  (hs2:items.size+items2.size<=sizeLine+1):Meets (Builtin.«list.extend» ⟨[.ref l,.ref b],[]⟩) (λ_ R s=>s.heap.get? l=some { cls:=.type "list",dict:=none,data:=.seq items n,slots:=#[] } /\
   s.heap.get? b=some { cls:=.type "tuple",dict:=dd,data:=.seq items2 n2,slots:=sl }/\R (.ok (.ret Value.none)) { s with heap:=s.heap.update l (Obj.mapSeq λx=>x++items2),toks:=s.toks }):=
 .of_wp λprog w A R s h=>by
  obtain⟨hp,g,d,tk,os⟩:=s
  obtain⟨hl,hb,h⟩:=h
  have f1:=AutoSeq1.idx_int
  have f2:=AutoSeq1.sub_tuple_tuple
  have f3:=AutoSeq1.sub_list_list
  have f4:=AutoSeq1.sub_tuple_list
  have f5:=AutoSeq1.sub_list_tuple
  have hz':(items++items2).size<=sizeLine+1:=by rw[Array.size_append];exact hs2
  wp_walk using (wpAny_updateSeq hl rfl (hz:=hs1) (_hz':=hz')),wpAny_loadPart' hl,wpAny_loadPart' hb
  exact⟨_,rfl,h⟩
section
variable{X:Cx}
def tRng(ta:TA):TE:=λZ H Q=>ta Z H λvs H1=>∃ j:Int,vs=[.int j]/\∀ r,H1 r=none->Q (.ref r) (upd H1 r (.rng 0 j))
theorem Fm{a:Expr}{ta:TA}{p pos:Pos}(hg:Gl X "range")(hm:X.mg "range"=none)(ha:PA X [a] ta)(hs:starEach [a] X.env=[(false,eval a X.env)]:=by rfl):PE X (.Call (.Name "range" p) [a] [] pos) (tRng ta):=by
 intro pins s Z H Q I h
 refine Call_ (jx I hg hm boot_range (PyProof.Rows.callWith_type1 (thn (ha pos pins s Z H _ I h) λus s1 ⟨vs,H1,I1,r1,q1⟩=>?_) hs rfl))
 obtain⟨j,e,q⟩:=q1
 subst e
 cases r1 with
 | cons r rr=>
  cases rr
  obtain⟨t,rfl⟩:=r
  refine call_range_1 ?_
  refine⟨.ref s1.heap.objs.size,_,I1.laid (o:=.rng 0 j) (λb o e=>Heap.get?_push_of_some _ e) (Nat.le_refl _) ?_,rfl,q _ (I1.hok.fresh (Nat.le_refl _))⟩
  exact⟨_,_,_,Heap.get?_push_size _ rfl⟩
theorem yi{lo:Int}{acc:Array Value}{n:Nat}(h:ItemsOf (λi v=>∃ t,v=Value.int (lo+(i:Int)*1) t) acc n):Vals ((List.range n).map λi:Nat=>V.int (lo+i)) acc.toList:=by
 obtain⟨h1,h2⟩:=h
 have key:∀ (k:Nat) (us:List Value) (lo:Int),us.length=k->(∀ (j:Nat) v,us[j]? = some v->∃ t,v=Value.int (lo+(j:Int)) t)->Vals ((List.range k).map λi:Nat=>V.int (lo+i)) us:=by
  intro k
  induction k with
  | zero=>
   intro us lo hl _
   cases us with
   | nil=>exact .nil
   | cons=>simp at hl
  | succ k ih=>
   intro us lo hl hu
   cases us with
   | nil=>simp at hl
   | cons u us=>
    rw[List.range_succ_eq_map,List.map_cons,List.map_map]
    refine .cons ?_ ?_
    .obtain⟨t,e⟩:=hu 0 u rfl
     exact⟨t,e⟩
    .have e:(λi:Nat=>V.int (lo+i))∘Nat.succ=λi:Nat=>V.int (lo+1+i):=by
      funext i
      show V.int (lo+((i+1:Nat):Int))=_
      congr 1
      omega
     rw[e]
     refine ih us (lo+1) (by simpa using hl) λj v hv=>?_
     obtain⟨t,e⟩:=hu (j+1) v hv
     refine⟨t,?_⟩
     rw[e]
     congr 1
     omega
 refine key n acc.toList lo (by rw[Array.length_toList];exact h1) λj v hv=>?_
 obtain⟨t,e⟩:=h2 j v (by rw[<- Array.getElem?_toList];exact hv)
 exact⟨t,by rw[e,Int.mul_one]⟩
theorem Bg{n:Nat}(h:n<=1000000):Builtin.Range.rangeSize 0 (n:Int) 1=n/\Builtin.Range.small 0 (n:Int) 1=true:=by
 have e:Builtin.Range.rangeSize 0 (n:Int) 1=(n:Int):=by
  unfold Builtin.Range.rangeSize
  rw[if_pos (by decide)]
  split <;> omega
 refine⟨e,?_⟩
 unfold Builtin.Range.small
 rw[e]
 have h2:∀ k:Int,0<=k->k<=4000000->Builtin.Range.rangeFitsLong k=true:=λk a b=>by
  unfold Builtin.Range.rangeFitsLong
  rw[Bool.and_eq_true]
  exact⟨decide_eq_true (by omega),decide_eq_true (by omega)⟩
 simp only[h2 0 (by omega) (by omega),h2 1 (by omega) (by omega),h2 (n:Int) (by omega) (by omega),if_pos (show(1:Int) > 0 by decide),h2 ((n:Int)+(1 - 1)) (by omega) (by omega),Bool.or_true,Bool.and_self]
theorem jg(hc:X.calm=true):wn X (.type "list") (λxs H Q=>∃ (r:Addr) (n:Nat),xs=[.ref r]/\H r=some (.rng 0 n)/\n<=1000000/\∀ l,H l=none->Q (.ref l) (upd H l (.lst ((List.range n).map λi:Nat=>V.int (i:Int))))):=by
 intro pins s Z H xs us Q I rr h
 obtain⟨r,n,rfl,hr,hn,q⟩:=h
 rw[Vals.ref1 rr]
 obtain⟨t,u,v,e⟩:=I.hok r _ hr
 obtain⟨h1,h2⟩:=Bg hn
 refine call_list_range (a:=0) (b:=(n:Int)) (c:=1) (n:=n) (I.ok.hd hc) e h2 h1 (by omega) λh' tk acc' c' hk hD hit=>?_
 have hv:=yi hit
 have e0:(λi:Nat=>V.int (0+(i:Int)))=λi:Nat=>V.int (i:Int):=by
  funext i
  rw[Int.zero_add]
 rw[e0]at hv
 refine⟨.ref s.heap.objs.size,_,I.laid (o:=.lst ((List.range n).map λi:Nat=>V.int (i:Int))) hk (Nat.le_refl _) ⟨?_,acc'.toList,c',hv,?_⟩,rfl,q _ (I.hok.fresh (Nat.le_refl _))⟩
 .rw[List.length_map,List.length_range,sizeLine_eq]
  omega
 .rw[hD,Array.toArray_toList]
theorem xx:∀ {xs:List V} {us:List Value},Vals xs us->∀ j,Vals (xs.eraseIdx j) (us.eraseIdx j)
 | _,_,.nil,_=>.nil
 | _,_,.cons _ t,0=>t
 | _,_,.cons r t,j+1=>.cons r (xx t j)
theorem qf{α β:Type}(f:α->β):∀ (l:List α) (j:Nat),(l.eraseIdx j).map f=(l.map f).eraseIdx j
 | [],_=>rfl
 | _::_,0=>rfl
 | x::l,j+1=>congrArg (f x::·) (qf f l j)
def Qw:V->List V->Hp->VK->Prop:=λx vs H Q=>∃ (l:Addr) (ns:List Nat) (k:Nat),x=.ref l/\vs=[.int k]/\H l=some (.lst (ns.map λn:Nat=>V.int (n:Int)))/\k∈ns/\Q .non (upd H l (.lst ((ns.erase k).map λn:Nat=>V.int (n:Int))))
theorem Ki:MtM X "list.remove" Qw:=by
 intro pins s Z H x vs v us Q I rx rv h
 obtain⟨l,ns,k,rfl,rfl,hH,hk,q⟩:=h
 cases rx
 obtain⟨u,rfl,ru⟩:=rv.one
 obtain⟨t,rfl⟩:=ru
 obtain⟨z,its,n,r,hl,e⟩:=I.lstM hH
 have hz:its.toArray.size<=sizeLine:=by rw[List.size_toArray];omega
 have hall:∀ (ns:List Nat) (its:List Value),Vals (ns.map λn:Nat=>V.int (n:Int)) its->W.kf_ints its=true/\∀ k:Nat,k∈ns->∃ j,W.kf_at (k:Int) its=some j/\ns.erase k=ns.eraseIdx j:=by
  intro ns
  induction ns with
  | nil=>
   intro its r
   cases r
   exact⟨rfl,λk hk=>(nomatch hk)⟩
  | cons a ns ih=>
   intro its r
   cases r with
   | cons r1 r2=>
    obtain⟨t1,rfl⟩:=r1
    obtain⟨i1,i2⟩:=ih _ r2
    refine⟨i1,λk hk=>?_⟩
    by_cases hak:a=k
    .subst hak
     refine⟨0,?_,?_⟩
     .unfold W.kf_at
      have:PyProof.Rows.isInt (a:Int) (.int (a:Int) t1)=true:=by simp[PyProof.Rows.isInt]
      rw[this]
      rfl
     .rw[List.erase_cons_head]
      rfl
    .obtain⟨j,h1,h2⟩:=i2 k ((List.mem_cons.mp hk).resolve_left λz=>hak z.symm)
     refine⟨j+1,?_,?_⟩
     .unfold W.kf_at
      have:PyProof.Rows.isInt (k:Int) (.int (a:Int) t1)=false:=by simp[PyProof.Rows.isInt];omega
      rw[this,h1]
      rfl
     .rw[List.erase_cons_tail (by simpa using hak),h2]
      rfl
 obtain⟨hi,hat⟩:=hall ns its r
 obtain⟨j,hj,hej⟩:=hat k hk
 obtain⟨a,b,c⟩:=W.kf_at_spec hj
 refine call_meets PySem.F.slot_list_remove ⟨_,e,rfl⟩ PySem.F.entry_list_remove (PySem.F.args_list_remove_2 _ _)
  (MeetsSeq.list_remove l its.toArray n (.int k t) (PyProof.Rows.isInt (k:Int)) (λy hy=>W.kf_eq hi y (by simpa using hy)) j (by simpa using a) (by simpa using b) (λi hi' hlt=>by simpa using c i (by simpa using hi') hlt) hz) ⟨e,?_⟩
 refine⟨.non,_,I.lset (its':=its.eraseIdx j) hH e (by simp) ?_ ?_,rfl,q⟩
 .rw[hej,qf]
  exact xx r j
 .rw[List.length_map]
  rw[List.length_map]at z
  exact Nat.le_trans (List.length_erase_le) z
end
section
variable{prog:Program}{w:World}{A:Around}{E:Value->Shared->Prop}{s:Shared}
abbrev U1(prog:Program)(w:World)(A:Around)(R:Result->Shared->Prop):PySem.Fin->Shared->Prop:=λfin s'=>match fin with
 | .done f=>R (.ok f) s'
 | .again c'=>c'.quiet=true/\codeAny (model prog w) A c' R s'
abbrev Vn(Q:Value->Shared->Prop)(E:Value->Shared->Prop):Result->Shared->Prop:=λr s'=>match r with
 | .ok (.ret v)=>Q v s'
 | .ok _=>False
 | .error e=>E e s'
theorem ym{id:String}{b:Builtin}{args:List Value}{kw:List (Str×Value)}{Q:Value->Shared->Prop}(hk:builtinKind id=none)(hp:plainId id=true)(hb:entryFor table id=some b)(ha:argsOk id ⟨args,kw⟩)
  (hc:wpAny (model prog w) A.in1 (b ⟨args,kw⟩) (U1 prog w A (Vn Q E)) E s):wpAny (model prog w) A (call (.builtin id) args kw) Q E s:=by
 refine wpAny_call (codeAny_call_builtin hp hb ?_)
 simp only[checkBuiltinCall,hk]
 cases hs:Manifest.signature? id with
 | none=>exact wpAny_pure hc
 | some sig=>
  have h2:Bind.checkArgs id sig ⟨args,kw⟩=pure ():=by simpa only [argsOk,hs] using ha
  simp only[h2]
  exact wpAny_pure hc
end
section
variable{prog:Program}{w:World}{A:Around}{R:Result->Shared->Prop}{I:Addr}{fp wr:List Addr}{n:Nat}{P:Nat->Value->Prop}{St:Nat->Heap->Prop}{kw:List (Str×Value)}
theorem D7(W:Walks prog w A.in1 I fp wr n P St)(bt:Nat->Nat->Bool)(cmp:CmpOf prog w A.in1 .Gt P bt)(S:Addr)(out:S ∉ fp) :
  ∀ (k j:Nat) (s:Shared) (best:Value) (c:Nat),n - (j+1)=k->j+1<=n->St (j+1) s.heap->P (argBest bt j) best ->
   s.heap.get? S=some { cls:=.type "list",dict:=none,data:=.seq #[best,best] c,slots:=#[] } ->
   (∀ v h' tk,P (argBest bt (n - 1)) v->(∀ b o,b ∉ wr->b≠S->s.heap.get? b=some o->h'.get? b=some o)->R (.ok (.ret v)) { s with heap:=h',toks:=tk }) ->
   codeAny (model prog w) A (.builtin "max.loop" ⟨[.ref I,.none,.ref S],kw⟩) R s:=by
 have nw:S ∉ wr:=λz=>out (W.sub _ z)
 have nm:(toString "max"++toString ".loop":String)="max.loop":=by decide
 intro k
 induction k with
 | zero=>
  intro j s best c hk hj st pb hS fin
  have hjn:j+1=n:=by omega
  refine codeAny_builtin PySem.F.entry_max_loop ?_
  rw[Around.under_plainId PySem.F.plain_max_loop _]
  show wpAny _ A.in1 (seqItems? (.ref S)>>=_) _ _ s
  refine wpAny_bind (wpAny_seqItems hS rfl ?_)
  show wpAny _ A.in1 (tryCatch (pyNext (.ref I)) _>>=_) _ _ s
  refine wpAny_bind (wpAny_tryCatch (W.done s _ _ (hjn ▸ st) λh1 tk1 keep1=>?_))
  have hS1:=keep1 S _ nw hS
  show wpAny _ A.in1 (updateSeq S (λ_=>#[])>>=_) _ _ _
  refine wpAny_bind (wpAny_updateSeq hS1 rfl (wpAny_bind (wpAny_letGo (wpAny_pure ?_))))
  exact fin best _ tk1 (by rw[<- hjn];exact pb) λb o h1 h2 e=>(Heap.get?_update_other _ _ (Ne.symm h2)).trans (keep1 b o h1 e)
 | succ k ih=>
  intro j s best c hk hj st pb hS fin
  have hlt:j+1<n:=by omega
  refine codeAny_builtin PySem.F.entry_max_loop ?_
  rw[Around.under_plainId PySem.F.plain_max_loop _]
  show wpAny _ A.in1 (seqItems? (.ref S)>>=_) _ _ s
  refine wpAny_bind (wpAny_seqItems hS rfl ?_)
  show wpAny _ A.in1 (tryCatch (pyNext (.ref I)) _>>=_) _ _ s
  refine wpAny_bind (wpAny_tryCatch (W.item (j+1) s _ _ hlt st λv h1 tk1 pv st1 keep1=>?_))
  have hS1:=keep1 S _ nw hS
  show wpAny _ A.in1 (tryCatch (holding [v,v] (richCompare .Gt v best>>=_)) _>>=_) _ _ _
  refine wpAny_bind (wpAny_tryCatch (wpAny_holding (wpAny_bind (cmp (j+1) (argBest bt j) v best _ _ _ pv pb ?_))))
  refine wpAny_bind (wpAny_holding (wpAny_truthy_bool ?_))
  refine wpAny_bind (wpAny_letGo (wpAny_pure ?_))
  cases hb:bt (j+1) (argBest bt j) with
  | true=>
   simp only[if_true]
   refine wpAny_bind (wpAny_updateSeq hS1 rfl (wpAny_bind (wpAny_letGo ?_)))
   rw[nm]
   refine wpAny_pure ⟨plainId_quiet PySem.F.plain_max_loop _,ih (j+1) _ v _ (by omega) hlt (W.frame _ _ _ st1 λb hbf o e=>?_) (by simp only[argBest,hb,if_true];exact pv) (Heap.get?_update_self _ hS1 rfl) λv2 h2 tk2 p2 keep2=>?_⟩
   .exact(Heap.get?_update_other _ _ (λz:S=b=>out (by rw[z];exact hbf))).trans e
   .exact fin v2 h2 tk2 p2 λb o y1 y2 e=>keep2 b o y1 y2 ((Heap.get?_update_other _ _ (Ne.symm y2)).trans (keep1 b o y1 e))
  | false=>
   simp only[Bool.false_eq_true,if_false]
   refine wpAny_bind (wpAny_letGo ?_)
   rw[nm]
   refine wpAny_pure ⟨plainId_quiet PySem.F.plain_max_loop _,ih (j+1) _ best c (by omega) hlt st1 (by simp only[argBest,hb,Bool.false_eq_true,if_false];exact pb) hS1 λv2 h2 tk2 p2 keep2=>?_⟩
   exact fin v2 h2 tk2 p2 λb o y1 y2 e=>keep2 b o y1 y2 (keep1 b o y1 e)
theorem Bw(W:Walks prog w A.in1 I fp wr n P St)(bt:Nat->Nat->Bool)(cmp:CmpOf prog w A.in1 .Gt P bt)(S:Addr)(out:S ∉ fp)(hn:0<n){s:Shared}{c:Nat}(st:St 0 s.heap)
  (hS:s.heap.get? S=some { cls:=.type "list",dict:=none,data:=.seq #[] c,slots:=#[] })
  (fin:∀ v h' tk,P (argBest bt (n - 1)) v->(∀ b o,b ∉ wr->b≠S->s.heap.get? b=some o->h'.get? b=some o)->R (.ok (.ret v)) { s with heap:=h',toks:=tk }) :
  codeAny (model prog w) A (.builtin "max.loop" ⟨[.ref I,.none,.ref S],kw⟩) R s:=by
 have nw:S ∉ wr:=λz=>out (W.sub _ z)
 have nm:(toString "max"++toString ".loop":String)="max.loop":=by decide
 refine codeAny_builtin PySem.F.entry_max_loop ?_
 rw[Around.under_plainId PySem.F.plain_max_loop _]
 show wpAny _ A.in1 (seqItems? (.ref S)>>=_) _ _ s
 refine wpAny_bind (wpAny_seqItems hS rfl ?_)
 show wpAny _ A.in1 (tryCatch (pyNext (.ref I)) _>>=_) _ _ s
 refine wpAny_bind (wpAny_tryCatch (W.item 0 s _ _ hn st λv h1 tk1 pv st1 keep1=>?_))
 have hS1:=keep1 S _ nw hS
 show wpAny _ A.in1 (updateSeq S (λ_=>#[v,v])>>=_) _ _ _
 refine wpAny_bind (wpAny_updateSeq hS1 rfl ?_)
 rw[nm]
 refine wpAny_pure ⟨plainId_quiet PySem.F.plain_max_loop _,D7 W bt cmp S out _ 0 _ v _ rfl hn (W.frame _ _ _ st1 λb hbf o e=>?_) pv (Heap.get?_update_self _ hS1 rfl) λv2 h2 tk2 p2 keep2=>?_⟩
 .exact(Heap.get?_update_other _ _ (λz:S=b=>out (by rw[z];exact hbf))).trans e
 .exact fin v2 h2 tk2 p2 λb o y1 y2 e=>keep2 b o y1 y2 ((Heap.get?_update_other _ _ (Ne.symm y2)).trans (keep1 b o y1 e))
theorem Ab{nm:Str}{d:Value}(W:Walks prog w A.in1 I fp wr 0 P St)(S:Addr)(out:S ∉ fp){s:Shared}{c:Nat}(st:St 0 s.heap)
  (hS:s.heap.get? S=some { cls:=.type "list",dict:=none,data:=.seq #[] c,slots:=#[] })
  (fin:∀ h' tk,(∀ b o,b ∉ wr->s.heap.get? b=some o->h'.get? b=some o)->R (.ok (.ret d)) { s with heap:=h',toks:=tk }) :
  codeAny (model prog w) A (.builtin "max.loop" ⟨[.ref I,.none,.ref S],[(nm,d)]⟩) R s:=by
 refine codeAny_builtin PySem.F.entry_max_loop ?_
 rw[Around.under_plainId PySem.F.plain_max_loop _]
 show wpAny _ A.in1 (seqItems? (.ref S)>>=_) _ _ s
 refine wpAny_bind (wpAny_seqItems hS rfl ?_)
 show wpAny _ A.in1 (tryCatch (pyNext (.ref I)) _>>=_) _ _ s
 refine wpAny_bind (wpAny_tryCatch (W.done s _ _ st λh1 tk1 keep1=>?_))
 exact wpAny_bind (wpAny_rule (wpAny_pure (fin h1 tk1 keep1)))
end
section
variable{prog:Program}{w:World}{A:Around}{E:Value->Shared->Prop}{s:Shared}{l:Addr}{its:List Value}{ns:List Int}{Q:Value->Shared->Prop}
theorem L1(a d:Value):argsOk "max" ⟨[a],[(Str.ofString "default",d)]⟩:=by unfold argsOk;kernel_rfl
theorem Od{d:Value}(hh:A.handled=none)(hl:s.heap.IsList l its.toArray)(hi:IntsAre its ns)
  (h:∀ h' tk M t',(∀ b o,s.heap.get? b=some o->h'.get? b=some o)->M∈ns->(∀ a,a∈ns->a<=M)->Q (.int M t') { s with heap:=h',toks:=tk })
  (h0:ns=[]->∀ h' tk,(∀ b o,s.heap.get? b=some o->h'.get? b=some o)->Q d { s with heap:=h',toks:=tk }):wpAny (model prog w) A (call (.builtin "max") [.ref l] [(Str.ofString "default",d)]) Q E s:=by
 obtain⟨xs,e⟩:=hi.allInts.items
 have hn:numsOf (intItems xs).toList=ns:=by rw[<- e];exact hi.numsOf
 rw[nums_intItems]at hn
 rw[e]at hl
 have nm:(toString "max"++toString ".loop":String)="max.loop":=by decide
 refine ym PySem.F.kind_max PySem.F.plain_max PySem.F.entry_max (L1 _ _) ?_
 show wpAny _ A.in1 (Builtin.Builtins.bindParams "max" ["key","default"] 0 ⟨[],[(Str.ofString "default",d)]⟩>>=_) _ _ s
 refine wpAny_bind (wpAny_of_eq (show Builtin.Builtins.bindParams "max" ["key","default"] 0 ⟨[],[(Str.ofString "default",d)]⟩=pure [none,some d] from by first|rfl|kernel_rfl) ?_)
 refine wpAny_bind (wpAny_pure ?_)
 refine wpAny_bind (iter_intList hl λs2 es st hfp hlI=>?_)
 subst es
 refine wpAny_bind (wpAny_newObj_type ?_)
 have out:(s.heap.push { cls:=.type "list_iterator",data:=.fields #[.ref l,.int 0 0] }).objs.size ∉ [s.heap.objs.size,l]:=λhm=>Nat.lt_irrefl _ (hfp _ hm)
 have W:=Walks.list (prog:=prog) (w:=w) (A:=A.in1) hh s.heap.objs.size l hlI (intItems xs)
 have hss:(intItems xs).size=xs.size:=by simp[intItems]
 rw[nm]
 refine wpAny_pure ⟨plainId_quiet PySem.F.plain_max_loop _,?_⟩
 by_cases hz:xs.size=0
 .have hz2:(intItems xs).size=0:=by omega
  have hns:ns=[]:=by
   rw[<- hn]
   apply List.eq_nil_of_length_eq_zero
   rw[List.length_map,Array.length_toList]
   exact hz
  rw[hz2]at W
  refine Ab W _ out (W.frame _ _ _ st λb _ o q=>Heap.get?_push_of_some _ q) (Heap.get?_push_size _ rfl) λh' tk keep=>?_
  exact h0 hns h' tk λb o q=>keep b o (λz=>by
   rw[List.mem_singleton.mp z]at q
   exact absurd (Heap.lt_size q) (Nat.lt_irrefl _)) (Heap.get?_push_of_some _ (Heap.get?_push_of_some _ q))
 .refine Bw W _ (CmpOf.ints_gt (numAt xs) (λ_ _=>intItems_at)) _ out (by omega) (W.frame _ _ _ st λb _ o q=>Heap.get?_push_of_some _ q) (Heap.get?_push_size _ rfl) λv h' tk hP keep=>?_
  rw[hss]at hP
  obtain⟨t,rfl⟩:=intItems_at hP
  obtain⟨h1,h2⟩:=argBest_gt (numAt xs) (xs.size - 1)
  refine h h' tk _ t (λb o q=>keep b o (λz=>?_) (λz=>?_) (Heap.get?_push_of_some _ (Heap.get?_push_of_some _ q))) ?_ λa ha=>?_
  .rw[List.mem_singleton.mp z]at q
   exact absurd (Heap.lt_size q) (Nat.lt_irrefl _)
  .have hq:=Heap.lt_size q
   rw[z,Heap.size_push]at hq
   exact absurd hq (Nat.not_lt.mpr (Nat.le_succ _))
  .rw[<- hn,numAt_eq]
   exact PySem.getD_mem (by rw[List.length_map,Array.length_toList];omega)
  .rw[<- hn]at ha
   obtain⟨j,hj,rfl⟩:=mem_getD ha
   rw[List.length_map,Array.length_toList]at hj
   rw[<- numAt_eq]
   exact h2 j (by omega)
end
section
variable{X:Cx}{a d:Expr}{ta tk:TA}{p pos kpos:Pos}
def U6(K:W.Frag)(ta tk:TA):TE:=λZ H Q=>ta Z H λvs H1=>tk Z H1 λzs H2=>∃ (y:V) (l:Addr) (ns:List Int),zs=[y]/\vs=[V.ref l]/\SqL K H2 l (ns.map V.int)/\(∀ m,m∈ns->(∀ z,z∈ns->z<=m)->Q (.int m) H2)/\(ns=[]->Q y H2)
theorem Q6(hc:X.calm=true)(hg:Gl X "max")(hm:X.mg "max"=none)(ha:PA X [a] ta)(hd:PK X [⟨some "default",d,kpos⟩] tk)(he:backTo pos (starEach [a] X.env)=(false,eval a X.env)::backTo pos (starEach [] X.env):=by rfl)(hplain:(backTo pos (starEach [a] X.env)).any (·.1)=false:=by rfl) :
  PE X (.Call (.Name "max" p) [a] [⟨some "default",d,kpos⟩] pos) (U6 X.K ta tk):=by
 intro pins s Z H Q I h
 refine wpAny_Call_Name_kw (jx I hg hm boot_max ?_)
 refine PyProof.Rows.callWith_kw (thn (ha pos pins s Z H _ I h) λus s1 ⟨vs,H1,I1,r1,q1⟩=>?_) he hplain
 refine thn (hd pos pins s1 Z H1 _ I1 q1) λws s2 ⟨zs,H2,I2,r2,q2⟩=>?_
 obtain⟨y,l,ns,rfl,rfl,hs,q,q0⟩:=q2
 cases r2 with
 | cons ry rt=>
  cases rt
  rw[Vals.ref1 r1]
  obtain⟨its,rv,hl,_⟩:=I2.list hs
  exact Od (I2.ok.hd hc) hl.isList rv.ints (λh' tk m t' hk h1 h2=>⟨.int _,H2,I2.kept hk,⟨_,rfl⟩,q m h1 h2⟩) λhz h' tk hk=>⟨y,H2,I2.kept hk,ry,q0 hz⟩
end
theorem Kh:typeLookup (.type "list_reverseiterator") "__len__"=pure none:=by rw[typeLookup_type,builtinLookup_eq_fast];kernel_rfl
theorem Ol:typeLookup (.type "list_reverseiterator") "__length_hint__"=pure (some (.builtin "list_reverseiterator.__length_hint__")):=by rw[typeLookup_type,builtinLookup_eq_fast];kernel_rfl
section
variable{prog:Program}{w:World}{A:Around}{E:Value->Shared->Prop}{s:Shared}
theorem B4{it l:Addr}{i:Int}{Q:Bool->Shared->Prop}(hit:s.heap.IsRevIter it l i)(h:Q false s):wpAny (model prog w) A (Builtin.List.listLengthHint (.ref it)) Q E s:=by
 unfold Builtin.List.listLengthHint
 refine wpAny_bind (wpAny_specialOf hit.typeIs Kh ?_)
 show wpAny _ A (specialOf (Value.ref it) (Str.ofString "__length_hint__")>>=_) _ _ _
 refine wpAny_bind (wpAny_specialOf hit.typeIs Ol ?_)
 generalize hid:("list_reverseiterator.__length_hint__":String)=id0
 wp_delta
 rw[show splitId id0=some ("list_reverseiterator","__length_hint__") from by subst hid;decide +kernel]
 subst hid
 refine wpAny_bind (wpAny_isInstance (b:=true) hit.typeIs (by rw[isSubtype_type];kernel_rfl) ?_)
 exact wpAny_pure h
theorem Hj{R:Result->Shared->Prop}{r l:Addr}{items:Array Value}(hh:A.handled=none)(hit:s.heap.IsRevIter r l ((items.size:Int) - 1))(hl:s.heap.IsList l items)(hz:items.size<=sizeLine)(S:Addr)(res:Value)(c0:Nat)
  (hS:s.heap.get? S=some { cls:=.type "list",data:=.seq #[] c0 }) (hSl:S≠l) (hrl:l≠r)
  (fin:∀ h' tk acc c',(∀ b o,b≠S->b≠r->s.heap.get? b=some o->h'.get? b=some o)->h'.get? S=some { cls:=.type "list",dict:=none,data:=.seq acc c',slots:=#[] }->ItemsOf (λi v=>items[items.size - 1 - i]? = some v) acc items.size ->
   R (.ok (.ret res)) { s with heap:=h',toks:=tk }) :
  wpAny (model prog w) A.in1 (Builtin.List.listExtendWith (.ref S) (.ref r) res) (U1 prog w A R) (λe s'=>R (.error e) s') s:=by
 have hSr:S≠r:=λe=>by
  obtain⟨o,ho,hc,_⟩:=hit
  rw[<- e,hS]at ho
  cases ho
  exact absurd (Value.type.inj hc) (by decide)
 have out:S ∉ [r,l]:=λz=>by
  rcases List.mem_cons.mp z with e|e
  .exact hSr e
  .exact hSl (List.mem_singleton.mp e)
 have W:=(Walks.listRev (prog:=prog) (w:=w) (A:=A.in1) hh r l hrl items).toS
 unfold Builtin.List.listExtendWith
 refine wpAny_bind (wpAny_typeOf (T:="list_reverseiterator") hit.typeIs ?_)
 have h1:Builtin.List.listSameRef (.ref S) (.ref r)=false:=by simp[Builtin.List.listSameRef,hSr]
 have h2:(Value.type "list_reverseiterator"==Value.type "list")=false:=by decide
 have h3:(Value.type "list_reverseiterator"==Value.type "tuple")=false:=by decide
 simp only[h1,h2,h3,Bool.or_false,Bool.false_eq_true,if_false]
 refine wpAny_bind (wpAny_pyIter_revIter hit ?_)
 refine wpAny_bind (wpAny_holding (B4 hit ?_))
 refine wpAny_ite_split (λhab=>absurd hab (by decide)) (λ_=>wpAny_pure ⟨plainId_quiet PySem.F.plain_extend_loop _,?_⟩)
 have st0:0<=items.size/\s.heap.IsRevIter r l ((items.size:Int) - 1 - ((0:Nat):Int))/\s.heap.IsList l items:=⟨Nat.zero_le _,by simpa using hit,hl⟩
 refine codeAny_extend_loopS W hz S out res items.size 0 s #[] c0 rfl (Nat.zero_le _) st0 hS (ItemsOf.nil _) λs' acc c' hm hS' hacc=>?_
 rw[Moved.eq_with hm]
 refine fin s'.heap s'.toks acc c' (λb o h1 h2 e=>hm.heap b o (λz=>?_) e) hS' hacc
 rcases List.mem_cons.mp z with e|e
 .exact h1 e
 .exact h2 (List.mem_singleton.mp e)
theorem D8{Q:Value->Shared->Prop}{r l:Addr}{items:Array Value}(hh:A.handled=none)(hit:s.heap.IsRevIter r l ((items.size:Int) - 1))(hl:s.heap.IsList l items)(hz:items.size<=sizeLine)(hrl:l≠r)
  (fin:∀ h' tk acc c',(∀ b o,b≠r->s.heap.get? b=some o->h'.get? b=some o)->h'.get? s.heap.objs.size=some { cls:=.type "list",dict:=none,data:=.seq acc c',slots:=#[] }->ItemsOf (λi v=>items[items.size - 1 - i]? = some v) acc items.size ->
   Q (.ref s.heap.objs.size) { s with heap:=h',toks:=tk }):wpAny (model prog w) A (call (.type "list") [.ref r]) Q E s:=by
 refine callType_codes (Q₁:=λobj s1=>obj=.ref s.heap.objs.size/\s1={ s with heap:=s.heap.push { cls:=.type "list",data:=.seq #[] } }) PySem.F.called_list (PySem.F.typeCall_list_1 _) PySem.F.entry_list_init (code_list_new _ ⟨rfl,rfl⟩) λobj s1 h1=>?_
 obtain⟨rfl,rfl⟩:=h1
 have hS:(s.heap.push { cls:=.type "list",data:=.seq #[] }).get? s.heap.objs.size=some { cls:=.type "list",data:=.seq #[] }:=Heap.get?_push_size _ rfl
 refine⟨⟨_,hS,rfl⟩,PySem.F.args_list_init_2 _ _,?_⟩
 show wpAny _ _ (do let old <- Builtin.List.listItems (.ref s.heap.objs.size);Builtin.List.listUpdate (.ref s.heap.objs.size) (λ_=>#[]);letGo old.toList.reverse;Builtin.List.listExtendWith (.ref s.heap.objs.size) (.ref r) .none) _ _ _
 refine wpAny_bind ?_
 unfold Builtin.List.listItems
 refine wpAny_bind (wpAny_seqItems hS rfl (wpAny_pure ?_))
 show wpAny _ _ (updateSeq s.heap.objs.size (λ_=>#[])>>=λ_=>letGo (#[]:Array Value).toList.reverse>>=λ_=>Builtin.List.listExtendWith (.ref s.heap.objs.size) (.ref r) .none) _ _ _
 refine wpAny_bind (wpAny_updateSeq hS rfl ?_)
 have hS2:=Heap.get?_update_self (Obj.mapSeq (λ_=>(#[]:Array Value))) hS rfl
 have oth:∀ b o,s.heap.get? b=some o->((s.heap.push { cls:=.type "list",data:=.seq #[] }).update s.heap.objs.size (Obj.mapSeq (λ_=>(#[]:Array Value)))).get? b=some o:=λb o e=>
  (Heap.get?_update_other _ _ (Nat.ne_of_gt (Heap.lt_size e))).trans (Heap.get?_push_of_some _ e)
 refine wpAny_bind (wpAny_letGo ?_)
 have hlt:l<s.heap.objs.size:=by
  obtain⟨o,e,_⟩:=hl
  exact Heap.lt_size e
 refine Hj (A:=A.in1) hh (hit.at λo e=>oth _ o e) (hl.at λo e=>oth _ o e) hz _ .none _ hS2 (Nat.ne_of_gt hlt) hrl λh' tk acc c' keep hD hit'=>?_
 exact⟨rfl,fin h' tk acc c' (λb o h1 e=>keep b o (Nat.ne_of_lt (Heap.lt_size e)) h1 (oth b o e)) hD hit'⟩
end
theorem M2{items acc:List Value}{xs:List V}(rv:Vals xs items)(h:acc.length=items.length)(hi:∀ (j:Nat) v,acc[j]? = some v->items[items.length - 1 - j]? = some v):Vals xs.reverse acc:=by
 have e:acc=items.reverse:=by
  apply List.ext_getElem?
  intro j
  by_cases hj:j<acc.length
  .rw[List.getElem?_reverse (by omega),List.getElem?_eq_getElem hj]
   exact(hi j _ (List.getElem?_eq_getElem hj)).symm
  .rw[List.getElem?_eq_none (by omega),List.getElem?_eq_none (by rw[List.length_reverse];omega)]
 rw[e]
 clear e h hi
 induction rv with
 | nil=>exact .nil
 | cons r t ih=>
  rw[List.reverse_cons,List.reverse_cons]
  exact ih.append (.cons r .nil)
section
variable{X:Cx}{e:Expr}{ta:TA}{p p2 pos pos2:Pos}
def Mc(K:W.Frag)(ta:TA):TE:=λZ H Q=>ta Z H λvs H1=>∃ (a:Addr) (xs:List V),vs=[.ref a]/\SqL K H1 a xs/\∀ D,H1 D=none->Q (.ref D) (upd H1 D (.lst xs.reverse))
theorem Gy(hc:X.calm=true)(hgl:Gl X "list")(hml:X.mg "list"=none)(hgr:Gl X "reversed")(hmr:X.mg "reversed"=none)(ha:PA X [e] ta)
  (hs2:starEach [e] X.env=[(false,eval e X.env)]:=by rfl) (hs:starEach [.Call (.Name "reversed" p2) [e] [] pos2] X.env=[(false,eval (.Call (.Name "reversed" p2) [e] [] pos2) X.env)]:=by rfl) :
  PE X (.Call (.Name "list" p) [.Call (.Name "reversed" p2) [e] [] pos2] [] pos) (Mc X.K ta):=by
 intro pins s Z H Q I h
 refine wpAny_Call_Name_kw (jx I hgl hml PyProof.Rows.boot_list ?_)
 refine PyProof.Rows.callWith_type1 ?_ hs rfl
 rw[hs]
 show wpAny _ _ (spliced ((false,_)::backTo pos [])) _ _ s
 refine Calls.spliced_cons (Call_ (jx I hgr hmr ww (PyProof.Rows.callWith_type1 (thn (ha pos2 pins s Z H _ I h) λus s1 ⟨vs,H1,I1,r1,q1⟩=>?_) hs2 rfl)))
 obtain⟨a,xs,ex,hq,q⟩:=q1
 subst ex
 cases r1 with
 | cons r rr=>
  cases rr
  cases r
  obtain⟨its,rv,p',hz⟩:=I1.list hq
  have hl:=rv.length
  refine call_reversed_list p'.isList (Calls.spliced_nil ?_)
  have hlt:a<s1.heap.objs.size:=by
   obtain⟨o,q1,_⟩:=p'.isList
   exact Heap.lt_size q1
  refine D8 (l:=a) (items:=its.toArray) (I1.ok.hd hc) ⟨_,Heap.get?_push_size _ rfl,rfl,rfl⟩ (p'.isList.push _) (by rw[List.size_toArray];omega) (Nat.ne_of_lt hlt) λh' tk acc c' keep hD hit=>?_
  rw[Heap.size_push]at hD ⊢
  have hk:∀ b o,s1.heap.get? b=some o->h'.get? b=some o:=λb o e=>keep b o (Nat.ne_of_lt (Heap.lt_size e)) (Heap.get?_push_of_some _ e)
  have hv:Vals xs.reverse acc.toList:=M2 rv (by rw[Array.length_toList,hit.1,List.size_toArray]) λj v hj=>by
   have:=hit.2 j v (by rw[<- Array.getElem?_toList];exact hj)
   simpa using this
  refine⟨.ref (s1.heap.objs.size+1),_,I1.laid (o:=.lst xs.reverse) hk (Nat.le_succ _) ⟨by rw[List.length_reverse];exact hz,acc.toList,c',hv,by rw[hD,Array.toArray_toList]⟩,rfl,q _ (I1.hok.fresh (Nat.le_succ _))⟩
end
section
variable{prog:Program}{w:World}{A:Around}{E:Value->Shared->Prop}{s:Shared}
theorem Eo{Q:List Value->Shared->Prop}{r:Addr}{n:Nat}{t u v:Tok}(hh:A.handled=none)(hr:IsRange s.heap r 0 (n:Int) 1 t u v)(hn:n<=1000000)
  (h:∀ h' tk (acc:Array Value),(∀ b o,s.heap.get? b=some o->h'.get? b=some o)->ItemsOf (λi v=>∃ t,v=.int (0+(i:Int)*1) t) acc n->s.heap.objs.size<h'.objs.size->Q acc.toList { s with heap:=h',toks:=tk }) :
  wpAny (model prog w) A (collect (.ref r)) Q E s:=by
 obtain⟨h1,h2⟩:=Bg hn
 unfold collect
 refine wpAny_bind ?_
 refine wpAny_runValue ?_
 refine codeAny_builtin entry_proto_collect' ?_
 show wpAny (model prog w) _ (newList []>>=λl=>again (.builtin "list.__iadd__" ⟨[l,.ref r],[]⟩)) _ _ s
 refine wpAny_bind (wpAny_newList ?_)
 refine wpAny_pure ⟨Code.quiet_builtin _ (by decide +kernel),?_⟩
 refine codeAny_builtin entry_list_iadd' ?_
 have hS:(s.heap.push (seqObj "list" #[] 0)).get? s.heap.objs.size=some { cls:=.type "list",data:=.seq #[] }:=Heap.get?_push_size _ rfl
 rw[Around.under_plainId (show plainId "list.__iadd__"=true by decide +kernel) _]
 refine wpAny_extend_range (s:={ s with heap:=s.heap.push (seqObj "list" #[] 0) }) (A:=A) (R:=λr' s'=>match r' with
   | .ok (.ret v)=>wpAny (model prog w) A (match v with
    | .ref a=>(load a>>=λo=>match o.data with
     | .seq xs _=>pure xs.toList
     | _=>unsupported "internal:collect")
    | _=>unsupported "internal:collect") Q E s'
   | .ok _=>False
   | .error e=>E e s') hh (Heap.get?_push_of_some _ hr) h2 h1 (by omega) s.heap.objs.size _ _ hS λh' tk acc c hk hD hit=>?_
 show wpAny (model prog w) A (load s.heap.objs.size>>=λo=>match o.data with
   | .seq xs _=>pure xs.toList
   | _=>unsupported "internal:collect") Q E _
 refine wpAny_bind (wpAny_load hD ?_)
 exact wpAny_pure (h h' tk acc (λb o e=>hk b o (Nat.ne_of_lt (Heap.lt_size e)) (Heap.get?_push_of_some _ e)) hit (Heap.lt_size hD))
end
def l9(g:Nat->Int)(p:Int×Value)(i:Nat):Prop:=p.1=g i/\∃ t,p.2=.int (i:Int) t
theorem l9.inj{g:Nat->Int}{p:Int×Value}{i j:Nat}(a:l9 g p i)(b:l9 g p j):i=j:=by
 obtain⟨_,t,e⟩:=a
 obtain⟨_,u,f⟩:=b
 rw[e]at f
 injection f with f1 _
 omega
theorem B1{g:Nat->Int}:∀ {l:List (Int×Value)} {a b:List Nat},Paired (l9 g) l a->Paired (l9 g) l b->a=b
 | _,_,_,.nil,.nil=>rfl
 | _,_,_,.cons r t,.cons r2 t2=>by rw[r.inj r2,B1 t t2]
theorem jy{g:Nat->Int}(c:Int):∀ {l:List (Int×Value)} {a:List Nat},Paired (l9 g) l a->Paired (l9 g) (l.filter λp=>p.1==c) (a.filter λi=>g i==c)
 | _,_,.nil=>.nil
 | _,_,.cons (a:=p) (b:=i) (l₁:=l) (l₂:=a) r t=>by
  have ih:=jy c t
  rw[List.filter_cons,List.filter_cons,r.1]
  cases g i==c
  .exact ih
  .exact .cons r ih
theorem B2{g:Nat->Int}:∀ (l:List (Int×Value)),(∀ p∈l,∃ i,l9 g p i)->∃ a,Paired (l9 g) l a
 | [],_=>⟨[],.nil⟩
 | p::l,h=>by
  obtain⟨i,hi⟩:=h p (List.mem_cons_self ..)
  obtain⟨a,ha⟩:=B2 l λq hq=>h q (List.mem_cons_of_mem _ hq)
  exact⟨i::a,.cons hi ha⟩
theorem B0{g:Nat->Int}:∀ {l:List (Int×Value)} {a:List Nat},Paired (l9 g) l a->∀ p∈l,∃ i,l9 g p i
 | _,_,.nil,p,h=>nomatch h
 | _,_,.cons r t,p,h=>by
  rcases List.mem_cons.mp h with e|m
  .rw[e]
   exact⟨_,r⟩
  .exact B0 t p m
theorem Bz{g:Nat->Int}:∀ {is:List Nat} {vs:List Value},Vals (is.map λi:Nat=>V.int (i:Int)) vs->Paired (l9 g) ((is.map g).zip vs) is
 | [],[],_=>.nil
 | i::is,v::vs,h=>by
  cases h with
  | cons r t=>
   obtain⟨t',e⟩:=r
   exact .cons ⟨rfl,t',e⟩ (Bz t)
 | [],_::_,h=>nomatch h
 | _::_,[],h=>nomatch h
theorem yg{g:Nat->Int}:∀ {l:List (Int×Value)} {a:List Nat},Paired (l9 g) l a->Vals (a.map λi:Nat=>V.int (i:Int)) (l.map Prod.snd)
 | _,_,.nil=>.nil
 | _,_,.cons r t=>.cons r.2 (yg t)
theorem yh{g:Nat->Int}:∀ {l:List (Int×Value)} {a:List Nat},Paired (l9 g) l a->l.Pairwise (λp q=>p.1<=q.1)->a.Pairwise (λx y=>g x<=g y)
 | _,_,.nil,_=>.nil
 | _,_,.cons (a:=p) (b:=i) (l₁:=l) (l₂:=a) r t,h=>by
  cases h with
  | cons h1 h2=>
   refine .cons (λj hj=>?_) (yh t h2)
   have key:∀ {l:List (Int×Value)} {a:List Nat},Paired (l9 g) l a->(∀ q∈l,p.1<=q.1)->∀ j∈a,p.1<=g j:=by
    intro l a pr
    induction pr with
    | nil=>intro _ j hj;exact nomatch hj
    | cons r' t' ih=>
     intro hq j hj
     rcases List.mem_cons.mp hj with e|m
     .rw[e,<- r'.1]
      exact hq _ (List.mem_cons_self ..)
     .exact ih (λq hq2=>hq q (List.mem_cons_of_mem _ hq2)) j m
   rw[<- r.1]
   exact key t h1 j hj
theorem Iy{g:Nat->Int}{n:Nat}{vs out:List Value}(hv:Vals ((List.range n).map λi:Nat=>V.int (i:Int)) vs)(h:KskOutSt false ((List.range n).map g) vs out) :
  ∃ is:List Nat,Vals (is.map λi:Nat=>V.int (i:Int)) out/\is.Pairwise (λx y=>g x<=g y)/\∀ c,is.filter (λi=>g i==c)=(List.range n).filter (λi=>g i==c):=by
 obtain⟨ps,hp,rfl,hs,hst⟩:=h
 have z0:=Bz (g:=g) hv
 obtain⟨is,hi⟩:=B2 (g:=g) ps λp hp2=>B0 z0 p (hp.mem_iff.mp hp2)
 refine⟨is,yg hi,yh hi (by simpa using hs),λc=>?_⟩
 have a1:=jy c hi
 rw[hst c]at a1
 exact B1 a1 (jy c z0)
section
variable{prog:Program}{w:World}{A:Around}{E:Value->Shared->Prop}{s:Shared}{h₀:Heap}{L:Addr}{m:Str->Option Value}{news:List (Addr×Obj)}{Q:Value->Shared->Prop}
theorem Gv{r f:Addr}{n:Nat}{t u v:Tok}{g:Nat->Int}(F:Fr h₀ L s.heap m)(N:News h₀ L s.heap news)(hh:A.handled=none)(hr:IsRange s.heap r 0 (n:Int) 1 t u v)(hn:n<=1000000)
  (turn:∀ (i:Nat) (t:Tok) (h:Heap) (tk:Nat) (own:List (Addr×Obj)),i<n->Fr h₀ L h m->News h₀ L h (news++own) ->
   wpAny (model prog w) A.in1.in1 (call (.ref f) [.int (i:Int) t]) (KskEnd h₀ L m (news++own) (g i) { s with heap:=h,toks:=tk }) (λ_ _=>False) { s with heap:=h,toks:=tk })
  (done:∀ D h' tk (out:Array Value) c (is:List Nat),Fr h₀ L h' m->News h₀ L h' ((D,seqObj "list" out c)::news)->(∀ q∈news,q.1<D)->Vals (is.map λi:Nat=>V.int (i:Int)) out.toList ->
   is.Pairwise (λx y=>g x<=g y)->(∀ c,is.filter (λi=>g i==c)=(List.range n).filter (λi=>g i==c))->Q (.ref D) { s with heap:=h',toks:=tk }) :
  wpAny (model prog w) A (call (.builtin "sorted") [.ref r] [(Str.ofString "key",.ref f)]) Q E s:=by
 refine call_function_entry_kw kind_sorted plain_sorted entry_sorted (ksk_s1 _ _) ?_
 unfold Builtin.«sorted»
 refine wpAny_bind (m:=checkCount "sorted" 1 1 _) ?_
 refine wpAny_pure ?_
 refine wpAny_bind ?_
 refine Eo (A:=A.in1) hh hr hn λh1 tk1 acc k1 it hsz1=>?_
 have hv:Vals ((List.range n).map λi:Nat=>V.int (i:Int)) acc.toList:=by
  have z:=yi it
  have e0:(λi:Nat=>V.int (0+(i:Int)))=λi:Nat=>V.int (i:Int):=by
   funext i
   rw[Int.zero_add]
  rw[e0]at z
  exact z
 have hlen:acc.toList.length=n:=by
  have z:=hv.length
  rw[List.length_map,List.length_range]at z
  exact z.symm
 refine wpAny_bind (wpAny_newList ?_ (by rw[hlen,sizeLine_eq];omega))
 have kp:∀ b o,s.heap.get? b=some o->(h1.push (seqObj "list" acc.toList.toArray 0)).get? b=some o:=λb o q=>Heap.get?_push_of_some _ (k1 b o q)
 have ho:(h1.push (seqObj "list" acc.toList.toArray 0)).get? h1.objs.size=some (seqObj "list" acc.toList.toArray 0):=Heap.get?_push_size _ rfl
 have hL:L<s.heap.objs.size:=F.ns.lt
 have lt1:∀ q∈news,q.1<h1.objs.size:=λq hq=>Heap.lt_size (k1 _ _ (N q hq).1)
 refine wpAny_bind (wpAny_holding (wpAny_call_entry_kw slot_list_sort ⟨_,ho,rfl⟩ entry_list_sort ?_ (ksk_l1 _ _)))
 show wpAny (model prog w) A.in1.in1 (Builtin.«list.sort» ⟨[.ref h1.objs.size],[(Str.ofString "key",.ref f)]⟩) _ _ _
 rw[ksk_t1]
 refine ksk_sortSt (s:={ s with heap:=h1.push (seqObj "list" acc.toList.toArray 0),toks:=tk1 }) (kz:=(List.range n).map g) (F.kept kp) (N.grown kp) ho (Nat.ne_of_gt (Nat.lt_trans hL hsz1)) (Heap.get?_none_of_le (Nat.le_trans F.above (Nat.le_of_lt (Nat.lt_trans hL hsz1))))
  (λq hq=>Nat.ne_of_lt (lt1 q hq)) (by rw[List.length_map,List.length_range,hlen]) (by rw[hlen,sizeLine_eq];omega) (λi x k hx hk h tk own F' N'=>?_) λh' tk out c F' N' k'=>⟨_,rfl,?_⟩
 .rw[List.getElem?_map]at hk
  have hi:i<n:=by
   have:=(List.getElem?_eq_some_iff.mp hx).1
   omega
  rw[List.getElem?_range hi]at hk
  have hk:g i=k:=Option.some.inj hk
  subst hk
  obtain⟨y,hy,ry⟩:=hv.get (i:=i) (x:=V.int (i:Int)) (by rw[List.getElem?_map,List.getElem?_range hi];rfl)
  rw[hx]at hy
  cases hy
  obtain⟨t',rfl⟩:=ry
  exact turn i t' h tk own hi F' N'
 .obtain⟨is,i1,i2,i3⟩:=Iy hv k'
  exact wpAny_pure ⟨_,rfl,done _ h' tk out c is F' N' lt1 i1 i2 i3⟩
end
abbrev mz:Scope:={ kind:=.function,names:=[(Str.ofString "column",.local),(Str.ofString "met",.free),(Str.ofString "len",.globalImplicit)],isGenerator:=false,isCoroutine:=false,more:=[] }
abbrev Ec(pa:Pos):Arguments:={ posonlyargs:=[],args:=[{ arg:="column",annotation:=none,pos:=pa }],vararg:=none,kwonlyargs:=[],kw_defaults:=[],kwarg:=none,defaults:=[] }
abbrev Eb(p1 p2 p3 p4 p5 p6:Pos):Expr:=.UnaryOp .USub (.Call (.Name "len" p1) [.Subscript (.Name "met" p2) (.Name "column" p3) p4] [] p5) p6
abbrev yf(qual:Str)(pa p1 p2 p3 p4 p5 p6:Pos)(c:Addr)(pm:Value)(c':Addr)(ctv:Value):Obj:=W.kla_obj "<lambda>" qual (Ec pa) (Eb p1 p2 p3 p4 p5 p6) mz [(Str.ofString "met",c)] pm c' ctv
section
variable{prog:Program}{w:World}{A:Around}{s:Shared}{f c c' am ai:Addr}{qual:Str}{pm ctv:Value}{pa p1 p2 p3 p4 p5 p6:Pos}{mg mb:Str->Option Value}{its row:Array Value}{i:Nat}{t:Tok}
theorem Oj(hd:A.depth<recursionLimit)(ho:s.heap.get? f=some (yf qual pa p1 p2 p3 p4 p5 p6 c pm c' ctv))(hcd:s.heap.CodeRec (.ref c') qual)(hcell:s.heap.IsCell c (some (.ref am)))
  (hl:s.heap.IsList am its) (hi:its[i]? = some (.ref ai)) (hr:s.heap.IsList ai row) (hz:row.size<=1000000) (hiz:its.size<=1000000) (hg:s.heap.Ns mainGlobals mg) (hm:mg "len"=none) (hb:s.heap.Ns builtinsNs mb) (hbl:mb "len"=some (.builtin "len")) (lim:s.heap.NoLimit) :
  wpAny (model prog w) A (call (.ref f) [.int (i:Int) t]) (λv s'=>∃ h' tk t',s'={ s with heap:=h',toks:=tk }/\v=.int (-(row.size:Int)) t'/\∀ b o,s.heap.get? b=some o->h'.get? b=some o) (λ_ _=>False) s:=by
 refine wpAny_call ?_
 refine W.kla_callFunE hd ho rfl rfl rfl rfl hcd ?_
 rw[show bindArgs (W.kla_fn "<lambda>" qual (Ec pa) (Eb p1 p2 p3 p4 p5 p6) mz [(Str.ofString "met",c)] pm (.ref c') ctv) ⟨[.int (i:Int) t],[]⟩=pure [(Str.ofString "column",.int (i:Int) t)] from rfl]
 refine wpAny_pure (wpAny_newFunctionEnv (show ∀ x∈mz.names,x.2≠.cell by decide) (locs rfl) (λh1 hns hsb=>?_) rfl)
 have kp:∀ b o,s.heap.get? b=some o->h1.get? b=some o:=λb o e=>hsb.extBut b o (Nat.ne_of_lt (Heap.lt_size e)) (Heap.get?_push_of_some _ e)
 refine⟨lim.keeps kp,?_⟩
 refine W.kla_codeExpr ?_
 refine UnaryOp_ ?_
 refine wpAny_Call_Name_kw ?_
 refine Calls.Name_function_global rfl rfl (Calls.loadGlobal_builtin (hg.keeps kp) hm (hb.keeps kp) hbl ?_) (by decide)
 refine PyProof.Rows.callWith_builtin1 ?_ rfl rfl
 refine Calls.spliced_cons ?_
 refine Subscript_ ?_
 refine wpAny_Name (wpAny_loadName_free rfl rfl rfl (show h1.IsCell c (some (.ref am)) from ?_) ?_ (by decide)) (by decide)
 .obtain⟨o,e,d⟩:=hcell
  exact⟨o,kp _ _ e,d⟩
 refine wpAny_Name (wpAny_loadName_local rfl rfl hns rfl ?_) (by decide)
 have keepL:∀ {a:Addr} {xs:Array Value},s.heap.IsList a xs->h1.IsList a xs:=λ{a xs} ⟨o,e,d⟩=>⟨o,kp _ _ e,d⟩
 have hin:i<its.size:=(Array.getElem?_eq_some_iff.mp hi).1
 refine item_listR (keepL hl) (by omega) (by omega) (x:=.ref ai) (by rw[Int.toNat_natCast];exact hi) ?_ rfl
 refine Calls.spliced_nil ?_
 refine Calls.call_len_list (keepL hr) (by omega) ?_
 exact neg_int ⟨_,_,_,rfl,rfl,kp⟩
end
structure LamEnv(mg:Str->Option Value)(base:Heap)(cdv:Value)(P:Addr):Prop where
 bm:∃ bm ob,mg "__builtins__"=some (.ref bm)/\bm≠builtinsNs/\base.get? bm=some ob/\ob.cls=.type "module"/\ob.dict=some builtinsNs/\ob.data=.plain
 code:∃ c,cdv=.ref c/\W.CodeHd base c P
def Er(c':Addr)(qual:Str):HO:=.ext λh=>h.CodeRec (.ref c') qual
def lamH(qual:Str)(pa p1 p2 p3 p4 p5 p6:Pos)(c c' f:Addr):HO:=.ext λh=>∃ pm ctv,h.get? f=some (yf qual pa p1 p2 p3 p4 p5 p6 c pm c' ctv)
def Ie(lpos:Pos)(c':Addr):Array Value:=#[rawInt lpos.line,rawInt lpos.col,.ref c']
def Tab(lpos:Pos)(qual:Str)(P:Addr)(H:Hp):Prop:=H P=some (.tbl #[])\/∃ c',H P=some (.tbl (Ie lpos c'))/\H c'=some (Er c' qual)
theorem Tab.at_{lpos:Pos}{qual:Str}{P:Addr}{H:Hp}(h:Tab lpos qual P H):∃ ps,H P=some (.tbl ps):=by
 rcases h with h|⟨c',h,_⟩
 .exact⟨_,h⟩
 .exact⟨_,h⟩
def tLam(lpos:Pos)(qual:Str)(P c:Addr)(pa p1 p2 p3 p4 p5 p6:Pos):TE:=λ_ H Q=>Tab lpos qual P H /\
 ∀ f c' H',Sb P H H'->H f=none->H' P=some (.tbl (Ie lpos c'))->H' c'=some (Er c' qual)->H' f=some (lamH qual pa p1 p2 p3 p4 p5 p6 c c' f)->Q (.ref f) H'
section
variable{X:Cx}{lpos pa p1 p2 p3 p4 p5 p6:Pos}{qual:Str}{P c:Addr}
theorem Sn{prog:Program}{w:World}{H:Hp}{h:Heap}{c':Addr}(e:h.CodeRec (.ref c') qual):ga prog w H h c' (Er c' qual):=by
 refine⟨e,?_,λh1 h2 a k=>?_⟩
 .obtain⟨c2,o,vs,t,e1,e2,_⟩:=e
  cases e1
  exact⟨o,e2⟩
 .obtain⟨c2,o,vs,t,e1,e2,e3⟩:=a
  cases e1
  exact⟨_,o,vs,t,rfl,k o e2,e3⟩
theorem Ub{prog:Program}{w:World}{H:Hp}{h:Heap}{c' f:Addr}{pm ctv:Value}(e:h.get? f=some (yf qual pa p1 p2 p3 p4 p5 p6 c pm c' ctv)):ga prog w H h f (lamH qual pa p1 p2 p3 p4 p5 p6 c c' f):=
 ⟨⟨pm,ctv,e⟩,⟨_,e⟩,λh1 h2 ⟨pm,ctv,a⟩ k=>⟨pm,ctv,k _ a⟩⟩
theorem Tk(hcl:closureFor mz X.env=pure [(Str.ofString "met",c)])(hE:LamEnv X.mg X.base X.env.code P)(hq:X.env.qual++"<lambda>"=qual) :
  PE X (.Lambda (Ec pa) (Eb p1 p2 p3 p4 p5 p6) mz lpos) (tLam lpos qual P c pa p1 p2 p3 p4 p5 p6):=by
 intro pins s Z H Q I h
 obtain⟨hT,q⟩:=h
 obtain⟨cc,hcc,hC⟩:=hE.code
 obtain⟨bm,ob,b1,b2,b3,b4,b5,b6⟩:=hE.bm
 obtain⟨ps,hPs⟩:=hT.at_
 have hP:s.heap.get? P=some (W.tabObj ps):=I.hok P _ hPs
 have hbm:=I.bk _ _ b3
 have hg:s.heap.Ns mainGlobals X.mg:=I.mod.glob.keeps I.bk
 have hgP:mainGlobals≠P:=λz=>by
  obtain⟨o,es,ep,e,d,_⟩:=hg
  rw[z,hP]at e
  cases e
  cases d
 have hbP:bm≠P:=λz=>by
  rw[z,hP]at hbm
  cases hbm
  cases b4
 have hbG:bm≠mainGlobals:=λz=>by
  obtain⟨o,es,ep,e,d,_⟩:=hg
  rw[<- z,hbm]at e
  cases e
  rw[b6]at d
  cases d
 have hB:s.heap.BuiltinsAt X.mg P:=⟨bm,ob,b1,b2,hbG,hbP,hbm,b4,b5,b6⟩
 have hCd:W.CodeHd s.heap cc P:=hC.keeps I.bk
 have lt:∀ b u,H b=some u->b<s.heap.objs.size:=λb u e=>I.hok.lt e
 have neP:∀ b,H b=none->b≠P:=λb e z=>by rw[z,hPs]at e;cases e
 have fin:∀ (h':Heap) (tk:Nat) (f c':Addr) (more:Array Value) (H0:Hp),(∀ b o,b≠P->s.heap.get? b=some o->h'.get? b=some o)->s.heap.objs.size<=f->(∀ b u,H0 b=some u->b=c'\/H b=some u)->Same H H0->(H0 c'=some (Er c' qual))->(H c'=none->s.heap.objs.size<=c')->c'≠P->c'≠f->H0 f=none ->
   h'.CodeRec (.ref c') qual->h'.get? P=some (W.tabObj (ps++more))->ps++more=Ie lpos c'->(∃ pm ctv,h'.get? f=some (yf qual pa p1 p2 p3 p4 p5 p6 c pm c' ctv))->EP X pins Z Q (.ref f) { s with heap:=h',toks:=tk }:=by
  intro h' tk f c' more H0 k hf hH0 sm hc0 hc1 hcP hcf hf0 hrec htab hpm hlam
  have hfn:H f=none:=I.hok.fresh hf
  have hfP:f≠P:=neP f hfn
  have hPH0:H0 P=some (.tbl ps):=sm _ _ hPs
  refine⟨.ref f,upd (upd H0 P (.tbl (ps++more))) f (lamH qual pa p1 p2 p3 p4 p5 p6 c c' f),?_,rfl,?_⟩
  .have old:∀ b u,H b=some u->b≠P->(upd (upd H0 P (.tbl (ps++more))) f (lamH qual pa p1 p2 p3 p4 p5 p6 c c' f)) b=some u:=λb u e hb=>by
    rw[ay (ba e hfn),ay hb]
    exact sm _ _ e
   refine I.step (g':=s.gens) (d':=s.drawn) (t':=tk) (ch:=[]) (λ_ z=>nomatch z) (λb o _ _ _ e n=>k b o (neP b n) e) (λb o _ _ _ e n=>⟨o.slots,k b o (neP b n) e⟩) (λb o _ e n=>?_) (λb o _ e=>?_)
    (λb xs e=>old b _ e (d7 e hPs (by intro z;cases z))) (λb o u e=>old b _ e (d7 e hPs (by intro z;cases z))) (λb qs e=>?_) (λm hm=>?_) (λb u e=>?_) I.bare
   .have hbf:b≠f:=Nat.ne_of_lt (Nat.lt_of_lt_of_le (Heap.lt_size e) hf)
    rw[ay hbf,ay (neP b n)]
    cases q0:H0 b with
    | none=>rfl
    | some u=>
     rcases hH0 b u q0 with z|z
     .rw[z]at n e
      exact absurd (Nat.lt_of_lt_of_le (Heap.lt_size e) (hc1 n)) (Nat.lt_irrefl _)
     .rw[n]at z
      cases z
   .by_cases hb:b=P
    .exact⟨_,hb ▸ htab⟩
    .exact⟨o,k b o hb e⟩
   .by_cases hb:b=P
    .subst hb
     rw[hPs]at e
     cases e
     exact⟨more,by rw[ay hfP.symm,ak]⟩
    .exact⟨#[],by rw[old b _ e hb];simp⟩
   .obtain⟨o,es,ep,e,r⟩:=hm
    exact⟨o,es,ep,k _ o (neP _ I.free) e,r⟩
   .by_cases hbf:b=f
    .subst hbf
     rw[ak]at e
     cases e
     obtain⟨pm,ctv,e2⟩:=hlam
     exact Ub e2
    .rw[ay hbf]at e
     by_cases hbP:b=P
     .subst hbP
      rw[ak]at e
      cases e
      exact htab
     .rw[ay hbP]at e
      rcases hH0 b u e with z|z
      .subst z
       rw[hc0]at e
       cases e
       exact Sn hrec
      .refine(I.hok b u z).stay (λd v hd qd=>k d v ?_ qd) (λd qd=>old d _ qd (d7 qd hPs (by intro z;cases z))) λd xs qd=>old d _ qd (d7 qd hPs (by intro z;cases z))
       rcases hd with z2|z2
       .rw[z2]
        exact hbP
       .exact d7 z2 hPs (by intro z;cases z)
  .refine q f c' _ (λb u e hb=>?_) hfn ?_ ?_ ak
   .rw[ay (ba e hfn),ay hb]
    exact sm _ _ e
   .rw[ay hfP.symm,ak,hpm]
   .rw[ay hcf,ay hcP]
    exact hc0
 refine W.kla_eval rfl ?_
 rw[hq]
 rcases hT with hT | ⟨c',hT,hc'⟩
 .rw[hT]at hPs
  cases hPs
  refine W.kla_makeFunction (mg:=X.mg) hcl I.ok.glob hg hcc hCd hP trivial rfl hgP hB λc' ctv h' tk hx hge hlt hrec htab=>?_
  have hcn:H c'=none:=I.hok.fresh hge
  have keep:∀ b o,b≠P->s.heap.get? b=some o->(h'.push (yf qual pa p1 p2 p3 p4 p5 p6 c ((X.mg "__name__").getD .none) c' ctv)).get? b=some o:=λb o hb e=>Heap.get?_push_of_some _ (hx b o hb e)
  exact fin _ tk h'.objs.size c' _ (upd H c' (Er c' qual)) keep (Nat.le_trans hge (Nat.le_of_lt hlt)) (λb u e=>by
   by_cases hb:b=c'
   .exact .inl hb
   .rw[ay hb]at e
    exact .inr e) (.new hcn) ak (λ_=>hge) (neP _ hcn) (Nat.ne_of_lt hlt) (by
   rw[ay (Nat.ne_of_gt hlt)]
   exact I.hok.fresh (Nat.le_trans hge (Nat.le_of_lt hlt))) (hrec.push _) (Heap.get?_push_of_some _ htab) rfl ⟨_,ctv,Heap.get?_push_size _ rfl⟩
 .rw[hT]at hPs
  cases hPs
  have hrec:s.heap.CodeRec (.ref c') qual:=(I.hok c' _ hc').1
  have ham:codeAmong lpos (Ie lpos c').toList=some (.ref c'):=by
   simp[Ie,codeAmong,rawInt]
  refine W.kla_makeFunctionHit (mg:=X.mg) (cv:=.ref c') hcl I.ok.glob hg hcc hCd hP trivial ham hB λctv h' tk hk hsz=>?_
  have keep:∀ b o,s.heap.get? b=some o->(h'.push (yf qual pa p1 p2 p3 p4 p5 p6 c ((X.mg "__name__").getD .none) c' ctv)).get? b=some o:=λb o e=>Heap.get?_push_of_some _ (hk b o e)
  have hcl:c'<h'.objs.size:=Nat.lt_of_lt_of_le (lt _ _ hc') hsz
  exact fin _ tk h'.objs.size c' #[] H (λb o _ e=>keep b o e) hsz (λb u e=>.inr e) (.refl H) hc' (λz=>by rw[hc']at z;cases z) (d7 hc' hT (by intro z;cases z)) (Nat.ne_of_lt hcl) (I.hok.fresh hsz) (hrec.keeps keep) (by rw[Array.append_empty];exact keep _ _ hP) (by rw[Array.append_empty]) ⟨_,ctv,Heap.get?_push_size _ rfl⟩
end
theorem ui{g h h':Heap}{L:Addr}{m:Str->Option Value}(k:∀ b o,g.get? b=some o->h.get? b=some o)(F:Fr g L h' m)(N:News g L h' (l6 g h L)) :
  ∀ b o,b≠L->h.get? b=some o->h'.get? b=some o:=λb o hb e=>by
 cases q:g.get? b with
 | some u=>
  have e2:=k b u q
  rw[e]at e2
  cases e2
  exact F.keep b _ q
 | none=>exact(N (b,o) (ud hb q e)).1
theorem Vh{h:Heap}{a:Addr}{m m':Str->Option Value}(x:h.Ns a m)(y:h.Ns a m'):m=m':=by
 obtain⟨o,es,ep,e,d,_,f⟩:=x
 obtain⟨o',es',ep',e',d',_,f'⟩:=y
 rw[e]at e'
 cases e'
 rw[d]at d'
 cases d'
 funext x
 rw[<- f x,<- f' x]
theorem Dz{prog:Program}{w:World}{H:Hp}{h:Heap}{b:Addr}{o:HO}(x:ga prog w H h b o):∃ u,h.get? b=some u:=by
 cases o with
 | lst xs=>
  obtain⟨_,_,_,_,e⟩:=x
  exact⟨_,e⟩
 | tup xs=>
  obtain⟨_,_,_,_,e,_⟩:=x
  exact⟨_,e⟩
 | dK kvs=>
  obtain⟨_,_,_,_,_,_,_,e,_⟩:=x
  exact⟨_,e⟩
 | dT kvs=>
  obtain⟨_,_,_,_,_,_,_,e,_⟩:=x
  exact⟨_,e⟩
 | set S n=>
  obtain⟨_,_,_,_,e,_⟩:=x
  exact⟨_,e⟩
 | ins C dx fs=>
  obtain⟨_,_,_,e,_⟩:=x
  exact⟨_,e⟩
 | own y=>exact x
 | xd fs=>
  obtain⟨_,⟨_,_,_,e,_⟩,_⟩:=x
  exact⟨_,e⟩
 | rng lo hi=>
  obtain⟨_,_,_,e⟩:=x
  exact⟨_,e⟩
 | frz ob u=>exact⟨_,x.1⟩
 | tbl ps=>exact⟨_,x⟩
 | met f y=>exact⟨_,x⟩
 | ext φ=>exact x.2.1
def gd(g:Nat->Int)(n:Nat)(ys:List Nat):Prop:=ys.Pairwise (λx y=>g x<=g y)/\∀ c,ys.filter (λi=>g i==c)=(List.range n).filter (λi=>g i==c)
section
variable{X:Cx}{a:Expr}{ta tk:TA}{p pos kpos lpos pa p1 p2 p3 p4 p5 p6:Pos}{qual:Str}{P c:Addr}{lam:Expr}
def Gu(qual:Str)(c:Addr)(pa p1 p2 p3 p4 p5 p6:Pos)(j:Nat)(ta tk:TA):TE:=λZ H Q=>ta Z H λvs H1=>tk Z H1 λzs H2=>∃ (r f c' am:Addr) (met:List (List Nat)),vs=[.ref r]/\zs=[.ref f]/\H2 r=some (.rng 0 (met.length:Nat))/\met.length<=1000000 /\
 H2 f=some (lamH qual pa p1 p2 p3 p4 p5 p6 c c' f)/\H2 c'=some (Er c' qual)/\Z[j]? = some (some (.ref am))/\rLt (rLt rNat) H2 (.ref am) met/\(∀ b∈met,b.length<=1000000) /\
 ∀ D ys,H2 D=none->ys.length<=sizeLine->gd (λi=>-((met.getD i []).length:Int)) met.length ys->Q (.ref D) (upd H2 D (.lst (ys.map λi:Nat=>V.int (i:Int))))
theorem Bo{j:Nat}(hc:X.calm=true)(hr:Room 1 X.A)(hg:Gl X "sorted")(hm:X.mg "sorted"=none)(hml:X.mg "len"=none)(hj:X.N[j]? = some "met")(hv:X.env.scope.names.lookup ("met":Str)=some .cell)(hcell:X.env.cells.lookup ("met":Str)=some c)
  (ha:PA X [a] ta) (hd:PK X [⟨some "key",lam,kpos⟩] tk) (he:backTo pos (starEach [a] X.env)=(false,eval a X.env)::backTo pos (starEach [] X.env):=by rfl) (hplain:(backTo pos (starEach [a] X.env)).any (·.1)=false:=by rfl) :
  PE X (.Call (.Name "sorted" p) [a] [⟨some "key",lam,kpos⟩] pos) (Gu qual c pa p1 p2 p3 p4 p5 p6 j ta tk):=by
 intro pins s Z H Q I h
 refine wpAny_Call_Name_kw (jx I hg hm boot_sorted ?_)
 refine PyProof.Rows.callWith_kw (thn (ha pos pins s Z H _ I h) λus s1 ⟨vs,H1,I1,r1,q1⟩=>?_) he hplain
 refine thn (hd pos pins s1 Z H1 _ I1 q1) λws s2 ⟨zs,H2,I2,r2,q2⟩=>?_
 obtain⟨r,f,c',am,met,rfl,rfl,hrg,hn,hf,hc',hZ,hmet,hrows,q⟩:=q2
 rw[Vals.ref1 r1,Vals.ref1 r2]
 obtain⟨t,u,v,hrng⟩:=I2.hok r _ hrg
 obtain⟨m,hns,hlk⟩:=I2.loc
 have F:Fr X.base X.env.locals s2.heap m:=⟨hns,I2.bk,Nat.le_trans I2.ok.bsz I2.ok.above⟩
 have N:News X.base X.env.locals s2.heap (l6 X.base s2.heap X.env.locals):=Oa
 obtain⟨x,hx,hlook⟩:=hlk j _ _ hj hZ (.inr (.inl hv))
 cases hx
 have hIs:s2.heap.IsCell c (some (.ref am)):=by
  rcases hlook with ⟨k,_⟩|⟨_,c2,e2,z⟩
  .have k:X.env.scope.names.lookup ("met":Str)=some .local:=k
   rw[hv]at k
   cases k
  .rw[hcell]at e2
   cases e2
   exact z
 obtain⟨a2,xs,e2,hxs,pr,hxl⟩:=hmet.len
 cases e2
 obtain⟨_,its,n0,rv,ham⟩:=I2.hok am _ hxs
 obtain⟨⟨pm,ctv,hfo⟩,_⟩:=I2.hok f _ hf
 obtain⟨hrec,_⟩:=I2.hok c' _ hc'
 obtain⟨mb,hb1,hb2⟩:=I2.mod.blt
 have neL:∀ b u,H2 b=some u->b≠X.env.locals:=λb u e=>ba e I2.free
 refine Gv (h₀:=X.base) (L:=X.env.locals) (m:=m) (news:=l6 X.base s2.heap X.env.locals) (g:=λi=>-((met.getD i []).length:Int)) F N (I2.ok.hd hc) hrng hn (λi t h tk own hi F' N'=>?_) λD h' tk out cc is F' N' lt' hv' hs1 hs2=>?_
 .have kp:=ui I2.bk F' (λq hq=>N' q (List.mem_append_left _ hq))
  have hrow:met[i]? = some (met.getD i []):=by
   rw[List.getD_eq_getElem?_getD,List.getElem?_eq_getElem hi]
   rfl
  obtain⟨y,hy,ai,rfl,hai⟩:∃ y,xs[i]? = some y/\∃ ai,y=.ref ai/\H2 ai=some (.lst ((met.getD i []).map λn:Nat=>V.int (n:Int))):=by
   obtain⟨y,hy,ry⟩:=gp pr hrow
   exact⟨y,hy,rLt.nats.mp ry⟩
  obtain⟨z,hz,rz⟩:=rv.get hy
  cases rz
  obtain⟨_,its2,n2,rv2,hao⟩:=I2.hok ai _ hai
  have hl2:=rv2.length
  rw[List.length_map]at hl2
  have hl1:=rv.length
  have hbb:=hrows _ (List.mem_of_getElem? hrow)
  have hsz:its2.toArray.size=(met.getD i []).length:=by rw[List.size_toArray,<- hl2]
  have cL:c≠X.env.locals:=I2.cne _ _ hcell
  refine wpAny_mono (Oj (s:={ s2 with heap:=h,toks:=tk }) (mg:=X.mg) (mb:=mb) (its:=its.toArray) (row:=its2.toArray) (ai:=ai) (am:=am) (c:=c) (c':=c') (qual:=qual) (i:=i) (t:=t) hr.depth (kp _ _ (neL _ _ hf) hfo) ?_ ?_ ⟨_,kp _ _ (neL _ _ hxs) ham,rfl,n0,rfl⟩ ?_ ⟨_,kp _ _ (neL _ _ hai) hao,rfl,n2,rfl⟩ (by omega) (by rw[List.size_toArray];omega)
   (I2.mod.glob.keeps F'.keep) hml (hb1.keeps F'.keep) ((hb2 _ (by decide)).trans boot_len) (I2.mod.nolimit.keeps F'.keep)) (λv s' hq=>?_) λ_ _ z=>z
  .obtain⟨c3,o,vs,t3,e3,e4,e5⟩:=hrec
   cases e3
   exact⟨_,o,vs,t3,rfl,kp _ _ (neL _ _ hc') e4,e5⟩
  .obtain⟨o,e4,e5⟩:=hIs
   exact⟨o,kp _ _ cL e4,e5⟩
  .simpa using hz
  .obtain⟨h2,tk2,t',rfl,rfl,k2⟩:=hq
   rw[hsz]
   exact⟨h2,tk2,t',rfl,rfl,F'.kept k2,N'.grown k2⟩
 .have kp:=ui I2.bk F' (λq hq=>N' q (List.mem_cons_of_mem _ hq))
  obtain⟨hDo,hDL,hDb⟩:=N' _ (List.mem_cons_self ..)
  have hDs:s2.heap.get? D=none:=by
   cases qd:s2.heap.get? D with
   | none=>rfl
   | some o=>exact absurd (lt' _ (ud hDL hDb qd)) (Nat.lt_irrefl _)
  have hDn:H2 D=none:=by
   cases qd:H2 D with
   | none=>rfl
   | some u=>
    obtain⟨o,e⟩:=Dz (I2.hok _ _ qd)
    rw[hDs]at e
    cases e
  have hlen:is.length<=sizeLine:=by
   have hp:is.length=met.length:=by
    have key:∀ (l1 l2:List Nat) (g:Nat->Int),(∀ z,l1.filter (λi=>g i==z)=l2.filter (λi=>g i==z))->∀ i,l1.count i=l2.count i:=λl1 l2 g hz i=>by
     have z1:=congrArg (List.count i) (hz (g i))
     rw[List.count_filter (by simp),List.count_filter (by simp)]at z1
     exact z1
    have:=(List.perm_iff_count.mpr (key _ _ _ hs2)).length_eq
    rw[List.length_range]at this
    exact this
   rw[hp,sizeLine_eq]
   omega
  have old:∀ b u,H2 b=some u->(upd H2 D (.lst (is.map λi:Nat=>V.int (i:Int)))) b=some u:=λb u e=>by
   rw[ay (ba e hDn)]
   exact e
  refine⟨.ref D,upd H2 D (.lst (is.map λi:Nat=>V.int (i:Int))),?_,rfl,q D is hDn hlen ⟨hs1,hs2⟩⟩
  refine I2.step (g':=s2.gens) (d':=s2.drawn) (t':=tk) (ch:=[]) (λ_ z=>nomatch z) (λb o hb _ _ e _=>kp b o hb e) (λb o hb _ _ e _=>⟨o.slots,kp b o hb e⟩) (λb o _ e n=>?_) (λb o _ e=>?_)
   (λb xs e=>old b _ e) (λb o u e=>old b _ e) (λb qs e=>⟨#[],by rw[old b _ e];simp⟩) (λm' hm'=>?_) (λb u e=>?_) I2.bare
  .rw[ay (λz=>by rw[z,hDs]at e;cases e)]
   exact n
  .by_cases hb:b=X.env.locals
   .obtain⟨o',_,_,e',_⟩:=F'.ns
    exact⟨o',hb ▸ e'⟩
   .exact⟨o,kp b o hb e⟩
  .rw[<- Vh hns hm']
   exact F'.ns
  .by_cases hb:b=D
   .subst hb
    rw[ak]at e
    cases e
    exact⟨by rw[List.length_map];exact hlen,out.toList,cc,hv',by rw[Array.toArray_toList];exact hDo⟩
   .rw[ay hb]at e
    refine(I2.hok b u e).stay (λd v hd qd=>kp d v ?_ qd) (λd qd=>old d _ qd) λd xs qd=>old d _ qd
    rcases hd with z2|z2
    .rw[z2]
     exact neL _ _ e
    .exact neL _ _ z2
end
end L2
end
section
namespace Sp
open PySem PySem.Spec PyProof.Rows L2
def Dj(a b:List Bool):Bool:=(List.range a.length).any λi=>a.getD i false&&b.getD i false
def Bv(es:List (List Bool))(c:Nat):List Nat:=(List.range es.length).filter λo=>!decide (o=c)&&Dj (es.getD c []) (es.getD o [])
def ji(es:List (List Bool)):List (List Nat):=(List.range es.length).map (Bv es)
def dk(side:Nat)(inputs:Nat)(p:List (List Bool)):List (List Bool):=if side=1 then p else (List.range inputs).map λc=>p.map λrow=>row.getD c false
structure Rect(es:List (List Bool))(m:Nat):Prop where
 row:∀ b∈es,b.length=m
 few:es.length<=1000
 wide:m<=1000
theorem Rect.at_{es:List (List Bool)}{m i:Nat}(h:Rect es m)(hi:i<es.length):es[i]? = some (es.getD i [])/\(es.getD i []).length=m:=by
 have e:es[i]? = some (es.getD i []):=by
  rw[List.getD_eq_getElem?_getD,List.getElem?_eq_getElem hi]
  rfl
 exact⟨e,h.row _ (List.mem_of_getElem? e)⟩
section
variable{P:Program}{w:World}{K:W.Frag}{mg:Str->Option Value}{base:Heap}
def C9(K:W.Frag):Sp:=λvs H Q _=>∃ va vb a b,vs=[va,vb]/\rLs K rBl H va a/\rLs K rBl H vb b/\b.length=a.length/\a.length<=1000/\∀ H',Same H H'->Q (.bl (Dj a b)) H'
theorem re:FnScope ["first","second","one","other"] ["first","second"] (au d_share_entry):=by trivial
theorem No(B:Blt mg)(D:Df K mg "share_entry" d_share_entry ["first","second"]):Fn P w K mg base CX0 1 "share_entry" ["first","second"] (C9 K):=by
 refine D.ok re (λvs H Q E h=>?_) (λf cdv A outer s H vs Q E hr h=>?_)
 .obtain⟨va,vb,a,b,rfl,_⟩:=h
  rfl
 .obtain⟨va,vb,a,b,rfl,ha,hb,hl,hlen,q⟩:=h
  obtain⟨pa,rfl,sa⟩:=rLs.bls.mp ha
  obtain⟨pb,rfl,sb⟩:=rLs.bls.mp hb
  refine⟨_,aq (az (bj (Lk rfl) rfl B.any boot_any (aa (gv (own:=[("one",2),("other",3)]) rfl re.nd (Fi rfl B.zip (aa (pv 0) (aa (pv 1) aj))) (b8 (by kernel_rfl))
   (λ_ _ _ _ _=>tw (K:=K) (n:=2) rfl rfl (di (bi (i:=2) re.nd rfl (Or.inl rfl)) (di (bi (i:=3) re.nd rfl (Or.inl rfl)) jt))) (λ_ _ _ _ _=>c8) (λ_ _ _ _ _=>Jy (pv 2) (Jw (pv 3)))) aj))),?_⟩
  dsimp only [tRet,tCB,n6]
  refine c9 ?_
  refine⟨_,rfl,_,rfl,pa,pb,_,_,rfl,sa,sb,λD hD=>lcZ (R:=rBl) (K:=K) rBl.avT.av (λi=>some (a.getD i false&&b.getD i false)) hD sa sb (by rw[List.length_map,List.length_map];exact hl) (by rw[List.length_map,sizeLine_eq];omega) (λi x y H6 T acc hx hy s6 hacc hT k1 k0 kk kn=>?_) (λH6 ys s6 hy p6=>?_)⟩
  .obtain⟨u,hu,rfl⟩:=fm hx
   obtain⟨v,hv,rfl⟩:=fm hy
   have e1:a.getD i false=u:=by rw[List.getD_eq_getElem?_getD,hu];rfl
   have e2:b.getD i false=v:=by rw[List.getD_eq_getElem?_getD,hv];rfl
   rw[e1,e2]at kk
   refine⟨T,_,rfl,.inl (.inl ak),rfl,_,_,rfl,_,_,rfl,rfl,rfl,?_⟩
   dsimp only [tYes]
   rw[if_pos rfl]
   refine Hv u v (λQ q=>⟨_,rfl,q⟩) (λ_ Q q=>⟨_,rfl,q⟩) ?_
   exact kk _ _ (u&&v) rfl (.new hT) rfl (by intro z;cases z)
  .rw[List.length_map,d6]at p6
   rw[fg p6]at hy
   refine⟨D,_,rfl,SqL.of hy,?_⟩
   rw[List.any_map]
   exact q H6 s6
def zd(K:W.Frag):Sp:=λvs H Q _=>∃ ve es c m,vs=[ve,.int (c:Nat)]/\rLt (rLt rBl) H ve es/\Rect es m/\c<es.length/\∀ p H',H p=none->Same H H'->rLt rNat H' (.ref p) (Bv es c)->Q (.ref p) H'
theorem mi:FnScope ["entries","column","own","other"] ["entries","column"] (au d_columns_met):=by trivial
theorem J7(B:Blt mg)(G:Fn P w K mg base CX0 1 "share_entry" ["first","second"] (C9 K))(D:Df K mg "columns_met" d_columns_met ["entries","column"]):Fn P w K mg base CX0 2 "columns_met" ["entries","column"] (zd K):=by
 refine D.ok mi (λvs H Q E h=>?_) (λf cdv A outer s H vs Q E hr h=>?_)
 .obtain⟨ve,es,c,m,rfl,_⟩:=h
  rfl
 .obtain⟨ve,es,c,m,rfl,he,hR,hc,q⟩:=h
  refine⟨_,af (bg (i:=2) mi.nd rfl (Or.inr rfl) (bf bc (pv 0) (pv 1) (λ_ _=>rfl)))
   (aq (az (gv (own:=[("other",3)]) rfl mi.nd (ez rfl B.range (aa (bj be rfl B.len PySem.boot_len (aa (pv 0) aj)) aj)) (b8 (by kernel_rfl)) (λ_ _ _ _ _=>bi (i:=3) mi.nd rfl (Or.inl rfl))
    (λ_ _ _ _ _=>oi (PW.pt (Jp (bp J0 (pv 3) (pv 1) (bv _)) (Du (gm (bh G (hr.mono (by decide)) rfl bo (aa (pv 2) (aa (bf (r:=rIxL K) bc (pv 0) (pv 3) (λ_ _=>rfl)) aj)))))))) (λ_ _ _ _ _=>pv 3)))),?_⟩
  obtain⟨ae,xs,rfl,hxs,pr,hxl⟩:=he.len
  obtain⟨ec,lc⟩:=hR.at_ hc
  obtain⟨vc,hvc,rc⟩:=gp pr ec
  refine⟨_,rfl,_,rfl,ae,_,_,_,rfl,rfl,SqL.of hxs,ck (j:=c) rfl hvc,?_⟩
  dsimp only [tRet]
  refine c9 ?_
  refine⟨_,rfl,ae,xs,rfl,.inl (SqL.of hxs),_,rfl,by have:=hR.few;omega,by have:=hR.few;omega,λD hD=>lcR (R:=rNat) rNat.avT.av (λo=>if (!decide (o=c)&&Dj (es.getD c []) (es.getD o []))=true then some o else none) hD (by have:=hR.few;rw[sizeLine_eq];omega) (λo H6 acc ho s6 hy k1 k0 kk kn=>?_) (λH6 ys s6 hy p6=>?_)⟩
  .have ho:o<es.length:=by omega
   have e0:(0:Int)+(o:Nat)=(o:Nat):=by omega
   obtain⟨eo,lo⟩:=hR.at_ ho
   obtain⟨vo,hvo,ro⟩:=gp pr eo
   rw[e0]
   refine⟨rfl,_,rfl,_,rfl,rfl,_,rfl,?_⟩
   rw[f9]
   have e1:decide ((o:Int)=(c:Int))=decide (o=c):=by
    rw[Bool.eq_iff_iff]
    simp
    omega
   rw[e1]
   cases hoc:decide (o=c) with
   | true=>
    rw[hoc]at kn
    exact iteF (kn _ rfl (.refl _))
   | false=>
    rw[hoc]at kk kn
    refine iteT ⟨_,rfl,_,rfl,_,rfl,ae,_,_,_,rfl,rfl,SqL.of (s6 _ _ hxs),ck (j:=o) rfl hvo,vc,vo,_,_,rfl,(rLt.mono rBl.mono _ _ _ _ s6 rc).ls,(rLt.mono rBl.mono _ _ _ _ s6 ro).ls,by rw[lo,lc],by rw[lc];exact hR.wide,λH7 s7=>⟨_,rfl,?_⟩⟩
    cases hsh:Dj (es.getD c []) (es.getD o []) with
    | true=>
     rw[hsh]at kk
     exact iteT ⟨_,rfl,kk _ _ o rfl s7 rfl (by intro z;cases z)⟩
    | false=>
     rw[hsh]at kn
     exact iteF (kn _ rfl s7)
  .have e1:(xs.length:Int).toNat=es.length:=by omega
   rw[e1,uq]at p6
   exact q D H6 hD s6 ⟨D,ys,rfl,hy,p6⟩
def rFrs{α:Type}(H0:Hp)(R:Rp α):Rp α:=λH v x=>R H v x/\∀ a,v=.ref a->H0 a=none
theorem rFrs.av{α:Type}{H0:Hp}{R:Rp α}(h:R.Av):(rFrs H0 R).Av:=λp ys H H' v x hp s hv r=>⟨h p ys H H' v x hp s hv r.1,r.2⟩
def Cy(H H':Hp)(v:V):Prop:=∀ pp u,H pp=some u->v≠.ref pp/\∀ a xs,v=.ref a->H' a=some (.lst xs)->V.ref pp ∉ xs
theorem Cy.of{H0 H H':Hp}{v:V}(s:Same H0 H)(h:Cy H H' v):Cy H0 H' v:=λpp u e=>h pp u (s _ _ e)
def Qh(K:W.Frag):Sp:=λvs H Q _=>∃ ve es m,vs=[ve]/\rLt (rLt rBl) H ve es/\Rect es m/\∀ v H',Same H H'->rLt (rLt rNat) H' v (ji es)->Cy H H' v->Q v H'
theorem Je:FnScope ["entries","column"] ["entries"] (au d_meeting_columns):=by trivial
theorem T1(B:Blt mg)(G:Fn P w K mg base CX0 2 "columns_met" ["entries","column"] (zd K))(D:Df K mg "meeting_columns" d_meeting_columns ["entries"]):Fn P w K mg base CX0 3 "meeting_columns" ["entries"] (Qh K):=by
 refine D.ok Je (λvs H Q E h=>?_) (λf cdv A outer s H vs Q E hr h=>?_)
 .obtain⟨ve,es,m,rfl,_⟩:=h
  rfl
 .obtain⟨ve,es,m,rfl,he,hR,q⟩:=h
  refine⟨_,aq (az (gv (own:=[("column",1)]) rfl Je.nd (ez rfl B.range (aa (bj be rfl B.len PySem.boot_len (aa (pv 0) aj)) aj)) (b8 (by kernel_rfl)) (λ_ _ _ _ _=>bi (i:=1) Je.nd rfl (Or.inl rfl)) (λ_ _ _ _ _=>c8)
   (λ_ _ _ _ _=>bh G (hr.mono (by decide)) rfl bo (aa (pv 0) (aa (pv 1) aj))))),?_⟩
  obtain⟨ae,xs,rfl,hxs,pr,hxl⟩:=he.len
  dsimp only [tRet]
  refine c9 ?_
  refine⟨_,rfl,ae,xs,rfl,.inl (SqL.of hxs),_,rfl,by have:=hR.few;omega,by have:=hR.few;omega,λD hD=>lcR (R:=rFrs H (rLt rNat)) (rFrs.av (rLt.av rNat.avT)) (λc=>some (Bv es c)) hD (by have:=hR.few;rw[sizeLine_eq];omega) (λc H6 acc hc s6 hy k1 k0 kk kn=>?_) (λH6 ys s6 hy p6=>?_)⟩
  .have hc:c<es.length:=by omega
   have e0:(0:Int)+(c:Nat)=(c:Nat):=by omega
   refine⟨rfl,_,rfl,_,rfl,.ref ae,es,c,m,by rw[e0];rfl,rLt.mono (rLt.mono rBl.mono) _ _ _ _ s6 he,hR,hc,λp H7 hp s7 r7=>?_⟩
   exact kk _ _ _ rfl s7 ⟨r7,λa e=>by
    cases e
    exact s6.free hp⟩ λz=>by
    cases z
    rw[hy]at hp
    cases hp
  .have e1:(xs.length:Int).toNat=es.length:=by omega
   rw[e1,d6]at p6
   refine q _ H6 s6 ⟨D,ys,rfl,hy,Paired.mapP p6 λ_ _ z=>z.1⟩ λpp u e=>⟨λz=>?_,λa zs e1 e2 hm=>?_⟩
   .cases z
    rw[hD]at e
    cases e
   .cases e1
    rw[hy]at e2
    cases e2
    obtain⟨j,hj,ej⟩:=List.getElem_of_mem hm
    obtain⟨b,_,rb⟩:=eh p6 (List.getElem?_eq_getElem hj)
    rw[rb.2 pp ej]at e
    cases e
end
theorem Fk{X:Cx}{K:W.Frag}{tg l:Expr}{tl:TE}(hK:X.K=K)(hl:PE X l tl):PI X tg l (Uj K tl):=by
 subst hK
 exact cy hl
def rPo:Rp (Nat×Nat):=λH v x=>∃ a,v=.ref a/\H a=some (.tup [.int (x.1:Int),.int (x.2:Int)])
theorem rPo.avT:Rp.AvT rPo:=λp ys H H' v l hp s ⟨a,e,q⟩=>⟨a,e,s _ _ q (d7 q hp (by intro z;cases z))⟩
def gw(met:List (List Nat)):List (Nat×Nat):=(List.range met.length).flatMap λi=>((met.getD i []).filter λj=>decide (i<j)).map λj=>(i,j)
structure Adj(met:List (List Nat)):Prop where
 few:met.length<=1000
 row:∀ b∈met,b.length<=1000
 lt:∀ b∈met,∀ j∈b,j<met.length
theorem Adj.at_{met:List (List Nat)}{i:Nat}(h:Adj met)(hi:i<met.length):met[i]? = some (met.getD i [])/\(met.getD i []).length<=1000/\∀ j∈met.getD i [],j<met.length:=by
 have e:met[i]? = some (met.getD i []):=by
  rw[List.getD_eq_getElem?_getD,List.getElem?_eq_getElem hi]
  rfl
 exact⟨e,h.row _ (List.mem_of_getElem? e),h.lt _ (List.mem_of_getElem? e)⟩
section
variable{P:Program}{w:World}{K:W.Frag}{mg:Str->Option Value}{base:Heap}
def sq(K:W.Frag):Sp:=λvs H Q _=>∃ vp p n side,vs=[vp,.int (n:Nat),.int (side:Nat)]/\rLt (rLt rBl) H vp p/\Rect p n/\side<=1/\∀ v H',Same H H'->rLt (rLt rBl) H' v (dk side n p)->Q v H'
theorem im:FnScope ["pattern","inputs","side","column","row"] ["pattern","inputs","side"] (au d_side_entries):=by trivial
theorem G3(B:Blt mg)(hs:Gc mg "ROW_SIDE" 1)(D:Df K mg "side_entries" d_side_entries ["pattern","inputs","side"]):Fn P w K mg base CX0 1 "side_entries" ["pattern","inputs","side"] (sq K):=by
 refine D.ok im (λvs H Q E h=>?_) (λf cdv A outer s H vs Q E hr h=>?_)
 .obtain⟨vp,p,n,side,rfl,_⟩:=h
  rfl
 .obtain⟨vp,p,n,side,rfl,hp,hR,hside,q⟩:=h
  refine⟨_,af (cw (bp fe (pv 2) (br hs rfl) (bv _)) (aq (az (pv 0))) bu)
   (aq (az (gv (own:=[("column",3)]) rfl im.nd (ez rfl B.range (aa (pv 1) aj)) (b8 (by kernel_rfl)) (λ_ _ _ _ _=>bi (i:=3) im.nd rfl (Or.inr rfl)) (λ_ _ _ _ _=>c8)
    (λ_ _ _ _ _=>gv (own:=[("row",4)]) rfl im.nd (Fk (K:=K) rfl (pv 0)) (b8 (by kernel_rfl)) (λ_ _ _ _ _=>bi (i:=4) im.nd rfl (Or.inl rfl)) (λ_ _ _ _ _=>c8) (λ_ _ _ _ _=>bf (r:=rIxL K) bc (pv 4) (pv 3) (λ_ _=>rfl)))))),?_⟩
  refine⟨_,rfl,rfl,_,rfl,ite2 (λhc=>?_) λhc=>?_⟩
  .have hc:side=1:=by
    have h1:(side:Int)=1:=by simpa using hc
    omega
   refine⟨_,rfl,q _ _ (.refl H) ?_⟩
   rw[dk,if_pos hc]
   exact hp
  .have hc:¬ side=1:=by
    have h1:¬ (side:Int)=1:=by simpa using hc
    omega
   obtain⟨ap,xs,rfl,hxs,pr,hxl⟩:=hp.len
   dsimp only [k7,tSeq,tRet]
   refine c9 ?_
   refine⟨_,rfl,_,rfl,by have:=hR.wide;omega,by have:=hR.wide;omega,λD hD=>lcR (R:=rLt rBl) (rLt.av rBl.avT) (λc=>some (p.map λrow=>row.getD c false)) hD (by have:=hR.wide;rw[sizeLine_eq];omega) (λc H6 acc hc2 s6 hy k1 k0 kk kn=>?_) (λH6 ys s6 hy p6=>?_)⟩
   .have hc2:c<n:=by omega
    refine⟨rfl,?_⟩
    dsimp only [tYes]
    rw[if_pos rfl]
    refine c9 ?_
    refine⟨_,rfl,ap,rfl,⟨_,SqL.of (s6 _ _ hxs)⟩,λD2 hD2=>lcL (R:=rBl) (K:=K) rBl.avT.av (λj=>(p[j]?).map λrow=>row.getD c false) hD2 (SqL.of (s6 _ _ hxs)) (by have:=hR.few;rw[sizeLine_eq];omega) (λj x H7 acc2 hx s7 hy2 l1 l0 ll ln=>?_) (λH7 ys2 s7 hy2 p7=>?_)⟩
    .obtain⟨row,hrow,rr⟩:=eh pr hx
     obtain⟨ar,rfl,hrw⟩:=rLt.bls.mp (rLt.mono rBl.mono _ _ _ _ (s6.trans s7) rr)
     have hlr:=hR.row row (List.mem_of_getElem? hrow)
     obtain⟨b,hb⟩:∃ b,row[c]? = some b:=⟨row[c]'(by omega),List.getElem?_eq_getElem (by omega)⟩
     have e1:row.getD c false=b:=by rw[List.getD_eq_getElem?_getD,hb];rfl
     refine⟨rfl,_,rfl,_,rfl,ar,_,_,V.bl b,rfl,rfl,SqL.of hrw,ck (j:=c) (by omega) (by rw[List.getElem?_map,hb];rfl),?_⟩
     exact ll _ _ b (by rw[hrow];show some (row.getD c false)=_;rw[e1]) (.refl _) rfl (by intro z;cases z)
    .rw[hxl,dw]at p7
     exact kk _ _ _ rfl s7 ⟨D2,ys2,rfl,hy2,p7⟩ λz=>by
      cases z
      rw[hy]at hD2
      cases hD2
   .have e1:((n:Nat):Int).toNat=n:=by omega
    rw[e1,d6]at p6
    refine q _ H6 s6 ⟨D,ys,rfl,hy,?_⟩
    rw[dk,if_neg hc]
    exact p6
def y9(K:W.Frag):Sp:=λvs H Q _=>∃ vm met,vs=[vm]/\rLt (rLt rNat) H vm met/\Adj met/\∀ p H',H p=none->Same H H'->rLt rPo H' (.ref p) (gw met)->Q (.ref p) H'
theorem j8:FnScope ["met","pairs","first","others","second"] ["met"] (au d_meeting_pairs):=by trivial
theorem Fo(met:List (List Nat))(h:Adj met)(i:Nat)(hi:i<=met.length):((List.range i).flatMap λi=>((met.getD i []).filter λj=>decide (i<j)).map λj=>(i,j)).length<=i*1000:=by
 induction i with
 | zero=>exact Nat.zero_le _
 | succ i ih=>
  rw[List.range_succ,List.flatMap_append,List.length_append]
  have h1:=ih (by omega)
  have h2:(List.flatMap (λi=>((met.getD i []).filter λj=>decide (i<j)).map λj=>(i,j)) [i]).length<=1000:=by
   rw[List.flatMap_cons,List.flatMap_nil,List.append_nil,List.length_map]
   exact Nat.le_trans (List.length_filter_le _ _) (h.at_ (by omega)).2.1
  omega
theorem Nr(B:Blt mg)(D:Df K mg "meeting_pairs" d_meeting_pairs ["met"]):Fn P w K mg base CX0 1 "meeting_pairs" ["met"] (y9 K):=by
 refine D.ok j8 (λvs H Q E h=>?_) (λf cdv A outer s H vs Q E hr h=>?_)
 .obtain⟨vm,met,rfl,_⟩:=h
  rfl
 .obtain⟨vm,met,rfl,hm,hA,q⟩:=h
  refine⟨_,af (bg (i:=1) j8.nd rfl (Or.inl rfl) (cu aj))
   (af (fj PassesOwn.never rfl (z6 rfl B.enumerate (aa (pv 0) aj)) (Fl rfl (di (bi (i:=2) j8.nd rfl (Or.inr rfl)) (di (bi (i:=3) j8.nd rfl (Or.inl rfl)) jt)))
    (aq (cf (ju PySem.F.plainAttrs_list PySem.F.slot_list_extend PySem.F.type_list_extend uc (pv 1) (aa (gv (own:=[("second",4)]) rfl j8.nd (cy (pv 3)) (b8 (by kernel_rfl)) (λ_ _ _ _ _=>bi (i:=4) j8.nd rfl (Or.inl rfl))
     (λ_ _ _ _ _=>oi (bp G0 (pv 2) (pv 4) (bv _))) (λ_ _ _ _ _=>ia (aa (pv 2) (aa (pv 4) aj)))) aj)))))
   (aq (az (pv 1)))),?_⟩
  obtain⟨am,xs,rfl,hxs,pr,hxl⟩:=hm.len
  refine⟨Nat.zero_le _,λp hp=>?_⟩
  have s1:Same H (upd H p (.lst [])):=.new hp
  refine⟨_,rfl,am,xs,rfl,SqL.of (s1 _ _ hxs),Ah (K:=K) (a:=am) (xs:=xs) (λi Z H'=>∃ v2 v3 zs,Z=[some (.ref am),some (.ref p),v2,v3,none]/\Same H H'/\H' p=some (.lst zs)/\Paired (rPo H') zs ((List.range i).flatMap λi=>((met.getD i []).filter λj=>decide (i<j)).map λj=>(i,j)))
   ⟨none,none,[],rfl,s1,ak,.nil⟩ (λi Z H' _ ⟨_,_,_,_,s2,_⟩=>SqL.of (s2 _ _ hxs)) ?_ ?_⟩
  .rintro i x Z H' T hx ⟨v2,v3,zs,rfl,s2,hp',prz⟩ hT
   have hi:i<met.length:=by
    have:=(List.getElem?_eq_some_iff.mp hx).1
    omega
   obtain⟨e1,l1,lt1⟩:=hA.at_ hi
   obtain⟨u,hu,ru⟩:=gp pr e1
   rw[hx]at hu
   cases hu
   have s3:Same H (upd H' T (.tup [.int (i:Nat),x])):=s2.trans (.new hT)
   have hp3:(upd H' T (.tup [.int (i:Nat),x])) p=some (.lst zs):=(Same.new hT) _ _ hp'
   obtain⟨ao,rfl,ho⟩:=rLt.nats.mp (rLt.mono rNat.mono _ _ _ _ s3 ru)
   refine⟨T,_,rfl,.inl (.inl ak),rfl,_,_,rfl,_,_,rfl,rfl,?_⟩
   dsimp only [k7,tSeq,Md,tBM,n6]
   refine⟨_,rfl,.inl ⟨rfl,_,SqL.of hp3⟩,c9 ?_⟩
   refine⟨_,rfl,ao,rfl,⟨_,SqL.of ho⟩,λD hD=>lcL (R:=rPo) (K:=K) rPo.avT.av (λj=>((met.getD i [])[j]?).bind λk=>if decide (i<k)=true then some (i,k) else none) hD (SqL.of ho) (by rw[List.length_map,sizeLine_eq];omega) (λj y H6 acc hy2 s6 hacc k1 k0 kk kn=>?_) (λH6 ys s6 hy p6=>?_)⟩
   .obtain⟨k,hk,rfl⟩:=fm hy2
    rw[hk]at kk kn
    refine⟨rfl,_,rfl,_,rfl,_,_,rfl,rfl,_,rfl,ite2 (λhc=>?_) λhc=>?_⟩
    .have hc:i<k:=by have:=of_decide_eq_true hc;omega
     refine⟨_,rfl,_,rfl,(by show 2<=sizeLine;decide),λp2 hp2=>kk _ _ (i,k) (if_pos (decide_eq_true hc)) (.new hp2) ⟨p2,rfl,ak⟩ λz=>?_⟩
     cases z
     rw[hacc]at hp2
     cases hp2
    .have hc:¬ i<k:=λz=>hc (decide_eq_true (by omega))
     exact kn _ (if_neg (by rw[decide_eq_false hc];exact Bool.false_ne_true)) (.refl _)
   .rw[List.length_map,ip]at p6
    have e6:(met.getD i []).filterMap (λk=>if decide (i<k)=true then some (i,k) else none)=((met.getD i []).filter λj=>decide (i<j)).map λj=>(i,j):=by
     induction met.getD i [] with
     | nil=>rfl
     | cons a r ih=>
      rw[List.filterMap_cons,List.filter_cons,ih]
      cases decide (i<a) <;> rfl
    rw[e6]at p6
    have hp6:=s6 _ _ hp3
    have hzl:=eg prz
    have hyl:=eg p6
    have b1:=Fo met hA i (by omega)
    have b2:ys.length<=1000:=by
     rw[hyl,List.length_map]
     exact Nat.le_trans (List.length_filter_le _ _) l1
    have b3:=hA.few
    refine⟨p,D,_,_,rfl,rfl,hp6,hy,(by rw[sizeLine_eq];omega),?_⟩
    refine⟨_,_,zs++ys,rfl,.set hp (s3.trans s6),ak,?_⟩
    rw[List.range_succ,List.flatMap_append,List.flatMap_cons,List.flatMap_nil,List.append_nil]
    exact Ph (pz rPo.avT hp' (Sb.trans ((Same.new hT).trans s6).sb Sb.upd) prz) (pz rPo.avT hp6 Sb.upd p6)
  .rintro Z H' ⟨v2,v3,zs,rfl,s2,hp',prz⟩
   rw[hxl]at prz
   exact⟨_,rfl,q p H' hp s2 ⟨p,zs,rfl,hp',prz⟩⟩
end
theorem Kz(k:Int)(l:List Int):inV (.int k) (l.map V.int)=decide (k∈l):=by
 unfold inV
 induction l with
 | nil=>rfl
 | cons a l ih=>
  rw[List.map_cons,List.any_cons,ih]
  show(a==k||decide (k∈l))=decide (k∈a::l)
  by_cases h:a=k
  .subst h
   simp
  .have h2:¬ k=a:=λz=>h z.symm
   simp[h,h2]
theorem Ky(k:Nat)(l:List Nat):inV (.int (k:Int)) (l.map λn:Nat=>V.int (n:Int))=decide (k∈l):=by
 have e:(l.map λn:Nat=>V.int (n:Int))=(l.map λn:Nat=>(n:Int)).map V.int:=by rw[List.map_map];rfl
 rw[e,Kz]
 by_cases h:k∈l
 .rw[decide_eq_true h,decide_eq_true (List.mem_map.mpr ⟨k,h,rfl⟩)]
 .rw[decide_eq_false h,decide_eq_false]
  intro z
  obtain⟨j,hj,e⟩:=List.mem_map.mp z
  exact h (by rw[<- Int.ofNat.inj e];exact hj)
theorem La(l:List Int):(l.map V.int).all wv=true:=by
 induction l with
 | nil=>rfl
 | cons a l ih=>exact ih
theorem Ca(l:List Nat):(l.map λn:Nat=>V.int (n:Int)).all wv=true:=by
 induction l with
 | nil=>rfl
 | cons a l ih=>exact ih
theorem Hi{α:Type}(f:α->Bool)(l:List α):l.filterMap (λk=>if f k=true then some k else none)=l.filter f:=by
 induction l with
 | nil=>rfl
 | cons a r ih=>
  rw[List.filterMap_cons,List.filter_cons,ih]
  cases f a <;> rfl
def mf(met:List (List Nat))(left:List Nat)(c:Nat):Nat:=((met.getD c []).filter λj=>decide (j∈left)).length
def fv(met:List (List Nat))(left:List Nat)(st:Nat×Nat)(c:Nat):Nat×Nat:=if mf met left c<=st.2 then (c,mf met left c) else st
def fewM(met:List (List Nat))(left:List Nat):Nat:=(left.foldl (fv met left) (left.headD 0,left.length)).1
section
variable{P:Program}{w:World}{K:W.Frag}{mg:Str->Option Value}{base:Heap}
def Qi(K:W.Frag):Sp:=λvs H Q _=>∃ vm vl met left,vs=[vm,vl]/\rLt (rLt rNat) H vm met/\rLt rNat H vl left/\Adj met/\left≠[]/\(∀ c∈left,c<met.length)/\left.length<=1000/\∀ H',Same H H'->Q (.int (fewM met left:Nat)) H'
theorem ml:FnScope ["met","left","chosen","fewest","column","other","still_met"] ["met","left"] (au d_fewest_met):=by trivial
theorem T4(B:Blt mg)(D:Df K mg "fewest_met" d_fewest_met ["met","left"]):Fn P w K mg base CX0 1 "fewest_met" ["met","left"] (Qi K):=by
 refine D.ok ml (λvs H Q E h=>?_) (λf cdv A outer s H vs Q E hr h=>?_)
 .obtain⟨vm,vl,met,left,rfl,_⟩:=h
  rfl
 .obtain⟨vm,vl,met,left,rfl,hm,hl,hA,hne,hlt,hlen,q⟩:=h
  refine⟨_,af (bg (i:=2) ml.nd rfl (Or.inl rfl) (bf bc (pv 1) ax (λ_ _=>rfl)))
   (af (bg (i:=3) ml.nd rfl (Or.inl rfl) (bj be rfl B.len PySem.boot_len (aa (pv 1) aj)))
   (af (fj PassesOwn.never rfl (cy (pv 1)) (bi (i:=4) ml.nd rfl (Or.inl rfl))
    (af (bg (i:=6) ml.nd rfl (Or.inl rfl) (bj be rfl B.len PySem.boot_len (aa (gv (own:=[("other",5)]) rfl ml.nd (cy (bf bc (pv 0) (pv 4) (λ_ _=>rfl))) (b8 (by kernel_rfl)) (λ_ _ _ _ _=>bi (i:=5) ml.nd rfl (Or.inl rfl))
     (λ_ _ _ _ _=>oi (bp (r:=rIn K false) Bu (pv 5) (pv 1) rfl)) (λ_ _ _ _ _=>pv 5)) aj)))
    (aq (cw (bp Rb (pv 6) (pv 3) (bv _)) (af (bg (i:=2) ml.nd rfl (Or.inl rfl) (pv 4)) (aq (bg (i:=3) ml.nd rfl (Or.inl rfl) (pv 6)))) bu))))
   (aq (az (pv 2))))),?_⟩
  obtain⟨am,xs,rfl,hxs,pr,hxl⟩:=hm.len
  obtain⟨al,rfl,hll⟩:=rLt.nats.mp hl
  obtain⟨x0,r0,hx0⟩:∃ x0 r0,left=x0::r0:=by
   cases left with
   | nil=>exact absurd rfl hne
   | cons a l=>exact⟨a,l,rfl⟩
  have g0:(left.map λn:Nat=>V.int (n:Int))[0]? = some (V.int (x0:Int)):=by rw[hx0];rfl
  have hd0:left.headD 0=x0:=by rw[hx0];rfl
  refine⟨_,rfl,al,_,_,_,rfl,rfl,SqL.of hll,ck (j:=0) rfl g0,?_⟩
  refine⟨_,rfl,al,_,rfl,.inl (SqL.of hll),?_⟩
  refine⟨_,rfl,al,rfl,⟨_,SqL.of hll⟩,ft (K:=K) (a:=al) (xs:=left.map λn:Nat=>V.int (n:Int)) (λi Z H'=>∃ v4 v6 st,Z=[some (.ref am),some (.ref al),some (.int (st.1:Nat)),some (.int (st.2:Nat)),v4,none,v6]/\Same H H'/\st=(left.take i).foldl (fv met left) (x0,left.length))
   ⟨none,none,(x0,left.length),(by rw[List.length_map];rfl),.refl H,rfl⟩ (λi Z H' _ ⟨_,_,_,_,s2,_⟩=>SqL.of (s2 _ _ hll)) ?_ ?_⟩
  .rintro i x Z H' hx ⟨v4,v6,st,rfl,s2,hst⟩
   obtain⟨c,hc,rfl⟩:=fm hx
   have hcl:=hlt c (List.mem_of_getElem? hc)
   obtain⟨e1,l1,lt1⟩:=hA.at_ hcl
   obtain⟨u,hu,ru⟩:=gp pr e1
   obtain⟨ao,rfl,ho⟩:=rLt.nats.mp (rLt.mono rNat.mono _ _ _ _ s2 ru)
   dsimp only [m7,tAsg,k7,tSeq,Md,tBM,n6,tCB]
   refine c9 ?_
   refine⟨_,rfl,_,rfl,am,_,_,_,rfl,rfl,SqL.of (s2 _ _ hxs),ck (j:=c) rfl hu,ao,rfl,⟨_,SqL.of ho⟩,λD hD=>lcL (R:=rNat) (K:=K) rNat.avT.av (λj=>((met.getD c [])[j]?).bind λk=>if decide (k∈left)=true then some k else none) hD (SqL.of ho) (by rw[List.length_map,sizeLine_eq];omega)
    (λj y H6 acc hy s6 hacc kf k0 kk kn=>?_) λH6 ys s6 hy p6=>?_⟩
   .obtain⟨k,hk,rfl⟩:=fm hy
    rw[hk]at kk kn
    refine⟨rfl,_,rfl,_,rfl,al,_,rfl,.inl (SqL.of ((s2.trans s6) _ _ hll)),rfl,Ca _,_,rfl,?_⟩
    rw[if_neg Bool.false_ne_true,Ky]
    refine ite2 (λhc2=>?_) λhc2=>?_
    .exact⟨_,rfl,kk _ _ k (if_pos hc2) (.refl _) rfl (by intro z;cases z)⟩
    .exact kn _ (if_neg hc2) (.refl _)
   .rw[List.length_map,ip,Hi]at p6
    have hyl:=eg p6
    refine⟨D,ys,rfl,.inl (SqL.of hy),?_⟩
    have hst':(left.take (i+1)).foldl (fv met left) (x0,left.length)=fv met left st c:=by
     rw[take_snoc hc,List.foldl_append,<- hst]
     rfl
    have e3:ys.length=mf met left c:=hyl
    rw[e3]
    refine⟨_,rfl,_,rfl,_,_,rfl,rfl,_,rfl,?_⟩
    refine ite2 (λhc2=>?_) λhc2=>?_
    .have hc2:mf met left c<=st.2:=by have:=of_decide_eq_true hc2;omega
     refine⟨_,rfl,_,rfl,_,_,(c,mf met left c),rfl,s2.trans s6,?_⟩
     rw[hst',fv,if_pos hc2]
    .have hc2:¬ mf met left c<=st.2:=λz=>hc2 (decide_eq_true (by omega))
     refine⟨_,_,st,rfl,s2.trans s6,?_⟩
     rw[hst',fv,if_neg hc2]
  .rintro Z H' ⟨v4,v6,st,rfl,s2,hst⟩
   rw[List.length_map,List.take_of_length_le (Nat.le_refl _)]at hst
   refine⟨_,rfl,?_⟩
   have e:st.1=fewM met left:=by
    rw[hst,fewM,hd0]
   rw[e]
   exact q H' s2
end
theorem El(met:List (List Nat)){left:List Nat}(h:left≠[]):fewM met left∈left:=by
 have key:∀ (l:List Nat) (st:Nat×Nat),(∀ c∈l,c∈left)->st.1∈left->(l.foldl (fv met left) st).1∈left:=by
  intro l
  induction l with
  | nil=>intro st _ h2;exact h2
  | cons a l ih=>
   intro st h1 h2
   rw[List.foldl_cons]
   refine ih _ (λc hc=>h1 c (List.mem_cons_of_mem _ hc)) ?_
   unfold fv
   split
   .exact h1 a (List.mem_cons_self ..)
   .exact h2
 refine key left _ (λc hc=>hc) ?_
 cases left with
 | nil=>exact absurd rfl h
 | cons a l=>exact List.mem_cons_self ..
def gl(met:List (List Nat)):Nat->List Nat->List Nat->List Nat
 | 0,_,acc=>acc
 | f+1,left,acc=>if left=[] then acc else gl met f (left.erase (fewM met left)) (fewM met left::acc)
section
variable{P:Program}{w:World}{K:W.Frag}{mg:Str->Option Value}{base:Heap}
def C5(K:W.Frag):Sp:=λvs H Q _=>∃ vm met,vs=[vm]/\rLt (rLt rNat) H vm met/\Adj met/\∀ p H',H p=none->Same H H'->rLt rNat H' (.ref p) (gl met met.length (List.range met.length) [])->Q (.ref p) H'
theorem qz:FnScope ["met","left","taken","column"] ["met"] (au d_taken_away_order):=by trivial
theorem Nm(B:Blt mg)(F:Fn P w K mg base CX0 1 "fewest_met" ["met","left"] (Qi K))(D:Df K mg "taken_away_order" d_taken_away_order ["met"]):Fn P w K mg base CX0 2 "taken_away_order" ["met"] (C5 K):=by
 refine D.ok qz (λvs H Q E h=>?_) (λf cdv A outer s H vs Q E hr h=>?_)
 .obtain⟨vm,met,rfl,_⟩:=h
  rfl
 .obtain⟨vm,met,rfl,hm,hA,q⟩:=h
  refine⟨_,af (bg (i:=1) qz.nd rfl (Or.inl rfl) (mq (jg rfl) rfl B.list boot_list (aa (Fm rfl B.range (aa (bj be rfl B.len PySem.boot_len (aa (pv 0) aj)) aj)) aj)))
   (af (bg (i:=2) qz.nd rfl (Or.inl rfl) (cu aj))
   (af (ka PassesOwn.never (bp Dy (bj be rfl B.len PySem.boot_len (aa (pv 1) aj)) ax (bv _))
    (af (bg (i:=3) qz.nd rfl (Or.inl rfl) (bh F hr rfl bo (aa (pv 0) (aa (pv 1) aj))))
    (af (cf (ju PySem.F.plainAttrs_list PySem.F.slot_list_append PySem.F.type_list_append d8 (pv 2) (aa (pv 3) aj)))
    (aq (cf (ju PySem.F.plainAttrs_list PySem.F.slot_list_remove PySem.F.type_list_remove Ki (pv 1) (aa (pv 3) aj)))))))
   (aq (az (Gy rfl rfl B.list rfl B.reversed (aa (pv 2) aj)))))),?_⟩
  obtain⟨am,xs,rfl,hxs,pr,hxl⟩:=hm.len
  have hfew:=hA.few
  refine⟨_,rfl,am,_,rfl,.inl (SqL.of hxs),_,rfl,λr hr0=>?_⟩
  have s1:Same H (upd H r (.rng 0 (xs.length:Nat))):=.new hr0
  refine⟨r,xs.length,rfl,ak,by omega,λal hal=>?_⟩
  have s2:Same H (upd (upd H r (.rng 0 (xs.length:Nat))) al (.lst ((List.range xs.length).map λi:Nat=>V.int (i:Int)))):=s1.trans (.new hal)
  have hal0:=s1.free hal
  refine⟨Nat.zero_le _,λp hp=>?_⟩
  have hp0:=s2.free hp
  have hpa:p≠al:=λz=>by rw[z,ak]at hp;cases hp
  refine ma (λZ H'=>∃ v3 L T,Z=[some (.ref am),some (.ref al),some (.ref p),v3]/\Same H H'/\H' al=some (.lst (L.map λi:Nat=>V.int (i:Int)))/\H' p=some (.lst (T.map λi:Nat=>V.int (i:Int)))/\(∀ c∈L,c<met.length)/\T.length+L.length=met.length /\
    gl met L.length L T.reverse=gl met met.length (List.range met.length) []) (λ_ H'=>match H' al with|some (.lst xs)=>xs.length|_=>0)
   ⟨none,List.range met.length,[],rfl,s2.trans (.new hp),?_,ak,λc hc=>List.mem_range.mp hc,by rw[List.length_range];exact Nat.zero_add _,by rw[List.length_range];rfl⟩ ?_ ?_
  .rw[ay hpa.symm,ak,hxl]
  .rintro Z H' ⟨v3,L,T,rfl,s3,hL,hT,hlt,hsum,hres⟩
   refine⟨_,rfl,al,_,rfl,.inl (SqL.of hL),_,_,rfl,rfl,_,rfl,?_⟩
   rw[List.length_map]
   by_cases hne:L=[]
   .subst hne
    refine iteF ?_
    refine⟨_,rfl,p,_,rfl,SqL.of hT,λD hD=>?_⟩
    have s4:Same H (upd H' D (.lst (T.map λi:Nat=>V.int (i:Int)).reverse)):=s3.trans (.new hD)
    refine q D _ (s3.free hD) s4 (rLt.nats.mpr ⟨D,rfl,?_⟩)
    rw[ak,<- hres,<- List.map_reverse]
    rfl
   .have hpos:0<L.length:=Nat.pos_of_ne_zero λz=>hne (List.eq_nil_of_length_eq_zero z)
    have hd1:decide ((0:Int)<((L.length:Nat):Int))=true:=decide_eq_true (by omega)
    rw[hd1]
    have hmem:=El met hne
    refine iteT ⟨_,rfl,_,rfl,.ref am,.ref al,met,L,rfl,rLt.mono (rLt.mono rNat.mono) _ _ _ _ s3 hm,rLt.nats.mpr ⟨al,rfl,hL⟩,hA,hne,hlt,by omega,λH4 s4=>?_⟩
    have hT4:=s4 _ _ hT
    have hL4:=s4 _ _ hL
    refine⟨_,rfl,.inl ⟨rfl,_,SqL.of hT4⟩,_,rfl,p,_,_,rfl,rfl,hT4,(by rw[List.length_map,sizeLine_eq];omega),?_⟩
    have hL5:(upd H4 p (.lst ((T.map λi:Nat=>V.int (i:Int))++[V.int (fewM met L:Nat)]))) al=some (.lst (L.map λi:Nat=>V.int (i:Int))):=by rw[ay hpa.symm];exact hL4
    refine⟨_,rfl,.inl ⟨rfl,_,SqL.of hL5⟩,_,rfl,al,L,fewM met L,rfl,rfl,hL5,hmem,?_⟩
    have hel:(L.erase (fewM met L)).length=L.length - 1:=List.length_erase_of_mem hmem
    refine⟨⟨_,L.erase (fewM met L),T++[fewM met L],rfl,.set hal0 (.set hp0 (s3.trans s4)),ak,?_,λc hc=>hlt c (List.mem_of_mem_erase hc),?_,?_⟩,?_⟩
    .rw[ay hpa,ak,List.map_append]
     rfl
    .rw[List.length_append,hel]
     show T.length+1+(L.length - 1)=_
     omega
    .rw[<- hres,hel,List.reverse_append]
     obtain⟨k,hk⟩:∃ k,L.length=k+1:=⟨L.length - 1,by omega⟩
     rw[hk]
     show gl met k _ _=gl met (k+1) L T.reverse
     rw[gl,if_neg hne]
     rfl
    .show(match (upd _ al _) al with|some (.lst xs)=>xs.length|_=>0)<(match H' al with|some (.lst xs)=>xs.length|_=>0)
     rw[ak,hL]
     show((L.erase (fewM met L)).map _).length<(L.map _).length
     rw[List.length_map,List.length_map,hel]
     omega
  .rintro Z H' Q1 Q2 hq ⟨v,e1,pp,ys,e2,e3,i,j,e4,e5,k,e6,e7⟩
   exact⟨v,e1,pp,ys,e2,e3,i,j,e4,e5,k,e6,hq _ _ e7⟩
end
end Sp
end
section
namespace L2
open PySem PySem.Spec PyProof.Rows
def DfL(K:W.Frag)(mg:Str->Option Value)(base:Heap)(x:Str)(st:Stmt)(ps:List Str)(T:Addr):Prop:=∃ f fd,Fun K x x st f fd/\mg x=some (.ref f)/\jh K fd ps []/\LamEnv mg base fd.code T
theorem DfL.ok{P:Program}{w:World}{K:W.Frag}{mg:Str->Option Value}{base:Heap}{x:Str}{st:Stmt}{N ps:List Str}{k:Nat}{sp:Sp}{T:Addr}(D:DfL K mg base x st ps T)(S:FnScope N ps (au st))(len:∀ vs H Q E,sp vs H Q E->vs.length=ps.length)
  (hbody:∀ (f:Addr) (cdv:Value) (A:Around) (outer:List Env) (s:Shared) (H:Hp) (vs:List V) (Q:VK) (E:XK),LamEnv mg base cdv T->Room k (A.deeper (envOfC x (au st) s.heap.objs.size f cdv))->sp vs H Q E ->
   ∃ t,PSs (cxOf CX0 P w K mg base N x (au st) f cdv A outer s H E).nox (dt st) t/\t { nx:=λ_ H'=>Q .non H',rt:=Q } (start N vs) H):Fn P w K mg base CX0 (k+1) x ps sp:=by
 obtain⟨f,fd,F,hm,hb,hL⟩:=D
 obtain⟨oc,od,kV,doc,pm,an,cdv,ct,osl,rfl,lk,hcd⟩:=F.ex
 refine⟨f,_,Sg lk hcd S len (λA outer s H vs Q E hr q=>?_),hm,F.kp,hb⟩
 obtain⟨t,h1,h2⟩:=hbody f cdv A outer s H vs Q E hL hr q
 exact⟨t,h1.nox,h2⟩
end L2
namespace Sp
open PySem PySem.Spec PyProof.Rows L2
def l7(met:List (List Nat))(k:Nat)(ys:List Nat):Prop:=
 (k=0/\ys=List.range met.length)\/(k=1/\gd (λi=>-((met.getD i []).length:Int)) met.length ys)\/(k=2/\ys=gl met met.length (List.range met.length) [])
structure Orders(mg:Str->Option Value):Prop where
 number:Gc mg "NUMBER_ORDER" 0
 most:Gc mg "MOST_MET_ORDER" 1
 taken:Gc mg "TAKEN_AWAY_ORDER" 2
abbrev Uc:Pos:=⟨159,43,159,75⟩
abbrev Ad:Str:=("ordered_columns":Str)++".<locals>."++"<lambda>"
abbrev TabO(T:Addr)(H:Hp):Prop:=Tab Uc Ad T H
section
variable{P:Program}{w:World}{K:W.Frag}{mg:Str->Option Value}{base:Heap}{T:Addr}
def zc(K:W.Frag)(T:Addr):Sp:=λvs H Q _=>∃ vm met k,vs=[vm,.int (k:Nat)]/\k<=2/\rLt (rLt rNat) H vm met/\Adj met/\TabO T H /\
 ∀ p H' ys,H p=none->Sb T H H'->TabO T H'->l7 met k ys->rLt rNat H' (.ref p) ys->Q (.ref p) H'
theorem Mw:FnScope ["met","order"] ["met","order"] (au d_ordered_columns):=by trivial
theorem Tab.same{lpos:Pos}{qual:Str}{H H':Hp}(s:Same H H')(h:Tab lpos qual T H):Tab lpos qual T H':=by
 rcases h with h|⟨c',h,h2⟩
 .exact .inl (s _ _ h)
 .exact .inr ⟨c',s _ _ h,s _ _ h2⟩
theorem Nt(B:Blt mg)(C:Orders mg)(F:Fn P w K mg base CX0 2 "taken_away_order" ["met"] (C5 K))(D:DfL K mg base "ordered_columns" d_ordered_columns ["met","order"] T):Fn P w K mg base CX0 3 "ordered_columns" ["met","order"] (zc K T):=by
 refine D.ok Mw (λvs H Q E h=>?_) (λf cdv A outer s H vs Q E hE hr h=>?_)
 .obtain⟨vm,met,k,rfl,_⟩:=h
  rfl
 .obtain⟨vm,met,k,rfl,hk,hm,hA,hT,q⟩:=h
  refine⟨_,af (cw (bp fe (pv 1) (br C.number rfl) (bv _)) (aq (az (mq (jg rfl) rfl B.list boot_list (aa (Fm rfl B.range (aa (bj be rfl B.len PySem.boot_len (aa (pv 0) aj)) aj)) aj)))) bu)
   (af (cw (bp fe (pv 1) (br C.most rfl) (bv _)) (aq (az (Bo (pa:=⟨159,50,159,56⟩) (p1:=⟨159,59,159,62⟩) (p2:=⟨159,63,159,66⟩) (p3:=⟨159,67,159,73⟩) (p4:=⟨159,63,159,74⟩) (p5:=⟨159,59,159,75⟩) (p6:=⟨159,58,159,75⟩) (qual:=Ad) (c:=s.heap.objs.size+1) (j:=0) rfl (hr.mono (by decide)) rfl B.sorted B.len rfl rfl rfl (aa (Fm rfl B.range (aa (bj be rfl B.len PySem.boot_len (aa (pv 0) aj)) aj)) aj) (Ju (Tk (qual:=Ad) rfl hE rfl) Pi)))) bu)
   (aq (az (bh F hr rfl bo (aa (pv 0) aj))))),?_⟩
  obtain⟨am,xs,rfl,hxs,pr,hxl⟩:=hm.len
  have hfew:=hA.few
  refine⟨_,rfl,rfl,_,rfl,ite2 (λh0=>?_) λh0=>?_⟩
  .have h0:k=0:=by
    have h1:(k:Int)=0:=by simpa using h0
    omega
   refine⟨_,rfl,am,_,rfl,.inl (SqL.of hxs),_,rfl,λr hr0=>⟨r,xs.length,rfl,ak,by omega,λal hal=>?_⟩⟩
   have s1:Same H (upd H r (.rng 0 (xs.length:Nat))):=.new hr0
   have s2:=s1.trans (.new (o:=.lst ((List.range xs.length).map λi:Nat=>V.int (i:Int))) hal)
   exact q al _ (List.range met.length) (s1.free hal) s2.sb (Tab.same s2 hT) (.inl ⟨h0,rfl⟩) (rLt.nats.mpr ⟨al,rfl,by rw[ak,hxl]⟩)
  .have h0:¬ k=0:=by
    have h1:¬ (k:Int)=0:=by simpa using h0
    omega
   refine⟨_,rfl,rfl,_,rfl,ite2 (λh1=>?_) λh1=>?_⟩
   .have h1:k=1:=by
     have h2:(k:Int)=1:=by simpa using h1
     omega
    refine⟨_,rfl,am,_,rfl,.inl (SqL.of hxs),_,rfl,λr hr0=>?_⟩
    have s1:Same H (upd H r (.rng 0 (xs.length:Nat))):=.new hr0
    refine⟨Tab.same s1 hT,λfl c' H2 b2 hfl hP hc' hf=>?_⟩
    have hneT:∀ b u,H b=some u->(∀ ps,u≠.tbl ps)->H2 b=some u:=λb u e hu=>b2 _ _ (s1 _ _ e) (λz=>by
     obtain⟨ps,hps⟩:=hT.at_
     rw[z,hps]at e
     exact hu ps (Option.some.inj e).symm)
    have hrT:r≠T:=λz=>by
     obtain⟨ps,hps⟩:=hT.at_
     rw[z,hps]at hr0
     cases hr0
    have hm2:rLt (rLt rNat) H2 (.ref am) met:=⟨am,xs,rfl,hneT _ _ hxs (by intro ps z;cases z),Paired.mapP pr λu x ⟨a,ys,e,h3,p3⟩=>⟨a,ys,e,hneT _ _ h3 (by intro ps z;cases z),p3⟩⟩
    refine⟨r,fl,c',am,met,rfl,rfl,?_,by omega,hf,hc',rfl,hm2,λb hb=>Nat.le_trans (hA.row b hb) (by decide),λD ys hD hlen hs=>?_⟩
    .rw[<- hxl]
     exact b2 _ _ ak hrT
    .have hD0:H D=none:=by
      cases z:H D with
      | none=>rfl
      | some u=>
       by_cases hDT:D=T
       .rw[hDT,hP]at hD
        cases hD
       .rw[b2 _ _ (s1 _ _ z) hDT]at hD
        cases hD
     refine q D _ ys hD0 (λb o e hb=>?_) (.inr ⟨c',?_,?_⟩) (.inr (.inl ⟨h1,hs⟩)) (rLt.nats.mpr ⟨D,rfl,ak⟩)
     .rw[ay (ba e hD0)]
      exact b2 _ _ (s1 _ _ e) hb
     .rw[ay (ba hP hD)]
      exact hP
     .rw[ay (ba hc' hD)]
      exact hc'
   .have h1:k=2:=by
     have h2:¬ (k:Int)=1:=by simpa using h1
     omega
    exact⟨_,rfl,.ref am,met,rfl,hm,hA,λp H' hp s1 r1=>q p H' _ hp s1.sb (Tab.same s1 hT) (.inr (.inr ⟨h1,rfl⟩)) r1⟩
end
def Aw(l:List Int)(m:Nat):Prop:=(m:Int) ∉ l/\∀ j:Nat,j<m->(j:Int)∈l
def my(l:List Int):Nat:=((List.range (l.length+1)).find? λk:Nat=>!decide ((k:Int)∈l)).getD 0
theorem yz:∀ (m:Nat) (l:List Int),(∀ j:Nat,j<m->(j:Int)∈l)->m<=l.length
 | 0,_,_=>Nat.zero_le _
 | m+1,l,h=>by
  have hm:=h m (Nat.lt_succ_self m)
  have ih:=yz m (l.erase (m:Int)) λj hj=>(List.mem_erase_of_ne (by omega)).mpr (h j (by omega))
  rw[List.length_erase_of_mem hm]at ih
  have:=List.length_pos_of_mem hm
  omega
theorem ow{n m:Nat}{p:Nat->Bool}(hm:m<n)(h1:p m=true)(h2:∀ j,j<m->p j=false):(List.range n).find? p=some m:=by
 rw[List.find?_range_eq_some]
 exact⟨h1,List.mem_range.mpr hm,λj hj=>by rw[h2 j hj];rfl⟩
theorem Aw.eq{l:List Int}{m:Nat}(h:Aw l m):my l=m:=by
 unfold my
 rw[ow (m:=m) (by have:=yz m l h.2;omega) (by rw[decide_eq_false h.1];rfl) (λj hj=>by rw[decide_eq_true (h.2 j hj)];rfl)]
 rfl
theorem Cc{α:Type}{p q:α->Bool}{x:α}:∀ {l:List α},(∀ y,p y=true->q y=true)->x∈l->q x=true->p x=false->(l.filter p).length<(l.filter q).length
 | [],_,h,_,_=>nomatch h
 | a::l,hpq,h,hq,hp=>by
  have le:∀ l:List α,(l.filter p).length<=(l.filter q).length:=by
   intro l
   induction l with
   | nil=>exact Nat.le_refl _
   | cons b l ih=>
    rw[List.filter_cons,List.filter_cons]
    cases hb:p b with
    | true=>
     rw[if_pos rfl,if_pos (hpq b hb)]
     exact Nat.succ_le_succ ih
    | false=>
     rw[if_neg Bool.false_ne_true]
     split
     .exact Nat.le_succ_of_le ih
     .exact ih
  rw[List.filter_cons,List.filter_cons]
  rcases List.mem_cons.mp h with e|m
  .subst e
   rw[hp,hq,if_neg Bool.false_ne_true,if_pos rfl]
   exact Nat.lt_succ_of_le (le l)
  .have ih:=Cc hpq m hq hp
   cases hb:p a with
   | true=>
    rw[if_pos rfl,if_pos (hpq a hb)]
    exact Nat.succ_lt_succ ih
   | false=>
    rw[if_neg Bool.false_ne_true]
    split
    .exact Nat.lt_succ_of_lt ih
    .exact ih
def gy(met:List (List Nat))(cs:List Int)(c:Nat):List Int:=cs.set c (my ((met.getD c []).map λo=>cs.getD o (-1)):Nat)
def Ox(met:List (List Nat))(ys:List Nat):List Int:=ys.foldl (gy met) (met.map λ_=>-1)
theorem ux(met:List (List Nat)):∀ (ys:List Nat) (cs:List Int),(ys.foldl (gy met) cs).length=cs.length
 | [],_=>rfl
 | y::ys,cs=>by
  rw[List.foldl_cons,ux met ys]
  unfold gy
  rw[List.length_set]
section
variable{P:Program}{w:World}{K:W.Frag}{mg:Str->Option Value}{base:Heap}{T:Addr}
def Db(K:W.Frag):Sp:=λvs H Q _=>∃ vc l,vs=[vc]/\rLs K rInt H vc l/\Q (.int (my l:Nat)) H
theorem zq:FnScope ["colours","least"] ["colours"] (au d_least_other):=by trivial
theorem Ny(D:Df K mg "least_other" d_least_other ["colours"]):Fn P w K mg base CX0 1 "least_other" ["colours"] (Db K):=by
 refine D.ok zq (λvs H Q E h=>?_) (λf cdv A outer s H vs Q E hr h=>?_)
 .obtain⟨vc,l,rfl,_⟩:=h
  rfl
 .obtain⟨vc,l,rfl,hl,q⟩:=h
  obtain⟨a,rfl,sl⟩:=rLs.ints.mp hl
  refine⟨_,af (bg (i:=1) zq.nd rfl (Or.inl rfl) ax)
   (af (ka PassesOwn.never (bp Bu (pv 1) (pv 0) rfl) (aq (Jr (i:=1) zq.nd rfl (Or.inl rfl) ax Ee)))
   (aq (az (pv 1)))),?_⟩
  refine ma (λZ H'=>∃ k:Nat,Z=[some (.ref a),some (.int (k:Int))]/\H'=H/\∀ j:Nat,j<k->(j:Int)∈l) (λZ _=>match Z with | [_,some (.int k)]=>(l.filter λz=>decide (k<=z)).length|_=>0) ⟨0,rfl,rfl,λj hj=>absurd hj (Nat.not_lt_zero j)⟩ ?_ ?_
  .rintro Z H' ⟨k,rfl,rfl,hk⟩
   refine⟨_,rfl,_,rfl,a,_,rfl,.inl sl,rfl,La l,_,rfl,?_⟩
   rw[if_neg Bool.false_ne_true,Kz]
   refine ite2 (λhc=>?_) λhc=>?_
   .have hc:(k:Int)∈l:=of_decide_eq_true hc
    refine⟨_,rfl,_,_,rfl,rfl,⟨k+1,rfl,rfl,λj hj=>?_⟩,?_⟩
    .by_cases e:j=k
     .rw[e]
      exact hc
     .exact hk j (by omega)
    .show(l.filter λz=>decide ((k:Int)+1<=z)).length<(l.filter λz=>decide ((k:Int)<=z)).length
     exact Cc (x:=(k:Int)) (λy hy=>decide_eq_true (by have:=of_decide_eq_true hy;omega)) hc (decide_eq_true (Int.le_refl _)) (decide_eq_false (by omega))
   .have hc:(k:Int) ∉ l:=λz=>hc (decide_eq_true z)
    refine⟨_,rfl,?_⟩
    rw[Aw.eq ⟨hc,hk⟩]at q
    exact q
  .rintro Z H' Q1 Q2 hq ⟨v,e1,v2,e2,p,ys,e3,e4,e5,e6,b,e7,e8⟩
   exact⟨v,e1,v2,e2,p,ys,e3,e4,e5,e6,b,e7,hq _ _ e8⟩
def Gj(l:List Int):Int:=l.foldl max (-1)+1
def i4(K:W.Frag):Sp:=λvs H Q _=>∃ vc l,vs=[vc]/\rLs K rInt H vc l/\(∀ c∈l,-1<=c)/\Q (.int (Gj l)) H
theorem B9:∀ (l:List Int) (a:Int),(∀ z∈l,z<=l.foldl max a)/\a<=l.foldl max a/\(l.foldl max a=a\/l.foldl max a∈l)
 | [],a=>⟨λ_ h=>(nomatch h),Int.le_refl _,Or.inl rfl⟩
 | b::l,a=>by
  obtain⟨h1,h2,h3⟩:=B9 l (max a b)
  rw[List.foldl_cons]
  refine⟨λz hz=>?_,by omega,?_⟩
  .rcases List.mem_cons.mp hz with e|m
   .omega
   .exact h1 z m
  .rcases h3 with e|m
   .rw[e]
    by_cases hab:a<=b
    .exact .inr (by rw[Int.max_eq_right hab];exact List.mem_cons_self ..)
    .exact .inl (Int.max_eq_left (by omega))
   .exact .inr (List.mem_cons_of_mem _ m)
theorem M0:FnScope ["colours"] ["colours"] (au d_colour_count):=by trivial
theorem N4(B:Blt mg)(hno:Gc mg "NO_COLOUR" (-1))(D:Df K mg "colour_count" d_colour_count ["colours"]):Fn P w K mg base CX0 1 "colour_count" ["colours"] (i4 K):=by
 refine D.ok M0 (λvs H Q E h=>?_) (λf cdv A outer s H vs Q E hr h=>?_)
 .obtain⟨vc,l,rfl,_⟩:=h
  rfl
 .obtain⟨vc,l,rfl,hl,hge,q⟩:=h
  obtain⟨a,rfl,sl⟩:=rLs.ints.mp hl
  refine⟨_,aq (az (ge qc (Q6 rfl rfl B.max (aa (pv 0) aj) (Ju (br hno rfl) Pi)) ax)),?_⟩
  obtain⟨h1,h2,h3⟩:=B9 l (-1)
  refine⟨_,rfl,_,a,l,rfl,rfl,sl,λm hm hmx=>?_,λhz=>?_⟩
  .have e:m=l.foldl max (-1):=by
    have a1:=h1 m hm
    rcases h3 with e|hmem
    .have:=hge m hm
     omega
    .have:=hmx _ hmem
     omega
   refine⟨_,_,rfl,rfl,?_⟩
   rw[e]
   exact q
  .subst hz
   exact⟨_,_,rfl,rfl,q⟩
end
end Sp
end
section
namespace L2
open PySem PySem.Spec PyProof.Rows
def Rp.Mt{α:Type}(R:Rp α):Prop:=∀ (p:Addr) (ps:Array Value) (H H':Hp) (v:V) (x:α),H p=some (.tbl ps)->Sb p H H'->R H v x->R H' v x
theorem rInt.mt:Rp.Mt rInt:=λ_ _ _ _ _ _ _ _ q=>q
theorem rNat.mt:Rp.Mt rNat:=λ_ _ _ _ _ _ _ _ q=>q
theorem rLt.mt{α:Type}{R:Rp α}(h:R.Mt):Rp.Mt (rLt R):=λp ps H H' v l hp s ⟨a,xs,e,q,pr⟩=>⟨a,xs,e,s _ _ q (d7 q hp (by intro z;cases z)),Paired.mapP pr λu x z=>h p ps H H' u x hp s z⟩
theorem SqL.mt{K:W.Frag}{p a:Addr}{H H':Hp}{xs:List V}{ps:Array Value}(hp:H p=some (.tbl ps))(s:Sb p H H')(h:SqL K H a xs):SqL K H' a xs:=by
 rcases h with (h|⟨o,h⟩)|h
 .exact .inl (.inl (s _ _ h (d7 h hp (by intro z;cases z))))
 .exact .inl (.inr ⟨o,s _ _ h (d7 h hp (by intro z;cases z))⟩)
 .exact .inr h
theorem SqT.mt{K:W.Frag}{p a:Addr}{H H':Hp}{xs:List V}{ps:Array Value}(hp:H p=some (.tbl ps))(s:Sb p H H')(h:SqT K H a xs):SqT K H' a xs:=by
 rcases h with (h|⟨o,h⟩)|h
 .exact .inl (.inl (s _ _ h (d7 h hp (by intro z;cases z))))
 .exact .inl (.inr ⟨o,s _ _ h (d7 h hp (by intro z;cases z))⟩)
 .exact .inr h
theorem rLs.mt{α:Type}{K:W.Frag}{R:Rp α}(h:R.Mt):Rp.Mt (rLs K R):=λp ps H H' v l hp s ⟨a,xs,e,q,pr⟩=>⟨a,xs,e,SqL.mt hp s q,Paired.mapP pr λu x z=>h p ps H H' u x hp s z⟩
theorem rTp.mt{α:Type}{K:W.Frag}{R:Rp α}(h:R.Mt):Rp.Mt (rTp K R):=λp ps H H' v l hp s ⟨a,xs,e,q,pr⟩=>⟨a,xs,e,SqT.mt hp s q,Paired.mapP pr λu x z=>h p ps H H' u x hp s z⟩
theorem Sb.free{T:Addr}{H H':Hp}(s:Sb T H H'){ps:Array Value}(hT:H' T=some (.tbl ps)){l:Addr}(h:H' l=none):H l=none:=by
 cases q:H l with
 | none=>rfl
 | some o=>
  by_cases e:l=T
  .rw[e,hT]at h
   cases h
  .rw[s _ _ q e]at h
   cases h
end L2
namespace Sp
open PySem PySem.Spec PyProof.Rows L2
theorem rFr.mt{K:W.Frag}:Rp.Mt (rFr K):=λp ps H H' v l hp s ⟨a,e,q⟩=>⟨a,e,SqT.mt hp s q⟩
theorem setL{xs:List V}{c:Nat}(h:c<xs.length):ixN xs.length (c:Int)=some c:=by
 unfold ixN
 rw[if_pos (by omega),if_pos (by omega)]
 rw[Int.toNat_natCast]
section
variable{P:Program}{w:World}{K:W.Frag}{mg:Str->Option Value}{base:Heap}{T:Addr}
def xz(K:W.Frag)(T:Addr):Sp:=λvs H Q _=>∃ vm met k,vs=[vm,.int (k:Nat)]/\k<=2/\rLt (rLt rNat) H vm met/\Adj met/\(∀ ys,l7 met k ys->∀ c∈ys,c<met.length)/\TabO T H /\
 ∀ p H' ys,H p=none->Sb T H H'->TabO T H'->l7 met k ys->rLt rInt H' (.ref p) (Ox met ys)->Q (.ref p) H'
theorem k8:FnScope ["met","order","colours","column","other"] ["met","order"] (au d_told_colours):=by trivial
theorem Rf(B:Blt mg)(hno:Gc mg "NO_COLOUR" (-1))(F:Fn P w K mg base CX0 3 "ordered_columns" ["met","order"] (zc K T))(G:Fn P w K mg base CX0 1 "least_other" ["colours"] (Db K))(D:Df K mg "told_colours" d_told_colours ["met","order"]) :
  Fn P w K mg base CX0 4 "told_colours" ["met","order"] (xz K T):=by
 refine D.ok k8 (λvs H Q E h=>?_) (λf cdv A outer s H vs Q E hr h=>?_)
 .obtain⟨vm,met,k,rfl,_⟩:=h
  rfl
 .obtain⟨vm,met,k,rfl,hk,hm,hA,hO,hT,q⟩:=h
  refine⟨_,af (bg (i:=2) k8.nd rfl (Or.inr rfl) (gv (own:=[("column",3)]) rfl k8.nd (cy (pv 0)) (b8 (by kernel_rfl)) (λ_ _ _ _ _=>bi (i:=3) k8.nd rfl (Or.inl rfl)) (λ_ _ _ _ _=>c8) (λ_ _ _ _ _=>br hno rfl)))
   (af (fj PassesOwn.never rfl (cy (bh F hr rfl bo (aa (pv 0) (aa (pv 1) aj)))) (bi (i:=3) k8.nd rfl (Or.inl rfl))
    (aq (Tg (bh G (hr.mono (by decide)) rfl bo (aa (gv (own:=[("other",4)]) rfl k8.nd (cy (bf bc (pv 0) (pv 3) (λ_ _=>rfl))) (b8 (by kernel_rfl)) (λ_ _ _ _ _=>bi (i:=4) k8.nd rfl (Or.inl rfl)) (λ_ _ _ _ _=>c8) (λ_ _ _ _ _=>bf (r:=rIxL K) bc (pv 2) (pv 4) (λ_ _=>rfl))) aj)) (Tj (pv 2) (pv 3) Mq))))
   (aq (az (pv 2)))),?_⟩
  obtain⟨am,xs,rfl,hxs,pr,hxl⟩:=hm.len
  have hfew:=hA.few
  dsimp only [m7,tAsg,k7,tSeq]
  refine c9 ?_
  refine⟨_,rfl,am,rfl,⟨_,SqL.of hxs⟩,λD hD=>lcL (R:=rInt) (K:=K) rInt.avT.av (λj=>(met[j]?).map λ_=>(-1:Int)) hD (SqL.of hxs) (by rw[hxl,sizeLine_eq];omega) (λj y H6 acc hy s6 hacc kf k0 kk kn=>?_) λH6 ys s6 hy p6=>?_⟩
  .have hj:j<met.length:=by
    have:=(List.getElem?_eq_some_iff.mp hy).1
    omega
   rw[List.getElem?_eq_getElem hj]at kk
   refine⟨rfl,?_⟩
   dsimp only [tYes]
   rw[if_pos rfl]
   exact kk _ _ (-1) rfl (.refl _) rfl (by intro z;cases z)
  .rw[hxl,dw]at p6
   rw[f8 p6]at hy
   refine⟨_,rfl,_,rfl,.ref am,met,k,rfl,hk,rLt.mono (rLt.mono rNat.mono) _ _ _ _ s6 hm,hA,Tab.same s6 hT,λp2 H7 os hp2 b7 hT7 hord r7=>?_⟩
   obtain⟨ps,hps⟩:=(Tab.same s6 hT).at_
   obtain⟨ps7,hps7⟩:=hT7.at_
   have hos:=hO os hord
   have hD0:H D=none:=hD
   have hDT:D≠T:=d7 hy hps (by intro z;cases z)
   have b07:Sb T H H7:=λb o e hb=>b7 _ _ (s6 _ _ e) hb
   have hm7:=rLt.mt (rLt.mt rNat.mt) _ _ _ _ _ _ hps b7 (rLt.mono (rLt.mono rNat.mono) _ _ _ _ s6 hm)
   have hD7:=b7 _ _ hy hDT
   obtain⟨ao,e2,ho⟩:=rLt.nats.mp r7
   cases e2
   have hp2D:p2≠D:=λz=>by rw[z,hy]at hp2;cases hp2
   obtain⟨am2,xs2,e3,hxs2,pr2,hxl2⟩:=hm7.len
   cases e3
   refine⟨_,rfl,⟨_,SqL.of ho⟩,ft (K:=K) (a:=p2) (xs:=os.map λn:Nat=>V.int (n:Int)) (λi Z H'=>∃ v3,Z=[some (.ref am),some (.int (k:Nat)),some (.ref D),v3,none]/\Sb D H7 H'/\H' D=some (.lst (((os.take i).foldl (gy met) (met.map λ_=>-1)).map V.int)))
    ⟨none,rfl,λb o e _=>e,hD7⟩ (λi Z H' _ ⟨_,_,s2,_⟩=>SqL.of (s2 _ _ ho hp2D)) ?_ ?_⟩
   .rintro i x Z H' hx ⟨v3,rfl,s2,hcs⟩
    obtain⟨c,hc,rfl⟩:=fm hx
    have hcl:=hos c (List.mem_of_getElem? hc)
    obtain⟨e1,l1,lt1⟩:=hA.at_ hcl
    obtain⟨u,hu,ru⟩:=gp pr e1
    obtain⟨ar,rfl,har⟩:=rLt.nats.mp ru
    have keep:∀ b xs,H b=some (.lst xs)->H' b=some (.lst xs):=λb xs e=>s2 _ _ (b07 _ _ e (λz=>by
     obtain⟨ps0,hps0⟩:=hT.at_
     rw[z,hps0]at e
     cases e)) (λz=>by rw[z,hD0]at e;cases e)
    have hxs':=keep _ _ hxs
    have har':=keep _ _ har
    have hlen:((os.take i).foldl (gy met) (met.map λ_=>-1)).length=met.length:=by rw[ux,List.length_map]
    generalize hcv:(os.take i).foldl (gy met) (met.map λ_=>-1)=cs at hcs hlen
    dsimp only [m7,tAsg,Me,n6]
    refine c9 ?_
    refine⟨_,rfl,_,rfl,am,_,_,_,rfl,rfl,SqL.of hxs',ck (j:=c) rfl hu,ar,rfl,⟨_,SqL.of har'⟩,λD2 hD2=>lcL (R:=rInt) (K:=K) rInt.avT.av (λj=>((met.getD c [])[j]?).map λo=>cs.getD o (-1)) hD2 (SqL.of har') (by rw[List.length_map,sizeLine_eq];omega)
     (λj y H8 acc hy8 s8 hacc kf k0 kk kn=>?_) λH8 zs s8 hz p8=>?_⟩
    .obtain⟨o,ho8,rfl⟩:=fm hy8
     have hol:=lt1 o (List.mem_of_getElem? ho8)
     have hg:cs[o]? = some (cs.getD o (-1)):=by
      rw[List.getD_eq_getElem?_getD,List.getElem?_eq_getElem (by omega)]
      rfl
     rw[ho8]at kk
     refine⟨rfl,?_⟩
     dsimp only [tYes]
     rw[if_pos rfl]
     exact⟨_,rfl,_,rfl,D,_,_,_,rfl,rfl,SqL.of (s8 _ _ hcs),ck (j:=o) rfl (by rw[List.getElem?_map,hg];rfl),kk _ _ _ rfl (.refl _) rfl (by intro z;cases z)⟩
    .rw[List.length_map,dw]at p8
     rw[f8 p8]at hz
     refine⟨.ref D2,_,rfl,rLs.ints.mpr ⟨D2,rfl,SqL.of hz⟩,?_⟩
     have hcs8:=s8 _ _ hcs
     refine⟨_,rfl,_,rfl,D,_,_,c,rfl,rfl,hcs8,setL (by rw[List.length_map,hlen];exact hcl),?_⟩
     refine⟨_,rfl,λb o e hb=>?_,?_⟩
     .rw[ay hb]
      exact s8 _ _ (s2 _ _ e hb)
     .rw[ak,take_snoc hc,List.foldl_append,hcv]
      show some (HO.lst ((cs.map V.int).set c (V.int _)))=some (HO.lst ((gy met cs c).map V.int))
      unfold gy
      rw[List.map_set]
   .rintro Z H' ⟨v3,rfl,s2,hcs⟩
    rw[List.length_map,List.take_of_length_le (Nat.le_refl _)]at hcs
    refine⟨_,rfl,q D H' os hD0 (λb o e hb=>?_) ?_ hord (rLt.ints.mpr ⟨D,rfl,hcs⟩)⟩
    .exact s2 _ _ (b07 _ _ e hb) (λz=>by rw[z,hD0]at e;cases e)
    .rcases hT7 with z|⟨c',z,z2⟩
     .exact .inl (s2 _ _ z hDT.symm)
     .exact .inr ⟨c',s2 _ _ z hDT.symm,s2 _ _ z2 (d7 z2 hD7 (by intro z;cases z))⟩
end
def Ci(met:List (List Nat))(cs:List Int):Option (Nat×Nat):=(gw met).find? λx=>decide (cs.getD x.1 0=cs.getD x.2 0)
theorem Nf{met:List (List Nat)}(hA:Adj met):∀ x∈gw met,x.1<met.length/\x.2<met.length:=by
 intro x hx
 unfold gw at hx
 obtain⟨i,hi,h2⟩:=List.mem_flatMap.mp hx
 have hi:=List.mem_range.mp hi
 obtain⟨j,hj,rfl⟩:=List.mem_map.mp h2
 exact⟨hi,(hA.at_ hi).2.2 j (List.mem_filter.mp hj).1⟩
theorem Sh{α:Type}{l:List α}{p:α->Bool}{i:Nat}{x:α}(h1:(l.take i).find? p=none)(h2:l[i]? = some x)(h3:p x=true):l.find? p=some x:=by
 have e:l=l.take i++x::l.drop (i+1):=by
  have hi:=(List.getElem?_eq_some_iff.mp h2).1
  have h4:l.drop i=x::l.drop (i+1):=by
   rw[List.drop_eq_getElem_cons hi]
   rw[List.getElem?_eq_getElem hi]at h2
   cases h2
   rfl
  rw[<- h4,List.take_append_drop]
 rw[e,List.find?_append,h1,List.find?_cons_of_pos h3]
 rfl
theorem Lb{α:Type}{l:List α}{p:α->Bool}{i:Nat}{x:α}(h1:(l.take i).find? p=none)(h2:l[i]? = some x)(h3:p x=false):(l.take (i+1)).find? p=none:=by
 rw[take_snoc h2,List.find?_append,h1,List.find?_cons_of_neg (by rw[h3];exact Bool.false_ne_true)]
 rfl
section
variable{P:Program}{w:World}{K:W.Frag}{mg:Str->Option Value}{base:Heap}{T:Addr}
def zh(K:W.Frag):Sp:=λvs H Q _=>∃ vm vc met cs,vs=[vm,vc]/\rLt (rLt rNat) H vm met/\Adj met/\rLs K rInt H vc cs/\cs.length=met.length /\
 (Ci met cs=none->∀ H',Same H H'->Q .non H')/\∀ x v H',Ci met cs=some x->Same H H'->rPo H' v x->Q v H'
theorem Fc:FnScope ["met","colours","pair"] ["met","colours"] (au d_first_clash):=by trivial
theorem N5(F:Fn P w K mg base CX0 1 "meeting_pairs" ["met"] (y9 K))(D:Df K mg "first_clash" d_first_clash ["met","colours"]):Fn P w K mg base CX0 2 "first_clash" ["met","colours"] (zh K):=by
 refine D.ok Fc (λvs H Q E h=>?_) (λf cdv A outer s H vs Q E hr h=>?_)
 .obtain⟨vm,vc,met,cs,rfl,_⟩:=h
  rfl
 .obtain⟨vm,vc,met,cs,rfl,hm,hA,hc,hlen,q0,q1⟩:=h
  obtain⟨ac,rfl,sc⟩:=rLs.ints.mp hc
  refine⟨_,af (fj PassesOwn.never rfl (cy (bh F hr rfl bo (aa (pv 0) aj))) (bi (i:=2) Fc.nd rfl (Or.inl rfl))
    (aq (cw (bp fe (bf bc (pv 1) (bf bq (pv 2) ax (λ_ _=>rfl)) (λ_ _=>rfl)) (bf bc (pv 1) (bf bq (pv 2) ax (λ_ _=>rfl)) (λ_ _=>rfl)) (bv _)) (aq (az (pv 2))) bu)))
   (aq (az yd)),?_⟩
  refine⟨_,rfl,vm,met,rfl,hm,hA,λp H1 hp s1 r1=>?_⟩
  obtain⟨a2,zs,e2,hzs,pr,hzl⟩:=r1.len
  cases e2
  have sc1:=s1.seq sc
  refine⟨_,rfl,⟨_,SqL.of hzs⟩,ft (K:=K) (a:=p) (xs:=zs) (λi Z H'=>∃ v2,Z=[some vm,some (.ref ac),v2]/\H'=H1/\((gw met).take i).find? (λx=>decide (cs.getD x.1 0=cs.getD x.2 0))=none)
   ⟨none,rfl,rfl,rfl⟩ (λi Z H' _ ⟨_,_,e,_⟩=>by rw[e];exact SqL.of hzs) ?_ ?_⟩
  .rintro i x Z H' hx ⟨v2,rfl,rfl,hn⟩
   obtain⟨y,hy,a3,rfl,ha3⟩:=eh pr hx
   obtain⟨l1,l2⟩:=Nf hA y (List.mem_of_getElem? hy)
   have g:∀ j,j<met.length->(cs.map V.int)[j]? = some (V.int (cs.getD j 0)):=λj hj=>by
    rw[List.getElem?_map,List.getD_eq_getElem?_getD,List.getElem?_eq_getElem (by omega)]
    rfl
   refine⟨_,rfl,_,rfl,a3,_,_,_,rfl,rfl,.inl (.inl ha3),rfl,ac,_,_,_,rfl,rfl,sc1,ck (j:=y.1) rfl (g _ l1),_,rfl,_,rfl,a3,_,_,_,rfl,rfl,.inl (.inl ha3),rfl,ac,_,_,_,rfl,rfl,sc1,ck (j:=y.2) rfl (g _ l2),rfl,_,rfl,?_⟩
   rw[f9]
   refine ite2 (λhc2=>?_) λhc2=>?_
   .exact⟨_,rfl,q1 y _ _ (Sh hn hy hc2) s1 ⟨a3,rfl,ha3⟩⟩
   .exact⟨_,rfl,rfl,Lb hn hy (by simpa using hc2)⟩
  .rintro Z H' ⟨v2,rfl,rfl,hn⟩
   rw[hzl,List.take_of_length_le (Nat.le_refl _)]at hn
   exact q0 hn _ s1
end
def mw(met:List (List Nat))(cs:List Nat):List Nat:=((met.getD cs.length []).filter λo=>decide (o<cs.length)).map λo=>cs.getD o 0
def b9(cs:List Nat):Nat:=cs.foldl (λn c=>max n (c+1)) 0
def canM(met:List (List Nat))(k:Nat):Nat->List Nat->Bool
 | 0,_=>true
 | f+1,cs=>(List.range (min k (b9 cs+1))).any λc=>!decide (c∈mw met cs)&&canM met k f (cs++[c])
theorem gq(cs:List Nat):Gj (cs.map λn:Nat=>(n:Int))=(b9 cs:Nat):=by
 have key:∀ (l:List Nat) (a:Nat),((l.map λn:Nat=>(n:Int)).foldl max ((a:Int) - 1))+1=((l.foldl (λn c=>max n (c+1)) a:Nat):Int):=by
  intro l
  induction l with
  | nil=>intro a;show(a:Int) - 1+1=a;omega
  | cons b l ih=>
   intro a
   rw[List.map_cons,List.foldl_cons,List.foldl_cons,<- ih]
   congr 2
   omega
 have:=key cs 0
 unfold Gj b9
 exact this
section
variable{P:Program}{w:World}{K:W.Frag}{mg:Str->Option Value}{base:Heap}{T:Addr}
def Qk(K:W.Frag)(r:Nat):Sp:=λvs H Q _=>∃ vm vb met cs k,vs=[vm,vb,.int (k:Nat)]/\rLt (rLt rNat) H vm met/\Adj met/\rLt rNat H vb cs/\k<=1000/\cs.length<=met.length/\met.length - cs.length<=r /\
 ∀ H',Same H H'->Q (.bl (canM met k (met.length - cs.length) cs)) H'
theorem Bb:FnScope ["met","begun","count","column","near","other","colour"] ["met","begun","count"] (au d_can_be_coloured):=by trivial
theorem Go(B:Blt mg)(C:Fn P w K mg base CX0 1 "colour_count" ["colours"] (i4 K)){r:Nat}{spR:Sp}(hR:∀ vs H Q E,(∃ vm vb met cs k,vs=[vm,vb,.int (k:Nat)]/\rLt (rLt rNat) H vm met/\Adj met/\rLt rNat H vb cs/\k<=1000/\cs.length<=met.length/\met.length - cs.length+1<=r/\∀ H',Same H H'->Q (.bl (canM met k (met.length - cs.length) cs)) H')->spR vs H Q E)
  {kr:Nat} (hk:1<=kr) (F:Fn P w K mg base CX0 kr "can_be_coloured" ["met","begun","count"] spR) (D:Df K mg "can_be_coloured" d_can_be_coloured ["met","begun","count"]) :
  Fn P w K mg base CX0 (kr+1) "can_be_coloured" ["met","begun","count"] (Qk K r):=by
 refine D.ok Bb (λvs H Q E h=>?_) (λf cdv A outer s H vs Q E hr h=>?_)
 .obtain⟨vm,vb,met,cs,k,rfl,_⟩:=h
  rfl
 .obtain⟨vm,vb,met,cs,k,rfl,hm,hA,hb,hk1,hle,hrem,q⟩:=h
  refine⟨_,af (bg (i:=3) Bb.nd rfl (Or.inr rfl) (bj be rfl B.len PySem.boot_len (aa (pv 1) aj)))
   (af (cw (bp fe (pv 3) (bj be rfl B.len PySem.boot_len (aa (pv 0) aj)) (bv _)) (aq (az Gz)) bu)
   (af (kc (i:=4) (own:=[("other",5)]) rfl Bb.nd rfl rfl rfl (cy (bf bc (pv 0) (pv 3) (λ_ _=>rfl))) (b8 (by kernel_rfl)) (λ_ _ _ _ _=>bi (i:=5) Bb.nd rfl (Or.inl rfl)) (λ_ _ _ _ _=>oi (bp G0 (pv 5) (pv 3) (bv _))) (λ_ _ _ _ _=>bf (r:=rIxL K) bc (pv 1) (pv 5) (λ_ _=>rfl)))
   (af (fj PassesOwn.never rfl (ez rfl B.range (aa (bj (Lp rfl) rfl B.min boot_min (aa (pv 2) (aa (ge qc (bh C (hr.mono hk) rfl bo (aa (pv 1) aj)) ax) aj))) aj)) (bi (i:=6) Bb.nd rfl (Or.inl rfl))
    (aq (cw (PW.pt (Jp (bp Bt (pv 6) (pv 4) rfl) (Du (gm (bh F hr rfl bo (aa (pv 0) (aa (ge J2 (pv 1) (cu (aa (pv 6) aj))) (aa (pv 2) aj)))))))) (aq (az Gz)) bu)))
   (aq (az Gz))))),?_⟩
  obtain⟨am,xs,rfl,hxs,pr,hxl⟩:=hm.len
  obtain⟨ab,rfl,hbb⟩:=rLt.nats.mp hb
  have hfew:=hA.few
  refine⟨_,rfl,ab,_,rfl,.inl (SqL.of hbb),?_⟩
  rw[List.length_map]
  refine⟨_,rfl,_,rfl,am,_,rfl,.inl (SqL.of hxs),rfl,_,rfl,?_⟩
  rw[f9,hxl]
  refine ite2 (λhc=>?_) λhc=>?_
  .have hc:cs.length=met.length:=by have:=of_decide_eq_true hc;omega
   have z:=q H (.refl H)
   rw[hc,Nat.sub_self]at z
   exact z
  .have hc:¬ cs.length=met.length:=λz=>hc (decide_eq_true (by omega))
   have hcl:cs.length<met.length:=by omega
   obtain⟨e1,l1,lt1⟩:=hA.at_ hcl
   obtain⟨u,hu,ru⟩:=gp pr e1
   obtain⟨ar,rfl,har⟩:=rLt.nats.mp ru
   obtain⟨fu,hfu⟩:∃ fu,met.length - cs.length=fu+1:=⟨met.length - cs.length - 1,by omega⟩
   dsimp only [m7,tAsg,k7,tSeq]
   refine c9 ?_
   refine⟨_,rfl,_,rfl,am,_,_,_,rfl,rfl,SqL.of hxs,ck (j:=cs.length) rfl hu,ar,rfl,⟨_,SqL.of har⟩,λD2 hD2=>lcL (R:=rNat) (K:=K) rNat.avT.av (λj=>((met.getD cs.length [])[j]?).bind λo=>if decide (o<cs.length)=true then some (cs.getD o 0) else none) hD2 (SqL.of har) (by rw[List.length_map,sizeLine_eq];omega)
     (λj y H8 acc hy8 s8 hacc kf k0 kk kn=>?_) λH8 zs s8 hz p8=>?_⟩
   .obtain⟨o,ho8,rfl⟩:=fm hy8
    rw[ho8]at kk kn
    refine⟨rfl,_,rfl,_,rfl,_,_,rfl,rfl,_,rfl,ite2 (λhc2=>?_) λhc2=>?_⟩
    .have hc2:o<cs.length:=by have:=of_decide_eq_true hc2;omega
     have hg:cs[o]? = some (cs.getD o 0):=by
      rw[List.getD_eq_getElem?_getD,List.getElem?_eq_getElem hc2]
      rfl
     exact⟨_,rfl,_,rfl,ab,_,_,_,rfl,rfl,SqL.of (s8 _ _ hbb),ck (j:=o) rfl (by rw[List.getElem?_map,hg];rfl),kk _ _ _ (if_pos (decide_eq_true hc2)) (.refl _) rfl (by intro z;cases z)⟩
    .have hc2:¬ o<cs.length:=λz=>hc2 (decide_eq_true (by omega))
     exact kn _ (if_neg (by rw[decide_eq_false hc2];exact Bool.false_ne_true)) (.refl _)
   .rw[List.length_map,ip]at p8
    have e8:(met.getD cs.length []).filterMap (λo=>if decide (o<cs.length)=true then some (cs.getD o 0) else none)=mw met cs:=by
     unfold mw
     induction met.getD cs.length [] with
     | nil=>rfl
     | cons a l ih=>
      rw[List.filterMap_cons,List.filter_cons,ih]
      cases decide (a<cs.length) <;> rfl
    rw[e8]at p8
    rw[ja p8]at hz
    have hcnt:Gj (cs.map λn:Nat=>(n:Int))=(b9 cs:Nat):=gq cs
    have hbb8:=s8 _ _ hbb
    have emap:(cs.map λn:Nat=>V.int (n:Int))=(cs.map λn:Nat=>(n:Int)).map V.int:=by rw[List.map_map];rfl
    refine⟨_,rfl,_,rfl,.ref ab,cs.map (λn:Nat=>(n:Int)),rfl,rLs.ints.mpr ⟨ab,rfl,by rw[<- emap];exact SqL.of hbb8⟩,?_,?_⟩
    .intro c hc3
     obtain⟨n,_,rfl⟩:=List.mem_map.mp hc3
     omega
    .rw[hcnt]
     refine⟨_,_,rfl,rfl,_,_,rfl,_,rfl,?_,?_,?_⟩
     .split <;> omega
     .split <;> omega
     .have hnum:(if (b9 cs:Int)+1<(k:Int) then (b9 cs:Int)+1 else (k:Int)).toNat=min k (b9 cs+1):=by
       split <;> omega
      refine B8 (Pv:=λi Z H'=>∃ v6,Z=[some (.ref am),some (.ref ab),some (.int (k:Nat)),some (.int (cs.length:Nat)),some (.ref D2),none,v6]/\Same H8 H'/\(List.range i).any (λc=>!decide (c∈mw met cs)&&canM met k fu (cs++[c]))=false)
       ⟨none,rfl,.refl _,rfl⟩ ?_ ?_
      .rintro i Z H' hi ⟨v6,rfl,s9,hany⟩
       rw[hnum]at hi
       rw[Int.zero_add]
       have sH':Same H H':=s8.trans s9
       have hz':=s9 _ _ hz
       have snoc:∀ b,(!decide (i∈mw met cs)&&canM met k fu (cs++[i]))=b->(List.range (i+1)).any (λc=>!decide (c∈mw met cs)&&canM met k fu (cs++[c]))=b:=λb hb=>by
        rw[List.range_succ,List.any_append,hany,Bool.false_or,List.any_cons,List.any_nil,Bool.or_false]
        exact hb
       refine⟨_,rfl,_,rfl,D2,_,rfl,.inl (SqL.of hz'),rfl,Ca _,_,rfl,?_⟩
       rw[if_pos rfl,Ky]
       by_cases hin:i∈mw met cs
       .rw[decide_eq_true hin]
        refine iteF (iteF ⟨_,rfl,s9,snoc false ?_⟩)
        rw[decide_eq_true hin]
        rfl
       .rw[decide_eq_false hin]
        refine iteT ⟨_,rfl,_,rfl,_,rfl,Nat.succ_le_of_lt (by rw[sizeLine_eq];decide),λp9 hp9=>?_⟩
        have s10:Same H' (upd H' p9 (.lst [V.int (i:Int)])):=.new hp9
        have hbb9:=s10 _ _ (sH' _ _ hbb)
        refine⟨ab,p9,_,_,rfl,rfl,hbb9,ak,(by rw[List.length_map,sizeLine_eq];show cs.length+1<=_;omega),λp10 hp10=>?_⟩
        have s11:=s10.trans (Same.new (o:=.lst ((cs.map λn:Nat=>V.int (n:Int))++[V.int (i:Int)])) hp10)
        refine⟨_,rfl,hR _ _ _ _ ⟨_,_,met,cs++[i],k,rfl,rLt.mono (rLt.mono rNat.mono) _ _ _ _ (sH'.trans s11) hm,hA,rLt.nats.mpr ⟨p10,rfl,?_⟩,hk1,?_,?_,λH12 s12=>?_⟩⟩
        .rw[ak,List.map_append]
         rfl
        .rw[List.length_append]
         show cs.length+1<=_
         omega
        .rw[List.length_append]
         show met.length - (cs.length+1)+1<=r
         omega
        .refine⟨_,rfl,?_⟩
         have e:met.length - (cs++[i]).length=fu:=by
          rw[List.length_append]
          show met.length - (cs.length+1)=fu
          omega
         rw[e]
         refine ite2 (λhc9=>?_) λhc9=>?_
         .have z:=q H12 ((sH'.trans s11).trans s12)
          have e9:canM met k (fu+1) cs=true:=by
           rw[canM,List.any_eq_true]
           exact⟨i,List.mem_range.mpr hi,by rw[decide_eq_false hin,hc9];rfl⟩
          rw[hfu,e9]at z
          exact z
         .have hc9:canM met k fu (cs++[i])=false:=by simpa using hc9
          exact⟨_,rfl,(s9.trans s11).trans s12,snoc false (by rw[hc9,Bool.and_false])⟩
      .rintro Z H' ⟨v6,rfl,s9,hany⟩
       rw[hnum]at hany
       have z:=q H' (s8.trans s9)
       rw[hfu,canM,hany]at z
       exact z
theorem Pn(B:Blt mg)(C:Fn P w K mg base CX0 1 "colour_count" ["colours"] (i4 K))(D:Df K mg "can_be_coloured" d_can_be_coloured ["met","begun","count"]):∀ r,Fn P w K mg base CX0 (r+2) "can_be_coloured" ["met","begun","count"] (Qk K r)
 | 0=>by
  obtain⟨f,fd,F,hm,hb⟩:=D
  have F0:Fn P w K mg base CX0 1 "can_be_coloured" ["met","begun","count"] (λ_ _ _ _=>False):=⟨f,fd,⟨λ_ _ _ _ h=>h.elim,λ_ _ _ _ _ _ _ _ _ _ _ _ _ h=>h.elim⟩,hm,F.kp,hb⟩
  exact Go B C (λvs H Q E ⟨_,_,_,_,_,_,_,_,_,_,_,h,_⟩=>absurd h (by omega)) (Nat.le_refl 1) F0 ⟨f,fd,F,hm,hb⟩
 | r+1=>Go B C (λvs H Q E ⟨vm,vb,met,cs,k,h1,h2,h3,h4,h5,h6,h7,h8⟩=>⟨vm,vb,met,cs,k,h1,h2,h3,h4,h5,h6,by omega,h8⟩) (by omega) (Pn B C D r) D
def Lc(met:List (List Nat))(m:Nat):Prop:=canM met m met.length []=true/\∀ j,j<m->canM met j met.length []=false
def zg(K:W.Frag):Sp:=λvs H Q _=>∃ vm met,vs=[vm]/\rLt (rLt rNat) H vm met/\Adj met/\met.length<=8/\(∃ m,m<=8/\canM met m met.length []=true)/\∀ m H',Lc met m->Same H H'->Q (.int (m:Nat)) H'
theorem tj:FnScope ["met","count"] ["met"] (au d_fewest_colours):=by trivial
theorem Kb(C:Fn P w K mg base CX0 10 "can_be_coloured" ["met","begun","count"] (Qk K 8))(D:Df K mg "fewest_colours" d_fewest_colours ["met"]):Fn P w K mg base CX0 11 "fewest_colours" ["met"] (zg K):=by
 refine D.ok tj (λvs H Q E h=>?_) (λf cdv A outer s H vs Q E hr h=>?_)
 .obtain⟨vm,met,rfl,_⟩:=h
  rfl
 .obtain⟨vm,met,rfl,hm,hA,h8,⟨m,hm8,hcan⟩,q⟩:=h
  refine⟨_,af (bg (i:=1) tj.nd rfl (Or.inl rfl) ax)
   (af (ka PassesOwn.never (kq (gm (bh C hr rfl bo (aa (pv 0) (aa (cu aj) (aa (pv 1) aj)))))) (aq (Jr (i:=1) tj.nd rfl (Or.inl rfl) ax Ee)))
   (aq (az (pv 1)))),?_⟩
  refine ma (λZ H'=>∃ c:Nat,Z=[some vm,some (.int (c:Int))]/\Same H H'/\c<=m/\∀ j,j<c->canM met j met.length []=false) (λZ _=>match Z with | [_,some (.int c)]=>m - c.toNat|_=>0) ⟨0,rfl,.refl H,Nat.zero_le _,λj hj=>absurd hj (Nat.not_lt_zero j)⟩ ?_ ?_
  .rintro Z H' ⟨c,rfl,s1,hcm,hj⟩
   refine⟨_,rfl,Nat.zero_le _,λp hp=>?_⟩
   have s2:Same H' (upd H' p (.lst [])):=.new hp
   refine⟨_,rfl,_,_,met,[],c,rfl,rLt.mono (rLt.mono rNat.mono) _ _ _ _ (s1.trans s2) hm,hA,⟨p,[],rfl,ak,.nil⟩,by omega,Nat.zero_le _,by show met.length - 0<=8;omega,λH3 s3=>?_⟩
   refine⟨_,rfl,?_⟩
   show(if (!canM met c (met.length - 0) [])=true then _ else _)
   rw[Nat.sub_zero]
   cases hcc:canM met c met.length [] with
   | true=>
    exact iteF ⟨_,rfl,q c H3 ⟨hcc,hj⟩ ((s1.trans s2).trans s3)⟩
   | false=>
    have hne:c≠m:=λz=>by
     rw[z,hcan]at hcc
     cases hcc
    refine iteT ⟨_,rfl,_,_,rfl,rfl,⟨c+1,rfl,(s1.trans s2).trans s3,by omega,λj hj2=>?_⟩,?_⟩
    .by_cases e:j=c
     .rw[e]
      exact hcc
     .exact hj j (by omega)
    .show m - ((c:Int)+1).toNat<m - ((c:Nat):Int).toNat
     omega
  .rintro Z H' Q1 Q2 hq ⟨v,e1,e2,e3⟩
   refine⟨v,e1,e2,λp hp=>?_⟩
   obtain⟨v2,e4,vm',vb,met',cs,k,h1,h2,h3,h4,h5,h6,h7,h8⟩:=e3 p hp
   refine⟨v2,e4,vm',vb,met',cs,k,h1,h2,h3,h4,h5,h6,h7,λH3 s3=>?_⟩
   obtain⟨b,e5,e6⟩:=h8 H3 s3
   exact⟨b,e5,hq _ _ e6⟩
end
end Sp
end
section
namespace Sp
open Vagraa (Frac)
open VagraLine (at_)
theorem B7(n:Int){d:Nat}(hd:0<d):(Vagraa.frac n d).den ∣ d:=by
 unfold Vagraa.frac
 rw[if_neg (Nat.ne_of_gt hd)]
 exact Nat.div_dvd_of_dvd (Nat.gcd_dvd_right _ _)
theorem Gb(n:Int){d:Nat}(hd:0<d):(Vagraa.frac n d).num*(d:Int)=n*((Vagraa.frac n d).den:Int):=by
 have hg:0<Nat.gcd n.natAbs d:=Nat.gcd_pos_of_pos_right _ hd
 obtain⟨a,ha⟩:((Nat.gcd n.natAbs d:Nat):Int) ∣ n:=Int.ofNat_dvd_left.mpr (Nat.gcd_dvd_left _ _)
 obtain⟨b,hb⟩:Nat.gcd n.natAbs d ∣ d:=Nat.gcd_dvd_right _ _
 unfold Vagraa.frac
 rw[if_neg (Nat.ne_of_gt hd)]
 show n / ((Nat.gcd n.natAbs d:Nat):Int)*(d:Int)=n*((d / Nat.gcd n.natAbs d:Nat):Int)
 generalize Nat.gcd n.natAbs d=g at *
 rw[ha,hb,Int.mul_ediv_cancel_left _ (by omega),Nat.mul_div_cancel_left _ hg,Int.natCast_mul]
 ac_rfl
theorem Hk{f:Frac}(hf:Low f){n:Int}{d:Nat}(h:f.num*(d:Int)=n*(f.den:Int)):f.den ∣ d:=by
 have h1:f.den ∣ f.num.natAbs*d:=by
  have h2:=congrArg Int.natAbs h
  rw[Int.natAbs_mul,Int.natAbs_mul,Int.natAbs_natCast,Int.natAbs_natCast]at h2
  rw[h2]
  exact Nat.dvd_mul_left _ _
 exact Nat.Coprime.dvd_of_dvd_mul_left (Nat.Coprime.symm hf.2) h1
theorem P0{f:Frac}{n:Int}{d B:Nat}(hd:0<d)(h:f.num*(d:Int)=n*(f.den:Int))(hn:n.natAbs<=d*B):f.num.natAbs<=f.den*B:=by
 have h2:=congrArg Int.natAbs h
 rw[Int.natAbs_mul,Int.natAbs_mul,Int.natAbs_natCast,Int.natAbs_natCast]at h2
 have h3:f.num.natAbs*d<=d*B*f.den:=by
  rw[h2]
  exact Nat.mul_le_mul_right _ hn
 have h4:d*f.num.natAbs<=d*(f.den*B):=by
  have e1:d*f.num.natAbs=f.num.natAbs*d:=Nat.mul_comm _ _
  have e2:d*(f.den*B)=d*B*f.den:=by ac_rfl
  rw[e1,e2]
  exact h3
 exact Nat.le_of_mul_le_mul_left h4 hd
structure Chg(W B:Nat)(f:Frac):Prop where
 low:Low f
 den:f.den ∣ W
 abs:f.num.natAbs<=f.den*B
theorem Chg.mono{W W' B B':Nat}{f:Frac}(h:Chg W B f)(hW:W ∣ W')(hB:B<=B'):Chg W' B' f:=⟨h.low,Nat.dvd_trans h.den hW,Nat.le_trans h.abs (Nat.mul_le_mul_left _ hB)⟩
theorem Chg.neg{W B:Nat}{f:Frac}(h:Chg W B f):Chg W B (Vagraa.neg f):=⟨h.low.neg,h.den,by show(-f.num).natAbs<=_;rw[Int.natAbs_neg];exact h.abs⟩
theorem Chg.add{W A B:Nat}{f g:Frac}(hf:Chg W A f)(hg:Chg W B g):Chg W (A+B) (Vagraa.add f g):=by
 have hd:0<f.den*g.den:=Nat.mul_pos hf.low.1 hg.low.1
 have hv:=Gb (f.num*g.den+g.num*f.den) hd
 refine⟨Low.frac _ hd,?_,?_⟩
 .obtain⟨u,hu⟩:=hf.den
  obtain⟨v,hv2⟩:=hg.den
  refine Hk (Low.frac _ hd) (n:=f.num*u+g.num*v) ?_
  have hz:((f.den*g.den:Nat):Int)≠0:=by omega
  refine Int.eq_of_mul_eq_mul_right hz ?_
  have e1:(Vagraa.frac (f.num * ↑g.den+g.num * ↑f.den) (f.den*g.den)).num*(W:Int)*((f.den*g.den:Nat):Int)=(f.num * ↑g.den+g.num * ↑f.den)*((Vagraa.frac (f.num * ↑g.den+g.num * ↑f.den) (f.den*g.den)).den:Int)*(W:Int):=by
   rw[<- hv]
   ac_rfl
  rw[e1]
  have e2:(f.num * ↑g.den+g.num * ↑f.den)*(W:Int)=(f.num * ↑u+g.num * ↑v)*((f.den*g.den:Nat):Int):=by
   rw[Int.add_mul,Int.add_mul,Int.natCast_mul]
   have a1:f.num*(g.den:Int)*(W:Int)=f.num*u*((f.den:Int)*g.den):=by
    rw[hu,Int.natCast_mul]
    ac_rfl
   have a2:g.num*(f.den:Int)*(W:Int)=g.num*v*((f.den:Int)*g.den):=by
    rw[hv2,Int.natCast_mul]
    ac_rfl
   rw[a1,a2]
  have e3:∀ x y z:Int,x*y*z=x*z*y:=λx y z=>by ac_rfl
  rw[e3,e2,e3]
 .refine P0 hd hv ?_
  have h1:(f.num*(g.den:Int)).natAbs<=f.den*g.den*A:=by
   rw[Int.natAbs_mul,Int.natAbs_natCast]
   calc f.num.natAbs*g.den<=f.den*A*g.den:=Nat.mul_le_mul_right _ hf.abs
    _=f.den*g.den*A:=by ac_rfl
  have h2:(g.num*(f.den:Int)).natAbs<=f.den*g.den*B:=by
   rw[Int.natAbs_mul,Int.natAbs_natCast]
   calc g.num.natAbs*f.den<=g.den*B*f.den:=Nat.mul_le_mul_right _ hg.abs
    _=f.den*g.den*B:=by ac_rfl
  rw[Nat.mul_add]
  have:=Int.natAbs_add_le (f.num*(g.den:Int)) (g.num*(f.den:Int))
  omega
theorem Chg.sub{W A B:Nat}{f g:Frac}(hf:Chg W A f)(hg:Chg W B g):Chg W (A+B) (Vagraa.sub f g):=hf.add hg.neg
theorem Chg.mul{W V A B:Nat}{f g:Frac}(hf:Chg W A f)(hg:Chg V B g):Chg (W*V) (A*B) (Vagraa.mul f g):=by
 have hd:0<f.den*g.den:=Nat.mul_pos hf.low.1 hg.low.1
 refine⟨Low.frac _ hd,Nat.dvd_trans (B7 _ hd) (Nat.mul_dvd_mul hf.den hg.den),P0 hd (Gb _ hd) ?_⟩
 rw[Int.natAbs_mul]
 calc f.num.natAbs*g.num.natAbs<=(f.den*A)*(g.den*B):=Nat.mul_le_mul hf.abs hg.abs
  _=f.den*g.den*(A*B):=by ac_rfl
theorem FrOk.chg{n:Nat}{f:Frac}(h:FrOk n f):Chg f.den (2 ^ n) f:=⟨h.low,Nat.dvd_refl _,by
 have h1:f.num.natAbs<2 ^ n:=h.num
 have h2:=h.pos
 calc f.num.natAbs<=1*2 ^ n:=by omega
  _<=f.den*2 ^ n:=Nat.mul_le_mul_right _ h2⟩
theorem FrOk.inv_chg{n:Nat}{f:Frac}(h:FrOk n f)(h0:f.num≠0):Chg f.num.natAbs (2 ^ n) (Vagraa.inv f):=by
 have hi:=(h.inv h0).chg
 have e:(Vagraa.inv f).den=f.num.natAbs:=by
  unfold Vagraa.inv
  by_cases hn:f.num<0
  .rw[if_pos hn]
  .rw[if_neg hn,if_neg h0]
 rw[e]at hi
 exact hi
theorem FrOk.of_chg{W B n:Nat}{f:Frac}(h:Chg W B f)(hW:0<W)(hn:W*B<2 ^ n)(hn2:W<2 ^ n):FrOk n f:=by
 have h1:f.den<=W:=Nat.le_of_dvd hW h.den
 refine⟨h.low.1,?_,?_,h.low.2⟩
 .show f.num.natAbs<2 ^ n
  calc f.num.natAbs<=f.den*B:=h.abs
   _<=W*B:=Nat.mul_le_mul_right _ h1
   _<2 ^ n:=hn
 .show(f.den:Int).natAbs<2 ^ n
  rw[Int.natAbs_natCast]
  omega
theorem FrOk.mul{m n:Nat}{f g:Frac}(hf:FrOk m f)(hg:FrOk n g):FrOk (m+n) (Vagraa.mul f g):=by
 have hd:0<f.den*g.den:=Nat.mul_pos hf.pos hg.pos
 refine FrOk.frac hd ?_ ?_
 .show(f.num*g.num).natAbs<2 ^ (m+n)
  rw[Int.natAbs_mul,Nat.pow_add]
  exact Nat.mul_lt_mul'' hf.num hg.num
 .rw[Nat.pow_add]
  have h1:(f.den:Int).natAbs<2 ^ m:=hf.den
  have h2:(g.den:Int).natAbs<2 ^ n:=hg.den
  rw[Int.natAbs_natCast]at h1 h2
  exact Nat.mul_lt_mul'' h1 h2
theorem FrOk.add{m n:Nat}{f g:Frac}(hf:FrOk m f)(hg:FrOk n g):FrOk (m+n+1) (Vagraa.add f g):=by
 have hd:0<f.den*g.den:=Nat.mul_pos hf.pos hg.pos
 have h1:(f.den:Int).natAbs<2 ^ m:=hf.den
 have h2:(g.den:Int).natAbs<2 ^ n:=hg.den
 have h3:f.num.natAbs<2 ^ m:=hf.num
 have h4:g.num.natAbs<2 ^ n:=hg.num
 rw[Int.natAbs_natCast]at h1 h2
 have e:2 ^ (m+n+1)=2 ^ m*2 ^ n+2 ^ m*2 ^ n:=by rw[Nat.pow_succ,Nat.pow_add];omega
 refine FrOk.frac hd ?_ ?_
 .show(f.num*g.den+g.num*f.den).natAbs<2 ^ (m+n+1)
  have a1:(f.num*(g.den:Int)).natAbs<2 ^ m*2 ^ n:=by
   rw[Int.natAbs_mul,Int.natAbs_natCast]
   exact Nat.mul_lt_mul'' h3 h2
  have a2:(g.num*(f.den:Int)).natAbs<2 ^ m*2 ^ n:=by
   rw[Int.natAbs_mul,Int.natAbs_natCast,Nat.mul_comm]
   exact Nat.mul_lt_mul'' h1 h4
  have:=Int.natAbs_add_le (f.num*(g.den:Int)) (g.num*(f.den:Int))
  omega
 .have:=Nat.mul_lt_mul'' h1 h2
  omega
theorem ya(pts:List Frac):∀ (code:VagraLine.Code) (vs out:List Frac),VagraLine.runFrom (some Vagrae.HEAVY) pts vs code=.ok out ->
  out.length=vs.length+code.length/\out.take vs.length=vs/\∀ k l,code[k]? = some l->l.value pts (out.take (vs.length+k))=some (at_ out (vs.length+k))
 | [],vs,out,h=>by
  rw[VagraLine.runFrom]at h
  cases h
  exact⟨rfl,List.take_of_length_le (Nat.le_refl _),λk l hl=>by simp at hl⟩
 | l::r,vs,out,h=>by
  rw[pw]at h
  cases hv:l.value pts vs with
  | none=>
   rw[hv]at h
   cases h
  | some a=>
   rw[hv]at h
   have h:(if Vagrae.HEAVY<Vagraa.weight a then Except.error ⟨vs.length,2⟩ else VagraLine.runFrom (some Vagrae.HEAVY) pts (vs++[a]) r)=Except.ok out:=h
   split at h
   .cases h
   .obtain⟨h1,h2,h3⟩:=ya pts r (vs++[a]) out h
    rw[List.length_append]at h1 h2 h3
    have hs:([a]:List Frac).length=1:=rfl
    rw[hs]at h1 h2 h3
    have ha:out[vs.length]? = some a:=by
     have z:(out.take (vs.length+1))[vs.length]? = some a:=by
      rw[h2,List.getElem?_append_right (Nat.le_refl _),Nat.sub_self]
      rfl
     rw[List.getElem?_take_of_lt (by omega)]at z
     exact z
    have ht:out.take vs.length=vs:=by
     have z:=congrArg (List.take vs.length) h2
     rw[List.take_take,Nat.min_eq_left (by omega),List.take_left']at z
     .exact z
     .rfl
    refine⟨by rw[h1,List.length_cons];omega,ht,λk l' hl=>?_⟩
    cases k with
    | zero=>
     have e:l=l':=Option.some.inj hl
     subst e
     rw[Nat.add_zero,ht,hv]
     unfold VagraLine.at_
     rw[List.getD_eq_getElem?_getD,ha]
     rfl
    | succ k=>
     have z:=h3 k l' hl
     rw[show vs.length+(k+1)=vs.length+1+k by omega]
     exact z
theorem Ss{vs:List Frac}{k i:Nat}(h:i<k):at_ (vs.take k) i=at_ vs i:=by
 unfold VagraLine.at_
 rw[List.getD_eq_getElem?_getD,List.getD_eq_getElem?_getD,List.getElem?_take_of_lt h]
structure RunOk(inputs:Nat)(rs:List (List Int))(vals:List Frac):Prop where
 len:vals.length=rs.length
 fr:∀ f∈vals,FrOk 200 f
 ok:∀ a∈rs,RawOk a
 row:∀ (k:Nat) (a:List Int),rs[k]? = some a->RowIn inputs k a
 nz:∀ (k:Nat) (a:List Int),rs[k]? = some a->a.headD 0=5->(at_ vals (a.getD 2 0).toNat).num≠0
 few:rs.length<=80
theorem RunOk.of{inputs:Nat}{rs:List (List Int)}{pts vals:List Frac}(h:VagraLine.run (some Vagrae.HEAVY) pts (rs.map bz)=.ok vals)(hfr:∀ f∈vals,FrOk 200 f)(hok:∀ a∈rs,RawOk a)(hu:cx inputs 0 rs=true)(hf:rs.length<=80):RunOk inputs rs vals:=by
 obtain⟨h1,h2,h3⟩:=ya pts _ _ _ h
 rw[List.length_map]at h1
 have row:∀ k a,rs[k]? = some a->RowIn inputs k a:=λk a hk=>by
  obtain⟨u1,u2⟩:=gb inputs rs 0 k a hu hk
  exact⟨hok a (List.mem_of_getElem? hk),λp hp=>by have:=u1 p hp;omega,u2⟩
 refine⟨by rw[h1];exact Nat.zero_add _,hfr,hok,row,λk a hk h5=>?_,hf⟩
 have z:=h3 k (bz a) (by rw[List.getElem?_map,hk];rfl)
 have hr:=row k a hk
 rcases hr.ok.shape with ⟨i,rfl,_⟩|⟨n,d,rfl,_⟩|⟨k',i,j,rfl,_,_,hi0,hj0⟩|⟨i,rfl,_⟩
 .exact absurd (show(0:Int)=5 from h5) (by decide)
 .exact absurd (show(1:Int)=5 from h5) (by decide)
 .have h5:k'=5:=h5
  subst h5
  have hj:=hr.parts j (by show j∈[i,j];simp)
  rw[show([]:List Frac).length+k=k from Nat.zero_add k,Bk hr.ok]at z
  show(at_ vals j.toNat).num≠0
  intro z0
  have e:k9 (vals.take k) [5,i,j]=true:=by
   show(true&&decide ((at_ (vals.take k) j.toNat).num=0))=true
   rw[Ss (by omega),z0]
   rfl
  rw[e,if_pos rfl]at z
  cases z
 .exact absurd (show(6:Int)=5 from h5) (by decide)
def Fg(dir vals ds:List Frac)(a:List Int):Frac:=Vagrae.Line.change dir vals ds (at_ vals ds.length) (bz a)
def chgs(dir vals:List Frac)(rs:List (List Int)):List Frac:=Vagrae.changes dir vals (rs.map bz)
def facW(vals:List Frac)(k:Nat)(a:List Int):Nat:=
 if a.headD 0=4 then (at_ vals (a.getD 1 0).toNat).den*(at_ vals (a.getD 2 0).toNat).den
 else if a.headD 0=5 then (at_ vals k).den*(at_ vals (a.getD 2 0).toNat).num.natAbs else 1
def wUp(vals:List Frac)(rs:List (List Int)):Nat->Nat
 | 0=>1
 | k+1=>wUp vals rs k*facW vals k (rs.getD k [])
theorem jj(dir vals:List Frac):∀ (c:VagraLine.Code) (ds:List Frac) (l:VagraLine.Line),Vagrae.changesFrom dir vals ds (c++[l])=Vagrae.changesFrom dir vals ds c++[Vagrae.Line.change dir vals (Vagrae.changesFrom dir vals ds c) (at_ vals (Vagrae.changesFrom dir vals ds c).length) l]
 | [],_,_=>rfl
 | b::r,ds,l=>by
  show Vagrae.changesFrom dir vals (ds++[_]) (r++[l])=_
  rw[jj dir vals r]
  rfl
theorem j1(dir vals:List Frac):∀ (c:VagraLine.Code) (ds:List Frac),(Vagrae.changesFrom dir vals ds c).length=ds.length+c.length
 | [],_=>rfl
 | b::r,ds=>by
  show(Vagrae.changesFrom dir vals (ds++[_]) r).length=_
  rw[j1 dir vals r,List.length_append]
  show ds.length+1+r.length=ds.length+(r.length+1)
  omega
theorem Cj(dir vals:List Frac)(rs:List (List Int))(a:List Int):chgs dir vals (rs++[a])=chgs dir vals rs++[Fg dir vals (chgs dir vals rs) a]:=by
 unfold chgs Vagrae.changes Fg
 rw[List.map_append]
 exact jj dir vals _ _ _
theorem rn(dir vals:List Frac)(rs:List (List Int)):(chgs dir vals rs).length=rs.length:=by
 unfold chgs Vagrae.changes
 rw[j1,List.length_map]
 exact Nat.zero_add _
section
variable{inputs:Nat}{rs:List (List Int)}{vals dir:List Frac}
theorem RunOk.val(h:RunOk inputs rs vals){i:Nat}(hi:i<rs.length):FrOk 200 (at_ vals i):=h.fr _ (List.mem_of_getElem? (de (by rw[h.len];exact hi)))
theorem RunOk.fac(h:RunOk inputs rs vals){k:Nat}{a:List Int}(hk:rs[k]? = some a):0<facW vals k a/\facW vals k a<=2 ^ 400:=by
 have hr:=h.row k a hk
 have hkl:k<rs.length:=(List.getElem?_eq_some_iff.mp hk).1
 have two:(2:Nat) ^ 400=2 ^ 200*2 ^ 200:=by rw[<- Nat.pow_add]
 unfold facW
 by_cases h4:a.headD 0=4
 .rw[if_pos h4]
  rcases hr.ok.shape with ⟨i,rfl,_⟩|⟨n,d,rfl,_⟩|⟨k',i,j,rfl,h1,h2,hi0,hj0⟩|⟨i,rfl,_⟩
  .exact absurd (show(0:Int)=4 from h4) (by decide)
  .exact absurd (show(1:Int)=4 from h4) (by decide)
  .have ep:cp [k',i,j]=[i,j]:=if_neg (by show ¬ (k'=0\/k'=1);omega)
   have hi:=hr.parts i (by rw[ep];simp)
   have hj:=hr.parts j (by rw[ep];simp)
   have v1:=h.val (i:=i.toNat) (by omega)
   have v2:=h.val (i:=j.toNat) (by omega)
   have d1:((at_ vals i.toNat).den:Int).natAbs<2 ^ 200:=v1.den
   have d2:((at_ vals j.toNat).den:Int).natAbs<2 ^ 200:=v2.den
   rw[Int.natAbs_natCast]at d1 d2
   refine⟨Nat.mul_pos v1.pos v2.pos,?_⟩
   rw[two]
   exact Nat.mul_le_mul (Nat.le_of_lt d1) (Nat.le_of_lt d2)
  .exact absurd (show(6:Int)=4 from h4) (by decide)
 .rw[if_neg h4]
  by_cases h5:a.headD 0=5
  .rw[if_pos h5]
   have hz:=h.nz k a hk h5
   rcases hr.ok.shape with ⟨i,rfl,_⟩|⟨n,d,rfl,_⟩|⟨k',i,j,rfl,h1,h2,hi0,hj0⟩|⟨i,rfl,_⟩
   .exact absurd (show(0:Int)=5 from h5) (by decide)
   .exact absurd (show(1:Int)=5 from h5) (by decide)
   .have ep:cp [k',i,j]=[i,j]:=if_neg (by show ¬ (k'=0\/k'=1);omega)
    have hj:=hr.parts j (by rw[ep];simp)
    have v1:=h.val hkl
    have v2:=h.val (i:=j.toNat) (by omega)
    have d1:((at_ vals k).den:Int).natAbs<2 ^ 200:=v1.den
    have d2:(at_ vals j.toNat).num.natAbs<2 ^ 200:=v2.num
    rw[Int.natAbs_natCast]at d1
    have hz:(at_ vals j.toNat).num≠0:=hz
    refine⟨Nat.mul_pos v1.pos (by show 0<(at_ vals j.toNat).num.natAbs;omega),?_⟩
    rw[two]
    exact Nat.mul_le_mul (Nat.le_of_lt d1) (Nat.le_of_lt d2)
   .exact absurd (show(6:Int)=5 from h5) (by decide)
  .rw[if_neg h5]
   exact⟨Nat.one_pos,Nat.one_le_two_pow⟩
theorem RunOk.wup(h:RunOk inputs rs vals):∀ k,k<=rs.length->0<wUp vals rs k/\wUp vals rs k<=2 ^ (400*k)
 | 0,_=>⟨Nat.one_pos,Nat.le_refl _⟩
 | k+1,hk=>by
  obtain⟨h1,h2⟩:=RunOk.wup h k (by omega)
  have e:rs[k]? = some (rs.getD k []):=by
   rw[List.getD_eq_getElem?_getD,List.getElem?_eq_getElem (by omega)]
   rfl
  obtain⟨h3,h4⟩:=h.fac e
  refine⟨Nat.mul_pos h1 h3,?_⟩
  show wUp vals rs k*_<=_
  rw[Nat.mul_succ,Nat.pow_add]
  exact Nat.mul_le_mul h2 h4
theorem Hw(vals:List Frac)(rs:List (List Int))(j:Nat):∀ k,wUp vals rs j ∣ wUp vals rs (j+k)
 | 0=>Nat.dvd_refl _
 | k+1=>Nat.dvd_trans (Hw vals rs j k) (Nat.dvd_mul_right _ _)
theorem RunOk.chg(h:RunOk inputs rs vals){k e:Nat}{a:List Int}{ds:List Frac}(hk:rs[k]? = some a)(hd:∀ f∈dir,Chg 1 1 f)(hdl:dir.length=inputs)(hl:ds.length=k)(hds:∀ f∈ds,Chg (wUp vals rs k) (2 ^ e) f) :
  Chg (wUp vals rs (k+1)) (2 ^ (e+402)) (Fg dir vals ds a):=by
 have hr:=h.row k a hk
 have hkl:k<rs.length:=(List.getElem?_eq_some_iff.mp hk).1
 have ea:rs.getD k []=a:=by rw[List.getD_eq_getElem?_getD,hk];rfl
 have hw:wUp vals rs (k+1)=wUp vals rs k*facW vals k a:=by rw[<- ea];rfl
 have dv:wUp vals rs k ∣ wUp vals rs (k+1):=by rw[hw];exact Nat.dvd_mul_right _ _
 have pe:(2:Nat) ^ e<=2 ^ (e+402):=Nat.pow_le_pow_right (by decide) (by omega)
 have one:∀ f,Chg 1 1 f->Chg (wUp vals rs (k+1)) (2 ^ (e+402)) f:=λf hf=>hf.mono (Nat.one_dvd _) Nat.one_le_two_pow
 have at1:∀ i:Nat,i<k->Chg (wUp vals rs k) (2 ^ e) (at_ ds i):=λi hi=>hds _ (List.mem_of_getElem? (de (by omega)))
 rcases hr.ok.shape with ⟨i,rfl,h1⟩|⟨n,d,rfl,h1⟩|⟨k',i,j,rfl,h1,h2,h3,h4⟩|⟨i,rfl,h1⟩
 .have hi:i<(inputs:Int):=hr.inp rfl
  exact one _ (hd _ (List.mem_of_getElem? (de (vals:=dir) (i:=i.toNat) (by omega))))
 .exact one _ (show Chg 1 1 Vagraa.zero from ⟨⟨Nat.one_pos,rfl⟩,Nat.dvd_refl _,Nat.zero_le _⟩)
 .have ep:cp [k',i,j]=[i,j]:=if_neg (by show ¬ (k'=0\/k'=1);omega)
  have hi:=hr.parts i (by rw[ep];simp)
  have hj:=hr.parts j (by rw[ep];simp)
  have ci:=at1 i.toNat (by omega)
  have cj:=at1 j.toNat (by omega)
  have vi:=(h.val (i:=i.toNat) (by omega)).chg
  have vj0:=h.val (i:=j.toNat) (by omega)
  have vj:=vj0.chg
  have vk:=(h.val hkl).chg
  have hkk:k'=2\/k'=3\/k'=4\/k'=5:=by omega
  rcases hkk with rfl|rfl|rfl|rfl
  .refine(ci.add cj).mono dv ?_
   rw[Nat.pow_add]
   have:=Nat.mul_le_mul_left (2 ^ e) (show 2<=2 ^ 402 from by decide)
   omega
  .refine(ci.sub cj).mono dv ?_
   rw[Nat.pow_add]
   have:=Nat.mul_le_mul_left (2 ^ e) (show 2<=2 ^ 402 from by decide)
   omega
  .have z:=(ci.mul vj).mono (W':=wUp vals rs (k+1)) (B':=2 ^ e*2 ^ 200) (by
    rw[hw]
    refine Nat.mul_dvd_mul_left _ ?_
    show _ ∣ (at_ vals i.toNat).den*(at_ vals j.toNat).den
    exact Nat.dvd_mul_left _ _) (Nat.le_refl _)
   have z2:=(vi.mul cj).mono (W':=wUp vals rs (k+1)) (B':=2 ^ e*2 ^ 200) (by
    rw[hw,Nat.mul_comm]
    refine Nat.mul_dvd_mul_left _ ?_
    show _ ∣ (at_ vals i.toNat).den*(at_ vals j.toNat).den
    exact Nat.dvd_mul_right _ _) (by rw[Nat.mul_comm];exact Nat.le_refl _)
   refine(z.add z2).mono (Nat.dvd_refl _) ?_
   rw[Nat.pow_add,<- Nat.mul_add]
   exact Nat.mul_le_mul_left _ (by decide)
  .have hz:(at_ vals j.toNat).num≠0:=h.nz k _ hk rfl
   have iv:=vj0.inv_chg hz
   have z1:=(vk.mul cj).mono (W':=wUp vals rs k*(at_ vals k).den) (B':=2 ^ e*2 ^ 200) (by rw[Nat.mul_comm];exact Nat.dvd_refl _) (by rw[Nat.mul_comm];exact Nat.le_refl _)
   have z2:=ci.mono (W':=wUp vals rs k*(at_ vals k).den) (B':=2 ^ e*2 ^ 200) (Nat.dvd_mul_right _ _) (Nat.le_mul_of_pos_right _ (by decide))
   have z3:=((z2.sub z1).mul iv).mono (W':=wUp vals rs (k+1)) (B':=2 ^ (e+402)) (by
    rw[hw,Nat.mul_assoc]
    exact Nat.dvd_refl _) (by
    rw[<- Nat.mul_add,Nat.mul_assoc,Nat.pow_add]
    exact Nat.mul_le_mul_left _ (by decide))
   show Chg _ _ (Vagraa.div (Vagraa.sub (at_ ds i.toNat) (Vagraa.mul (at_ vals ds.length) (at_ ds j.toNat))) (at_ vals j.toNat))
   rw[hl]
   exact z3
 .have hi:=hr.parts i (by show i∈[i];simp)
  exact((at1 i.toNat (by omega)).neg).mono dv pe
theorem RunOk.all(h:RunOk inputs rs vals)(hd:∀ f∈dir,Chg 1 1 f)(hdl:dir.length=inputs):∀ k,k<=rs.length->∀ f∈chgs dir vals (rs.take k),Chg (wUp vals rs k) (2 ^ (402*k)) f
 | 0,_=>λf hf=>by
  rw[List.take_zero]at hf
  exact nomatch (show f∈([]:List Frac) from hf)
 | k+1,hk=>by
  have ih:=RunOk.all h hd hdl k (by omega)
  have e:rs[k]? = some (rs.getD k []):=by
   rw[List.getD_eq_getElem?_getD,List.getElem?_eq_getElem (by omega)]
   rfl
  intro f hf
  rw[L2.take_snoc e,Cj]at hf
  rcases List.mem_append.mp hf with z|z
  .exact(ih f z).mono (Hw vals rs k 1) (Nat.pow_le_pow_right (by decide) (by omega))
  .rw[List.mem_singleton.mp z]
   have:=h.chg (e:=402*k) e hd hdl (by rw[rn,List.length_take];omega) ih
   rw[Nat.mul_succ]
   exact this
theorem FrOk.of_run{k e:Nat}(h:RunOk inputs rs vals)(hk:k<=rs.length){f:Frac}(hf:Chg (wUp vals rs k) (2 ^ e) f)(he:e<=40000):FrOk 100000 f:=by
 obtain⟨h1,h2⟩:=h.wup k hk
 have hfew:=h.few
 have h3:(2:Nat) ^ (400*k)<=2 ^ 32000:=Nat.pow_le_pow_right (by decide) (by omega)
 refine FrOk.of_chg hf h1 ?_ ?_
 .calc wUp vals rs k*2 ^ e<=2 ^ 32000*2 ^ 40000:=Nat.mul_le_mul (Nat.le_trans h2 h3) (Nat.pow_le_pow_right (by decide) he)
   _=2 ^ 72000:=by rw[<- Nat.pow_add]
   _<2 ^ 100000:=Nat.pow_lt_pow_right (by decide) (by decide)
 .calc wUp vals rs k<=2 ^ 32000:=Nat.le_trans h2 h3
   _<2 ^ 100000:=Nat.pow_lt_pow_right (by decide) (by decide)
end
end Sp
end
section
namespace Sp
open PySem PySem.Spec PyProof.Rows L2
open VagraLine (at_)
section
variable{P:Program}{w:World}{K:W.Frag}{mg:Str->Option Value}{base:Heap}{T:Addr}
structure ChgIn(K:W.Frag)(H:Hp)(vl vv vc:V)(a:List Int)(vals ds:List Vagraa.Frac)(inputs:Nat):Prop where
 line:rTp K rInt H vl a
 hv:rLs K (rFr K) H vv vals
 hc:rLs K (rFr K) H vc ds
 row:RowIn inputs ds.length a
 lt:ds.length<vals.length
 vok:∀ f∈vals,FrOk 200 f
 dok:∀ f∈ds,FrOk 100000 f
theorem ChgIn.two{H:Hp}{vl vv vc:V}{a:List Int}{vals ds:List Vagraa.Frac}{inputs:Nat}(h:ChgIn K H vl vv vc a vals ds inputs)(h2:2<=a.headD 0)(h5:a.headD 0<=5) :
  ∃ k i j:Int,a=[k,i,j]/\2<=k/\k<=5/\0<=i/\0<=j/\i<(ds.length:Int)/\j<(ds.length:Int):=by
 rcases h.row.ok.shape with ⟨i,rfl,h1⟩|⟨n,d,rfl,h1⟩|⟨k,i,j,rfl,h1,h2,h3,h4⟩|⟨i,rfl,h1⟩
 .exact absurd (show(2:Int)<=0 from h2) (by decide)
 .exact absurd (show(2:Int)<=1 from h2) (by decide)
 .have ep:cp [k,i,j]=[i,j]:=if_neg (by show ¬ (k=0\/k=1);omega)
  have hi:=h.row.parts i (by rw[ep];simp)
  have hj:=h.row.parts j (by rw[ep];simp)
  exact⟨k,i,j,rfl,h1,h2,h3,h4,hi,hj⟩
 .exact absurd (show(6:Int)<=5 from h5) (by decide)
theorem lq{H:Hp}{xs:List V}{l:List Vagraa.Frac}(pr:Paired (rFr K H) xs l){i:Nat}(hi:i<l.length):∃ u,xs[i]? = some u/\rFr K H u (at_ l i):=gp pr (de hi)
def Io(K:W.Frag):Sp:=λvs H Q _=>∃ (vl vv vc:V) (a:List Int) (vals ds:List Vagraa.Frac) (inputs:Nat),vs=[vl,vv,vc]/\ChgIn K H vl vv vc a vals ds inputs/\a.headD 0=4 /\
 ∀ v H',Same H H'->rFr K H' v (Vagraa.add (Vagraa.mul (at_ ds (a.getD 1 0).toNat) (at_ vals (a.getD 2 0).toNat)) (Vagraa.mul (at_ vals (a.getD 1 0).toNat) (at_ ds (a.getD 2 0).toNat)))->Q v H'
theorem Dn:FnScope ["line","values","changes","by_first","by_second"] ["line","values","changes"] (au d_product_change):=by trivial
theorem Rk(F1:Fn P w K mg base CX0 42 "plus" ["first","second"] (g7 K CFr Vagraa.add))(F3:Fn P w K mg base CX0 42 "times" ["first","second"] (g7 K CFr Vagraa.mul))
  (D:Df K mg "product_change" d_product_change ["line","values","changes"]):Fn P w K mg base CX0 43 "product_change" ["line","values","changes"] (Io K):=by
 refine D.ok Dn (λvs H Q E h=>?_) (λf cdv A outer s H vs Q E hr h=>?_)
 .obtain⟨vl,vv,vc,a,vals,ds,inputs,rfl,_⟩:=h
  rfl
 .obtain⟨vl,vv,vc,a,vals,ds,inputs,rfl,hin,h4,q⟩:=h
  obtain⟨k,i,j,rfl,hk1,hk2,hi0,hj0,hi,hj⟩:=hin.two (by rw[h4];decide) (by rw[h4];decide)
  obtain⟨t,rfl,sa⟩:=rTp.ints.mp hin.line
  obtain⟨av,xs,rfl,sv,prv⟩:=hin.hv
  obtain⟨ac,ys,rfl,sc,prc⟩:=hin.hc
  have hlt:=hin.lt
  refine⟨_,af (bg (i:=3) Dn.nd rfl (Or.inl rfl) (bh F3 hr rfl bo (aa (bf bc (pv 2) (bf bq (pv 0) ax (λ_ _=>rfl)) (λ_ _=>rfl)) (aa (bf bc (pv 1) (bf bq (pv 0) ax (λ_ _=>rfl)) (λ_ _=>rfl)) aj))))
   (af (bg (i:=4) Dn.nd rfl (Or.inl rfl) (bh F3 hr rfl bo (aa (bf bc (pv 1) (bf bq (pv 0) ax (λ_ _=>rfl)) (λ_ _=>rfl)) (aa (bf bc (pv 2) (bf bq (pv 0) ax (λ_ _=>rfl)) (λ_ _=>rfl)) aj))))
   (aq (az (bh F1 hr rfl bo (aa (pv 3) (aa (pv 4) aj)))))),?_⟩
  obtain⟨u1,hu1,r1⟩:=lq prc (i:=i.toNat) (by omega)
  obtain⟨u2,hu2,r2⟩:=lq prv (i:=j.toNat) (by omega)
  obtain⟨u3,hu3,r3⟩:=lq prv (i:=i.toNat) (by omega)
  obtain⟨u4,hu4,r4⟩:=lq prc (i:=j.toNat) (by omega)
  have o1:=hin.dok _ (List.mem_of_getElem? (de (vals:=ds) (i:=i.toNat) (by omega)))
  have o2:=hin.vok _ (List.mem_of_getElem? (de (vals:=vals) (i:=j.toNat) (by omega)))
  have o3:=hin.vok _ (List.mem_of_getElem? (de (vals:=vals) (i:=i.toNat) (by omega)))
  have o4:=hin.dok _ (List.mem_of_getElem? (de (vals:=ds) (i:=j.toNat) (by omega)))
  refine⟨_,rfl,_,rfl,t,_,_,V.int i,rfl,rfl,sa,rfl,ac,_,_,_,rfl,rfl,sc,ck (j:=i.toNat) (by omega) hu1,_,rfl,_,rfl,t,_,_,V.int j,rfl,rfl,sa,rfl,av,_,_,_,rfl,rfl,sv,ck (j:=j.toNat) (by omega) hu2,
   u1,u2,_,_,rfl,r1,r2,⟨o1.mono (by decide),o2.mono (by decide)⟩,λv1 H1 s1 w1=>?_⟩
  refine⟨_,rfl,_,rfl,t,_,_,V.int i,rfl,rfl,s1.seqT sa,rfl,av,_,_,_,rfl,rfl,s1.seq sv,ck (j:=i.toNat) (by omega) hu3,_,rfl,_,rfl,t,_,_,V.int j,rfl,rfl,s1.seqT sa,rfl,ac,_,_,_,rfl,rfl,s1.seq sc,ck (j:=j.toNat) (by omega) hu4,
   u3,u4,_,_,rfl,rFr.mono _ _ _ _ s1 r3,rFr.mono _ _ _ _ s1 r4,⟨o3.mono (by decide),o4.mono (by decide)⟩,λv2 H2 s2 w2=>?_⟩
  refine⟨_,rfl,_,rfl,v1,v2,_,_,rfl,rFr.mono _ _ _ _ s2 w1,w2,⟨(o1.mul o2).mono (by decide),(o3.mul o4).mono (by decide)⟩,λv3 H3 s3 w3=>?_⟩
  exact q v3 H3 ((s1.trans s2).trans s3) w3
def Im(K:W.Frag):Sp:=λvs H Q _=>∃ (vl vv vc:V) (a:List Int) (vals ds:List Vagraa.Frac) (inputs:Nat),vs=[vl,vv,vc]/\ChgIn K H vl vv vc a vals ds inputs/\a.headD 0=5/\(at_ vals (a.getD 2 0).toNat).num≠0 /\
 ∀ v H',Same H H'->rFr K H' v (Vagraa.div (Vagraa.sub (at_ ds (a.getD 1 0).toNat) (Vagraa.mul (at_ vals ds.length) (at_ ds (a.getD 2 0).toNat))) (at_ vals (a.getD 2 0).toNat))->Q v H'
theorem Dl:FnScope ["line","values","changes","quotient","left"] ["line","values","changes"] (au d_quotient_change):=by trivial
theorem Rj(B:Blt mg)(F2:Fn P w K mg base CX0 43 "minus" ["first","second"] (g7 K CFr Vagraa.sub))(F3:Fn P w K mg base CX0 42 "times" ["first","second"] (g7 K CFr Vagraa.mul))(F4:Fn P w K mg base CX0 43 "over" ["first","second"] (g7 K CFrD Vagraa.div))
  (D:Df K mg "quotient_change" d_quotient_change ["line","values","changes"]):Fn P w K mg base CX0 44 "quotient_change" ["line","values","changes"] (Im K):=by
 refine D.ok Dl (λvs H Q E h=>?_) (λf cdv A outer s H vs Q E hr h=>?_)
 .obtain⟨vl,vv,vc,a,vals,ds,inputs,rfl,_⟩:=h
  rfl
 .obtain⟨vl,vv,vc,a,vals,ds,inputs,rfl,hin,h4,hz,q⟩:=h
  obtain⟨k,i,j,rfl,hk1,hk2,hi0,hj0,hi,hj⟩:=hin.two (by rw[h4];decide) (by rw[h4];decide)
  obtain⟨t,rfl,sa⟩:=rTp.ints.mp hin.line
  obtain⟨av,xs,rfl,sv,prv⟩:=hin.hv
  obtain⟨ac,ys,rfl,sc,prc⟩:=hin.hc
  have hlt:=hin.lt
  have hyl:=eg prc
  refine⟨_,af (bg (i:=3) Dl.nd rfl (Or.inl rfl) (bf bc (pv 1) (bj be rfl B.len PySem.boot_len (aa (pv 2) aj)) (λ_ _=>rfl)))
   (af (bg (i:=4) Dl.nd rfl (Or.inl rfl) (bh F2 hr rfl bo (aa (bf bc (pv 2) (bf bq (pv 0) ax (λ_ _=>rfl)) (λ_ _=>rfl)) (aa (bh F3 (hr.mono (by decide)) rfl bo (aa (pv 3) (aa (bf bc (pv 2) (bf bq (pv 0) ax (λ_ _=>rfl)) (λ_ _=>rfl)) aj))) aj))))
   (aq (az (bh F4 hr rfl bo (aa (pv 4) (aa (bf bc (pv 1) (bf bq (pv 0) ax (λ_ _=>rfl)) (λ_ _=>rfl)) aj)))))),?_⟩
  obtain⟨u0,hu0,r0⟩:=lq prv hlt
  obtain⟨u1,hu1,r1⟩:=lq prc (i:=i.toNat) (by omega)
  obtain⟨u2,hu2,r2⟩:=lq prv (i:=j.toNat) (by omega)
  obtain⟨u4,hu4,r4⟩:=lq prc (i:=j.toNat) (by omega)
  have o0:=hin.vok _ (List.mem_of_getElem? (de hlt))
  have o1:=hin.dok _ (List.mem_of_getElem? (de (vals:=ds) (i:=i.toNat) (by omega)))
  have o2:=hin.vok _ (List.mem_of_getElem? (de (vals:=vals) (i:=j.toNat) (by omega)))
  have o4:=hin.dok _ (List.mem_of_getElem? (de (vals:=ds) (i:=j.toNat) (by omega)))
  refine⟨_,rfl,_,rfl,ac,_,rfl,.inl sc,av,_,_,_,rfl,rfl,sv,ck (j:=ds.length) (by rw[hyl]) hu0,?_⟩
  refine⟨_,rfl,_,rfl,t,_,_,V.int i,rfl,rfl,sa,rfl,ac,_,_,_,rfl,rfl,sc,ck (j:=i.toNat) (by omega) hu1,_,rfl,_,rfl,_,rfl,t,_,_,V.int j,rfl,rfl,sa,rfl,ac,_,_,_,rfl,rfl,sc,ck (j:=j.toNat) (by omega) hu4,
   u0,u4,_,_,rfl,r0,r4,⟨o0.mono (by decide),o4.mono (by decide)⟩,λv1 H1 s1 w1=>?_⟩
  have o5:=o0.mul o4
  refine⟨u1,v1,_,_,rfl,rFr.mono _ _ _ _ s1 r1,w1,⟨o1.mono (by decide),o5.mono (by decide)⟩,λv2 H2 s2 w2=>?_⟩
  have s12:=s1.trans s2
  refine⟨_,rfl,_,rfl,_,rfl,t,_,_,V.int j,rfl,rfl,s12.seqT sa,rfl,av,_,_,_,rfl,rfl,s12.seq sv,ck (j:=j.toNat) (by omega) hu2,v2,u2,_,_,rfl,w2,rFr.mono _ _ _ _ s12 r2,⟨(o1.add o5.neg).mono (by decide),o2.mono (by decide),hz⟩,λv3 H3 s3 w3=>?_⟩
  exact q v3 H3 (s12.trans s3) w3
def zi(K:W.Frag):Sp:=λvs H Q _=>∃ (vl vv vc vd:V) (a:List Int) (vals ds dir:List Vagraa.Frac) (inputs:Nat),vs=[vl,vv,vc,vd]/\ChgIn K H vl vv vc a vals ds inputs/\rLs K (rFr K) H vd dir/\dir.length=inputs/\(a.headD 0=5->(at_ vals (a.getD 2 0).toNat).num≠0) /\
 ∀ v H',Same H H'->rFr K H' v (Fg dir vals ds a)->Q v H'
theorem Ba:FnScope ["line","values","changes","direction","kind"] ["line","values","changes","direction"] (au d_line_change):=by trivial
def Gf(K:W.Frag)(mg:Str->Option Value)(x:Str)(f:Vagraa.Frac):Prop:=∃ p,mg x=some (.ref p)/\∀ H,SqT K H p (frV f)
theorem Kc(C:Kinds mg)(hN:Gf K mg "NOUGHT" Vagraa.zero)(F1:Fn P w K mg base CX0 42 "plus" ["first","second"] (g7 K CFr Vagraa.add))(F2:Fn P w K mg base CX0 43 "minus" ["first","second"] (g7 K CFr Vagraa.sub))(F5:Fn P w K mg base CX0 1 "opposite" ["fraction"] (Ip K))
  (F6:Fn P w K mg base CX0 43 "product_change" ["line","values","changes"] (Io K)) (F7:Fn P w K mg base CX0 44 "quotient_change" ["line","values","changes"] (Im K))
  (D:Df K mg "line_change" d_line_change ["line","values","changes","direction"]):Fn P w K mg base CX0 45 "line_change" ["line","values","changes","direction"] (zi K):=by
 refine D.ok Ba (λvs H Q E h=>?_) (λf cdv A outer s H vs Q E hr h=>?_)
 .obtain⟨vl,vv,vc,vd,a,vals,ds,dir,inputs,rfl,_⟩:=h
  rfl
 .obtain⟨vl,vv,vc,vd,a,vals,ds,dir,inputs,rfl,hin,hdir,hdl,hz,q⟩:=h
  obtain⟨pN,hmN,sN⟩:=hN
  obtain⟨t,rfl,sa⟩:=rTp.ints.mp hin.line
  obtain⟨ac,ys,rfl,sc,prc⟩:=id hin.hc
  obtain⟨ad,zs,rfl,sd,prd⟩:=hdir
  refine⟨_,af (bg (i:=4) Ba.nd rfl (Or.inl rfl) (bf bq (pv 0) ax (λ_ _=>rfl)))
   (af (cw (bp fe (pv 4) (br C.input rfl) (bv _)) (aq (az (bf bc (pv 3) (bf bq (pv 0) ax (λ_ _=>rfl)) (λ_ _=>rfl)))) bu)
   (af (cw (bp fe (pv 4) (br C.constant rfl) (bv _)) (aq (az (i8 (v:=.ref pN) rfl hmN rfl))) bu)
   (af (cw (bp fe (pv 4) (br C.opposite rfl) (bv _)) (aq (az (bh F5 (hr.mono (by decide)) rfl bo (aa (bf bc (pv 2) (bf bq (pv 0) ax (λ_ _=>rfl)) (λ_ _=>rfl)) aj)))) bu)
   (af (cw (bp fe (pv 4) (br C.sum rfl) (bv _)) (aq (az (bh F1 (hr.mono (by decide)) rfl bo (aa (bf bc (pv 2) (bf bq (pv 0) ax (λ_ _=>rfl)) (λ_ _=>rfl)) (aa (bf bc (pv 2) (bf bq (pv 0) ax (λ_ _=>rfl)) (λ_ _=>rfl)) aj))))) bu)
   (af (cw (bp fe (pv 4) (br C.difference rfl) (bv _)) (aq (az (bh F2 (hr.mono (by decide)) rfl bo (aa (bf bc (pv 2) (bf bq (pv 0) ax (λ_ _=>rfl)) (λ_ _=>rfl)) (aa (bf bc (pv 2) (bf bq (pv 0) ax (λ_ _=>rfl)) (λ_ _=>rfl)) aj))))) bu)
   (af (cw (bp fe (pv 4) (br C.product rfl) (bv _)) (aq (az (bh F6 (hr.mono (by decide)) rfl bo (aa (pv 0) (aa (pv 1) (aa (pv 2) aj)))))) bu)
   (aq (az (bh F7 (hr.mono (by decide)) rfl bo (aa (pv 0) (aa (pv 1) (aa (pv 2) aj)))))))))))),?_⟩
  rcases hin.row.ok.shape with ⟨i,rfl,h1⟩|⟨n,d,rfl,h1⟩|⟨k,i,j,rfl,h1,h2,h3,h4⟩|⟨i,rfl,h1⟩
  .have hi:i<(inputs:Int):=hin.row.inp rfl
   obtain⟨u,hu,ru⟩:=lq prd (i:=i.toNat) (by omega)
   refine⟨_,rfl,t,_,_,_,rfl,rfl,sa,rfl,_,rfl,rfl,_,rfl,?_⟩
   refine iteT ⟨_,rfl,_,rfl,t,_,_,V.int i,rfl,rfl,sa,rfl,ad,_,_,_,rfl,rfl,sd,ck (j:=i.toNat) (by omega) hu,q _ _ (.refl H) ru⟩
  .refine⟨_,rfl,t,_,_,_,rfl,rfl,sa,rfl,_,rfl,rfl,_,rfl,iteF ⟨_,rfl,rfl,_,rfl,iteT ?_⟩⟩
   exact q _ _ (.refl H) ⟨pN,rfl,sN H⟩
  .have e0:∀ m:Int,¬ k=m->decide (V.int k=V.int m)=false:=λm hm=>by
    rw[f9]
    exact decide_eq_false hm
   have e1:∀ m:Int,k=m->decide (V.int k=V.int m)=true:=λm hm=>by
    rw[f9]
    exact decide_eq_true hm
   obtain⟨_,i',j',e,_,_,hi0,hj0,hi,hj⟩:=hin.two (show 2<=k from h1) (show k<=5 from h2)
   cases e
   obtain⟨u1,hu1,r1⟩:=lq prc (i:=i.toNat) (by omega)
   obtain⟨u2,hu2,r2⟩:=lq prc (i:=j.toNat) (by omega)
   have o1:=hin.dok _ (List.mem_of_getElem? (de (vals:=ds) (i:=i.toNat) (by omega)))
   have o2:=hin.dok _ (List.mem_of_getElem? (de (vals:=ds) (i:=j.toNat) (by omega)))
   refine⟨_,rfl,t,_,_,V.int k,rfl,rfl,sa,rfl,_,rfl,rfl,_,rfl,?_⟩
   rw[e0 0 (by omega)]
   refine iteF ⟨_,rfl,rfl,_,rfl,?_⟩
   rw[e0 1 (by omega)]
   refine iteF ⟨_,rfl,rfl,_,rfl,?_⟩
   rw[e0 6 (by omega)]
   refine iteF ⟨_,rfl,rfl,_,rfl,?_⟩
   have hkk:k=2\/k=3\/k=4\/k=5:=by omega
   rcases hkk with rfl|rfl|rfl|rfl
   .refine iteT ⟨_,rfl,_,rfl,t,_,_,V.int i,rfl,rfl,sa,rfl,ac,_,_,_,rfl,rfl,sc,ck (j:=i.toNat) (by omega) hu1,_,rfl,_,rfl,t,_,_,V.int j,rfl,rfl,sa,rfl,ac,_,_,_,rfl,rfl,sc,ck (j:=j.toNat) (by omega) hu2,
     u1,u2,_,_,rfl,r1,r2,⟨o1.mono (by decide),o2.mono (by decide)⟩,λv1 H1 s1 w1=>q v1 H1 s1 w1⟩
   .refine iteF ⟨_,rfl,rfl,_,rfl,iteT ⟨_,rfl,_,rfl,t,_,_,V.int i,rfl,rfl,sa,rfl,ac,_,_,_,rfl,rfl,sc,ck (j:=i.toNat) (by omega) hu1,_,rfl,_,rfl,t,_,_,V.int j,rfl,rfl,sa,rfl,ac,_,_,_,rfl,rfl,sc,ck (j:=j.toNat) (by omega) hu2,
     u1,u2,_,_,rfl,r1,r2,⟨o1.mono (by decide),o2.mono (by decide)⟩,λv1 H1 s1 w1=>q v1 H1 s1 w1⟩⟩
   .refine iteF ⟨_,rfl,rfl,_,rfl,iteF ⟨_,rfl,rfl,_,rfl,iteT ⟨_,rfl,_,rfl,_,rfl,_,_,_,_,vals,ds,inputs,rfl,hin,rfl,λv1 H1 s1 w1=>q v1 H1 s1 w1⟩⟩⟩
   .refine iteF ⟨_,rfl,rfl,_,rfl,iteF ⟨_,rfl,rfl,_,rfl,iteF ⟨_,rfl,_,rfl,_,rfl,_,_,_,_,vals,ds,inputs,rfl,hin,rfl,hz rfl,λv1 H1 s1 w1=>q v1 H1 s1 w1⟩⟩⟩
  .have hi:=hin.row.parts i (by show i∈[i];simp)
   obtain⟨u,hu,ru⟩:=lq prc (i:=i.toNat) (by omega)
   refine⟨_,rfl,t,_,_,_,rfl,rfl,sa,rfl,_,rfl,rfl,_,rfl,iteF ⟨_,rfl,rfl,_,rfl,iteF ⟨_,rfl,rfl,_,rfl,iteT ?_⟩⟩⟩
   exact⟨_,rfl,_,rfl,t,_,_,V.int i,rfl,rfl,sa,rfl,ac,_,_,_,rfl,rfl,sc,ck (j:=i.toNat) (by omega) hu,u,_,rfl,ru,λp hp=>q _ _ (.new hp) rFr.new⟩
def ss(K:W.Frag):Sp:=λvs H Q _=>∃ (vl vv vd:V) (rs:List (List Int)) (vals dir:List Vagraa.Frac) (inputs:Nat),vs=[vl,vv,vd]/\rLs K (rTp K rInt) H vl rs/\rLs K (rFr K) H vv vals/\rLs K (rFr K) H vd dir/\RunOk inputs rs vals/\dir.length=inputs/\(∀ f∈dir,Chg 1 1 f) /\
 ∀ p H',H p=none->Same H H'->rLt (rFr K) H' (.ref p) (chgs dir vals rs)->Q (.ref p) H'
theorem oa:FnScope ["lines","values","direction","changes","line"] ["lines","values","direction"] (au d_line_changes):=by trivial
theorem G4(F:Fn P w K mg base CX0 45 "line_change" ["line","values","changes","direction"] (zi K))(D:Df K mg "line_changes" d_line_changes ["lines","values","direction"]):Fn P w K mg base CX0 46 "line_changes" ["lines","values","direction"] (ss K):=by
 refine D.ok oa (λvs H Q E h=>?_) (λf cdv A outer s H vs Q E hr h=>?_)
 .obtain⟨vl,vv,vd,rs,vals,dir,inputs,rfl,_⟩:=h
  rfl
 .obtain⟨vl,vv,vd,rs,vals,dir,inputs,rfl,⟨al,xs,rfl,sl,pr⟩,hv,hd,hR,hdl,hd1,q⟩:=h
  refine⟨_,af (bg (i:=3) oa.nd rfl (Or.inl rfl) (cu aj))
   (af (fj PassesOwn.never rfl (cy (pv 0)) (bi (i:=4) oa.nd rfl (Or.inl rfl))
    (aq (cf (ju PySem.F.plainAttrs_list PySem.F.slot_list_append PySem.F.type_list_append d8 (pv 3) (aa (bh F hr rfl bo (aa (pv 4) (aa (pv 1) (aa (pv 3) (aa (pv 2) aj))))) aj)))))
   (aq (az (pv 3)))),?_⟩
  refine⟨Nat.zero_le _,λp hp0=>?_⟩
  have hl:=eg pr
  have hfew:=hR.few
  refine⟨_,rfl,al,rfl,⟨_,(Same.new hp0).seq sl⟩,ft (K:=K) (a:=al) (xs:=xs) (λi Z H'=>∃ v4 zs,Z=[some (.ref al),some vv,some vd,some (.ref p),v4]/\Same H H'/\H' p=some (.lst zs)/\Paired (rFr K H') zs (chgs dir vals (rs.take i)))
   ⟨none,[],rfl,.new hp0,ak,.nil⟩ (λi Z H' _ ⟨_,_,_,s1,_⟩=>s1.seq sl) ?_ ?_⟩
  .rintro i x Z H' hx ⟨v4,zs,rfl,s1,hp',prz⟩
   obtain⟨b,hb,rb⟩:=eh pr hx
   have hi:i<rs.length:=(List.getElem?_eq_some_iff.mp hb).1
   have hcl:(chgs dir vals (rs.take i)).length=i:=by rw[rn,List.length_take];omega
   have all:=hR.all hd1 hdl i (by omega)
   have hzl:=eg prz
   have hin:ChgIn K H' x vv (.ref p) b vals (chgs dir vals (rs.take i)) inputs:=⟨rTp.mono rInt.mono _ _ _ _ s1 rb,rLs.mono rFr.mono _ _ _ _ s1 hv,⟨p,zs,rfl,SqL.of hp',prz⟩,(by rw[hcl];exact hR.row i b hb),(by rw[hcl,hR.len];exact hi),hR.fr,
    λg hg=>FrOk.of_run hR (by omega) (all g hg) (by omega)⟩
   refine⟨_,rfl,.inl ⟨rfl,_,SqL.of hp'⟩,_,rfl,_,rfl,_,rfl,_,rfl,x,vv,.ref p,vd,b,vals,_,dir,inputs,rfl,hin,rLs.mono rFr.mono _ _ _ _ s1 hd,hdl,λh5=>hR.nz i b hb h5,λv H2 s2 rv=>?_⟩
   have hp2:=s2 _ _ hp'
   refine⟨p,_,_,rfl,rfl,hp2,(by rw[hzl,hcl,sizeLine_eq];omega),?_⟩
   refine⟨_,zs++[v],rfl,.set hp0 (s1.trans s2),ak,?_⟩
   rw[take_snoc hb,Cj]
   exact gg (pz rFr.avT hp' (Sb.trans s2.sb Sb.upd) prz) (rFr.avT _ _ _ _ _ _ hp2 Sb.upd rv)
  .rintro Z H' ⟨v4,zs,rfl,s1,hp',prz⟩
   rw[hl,List.take_of_length_le (Nat.le_refl _)]at prz
   exact⟨_,rfl,q p H' hp0 s1 ⟨p,zs,rfl,hp',prz⟩⟩
end
end Sp
end
section
namespace L2
open PySem PySem.Spec PyProof.Rows
def Au{β:Type}(R:Rp β)(g:TG)(tt:TT)(te:TE)(vs:List Nat)(Z:St)(H:Hp)(r:Option β)(x:V)(H':Hp):Prop:=
 ∀ (k:V->Hp->Prop) (k0:Hp->Prop),(∀ y H4 z,r=some z->Same H H4->R H4 y z->k y H4)->(∀ H3,r=none->Same H H3->k0 H3) ->
  g x (wipe Z vs) H' λZ2 H2=>wipe Z2 vs=wipe Z vs/\tt Z2 H2 λb H3=>if b=true then te Z2 H3 k else k0 H3
theorem Ea{β:Type}{R:Rp β}{J:It}{n:Nat}{g:TG}{tt:TT}{te:TE}{vs:List Nat}{Z:St}{H1:Hp}{D:Addr}{Q:VK}(av:R.AvT)(F:Nat->Option β)(hD:H1 D=none)(hn:n<=sizeLine)
  (hJ:∀ i H,i<=n->Same H1 H->(i=n/\J.stop i H)\/(i<n/\J.go i H))
  (hs:∀ i x H H' acc,i<n->Same H1 H->H D=some (.lst acc)->J.yld i H x H'->Au R g tt te vs Z H (F i) x H')
  (hd:∀ H ys,Same H1 H->H D=some (.lst ys)->Paired (R H) ys ((List.range n).filterMap F)->Q (.ref D) H):LcW J g tt te vs Z H1 D Q:=by
 have sn:∀ i,(List.range (i+1)).filterMap F=(List.range i).filterMap F++(F i).toList:=λi=>by
  rw[List.range_succ,List.filterMap_append]
  cases e:F i <;> simp[List.filterMap,e]
 refine⟨λi m H=>m=n - i/\i<=n/\Same H1 H/\∃ ys,H D=some (.lst ys)/\ys.length<=i/\Paired (R H) ys ((List.range i).filterMap F),⟨n,rfl,Nat.zero_le _,.new hD,[],ak,Nat.le_refl _,.nil⟩,?_⟩
 rintro i m H ⟨rfl,hi,s,ys,hy,hl,pr⟩
 rcases hJ i H hi s with ⟨rfl,st⟩|⟨hlt,go⟩
 .exact .inl ⟨st,hd H ys s hy pr⟩
 .refine .inr ⟨go,_,λH' z=>⟨n - (i+1),by omega,rfl,hlt,z⟩,λx H' y=>?_⟩
  refine hs i x H H' ys hlt s hy y _ _ (λv H4 z e s4 r=>?_) (λH3 e s3=>?_)
  .refine⟨ys,s4 _ _ hy,by omega,.set hD (s.trans s4),ys++[v],ak,by rw[List.length_append];show ys.length+1<=_;omega,?_⟩
   rw[sn,e]
   exact gg (pz av hy (Sb.trans s4.sb Sb.upd) pr) (av D ys _ _ _ _ (s4 _ _ hy) Sb.upd r)
  .refine⟨s.trans s3,ys,s3 _ _ hy,by omega,?_⟩
   rw[sn,e]
   show Paired _ ys (_++[])
   rw[List.append_nil]
   exact pz av hy s3.sb pr
section
variable{β:Type}{R:Rp β}{K:W.Frag}{n:Nat}{g:TG}{tt:TT}{te:TE}{vs:List Nat}{Z:St}{H1:Hp}{D:Addr}{Q:VK}{a b:Addr}{xs ys0:List V}
theorem lcRT(av:R.AvT)(F:Nat->Option β)(hD:H1 D=none)(hn:n<=sizeLine){lo:Int}(hs:∀ i H acc,i<n->Same H1 H->H D=some (.lst acc)->Au R g tt te vs Z H (F i) (.int (lo+i)) H)
  (hd:∀ H ys,Same H1 H->H D=some (.lst ys)->Paired (R H) ys ((List.range n).filterMap F)->Q (.ref D) H):LcW (Itr lo n) g tt te vs Z H1 D Q:=by
 refine Ea av F hD hn (λi H hi s=>?_) (λi x H H' acc hi s hy y=>?_) hd
 .by_cases h:i<n
  .exact .inr ⟨h,h⟩
  .exact .inl ⟨by omega,show n<=i by omega⟩
 .obtain⟨e1,e2⟩:=y
  subst e1 e2
  exact hs i _ acc hi s hy
theorem lcLT(av:R.AvT)(F:Nat->Option β)(hD:H1 D=none)(hl:SqL K H1 a xs)(hn:xs.length<=sizeLine)(hs:∀ i x H acc,xs[i]? = some x->Same H1 H->H D=some (.lst acc)->Au R g tt te vs Z H (F i) x H)
  (hd:∀ H ys,Same H1 H->H D=some (.lst ys)->Paired (R H) ys ((List.range xs.length).filterMap F)->Q (.ref D) H):LcW (Itl K a) g tt te vs Z H1 D Q:=by
 refine Ea av F hD hn (λi H hi s=>?_) (λi x H H' acc hi s hy y=>?_) hd
 .by_cases h:i<xs.length
  .exact .inr ⟨h,xs,xs[i],s.seq hl,by simp[h]⟩
  .exact .inl ⟨by omega,xs,s.seq hl,by omega⟩
 .obtain⟨e1,e2⟩:=y
  subst e1
  exact hs i x _ acc (e2 xs (s.seq hl)) s hy
theorem lcZT(av:R.AvT)(F:Nat->Option β)(hD:H1 D=none)(hl:SqL K H1 a xs)(hl2:SqL K H1 b ys0)(hlen:ys0.length=xs.length)(hn:xs.length<=sizeLine)
  (hs:∀ i x y H T acc,xs[i]? = some x->ys0[i]? = some y->Same H1 H->H D=some (.lst acc)->H T=none->Au R g tt te vs Z H (F i) (.ref T) (upd H T (.tup [x,y])))
  (hd:∀ H ys,Same H1 H->H D=some (.lst ys)->Paired (R H) ys ((List.range xs.length).filterMap F)->Q (.ref D) H):LcW (Itz K a b) g tt te vs Z H1 D Q:=by
 refine Ea av F hD hn (λi H hi s=>?_) (λi x H H' acc hi s hy y=>?_) hd
 .by_cases h:i<xs.length
  .have h2:i<ys0.length:=by omega
   exact .inr ⟨h,xs,ys0,xs[i],ys0[i],s.seq hl,s.seq hl2,by simp[h],by simp[h2]⟩
  .exact .inl ⟨by omega,xs,ys0,s.seq hl,s.seq hl2,.inl (by omega)⟩
 .obtain⟨T,z,z2,e1,e2,e3,e4,e5⟩:=y
  subst e1 e3
  exact hs i z z2 _ T acc (e4 xs (s.seq hl)) (e5 ys0 (s.seq hl2)) s hy e2
end
end L2
end
section
namespace Sp
open PySem PySem.Spec PyProof.Rows L2
def fq(i l o p:V):List (Str×V):=[("inputs",i),("lines",l),("outs",o),("point",p)]
theorem qg(i l o p:V):(fq i l o p).lookup ("inputs":Str)=some i:=by kernel_rfl
theorem ul(i l o p:V):(fq i l o p).lookup ("lines":Str)=some l:=by kernel_rfl
theorem Hd(i l o p:V):(fq i l o p).lookup ("outs":Str)=some o:=by kernel_rfl
theorem Eg(i l o p:V):(fq i l o p).lookup ("point":Str)=some p:=by kernel_rfl
theorem uk(i l o p:V):(fq i l o p).lookup ("pattern":Str)=none:=by kernel_rfl
theorem fo(i l o p:V):(fq i l o p).lookup ("columns_met":Str)=none:=by kernel_rfl
theorem K2(i l o p:V):(fq i l o p).lookup ("take_program":Str)=none:=by kernel_rfl
theorem K1(i l o p:V):(fq i l o p).lookup ("take_point":Str)=none:=by kernel_rfl
theorem jz(i l o p v:V):putF "inputs" v (fq i l o p)=fq v l o p/\putF "lines" v (fq i l o p)=fq i v o p/\putF "outs" v (fq i l o p)=fq i l v p/\putF "point" v (fq i l o p)=fq i l o v:=⟨by kernel_rfl,by kernel_rfl,by kernel_rfl,by kernel_rfl⟩
theorem K3(i l o p:V):putF "point" p (putF "outs" o (putF "lines" l (putF "inputs" i [])))=fq i l o p:=by kernel_rfl
structure HCls(K:W.Frag)(C:Addr):Prop where
 cl:Cls K C
 i:fz K C "inputs"
 l:fz K C "lines"
 o:fz K C "outs"
 p:fz K C "point"
def fc(K:W.Frag)(C:Addr)(H:Hp)(v:V)(n:Nat)(rs:List (List Int))(outs:List Nat)(vp:V):Prop:=
 ∃ a dx vl vo,v=.ref a/\H a=some (.ins C dx (fq (.int (n:Nat)) vl vo vp))/\rLs K (rTp K rInt) H vl rs/\rLs K rNat H vo outs
theorem fc.mono{K:W.Frag}{C:Addr}{H H':Hp}{v vp:V}{n:Nat}{rs:List (List Int)}{outs:List Nat}(s:Same H H')(h:fc K C H v n rs outs vp):fc K C H' v n rs outs vp:=by
 obtain⟨a,dx,vl,vo,e,h1,h2,h3⟩:=h
 exact⟨a,dx,vl,vo,e,s _ _ h1,rLs.mono (rTp.mono rInt.mono) _ _ _ _ s h2,rLs.mono rNat.mono _ _ _ _ s h3⟩
theorem fc.mt{K:W.Frag}{C T:Addr}{H H':Hp}{v vp:V}{n:Nat}{rs:List (List Int)}{outs:List Nat}{ps:Array Value}(hT:H T=some (.tbl ps))(s:Sb T H H')(h:fc K C H v n rs outs vp):fc K C H' v n rs outs vp:=by
 obtain⟨a,dx,vl,vo,e,h1,h2,h3⟩:=h
 exact⟨a,dx,vl,vo,e,s _ _ h1 (d7 h1 hT (by intro z;cases z)),rLs.mt (rTp.mt rInt.mt) _ _ _ _ _ _ hT s h2,rLs.mt rNat.mt _ _ _ _ _ _ hT s h3⟩
theorem ld{X:Cx}{K:W.Frag}{e:Expr}{f:Str}{pos:Pos}{ta:TE}(hK:X.K=K)(he:PE X e ta)(hb:attributeBase e f X.env (eval e X.env)=eval e X.env):PE X (.Attribute e f pos) (tFld K ta f):=by
 subst hK
 exact fb he hb
theorem fc.fld{K:W.Frag}{C:Addr}{H:Hp}{v vp:V}{n:Nat}{rs:List (List Int)}{outs:List Nat}(hC:HCls K C)(h:fc K C H v n rs outs vp) :
  (∃ (a C dx:Addr) (fs:List (Str×V)) (u:V),v=.ref a/\H a=some (.ins C dx fs)/\Cls K C/\fz K C "inputs"/\fs.lookup ("inputs":Str)=some u/\u=.int (n:Nat)) /\
  (∃ (a C dx:Addr) (fs:List (Str×V)) (u:V),v=.ref a/\H a=some (.ins C dx fs)/\Cls K C/\fz K C "lines"/\fs.lookup ("lines":Str)=some u/\rLs K (rTp K rInt) H u rs) /\
  (∃ (a C dx:Addr) (fs:List (Str×V)) (u:V),v=.ref a/\H a=some (.ins C dx fs)/\Cls K C/\fz K C "outs"/\fs.lookup ("outs":Str)=some u/\rLs K rNat H u outs) /\
  (∃ (a C dx:Addr) (fs:List (Str×V)) (u:V),v=.ref a/\H a=some (.ins C dx fs)/\Cls K C/\fz K C "point"/\fs.lookup ("point":Str)=some u/\u=vp):=by
 obtain⟨a,dx,vl,vo,e,h1,h2,h3⟩:=h
 exact⟨⟨a,C,dx,_,_,e,h1,hC.cl,hC.i,qg _ _ _ _,rfl⟩,⟨a,C,dx,_,_,e,h1,hC.cl,hC.l,ul _ _ _ _,h2⟩,⟨a,C,dx,_,_,e,h1,hC.cl,hC.o,Hd _ _ _ _,h3⟩,⟨a,C,dx,_,_,e,h1,hC.cl,hC.p,Eg _ _ _ _,rfl⟩⟩
theorem rLs.toInt{K:W.Frag}{H:Hp}{v:V}{l:List Nat}(h:rLs K rNat H v l):rLs K rInt H v (l.map λn:Nat=>(n:Int)):=by
 obtain⟨a,e,q⟩:=rLs.nats.mp h
 refine rLs.ints.mpr ⟨a,e,?_⟩
 rw[List.map_map]
 exact q
theorem rLs.toNat{K:W.Frag}{H:Hp}{v:V}{l:List Int}(h:rLs K rInt H v l)(h0:∀ c∈l,0<=c):rLs K rNat H v (l.map Int.toNat):=by
 obtain⟨a,e,q⟩:=rLs.ints.mp h
 refine rLs.nats.mpr ⟨a,e,?_⟩
 rw[List.map_map]
 have:(l.map ((λn:Nat=>V.int (n:Int))∘Int.toNat))=l.map V.int:=List.map_congr_left λc hc=>by
  show V.int ((c.toNat:Nat):Int)=V.int c
  rw[Int.toNat_of_nonneg (h0 c hc)]
 rw[this]
 exact q
section
variable{P:Program}{w:World}{K:W.Frag}{mg:Str->Option Value}{base:Heap}{T:Addr}
theorem E6(cs:List Nat)(k:Nat):(Vagrak.seed cs k).length=cs.length:=by
 unfold Vagrak.seed
 rw[List.length_map]
theorem E7(cs:List Nat)(k:Nat):∀ f∈Vagrak.seed cs k,Chg 1 1 f:=by
 intro f hf
 obtain⟨c,_,rfl⟩:=List.mem_map.mp hf
 split
 .exact⟨⟨Nat.one_pos,rfl⟩,Nat.dvd_refl _,Nat.le_refl _⟩
 .exact⟨⟨Nat.one_pos,rfl⟩,Nat.dvd_refl _,Nat.zero_le _⟩
def Qj(K:W.Frag):Sp:=λvs H Q _=>∃ vc cs k,vs=[vc,.int (k:Nat)]/\rLs K rNat H vc cs/\cs.length<=1000/\∀ p H',H p=none->Same H H'->rLt (rFr K) H' (.ref p) (Vagrak.seed cs k)->Q (.ref p) H'
theorem Jh:FnScope ["colours","moved","colour"] ["colours","moved"] (au d_colour_direction):=by trivial
theorem T6(hN:Gf K mg "NOUGHT" Vagraa.zero)(hO:Gf K mg "ONE" Vagraa.one)(D:Df K mg "colour_direction" d_colour_direction ["colours","moved"]):Fn P w K mg base CX0 1 "colour_direction" ["colours","moved"] (Qj K):=by
 refine D.ok Jh (λvs H Q E h=>?_) (λf cdv A outer s H vs Q E hr h=>?_)
 .obtain⟨vc,cs,k,rfl,_⟩:=h
  rfl
 .obtain⟨vc,cs,k,rfl,hc,hlen,q⟩:=h
  obtain⟨pN,hmN,sN⟩:=hN
  obtain⟨pO,hmO,sO⟩:=hO
  obtain⟨ac,rfl,sc⟩:=rLs.nats.mp hc
  refine⟨_,aq (az (gv (own:=[("colour",2)]) rfl Jh.nd (cy (pv 0)) (b8 (by kernel_rfl)) (λ_ _ _ _ _=>bi (i:=2) Jh.nd rfl (Or.inl rfl)) (λ_ _ _ _ _=>c8)
   (λ_ _ _ _ _=>z7 (bp fe (pv 2) (pv 1) (bv _)) (i8 (v:=.ref pO) rfl hmO rfl) (i8 (v:=.ref pN) rfl hmN rfl)))),?_⟩
  dsimp only [tRet]
  refine c9 ?_
  refine⟨_,rfl,ac,rfl,⟨_,sc⟩,λD2 hD2=>lcLT (R:=rFr K) (K:=K) rFr.avT (λj=>(cs[j]?).map λc=>if c=k then Vagraa.one else Vagraa.zero) hD2 sc (by rw[List.length_map,sizeLine_eq];omega)
   (λj y H8 acc hy8 s8 hacc kf k0 kk kn=>?_) λH8 zs s8 hz p8=>?_⟩
  .obtain⟨c,hc8,rfl⟩:=fm hy8
   rw[hc8]at kk
   refine⟨rfl,?_⟩
   dsimp only [tYes]
   rw[if_pos rfl]
   refine⟨_,rfl,_,rfl,rfl,_,rfl,ite2 (λh=>?_) λh=>?_⟩
   .have h:c=k:=by
     have h1:(c:Int)=(k:Int):=by simpa using h
     omega
    exact kk _ _ _ (by rw[Option.map_some,if_pos h]) (.refl _) ⟨pO,rfl,sO _⟩
   .have h:¬ c=k:=by
     have h1:¬ (c:Int)=(k:Int):=by simpa using h
     omega
    exact kk _ _ _ (by rw[Option.map_some,if_neg h]) (.refl _) ⟨pN,rfl,sN _⟩
  .rw[List.length_map,dw]at p8
   exact q D2 H8 hD2 s8 ⟨D2,zs,rfl,hz,p8⟩
end
end Sp
end
section
namespace Sp
open PySem PySem.Spec PyProof.Rows L2
open VagraLine (at_)
open Vagraa (Frac)
section
variable{P:Program}{w:World}{K:W.Frag}{mg:Str->Option Value}{base:Heap}{T:Addr}{C:Addr}
def Iv(K:W.Frag):Sp:=λvs H Q _=>∃ vc cs,vs=[vc]/\rLs K rNat H vc cs/\cs.length<=1000/\b9 cs<=1000/\∀ p H',H p=none->Same H H'->rLt (rLt (rFr K)) H' (.ref p) ((List.range (b9 cs)).map (Vagrak.seed cs))->Q (.ref p) H'
theorem dj{α β:Type}{f g:α->Option β}:∀ {l:List α},(∀ x∈l,f x=g x)->l.filterMap f=l.filterMap g
 | [],_=>rfl
 | a::l,h=>by
  rw[List.filterMap_cons,List.filterMap_cons,h a (List.mem_cons_self ..),dj λx hx=>h x (List.mem_cons_of_mem _ hx)]
theorem Do:FnScope ["colours","colour"] ["colours"] (au d_colour_directions):=by trivial
theorem Rt(B:Blt mg)(F:Fn P w K mg base CX0 1 "colour_count" ["colours"] (i4 K))(G:Fn P w K mg base CX0 1 "colour_direction" ["colours","moved"] (Qj K))(D:Df K mg "colour_directions" d_colour_directions ["colours"]) :
  Fn P w K mg base CX0 3 "colour_directions" ["colours"] (Iv K):=by
 refine D.ok Do (λvs H Q E h=>?_) (λf cdv A outer s H vs Q E hr h=>?_)
 .obtain⟨vc,cs,rfl,_⟩:=h
  rfl
 .obtain⟨vc,cs,rfl,hc,hlen,hcnt,q⟩:=h
  refine⟨_,aq (az (gv (own:=[("colour",1)]) rfl Do.nd (ez rfl B.range (aa (bh F (hr.mono (by decide)) rfl bo (aa (pv 0) aj)) aj)) (b8 (by kernel_rfl)) (λ_ _ _ _ _=>bi (i:=1) Do.nd rfl (Or.inl rfl)) (λ_ _ _ _ _=>c8)
   (λ_ _ _ _ _=>bh G (hr.mono (by decide)) rfl bo (aa (pv 0) (aa (pv 1) aj))))),?_⟩
  dsimp only [tRet]
  refine c9 ?_
  refine⟨_,rfl,vc,_,rfl,rLs.toInt hc,λc hc2=>by obtain⟨n,_,rfl⟩:=List.mem_map.mp hc2;omega,?_⟩
  rw[gq]
  have e1:((b9 cs:Nat):Int).toNat=b9 cs:=by omega
  refine⟨_,rfl,by omega,by omega,λD2 hD2=>lcR (R:=rLt (rFr K)) (rLt.av rFr.avT) (λk=>some (Vagrak.seed cs k)) hD2 (by rw[sizeLine_eq];omega) (λk H6 acc hk s6 hy kf k0 kk kn=>?_) λH6 ys s6 hy p6=>?_⟩
  .rw[Int.zero_add]
   refine⟨rfl,?_⟩
   dsimp only [tYes]
   rw[if_pos rfl]
   refine⟨_,rfl,_,rfl,vc,cs,k,rfl,rLs.mono rNat.mono _ _ _ _ s6 hc,hlen,λp H' hp s7 r7=>?_⟩
   exact kk _ _ _ rfl s7 r7 λz=>by
    cases z
    rw[hy]at hp
    cases hp
  .rw[e1,d6]at p6
   exact q D2 H6 hD2 s6 ⟨D2,ys,rfl,hy,p6⟩
structure OutsOk(rs:List (List Int))(outs:List Nat):Prop where
 lt:∀ o∈outs,o<rs.length
 few:outs.length<=1000
def i6(rs:List (List Int))(outs:List Nat)(vals dir:List Frac):List Frac:=outs.map (at_ (chgs dir vals rs))
def Qg(K:W.Frag)(C:Addr):Sp:=λvs H Q _=>∃ (vh vv vd vp:V) (n:Nat) (rs:List (List Int)) (outs:List Nat) (vals dir:List Frac),vs=[vh,vv,vd]/\fc K C H vh n rs outs vp/\rLs K (rFr K) H vv vals/\rLs K (rFr K) H vd dir/\RunOk n rs vals/\dir.length=n/\(∀ f∈dir,Chg 1 1 f)/\OutsOk rs outs /\
 ∀ p H',H p=none->Same H H'->rLt (rFr K) H' (.ref p) (i6 rs outs vals dir)->Q (.ref p) H'
theorem Fa:FnScope ["held","values","direction","changes","out"] ["held","values","direction"] (au d_out_changes):=by trivial
theorem Tz(hC:HCls K C)(F:Fn P w K mg base CX0 46 "line_changes" ["lines","values","direction"] (ss K))(D:Df K mg "out_changes" d_out_changes ["held","values","direction"]):Fn P w K mg base CX0 47 "out_changes" ["held","values","direction"] (Qg K C):=by
 refine D.ok Fa (λvs H Q E h=>?_) (λf cdv A outer s H vs Q E hr h=>?_)
 .obtain⟨vh,vv,vd,vp,n,rs,outs,vals,dir,rfl,_⟩:=h
  rfl
 .obtain⟨vh,vv,vd,vp,n,rs,outs,vals,dir,rfl,hh,hv,hd,hR,hdl,hd1,hO,q⟩:=h
  refine⟨_,af (bg (i:=3) Fa.nd rfl (Or.inr rfl) (bh F hr rfl bo (aa (fb (pv 0) rfl) (aa (pv 1) (aa (pv 2) aj)))))
   (aq (az (gv (own:=[("out",4)]) rfl Fa.nd (cy (fb (pv 0) rfl)) (b8 (by kernel_rfl)) (λ_ _ _ _ _=>bi (i:=4) Fa.nd rfl (Or.inl rfl)) (λ_ _ _ _ _=>c8) (λ_ _ _ _ _=>bf (r:=rIxL K) bc (pv 3) (pv 4) (λ_ _=>rfl))))),?_⟩
  obtain⟨_,⟨a,C1,dx,fs,u,e1,e2,e3,e4,e5,hl⟩,_,_⟩:=hh.fld hC
  refine⟨_,rfl,a,C1,dx,fs,u,e1,e2,e3,e4,e5,_,rfl,_,rfl,u,vv,vd,rs,vals,dir,n,rfl,hl,hv,hd,hR,hdl,hd1,λp1 H1 hp1 s1 r1=>?_⟩
  obtain⟨_,_,⟨a,C1,dx,fs,u,e1,e2,e3,e4,e5,ho⟩,_⟩:=(hh.mono s1).fld hC
  obtain⟨ao,e6,so⟩:=rLs.nats.mp ho
  subst e6
  obtain⟨a2,zs,e7,hzs,prz,hzl⟩:=r1.len
  cases e7
  dsimp only [tRet]
  refine c9 ?_
  have hfew:=hO.few
  refine⟨_,rfl,a,C1,dx,fs,_,e1,e2,e3,e4,e5,ao,rfl,⟨_,so⟩,λD2 hD2=>lcLT (R:=rFr K) (K:=K) rFr.avT (λj=>(outs[j]?).map (at_ (chgs dir vals rs))) hD2 so (by rw[List.length_map,sizeLine_eq];omega)
   (λj y H8 acc hy8 s8 hacc kf k0 kk kn=>?_) λH8 ys s8 hz p8=>?_⟩
  .obtain⟨o,ho8,rfl⟩:=fm hy8
   rw[ho8]at kk
   have hol:=hO.lt o (List.mem_of_getElem? ho8)
   obtain⟨u1,hu1,r9⟩:=lq prz (i:=o) (by rw[rn];exact hol)
   refine⟨rfl,?_⟩
   dsimp only [tYes]
   rw[if_pos rfl]
   exact⟨_,rfl,_,rfl,p1,_,_,_,rfl,rfl,SqL.of (s8 _ _ hzs),ck (j:=o) rfl hu1,kk _ _ _ rfl (.refl _) (rFr.mono _ _ _ _ s8 r9)⟩
  .rw[List.length_map,dw]at p8
   exact q D2 H8 (s1.free hD2) (s1.trans s8) ⟨D2,ys,rfl,hz,p8⟩
def uu(rs:List (List Int))(outs:List Nat)(vals:List Frac)(cs:List Nat):List (List Frac):=(List.range (b9 cs)).map λk=>i6 rs outs vals (Vagrak.seed cs k)
def gh(rs:List (List Int))(outs:List Nat)(vals:List Frac)(cs:List Nat):List (List Frac):=(List.range outs.length).map λr=>(uu rs outs vals cs).map λcol=>at_ col r
def Ml(K:W.Frag)(C:Addr):Sp:=λvs H Q _=>∃ (vh vv vc vp:V) (n:Nat) (rs:List (List Int)) (outs:List Nat) (vals:List Frac) (cs:List Nat),vs=[vh,vv,vc]/\fc K C H vh n rs outs vp/\rLs K (rFr K) H vv vals/\rLs K rNat H vc cs/\RunOk n rs vals/\OutsOk rs outs/\cs.length=n/\n<=1000/\b9 cs<=1000 /\
 ∀ p H',H p=none->Same H H'->rLt (rLt (rFr K)) H' (.ref p) (gh rs outs vals cs)->Q (.ref p) H'
theorem pq:FnScope ["held","values","colours","columns","direction","row","column"] ["held","values","colours"] (au d_packed_by_columns):=by trivial
theorem Tx(B:Blt mg)(hC:HCls K C)(F:Fn P w K mg base CX0 3 "colour_directions" ["colours"] (Iv K))(G:Fn P w K mg base CX0 47 "out_changes" ["held","values","direction"] (Qg K C))(D:Df K mg "packed_by_columns" d_packed_by_columns ["held","values","colours"]) :
  Fn P w K mg base CX0 48 "packed_by_columns" ["held","values","colours"] (Ml K C):=by
 refine D.ok pq (λvs H Q E h=>?_) (λf cdv A outer s H vs Q E hr h=>?_)
 .obtain⟨vh,vv,vc,vp,n,rs,outs,vals,cs,rfl,_⟩:=h
  rfl
 .obtain⟨vh,vv,vc,vp,n,rs,outs,vals,cs,rfl,hh,hv,hc,hR,hO,hcl,hn,hcnt,q⟩:=h
  refine⟨_,af (bg (i:=3) pq.nd rfl (Or.inr rfl) (gv (own:=[("direction",4)]) rfl pq.nd (cy (bh F (hr.mono (by decide)) rfl bo (aa (pv 2) aj))) (b8 (by kernel_rfl)) (λ_ _ _ _ _=>bi (i:=4) pq.nd rfl (Or.inl rfl)) (λ_ _ _ _ _=>c8)
    (λ_ _ _ _ _=>bh G hr rfl bo (aa (pv 0) (aa (pv 1) (aa (pv 4) aj))))))
   (aq (az (gv (own:=[("row",5)]) rfl pq.nd (ez rfl B.range (aa (bj be rfl B.len PySem.boot_len (aa (fb (pv 0) rfl) aj)) aj)) (b8 (by kernel_rfl)) (λ_ _ _ _ _=>bi (i:=5) pq.nd rfl (Or.inr rfl)) (λ_ _ _ _ _=>c8)
    (λ_ _ _ _ _=>gv (own:=[("column",6)]) rfl pq.nd (Fk (K:=K) rfl (pv 3)) (b8 (by kernel_rfl)) (λ_ _ _ _ _=>bi (i:=6) pq.nd rfl (Or.inl rfl)) (λ_ _ _ _ _=>c8) (λ_ _ _ _ _=>bf (r:=rIxL K) bc (pv 6) (pv 5) (λ_ _=>rfl)))))),?_⟩
  have hfew:=hO.few
  dsimp only [m7,tAsg,k7,tSeq]
  refine c9 ?_
  refine⟨_,rfl,vc,cs,rfl,hc,by omega,hcnt,λp1 H1 hp1 s1 r1=>?_⟩
  obtain⟨a1,xs1,e1,hx1,pr1,hl1⟩:=r1.len
  cases e1
  have hdl:∀ k,(Vagrak.seed cs k).length=n:=λk=>by rw[E6,hcl]
  rw[List.length_map,List.length_range]at hl1
  refine⟨_,rfl,⟨_,SqL.of hx1⟩,λD2 hD2=>lcL (R:=rLt (rFr K)) (K:=K) (rLt.av rFr.avT) (λj=>if j<b9 cs then some (i6 rs outs vals (Vagrak.seed cs j)) else none) hD2 (SqL.of hx1) (by rw[hl1,sizeLine_eq];omega)
   (λj y H8 acc hy8 s8 hacc kf k0 kk kn=>?_) λH8 ys s8 hz p8=>?_⟩
  .have hj:j<b9 cs:=by
    have:=(List.getElem?_eq_some_iff.mp hy8).1
    omega
   obtain⟨d,hd,rd⟩:=eh pr1 hy8
   rw[List.getElem?_map,List.getElem?_range hj]at hd
   cases hd
   rw[if_pos hj]at kk
   refine⟨rfl,?_⟩
   dsimp only [tYes]
   rw[if_pos rfl]
   have s18:=s1.trans s8
   refine⟨_,rfl,_,rfl,_,rfl,vh,vv,y,vp,n,rs,outs,vals,Vagrak.seed cs j,rfl,hh.mono s18,rLs.mono rFr.mono _ _ _ _ s18 hv,(rLt.mono rFr.mono _ _ _ _ s8 rd).ls,hR,hdl j,E7 cs j,hO,λp9 H9 hp9 s9 r9=>?_⟩
   exact kk _ _ _ rfl s9 r9 λz=>by
    cases z
    rw[hacc]at hp9
    cases hp9
  .have ecols:(List.range xs1.length).filterMap (λj=>if j<b9 cs then some (i6 rs outs vals (Vagrak.seed cs j)) else none)=uu rs outs vals cs:=by
    rw[hl1]
    unfold uu
    rw[<- d6]
    refine dj λj hj=>?_
    rw[if_pos (List.mem_range.mp hj)]
   rw[ecols]at p8
   have s18:=s1.trans s8
   obtain⟨_,_,⟨a,C1,dx,fs,u,e1,e2,e3,e4,e5,ho⟩,_⟩:=(hh.mono s18).fld hC
   obtain⟨ao,e6,so⟩:=rLs.nats.mp ho
   subst e6
   have hyl:=eg p8
   have hcols:(uu rs outs vals cs).length=b9 cs:=by unfold uu;rw[List.length_map,List.length_range]
   dsimp only [tRet]
   refine c9 ?_
   refine⟨_,rfl,a,C1,dx,fs,_,e1,e2,e3,e4,e5,ao,_,rfl,.inl so,?_⟩
   rw[List.length_map]
   have e9:((outs.length:Nat):Int).toNat=outs.length:=by omega
   refine⟨_,rfl,by omega,by omega,λD3 hD3=>lcR (R:=rLt (rFr K)) (rLt.av rFr.avT) (λr=>some ((uu rs outs vals cs).map λcol=>at_ col r)) hD3 (by rw[sizeLine_eq];omega) (λr H9 acc hr9 s9 hy9 kf k0 kk kn=>?_) λH9 ys9 s9 hy9 p9=>?_⟩
   .rw[e9]at hr9
    rw[Int.zero_add]
    refine⟨rfl,?_⟩
    dsimp only [tYes]
    rw[if_pos rfl]
    refine c9 ?_
    refine⟨_,rfl,D2,rfl,⟨_,SqL.of (s9 _ _ hz)⟩,λD4 hD4=>lcLT (R:=rFr K) (K:=K) rFr.avT (λj=>((uu rs outs vals cs)[j]?).map λcol=>at_ col r) hD4 (SqL.of (s9 _ _ hz)) (by rw[hyl,hcols,sizeLine_eq];omega) (λj x H7 acc2 hx s7 hy2 lf l0 ll ln=>?_) λH7 ys7 s7 hy7 p7=>?_⟩
    .obtain⟨col,hcol,rc⟩:=eh p8 hx
     obtain⟨ar,xr,rfl,hxr,prr,hlr⟩:=(rLt.mono rFr.mono _ _ _ _ (s9.trans s7) rc).len
     have hcl2:col.length=outs.length:=by
      have:=List.mem_of_getElem? hcol
      unfold uu at this
      obtain⟨k,_,rfl⟩:=List.mem_map.mp this
      unfold i6
      rw[List.length_map]
     obtain⟨u1,hu1,r10⟩:=lq prr (i:=r) (by omega)
     refine⟨rfl,?_⟩
     dsimp only [tYes]
     rw[if_pos rfl]
     exact⟨_,rfl,_,rfl,ar,_,_,_,rfl,rfl,SqL.of hxr,ck (j:=r) rfl hu1,ll _ _ _ (by rw[hcol];rfl) (.refl _) r10⟩
    .rw[hyl,dw]at p7
     exact kk _ _ _ rfl s7 ⟨D4,ys7,rfl,hy7,p7⟩ λz=>by
      cases z
      rw[hy9]at hD4
      cases hD4
   .rw[e9,d6]at p9
    exact q D3 H9 (s18.free hD3) (s18.trans s9) ⟨D3,ys9,rfl,hy9,p9⟩
end
theorem gf(n:Nat):b9 (List.range n)=n:=by
 unfold b9
 induction n with
 | zero=>rfl
 | succ n ih=>
  rw[List.range_succ,List.foldl_append,ih]
  show max n (n+1)=n+1
  omega
section
variable{P:Program}{w:World}{K:W.Frag}{mg:Str->Option Value}{base:Heap}{T:Addr}{C:Addr}
def y4(K:W.Frag)(C:Addr):Sp:=λvs H Q _=>∃ (vh vv vp:V) (n:Nat) (rs:List (List Int)) (outs:List Nat) (vals:List Frac),vs=[vh,vv]/\fc K C H vh n rs outs vp/\rLs K (rFr K) H vv vals/\RunOk n rs vals/\OutsOk rs outs/\n<=1000 /\
 ∀ p H',H p=none->Same H H'->rLt (rLt (rFr K)) H' (.ref p) (gh rs outs vals (List.range n))->Q (.ref p) H'
theorem Mr:FnScope ["held","values"] ["held","values"] (au d_whole_table):=by trivial
theorem Nj(B:Blt mg)(hC:HCls K C)(F:Fn P w K mg base CX0 48 "packed_by_columns" ["held","values","colours"] (Ml K C))(D:Df K mg "whole_table" d_whole_table ["held","values"]):Fn P w K mg base CX0 49 "whole_table" ["held","values"] (y4 K C):=by
 refine D.ok Mr (λvs H Q E h=>?_) (λf cdv A outer s H vs Q E hr h=>?_)
 .obtain⟨vh,vv,vp,n,rs,outs,vals,rfl,_⟩:=h
  rfl
 .obtain⟨vh,vv,vp,n,rs,outs,vals,rfl,hh,hv,hR,hO,hn,q⟩:=h
  refine⟨_,aq (az (bh F hr rfl bo (aa (pv 0) (aa (pv 1) (aa (mq (jg rfl) rfl B.list boot_list (aa (Fm rfl B.range (aa (fb (pv 0) rfl) aj)) aj)) aj))))),?_⟩
  obtain⟨⟨a,C1,dx,fs,u,e1,e2,e3,e4,e5,e6⟩,_⟩:=hh.fld hC
  subst e6
  refine⟨_,rfl,_,rfl,_,rfl,a,C1,dx,fs,_,e1,e2,e3,e4,e5,_,rfl,λr hr0=>⟨r,n,rfl,ak,by omega,λal hal=>?_⟩⟩
  have s1:Same H (upd H r (.rng 0 (n:Nat))):=.new hr0
  have s2:=s1.trans (.new (o:=.lst ((List.range n).map λi:Nat=>V.int (i:Int))) hal)
  exact⟨vh,vv,.ref al,vp,n,rs,outs,vals,List.range n,rfl,hh.mono s2,rLs.mono rFr.mono _ _ _ _ s2 hv,rLs.nats.mpr ⟨al,rfl,SqL.of ak⟩,hR,hO,List.length_range,hn,by rw[gf];exact hn,λp H' hp s3 r3=>q p H' (s2.free hp) (s2.trans s3) r3⟩
def f6(m:Nat)(tot row:List Frac):List Frac:=(List.range m).map λj=>Vagraa.add (at_ tot j) (at_ row j)
def sumM(m:Nat)(rows:List (List Frac)):List Frac:=rows.foldl (f6 m) ((List.range m).map λ_=>Vagraa.zero)
theorem yx(m:Nat):∀ (rows:List (List Frac)) (tot:List Frac),tot.length=m->(rows.foldl (f6 m) tot).length=m
 | [],_,h=>h
 | r::rows,tot,_=>yx m rows _ (by unfold f6;rw[List.length_map,List.length_range])
theorem Ig(m W B:Nat)(rows:List (List Frac))(hr:∀ b∈rows,b.length=m/\∀ f∈b,Chg W B f):∀ i,i<=rows.length->∀ f∈((rows.take i).foldl (f6 m) ((List.range m).map λ_=>Vagraa.zero)),Chg W (i*B) f
 | 0,_=>λf hf=>by
  rw[List.take_zero]at hf
  obtain⟨_,_,rfl⟩:=List.mem_map.mp (show f∈(List.range m).map λ_=>Vagraa.zero from hf)
  exact⟨⟨Nat.one_pos,rfl⟩,Nat.one_dvd _,Nat.zero_le _⟩
 | i+1,hi=>λf hf=>by
  have e:rows[i]? = some (rows.getD i []):=by
   rw[List.getD_eq_getElem?_getD,List.getElem?_eq_getElem (by omega)]
   rfl
  have ih:=Ig m W B rows hr i (by omega)
  rw[take_snoc e,List.foldl_append]at hf
  obtain⟨j,hj,rfl⟩:=List.mem_map.mp (show f∈(List.range m).map λj=>Vagraa.add (at_ ((rows.take i).foldl (f6 m) ((List.range m).map λ_=>Vagraa.zero)) j) (at_ (rows.getD i []) j) from hf)
  have hj:=List.mem_range.mp hj
  obtain⟨h1,h2⟩:=hr _ (List.mem_of_getElem? e)
  have hl:=yx m (rows.take i) ((List.range m).map λ_=>Vagraa.zero) (by rw[List.length_map,List.length_range])
  rw[Nat.succ_mul]
  exact(ih _ (List.mem_of_getElem? (de (by omega)))).add (h2 _ (List.mem_of_getElem? (de (by omega))))
def Qc(K:PySem.W.Frag):Sp:=λvs H Q _=>∃ (vr:V) (rows:List (List Frac)) (m W B:Nat),vs=[vr,.int (m:Nat)]/\rLt (rLt (rFr K)) H vr rows/\rows.length<=1000/\m<=1000/\(∀ b∈rows,b.length=m/\∀ f∈b,Chg W B f)/\0<W/\W<=2 ^ 40000/\B<=2 ^ 40000 /\
 ∀ p H',H p=none->Same H H'->rLt (rFr K) H' (.ref p) (sumM m rows)->Q (.ref p) H'
theorem sx:FnScope ["rows","how_many_columns","total","row","column","one","other"] ["rows","how_many_columns"] (au d_sum_of_rows):=by trivial
theorem O9{W B i:Nat}{f:Frac}(h:Chg W (i*B) f)(hi:i<=1000)(hW0:0<W)(hW:W<=2 ^ 40000)(hB:B<=2 ^ 40000):FrOk 100000 f:=by
 refine FrOk.of_chg h hW0 ?_ ?_
 .calc W*(i*B)<=2 ^ 40000*(2 ^ 10*2 ^ 40000):=Nat.mul_le_mul hW (Nat.mul_le_mul (by omega) hB)
   _=2 ^ 80010:=by rw[<- Nat.pow_add,<- Nat.pow_add]
   _<2 ^ 100000:=Nat.pow_lt_pow_right (by decide) (by decide)
 .calc W<=2 ^ 40000:=hW
   _<2 ^ 100000:=Nat.pow_lt_pow_right (by decide) (by decide)
theorem Tr(B:Blt mg)(hN:Gf K mg "NOUGHT" Vagraa.zero)(F:Fn P w K mg base CX0 42 "plus" ["first","second"] (g7 K CFr Vagraa.add))(D:Df K mg "sum_of_rows" d_sum_of_rows ["rows","how_many_columns"]):Fn P w K mg base CX0 43 "sum_of_rows" ["rows","how_many_columns"] (Qc K):=by
 refine D.ok sx (λvs H Q E h=>?_) (λf cdv A outer s H vs Q E hr h=>?_)
 .obtain⟨vr,rows,m,W,B,rfl,_⟩:=h
  rfl
 .obtain⟨vr,rows,m,W,Bd,rfl,hrw,hrl,hm,hrow,hW0,hW,hBd,q⟩:=h
  obtain⟨pN,hmN,sN⟩:=hN
  refine⟨_,af (kc (i:=2) (own:=[("column",4)]) rfl sx.nd rfl rfl rfl (ez rfl B.range (aa (pv 1) aj)) (b8 (by kernel_rfl)) (λ_ _ _ _ _=>bi (i:=4) sx.nd rfl (Or.inl rfl)) (λ_ _ _ _ _=>c8) (λ_ _ _ _ _=>i8 (v:=.ref pN) rfl hmN rfl))
   (af (fj PassesOwn.never rfl (cy (pv 0)) (bi (i:=3) sx.nd rfl (Or.inl rfl))
    (aq (kc (i:=2) (own:=[("one",5),("other",6)]) rfl sx.nd rfl rfl rfl (Fi rfl B.zip (aa (pv 2) (aa (pv 3) aj))) (b8 (by kernel_rfl))
     (λ_ _ _ _ _=>tw (K:=K) (n:=2) rfl rfl (di (bi (i:=5) sx.nd rfl (Or.inl rfl)) (di (bi (i:=6) sx.nd rfl (Or.inl rfl)) jt))) (λ_ _ _ _ _=>c8) (λ_ _ _ _ _=>bh F hr rfl bo (aa (pv 5) (aa (pv 6) aj))))))
   (aq (az (pv 2)))),?_⟩
  obtain⟨ar,xs,rfl,hxs,pr,hxl⟩:=hrw.len
  have e1:((m:Nat):Int).toNat=m:=by omega
  dsimp only [m7,tAsg,k7,tSeq]
  refine c9 ?_
  refine⟨_,rfl,_,rfl,by omega,by omega,λD1 hD1=>lcRT (R:=rFr K) rFr.avT (λ_=>some Vagraa.zero) hD1 (by rw[sizeLine_eq];omega) (λj H6 acc hj s6 hy kf k0 kk kn=>?_) λH6 ys s6 hy p6=>?_⟩
  .refine⟨rfl,?_⟩
   dsimp only [tYes]
   rw[if_pos rfl]
   exact kk _ _ _ rfl (.refl _) ⟨pN,rfl,sN _⟩
  .rw[e1,d6]at p6
   refine⟨_,rfl,ar,rfl,⟨_,SqL.of (s6 _ _ hxs)⟩,ft (K:=K) (a:=ar) (xs:=xs) (λi Z H'=>∃ v3 p zs,Z=[some (.ref ar),some (.int (m:Nat)),some (.ref p),v3,none,none,none]/\Same H H'/\H p=none/\H' p=some (.lst zs)/\Paired (rFr K H') zs ((rows.take i).foldl (f6 m) ((List.range m).map λ_=>Vagraa.zero)))
    ⟨none,D1,ys,rfl,s6,hD1,hy,p6⟩ (λi Z H' _ ⟨_,_,_,_,s2,_⟩=>SqL.of (s2 _ _ hxs)) ?_ ?_⟩
   .rintro i x Z H' hx ⟨v3,p,zs,rfl,s2,hp0,hp,prz⟩
    obtain⟨b,hb,rb⟩:=eh pr hx
    have hi:i<rows.length:=(List.getElem?_eq_some_iff.mp hb).1
    obtain⟨hbl,hbc⟩:=hrow b (List.mem_of_getElem? hb)
    have hch:=Ig m W Bd rows hrow i (by omega)
    have htl:=yx m (rows.take i) ((List.range m).map λ_=>Vagraa.zero) (by rw[List.length_map,List.length_range])
    generalize htt:(rows.take i).foldl (f6 m) ((List.range m).map λ_=>Vagraa.zero)=tot at prz hch htl
    obtain⟨ab,zb,rfl,hzb,prb,hlb⟩:=(rLt.mono rFr.mono _ _ _ _ s2 rb).len
    have hzl:=eg prz
    dsimp only [m7,tAsg]
    refine c9 ?_
    refine⟨_,rfl,_,rfl,p,ab,_,_,rfl,SqL.of hp,SqL.of hzb,λD2 hD2=>lcZT (R:=rFr K) (K:=K) rFr.avT (λj=>if j<m then some (Vagraa.add (at_ tot j) (at_ b j)) else none) hD2 (SqL.of hp) (SqL.of hzb) (by omega) (by rw[hzl,htl,sizeLine_eq];omega)
     (λj u v H7 Tt acc hu hv7 s7 hy7 hT kf k0 kk kn=>?_) λH7 ys7 s7 hy7 p7=>?_⟩
    .have hj:j<m:=by
      have:=(List.getElem?_eq_some_iff.mp hu).1
      omega
     rw[if_pos hj]at kk
     obtain⟨f1,hf1,r1⟩:=eh prz hu
     obtain⟨f2,hf2,r2⟩:=eh prb hv7
     have g1:at_ tot j=f1:=by
      have:=de (vals:=tot) (i:=j) (by omega)
      rw[hf1]at this
      exact(Option.some.inj this).symm
     have g2:at_ b j=f2:=by
      have:=de (vals:=b) (i:=j) (by omega)
      rw[hf2]at this
      exact(Option.some.inj this).symm
     have s8:Same H' (upd H7 Tt (.tup [u,v])):=s7.trans (.new hT)
     refine⟨Tt,_,rfl,.inl (.inl ak),rfl,_,_,rfl,_,_,rfl,rfl,rfl,?_⟩
     dsimp only [tYes]
     rw[if_pos rfl]
     have c1:=hch _ (List.mem_of_getElem? hf1)
     have c2:=hbc _ (List.mem_of_getElem? hf2)
     refine⟨_,rfl,_,rfl,u,v,f1,f2,rfl,rFr.mono _ _ _ _ s8 r1,rFr.mono _ _ _ _ s8 r2,⟨(O9 c1 (by omega) hW0 hW hBd).mono (by decide),(O9 (i:=1) (by rw[Nat.one_mul];exact c2) (by decide) hW0 hW hBd).mono (by decide)⟩,λv9 H9 s9 r9=>?_⟩
     refine kk _ _ _ (by rw[g1,g2]) ((Same.new hT).trans s9) r9
    .have ey:(List.range zs.length).filterMap (λj=>if j<m then some (Vagraa.add (at_ tot j) (at_ b j)) else none)=f6 m tot b:=by
      rw[hzl,htl]
      unfold f6
      rw[<- d6]
      refine dj λj hj=>?_
      rw[if_pos (List.mem_range.mp hj)]
     rw[ey]at p7
     refine⟨_,D2,ys7,rfl,s2.trans s7,s2.free hD2,hy7,?_⟩
     rw[take_snoc hb,List.foldl_append,htt]
     exact p7
   .rintro Z H' ⟨v3,p,zs,rfl,s2,hp0,hp,prz⟩
    rw[hxl,List.take_of_length_le (Nat.le_refl _)]at prz
    exact⟨_,rfl,q p H' hp0 s2 ⟨p,zs,rfl,hp,prz⟩⟩
end
theorem kg{n:Nat}{rs:List (List Int)}{outs cs:List Nat}{vals:List Frac}(hR:RunOk n rs vals)(hO:OutsOk rs outs)(hcl:cs.length=n) :
  (gh rs outs vals cs).length=outs.length/\∀ b∈gh rs outs vals cs,b.length=b9 cs/\∀ f∈b,Chg (wUp vals rs rs.length) (2 ^ (402*rs.length)) f:=by
 unfold gh
 refine⟨by rw[List.length_map,List.length_range],λb hb=>?_⟩
 obtain⟨r,hr,rfl⟩:=List.mem_map.mp hb
 have hr:=List.mem_range.mp hr
 refine⟨by unfold uu;rw[List.length_map,List.length_map,List.length_range],λf hf=>?_⟩
 obtain⟨col,hcol,rfl⟩:=List.mem_map.mp hf
 unfold uu at hcol
 obtain⟨k,_,rfl⟩:=List.mem_map.mp hcol
 have all:=hR.all (dir:=Vagrak.seed cs k) (E7 cs k) (by rw[E6,hcl]) rs.length (Nat.le_refl _)
 rw[List.take_of_length_le (Nat.le_refl _)]at all
 have e:at_ (i6 rs outs vals (Vagrak.seed cs k)) r=at_ (chgs (Vagrak.seed cs k) vals rs) (outs.getD r 0):=by
  unfold i6 VagraLine.at_
  rw[List.getD_eq_getElem?_getD,List.getElem?_map,List.getD_eq_getElem?_getD (l:=outs),List.getElem?_eq_getElem hr]
  rfl
 have ho:outs.getD r 0<rs.length:=hO.lt _ (by
  rw[List.getD_eq_getElem?_getD,List.getElem?_eq_getElem hr]
  exact List.getElem_mem hr)
 rw[e]
 exact all _ (List.mem_of_getElem? (de (by rw[rn];exact ho)))
theorem Sx{n:Nat}{rs:List (List Int)}{vals:List Frac}(hR:RunOk n rs vals):0<wUp vals rs rs.length/\wUp vals rs rs.length<=2 ^ 40000/\2 ^ (402*rs.length)<=2 ^ 40000:=by
 obtain⟨h1,h2⟩:=hR.wup rs.length (Nat.le_refl _)
 have:=hR.few
 exact⟨h1,Nat.le_trans h2 (Nat.pow_le_pow_right (by decide) (by omega)),Nat.pow_le_pow_right (by decide) (by omega)⟩
def wo(t:List (List Frac))(cs:List Nat)(k:Nat):List (List Frac):=(List.range t.length).filterMap λr=>(t[r]?).bind λb=>if cs.getD r 0=k then some b else none
def pbrM(n:Nat)(rs:List (List Int))(outs:List Nat)(vals:List Frac)(cs:List Nat):List (List Frac):=(List.range (b9 cs)).map λk=>sumM n (wo (gh rs outs vals (List.range n)) cs k)
theorem M8{t:List (List Frac)}{cs:List Nat}{k:Nat}{b:List Frac}(h:b∈wo t cs k):b∈t:=by
 unfold wo at h
 obtain⟨r,_,e⟩:=List.mem_filterMap.mp h
 cases q:t[r]? with
 | none=>rw[q]at e;cases e
 | some b2=>
  rw[q]at e
  have e:(if cs.getD r 0=k then some b2 else none)=some b:=e
  split at e
  .cases e
   exact List.mem_of_getElem? q
  .cases e
section
variable{P:Program}{w:World}{K:W.Frag}{mg:Str->Option Value}{base:Heap}{T:Addr}{C:Addr}
def Qd(K:W.Frag)(C:Addr):Sp:=λvs H Q _=>∃ (vh vv vc vp:V) (n:Nat) (rs:List (List Int)) (outs:List Nat) (vals:List Frac) (cs:List Nat),vs=[vh,vv,vc]/\fc K C H vh n rs outs vp/\rLs K (rFr K) H vv vals/\rLs K rNat H vc cs/\RunOk n rs vals/\OutsOk rs outs/\cs.length=outs.length/\n<=1000/\b9 cs<=1000 /\
 ∀ p H',H p=none->Same H H'->rLt (rLt (rFr K)) H' (.ref p) (pbrM n rs outs vals cs)->Q (.ref p) H'
theorem sy:FnScope ["held","values","colours","table","packed","summed","rows","row","colour"] ["held","values","colours"] (au d_packed_by_rows):=by trivial
theorem Tw(B:Blt mg)(hC:HCls K C)(F:Fn P w K mg base CX0 49 "whole_table" ["held","values"] (y4 K C))(G:Fn P w K mg base CX0 1 "colour_count" ["colours"] (i4 K))(S:Fn P w K mg base CX0 43 "sum_of_rows" ["rows","how_many_columns"] (Qc K))(D:Df K mg "packed_by_rows" d_packed_by_rows ["held","values","colours"]) :
  Fn P w K mg base CX0 50 "packed_by_rows" ["held","values","colours"] (Qd K C):=by
 refine D.ok sy (λvs H Q E h=>?_) (λf cdv A outer s H vs Q E hr h=>?_)
 .obtain⟨vh,vv,vc,vp,n,rs,outs,vals,cs,rfl,_⟩:=h
  rfl
 .obtain⟨vh,vv,vc,vp,n,rs,outs,vals,cs,rfl,hh,hv,hc,hR,hO,hcl,hn,hcnt,q⟩:=h
  refine⟨_,af (bg (i:=3) sy.nd rfl (Or.inl rfl) (bh F hr rfl bo (aa (pv 0) (aa (pv 1) aj))))
   (af (bg (i:=4) sy.nd rfl (Or.inl rfl) (cu aj))
   (af (fj PassesOwn.never rfl (ez rfl B.range (aa (bh G (hr.mono (by decide)) rfl bo (aa (pv 2) aj)) aj)) (bi (i:=5) sy.nd rfl (Or.inr rfl))
    (af (kc (i:=6) (own:=[("row",7),("colour",8)]) rfl sy.nd rfl rfl rfl (Fi rfl B.zip (aa (pv 3) (aa (pv 2) aj))) (b8 (by kernel_rfl))
     (λ_ _ _ _ _=>tw (K:=K) (n:=2) rfl rfl (di (bi (i:=7) sy.nd rfl (Or.inl rfl)) (di (bi (i:=8) sy.nd rfl (Or.inl rfl)) jt))) (λ_ _ _ _ _=>oi (bp fe (pv 8) (pv 5) (bv _))) (λ_ _ _ _ _=>pv 7))
    (aq (cf (ju PySem.F.plainAttrs_list PySem.F.slot_list_append PySem.F.type_list_append d8 (pv 4) (aa (bh S (hr.mono (by decide)) rfl bo (aa (pv 6) (aa (fb (pv 0) rfl) aj))) aj))))))
   (aq (az (pv 4))))),?_⟩
  refine⟨_,rfl,_,rfl,vh,vv,vp,n,rs,outs,vals,rfl,hh,hv,hR,hO,hn,λpt H1 hpt s1 r1=>?_⟩
  obtain⟨tl,trow⟩:=kg hR hO (cs:=List.range n) List.length_range
  obtain⟨w1,w2,w3⟩:=Sx hR
  have hfew:=hO.few
  unfold pbrM at q
  rw[gf]at trow
  generalize gh rs outs vals (List.range n)=tb at r1 tl trow q
  refine⟨Nat.zero_le _,λpp hpp=>?_⟩
  have s2:Same H (upd H1 pp (.lst [])):=s1.trans (.new hpp)
  refine⟨_,rfl,vc,_,rfl,rLs.toInt (rLs.mono rNat.mono _ _ _ _ s2 hc),λc hc2=>by obtain⟨n,_,rfl⟩:=List.mem_map.mp hc2;omega,?_⟩
  rw[gq]
  have e1:((b9 cs:Nat):Int).toNat=b9 cs:=by omega
  refine⟨_,rfl,by omega,by omega,B8 (Pv:=λi Z H'=>∃ v5 v6 zs,Z=[some vh,some vv,some vc,some (.ref pt),some (.ref pp),v5,v6,none,none]/\Same H1 H'/\H' pp=some (.lst zs)/\Paired (rNq (rLt (rFr K)) pp H') zs ((List.range i).map λk=>sumM n (wo tb cs k)))
   ⟨none,none,[],rfl,.new hpp,ak,.nil⟩ ?_ ?_⟩
  .rintro i Z H' hi ⟨v5,v6,zs,rfl,s3,hp3,prz⟩
   rw[e1]at hi
   rw[Int.zero_add]
   have s13:=s1.trans s3
   obtain⟨at1,xt,et,hxt,prt,hlt⟩:=(rLt.mono (rLt.mono rFr.mono) _ _ _ _ s3 r1).len
   cases et
   obtain⟨ac,ec,sc⟩:=rLs.nats.mp (rLs.mono rNat.mono _ _ _ _ s13 hc)
   subst ec
   dsimp only [m7,tAsg,k7,tSeq]
   refine c9 ?_
   refine⟨_,rfl,_,rfl,pt,ac,_,_,rfl,SqL.of hxt,sc,λD2 hD2=>lcZ (R:=rLt (rFr K)) (K:=K) (rLt.av rFr.avT) (λr=>(tb[r]?).bind λb=>if cs.getD r 0=i then some b else none) hD2 (SqL.of hxt) sc (by rw[List.length_map];omega) (by rw[sizeLine_eq];omega)
    (λj u v H7 Tt acc hu hv7 s7 hy7 hT kf k0 kk kn=>?_) λH7 ys7 s7 hy7 p7=>?_⟩
   .obtain⟨b,hb,rb⟩:=eh prt hu
    obtain⟨c,hcj,rfl⟩:=fm hv7
    have g2:cs.getD j 0=c:=by rw[List.getD_eq_getElem?_getD,hcj];rfl
    rw[hb,Option.bind_some,g2]at kk kn
    refine⟨Tt,_,rfl,.inl (.inl ak),rfl,_,_,rfl,_,_,rfl,rfl,rfl,_,rfl,_,rfl,rfl,_,rfl,ite2 (λh=>?_) λh=>?_⟩
    .have h:c=i:=by
      have h1:(c:Int)=(i:Int):=by simpa using h
      omega
     exact⟨_,rfl,kk _ _ _ (if_pos h) (.new hT) (rLt.mono rFr.mono _ _ _ _ (s7.trans (.new hT)) rb) (rb.ne hD2)⟩
    .have h:¬ c=i:=by
      have h1:¬ (c:Int)=(i:Int):=by simpa using h
      omega
     exact kn _ (if_neg h) (.new hT)
   .rw[hlt]at p7
    have p7:Paired (rLt (rFr K) H7) ys7 (wo tb cs i):=p7
    obtain⟨⟨a,C1,dx,fs,u,e2,e3,e4,e5,e6,e7⟩,_⟩:=(hh.mono (s13.trans s7)).fld hC
    subst e7
    have hp7:=s7 _ _ hp3
    have hpick:(wo tb cs i).length<=1000:=by
     unfold wo
     exact Nat.le_trans (List.length_filterMap_le _ _) (by rw[List.length_range];omega)
    refine⟨_,rfl,.inl ⟨rfl,_,SqL.of hp7⟩,_,rfl,_,rfl,a,C1,dx,fs,_,e2,e3,e4,e5,e6,.ref D2,wo tb cs i,n,_,_,rfl,⟨D2,ys7,rfl,hy7,p7⟩,hpick,hn,λb hb=>trow b (M8 hb),w1,w2,w3,λp8 H8 hp8 s8 r8=>?_⟩
    have hpp8:=s8 _ _ hp7
    have hzl:=eg prz
    rw[List.length_map,List.length_range]at hzl
    refine⟨pp,_,_,rfl,rfl,hpp8,(by rw[hzl,sizeLine_eq];omega),?_⟩
    refine⟨_,_,zs++[.ref p8],rfl,.set hpp ((s3.trans s7).trans s8),ak,?_⟩
    have ne8:V.ref p8≠.ref pp:=λz=>by
     cases z
     rw[hp7]at hp8
     cases hp8
    rw[List.range_succ,List.map_append]
    exact gg (Dv (rLt.av rFr.avT) hp3 (Sb.trans (s7.trans s8).sb Sb.upd) prz) ⟨rLt.av rFr.avT pp _ _ _ _ _ hpp8 Sb.upd ne8 r8,ne8⟩
  .rintro Z H' ⟨v5,v6,zs,rfl,s3,hp3,prz⟩
   rw[e1]at prz
   exact⟨_,rfl,q pp H' (s1.free hpp) (s1.trans s3) ⟨pp,zs,rfl,hp3,Js prz⟩⟩
def ptM(side n:Nat)(rs:List (List Int))(outs:List Nat)(vals:List Frac)(cs:List Nat):List (List Frac):=if side=1 then pbrM n rs outs vals cs else gh rs outs vals cs
def spPt(K:W.Frag)(C:Addr):Sp:=λvs H Q _=>∃ (vh vv vc vp:V) (n side:Nat) (rs:List (List Int)) (outs:List Nat) (vals:List Frac) (cs:List Nat),vs=[vh,vv,.int (side:Nat),vc]/\side<=1/\fc K C H vh n rs outs vp/\rLs K (rFr K) H vv vals/\rLs K rNat H vc cs/\RunOk n rs vals/\OutsOk rs outs/\cs.length=(if side=1 then outs.length else n)/\n<=1000/\b9 cs<=1000 /\
 ∀ p H',H p=none->Same H H'->rLt (rLt (rFr K)) H' (.ref p) (ptM side n rs outs vals cs)->Q (.ref p) H'
theorem U9:FnScope ["held","values","side","colours"] ["held","values","side","colours"] (au d_packed_table):=by trivial
theorem Vg(hs:Gc mg "ROW_SIDE" 1)(F:Fn P w K mg base CX0 48 "packed_by_columns" ["held","values","colours"] (Ml K C))(G:Fn P w K mg base CX0 50 "packed_by_rows" ["held","values","colours"] (Qd K C))(D:Df K mg "packed_table" d_packed_table ["held","values","side","colours"]) :
  Fn P w K mg base CX0 51 "packed_table" ["held","values","side","colours"] (spPt K C):=by
 refine D.ok U9 (λvs H Q E h=>?_) (λf cdv A outer s H vs Q E hr h=>?_)
 .obtain⟨vh,vv,vc,vp,n,side,rs,outs,vals,cs,rfl,_⟩:=h
  rfl
 .obtain⟨vh,vv,vc,vp,n,side,rs,outs,vals,cs,rfl,hside,hh,hv,hc,hR,hO,hcl,hn,hcnt,q⟩:=h
  refine⟨_,af (cw (bp fe (pv 2) (br hs rfl) (bv _)) (aq (az (bh G hr rfl bo (aa (pv 0) (aa (pv 1) (aa (pv 3) aj)))))) bu)
   (aq (az (bh F (hr.mono (by decide)) rfl bo (aa (pv 0) (aa (pv 1) (aa (pv 3) aj)))))),?_⟩
  unfold ptM at q
  refine⟨_,rfl,rfl,_,rfl,ite2 (λh=>?_) λh=>?_⟩
  .have h:side=1:=by
    have h1:(side:Int)=1:=by simpa using h
    omega
   rw[if_pos h]at q hcl
   exact⟨_,rfl,_,rfl,_,rfl,vh,vv,vc,vp,n,rs,outs,vals,cs,rfl,hh,hv,hc,hR,hO,hcl,hn,hcnt,q⟩
  .have h:¬ side=1:=by
    have h1:¬ (side:Int)=1:=by simpa using h
    omega
   rw[if_neg h]at q hcl
   exact⟨_,rfl,_,rfl,_,rfl,vh,vv,vc,vp,n,rs,outs,vals,cs,rfl,hh,hv,hc,hR,hO,hcl,hn,hcnt,q⟩
end
def f7(side:Nat)(t:List (List Frac))(cs:List Nat)(r:Nat):List Frac:=if side=1 then t.getD (cs.getD r 0) [] else cs.map λc=>at_ (t.getD r []) c
def ic(sp:List Frac)(b:List Bool):List Frac:=(List.range b.length).map λj=>if b.getD j false=true then at_ sp j else Vagraa.zero
def ku(side:Nat)(p:List (List Bool))(t:List (List Frac))(cs:List Nat):List (List Frac):=(List.range p.length).map λr=>ic (f7 side t cs r) (p.getD r [])
section
variable{P:Program}{w:World}{K:W.Frag}{mg:Str->Option Value}{base:Heap}{T:Addr}{C:Addr}
def Dh(K:W.Frag):Sp:=λvs H Q _=>∃ (vp vt vc:V) (side n:Nat) (p:List (List Bool)) (t:List (List Frac)) (cs:List Nat),vs=[vp,vt,.int (side:Nat),vc]/\rLt (rLt rBl) H vp p/\rLt (rLt (rFr K)) H vt t/\rLs K rNat H vc cs/\Rect p n /\
 ((side=1/\cs.length=p.length/\(∀ c∈cs,c<t.length)/\∀ b∈t,b.length=n)\/(side=0/\cs.length=n/\t.length=p.length/\∀ b∈t,∀ c∈cs,c<b.length)) /\
 ∀ q H',H q=none->Same H H'->rLt (rLt (rFr K)) H' (.ref q) (ku side p t cs)->Q (.ref q) H'
theorem gc:FnScope ["entries","packed","side","colours","table","row","row_entries","spread","colour","fraction","entry"] ["entries","packed","side","colours"] (au d_told_apart):=by trivial
theorem Cs{pN:Addr}(sN:∀ H,SqT K H pN (frV Vagraa.zero)){a b D:Addr}{xs:List V}{sp:List Frac}{bs:List Bool}{Z:L2.St}{g:TG}{H1:Hp}{vsl:List Nat}{te:TE}{tt:TT}{Q:VK}(hD:H1 D=none)(ha:SqL K H1 a xs)(hb:SqL K H1 b (bs.map V.bl))(pr:Paired (rFr K H1) xs sp)(hlen:bs.length=sp.length)(hl:bs.length<=1000)
  (turn:∀ (u:V) (bb:Bool) (H:Hp) (T:Addr) (kf:V->Hp->Prop) (k0:Hp->Prop),H T=none->(∀ y,(bb=true->y=u)->(bb=false->y=.ref pN)->kf y (upd H T (.tup [u,.bl bb])))->g (.ref T) (wipe Z vsl) (upd H T (.tup [u,.bl bb])) λZ2 H2=>wipe Z2 vsl=wipe Z vsl/\tt Z2 H2 λb H3=>if b=true then te Z2 H3 kf else k0 H3)
  (hd:∀ H zs,Same H1 H->H D=some (.lst zs)->Paired (rFr K H) zs (ic sp bs)->Q (.ref D) H):LcW (Itz K a b) g tt te vsl Z H1 D Q:=by
 have hxl:=eg pr
 refine lcZT (R:=rFr K) (K:=K) rFr.avT (λj=>if j<bs.length then some (if bs.getD j false=true then at_ sp j else Vagraa.zero) else none) hD ha hb (by rw[List.length_map];omega) (by rw[hxl,sizeLine_eq];omega) (λj u v H7 Tt acc hu hv7 s7 hy7 hT kf k0 kk kn=>?_) λH7 zs s7 hy7 p7=>?_
 .obtain⟨bb,hbb,rfl⟩:=fm hv7
  have hj:j<bs.length:=(List.getElem?_eq_some_iff.mp hbb).1
  obtain⟨f,hf,rf⟩:=eh pr hu
  have g1:at_ sp j=f:=by
   have:=de (vals:=sp) (i:=j) (by omega)
   rw[hf]at this
   exact(Option.some.inj this).symm
  have g2:bs.getD j false=bb:=by rw[List.getD_eq_getElem?_getD,hbb];rfl
  rw[if_pos hj,g1,g2]at kk
  refine turn u bb H7 Tt kf k0 hT λy h1 h2=>?_
  cases bb with
  | true=>
   rw[h1 rfl]
   exact kk _ _ _ rfl (.new hT) (rFr.mono _ _ _ _ (s7.trans (.new hT)) rf)
  | false=>
   rw[h2 rfl]
   exact kk _ _ _ rfl (.new hT) ⟨pN,rfl,sN _⟩
 .refine hd H7 zs s7 hy7 ?_
  have e:(List.range xs.length).filterMap (λj=>if j<bs.length then some (if bs.getD j false=true then at_ sp j else Vagraa.zero) else none)=ic sp bs:=by
   rw[hxl,<- hlen]
   unfold ic
   rw[<- d6]
   refine dj λj hj=>?_
   rw[if_pos (List.mem_range.mp hj)]
  rw[e]at p7
  exact p7
theorem N8(B:Blt mg)(hs:Gc mg "ROW_SIDE" 1)(hN:Gf K mg "NOUGHT" Vagraa.zero)(D:Df K mg "told_apart" d_told_apart ["entries","packed","side","colours"]):Fn P w K mg base CX0 1 "told_apart" ["entries","packed","side","colours"] (Dh K):=by
 refine D.ok gc (λvs H Q E h=>?_) (λf cdv A outer s H vs Q E hr h=>?_)
 .obtain⟨vp,vt,vc,side,n,p,t,cs,rfl,_⟩:=h
  rfl
 .obtain⟨vp,vt,vc,side,n,p,t,cs,rfl,hp,ht,hc,hR,hcase,q⟩:=h
  obtain⟨pN,hmN,sN⟩:=hN
  refine⟨_,af (bg (i:=4) gc.nd rfl (Or.inl rfl) (cu aj))
   (af (fj PassesOwn.never rfl (z6 rfl B.enumerate (aa (pv 0) aj)) (Fl rfl (di (bi (i:=5) gc.nd rfl (Or.inr rfl)) (di (bi (i:=6) gc.nd rfl (Or.inl rfl)) jt)))
    (af (cw (bp fe (pv 2) (br hs rfl) (bv _)) (aq (bg (i:=7) gc.nd rfl (Or.inl rfl) (bf bc (pv 1) (bf bc (pv 3) (pv 5) (λ_ _=>rfl)) (λ_ _=>rfl))))
     (aq (kc (i:=7) (own:=[("colour",8)]) rfl gc.nd rfl rfl rfl (cy (pv 3)) (b8 (by kernel_rfl)) (λ_ _ _ _ _=>bi (i:=8) gc.nd rfl (Or.inl rfl)) (λ_ _ _ _ _=>c8) (λ_ _ _ _ _=>bf (r:=rIxL K) bc (bf (r:=rIxL K) bc (pv 1) (pv 5) (λ_ _=>rfl)) (pv 8) (λ_ _=>rfl)))))
    (aq (cf (ju PySem.F.plainAttrs_list PySem.F.slot_list_append PySem.F.type_list_append d8 (pv 4) (aa (gv (own:=[("fraction",9),("entry",10)]) rfl gc.nd (Fi rfl B.zip (aa (pv 7) (aa (pv 6) aj))) (b8 (by kernel_rfl))
     (λ_ _ _ _ _=>tw (K:=K) (n:=2) rfl rfl (di (bi (i:=9) gc.nd rfl (Or.inl rfl)) (di (bi (i:=10) gc.nd rfl (Or.inl rfl)) jt))) (λ_ _ _ _ _=>c8) (λ_ _ _ _ _=>z7 (gm (pv 10)) (pv 9) (i8 (v:=.ref pN) rfl hmN rfl))) aj))))))
   (aq (az (pv 4)))),?_⟩
  obtain⟨ap,xp,rfl,hxp,prp,hlp⟩:=hp.len
  obtain⟨at1,xt,rfl,hxt,prt,hlt⟩:=ht.len
  obtain⟨ac,rfl,sc⟩:=rLs.nats.mp hc
  refine⟨Nat.zero_le _,λpp hpp=>?_⟩
  have s1:Same H (upd H pp (.lst [])):=.new hpp
  have hfew:=hR.few
  have hwide:=hR.wide
  refine⟨_,rfl,ap,xp,rfl,SqL.of (s1 _ _ hxp),Ah (K:=K) (a:=ap) (xs:=xp) (λi Z H'=>∃ v5 v6 v7 zs,Z=[some (.ref ap),some (.ref at1),some (.int (side:Nat)),some (.ref ac),some (.ref pp),v5,v6,v7,none,none,none]/\Same H H'/\H' pp=some (.lst zs)/\Paired (rNq (rLt (rFr K)) pp H') zs ((List.range i).map λr=>ic (f7 side t cs r) (p.getD r [])))
   ⟨none,none,none,[],rfl,s1,ak,.nil⟩ (λi Z H' _ ⟨_,_,_,_,_,s2,_⟩=>SqL.of (s2 _ _ hxp)) ?_ ?_⟩
  .rintro i x Z H' Tu hx ⟨v5,v6,v7,zs,rfl,s2,hp2,prz⟩ hTu
   have hi:i<p.length:=by
    have:=(List.getElem?_eq_some_iff.mp hx).1
    omega
   obtain⟨er,lr⟩:=hR.at_ hi
   obtain⟨u,hu,ru⟩:=gp prp er
   rw[hx]at hu
   cases hu
   have s3:Same H (upd H' Tu (.tup [.int (i:Nat),x])):=s2.trans (.new hTu)
   have hp3:(upd H' Tu (.tup [.int (i:Nat),x])) pp=some (.lst zs):=(Same.new hTu) _ _ hp2
   obtain⟨ab,rfl,hab⟩:=rLt.bls.mp (rLt.mono rBl.mono _ _ _ _ s3 ru)
   refine⟨Tu,_,rfl,.inl (.inl ak),rfl,_,_,rfl,_,_,rfl,rfl,?_⟩
   have prz3:=Dv (rLt.av rFr.avT) hp2 (Same.new (o:=.tup [.int (i:Nat),.ref ab]) hTu).sb prz
   refine⟨_,rfl,rfl,_,rfl,ite2 (λh=>?_) λh=>?_⟩
   .have h:side=1:=by
     have h1:(side:Int)=1:=by simpa using h
     omega
    obtain⟨_,hcl,hct,htl⟩:side=1/\cs.length=p.length/\(∀ c∈cs,c<t.length)/\∀ b∈t,b.length=n:=by
     rcases hcase with z|z
     .exact z
     .omega
    have ec:cs[i]? = some (cs.getD i 0):=by
     rw[List.getD_eq_getElem?_getD,List.getElem?_eq_getElem (by omega)]
     rfl
    have hlt2:=hct _ (List.mem_of_getElem? ec)
    have et:t[cs.getD i 0]? = some (t.getD (cs.getD i 0) []):=by
     rw[List.getD_eq_getElem?_getD (l:=t),List.getElem?_eq_getElem hlt2]
     rfl
    obtain⟨u,hu,ru⟩:=gp prt et
    have hsp:f7 side t cs i=t.getD (cs.getD i 0) []:=by unfold f7;rw[if_pos h]
    have hspl:(f7 side t cs i).length=n:=by rw[hsp];exact htl _ (List.mem_of_getElem? et)
    obtain⟨as,xs,rfl,hxs,prs,hls⟩:=(rLt.mono rFr.mono _ _ _ _ s3 ru).len
    rw[<- hsp]at prs
    have s4:Same (upd H' Tu (.tup [.int (i:Nat),.ref ab])) (upd H' Tu (.tup [.int (i:Nat),.ref ab])):=.refl _
    have hp4:=hp3
    have hab4:=hab
    refine⟨_,rfl,_,rfl,_,rfl,ac,_,_,_,rfl,rfl,s3.seq sc,ck (j:=i) rfl (by rw[List.getElem?_map,ec];rfl),at1,_,_,_,rfl,rfl,SqL.of (s3 _ _ hxt),ck (j:=cs.getD i 0) rfl hu,?_⟩
    refine⟨_,rfl,.inl ⟨rfl,_,SqL.of hp4⟩,?_⟩
    dsimp only [n6]
    refine c9 ?_
    refine⟨_,rfl,_,rfl,_,ab,_,_,rfl,(SqL.of hxs),SqL.of hab4,λD3 hD3=>Cs sN (bs:=p.getD i []) (sp:=f7 side t cs i) hD3 (SqL.of hxs) (SqL.of hab4) prs (by rw[hspl];exact lr) (by omega) (λu bb H5 T5 kf k0 hT5 kk=>?_) λH6 ws s6 hw p6=>?_⟩
    .refine⟨T5,_,rfl,.inl (.inl ak),rfl,_,_,rfl,_,_,rfl,rfl,rfl,?_⟩
     dsimp only [tYes]
     rw[if_pos rfl]
     refine⟨_,rfl,_,rfl,?_⟩
     cases bb with
     | true=>exact iteT ⟨_,rfl,kk _ (λ_=>rfl) (λz=>by cases z)⟩
     | false=>exact iteF (kk _ (λz=>by cases z) (λ_=>rfl))
    .have hp6:=s6 _ _ hp4
     have hzl:=eg prz
     rw[List.length_map,List.length_range]at hzl
     refine⟨pp,_,_,rfl,rfl,hp6,(by rw[hzl,sizeLine_eq];omega),?_⟩
     have ne6:V.ref D3≠.ref pp:=λz=>by
      cases z
      rw[hp4]at hD3
      cases hD3
     refine⟨_,_,_,zs++[.ref D3],rfl,.set hpp ((s3.trans s4).trans s6),ak,?_⟩
     rw[List.range_succ,List.map_append]
     exact gg (Dv (rLt.av rFr.avT) hp3 (Sb.trans (s4.trans s6).sb Sb.upd) prz3) ⟨rLt.av rFr.avT pp _ _ _ _ _ hp6 Sb.upd ne6 ⟨D3,ws,rfl,hw,p6⟩,ne6⟩
   .have h:¬ side=1:=by
     have h1:¬ (side:Int)=1:=by simpa using h
     omega
    obtain⟨_,hcl,htl,hcb⟩:side=0/\cs.length=n/\t.length=p.length/\∀ b∈t,∀ c∈cs,c<b.length:=by
     rcases hcase with z|z
     .omega
     .exact z
    have et:t[i]? = some (t.getD i []):=by
     rw[List.getD_eq_getElem?_getD,List.getElem?_eq_getElem (by omega)]
     rfl
    obtain⟨u,hu,ru⟩:=gp prt et
    have hsp:f7 side t cs i=cs.map λc=>at_ (t.getD i []) c:=by unfold f7;rw[if_neg h]
    have hspl:(f7 side t cs i).length=n:=by rw[hsp,List.length_map];exact hcl
    obtain⟨as,xs,rfl,hxs,prs,hls⟩:=(rLt.mono rFr.mono _ _ _ _ s3 ru).len
    dsimp only [m7,tAsg]
    refine c9 ?_
    refine⟨_,rfl,ac,rfl,⟨_,s3.seq sc⟩,λD2 hD2=>lcLT (R:=rFr K) (K:=K) rFr.avT (λj=>(cs[j]?).map λc=>at_ (t.getD i []) c) hD2 (s3.seq sc) (by rw[List.length_map,sizeLine_eq];omega) (λj y H8 acc hy8 s8 hacc kf k0 kk kn=>?_) λH4 ys s4 hz p8=>?_⟩
    .obtain⟨c,hc8,rfl⟩:=fm hy8
     rw[hc8]at kk
     have hcb2:=hcb _ (List.mem_of_getElem? et) c (List.mem_of_getElem? hc8)
     obtain⟨u1,hu1,r9⟩:=lq prs (i:=c) hcb2
     refine⟨rfl,?_⟩
     dsimp only [tYes]
     rw[if_pos rfl]
     exact⟨_,rfl,_,rfl,at1,_,_,_,rfl,rfl,SqL.of (s8 _ _ (s3 _ _ hxt)),ck (j:=i) rfl hu,_,rfl,as,_,_,_,rfl,rfl,SqL.of (s8 _ _ hxs),ck (j:=c) rfl hu1,kk _ _ _ rfl (.refl _) (rFr.mono _ _ _ _ s8 r9)⟩
    .rw[List.length_map,dw,<- hsp]at p8
     have hp4:=s4 _ _ hp3
     have hab4:=s4 _ _ hab
     refine⟨_,rfl,.inl ⟨rfl,_,SqL.of hp4⟩,?_⟩
     dsimp only [n6]
     refine c9 ?_
     refine⟨_,rfl,_,rfl,_,ab,_,_,rfl,(SqL.of hz),SqL.of hab4,λD3 hD3=>Cs sN (bs:=p.getD i []) (sp:=f7 side t cs i) hD3 (SqL.of hz) (SqL.of hab4) p8 (by rw[hspl];exact lr) (by omega) (λu bb H5 T5 kf k0 hT5 kk=>?_) λH6 ws s6 hw p6=>?_⟩
     .refine⟨T5,_,rfl,.inl (.inl ak),rfl,_,_,rfl,_,_,rfl,rfl,rfl,?_⟩
      dsimp only [tYes]
      rw[if_pos rfl]
      refine⟨_,rfl,_,rfl,?_⟩
      cases bb with
      | true=>exact iteT ⟨_,rfl,kk _ (λ_=>rfl) (λz=>by cases z)⟩
      | false=>exact iteF (kk _ (λz=>by cases z) (λ_=>rfl))
     .have hp6:=s6 _ _ hp4
      have hzl:=eg prz
      rw[List.length_map,List.length_range]at hzl
      refine⟨pp,_,_,rfl,rfl,hp6,(by rw[hzl,sizeLine_eq];omega),?_⟩
      have ne6:V.ref D3≠.ref pp:=λz=>by
       cases z
       rw[hp4]at hD3
       cases hD3
      refine⟨_,_,_,zs++[.ref D3],rfl,.set hpp ((s3.trans s4).trans s6),ak,?_⟩
      rw[List.range_succ,List.map_append]
      exact gg (Dv (rLt.av rFr.avT) hp3 (Sb.trans (s4.trans s6).sb Sb.upd) prz3) ⟨rLt.av rFr.avT pp _ _ _ _ _ hp6 Sb.upd ne6 ⟨D3,ws,rfl,hw,p6⟩,ne6⟩
  .rintro Z H' ⟨v5,v6,v7,zs,rfl,s2,hp2,prz⟩
   rw[hlp]at prz
   exact⟨_,rfl,q pp H' hpp s2 ⟨pp,zs,rfl,hp2,Js prz⟩⟩
end
end Sp
end
section
namespace L2
open PySem PySem.Spec PyProof.Rows
section
variable{X:Cx}
def M6(K:W.Frag):V->List V->Hp->VK->Prop:=λx vs H Q=>∃ l b xs zs,x=.ref l/\vs=[.ref b]/\H l=some (.lst xs)/\SqT K H b zs/\xs.length+zs.length<=sizeLine/\Q .non (upd H l (.lst (xs++zs)))
theorem ye:MtM X "list.extend" (M6 X.K):=by
 intro pins s Z H x vs v us Q I rx rv h
 obtain⟨l,b,xs,zs,rfl,rfl,hH,hB,hz,q⟩:=h
 cases rx
 obtain⟨u,rfl,ru⟩:=rv.one
 cases ru
 obtain⟨z,its,n,r,hl,e⟩:=I.lstM hH
 obtain⟨its2,r2,⟨⟨c2,d2,dt2,sl2⟩,e2,ec2,n2,ed2⟩,_⟩:=I.tuple hB
 simp only at ec2 ed2
 subst ec2 ed2
 have hl2:=r2.length
 have hsz:its.toArray.size+its2.toArray.size<=sizeLine:=by rw[List.size_toArray,List.size_toArray];omega
 have hlong:¬ (!its.toArray.isEmpty&&Builtin.List.listTooLong (its.toArray.size+its2.toArray.size))=true:=by
  rw[Fq hsz,Bool.and_false]
  exact Bool.false_ne_true
 refine call_meets F.slot_list_extend ⟨_,e,rfl⟩ F.entry_list_extend (F.args_list_extend_2 _ _)
  (Cd l its.toArray n b its2.toArray n2 d2 sl2 hlong (by rw[List.size_toArray];omega) (by omega)) ⟨e,e2,?_⟩
 refine⟨.non,_,I.lset (its':=its++its2) hH e (by simp) (r.append r2) ?_,rfl,q⟩
 rw[List.length_append]
 omega
end
end L2
namespace Sp
open PySem PySem.Spec PyProof.Rows L2
open VagraLine (at_)
open Vagraa (Frac)
structure Errs(K:W.Frag)(mg:Str->Option Value)(er:Int->Addr):Prop where
 e1:Err K mg "OutOfRange" (er (-1))
 e2:Err K mg "WrongForm" (er (-2))
 e3:Err K mg "UseNotThere" (er (-3))
 e4:Err K mg "NoPoint" (er (-4))
 e5:Err K mg "RunFault" (er (-5))
 e6:Err K mg "TooHeavy" (er (-6))
 e7:Err K mg "TooMany" (er (-7))
 e8:Err K mg "NotProper" (er (-8))
 inj:∀ i j:Int,-8<=i->i<=-1->-8<=j->j<=-1->er i=er j->i=j
structure Bounds(mg:Str->Option Value):Prop where
 col:Gc mg "COLUMN_SIDE" 0
 row:Gc mg "ROW_SIDE" 1
 ord:Orders mg
 inputs:Gc mg "MOST_INPUTS" 12
 lines:Gc mg "MOST_LINES" 80
 outs:Gc mg "MOST_OUTS" 12
 colour:Gc mg "GREATEST_COLOUR" 99
 least:Gc mg "MOST_COLUMNS_FOR_LEAST" 8
 told:Gc mg "MOST_TOLD_WEIGHT" 4000
section
variable{P:Program}{w:World}{K:W.Frag}{mg:Str->Option Value}{base:Heap}{T:Addr}{C:Addr}{er:Int->Addr}
def inB(x lo hi:Int):Bool:=decide (lo<=x)&&decide (x<=hi)
def i0:Sp:=λvs H Q _=>∃ x lo hi:Int,vs=[.int x,.int lo,.int hi]/\Q (.bl (inB x lo hi)) H
theorem Jb:FnScope ["number","least","greatest"] ["number","least","greatest"] (au d_within):=by trivial
theorem J3(D:Df K mg "within" d_within ["number","least","greatest"]):Fn P w K mg base CX0 1 "within" ["number","least","greatest"] i0:=by
 refine D.ok Jb (λvs H Q E h=>?_) (λf cdv A outer s H vs Q E hr h=>?_)
 .obtain⟨x,lo,hi,rfl,_⟩:=h
  rfl
 .obtain⟨x,lo,hi,rfl,q⟩:=h
  refine⟨_,aq (az (Jy (i9 Rb (pv 1) (pv 0) (bv _)) (Jw (i9 Rb (pv 0) (pv 2) (bv _))))),?_⟩
  exact Hv (decide (lo<=x)) (decide (x<=hi)) (λQ q=>⟨_,rfl,_,rfl,_,_,rfl,rfl,q⟩) (λ_ Q q=>⟨_,rfl,_,rfl,_,_,rfl,rfl,q⟩) q
def gt(er:Int->Addr)(lo hi:Int):Sp:=λvs H Q E=>∃ x:Int,vs=[.int x]/\(inB x lo hi=true->Q .non H)/\(inB x lo hi=false->E (.ref (er (-1))) none H)
theorem Qn:FnScope ["side"] ["side"] (au d_need_side):=by trivial
theorem Rh(X:Errs K mg er)(C:Bounds mg)(F:Fn P w K mg base CX0 1 "within" ["number","least","greatest"] i0)(D:Df K mg "need_side" d_need_side ["side"]):Fn P w K mg base (CXE P w) 2 "need_side" ["side"] (gt er 0 1):=by
 refine D.okE Qn (λvs H Q E h=>?_) (λf cdv A outer s H vs Q E hr h=>?_)
 .obtain⟨x,rfl,_⟩:=h
  rfl
 .obtain⟨x,rfl,q,qe⟩:=h
  refine⟨_,aq (cw (kq (gm (bh F hr rfl bo (aa (pv 0) (aa (br C.col rfl) (aa (br C.row rfl) aj)))))) (aq (cn cz rfl rfl X.e1.mg X.e1.ex)) bu),?_⟩
  refine⟨_,rfl,x,0,1,rfl,_,rfl,?_⟩
  cases hb:inB x 0 1 with
  | true=>exact iteF (q hb)
  | false=>exact iteT (qe hb)
theorem Qp:FnScope ["order"] ["order"] (au d_need_order):=by trivial
theorem Rn(X:Errs K mg er)(C:Bounds mg)(F:Fn P w K mg base CX0 1 "within" ["number","least","greatest"] i0)(D:Df K mg "need_order" d_need_order ["order"]):Fn P w K mg base (CXE P w) 2 "need_order" ["order"] (gt er 0 2):=by
 refine D.okE Qp (λvs H Q E h=>?_) (λf cdv A outer s H vs Q E hr h=>?_)
 .obtain⟨x,rfl,_⟩:=h
  rfl
 .obtain⟨x,rfl,q,qe⟩:=h
  refine⟨_,aq (cw (kq (gm (bh F hr rfl bo (aa (pv 0) (aa (br C.ord.number rfl) (aa (br C.ord.taken rfl) aj)))))) (aq (cn cz rfl rfl X.e1.mg X.e1.ex)) bu),?_⟩
  refine⟨_,rfl,x,0,2,rfl,_,rfl,?_⟩
  cases hb:inB x 0 2 with
  | true=>exact iteF (q hb)
  | false=>exact iteT (qe hb)
def ua(l:List Int)(m:Nat):Bool:=inB (l.length:Nat) 1 12&&l.all λz=>inB z 0 ((m:Int) - 1)
def n8(K:W.Frag)(er:Int->Addr):Sp:=λvs H Q E=>∃ (vo:V) (l:List Int) (m:Nat),vs=[vo,.int (m:Nat)]/\rLs K rInt H vo l/\l.length<=1000000/\(ua l m=true->∀ H',Same H H'->Q .non H')/\(ua l m=false->∀ H',Same H H'->E (.ref (er (-2))) none H')
theorem zo:FnScope ["outs","how_many_lines","out"] ["outs","how_many_lines"] (au d_need_outs):=by trivial
theorem Nu(B:Blt mg)(X:Errs K mg er)(C:Bounds mg)(F:Fn P w K mg base CX0 1 "within" ["number","least","greatest"] i0)(D:Df K mg "need_outs" d_need_outs ["outs","how_many_lines"]):Fn P w K mg base (CXE P w) 2 "need_outs" ["outs","how_many_lines"] (n8 K er):=by
 refine D.okE zo (λvs H Q E h=>?_) (λf cdv A outer s H vs Q E hr h=>?_)
 .obtain⟨vo,l,m,rfl,_⟩:=h
  rfl
 .obtain⟨vo,l,m,rfl,ho,hlen,q,qe⟩:=h
  obtain⟨ao,rfl,so⟩:=rLs.ints.mp ho
  refine⟨_,af (cw (kq (gm (bh F hr rfl bo (aa (bj be rfl B.len PySem.boot_len (aa (pv 0) aj)) (aa ax (aa (br C.outs rfl) aj)))))) (aq (cn cz rfl rfl X.e2.mg X.e2.ex)) bu)
   (aq (cw (kq (gm (bj (Pz rfl) rfl B.all boot_all (aa (gv (own:=[("out",2)]) rfl zo.nd (cy (pv 0)) (b8 (by kernel_rfl)) (λ_ _ _ _ _=>bi (i:=2) zo.nd rfl (Or.inl rfl)) (λ_ _ _ _ _=>c8)
    (λ_ _ _ _ _=>bh F hr rfl bo (aa (pv 2) (aa ax (aa (ge Tm (pv 1) ax) aj))))) aj)))) (aq (cn cz rfl rfl X.e2.mg X.e2.ex)) bu)),?_⟩
  refine⟨_,rfl,ao,_,rfl,.inl so,_,_,_,rfl,_,rfl,?_⟩
  rw[List.length_map]
  unfold ua at q qe
  cases hb:inB (l.length:Nat) 1 12 with
  | false=>exact iteT (qe (by rw[hb];rfl) H (.refl H))
  | true=>
   rw[hb]at q qe
   refine iteF ?_
   dsimp only [k7,tCB,n6,tIfS,tNot,tB]
   refine c9 ?_
   refine⟨_,rfl,ao,rfl,⟨_,so⟩,λD2 hD2=>lcL (R:=rBl) (K:=K) rBl.avT.av (λj=>(l[j]?).map λz=>inB z 0 ((m:Int) - 1)) hD2 so (by rw[List.length_map,sizeLine_eq];omega) (λj y H8 acc hy8 s8 hacc kf k0 kk kn=>?_) λH8 zs s8 hz p8=>?_⟩
   .obtain⟨z,hz8,rfl⟩:=fm hy8
    rw[hz8]at kk
    refine⟨rfl,?_⟩
    dsimp only [tYes]
    rw[if_pos rfl]
    exact⟨_,rfl,_,rfl,_,_,rfl,rfl,z,0,_,rfl,kk _ _ _ rfl (.refl _) rfl (by intro z;cases z)⟩
   .rw[List.length_map,dw]at p8
    rw[fg p8]at hz
    refine⟨D2,_,rfl,SqL.of hz,_,rfl,?_⟩
    rw[List.all_map,show(id∘λz:Int=>inB z 0 ((m:Int) - 1))=(λz:Int=>inB z 0 ((m:Int) - 1)) from rfl]
    cases hall:l.all λz=>inB z 0 ((m:Int) - 1) with
    | true=>exact iteF (q (by rw[hall];rfl) H8 s8)
    | false=>exact iteT (qe (by rw[hall];rfl) H8 s8)
def ub(l:List Int)(n:Nat):Bool:=decide (l.length=n)&&l.all λz=>inB z 0 99
def j7(K:W.Frag)(er:Int->Addr):Sp:=λvs H Q E=>∃ (vo:V) (l:List Int) (n:Nat),vs=[vo,.int (n:Nat)]/\rLs K rInt H vo l/\l.length<=1000000/\(ub l n=true->∀ H',Same H H'->Q .non H')/\(ub l n=false->∀ H',Same H H'->E (.ref (er (-2))) none H')
theorem zp:FnScope ["colours","how_many_columns","colour"] ["colours","how_many_columns"] (au d_need_colours):=by trivial
theorem Nv(B:Blt mg)(X:Errs K mg er)(C:Bounds mg)(F:Fn P w K mg base CX0 1 "within" ["number","least","greatest"] i0)(D:Df K mg "need_colours" d_need_colours ["colours","how_many_columns"]):Fn P w K mg base (CXE P w) 2 "need_colours" ["colours","how_many_columns"] (j7 K er):=by
 refine D.okE zp (λvs H Q E h=>?_) (λf cdv A outer s H vs Q E hr h=>?_)
 .obtain⟨vo,l,m,rfl,_⟩:=h
  rfl
 .obtain⟨vo,l,n,rfl,ho,hlen,q,qe⟩:=h
  obtain⟨ao,rfl,so⟩:=rLs.ints.mp ho
  refine⟨_,af (cw (bp J0 (bj be rfl B.len PySem.boot_len (aa (pv 0) aj)) (pv 1) (bv _)) (aq (cn cz rfl rfl X.e2.mg X.e2.ex)) bu)
   (aq (cw (kq (gm (bj (Pz rfl) rfl B.all boot_all (aa (gv (own:=[("colour",2)]) rfl zp.nd (cy (pv 0)) (b8 (by kernel_rfl)) (λ_ _ _ _ _=>bi (i:=2) zp.nd rfl (Or.inl rfl)) (λ_ _ _ _ _=>c8)
    (λ_ _ _ _ _=>bh F hr rfl bo (aa (pv 2) (aa ax (aa (br C.colour rfl) aj))))) aj)))) (aq (cn cz rfl rfl X.e2.mg X.e2.ex)) bu)),?_⟩
  refine⟨_,rfl,ao,_,rfl,.inl so,_,rfl,rfl,_,rfl,?_⟩
  rw[List.length_map,f9]
  unfold ub at q qe
  refine ite2 (λh=>?_) λh=>?_
  .have h:¬ l.length=n:=λz=>by
    rw[z]at h
    simp at h
   exact qe (by rw[decide_eq_false h];rfl) H (.refl H)
  .have h:l.length=n:=by
    have h1:((l.length:Nat):Int)=(n:Int):=by simpa using h
    omega
   rw[decide_eq_true h]at q qe
   dsimp only [k7,tCB,n6,tIfS,tNot,tB]
   refine c9 ?_
   refine⟨_,rfl,ao,rfl,⟨_,so⟩,λD2 hD2=>lcL (R:=rBl) (K:=K) rBl.avT.av (λj=>(l[j]?).map λz=>inB z 0 99) hD2 so (by rw[List.length_map,sizeLine_eq];omega) (λj y H8 acc hy8 s8 hacc kf k0 kk kn=>?_) λH8 zs s8 hz p8=>?_⟩
   .obtain⟨z,hz8,rfl⟩:=fm hy8
    rw[hz8]at kk
    refine⟨rfl,?_⟩
    dsimp only [tYes]
    rw[if_pos rfl]
    exact⟨_,rfl,z,0,_,rfl,kk _ _ _ rfl (.refl _) rfl (by intro z;cases z)⟩
   .rw[List.length_map,dw]at p8
    rw[fg p8]at hz
    refine⟨D2,_,rfl,SqL.of hz,_,rfl,?_⟩
    rw[List.all_map,show(id∘λz:Int=>inB z 0 99)=(λz:Int=>inB z 0 99) from rfl]
    cases hall:l.all λz=>inB z 0 99 with
    | true=>exact iteF (q (by rw[hall];rfl) H8 s8)
    | false=>exact iteT (qe (by rw[hall];rfl) H8 s8)
def PtAt(K:W.Frag)(H:Hp)(vp:V)(n:Nat):Option (List Frac)->Prop
 | none=>vp=.non
 | some pts=>rLs K (rFr K) H vp pts/\pts.length=n/\∀ f∈pts,Low f
theorem PtAt.mono{H H':Hp}{vp:V}{n:Nat}{pt:Option (List Frac)}(s:Same H H')(h:PtAt K H vp n pt):PtAt K H' vp n pt:=by
 cases pt with
 | none=>exact h
 | some pts=>exact⟨rLs.mono rFr.mono _ _ _ _ s h.1,h.2⟩
structure CodeOk(n:Nat)(rs:List (List Int))(outs:List Nat):Prop where
 ok:∀ a∈rs,RawOk a
 uses:cx n 0 rs=true
 few:rs.length<=80
 n12:n<=12
 lt:∀ o∈outs,o<rs.length
 o12:outs.length<=12
def j6(K:W.Frag)(C:Addr)(er:Int->Addr):Sp:=λvs H Q E=>∃ (vh vp:V) (n:Nat) (rs:List (List Int)) (outs:List Nat) (pt:Option (List Frac)),vs=[vh]/\fc K C H vh n rs outs vp/\CodeOk n rs outs/\PtAt K H vp n pt /\
 (pt=none->∀ H',Same H H'->E (.ref (er (-4))) none H') /\
 (∀ pts e,pt=some pts->VagraLine.run (some Vagrae.HEAVY) pts (rs.map bz)=.error e->∀ H',Same H H'->E (.ref (er (-5))) none H') /\
 (∀ pts vals v H',pt=some pts->VagraLine.run (some Vagrae.HEAVY) pts (rs.map bz)=.ok vals->RunOk n rs vals->Same H H'->rLs K (rFr K) H' v vals->Q v H')
theorem A9:FnScope ["held","ran"] ["held"] (au d_need_values):=by trivial
theorem J5(hC:HCls K C)(X:Errs K mg er)(Cf:Faults mg)(F:Fn P w K mg base CX0 46 "run" ["lines","point"] (Mj K))(D:Df K mg "need_values" d_need_values ["held"]):Fn P w K mg base (CXE P w) 47 "need_values" ["held"] (j6 K C er):=by
 refine D.okE A9 (λvs H Q E h=>?_) (λf cdv A outer s H vs Q E hr h=>?_)
 .obtain⟨vh,vp,n,rs,outs,pt,rfl,_⟩:=h
  rfl
 .obtain⟨vh,vp,n,rs,outs,pt,rfl,hh,hc,hp,q4,q5,q⟩:=h
  refine⟨_,af (cw (bp Pl (fb (pv 0) rfl) yd (bv _)) (aq (cn cz rfl rfl X.e4.mg X.e4.ex)) bu)
   (af (bg (i:=1) A9.nd rfl (Or.inl rfl) (bh F hr rfl bo (aa (fb (pv 0) rfl) (aa (fb (pv 0) rfl) aj))))
   (af (cw (bp J0 (bf bq (pv 1) ax (λ_ _=>rfl)) (br Cf.no rfl) (bv _)) (aq (cn cz rfl rfl X.e5.mg X.e5.ex)) bu)
   (aq (az (bf bq (pv 1) ax (λ_ _=>rfl)))))),?_⟩
  obtain⟨_,⟨b,C2,dx2,fs2,u2,b1,b2,b3,b4,b5,hl⟩,_,⟨a,C1,dx,fs,u,e1,e2,e3,e4,e5,e6⟩⟩:=hh.fld hC
  subst e6
  refine⟨_,rfl,a,C1,dx,fs,u,e1,e2,e3,e4,e5,rfl,_,rfl,?_⟩
  cases pt with
  | none=>
   have hp:u=.non:=hp
   subst hp
   exact iteT (q4 rfl H (.refl H))
  | some pts=>
   obtain⟨hpl,hpn,hlow⟩:=hp
   obtain⟨ap,xs,eu,sp,prp⟩:=id hpl
   subst eu
   refine iteF ⟨_,rfl,b,C2,dx2,fs2,u2,b1,b2,b3,b4,b5,_,rfl,a,C1,dx,fs,_,e1,e2,e3,e4,e5,u2,_,rs,pts,n,rfl,hl,hc.ok,hc.uses,(by have:=hc.few;omega),hpl,hpn,hlow,λvals fault p qa H1 hres s1 hp0 hp1 r1=>?_⟩
   have st:SqT K H1 p [.ref qa,.int (fault:Nat)]:=.inl (.inl hp1)
   refine⟨_,rfl,p,_,_,_,rfl,rfl,st,rfl,rfl,_,rfl,?_⟩
   rw[f9]
   rcases hres with ⟨h1,h2,h3,h4⟩|⟨h1,h2⟩
   .subst h2
    refine iteF ⟨_,rfl,p,_,_,_,rfl,rfl,st,rfl,?_⟩
    exact q pts vals _ H1 rfl h1 (RunOk.of h1 h4 hc.ok hc.uses hc.few) s1 r1.ls
   .have:(!decide ((fault:Int)=0))=true:=by
     rw[decide_eq_false (by omega)]
     rfl
    rw[this]
    exact iteT (q5 pts _ rfl h1 H1 s1)
def P4(t:List (List Frac))(m:Nat):List Int:=(t.length:Int)::(m:Int)::VagraLine.fracsTold t.flatten
def qh(t:List (List Frac)):Bool:=t.flatten.any λa=>decide (Vagrae.LONG<Vagraa.weight a)
def A5(K:W.Frag)(er:Int->Addr):Sp:=λvs H Q E=>∃ (vt:V) (t:List (List Frac)) (m:Nat),vs=[vt,.int (m:Nat)]/\rLt (rLt (rFr K)) H vt t/\t.length<=1000/\(∀ b∈t,b.length<=1000) /\
 (qh t=true->∀ H',Same H H'->E (.ref (er (-6))) none H')/\(qh t=false->∀ p H',H p=none->Same H H'->rLt rInt H' (.ref p) (P4 t m)->Q (.ref p) H')
theorem zm:FnScope ["table","how_many_columns","told","row","fraction"] ["table","how_many_columns"] (au d_tell_table):=by trivial
theorem Gd:∀ (l:List (List Frac)),(∀ b∈l,b.length<=1000)->l.flatten.length<=l.length*1000
 | [],_=>Nat.le_refl _
 | b::l,h=>by
  have ih:=Gd l λc hc=>h c (List.mem_cons_of_mem _ hc)
  have hb:=h b (List.mem_cons_self ..)
  rw[List.flatten_cons,List.length_append,List.length_cons]
  omega
theorem L8(l:List Frac):(VagraLine.fracsTold l).length=2*l.length:=by
 unfold VagraLine.fracsTold
 induction l with
 | nil=>rfl
 | cons a l ih=>
  rw[List.flatMap_cons,List.length_append,ih]
  show 2+2*l.length=2*(l.length+1)
  omega
theorem Id(l:List Frac)(f:Frac):VagraLine.fracsTold (l++[f])=VagraLine.fracsTold l++[f.num,(f.den:Int)]:=by
 unfold VagraLine.fracsTold
 rw[List.flatMap_append]
 rfl
theorem Rg(B:Blt mg)(X:Errs K mg er)(Cb:Bounds mg)(F:Fn P w K mg base CX0 1 "weight" ["fraction"] (qx K))(D:Df K mg "tell_table" d_tell_table ["table","how_many_columns"]):Fn P w K mg base (CXE P w) 2 "tell_table" ["table","how_many_columns"] (A5 K er):=by
 refine D.okE zm (λvs H Q E h=>?_) (λf cdv A outer s H vs Q E hr h=>?_)
 .obtain⟨vt,t,m,rfl,_⟩:=h
  rfl
 .obtain⟨vt,t,m,rfl,ht,htl,htw,qe,q⟩:=h
  obtain⟨at1,xt,rfl,hxt,prt,hlt⟩:=ht.len
  refine⟨_,af (bg (i:=2) zm.nd rfl (Or.inl rfl) (cu (aa (bj be rfl B.len PySem.boot_len (aa (pv 0) aj)) (aa (pv 1) aj))))
   (af (fj m9 rfl (cy (pv 0)) (bi (i:=3) zm.nd rfl (Or.inl rfl))
    (aq (fj m9 rfl (cy (pv 3)) (bi (i:=4) zm.nd rfl (Or.inl rfl))
     (af (cw (bp Dy (bh F hr rfl bo (aa (pv 4) aj)) (br Cb.told rfl) (bv _)) (aq (cn cz rfl rfl X.e6.mg X.e6.ex)) bu)
     (aq (cf (ju PySem.F.plainAttrs_list PySem.F.slot_list_extend PySem.F.type_list_extend ye (pv 2) (aa (pv 4) aj))))))))
   (aq (az (pv 2)))),?_⟩
  refine⟨_,rfl,at1,_,rfl,.inl (SqL.of hxt),_,rfl,(by show 2<=sizeLine;decide),λpp hpp=>?_⟩
  rw[hlt]
  have s1:Same H (upd H pp (.lst [.int (t.length:Nat),.int (m:Nat)])):=.new hpp
  have whole:∀ (l:List Frac) (f:Frac) (r:List Frac),t.flatten=l++f::r->decide (Vagrae.LONG<Vagraa.weight f)=true->qh t=true:=λl f r e hf=>by
   unfold qh
   rw[e,List.any_append,List.any_cons,hf]
   simp
  refine⟨_,rfl,at1,rfl,⟨_,SqL.of (s1 _ _ hxt)⟩,ft (K:=K) (a:=at1) (xs:=xt) (λi Z H'=>∃ v3 v4,Z=[some (.ref at1),some (.int (m:Nat)),some (.ref pp),v3,v4]/\Same H H'/\H' pp=some (.lst (((t.length:Int)::(m:Int)::VagraLine.fracsTold (t.take i).flatten).map V.int))/\((t.take i).flatten.any λa=>decide (Vagrae.LONG<Vagraa.weight a))=false)
   ⟨none,none,rfl,s1,ak,rfl⟩ (λi Z H' _ ⟨_,_,_,s2,_⟩=>SqL.of (s2 _ _ hxt)) ?_ ?_⟩
  .rintro i x Z H' hx ⟨v3,v4,rfl,s2,hp2,hany⟩
   obtain⟨b,hb,rb⟩:=eh prt hx
   have hi:i<t.length:=(List.getElem?_eq_some_iff.mp hb).1
   have hbw:=htw b (List.mem_of_getElem? hb)
   obtain⟨ab,xb,rfl,hxb,prb,hlb⟩:=rb.len
   have hti:=Gd (t.take i) λc hc=>htw c (List.mem_of_mem_take hc)
   rw[List.length_take]at hti
   have hsplit:t.flatten=(t.take i).flatten++(b++(t.drop (i+1)).flatten):=by
    have h4:t.drop i=b::t.drop (i+1):=by
     rw[List.drop_eq_getElem_cons hi]
     rw[List.getElem?_eq_getElem hi]at hb
     cases hb
     rfl
    have:t=t.take i++b::t.drop (i+1):=by rw[<- h4,List.take_append_drop]
    rw[<- List.flatten_cons,<- List.flatten_append,<- this]
   refine⟨_,rfl,ab,rfl,⟨_,SqL.of (s2 _ _ hxb)⟩,ft (K:=K) (a:=ab) (xs:=xb) (λj Z H'=>∃ v4,Z=[some (.ref at1),some (.int (m:Nat)),some (.ref pp),some (.ref ab),v4]/\Same H H'/\H' pp=some (.lst (((t.length:Int)::(m:Int)::VagraLine.fracsTold ((t.take i).flatten++b.take j)).map V.int))/\(((t.take i).flatten++b.take j).any λa=>decide (Vagrae.LONG<Vagraa.weight a))=false)
    ⟨_,rfl,s2,(by rw[List.take_zero,List.append_nil];exact hp2),(by rw[List.take_zero,List.append_nil];exact hany)⟩ (λj Z H' _ ⟨_,_,s3,_⟩=>SqL.of (s3 _ _ hxb)) ?_ ?_⟩
   .rintro j y Z H3 hy ⟨v4,rfl,s3,hp3,hany3⟩
    obtain⟨g,hg,rg⟩:=eh prb hy
    have hj:j<b.length:=(List.getElem?_eq_some_iff.mp hg).1
    have rg3:=rFr.mono _ _ _ _ s3 rg
    refine⟨_,rfl,y,g,rfl,rg3,_,_,rfl,rfl,_,rfl,ite2 (λh=>?_) λh=>?_⟩
    .have h:Vagrae.LONG<Vagraa.weight g:=by
      have:=of_decide_eq_true h
      show 4000<_
      omega
     refine qe (whole ((t.take i).flatten++b.take j) g (b.drop (j+1)++(t.drop (i+1)).flatten) ?_ (decide_eq_true h)) H3 s3
     have h4:b.drop j=g::b.drop (j+1):=by
      rw[List.drop_eq_getElem_cons hj]
      rw[List.getElem?_eq_getElem hj]at hg
      cases hg
      rfl
     rw[hsplit,List.append_assoc,<- List.cons_append,<- h4,<- List.append_assoc (b.take j),List.take_append_drop]
    .have h:¬ Vagrae.LONG<Vagraa.weight g:=λz=>h (decide_eq_true (by
      have:4000<Vagraa.weight g:=z
      omega))
     obtain⟨ag,rfl,sg⟩:=rg3
     refine⟨_,rfl,.inl ⟨rfl,_,SqL.of hp3⟩,_,rfl,pp,ag,_,_,rfl,rfl,hp3,sg,?_,?_⟩
     .rw[List.length_map,List.length_cons,List.length_cons,L8,List.length_append,List.length_take,sizeLine_eq]
      show _+2<=_
      omega
     .refine⟨_,rfl,.set hpp s3,?_,?_⟩
      .rw[ak,take_snoc hg,<- List.append_assoc,Id,<- List.cons_append,<- List.cons_append,List.map_append]
       rfl
      .rw[take_snoc hg,<- List.append_assoc,List.any_append,hany3,List.any_cons,decide_eq_false h]
       rfl
   .rintro Z H3 ⟨v4,rfl,s3,hp3,hany3⟩
    rw[hlb,List.take_of_length_le (Nat.le_refl _)]at hp3 hany3
    have e9:(t.take (i+1)).flatten=(t.take i).flatten++b:=by
     rw[take_snoc hb,List.flatten_append]
     simp
    exact⟨_,_,rfl,s3,(by rw[e9];exact hp3),(by rw[e9];exact hany3)⟩
  .rintro Z H' ⟨v3,v4,rfl,s2,hp2,hany⟩
   rw[hlt,List.take_of_length_le (Nat.le_refl _)]at hp2 hany
   exact⟨_,rfl,q hany pp H' hpp s2 (rLt.ints.mpr ⟨pp,rfl,hp2⟩)⟩
end
end Sp
end
section
namespace L2
open PySem PySem.Spec PyProof.Rows
def Dm(K:W.Frag)(C:Addr)(m qual:Str)(st:Stmt)(ps:List Str):Prop:=∃ f fd,Fun K m qual st f fd/\Meth K C m f/\jh K fd ps []
def Mn(P:Program)(w:World)(K:W.Frag)(mg:Str->Option Value)(base:Heap)(CX:CXT)(k:Nat)(C:Addr)(m:Str)(ps:List Str)(sp:Sp):Prop:=∃ f fd,FnOk P w K mg base CX k f fd ps sp/\Meth K C m f/\jh K fd ps []
def Di(K:W.Frag)(C:Addr)(qual:Str)(st:Stmt)(ps:List Str):Prop:=∃ f fd,Fun K "__init__" qual st f fd/\Mk K C f/\jh K fd ps []
def In(P:Program)(w:World)(K:W.Frag)(mg:Str->Option Value)(base:Heap)(CX:CXT)(k:Nat)(C:Addr)(ps:List Str)(sp:Sp):Prop:=∃ f fd,FnOk P w K mg base CX k f fd ps sp/\Mk K C f/\jh K fd ps []
section
variable{P:Program}{w:World}{K:W.Frag}{mg:Str->Option Value}{base:Heap}{C:Addr}{m qual:Str}{st:Stmt}{N ps:List Str}{k:Nat}{sp:Sp}
theorem Dm.ok(D:Dm K C m qual st ps)(S:FnScope N ps (au st))(len:∀ vs H Q E,sp vs H Q E->vs.length=ps.length)
  (hbody:∀ (f:Addr) (cdv:Value) (A:Around) (outer:List Env) (s:Shared) (H:Hp) (vs:List V) (Q:VK) (E:XK),Room k (A.deeper (envOfC qual (au st) s.heap.objs.size f cdv))->sp vs H Q E ->
   ∃ t,PSs (cxOf CX0 P w K mg base N qual (au st) f cdv A outer s H E).nox (dt st) t/\t { nx:=λ_ H'=>Q .non H',rt:=Q } (start N vs) H):Mn P w K mg base CX0 (k+1) C m ps sp:=by
 obtain⟨f,fd,F,hm,hb⟩:=D
 exact⟨f,fd,F.ok S len λcdv A outer s H vs Q E hr q=>hbody f cdv A outer s H vs Q E hr q,hm,hb⟩
theorem Di.ok(D:Di K C qual st ps)(S:FnScope N ps (au st))(len:∀ vs H Q E,sp vs H Q E->vs.length=ps.length)
  (hbody:∀ (f:Addr) (cdv:Value) (A:Around) (outer:List Env) (s:Shared) (H:Hp) (vs:List V) (Q:VK) (E:XK),Room k (A.deeper (envOfC qual (au st) s.heap.objs.size f cdv))->sp vs H Q E ->
   ∃ t,PSs (cxOf CX0 P w K mg base N qual (au st) f cdv A outer s H E).nox (dt st) t/\t { nx:=λ_ H'=>Q .non H',rt:=Q } (start N vs) H):In P w K mg base CX0 (k+1) C ps sp:=by
 obtain⟨f,fd,F,hm,hb⟩:=D
 exact⟨f,fd,F.ok S len λcdv A outer s H vs Q E hr q=>hbody f cdv A outer s H vs Q E hr q,hm,hb⟩
end
section
variable{X:Cx}{CX:CXT}{k:Nat}{C:Addr}{x m:Str}{ps:List Str}{sp:Sp}{E:XK}{p pos apos:Pos}{o e:Expr}{es:List Expr}{ta:TE}{t:TA}
theorem ol{pl:Sem Bool}(F:Mn X.prog X.w X.K X.mg X.base CX k C m ps sp)(c:Cls X.K C)(hr:Room k X.A)(hx:gn CX X E)(he:PE X o ta)(ha:PA X (e::es) t)
  (hst:starEach (e::es) X.env=(false,eval e X.env)::starEach es X.env:=by rfl) (hpl:(backTo pos (starEach es X.env)).any (·.1)=false:=by rfl)
  (ht:eval (.Call (.Attribute o m apos) (e::es) [] pos) X.env=(do
   let ov <- eval o X.env
   standAt apos.atName
   let (f,first) <- holding [ov] (getMethod ov m pl)
   callWith pos f first (backTo pos (starEach (e::es) X.env)) (backToKw pos (keywordEach [] X.env))):=by rfl):PE X (.Call (.Attribute o m apos) (e::es) [] pos) (Ma C m sp [] E ta t):=by
 obtain⟨f,fd,G,hm,hb⟩:=F
 exact Q5 he c hm G hr hb .nil hx ha hst hpl ht
theorem tz{pl:Sem Bool}(F:Mn X.prog X.w X.K X.mg X.base CX k C m ps sp)(c:Cls X.K C)(hr:Room k X.A)(hx:gn CX X E)(he:PE X o ta)
  (ht:eval (.Call (.Attribute o m apos) [] [] pos) X.env=(do
   let ov <- eval o X.env
   standAt apos.atName
   let (f,first) <- holding [ov] (getMethod ov m pl)
   callWith pos f first (backTo pos (starEach [] X.env)) (backToKw pos (keywordEach [] X.env))):=by rfl):PE X (.Call (.Attribute o m apos) [] [] pos) (Ma C m sp [] E ta tNil):=by
 obtain⟨f,fd,G,hm,hb⟩:=F
 exact Na he c hm G hr hb .nil hx ht
theorem Vd(F:In X.prog X.w X.K X.mg X.base CX k C ps sp)(hr:Room (k+1) X.A)(hg:Gl X x)(hm:X.mg x=some (.ref C))(hx:gn CX X E)(ha:PA X (e::es) t)(hdb:(x==("__debug__":Str))=false:=by decide)
  (he:starEach (e::es) X.env=(false,eval e X.env)::starEach es X.env:=by rfl) (hpl:(backTo pos (starEach es X.env)).any (·.1)=false:=by rfl):PE X (.Call (.Name x p) (e::es) [] pos) (Mb C sp [] E t):=by
 obtain⟨f,fd,G,M,hb⟩:=F
 exact Q7 M G hr hg hm hb .nil hx ha hdb he hpl
theorem Tl(F:In X.prog X.w X.K X.mg X.base CX k C ps sp)(hr:Room (k+1) X.A)(hg:Gl X x)(hm:X.mg x=some (.ref C))(hx:gn CX X E)(hdb:(x==("__debug__":Str))=false:=by decide):PE X (.Call (.Name x p) [] [] pos) (Mb C sp [] E tNil):=by
 obtain⟨f,fd,G,M,hb⟩:=F
 exact Nc M G hr hg hm hb .nil hx hdb
end
end L2
namespace Sp
open PySem PySem.Spec PyProof.Rows L2
open VagraLine (at_)
open Vagraa (Frac)
def patM(n:Nat)(rs:List (List Int))(outs:List Nat):List (List Bool):=outs.map λo=>(cg n [] rs).getD o []
def metM(side n:Nat)(rs:List (List Int))(outs:List Nat):List (List Nat):=ji (dk side n (patM n rs outs))
theorem kd{n:Nat}{rs:List (List Int)}{outs:List Nat}(h:CodeOk n rs outs):Rect (patM n rs outs) n/\(patM n rs outs).length=outs.length:=by
 have h1:=h.n12
 have h2:=h.o12
 have hl:(patM n rs outs).length=outs.length:=by unfold patM;rw[List.length_map]
 refine⟨⟨λb hb=>?_,by omega,by omega⟩,hl⟩
 unfold patM at hb
 obtain⟨o,ho,rfl⟩:=List.mem_map.mp hb
 have hlen:=ib n rs []
 have hlt:=h.lt o ho
 have e:(cg n [] rs)[o]? = some ((cg n [] rs).getD o []):=by
  rw[List.getD_eq_getElem?_getD,List.getElem?_eq_getElem (by rw[hlen];show o<0+rs.length;omega)]
  rfl
 exact je n rs [] (λb hb=>nomatch hb) _ (List.mem_of_getElem? e)
theorem qi{side n:Nat}{p:List (List Bool)}(h:Rect p n):Rect (dk side n p) (if side=1 then n else p.length)/\(dk side n p).length=if side=1 then p.length else n:=by
 unfold dk
 by_cases hs:side=1
 .rw[if_pos hs,if_pos hs,if_pos hs]
  exact⟨h,rfl⟩
 .rw[if_neg hs,if_neg hs,if_neg hs]
  have h1:=h.few
  have h2:=h.wide
  refine⟨⟨λb hb=>?_,by rw[List.length_map,List.length_range];exact h2,h1⟩,by rw[List.length_map,List.length_range]⟩
  obtain⟨c,_,rfl⟩:=List.mem_map.mp hb
  rw[List.length_map]
theorem G7{es:List (List Bool)}(h:es.length<=1000):Adj (ji es)/\(ji es).length=es.length:=by
 have hl:(ji es).length=es.length:=by unfold ji;rw[List.length_map,List.length_range]
 refine⟨⟨by omega,λb hb=>?_,λb hb j hj=>?_⟩,hl⟩
 .obtain⟨c,_,rfl⟩:=List.mem_map.mp hb
  unfold Bv
  exact Nat.le_trans (List.length_filter_le _ _) (by rw[List.length_range];exact h)
 .obtain⟨c,_,rfl⟩:=List.mem_map.mp hb
  rw[hl]
  exact List.mem_range.mp (List.mem_filter.mp hj).1
theorem ii{side n:Nat}{rs:List (List Int)}{outs:List Nat}(h:CodeOk n rs outs):Adj (metM side n rs outs)/\(metM side n rs outs).length=if side=1 then outs.length else n:=by
 obtain⟨h1,h2⟩:=kd h
 obtain⟨h3,h4⟩:=qi (side:=side) h1
 obtain⟨h5,h6⟩:=G7 h3.few
 refine⟨h5,?_⟩
 unfold metM
 rw[h6,h4,h2]
section
variable{P:Program}{w:World}{K:W.Frag}{mg:Str->Option Value}{base:Heap}{T:Addr}{C:Addr}{er:Int->Addr}
def A6(K:W.Frag)(C:Addr):Sp:=λvs H Q _=>∃ (vh vp:V) (n:Nat) (rs:List (List Int)) (outs:List Nat),vs=[vh]/\fc K C H vh n rs outs vp/\CodeOk n rs outs/\∀ v H',Same H H'->rLt (rLt rBl) H' v (patM n rs outs)->Q v H'
theorem Qq:FnScope ["self"] ["self"] (au d_Held_pattern):=by trivial
theorem Rq(hC:HCls K C)(F:Fn P w K mg base CX0 4 "pattern_rows" ["inputs","lines","outs"] (Qe K))(D:Dm K C "pattern" "Held.pattern" d_Held_pattern ["self"]):Mn P w K mg base CX0 5 C "pattern" ["self"] (A6 K C):=by
 refine D.ok Qq (λvs H Q E h=>?_) (λf cdv A outer s H vs Q E hr h=>?_)
 .obtain⟨vh,vp,n,rs,outs,rfl,_⟩:=h
  rfl
 .obtain⟨vh,vp,n,rs,outs,rfl,hh,hc,q⟩:=h
  refine⟨_,aq (az (bh F hr rfl bo (aa (fb (pv 0) rfl) (aa (fb (pv 0) rfl) (aa (fb (pv 0) rfl) aj))))),?_⟩
  obtain⟨⟨a,C1,dx,fs,u,e1,e2,e3,e4,e5,e6⟩,⟨b,C2,dx2,fs2,u2,b1,b2,b3,b4,b5,hl⟩,⟨d,C3,dx3,fs3,u3,d1,d2,d3,d4,d5,ho⟩,_⟩:=hh.fld hC
  subst e6
  have h1:=hc.n12
  have h2:=hc.o12
  have h3:=hc.few
  exact⟨_,rfl,a,C1,dx,fs,_,e1,e2,e3,e4,e5,_,rfl,b,C2,dx2,fs2,_,b1,b2,b3,b4,b5,_,rfl,d,C3,dx3,fs3,_,d1,d2,d3,d4,d5,u2,u3,rs,outs,n,rfl,hl,ho,hc.ok,hc.uses,by omega,by omega,by omega,hc.lt,λv H' s1 r1=>q v H' s1 r1⟩
def jo(K:W.Frag)(C:Addr):Sp:=λvs H Q _=>∃ (vh vp:V) (n side:Nat) (rs:List (List Int)) (outs:List Nat),vs=[vh,.int (side:Nat)]/\side<=1/\fc K C H vh n rs outs vp/\CodeOk n rs outs/\∀ v H',Same H H'->rLt (rLt rNat) H' v (metM side n rs outs)->Cy H H' v->Q v H'
theorem Qr:FnScope ["self","side"] ["self","side"] (au d_Held_columns_met):=by trivial
theorem Rr(hC:HCls K C)(F:Mn P w K mg base CX0 5 C "pattern" ["self"] (A6 K C))(G:Fn P w K mg base CX0 1 "side_entries" ["pattern","inputs","side"] (sq K))(M:Fn P w K mg base CX0 3 "meeting_columns" ["entries"] (Qh K))(D:Dm K C "columns_met" "Held.columns_met" d_Held_columns_met ["self","side"]) :
  Mn P w K mg base CX0 6 C "columns_met" ["self","side"] (jo K C):=by
 refine D.ok Qr (λvs H Q E h=>?_) (λf cdv A outer s H vs Q E hr h=>?_)
 .obtain⟨vh,vp,n,side,rs,outs,rfl,_⟩:=h
  rfl
 .obtain⟨vh,vp,n,side,rs,outs,rfl,hside,hh,hc,q⟩:=h
  refine⟨_,aq (az (bh M (hr.mono (by decide)) rfl bo (aa (bh G (hr.mono (by decide)) rfl bo (aa (tz F hC.cl hr bo (pv 0)) (aa (fb (pv 0) rfl) (aa (pv 1) aj)))) aj))),?_⟩
  obtain⟨a0,dx0,vl0,vo0,ea,ha,_,_⟩:=id hh
  refine⟨_,rfl,a0,dx0,_,ea,ha,uk _ _ _ _,vh,vp,n,rs,outs,rfl,hh,hc,λv1 H1 s1 r1=>?_⟩
  obtain⟨⟨a,C1,dx,fs,u,e1,e2,e3,e4,e5,e6⟩,_⟩:=(hh.mono s1).fld hC
  subst e6
  obtain⟨p1,p2⟩:=kd hc
  refine⟨_,rfl,a,C1,dx,fs,_,e1,e2,e3,e4,e5,_,rfl,v1,patM n rs outs,n,side,rfl,r1,p1,hside,λv2 H2 s2 r2=>?_⟩
  exact⟨v2,_,_,rfl,r2,(qi p1).1,λv3 H3 s3 r3 m3=>q v3 H3 ((s1.trans s2).trans s3) r3 (m3.of (s1.trans s2))⟩
end
end Sp
end
section
namespace Sp
open L2 (gd)
open Vagrak (Pattern meet meetsOf)
theorem A7{g:Nat->Int}:∀ (l1 l2:List Nat),l1.Pairwise (λx y=>g x<=g y)->l2.Pairwise (λx y=>g x<=g y)->(∀ c,l1.filter (λi=>g i==c)=l2.filter (λi=>g i==c))->l1=l2
 | [],[],_,_,_=>rfl
 | [],b::l2,_,_,h=>by
  have:=h (g b)
  rw[List.filter_cons_of_pos (by simp)]at this
  cases this
 | a::l1,[],_,_,h=>by
  have:=h (g a)
  rw[List.filter_cons_of_pos (by simp)]at this
  cases this
 | a::l1,b::l2,p1,p2,h=>by
  have le:∀ (x y:Nat) (m1 m2:List Nat),(x::m1).Pairwise (λx y=>g x<=g y)->(∀ c,(x::m1).filter (λi=>g i==c)=(y::m2).filter (λi=>g i==c))->g x<=g y:=λx y m1 m2 hp hh=>by
   have hy:=hh (g y)
   rw[List.filter_cons_of_pos (a:=y) (by simp)]at hy
   have hm:y∈(x::m1).filter (λi=>g i==g y):=by rw[hy];exact List.mem_cons_self ..
   rcases List.mem_cons.mp (List.mem_filter.mp hm).1 with e|m
   .rw[e]
    exact Int.le_refl _
   .exact(List.pairwise_cons.mp hp).1 y m
  have hg:g a=g b:=Int.le_antisymm (le a b l1 l2 p1 h) (le b a l2 l1 p2 λc=>(h c).symm)
  have hab:a=b:=by
   have:=h (g a)
   rw[List.filter_cons_of_pos (by simp),List.filter_cons_of_pos (by simp[hg])]at this
   injection this
  subst hab
  rw[A7 l1 l2 (List.pairwise_cons.mp p1).2 (List.pairwise_cons.mp p2).2 λc=>?_]
  have:=h c
  rw[List.filter_cons,List.filter_cons]at this
  split at this
  .injection this
  .exact this
def putG(g:Nat->Int)(i:Nat):List Nat->List Nat
 | []=>[i]
 | j::r=>if g i<g j then i::j::r else j::putG g i r
theorem z5{g:Nat->Int}{i x:Nat}:∀ {l:List Nat},x∈putG g i l->x=i\/x∈l
 | [],h=>.inl (List.mem_singleton.mp h)
 | j::r,h=>by
  unfold putG at h
  split at h
  .exact List.mem_cons.mp h
  .rcases List.mem_cons.mp h with e|m
   .exact .inr (by rw[e];exact List.mem_cons_self ..)
   .rcases z5 m with e|m2
    .exact .inl e
    .exact .inr (List.mem_cons_of_mem _ m2)
theorem tm{g:Nat->Int}{i:Nat}:∀ {l:List Nat},l.Pairwise (λx y=>g x<=g y)->(putG g i l).Pairwise (λx y=>g x<=g y)/\∀ c,(putG g i l).filter (λx=>g x==c)=l.filter (λx=>g x==c)++if (g i==c)=true then [i] else []
 | [],_=>⟨List.pairwise_singleton _ _,λc=>by
  unfold putG
  rw[List.filter_cons,List.filter_nil]
  rfl⟩
 | j::r,h=>by
  obtain⟨h1,h2⟩:=List.pairwise_cons.mp h
  unfold putG
  by_cases hij:g i<g j
  .rw[if_pos hij]
   refine⟨List.pairwise_cons.mpr ⟨λy hy=>?_,h⟩,λc=>?_⟩
   .rcases List.mem_cons.mp hy with e|m
    .rw[e]
     omega
    .have:=h1 y m
     omega
   .rw[List.filter_cons]
    by_cases hc:(g i==c)=true
    .rw[if_pos hc,if_pos hc]
     have hc2:g i=c:=by simpa using hc
     have nil:(j::r).filter (λx=>g x==c)=[]:=by
      rw[List.filter_eq_nil_iff]
      intro y hy
      have:¬ g y=c:=by
       rcases List.mem_cons.mp hy with e|m
       .rw[e]
        omega
       .have:=h1 y m
        omega
      simpa using this
     rw[nil]
     rfl
    .rw[if_neg hc,if_neg hc,List.append_nil]
  .rw[if_neg hij]
   obtain⟨i1,i2⟩:=tm (i:=i) h2
   refine⟨List.pairwise_cons.mpr ⟨λy hy=>?_,i1⟩,λc=>?_⟩
   .rcases z5 hy with e|m
    .rw[e]
     omega
    .exact h1 y m
   .rw[List.filter_cons,List.filter_cons,i2 c]
    split <;> rfl
theorem up{g:Nat->Int}:∀ n,gd g n ((List.range n).foldl (λl i=>putG g i l) [])
 | 0=>⟨.nil,λ_=>rfl⟩
 | n+1=>by
  obtain⟨h1,h2⟩:=up (g:=g) n
  rw[List.range_succ,List.foldl_append]
  obtain⟨h3,h4⟩:=tm (i:=n) h1
  refine⟨h3,λc=>?_⟩
  show(putG g n _).filter _=_
  rw[h4,h2,List.range_succ,List.filter_append,List.filter_cons,List.filter_nil]
theorem gd.eq{g:Nat->Int}{n:Nat}{ys:List Nat}(h:gd g n ys):ys=(List.range n).foldl (λl i=>putG g i l) []:=
 A7 _ _ h.1 (up n).1 λc=>(h.2 c).trans ((up n).2 c).symm
theorem gd.mem{g:Nat->Int}{n:Nat}{ys:List Nat}(h:gd g n ys){x:Nat}:x∈ys↔x<n:=by
 have e:∀ l:List Nat,x∈l↔x∈l.filter (λi=>g i==g x):=λl=>by
  rw[List.mem_filter]
  simp
 rw[e,h.2,<- e,List.mem_range]
def fw(p:Pattern)(n:Nat)(met:List (List Nat)):Prop:=met=(List.range n).map λc=>(List.range n).filter λj=>meet p c j
section
variable{p:Pattern}{n:Nat}{met:List (List Nat)}
theorem fw.len(h:fw p n met):met.length=n:=by rw[h,List.length_map,List.length_range]
theorem fw.row(h:fw p n met){c:Nat}(hc:c<n):met.getD c []=(List.range n).filter λj=>meet p c j:=by
 rw[h,List.getD_eq_getElem?_getD,List.getElem?_map,List.getElem?_range hc]
 rfl
theorem fw.mem(h:fw p n met){c j:Nat}(hc:c<n):j∈met.getD c []↔j<n/\meet p c j=true:=by
 rw[h.row hc,List.mem_filter,List.mem_range]
theorem fw.size(h:fw p n met){c:Nat}(hc:c<n):(met.getD c []).length=meetsOf p c (List.range n):=by rw[h.row hc];rfl
theorem yc(h:fw p n met){i:Nat}(hi:i<n):∀ {l:List Nat},(∀ j∈l,j<n)->Vagrak.putMany p (List.range n) i l=putG (λi=>-((met.getD i []).length:Int)) i l
 | [],_=>rfl
 | j::r,hl=>by
  have hj:=hl j (List.mem_cons_self ..)
  unfold Vagrak.putMany putG
  rw[yc h hi λk hk=>hl k (List.mem_cons_of_mem _ hk),<- h.size hi,<- h.size hj]
  by_cases hc:(met.getD j []).length<(met.getD i []).length
  .rw[if_pos hc,if_pos (by omega)]
  .rw[if_neg hc,if_neg (by omega)]
theorem Bx(h:fw p n met):Vagrak.manyFirst p n=(List.range n).foldl (λl i=>putG (λi=>-((met.getD i []).length:Int)) i l) []:=by
 unfold Vagrak.manyFirst
 have key:∀ (is l:List Nat),(∀ j∈is,j<n)->(∀ j∈l,j<n)->is.foldl (λl i=>Vagrak.putMany p (List.range n) i l) l=is.foldl (λl i=>putG (λi=>-((met.getD i []).length:Int)) i l) l:=by
  intro is
  induction is with
  | nil=>intro l _ _;rfl
  | cons i is ih=>
   intro l h1 h2
   have hi:=h1 i (List.mem_cons_self ..)
   rw[List.foldl_cons,List.foldl_cons,yc h hi h2]
   refine ih _ (λj hj=>h1 j (List.mem_cons_of_mem _ hj)) λj hj=>?_
   rcases z5 hj with e|m
   .rw[e]
    exact hi
   .exact h2 j m
 exact key _ _ (λj hj=>List.mem_range.mp hj) (λj hj=>nomatch hj)
theorem Mf(h:fw p n met){q:Nat->Bool}{c:Nat}(hc:c<n):mf met ((List.range n).filter q) c=meetsOf p c ((List.range n).filter q):=by
 unfold mf meetsOf
 rw[h.row hc,List.filter_filter,List.filter_filter]
 congr 1
 refine List.filter_congr λj hj=>?_
 have hj:=List.mem_range.mp hj
 have e:decide (j∈(List.range n).filter q)=q j:=by
  rw[Bool.eq_iff_iff]
  simp[List.mem_filter,hj]
 rw[e,Bool.and_comm]
theorem Uo(h:fw p n met){l:List Nat}(hq:∃ q,l=(List.range n).filter q)(hne:l≠[]):fewM met l=Vagrak.fewest p l:=by
 obtain⟨q,hq⟩:=hq
 have hl:∀ j∈l,j<n:=λj hj=>by
  rw[hq]at hj
  exact List.mem_range.mp (List.mem_filter.mp hj).1
 have hst:∀ j∈l,mf met l j=meetsOf p j l:=λj hj=>by
  have:=Mf h (q:=q) (hl j hj)
  rw[<- hq]at this
  exact this
 unfold fewM Vagrak.fewest
 have key:∀ (m:List Nat) (b:Nat),(∀ j∈m,j∈l)->b∈l->(m.foldl (fv met l) (b,meetsOf p b l)).1=m.foldl (λb i=>if meetsOf p i l<=meetsOf p b l then i else b) b:=by
  intro m
  induction m with
  | nil=>intro b _ _;rfl
  | cons a m ih=>
   intro b h1 h2
   have ha:=h1 a (List.mem_cons_self ..)
   rw[List.foldl_cons,List.foldl_cons]
   unfold fv
   rw[hst a ha]
   by_cases hc:meetsOf p a l<=meetsOf p b l
   .rw[if_pos hc,if_pos hc]
    exact ih a (λj hj=>h1 j (List.mem_cons_of_mem _ hj)) ha
   .rw[if_neg hc,if_neg hc]
    exact ih b (λj hj=>h1 j (List.mem_cons_of_mem _ hj)) h2
 cases hll:l with
 | nil=>exact absurd hll hne
 | cons a m=>
  have ha:a∈l:=by rw[hll];exact List.mem_cons_self ..
  have hle:meetsOf p a l<=l.length:=List.length_filter_le _ _
  have h1:fv met l (a,l.length) a=(a,meetsOf p a l):=by
   unfold fv
   rw[hst a ha,if_pos hle]
  have z:=key m a (λj hj=>by rw[hll];exact List.mem_cons_of_mem _ hj) ha
  rw[hll]at z h1
  show(m.foldl (fv met (a::m)) (fv met (a::m) (a,(a::m).length) a)).1=m.foldl _ (if meetsOf p a (a::m)<=meetsOf p a (a::m) then a else a)
  rw[h1,if_pos (Nat.le_refl _)]
  exact z
theorem Dt(n:Nat):(List.range n).Nodup:=List.nodup_range
theorem E3(h:fw p n met):∀ (f:Nat) (l acc:List Nat),(∃ q,l=(List.range n).filter q)->gl met f l acc=Vagrak.lastFew p f l acc
 | 0,_,_,_=>rfl
 | f+1,l,acc,hq=>by
  rw[gl,Vagrak.lastFew]
  by_cases hl:l=[]
  .rw[if_pos hl,if_pos (by rw[hl];rfl)]
  .rw[if_neg hl,if_neg (by simpa using hl),Uo h hq hl]
   obtain⟨q,rfl⟩:=hq
   have hn:((List.range n).filter q).Nodup:=List.Pairwise.filter _ (Dt n)
   have e:((List.range n).filter q).erase (Vagrak.fewest p ((List.range n).filter q))=((List.range n).filter q).filter λi=>decide (i≠Vagrak.fewest p ((List.range n).filter q)):=by
    rw[List.Nodup.erase_eq_filter hn]
    refine List.filter_congr λx _=>?_
    rw[Bool.eq_iff_iff]
    simp
   rw[e]
   exact E3 h f _ _ ⟨_,List.filter_filter ..⟩
theorem A2(met:List (List Nat)):∀ (f:Nat) (l acc:List Nat),l.length<=f->∀ x,x∈gl met f l acc↔x∈l\/x∈acc
 | 0,l,acc,hf,x=>by
  have:l=[]:=List.eq_nil_of_length_eq_zero (by omega)
  subst this
  rw[gl]
  simp
 | f+1,l,acc,hf,x=>by
  rw[gl]
  by_cases hl:l=[]
  .rw[if_pos hl,hl]
   simp
  .rw[if_neg hl]
   have hm:=El met hl
   have hlen:=List.length_erase_of_mem hm
   rw[A2 met f _ _ (by omega) x,List.mem_cons]
   by_cases hx:x=fewM met l
   .subst hx
    simp[hm]
   .rw[List.mem_erase_of_ne hx]
    simp[hx]
theorem z9(h:fw p n met){k:Nat}{ys:List Nat}(ho:l7 met k ys):ys=Vagrak.order p n k:=by
 have hl:=h.len
 unfold Vagrak.order
 rcases ho with ⟨rfl,e⟩|⟨rfl,e⟩|⟨rfl,e⟩
 .rw[if_pos rfl,e,hl]
 .rw[if_neg (by decide),if_pos rfl,Bx h,gd.eq e,hl]
 .rw[if_neg (by decide),if_neg (by decide),e,hl]
  refine E3 h _ _ _ ⟨λ_=>true,?_⟩
  rw[List.filter_eq_self.mpr λ_ _=>rfl]
theorem jw{k:Nat}{ys:List Nat}(ho:l7 met k ys)(x:Nat):x∈ys↔x<met.length:=by
 rcases ho with ⟨rfl,e⟩|⟨rfl,e⟩|⟨rfl,e⟩
 .rw[e,List.mem_range]
 .exact gd.mem e
 .rw[e,A2 met _ _ _ (by rw[List.length_range];exact Nat.le_refl _)]
  simp
end
end Sp
end
section
namespace Sp
open Vagrak (Pattern meet meetsOf Colours)
def optI:Option Nat->Int
 | none=>-1
 | some k=>(k:Int)
theorem Kq(l:List Int):Aw l (my l):=by
 cases hf:(List.range (l.length+1)).find? λk:Nat=>!decide ((k:Int)∈l) with
 | none=>
  exfalso
  have all:=List.find?_eq_none.mp hf
  have:=yz (l.length+1) l λj hj=>by
   have:=all j (List.mem_range.mpr hj)
   simpa using this
  omega
 | some m=>
  have e:my l=m:=by unfold my;rw[hf];rfl
  rw[e]
  rw[List.find?_range_eq_some]at hf
  obtain⟨h1,_,h3⟩:=hf
  refine⟨by simpa using h1,λj hj=>?_⟩
  have:=h3 j hj
  simpa using this
theorem Ni{o:Option Nat}{k:Nat}:optI o=(k:Int)↔o=some k:=by
 cases o with
 | none=>
  constructor
  .intro h
   have h:(-1:Int)=(k:Int):=h
   omega
  .intro h
   cases h
 | some m=>
  constructor
  .intro h
   have h:(m:Int)=(k:Int):=h
   rw[Int.ofNat.inj h]
  .intro h
   cases h
   rfl
theorem Fs{cs:Colours}{o:Nat}(ho:o<cs.length):(cs.map optI).getD o (-1)=optI (cs.getD o none):=by
 rw[List.getD_eq_getElem?_getD,List.getD_eq_getElem?_getD,List.getElem?_map,List.getElem?_eq_getElem ho]
 rfl
section
variable{p:Pattern}{n:Nat}{met:List (List Nat)}
theorem Sf(h:fw p n met){cs:Colours}(hl:cs.length=n){i:Nat}(hi:i<n):Vagrak.freeColour p cs i=my ((met.getD i []).map λo=>(cs.map optI).getD o (-1)):=by
 have hL:=Kq ((met.getD i []).map λo=>(cs.map optI).getD o (-1))
 generalize hm:my ((met.getD i []).map λo=>(cs.map optI).getD o (-1))=m at hL
 have hle:=yz m _ hL.2
 rw[List.length_map,h.row hi]at hle
 have hle2:=List.length_filter_le (λj=>meet p i j) (List.range n)
 rw[List.length_range]at hle2
 unfold Vagrak.freeColour
 rw[ow (m:=m) (by omega)]
 .rfl
 .rw[List.all_eq_true]
  intro j hj
  have hj:=List.mem_range.mp hj
  cases hmj:meet p i j with
  | false=>rfl
  | true=>
   have hne:¬ cs.getD j none=some m:=λz=>hL.1 (List.mem_map.mpr ⟨j,(h.mem hi).mpr ⟨by omega,hmj⟩,by rw[Fs hj,z];rfl⟩)
   rw[Bool.true_and]
   simpa using hne
 .intro k hk
  obtain⟨o,ho,e⟩:=List.mem_map.mp (hL.2 k hk)
  obtain⟨h1,h2⟩:=(h.mem hi).mp ho
  have e:optI (cs.getD o none)=(k:Int):=by rw[<- Fs (by omega)];exact e
  have e:=Ni.mp e
  rw[Bool.eq_false_iff]
  intro z
  have:=List.all_eq_true.mp z o (List.mem_range.mpr (by omega))
  rw[h2,e]at this
  simp at this
def iu(p:Pattern)(cs:Colours)(i:Nat):Colours:=cs.set i (some (Vagrak.freeColour p cs i))
theorem u6(p:Pattern):∀ (ys:List Nat) (cs:Colours),(ys.foldl (iu p) cs).length=cs.length
 | [],_=>rfl
 | y::ys,cs=>by
  rw[List.foldl_cons,u6 p ys]
  unfold iu
  rw[List.length_set]
theorem Ll(h:fw p n met):∀ (ys:List Nat) (cs:Colours),(∀ y∈ys,y<n)->cs.length=n->ys.foldl (gy met) (cs.map optI)=(ys.foldl (iu p) cs).map optI
 | [],_,_,_=>rfl
 | y::ys,cs,hy,hl=>by
  have e:gy met (cs.map optI) y=(iu p cs y).map optI:=by
   unfold gy iu
   rw[List.map_set,Sf h hl (hy y (List.mem_cons_self ..))]
   rfl
  rw[List.foldl_cons,List.foldl_cons,e]
  refine Ll h ys _ (λz hz=>hy z (List.mem_cons_of_mem _ hz)) ?_
  unfold iu
  rw[List.length_set]
  exact hl
theorem Gq(p:Pattern):∀ (ys:List Nat) (cs:Colours) (c:Nat),c<cs.length->(c∈ys\/∃ k,cs.getD c none=some k)->∃ k,(ys.foldl (iu p) cs).getD c none=some k
 | [],cs,c,_,h=>by
  rcases h with h|h
  .cases h
  .exact h
 | y::ys,cs,c,hc,h=>by
  rw[List.foldl_cons]
  have hl:(iu p cs y).length=cs.length:=by unfold iu;rw[List.length_set]
  refine Gq p ys _ c (by omega) ?_
  by_cases hy:c=y
  .subst hy
   refine .inr ⟨Vagrak.freeColour p cs c,?_⟩
   unfold iu
   rw[List.getD_eq_getElem?_getD,List.getElem?_set_self hc]
   rfl
  .rcases h with h|⟨k,hk⟩
   .rcases List.mem_cons.mp h with e|m
    .exact absurd e hy
    .exact .inl m
   .refine .inr ⟨k,?_⟩
    unfold iu
    rw[List.getD_eq_getElem?_getD,List.getElem?_set_ne (Ne.symm hy),<- List.getD_eq_getElem?_getD]
    exact hk
theorem P3(h:fw p n met){k:Nat}{ys:List Nat}(ho:l7 met k ys):Ox met ys=(Vagrak.coloured p n (Vagrak.order p n k)).map (λn:Nat=>(n:Int)):=by
 have hys:∀ y,y∈ys↔y<n:=λy=>by rw[jw ho,h.len]
 have e0:(met.map λ_=>(-1:Int))=((List.range n).map λ_=>(none:Option Nat)).map optI:=by
  rw[h,List.map_map,List.map_map]
  rfl
 have el:((List.range n).map λ_=>(none:Option Nat)).length=n:=by rw[List.length_map,List.length_range]
 unfold Ox
 rw[e0,Ll h ys _ (λy hy=>(hys y).mp hy) el]
 show _=((List.foldl (iu p) _ (Vagrak.order p n k)).map λc=>c.getD 0).map _
 rw[<- z9 h ho,List.map_map]
 refine List.map_congr_left λo hm=>?_
 obtain⟨c,hc,rfl⟩:=List.getElem_of_mem hm
 have hc2:c<n:=by rw[u6,el]at hc;exact hc
 obtain⟨k2,hk2⟩:=Gq p ys ((List.range n).map λ_=>(none:Option Nat)) c (by omega) (.inl ((hys c).mpr hc2))
 rw[List.getD_eq_getElem?_getD,List.getElem?_eq_getElem hc]at hk2
 have hk2:(ys.foldl (iu p) ((List.range n).map λ_=>(none:Option Nat)))[c]=some k2:=hk2
 rw[hk2]
 rfl
theorem qj(p:Pattern)(n:Nat)(l:List Nat):(Vagrak.coloured p n l).length=n:=by
 show((List.foldl (iu p) _ l).map _).length=n
 rw[List.length_map,u6,List.length_map,List.length_range]
theorem Se{cs:Colours}{i:Nat}:Vagrak.freeColour p cs i<=cs.length:=by
 unfold Vagrak.freeColour
 cases hf:(List.range (cs.length+1)).find? λk=>(List.range cs.length).all λj=>!(meet p i j&&cs.getD j none==some k) with
 | none=>exact Nat.zero_le _
 | some m=>
  have:=List.mem_range.mp (List.mem_of_find?_eq_some hf)
  show m<=_
  omega
theorem uw(p:Pattern)(n:Nat)(l:List Nat):∀ c∈Vagrak.coloured p n l,c<=n:=by
 have key:∀ (ys:List Nat) (cs:Colours),(∀ o∈cs,o.getD 0<=cs.length)->∀ o∈ys.foldl (iu p) cs,o.getD 0<=cs.length:=by
  intro ys
  induction ys with
  | nil=>intro cs h;exact h
  | cons y ys ih=>
   intro cs h
   rw[List.foldl_cons]
   have hl:(iu p cs y).length=cs.length:=by unfold iu;rw[List.length_set]
   have:=ih (iu p cs y) λo ho=>by
    rw[hl]
    unfold iu at ho
    rcases List.mem_or_eq_of_mem_set ho with m|e
    .exact h o m
    .rw[e]
     exact Se
   rw[hl]at this
   exact this
 intro c hc
 obtain⟨o,ho,rfl⟩:=List.mem_map.mp (show c∈(List.foldl (iu p) _ l).map λc=>c.getD 0 from hc)
 have:=key l ((List.range n).map λ_=>none) (λo ho=>by
  obtain⟨_,_,rfl⟩:=List.mem_map.mp ho
  exact Nat.zero_le _) o ho
 rw[List.length_map,List.length_range]at this
 exact this
theorem ut{cs:List Nat}{m:Nat}(h:∀ c∈cs,c<m):b9 cs<=m:=by
 unfold b9
 have key:∀ (l:List Nat) (a:Nat),a<=m->(∀ c∈l,c<m)->l.foldl (λn c=>max n (c+1)) a<=m:=by
  intro l
  induction l with
  | nil=>intro a h _;exact h
  | cons b l ih=>
   intro a ha hl
   rw[List.foldl_cons]
   have:=hl b (List.mem_cons_self ..)
   exact ih _ (by omega) λc hc=>hl c (List.mem_cons_of_mem _ hc)
 exact key cs 0 (Nat.zero_le _) h
theorem ue{cs:List Nat}{c:Nat}(h:c∈cs):c<b9 cs:=by
 unfold b9
 have mono:∀ (l:List Nat) (a:Nat),a<=l.foldl (λn c=>max n (c+1)) a:=by
  intro l
  induction l with
  | nil=>intro a;exact Nat.le_refl _
  | cons b l ih=>
   intro a
   rw[List.foldl_cons]
   have:=ih (max a (b+1))
   omega
 have key:∀ (l:List Nat) (a:Nat),c∈l->c<l.foldl (λn c=>max n (c+1)) a:=by
  intro l
  induction l with
  | nil=>intro a h;cases h
  | cons b l ih=>
   intro a h
   rw[List.foldl_cons]
   rcases List.mem_cons.mp h with e|m
   .have:=mono l (max a (b+1))
    omega
   .exact ih _ m
 exact key cs 0 h
theorem yn{α:Type}{f g:α->Bool}:∀ {l:List α},(∀ x∈l,f x=g x)->l.find? f=l.find? g
 | [],_=>rfl
 | a::l,h=>by
  rw[List.find?_cons,List.find?_cons,h a (List.mem_cons_self ..),yn λx hx=>h x (List.mem_cons_of_mem _ hx)]
theorem Fp(h:fw p n met):gw met=Vagrak.pairsOf p n:=by
 unfold gw Vagrak.pairsOf
 rw[h.len,List.filter_flatMap]
 have:∀ l:List Nat,(∀ i∈l,i<n)->l.flatMap (λi=>((met.getD i []).filter λj=>decide (i<j)).map λj=>(i,j))=l.flatMap λi=>((List.range n).map λj=>(i,j)).filter λx=>decide (x.1<x.2)&&meet p x.1 x.2:=by
  intro l
  induction l with
  | nil=>intro _;rfl
  | cons i l ih=>
   intro hl
   rw[List.flatMap_cons,List.flatMap_cons,ih λj hj=>hl j (List.mem_cons_of_mem _ hj)]
   congr 1
   rw[h.row (hl i (List.mem_cons_self ..)),List.filter_map,List.filter_filter]
   congr 1
 exact this _ λi hi=>List.mem_range.mp hi
theorem Gm(h:fw p n met){cs:List Nat}(hl:cs.length=n):Ci met (cs.map λn:Nat=>(n:Int))=Vagrak.clash p cs:=by
 unfold Ci Vagrak.clash
 rw[Fp h,hl]
 unfold Vagrak.pairsOf
 rw[List.find?_filter]
 have g:∀ i,i<n->(cs.map λn:Nat=>(n:Int)).getD i 0=((cs.getD i 0:Nat):Int):=λi hi=>by
  rw[List.getD_eq_getElem?_getD,List.getD_eq_getElem?_getD,List.getElem?_map,List.getElem?_eq_getElem (by omega)]
  rfl
 refine yn λx hx=>?_
 obtain⟨i,hi,hx2⟩:=List.mem_flatMap.mp hx
 obtain⟨j,hj,rfl⟩:=List.mem_map.mp hx2
 have hi:=List.mem_range.mp hi
 have hj:=List.mem_range.mp hj
 dsimp only
 rw[g i hi,g j hj]
 rw[Bool.eq_iff_iff]
 simp[and_assoc]
 intro _ _
 omega
end
end Sp
end
section
namespace Sp
open Vagrak (Pattern meet meetsOf entry)
open VagraLine (at_)
open Vagraa (Frac)
section
variable{p:Pattern}{n:Nat}{met:List (List Nat)}
theorem R7(h:fw p n met){cs:List Nat}(hl:cs.length<n)(c:Nat):(!decide (c∈mw met cs))=(List.range cs.length).all λj=>!(meet p cs.length j&&cs.getD j 0==c):=by
 rw[Bool.eq_iff_iff,List.all_eq_true]
 have e:c∈mw met cs↔∃ o,o<cs.length/\meet p cs.length o=true/\cs.getD o 0=c:=by
  unfold mw
  rw[List.mem_map]
  constructor
  .rintro ⟨o,ho,rfl⟩
   obtain⟨h1,h2⟩:=List.mem_filter.mp ho
   exact⟨o,of_decide_eq_true h2,((h.mem hl).mp h1).2,rfl⟩
  .rintro ⟨o,h1,h2,rfl⟩
   exact⟨o,List.mem_filter.mpr ⟨(h.mem hl).mpr ⟨by omega,h2⟩,decide_eq_true h1⟩,rfl⟩
 constructor
 .intro hn j hj
  have hj:=List.mem_range.mp hj
  have hn:¬ c∈mw met cs:=by simpa using hn
  rw[e]at hn
  cases hm:meet p cs.length j with
  | false=>rfl
  | true=>
   have:¬ cs.getD j 0=c:=λz=>hn ⟨j,hj,hm,z⟩
   rw[Bool.true_and]
   simpa using this
 .intro hall
  have:¬ c∈mw met cs:=λz=>by
   obtain⟨o,h1,h2,h3⟩:=e.mp z
   have:=hall o (List.mem_range.mpr h1)
   rw[h2,h3]at this
   simp at this
  simpa using this
theorem nt{α:Type}{f g:α->Bool}:∀ {l:List α},(∀ x∈l,f x=g x)->l.any f=l.any g
 | [],_=>rfl
 | a::l,h=>by rw[List.any_cons,List.any_cons,h a (List.mem_cons_self ..),nt λx hx=>h x (List.mem_cons_of_mem _ hx)]
theorem Ln(h:fw p n met)(k:Nat):∀ (f:Nat) (cs:List Nat),cs.length+f=n->canM met k f cs=Vagrak.canFrom p k f cs
 | 0,_,_=>rfl
 | f+1,cs,hl=>by
  rw[canM,Vagrak.canFrom]
  refine nt λc _=>?_
  rw[R7 h (by omega),Ln h k f (cs++[c]) (by rw[List.length_append];show cs.length+1+f=n;omega)]
theorem En(cs:List Nat)(c:Nat):b9 (cs++[c])=max (b9 cs) (c+1):=by
 unfold b9
 rw[List.foldl_append]
 rfl
theorem Es(met:List (List Nat))(n:Nat):∀ (f:Nat) (cs:List Nat),cs.length+f=n->b9 cs<=cs.length->canM met n f cs=true
 | 0,_,_,_=>rfl
 | f+1,cs,hl,hc=>by
  rw[canM,List.any_eq_true]
  refine⟨b9 cs,List.mem_range.mpr (by omega),?_⟩
  have hn:¬ b9 cs∈mw met cs:=λz=>by
   unfold mw at z
   obtain⟨o,ho,e⟩:=List.mem_map.mp z
   have h2:=of_decide_eq_true (List.mem_filter.mp ho).2
   have:cs.getD o 0∈cs:=by
    rw[List.getD_eq_getElem?_getD,List.getElem?_eq_getElem h2]
    exact List.getElem_mem h2
   have:=ue this
   omega
  rw[decide_eq_false hn,Es met n f (cs++[b9 cs]) (by rw[List.length_append];show cs.length+1+f=n;omega) (by rw[En,List.length_append];show _<=cs.length+1;omega)]
  rfl
theorem Oi(h:fw p n met){m:Nat}(hm:Lc met m):m=Vagrak.leastColours p n:=by
 obtain⟨h1,h2⟩:=hm
 rw[h.len]at h1
 have hle:m<=n:=by
  by_cases hlt:n<m
  .have:=h2 n hlt
   rw[h.len,Es met n n [] (Nat.zero_add n) (Nat.le_refl _)]at this
   cases this
  .omega
 unfold Vagrak.leastColours
 rw[ow (m:=m) (by omega)]
 .rfl
 .rw[<- Ln h m n [] (Nat.zero_add n)]
  exact h1
 .intro j hj
  rw[<- Ln h j n [] (Nat.zero_add n),<- h.len]
  exact h2 j hj
theorem Af{α β:Type}{f:α->β}{l:List α}{i:Nat}{d:β}{d0:α}(hi:i<l.length):(l.map f).getD i d=f (l.getD i d0):=by
 rw[List.getD_eq_getElem?_getD,List.getD_eq_getElem?_getD,List.getElem?_map,List.getElem?_eq_getElem hi]
 rfl
theorem iq{β:Type}{f:Nat->β}{m i:Nat}{d:β}(hi:i<m):((List.range m).map f).getD i d=f i:=by
 rw[List.getD_eq_getElem?_getD,List.getElem?_map,List.getElem?_range hi]
 rfl
theorem Km{es:List (List Bool)}{q:Pattern}{m:Nat}(hm:es.length=m)(hs:∀ c o,c<m->o<m->Dj (es.getD c []) (es.getD o [])=(List.range q.length).any λr=>entry q r c&&entry q r o):fw q m (ji es):=by
 unfold fw ji
 rw[hm]
 refine List.map_congr_left λc hc=>?_
 have hc:=List.mem_range.mp hc
 unfold Bv
 rw[hm]
 refine List.filter_congr λo ho=>?_
 have ho:=List.mem_range.mp ho
 rw[hs c o hc ho]
 unfold Vagrak.meet
 congr 1
 rw[Bool.eq_iff_iff]
 simp
 exact⟨λa b=>a b.symm,λa b=>a b.symm⟩
theorem R8(h:Rect p n):fw p n (ji (dk 0 n p)):=by
 have e:dk 0 n p=(List.range n).map λc=>p.map λrow=>row.getD c false:=if_neg (by decide)
 refine Km (by rw[e,List.length_map,List.length_range]) λc o hc ho=>?_
 rw[e,iq hc,iq ho]
 unfold Dj
 rw[List.length_map]
 refine nt λr hr=>?_
 have hr:=List.mem_range.mp hr
 rw[Af (d0:=[]) hr,Af (d0:=[]) hr]
 rfl
theorem Oc(h:Rect p n):fw (Vagrak.turnedPattern n p) p.length (ji (dk 1 n p)):=by
 have e:dk 1 n p=p:=if_pos rfl
 rw[e]
 refine Km rfl λc o hc ho=>?_
 have et:(Vagrak.turnedPattern n p).length=n:=by unfold Vagrak.turnedPattern;rw[List.length_map,List.length_range]
 unfold Dj
 rw[(h.at_ hc).2,et]
 refine nt λr hr=>?_
 have hr:=List.mem_range.mp hr
 have en:∀ c,c<p.length->entry (Vagrak.turnedPattern n p) r c=(p.getD c []).getD r false:=λc hc=>by
  unfold Vagrak.entry Vagrak.turnedPattern
  rw[iq hr,iq hc]
  rfl
 rw[en c hc,en o ho]
end
section
variable{n:Nat}{rs:List (List Int)}{outs cs:List Nat}{vals:List Frac}
abbrev dg(n:Nat)(rs:List (List Int))(outs:List Nat):Vagrak.Prog:=⟨n,rs.map bz,outs⟩
theorem z8(h:∀ a∈rs,RawOk a):patM n rs outs=(dg n rs outs).pattern:=by
 unfold patM Vagrak.Prog.pattern Vagrae.reaches
 rw[um n rs [] h]
theorem Bs:gh rs outs vals cs=(dg n rs outs).packed vals cs:=rfl
theorem Lz{α:Type}{f:α->Frac}{l:List α}{i:Nat}{d:α}(hi:i<l.length):at_ (l.map f) i=f (l.getD i d):=Af hi
theorem Gp{f:Nat->Frac}{m i:Nat}(hi:i<m):at_ ((List.range m).map f) i=f i:=iq hi
theorem yb{α:Type}(l:List α)(d:α):l=(List.range l.length).map λr=>l.getD r d:=by
 refine List.ext_getElem (by rw[List.length_map,List.length_range]) λi h1 h2=>?_
 rw[List.getElem_map,List.getElem_range,List.getD_eq_getElem?_getD,List.getElem?_eq_getElem h1]
 rfl
theorem Gh:gh rs outs vals (List.range n)=(dg n rs outs).dense vals:=by
 unfold gh Vagrak.Prog.dense
 conv=>
  rhs
  rw[show(dg n rs outs).outs=outs from rfl,yb outs 0,List.map_map]
 refine List.map_congr_left λr hr=>?_
 have hr:=List.mem_range.mp hr
 unfold uu
 rw[gf,List.map_map]
 refine List.map_congr_left λk _=>?_
 show at_ (i6 rs outs vals (Vagrak.seed (List.range n) k)) r=at_ (Vagrae.changes (Vagrae.unit n k) vals (rs.map bz)) (outs.getD r 0)
 unfold i6
 rw[Lz (d:=0) hr]
 rfl
theorem lu{α β:Type}{f g:β->α->β}:∀ {l:List α} {b:β},(∀ b x,x∈l->f b x=g b x)->l.foldl f b=l.foldl g b
 | [],_,_=>rfl
 | a::l,b,h=>by
  rw[List.foldl_cons,List.foldl_cons,h b a (List.mem_cons_self ..)]
  exact lu λc x hx=>h c x (List.mem_cons_of_mem _ hx)
theorem add_zero{f:Frac}(h:Low f):Vagraa.add f Vagraa.zero=f:=by
 have e:Vagraa.add f Vagraa.zero=Vagraa.frac (f.num*((1:Nat):Int)) (f.den*1):=by
  unfold Vagraa.add
  congr 1
  show f.num*(1:Int)+0*_=f.num*1
  rw[Int.zero_mul,Int.add_zero]
 rw[e]
 exact uo Nat.one_pos h.1 h.2
theorem one_mul{f:Frac}(h:Low f):Vagraa.mul Vagraa.one f=f:=by
 have e:Vagraa.mul Vagraa.one f=Vagraa.frac (f.num*((1:Nat):Int)) (f.den*1):=by
  unfold Vagraa.mul
  show Vagraa.frac (1*f.num) (1*f.den)=_
  rw[Int.one_mul,Nat.one_mul,Nat.mul_one]
  congr 1
  exact(Int.mul_one _).symm
 rw[e]
 exact uo Nat.one_pos h.1 h.2
theorem zero_mul{f:Frac}(h:Low f):Vagraa.mul Vagraa.zero f=Vagraa.zero:=by
 have e:Vagraa.mul Vagraa.zero f=Vagraa.frac (0*((f.den:Nat):Int)) (1*f.den):=by
  unfold Vagraa.mul
  show Vagraa.frac (0*f.num) (1*f.den)=_
  rw[Int.zero_mul,Int.zero_mul]
 rw[e]
 exact uo h.1 Nat.one_pos rfl
theorem R9{f g:Frac}(hf:Low f)(hg:Low g):Low (Vagraa.add f g):=Low.frac _ (Nat.mul_pos hf.1 hg.1)
theorem E5(x:Nat->Frac)(sel:Nat->Bool)(hx:∀ r,Low (x r)):∀ m,Low ((List.range m).foldl (λacc r=>Vagraa.add acc (Vagraa.mul (if sel r=true then Vagraa.one else Vagraa.zero) (x r))) Vagraa.zero) /\
  (List.range m).foldl (λacc r=>Vagraa.add acc (Vagraa.mul (if sel r=true then Vagraa.one else Vagraa.zero) (x r))) Vagraa.zero=((List.range m).filter sel).foldl (λacc r=>Vagraa.add acc (x r)) Vagraa.zero
 | 0=>⟨show Low Vagraa.zero from ⟨Nat.one_pos,rfl⟩,rfl⟩
 | m+1=>by
  obtain⟨h1,h2⟩:=E5 x sel hx m
  rw[List.range_succ,List.foldl_append,List.filter_append,List.foldl_append,<- h2]
  generalize (List.range m).foldl (λacc r=>Vagraa.add acc (Vagraa.mul (if sel r=true then Vagraa.one else Vagraa.zero) (x r))) Vagraa.zero=a at h1
  show Low (Vagraa.add a (Vagraa.mul (if sel m=true then Vagraa.one else Vagraa.zero) (x m)))/\Vagraa.add a (Vagraa.mul (if sel m=true then Vagraa.one else Vagraa.zero) (x m))=_
  rw[List.filter_cons,List.filter_nil]
  cases sel m with
  | true=>
   rw[if_pos rfl,if_pos rfl,one_mul (hx m)]
   exact⟨R9 h1 (hx m),rfl⟩
  | false=>
   rw[if_neg Bool.false_ne_true,if_neg Bool.false_ne_true,zero_mul (hx m),add_zero h1]
   exact⟨h1,rfl⟩
theorem Ih(m:Nat):∀ (rows:List (List Frac)) (tot:List Frac),tot.length=m->rows.foldl (f6 m) tot=(List.range m).map λj=>(rows.map λb=>at_ b j).foldl Vagraa.add (at_ tot j)
 | [],tot,h=>by
  show tot=_
  rw[<- h]
  exact yb tot Vagraa.zero
 | b::rows,tot,h=>by
  have hl:(f6 m tot b).length=m:=by unfold f6;rw[List.length_map,List.length_range]
  rw[List.foldl_cons,Ih m rows _ hl]
  refine List.map_congr_left λj hj=>?_
  rw[List.map_cons,List.foldl_cons]
  congr 1
  unfold f6
  exact Gp (List.mem_range.mp hj)
theorem Q4(t:List (List Frac))(cs:List Nat)(k:Nat):wo t cs k=((List.range t.length).filter λr=>decide (cs.getD r 0=k)).map λr=>t.getD r []:=by
 unfold wo
 have:∀ l:List Nat,(∀ r∈l,r<t.length)->l.filterMap (λr=>(t[r]?).bind λb=>if cs.getD r 0=k then some b else none)=(l.filter λr=>decide (cs.getD r 0=k)).map λr=>t.getD r []:=by
  intro l
  induction l with
  | nil=>intro _;rfl
  | cons r l ih=>
   intro hl
   have hr:=hl r (List.mem_cons_self ..)
   rw[List.filterMap_cons,List.filter_cons,ih λz hz=>hl z (List.mem_cons_of_mem _ hz),List.getElem?_eq_getElem hr,Option.bind_some]
   by_cases h:cs.getD r 0=k
   .rw[if_pos h,if_pos (decide_eq_true h),List.map_cons,List.getD_eq_getElem?_getD (l:=t),List.getElem?_eq_getElem hr]
    rfl
   .rw[if_neg h,if_neg (by rw[decide_eq_false h];exact Bool.false_ne_true)]
 exact this _ λr hr=>List.mem_range.mp hr
theorem mv(hR:RunOk n rs vals)(hO:OutsOk rs outs)(hcl:cs.length=outs.length):pbrM n rs outs vals cs=(dg n rs outs).packedRows vals cs:=by
 obtain⟨tl,trow⟩:=kg hR hO (cs:=List.range n) List.length_range
 rw[gf]at trow
 unfold pbrM Vagrak.Prog.packedRows
 rw[<- Gh]
 refine List.map_congr_left λk _=>?_
 generalize gh rs outs vals (List.range n)=tb at tl trow
 unfold sumM
 rw[Ih n _ _ (by rw[List.length_map,List.length_range])]
 refine List.map_congr_left λc hc=>?_
 have hc:=List.mem_range.mp hc
 rw[Gp hc,Q4,List.map_map]
 unfold Vagrae.sum
 have hx:∀ r,Low (if r<tb.length then at_ (tb.getD r []) c else Vagraa.zero):=λr=>by
  split
  .next h=>
   have e:tb[r]? = some (tb.getD r []):=by
    rw[List.getD_eq_getElem?_getD,List.getElem?_eq_getElem h]
    rfl
   obtain⟨h1,h2⟩:=trow _ (List.mem_of_getElem? e)
   exact(h2 _ (List.mem_of_getElem? (de (by omega)))).low
  .exact⟨Nat.one_pos,rfl⟩
 have z:=(E5 (λr=>if r<tb.length then at_ (tb.getD r []) c else Vagraa.zero) (λr=>decide (cs.getD r 0=k)) hx tb.length).2
 have l1:((List.range tb.length).filter λr=>decide (cs.getD r 0=k)).foldl (λacc r=>Vagraa.add acc (if r<tb.length then at_ (tb.getD r []) c else Vagraa.zero)) Vagraa.zero=(((List.range tb.length).filter λr=>decide (cs.getD r 0=k)).map ((λb=>at_ b c)∘λr=>tb.getD r [])).foldl Vagraa.add Vagraa.zero:=by
  rw[List.foldl_map]
  refine lu λacc r hr=>?_
  rw[if_pos (List.mem_range.mp (List.mem_filter.mp hr).1)]
  rfl
 rw[<- l1,<- z]
 show _=List.foldl Vagraa.add Vagraa.zero ((List.range outs.length).map _)
 rw[List.foldl_map,tl]
 refine(lu λacc r hr=>?_).symm
 have hr:=List.mem_range.mp hr
 have e1:at_ (Vagrak.seed cs k) r=if decide (cs.getD r 0=k)=true then Vagraa.one else Vagraa.zero:=by
  unfold Vagrak.seed
  rw[Lz (d:=0) (by omega)]
  by_cases h:cs.getD r 0=k
  .rw[if_pos h,if_pos (decide_eq_true h)]
  .rw[if_neg h,if_neg (by rw[decide_eq_false h];exact Bool.false_ne_true)]
 rw[e1,if_pos (show r<outs.length from hr)]
theorem Cz{p:List (List Bool)}{t:List (List Frac)}(h:Rect p n)(hl:cs.length=n):ku 0 p t cs=Vagrak.unpacked p cs t:=by
 unfold ku Vagrak.unpacked
 refine List.map_congr_left λr hr=>?_
 have hr:=List.mem_range.mp hr
 unfold ic
 rw[(h.at_ hr).2,hl]
 refine List.map_congr_left λc hc=>?_
 have hc:=List.mem_range.mp hc
 have e:at_ (f7 0 t cs r) c=at_ (t.getD r []) (cs.getD c 0):=by
  unfold f7
  rw[if_neg (by decide),Lz (d:=0) (by omega)]
 rw[e]
 rfl
theorem sh{p:List (List Bool)}{t:List (List Frac)}(h:Rect p n):ku 1 p t cs=Vagrak.unpackedRows p cs n t:=by
 unfold ku Vagrak.unpackedRows
 refine List.map_congr_left λr hr=>?_
 have hr:=List.mem_range.mp hr
 unfold ic
 rw[(h.at_ hr).2]
 refine List.map_congr_left λc hc=>?_
 unfold f7
 rw[if_pos rfl]
 rfl
end
end Sp
end
section
namespace Sp
open PySem PySem.Spec PyProof.Rows L2
open VagraLine (at_)
open Vagraa (Frac)
structure Stt where
 n:Nat
 rs:List (List Int)
 outs:List Nat
 pt:Option (List Frac)
abbrev Stt.st(s:Stt):Vagrak.State:={ prog:=dg s.n s.rs s.outs,point:=s.pt }
def StAt(K:W.Frag)(C:Addr)(H:Hp)(vh:V)(s:Stt)(S:V->Prop):Prop:=
 ∃ a dx vl vo vp,vh=.ref a/\H a=some (.ins C dx (fq (.int (s.n:Nat)) vl vo vp))/\rLs K (rTp K rInt) H vl s.rs/\rLs K rNat H vo s.outs/\PtAt K H vp s.n s.pt/\CodeOk s.n s.rs s.outs/\S vl/\S vo/\S vp
theorem StAt.held{K:W.Frag}{C:Addr}{H:Hp}{vh:V}{s:Stt}{S:V->Prop}(h:StAt K C H vh s S):∃ vp,fc K C H vh s.n s.rs s.outs vp/\PtAt K H vp s.n s.pt/\CodeOk s.n s.rs s.outs:=by
 obtain⟨a,dx,vl,vo,vp,h1,h2,h3,h4,h5,h6,_⟩:=h
 exact⟨vp,⟨a,dx,vl,vo,h1,h2,h3,h4⟩,h5,h6⟩
theorem du{x:Int}{hi:Nat}(h:inB x 0 hi=true):∃ k:Nat,x=(k:Int)/\k<=hi/\Vagrak.ranged x 0 hi=.ok k:=by
 unfold inB at h
 rw[Bool.and_eq_true]at h
 have h1:=of_decide_eq_true h.1
 have h2:=of_decide_eq_true h.2
 refine⟨x.toNat,by omega,by omega,?_⟩
 unfold Vagrak.ranged
 rw[if_pos ⟨h1,h2⟩]
theorem da{x:Int}{hi:Nat}(h:inB x 0 hi=false):Vagrak.ranged x 0 hi=.error (-1):=by
 unfold Vagrak.ranged
 rw[if_neg λz=>by
  unfold inB at h
  rw[decide_eq_true z.1,decide_eq_true z.2]at h
  cases h]
theorem jc{n:Nat}{rs:List (List Int)}{outs:List Nat}{pt:Option (List Frac)}(hc:CodeOk n rs outs){k:Nat}(hk:k<=1) :
  fw ((⟨n,rs,outs,pt⟩:Stt).st.side k).1 ((⟨n,rs,outs,pt⟩:Stt).st.side k).2 (metM k n rs outs):=by
 obtain⟨h1,h2⟩:=kd hc
 have e:=z8 (n:=n) (outs:=outs) hc.ok
 have hkk:k=0\/k=1:=by omega
 rcases hkk with rfl|rfl
 .show fw (dg n rs outs).pattern n (ji (dk 0 n (patM n rs outs)))
  rw[<- e]
  exact R8 h1
 .show fw (Vagrak.turnedPattern n (dg n rs outs).pattern) outs.length (ji (dk 1 n (patM n rs outs)))
  rw[<- e,<- h2]
  exact Oc h1
section
variable{P:Program}{w:World}{K:W.Frag}{mg:Str->Option Value}{base:Heap}{T:Addr}{C:Addr}{er:Int->Addr}
structure AskIn(K:W.Frag)(C T:Addr)(H:Hp)(vh vw vr:V)(s:Stt)(S:V->Prop)(ws:List Int)(rows:List (List Int)):Prop where
 st:StAt K C H vh s S
 hw:rLs K rInt H vw ws
 hr:rLs K (rLs K rInt) H vr rows
 short:∀ r∈rows,r.length<=400
 tab:TabO T H
def gu(K:W.Frag)(C T:Addr)(er:Int->Addr)(nw nr:Nat)(g:Stt->List Int->List (List Int)->Except Int (List Int)):Sp:=λvs H Q E=>∃ (vh vw vr:V) (s:Stt) (S:V->Prop) (ws:List Int) (rows:List (List Int)),vs=[vh,vw,vr]/\AskIn K C T H vh vw vr s S ws rows/\ws.length=nw/\rows.length=nr /\
 (∀ n H',g s ws rows=.error n->Sb T H H'->TabO T H'->E (.ref (er n)) none H')/\(∀ l p H',g s ws rows=.ok l->H p=none->Sb T H H'->TabO T H'->rLt rInt H' (.ref p) l->Q (.ref p) H')
theorem Ey{l:List Int}(h:l.length=2):∃ x y,l=[x,y]:=by
 match l,h with
 | [x,y],_=>exact⟨x,y,rfl⟩
theorem t9{α:Type}{l:List α}(h:l.length=1):∃ x,l=[x]:=by
 match l,h with
 | [x],_=>exact⟨x,rfl⟩
theorem T8{α:Type}{R:Rp α}(hR:∀ H i x,¬ R H (.int i) x){H:Hp}{p:Addr}{i:Int}{r:List Int}(hp:H p=some (.lst ((i::r).map V.int))){v:V}{l:List α}(h:rLt R H v l):v≠.ref p:=λz=>by
 obtain⟨a,xs,e,h1,pr⟩:=h
 rw[e]at z
 cases z
 rw[h1]at hp
 cases hp
 cases pr with
 | cons r1 _=>exact hR _ _ _ r1
theorem T7{α:Type}{R:Rp α}(hR:∀ (H:Hp) (i:Int) (l:List α),¬ rLt R H (.int i) l){H:Hp}{p:Addr}{i:Int}{r:List Int}(hp:H p=some (.lst ((i::r).map V.int))){v:V}{l:List (List α)}(h:rLt (rLt R) H v l):v≠.ref p:=T8 hR hp h
theorem Qy{α:Type}{R:Rp α}{H:Hp}{i:Int}{l:List α}:¬ rLt R H (.int i) l:=λ⟨a,xs,e,_⟩=>by cases e
def F8:Stt->List Int->List (List Int)->Except Int (List Int):=λs _ _=>s.st.asked .pattern
theorem zw:FnScope ["held","wholes","rows","answer","row","columns"] ["held","wholes","rows"] (au d_answer_pattern):=by trivial
def jv(n:Nat)(l:List (List Bool)):List Int:=l.flatMap λr=>Vagrak.listed ((List.range n).filter λc=>r.getD c false)
theorem t7(n:Nat):∀ (l:List (List Bool)),(jv n l).length<=l.length*(n+1)
 | []=>Nat.zero_le _
 | b::l=>by
  have ih:=t7 n l
  unfold jv at *
  rw[List.flatMap_cons,List.length_append,List.length_cons,Nat.succ_mul]
  have:(Vagrak.listed ((List.range n).filter λc=>b.getD c false)).length<=n+1:=by
   unfold Vagrak.listed
   rw[List.length_cons,List.length_map]
   have:=List.length_filter_le (λc=>b.getD c false) (List.range n)
   rw[List.length_range]at this
   omega
  omega
theorem Ry(B:Blt mg)(hC:HCls K C)(F:Mn P w K mg base CX0 5 C "pattern" ["self"] (A6 K C))(G:Fn P w K mg base CX0 1 "entry_columns" ["row"] (De K))(D:Df K mg "answer_pattern" d_answer_pattern ["held","wholes","rows"]) :
  Fn P w K mg base (CXE P w) 53 "answer_pattern" ["held","wholes","rows"] (gu K C T er 0 0 F8):=by
 refine D.okE zw (λvs H Q E h=>?_) (λf cdv A outer s0 H vs Q E hr h=>?_)
 .obtain⟨vh,vw,vr,s,S,ws,rows,rfl,_⟩:=h
  rfl
 .obtain⟨vh,vw,vr,s,S,ws,rows,rfl,hin,hws,hrs,qe,q⟩:=h
  obtain⟨vp,hh,hpt,hc⟩:=hin.st.held
  obtain⟨n,rs,outs,pt⟩:=s
  dsimp only at hh hpt hc
  refine⟨_,af (bg (i:=3) zw.nd rfl (Or.inl rfl) (cu (aa (bj be rfl B.len PySem.boot_len (aa (fb (pv 0) rfl) aj)) (aa (fb (pv 0) rfl) aj))))
   (af (fj m9 rfl (cy (tz F hC.cl (hr.mono (by decide)) bo (pv 0))) (bi (i:=4) zw.nd rfl (Or.inl rfl))
    (af (bg (i:=5) zw.nd rfl (Or.inl rfl) (bh G (hr.mono (by decide)) rfl bo (aa (pv 4) aj)))
    (af (cf (ju PySem.F.plainAttrs_list PySem.F.slot_list_append PySem.F.type_list_append d8 (pv 3) (aa (bj be rfl B.len PySem.boot_len (aa (pv 5) aj)) aj)))
    (aq (cf (ju PySem.F.plainAttrs_list PySem.F.slot_list_extend PySem.F.type_list_extend uc (pv 3) (aa (pv 5) aj)))))))
   (aq (az (pv 3)))),?_⟩
  obtain⟨⟨a,C1,dx,fs,u,e1,e2,e3,e4,e5,e6⟩,_,⟨d,C3,dx3,fs3,u3,d1,d2,d3,d4,d5,ho⟩,_⟩:=hh.fld hC
  subst e6
  obtain⟨ao,e7,so⟩:=rLs.nats.mp ho
  subst e7
  refine⟨_,rfl,d,C3,dx3,fs3,_,d1,d2,d3,d4,d5,ao,_,rfl,.inl so,_,rfl,a,C1,dx,fs,_,e1,e2,e3,e4,e5,(by show 2<=sizeLine;decide),λpp hpp=>?_⟩
  rw[List.length_map]
  have s1:Same H (upd H pp (.lst [.int (outs.length:Nat),.int (n:Nat)])):=.new hpp
  obtain⟨a0,dx0,vl0,vo0,ea,ha,_,_⟩:=id (hh.mono s1)
  refine⟨_,rfl,a0,dx0,_,ea,ha,uk _ _ _ _,vh,vp,n,rs,outs,rfl,hh.mono s1,hc,λv1 H1 s2 r1=>?_⟩
  obtain⟨p1,p2⟩:=kd hc
  have hn:=hc.n12
  have ho12:=hc.o12
  obtain⟨ap,xp,e8,hxp,prp,hlp⟩:=r1.len
  subst e8
  have hpp1:H1 pp=some (.lst (((outs.length:Int)::(n:Int)::([]:List Int)).map V.int)):=s2 _ _ ak
  have s12:=s1.trans s2
  have nap:ap≠pp:=λz=>T7 (λ_ _ _=>Qy) hpp1 r1 (by rw[z])
  have nrow:∀ (i:Nat) (x:V),xp[i]? = some x->x≠.ref pp:=λi x hx=>by
   obtain⟨b,_,rb⟩:=eh prp hx
   exact T8 (λ_ _ _ z=>by cases z) hpp1 rb
  refine⟨ap,rfl,⟨_,SqL.of hxp⟩,ft (K:=K) (a:=ap) (xs:=xp) (λi Z H'=>∃ v4 v5,Z=[some vh,some vw,some vr,some (.ref pp),v4,v5]/\Sb pp H1 H'/\H' pp=some (.lst (((outs.length:Int)::(n:Int)::jv n ((patM n rs outs).take i)).map V.int)))
   ⟨none,none,rfl,λb o e _=>e,hpp1⟩ (λi Z H' _ ⟨_,_,_,s3,_⟩=>SqL.of (s3 _ _ hxp nap)) ?_ ?_⟩
  .rintro i x Z H' hx ⟨v4,v5,rfl,s3,hp3⟩
   obtain⟨b,hb,rb⟩:=eh prp hx
   have hbn:=p1.row b (List.mem_of_getElem? hb)
   have hi:i<(patM n rs outs).length:=(List.getElem?_eq_some_iff.mp hb).1
   have rb3:rLt rBl H' x b:=rLt.av rBl.avT pp _ _ _ _ _ hpp1 s3 (nrow i x hx) rb
   refine⟨_,rfl,x,b,rfl,rb3.ls,by omega,λp4 H4 hp4 s4 r4=>?_⟩
   obtain⟨a4,e4,h4⟩:=rLt.nats.mp r4
   cases e4
   have hp34:=s4 _ _ hp3
   have n4:p4≠pp:=λz=>by
    rw[z,hp3]at hp4
    cases hp4
   have hec:ir b=(List.range n).filter λc=>b.getD c false:=by unfold ir;rw[hbn]
   have hel:=List.length_filter_le (λc=>b.getD c false) (List.range n)
   rw[List.length_range,<- hec]at hel
   have htl:=t7 n ((patM n rs outs).take i)
   rw[List.length_take]at htl
   have htl2:(jv n ((patM n rs outs).take i)).length<=12*13:=Nat.le_trans htl (Nat.mul_le_mul (by omega) (by omega))
   refine⟨_,rfl,.inl ⟨rfl,_,SqL.of hp34⟩,_,rfl,p4,_,rfl,.inl (SqL.of h4),pp,_,_,rfl,rfl,hp34,?_,?_⟩
   .rw[List.length_map,List.length_cons,List.length_cons,sizeLine_eq]
    omega
   .rw[List.length_map]
    refine⟨_,rfl,.inl ⟨rfl,_,SqL.of ak⟩,_,rfl,pp,p4,_,_,rfl,rfl,ak,(by rw[ay n4];exact h4),?_,?_⟩
    .rw[List.length_append,List.length_map,List.length_map,List.length_cons,List.length_cons,sizeLine_eq]
     show _+1+_<=_
     omega
    .refine⟨_,_,rfl,λb2 o2 e2 hb2=>?_,?_⟩
     .rw[ay hb2,ay hb2]
      exact s4 _ _ (s3 _ _ e2 hb2)
     .rw[ak,take_snoc hb]
      have e9:jv n ((patM n rs outs).take i++[b])=jv n ((patM n rs outs).take i)++((ir b).length:Int)::(ir b).map Int.ofNat:=by
       unfold jv
       rw[List.flatMap_append,List.flatMap_cons,List.flatMap_nil,List.append_nil,<- hec]
       rfl
      rw[e9]
      congr 2
      rw[<- List.cons_append,<- List.cons_append,List.map_append,List.append_assoc]
      congr 1
      show V.int _::_=V.int _::List.map V.int (List.map Int.ofNat _)
      rw[List.map_map]
      rfl
  .rintro Z H' ⟨v4,v5,rfl,s3,hp3⟩
   rw[hlp,List.take_of_length_le (Nat.le_refl _)]at hp3
   have hsb:Sb T H H':=λb o e _=>s3 _ _ (s12 _ _ e) (ba e hpp)
   refine⟨_,rfl,q _ pp H' ?_ hpp hsb ?_ (rLt.ints.mpr ⟨pp,rfl,hp3⟩)⟩
   .show Except.ok ((outs.length:Int)::(n:Int)::jv n (dg n rs outs).pattern)=_
    rw[<- z8 hc.ok]
   .have hT1:=Tab.same s12 hin.tab
    rcases hT1 with z|⟨c',z,z2⟩
    .exact .inl (s3 _ _ z (d7 z hpp1 (by intro z;cases z)))
    .exact .inr ⟨c',s3 _ _ z (d7 z hpp1 (by intro z;cases z)),s3 _ _ z2 (d7 z2 hpp1 (by intro z;cases z))⟩
end
theorem bx{α β:Type}{x:Except Int α}{f:α->Except Int β}{a:α}(h:x=.ok a):(x>>=f)=f a:=by rw[h];rfl
theorem dq{α β:Type}{x:Except Int α}{f:α->Except Int β}{e:Int}(h:x=.error e):(x>>=f)=.error e:=by rw[h];rfl
def Ps:Stt->List Int->List (List Int)->Except Int (List Int):=λs ws _=>s.st.asked (.meets (ws.getD 0 0))
def Pr:Stt->List Int->List (List Int)->Except Int (List Int):=λs ws _=>s.st.asked (.order (ws.getD 0 0) (ws.getD 1 0))
def F9:Stt->List Int->List (List Int)->Except Int (List Int):=λs ws _=>s.st.asked (.colours (ws.getD 0 0) (ws.getD 1 0))
def K6:Stt->List Int->List (List Int)->Except Int (List Int):=λs ws rows=>s.st.asked (.check (ws.getD 0 0) (rows.getD 0 []))
def Pt:Stt->List Int->List (List Int)->Except Int (List Int):=λs ws _=>s.st.asked (.least (ws.getD 0 0))
section
variable{P:Program}{w:World}{K:W.Frag}{mg:Str->Option Value}{base:Heap}{T:Addr}{C:Addr}{er:Int->Addr}
theorem Tab.sb2{H1 H':Hp}{pp:Addr}{xs:List V}(hpp:H1 pp=some (.lst xs))(s:Sb pp H1 H')(h:TabO T H1):TabO T H':=by
 rcases h with z|⟨c',z,z2⟩
 .exact .inl (s _ _ z (d7 z hpp (by intro z;cases z)))
 .exact .inr ⟨c',s _ _ z (d7 z hpp (by intro z;cases z)),s _ _ z2 (d7 z2 hpp (by intro z;cases z))⟩
def ke(l:List (Nat×Nat)):List Int:=l.flatMap λx=>[(x.1:Int),(x.2:Int)]
theorem Bq(l:List (Nat×Nat)):(ke l).length=2*l.length:=by
 unfold ke
 induction l with
 | nil=>rfl
 | cons a l ih=>
  rw[List.flatMap_cons,List.length_append,ih]
  show 2+2*l.length=2*(l.length+1)
  omega
theorem mn:FnScope ["held","wholes","rows","pairs","answer","pair"] ["held","wholes","rows"] (au d_answer_meets):=by trivial
theorem Kf(B:Blt mg)(hC:HCls K C)(N:Fn P w K mg base (CXE P w) 2 "need_side" ["side"] (gt er 0 1))(M:Mn P w K mg base CX0 6 C "columns_met" ["self","side"] (jo K C))(F:Fn P w K mg base CX0 1 "meeting_pairs" ["met"] (y9 K))(D:Df K mg "answer_meets" d_answer_meets ["held","wholes","rows"]) :
  Fn P w K mg base (CXE P w) 53 "answer_meets" ["held","wholes","rows"] (gu K C T er 1 0 Ps):=by
 refine D.okE mn (λvs H Q E h=>?_) (λf cdv A outer s0 H vs Q E hr h=>?_)
 .obtain⟨vh,vw,vr,s,S,ws,rows,rfl,_⟩:=h
  rfl
 .obtain⟨vh,vw,vr,s,S,ws,rows,rfl,hin,hws,hrs,qe,q⟩:=h
  obtain⟨vp,hh,hpt,hc⟩:=hin.st.held
  obtain⟨n,rs,outs,pt⟩:=s
  dsimp only at hh hpt hc
  obtain⟨x,rfl⟩:=t9 hws
  obtain⟨aw,rfl,sw⟩:=rLs.ints.mp hin.hw
  refine⟨_,af (cf (bh N (hr.mono (by decide)) rfl bw (aa (bf bc (pv 1) ax (λ_ _=>rfl)) aj)))
   (af (bg (i:=3) mn.nd rfl (Or.inl rfl) (bh F (hr.mono (by decide)) rfl bo (aa (ol M hC.cl (hr.mono (by decide)) bo (pv 0) (aa (bf bc (pv 1) ax (λ_ _=>rfl)) aj)) aj)))
   (af (bg (i:=4) mn.nd rfl (Or.inl rfl) (cu (aa (bj be rfl B.len PySem.boot_len (aa (pv 3) aj)) aj)))
   (af (fj m9 rfl (cy (pv 3)) (bi (i:=5) mn.nd rfl (Or.inl rfl)) (aq (cf (ju PySem.F.plainAttrs_list PySem.F.slot_list_extend PySem.F.type_list_extend ye (pv 4) (aa (pv 5) aj)))))
   (aq (az (pv 4)))))),?_⟩
  refine⟨_,rfl,aw,_,_,V.int x,rfl,rfl,sw,rfl,x,rfl,λhb=>?_,λhb=>?_⟩
  .obtain⟨k,rfl,hk,hrk⟩:=du (hi:=1) hb
   have hmo:=jc (pt:=pt) hc hk
   obtain⟨hA,hml⟩:=ii (side:=k) hc
   obtain⟨a0,dx0,vl0,vo0,ea,ha,_,_⟩:=id hh
   refine⟨_,rfl,a0,dx0,_,ea,ha,fo _ _ _ _,_,rfl,aw,_,_,V.int (k:Int),rfl,rfl,sw,rfl,vh,vp,n,k,rs,outs,rfl,hk,hh,hc,λv1 H1 s1 r1 _=>?_⟩
   refine⟨v1,_,rfl,r1,hA,λp2 H2 hp2 s2 r2=>?_⟩
   have s12:=s1.trans s2
   obtain⟨a2,zs,e2,hzs,prz,hzl⟩:=r2.len
   cases e2
   have hple:=Fo _ hA _ (Nat.le_refl _)
   have hfew:=hA.few
   have hplen:(gw (metM k n rs outs)).length<=1000*1000:=Nat.le_trans hple (Nat.mul_le_mul hfew (Nat.le_refl _))
   refine⟨_,rfl,p2,_,rfl,.inl (SqL.of hzs),(by show 1<=sizeLine;decide),λpp hpp=>?_⟩
   rw[hzl]
   have s3:Same H2 (upd H2 pp (.lst [.int ((gw (metM k n rs outs)).length:Nat)])):=.new hpp
   have npp:p2≠pp:=ba hzs hpp
   refine⟨_,rfl,p2,rfl,⟨_,SqL.of (s3 _ _ hzs)⟩,ft (K:=K) (a:=p2) (xs:=zs) (λi Z H'=>∃ v5,Z=[some vh,some (.ref aw),some vr,some (.ref p2),some (.ref pp),v5]/\Sb pp H2 H'/\H' pp=some (.lst ((((gw (metM k n rs outs)).length:Int)::ke ((gw (metM k n rs outs)).take i)).map V.int)))
    ⟨none,rfl,s3.sb,ak⟩ (λi Z H' _ ⟨_,_,s4,_⟩=>SqL.of (s4 _ _ hzs npp)) ?_ ?_⟩
   .rintro i u Z H' hu ⟨v5,rfl,s4,hp4⟩
    obtain⟨b,hb2,ab,rfl,hab⟩:=eh prz hu
    have hi:i<(gw (metM k n rs outs)).length:=(List.getElem?_eq_some_iff.mp hb2).1
    have hab4:=s4 _ _ hab (ba hab hpp)
    refine⟨_,rfl,.inl ⟨rfl,_,SqL.of hp4⟩,_,rfl,pp,ab,_,_,rfl,rfl,hp4,.inl (.inl hab4),?_,?_⟩
    .rw[List.length_map,List.length_cons,Bq,List.length_take,sizeLine_eq]
     show _+2<=_
     omega
    .refine⟨_,rfl,λb2 o2 e2 hb3=>?_,?_⟩
     .rw[ay hb3]
      exact s4 _ _ e2 hb3
     .rw[ak,take_snoc hb2]
      have e9:ke ((gw (metM k n rs outs)).take i++[b])=ke ((gw (metM k n rs outs)).take i)++[(b.1:Int),(b.2:Int)]:=by
       unfold ke
       rw[List.flatMap_append]
       rfl
      rw[e9,<- List.cons_append,List.map_append]
      rfl
   .rintro Z H' ⟨v5,rfl,s4,hp4⟩
    rw[hzl,List.take_of_length_le (Nat.le_refl _)]at hp4
    refine⟨_,rfl,q _ pp H' ?_ (s12.free hpp) (λb o e _=>s4 _ _ (s12 _ _ e) (ba (s12 _ _ e) hpp)) ?_ (rLt.ints.mpr ⟨pp,rfl,hp4⟩)⟩
    .rw[Fp hmo]
     exact bx hrk
    .have hT3:TabO T (upd H2 pp (.lst [.int ((gw (metM k n rs outs)).length:Nat)])):=Tab.same (s12.trans s3) hin.tab
     refine Tab.sb2 ak (λb o e hb=>?_) hT3
     rw[ay hb]at e
     exact s4 _ _ e hb
  .exact qe (-1) H (dq (da (hi:=1) hb)) (λb o e _=>e) hin.tab
theorem A3(met:List (List Nat)):∀ (f:Nat) (l acc:List Nat),l.length<=f->(gl met f l acc).length=l.length+acc.length
 | 0,l,acc,h=>by
  have:l=[]:=List.eq_nil_of_length_eq_zero (by omega)
  subst this
  rw[gl]
  exact(Nat.zero_add _).symm
 | f+1,l,acc,h=>by
  rw[gl]
  by_cases hl:l=[]
  .rw[if_pos hl,hl]
   exact(Nat.zero_add _).symm
  .rw[if_neg hl]
   have hm:=El met hl
   have hlen:=List.length_erase_of_mem hm
   have hpos:=List.length_pos_of_mem hm
   rw[A3 met f _ _ (by omega),List.length_cons,hlen]
   omega
theorem Bc:FnScope ["held","wholes","rows","columns"] ["held","wholes","rows"] (au d_answer_order):=by trivial
theorem Ke(B:Blt mg)(hC:HCls K C)(N:Fn P w K mg base (CXE P w) 2 "need_side" ["side"] (gt er 0 1))(N2:Fn P w K mg base (CXE P w) 2 "need_order" ["order"] (gt er 0 2))(M:Mn P w K mg base CX0 6 C "columns_met" ["self","side"] (jo K C))(F:Fn P w K mg base CX0 3 "ordered_columns" ["met","order"] (zc K T))(D:Df K mg "answer_order" d_answer_order ["held","wholes","rows"]) :
  Fn P w K mg base (CXE P w) 53 "answer_order" ["held","wholes","rows"] (gu K C T er 2 0 Pr):=by
 refine D.okE Bc (λvs H Q E h=>?_) (λf cdv A outer s0 H vs Q E hr h=>?_)
 .obtain⟨vh,vw,vr,s,S,ws,rows,rfl,_⟩:=h
  rfl
 .obtain⟨vh,vw,vr,s,S,ws,rows,rfl,hin,hws,hrs,qe,q⟩:=h
  obtain⟨vp,hh,hpt,hc⟩:=hin.st.held
  obtain⟨n,rs,outs,pt⟩:=s
  dsimp only at hh hpt hc
  obtain⟨x,y,rfl⟩:=Ey hws
  obtain⟨aw,rfl,sw⟩:=rLs.ints.mp hin.hw
  refine⟨_,af (cf (bh N (hr.mono (by decide)) rfl bw (aa (bf bc (pv 1) ax (λ_ _=>rfl)) aj)))
   (af (cf (bh N2 (hr.mono (by decide)) rfl bw (aa (bf bc (pv 1) ax (λ_ _=>rfl)) aj)))
   (af (bg (i:=3) Bc.nd rfl (Or.inl rfl) (bh F (hr.mono (by decide)) rfl bo (aa (ol M hC.cl (hr.mono (by decide)) bo (pv 0) (aa (bf bc (pv 1) ax (λ_ _=>rfl)) aj)) (aa (bf bc (pv 1) ax (λ_ _=>rfl)) aj))))
   (aq (az (ge J2 (cu (aa (bj be rfl B.len PySem.boot_len (aa (pv 3) aj)) aj)) (pv 3)))))),?_⟩
  refine⟨_,rfl,aw,_,_,V.int x,rfl,rfl,sw,rfl,x,rfl,λhb=>?_,λhb=>qe (-1) H (dq (da (hi:=1) hb)) (λb o e _=>e) hin.tab⟩
  obtain⟨k,rfl,hk,hrk⟩:=du (hi:=1) hb
  refine⟨_,rfl,aw,_,_,V.int y,rfl,rfl,sw,rfl,y,rfl,λhb2=>?_,λhb2=>qe (-1) H ((bx hrk).trans (dq (da (hi:=2) hb2))) (λb o e _=>e) hin.tab⟩
  obtain⟨k2,rfl,hk2,hrk2⟩:=du (hi:=2) hb2
  have hmo:=jc (pt:=pt) hc hk
  obtain⟨hA,hml⟩:=ii (side:=k) hc
  have hfew:=hA.few
  obtain⟨a0,dx0,vl0,vo0,ea,ha,_,_⟩:=id hh
  refine⟨_,rfl,a0,dx0,_,ea,ha,fo _ _ _ _,_,rfl,aw,_,_,V.int (k:Int),rfl,rfl,sw,rfl,vh,vp,n,k,rs,outs,rfl,hk,hh,hc,λv1 H1 s1 r1 _=>?_⟩
  refine⟨_,rfl,aw,_,_,V.int (k2:Int),rfl,rfl,s1.seq sw,rfl,v1,_,k2,rfl,hk2,r1,hA,Tab.same s1 hin.tab,λp2 H2 ys hp2 b2 hT2 hord r2=>?_⟩
  obtain⟨a2,e2,h2⟩:=rLt.nats.mp r2
  cases e2
  obtain⟨ps2,hps2⟩:=hT2.at_
  have b02:Sb T H H2:=λb o e hb=>b2 _ _ (s1 _ _ e) hb
  have hyl:ys.length<=1000:=by
   have e:=z9 hmo hord
   have:ys.length=(metM k n rs outs).length:=by
    rcases hord with ⟨_,e⟩|⟨_,e⟩|⟨_,e⟩
    .rw[e,List.length_range]
    .have hp:∀ i,ys.count i=(List.range (metM k n rs outs).length).count i:=λi=>by
      have z1:=congrArg (List.count i) (e.2 (-(((metM k n rs outs).getD i []).length:Int)))
      rw[List.count_filter (by simp),List.count_filter (by simp)]at z1
      exact z1
     have:=(List.perm_iff_count.mpr hp).length_eq
     rw[List.length_range]at this
     exact this
    .rw[e,A3]
     .simp
     .rw[List.length_range]
      exact Nat.le_refl _
   omega
  refine⟨_,rfl,p2,_,rfl,.inl (SqL.of h2),(by show 1<=sizeLine;decide),λp3 hp3=>?_⟩
  have n32:p2≠p3:=ba h2 hp3
  refine⟨_,rfl,p3,p2,_,_,rfl,rfl,ak,(by rw[ay n32];exact h2),?_,λp4 hp4=>?_⟩
  .rw[List.length_map,sizeLine_eq]
   show 1+_<=_
   omega
  .have s34:Same H2 _:=(Same.new (o:=.lst [.int ((ys.map λn:Nat=>V.int (n:Int)).length:Nat)]) hp3).trans (Same.new (o:=.lst ([.int ((ys.map λn:Nat=>V.int (n:Int)).length:Nat)]++ys.map λn:Nat=>V.int (n:Int))) hp4)
   have h40:H p4=none:=b02.free hps2 ((Same.new hp3).free hp4)
   refine q ((ys.length:Int)::ys.map Int.ofNat) p4 _ ?_ h40 (λb o e hb=>s34 _ _ (b02 _ _ e hb)) (Tab.same s34 hT2) (rLt.ints.mpr ⟨p4,rfl,?_⟩)
   .rw[z9 hmo hord]
    exact(bx hrk).trans (bx hrk2)
   .rw[ak,List.length_map]
    show some (HO.lst (V.int _::_))=some (HO.lst (V.int _::List.map V.int (List.map Int.ofNat ys)))
    rw[List.map_map]
    rfl
end
section
variable{P:Program}{w:World}{K:W.Frag}{mg:Str->Option Value}{base:Heap}{T:Addr}{C:Addr}{er:Int->Addr}
theorem j5{n:Nat}{rs:List (List Int)}{outs ys:List Nat}{pt:Option (List Frac)}(hc:CodeOk n rs outs){k k2:Nat}(hk:k<=1)(ho:l7 (metM k n rs outs) k2 ys) :
  Ox (metM k n rs outs) ys=((⟨n,rs,outs,pt⟩:Stt).st.colours k k2).map (λn:Nat=>(n:Int))/\((⟨n,rs,outs,pt⟩:Stt).st.colours k k2).length=(if k=1 then outs.length else n)/\(∀ c∈(⟨n,rs,outs,pt⟩:Stt).st.colours k k2,c<=12):=by
 have hmo:=jc (pt:=pt) hc hk
 obtain⟨hA,hml⟩:=ii (side:=k) hc
 have hn2:=hmo.len
 have h12:=hc.n12
 have o12:=hc.o12
 have hle:((⟨n,rs,outs,pt⟩:Stt).st.side k).2<=12:=by
  rw[<- hn2,hml]
  split <;> omega
 refine⟨P3 hmo ho,(qj _ _ _).trans (hn2.symm.trans hml),λc hcm=>Nat.le_trans (uw _ _ _ c hcm) hle⟩
theorem Jk:FnScope ["held","wholes","rows","colours"] ["held","wholes","rows"] (au d_answer_colours):=by trivial
theorem R1(B:Blt mg)(hC:HCls K C)(N:Fn P w K mg base (CXE P w) 2 "need_side" ["side"] (gt er 0 1))(N2:Fn P w K mg base (CXE P w) 2 "need_order" ["order"] (gt er 0 2))(M:Mn P w K mg base CX0 6 C "columns_met" ["self","side"] (jo K C))(F:Fn P w K mg base CX0 4 "told_colours" ["met","order"] (xz K T))(G:Fn P w K mg base CX0 1 "colour_count" ["colours"] (i4 K))(D:Df K mg "answer_colours" d_answer_colours ["held","wholes","rows"]) :
  Fn P w K mg base (CXE P w) 53 "answer_colours" ["held","wholes","rows"] (gu K C T er 2 0 F9):=by
 refine D.okE Jk (λvs H Q E h=>?_) (λf cdv A outer s0 H vs Q E hr h=>?_)
 .obtain⟨vh,vw,vr,s,S,ws,rows,rfl,_⟩:=h
  rfl
 .obtain⟨vh,vw,vr,s,S,ws,rows,rfl,hin,hws,hrs,qe,q⟩:=h
  obtain⟨vp,hh,hpt,hc⟩:=hin.st.held
  obtain⟨n,rs,outs,pt⟩:=s
  dsimp only at hh hpt hc
  obtain⟨x,y,rfl⟩:=Ey hws
  obtain⟨aw,rfl,sw⟩:=rLs.ints.mp hin.hw
  refine⟨_,af (cf (bh N (hr.mono (by decide)) rfl bw (aa (bf bc (pv 1) ax (λ_ _=>rfl)) aj)))
   (af (cf (bh N2 (hr.mono (by decide)) rfl bw (aa (bf bc (pv 1) ax (λ_ _=>rfl)) aj)))
   (af (bg (i:=3) Jk.nd rfl (Or.inl rfl) (bh F (hr.mono (by decide)) rfl bo (aa (ol M hC.cl (hr.mono (by decide)) bo (pv 0) (aa (bf bc (pv 1) ax (λ_ _=>rfl)) aj)) (aa (bf bc (pv 1) ax (λ_ _=>rfl)) aj))))
   (aq (az (ge J2 (cu (aa (bh G (hr.mono (by decide)) rfl bo (aa (pv 3) aj)) (aa (bj be rfl B.len PySem.boot_len (aa (pv 3) aj)) aj))) (pv 3)))))),?_⟩
  refine⟨_,rfl,aw,_,_,V.int x,rfl,rfl,sw,rfl,x,rfl,λhb=>?_,λhb=>qe (-1) H (dq (da (hi:=1) hb)) (λb o e _=>e) hin.tab⟩
  obtain⟨k,rfl,hk,hrk⟩:=du (hi:=1) hb
  refine⟨_,rfl,aw,_,_,V.int y,rfl,rfl,sw,rfl,y,rfl,λhb2=>?_,λhb2=>qe (-1) H ((bx hrk).trans (dq (da (hi:=2) hb2))) (λb o e _=>e) hin.tab⟩
  obtain⟨k2,rfl,hk2,hrk2⟩:=du (hi:=2) hb2
  have hmo:=jc (pt:=pt) hc hk
  obtain⟨hA,hml⟩:=ii (side:=k) hc
  have hfew:=hA.few
  obtain⟨a0,dx0,vl0,vo0,ea,ha,_,_⟩:=id hh
  refine⟨_,rfl,a0,dx0,_,ea,ha,fo _ _ _ _,_,rfl,aw,_,_,V.int (k:Int),rfl,rfl,sw,rfl,vh,vp,n,k,rs,outs,rfl,hk,hh,hc,λv1 H1 s1 r1 _=>?_⟩
  refine⟨_,rfl,aw,_,_,V.int (k2:Int),rfl,rfl,s1.seq sw,rfl,v1,_,k2,rfl,hk2,r1,hA,(λys ho c hcm=>(jw ho c).mp hcm),Tab.same s1 hin.tab,λp2 H2 ys hp2 b2 hT2 hord r2=>?_⟩
  obtain⟨f1,f2,f3⟩:=j5 (pt:=pt) hc hk hord
  rw[f1]at r2
  generalize hcs:(⟨n,rs,outs,pt⟩:Stt).st.colours k k2=cs at r2 f2 f3
  obtain⟨a2,e2,h2⟩:=rLt.ints.mp r2
  cases e2
  obtain⟨ps2,hps2⟩:=hT2.at_
  have b02:Sb T H H2:=λb o e hb=>b2 _ _ (s1 _ _ e) hb
  refine⟨_,rfl,_,_,rfl,r2.ls,(λc hcm=>by obtain⟨m,_,rfl⟩:=List.mem_map.mp hcm;omega),?_⟩
  rw[gq]
  refine⟨_,rfl,p2,_,rfl,.inl (SqL.of h2),?_⟩
  rw[List.length_map,List.length_map]
  refine⟨(by show 2<=sizeLine;decide),λp3 hp3=>?_⟩
  have n32:p2≠p3:=ba h2 hp3
  have hcl2:cs.length<=1000:=by
   have h12:=hc.n12
   have o12:=hc.o12
   rw[f2]
   split <;> omega
  refine⟨_,rfl,p3,p2,_,_,rfl,rfl,ak,(by rw[ay n32];exact h2),?_,λp4 hp4=>?_⟩
  .rw[List.length_map,List.length_map,sizeLine_eq]
   show 2+_<=_
   omega
  .have s3:=Same.new (o:=.lst [.int (b9 cs:Nat),.int (cs.length:Nat)]) hp3
   have s34:=s3.trans (Same.new (o:=.lst ([.int (b9 cs:Nat),.int (cs.length:Nat)]++(cs.map λn:Nat=>(n:Int)).map V.int)) hp4)
   refine q ((b9 cs:Int)::(cs.length:Int)::cs.map Int.ofNat) p4 _ ?_ (b02.free hps2 (s3.free hp4)) (λb o e hb=>s34 _ _ (b02 _ _ e hb)) (Tab.same s34 hT2) (rLt.ints.mpr ⟨p4,rfl,?_⟩)
   .rw[<- hcs]
    exact(bx hrk).trans (bx hrk2)
   .rw[ak]
    rfl
theorem Dr:FnScope ["held","wholes","rows","met","clash"] ["held","wholes","rows"] (au d_answer_check):=by trivial
theorem yp{l:List Int}{n:Nat}(h:ub l n=true):Vagrak.coloursOf n l=.ok (l.map Int.toNat)/\l.length=n/\(∀ c∈l,0<=c)/\∀ c∈l.map Int.toNat,c<100:=by
 unfold ub at h
 rw[Bool.and_eq_true]at h
 have h1:=of_decide_eq_true h.1
 have h2:=List.all_eq_true.mp h.2
 have h3:∀ c∈l,0<=c/\c<=99:=λc hc=>by
  have:=h2 c hc
  unfold inB at this
  rw[Bool.and_eq_true]at this
  exact⟨of_decide_eq_true this.1,of_decide_eq_true this.2⟩
 refine⟨?_,h1,λc hc=>(h3 c hc).1,λc hc=>?_⟩
 .unfold Vagrak.coloursOf
  rw[if_pos ⟨h1,List.all_eq_true.mpr λc hc=>by
   have:=h3 c hc
   rw[decide_eq_true this.1,decide_eq_true (by omega:c<100)]
   rfl⟩]
 .obtain⟨z,hz,rfl⟩:=List.mem_map.mp hc
  have:=h3 z hz
  omega
theorem uv{l:List Int}{n:Nat}(h:ub l n=false):Vagrak.coloursOf n l=.error (-2):=by
 unfold Vagrak.coloursOf
 rw[if_neg λz=>?_]
 unfold ub at h
 rw[decide_eq_true z.1,Bool.true_and]at h
 have:(l.all λz=>inB z 0 99)=true:=List.all_eq_true.mpr λc hc=>by
  have:=List.all_eq_true.mp z.2 c hc
  rw[Bool.and_eq_true]at this
  have h1:=of_decide_eq_true this.1
  have h2:=of_decide_eq_true this.2
  unfold inB
  rw[decide_eq_true h1,decide_eq_true (by omega:c<=99)]
  rfl
 rw[this]at h
 cases h
theorem xy{l:List Int}(h:∀ c∈l,0<=c):(l.map Int.toNat).map (λn:Nat=>(n:Int))=l:=by
 rw[List.map_map]
 conv=>rhs;rw[<- List.map_id l]
 exact List.map_congr_left λc hc=>Int.toNat_of_nonneg (h c hc)
theorem R3(B:Blt mg)(hC:HCls K C)(N:Fn P w K mg base (CXE P w) 2 "need_side" ["side"] (gt er 0 1))(N2:Fn P w K mg base (CXE P w) 2 "need_colours" ["colours","how_many_columns"] (j7 K er))(M:Mn P w K mg base CX0 6 C "columns_met" ["self","side"] (jo K C))(F:Fn P w K mg base CX0 2 "first_clash" ["met","colours"] (zh K))(D:Df K mg "answer_check" d_answer_check ["held","wholes","rows"]) :
  Fn P w K mg base (CXE P w) 53 "answer_check" ["held","wholes","rows"] (gu K C T er 1 1 K6):=by
 refine D.okE Dr (λvs H Q E h=>?_) (λf cdv A outer s0 H vs Q E hr h=>?_)
 .obtain⟨vh,vw,vr,s,S,ws,rows,rfl,_⟩:=h
  rfl
 .obtain⟨vh,vw,vr,s,S,ws,rows,rfl,hin,hws,hrs,qe,q⟩:=h
  obtain⟨vp,hh,hpt,hc⟩:=hin.st.held
  obtain⟨n,rs,outs,pt⟩:=s
  dsimp only at hh hpt hc
  obtain⟨x,rfl⟩:=t9 hws
  obtain⟨l,rfl⟩:=t9 hrs
  obtain⟨aw,rfl,sw⟩:=rLs.ints.mp hin.hw
  obtain⟨ar,xr,rfl,sr,prr⟩:=hin.hr
  obtain⟨u,hu,ru⟩:=gp prr (i:=0) (y:=l) rfl
  have hl400:=hin.short l (List.mem_cons_self ..)
  refine⟨_,af (cf (bh N (hr.mono (by decide)) rfl bw (aa (bf bc (pv 1) ax (λ_ _=>rfl)) aj)))
   (af (bg (i:=3) Dr.nd rfl (Or.inl rfl) (ol M hC.cl (hr.mono (by decide)) bo (pv 0) (aa (bf bc (pv 1) ax (λ_ _=>rfl)) aj)))
   (af (cf (bh N2 (hr.mono (by decide)) rfl bw (aa (bf bc (pv 2) ax (λ_ _=>rfl)) (aa (bj be rfl B.len PySem.boot_len (aa (pv 3) aj)) aj))))
   (af (bg (i:=4) Dr.nd rfl (Or.inl rfl) (bh F (hr.mono (by decide)) rfl bo (aa (pv 3) (aa (bf bc (pv 2) ax (λ_ _=>rfl)) aj))))
   (af (cw (bp Pl (pv 4) yd (bv _)) (aq (az (cu (aa ax aj)))) bu)
   (aq (az (cu (aa ax (aa (bf bq (pv 4) ax (λ_ _=>rfl)) (aa (bf bq (pv 4) ax (λ_ _=>rfl)) aj)))))))))),?_⟩
  refine⟨_,rfl,aw,_,_,V.int x,rfl,rfl,sw,rfl,x,rfl,λhb=>?_,λhb=>qe (-1) H (dq (da (hi:=1) hb)) (λb o e _=>e) hin.tab⟩
  obtain⟨k,rfl,hk,hrk⟩:=du (hi:=1) hb
  have hmo:=jc (pt:=pt) hc hk
  obtain⟨hA,hml⟩:=ii (side:=k) hc
  have hn2:=hmo.len
  obtain⟨a0,dx0,vl0,vo0,ea,ha,_,_⟩:=id hh
  refine⟨_,rfl,a0,dx0,_,ea,ha,fo _ _ _ _,_,rfl,aw,_,_,V.int (k:Int),rfl,rfl,sw,rfl,vh,vp,n,k,rs,outs,rfl,hk,hh,hc,λv1 H1 s1 r1 _=>?_⟩
  obtain⟨am,xm,rfl,hxm,prm,hlm⟩:=r1.len
  refine⟨_,rfl,ar,_,_,_,rfl,rfl,s1.seq sr,ck (j:=0) rfl hu,_,rfl,am,_,rfl,.inl (SqL.of hxm),u,l,xm.length,rfl,rLs.mono rInt.mono _ _ _ _ s1 ru,by omega,λhok H2 s2=>?_,λhok H2 s2=>?_⟩
  .have s12:=s1.trans s2
   rw[hlm,hn2]at hok
   obtain⟨c1,c2,c3,c4⟩:=yp hok
   have ecl:=Gm hmo (cs:=l.map Int.toNat) (by rw[List.length_map];exact c2)
   rw[xy c3]at ecl
   have spec:∀ z,Vagrak.clash ((⟨n,rs,outs,pt⟩:Stt).st.side k).1 (l.map Int.toNat)=z->K6 ⟨n,rs,outs,pt⟩ [(k:Int)] [l]=.ok (match z with
     | none=>[1]
     | some x=>[0,(x.1:Int),(x.2:Int)]):=λz hz=>by
    rw[<- hz]
    exact(bx hrk).trans (bx c1)
   refine⟨_,rfl,_,rfl,ar,_,_,_,rfl,rfl,s12.seq sr,ck (j:=0) rfl hu,.ref am,u,_,l,rfl,rLt.mono (rLt.mono rNat.mono) _ _ _ _ s2 r1,hA,rLs.mono rInt.mono _ _ _ _ s12 ru,by rw[c2,hn2],λhno H3 s3=>?_,λz v H3 hz s3 rv=>?_⟩
   .refine⟨_,rfl,rfl,_,rfl,iteT ⟨(by show 1<=sizeLine;decide),λp4 hp4=>?_⟩⟩
    have s4:=(s12.trans s3).trans (Same.new (o:=.lst [.int 1]) hp4)
    exact q _ p4 _ (spec none (by rw[<- ecl];exact hno)) ((s12.trans s3).free hp4) s4.sb (Tab.same s4 hin.tab) (rLt.ints.mpr ⟨p4,rfl,ak⟩)
   .obtain⟨a5,rfl,h5⟩:=rv
    have st:SqT K H3 a5 [.int (z.1:Int),.int (z.2:Int)]:=.inl (.inl h5)
    refine⟨_,rfl,rfl,_,rfl,iteF ⟨_,rfl,a5,_,_,_,rfl,rfl,st,rfl,_,rfl,a5,_,_,_,rfl,rfl,st,rfl,(by show 3<=sizeLine;decide),λp4 hp4=>?_⟩⟩
    have s4:=(s12.trans s3).trans (Same.new (o:=.lst [.int 0,.int (z.1:Int),.int (z.2:Int)]) hp4)
    exact q _ p4 _ (spec (some z) (by rw[<- ecl];exact hz)) ((s12.trans s3).free hp4) s4.sb (Tab.same s4 hin.tab) (rLt.ints.mpr ⟨p4,rfl,ak⟩)
  .rw[hlm,hn2]at hok
   exact qe (-2) H2 ((bx hrk).trans (dq (uv hok))) (s1.trans s2).sb (Tab.same (s1.trans s2) hin.tab)
theorem Jj:FnScope ["held","wholes","rows","met"] ["held","wholes","rows"] (au d_answer_least):=by trivial
theorem Rz(B:Blt mg)(X:Errs K mg er)(Cb:Bounds mg)(hC:HCls K C)(N:Fn P w K mg base (CXE P w) 2 "need_side" ["side"] (gt er 0 1))(M:Mn P w K mg base CX0 6 C "columns_met" ["self","side"] (jo K C))(F:Fn P w K mg base CX0 11 "fewest_colours" ["met"] (zg K))(D:Df K mg "answer_least" d_answer_least ["held","wholes","rows"]) :
  Fn P w K mg base (CXE P w) 53 "answer_least" ["held","wholes","rows"] (gu K C T er 1 0 Pt):=by
 refine D.okE Jj (λvs H Q E h=>?_) (λf cdv A outer s0 H vs Q E hr h=>?_)
 .obtain⟨vh,vw,vr,s,S,ws,rows,rfl,_⟩:=h
  rfl
 .obtain⟨vh,vw,vr,s,S,ws,rows,rfl,hin,hws,hrs,qe,q⟩:=h
  obtain⟨vp,hh,hpt,hc⟩:=hin.st.held
  obtain⟨n,rs,outs,pt⟩:=s
  dsimp only at hh hpt hc
  obtain⟨x,rfl⟩:=t9 hws
  obtain⟨aw,rfl,sw⟩:=rLs.ints.mp hin.hw
  refine⟨_,af (cf (bh N (hr.mono (by decide)) rfl bw (aa (bf bc (pv 1) ax (λ_ _=>rfl)) aj)))
   (af (bg (i:=3) Jj.nd rfl (Or.inl rfl) (ol M hC.cl (hr.mono (by decide)) bo (pv 0) (aa (bf bc (pv 1) ax (λ_ _=>rfl)) aj)))
   (af (cw (bp Dy (bj be rfl B.len PySem.boot_len (aa (pv 3) aj)) (br Cb.least rfl) (bv _)) (aq (cn cz rfl rfl X.e7.mg X.e7.ex)) bu)
   (aq (az (cu (aa (bh F (hr.mono (by decide)) rfl bo (aa (pv 3) aj)) aj)))))),?_⟩
  refine⟨_,rfl,aw,_,_,V.int x,rfl,rfl,sw,rfl,x,rfl,λhb=>?_,λhb=>qe (-1) H (dq (da (hi:=1) hb)) (λb o e _=>e) hin.tab⟩
  obtain⟨k,rfl,hk,hrk⟩:=du (hi:=1) hb
  have hmo:=jc (pt:=pt) hc hk
  obtain⟨hA,hml⟩:=ii (side:=k) hc
  have hn2:=hmo.len
  obtain⟨a0,dx0,vl0,vo0,ea,ha,_,_⟩:=id hh
  refine⟨_,rfl,a0,dx0,_,ea,ha,fo _ _ _ _,_,rfl,aw,_,_,V.int (k:Int),rfl,rfl,sw,rfl,vh,vp,n,k,rs,outs,rfl,hk,hh,hc,λv1 H1 s1 r1 _=>?_⟩
  obtain⟨am,xm,rfl,hxm,prm,hlm⟩:=r1.len
  refine⟨_,rfl,am,_,rfl,.inl (SqL.of hxm),_,_,rfl,rfl,_,rfl,ite2 (λh8=>?_) λh8=>?_⟩
  .have h8:Vagrak.FEW<((⟨n,rs,outs,pt⟩:Stt).st.side k).2:=by
    have:=of_decide_eq_true h8
    show 8<_
    omega
   refine qe (-7) H1 ((bx hrk).trans (dq ?_)) s1.sb (Tab.same s1 hin.tab)
   unfold Vagrak.refuseIf
   rw[if_pos (decide_eq_true h8)]
  .have h8:¬ Vagrak.FEW<((⟨n,rs,outs,pt⟩:Stt).st.side k).2:=λz=>h8 (decide_eq_true (by
    have z:8<_:=z
    omega))
   have h88:(metM k n rs outs).length<=8:=by
    have z:¬ 8<_:=h8
    omega
   refine⟨_,rfl,.ref am,_,rfl,r1,hA,h88,⟨_,h88,Es _ _ _ [] (Nat.zero_add _) (Nat.le_refl _)⟩,λm H2 hm s2=>⟨(by show 1<=sizeLine;decide),λp4 hp4=>?_⟩⟩
   have s4:=(s1.trans s2).trans (Same.new (o:=.lst [.int (m:Nat)]) hp4)
   refine q [(m:Int)] p4 _ ?_ ((s1.trans s2).free hp4) s4.sb (Tab.same s4 hin.tab) (rLt.ints.mpr ⟨p4,rfl,ak⟩)
   rw[Oi hmo hm]
   refine(bx hrk).trans (bx (a:=()) ?_)
   unfold Vagrak.refuseIf
   rw[if_neg (by rw[decide_eq_false h8];exact Bool.false_ne_true)]
end
end Sp
end
section
namespace L2
open PySem PySem.Spec PyProof.Rows
def dz(key:Nat->List Int):Nat->Nat
 | 0=>0
 | j+1=>if HT.lexLt (key (j+1)) (key (dz key j))=true then j+1 else dz key j
theorem rp(key:Nat->List Int):∀ j,dz key j<=j
 | 0=>Nat.le_refl _
 | j+1=>by
  unfold dz
  split
  .exact Nat.le_refl _
  .exact Nat.le_succ_of_le (rp key j)
def ql(h:Heap)(addr:Nat->Addr)(key:Nat->List Int)(n:Nat):Prop:=∀ i,i<n->∃ its:Array Value,IsTup h (addr i) its/\IntsAre its.toList (key i)
theorem ql.keeps{h h':Heap}{addr:Nat->Addr}{key:Nat->List Int}{n:Nat}(x:ql h addr key n)(k:∀ i,i<n->∀ o,h.get? (addr i)=some o->h'.get? (addr i)=some o):ql h' addr key n:=λi hi=>by
 obtain⟨its,⟨o,e,r⟩,hI⟩:=x i hi
 exact⟨its,⟨o,k i hi o e,r⟩,hI⟩
section
variable{prog:Program}{w:World}{A:Around}{R:Result->Shared->Prop}{I S:Addr}{fp wr:List Addr}{n:Nat}{P:Nat->Value->Prop}{St:Nat->Heap->Prop}{addr:Nat->Addr}{key:Nat->List Int}
theorem Kk(W:Walks prog w A.in1 I fp wr n P St)(hP:∀ i v,P i v->v=.ref (addr i))(hw:∀ i,i<n->addr i ∉ wr/\addr i≠S)(out:S ∉ fp)(hu:A.in1.units<cLine) :
  ∀ (k j:Nat) (s:Shared) (c:Nat),n - (j+1)=k->j+1<=n->St (j+1) s.heap->ql s.heap addr key n ->
   s.heap.get? S=some { cls:=.type "list",dict:=none,data:=.seq #[.ref (addr (dz key j)),.ref (addr (dz key j))] c,slots:=#[] } ->
   (∀ h' tk,(∀ b o,b ∉ wr->b≠S->s.heap.get? b=some o->h'.get? b=some o)->R (.ok (.ret (.ref (addr (dz key (n - 1)))))) { s with heap:=h',toks:=tk }) ->
   codeAny (model prog w) A (.builtin "min.loop" ⟨[.ref I,.none,.ref S],[]⟩) R s:=by
 have nw:S ∉ wr:=λz=>out (W.sub _ z)
 have nm:(toString "min"++toString ".loop":String)="min.loop":=by decide
 intro k
 induction k with
 | zero=>
  intro j s c hk hj st ht hS fin
  have hjn:j+1=n:=by omega
  refine codeAny_builtin PySem.F.entry_min_loop ?_
  rw[Around.under_plainId PySem.F.plain_min_loop _]
  show wpAny _ A.in1 (seqItems? (.ref S)>>=_) _ _ s
  refine wpAny_bind (wpAny_seqItems hS rfl ?_)
  show wpAny _ A.in1 (tryCatch (pyNext (.ref I)) _>>=_) _ _ s
  refine wpAny_bind (wpAny_tryCatch (W.done s _ _ (hjn ▸ st) λh1 tk1 keep1=>?_))
  have hS1:=keep1 S _ nw hS
  show wpAny _ A.in1 (updateSeq S (λ_=>#[])>>=_) _ _ _
  refine wpAny_bind (wpAny_updateSeq hS1 rfl (wpAny_bind (wpAny_letGo (wpAny_pure ?_))))
  have e:n - 1=j:=by omega
  rw[e]at fin
  exact fin _ tk1 λb o h1 h2 e=>(Heap.get?_update_other _ _ (Ne.symm h2)).trans (keep1 b o h1 e)
 | succ k ih=>
  intro j s c hk hj st ht hS fin
  have hlt:j+1<n:=by omega
  have hbj:=rp key j
  refine codeAny_builtin PySem.F.entry_min_loop ?_
  rw[Around.under_plainId PySem.F.plain_min_loop _]
  show wpAny _ A.in1 (seqItems? (.ref S)>>=_) _ _ s
  refine wpAny_bind (wpAny_seqItems hS rfl ?_)
  show wpAny _ A.in1 (tryCatch (pyNext (.ref I)) _>>=_) _ _ s
  refine wpAny_bind (wpAny_tryCatch (W.item (j+1) s _ _ hlt st λv h1 tk1 pv st1 keep1=>?_))
  have hS1:=keep1 S _ nw hS
  have ht1:ql h1 addr key n:=ht.keeps λi hi o e=>keep1 _ o (hw i hi).1 e
  cases hP _ _ pv
  obtain⟨i1,t1,z1⟩:=ht1 (j+1) hlt
  obtain⟨i2,t2,z2⟩:=ht1 (dz key j) (by omega)
  show wpAny _ A.in1 (tryCatch (holding [.ref (addr (j+1)),.ref (addr (j+1))] (compareOp .Lt (.ref (addr (j+1))) (.ref (addr (dz key j)))>>=_)) _>>=_) _ _ _
  refine wpAny_bind (wpAny_tryCatch (wpAny_holding (wpAny_bind (HT.lt_tupInts t1 t2 z1 z2 hu ?_))))
  refine wpAny_bind (wpAny_holding (wpAny_truthy_bool ?_))
  refine wpAny_bind (wpAny_letGo (wpAny_pure ?_))
  cases hb:HT.lexLt (key (j+1)) (key (dz key j)) with
  | true=>
   have hbt:dz key (j+1)=j+1:=by rw[dz,if_pos hb]
   simp only[if_true]
   refine wpAny_bind (wpAny_updateSeq hS1 rfl (wpAny_bind (wpAny_letGo ?_)))
   rw[nm]
   have oth:∀ b o,b≠S->h1.get? b=some o->(h1.update S (Obj.mapSeq λ_=>#[Value.ref (addr (j+1)),Value.ref (addr (j+1))])).get? b=some o:=λb o hb e=>(Heap.get?_update_other _ _ (Ne.symm hb)).trans e
   refine wpAny_pure ⟨plainId_quiet PySem.F.plain_min_loop _,ih (j+1) _ _ (by omega) hlt (W.frame _ _ _ st1 λb hbf o e=>oth b o (λz=>out (by rw[<- z];exact hbf)) e) (ht1.keeps λi hi o e=>oth _ o (hw i hi).2 e) (by rw[hbt];exact Heap.get?_update_self _ hS1 rfl) λh2 tk2 keep2=>?_⟩
   exact fin h2 tk2 λb o y1 y2 e=>keep2 b o y1 y2 (oth b o y2 (keep1 b o y1 e))
  | false=>
   have hbt:dz key (j+1)=dz key j:=by rw[dz,if_neg (by rw[hb];exact Bool.false_ne_true)]
   simp only[Bool.false_eq_true,if_false]
   refine wpAny_bind (wpAny_letGo ?_)
   rw[nm]
   refine wpAny_pure ⟨plainId_quiet PySem.F.plain_min_loop _,ih (j+1) _ c (by omega) hlt st1 ht1 (by rw[hbt];exact hS1) λh2 tk2 keep2=>?_⟩
   exact fin h2 tk2 λb o y1 y2 e=>keep2 b o y1 y2 (keep1 b o y1 e)
theorem G6(W:Walks prog w A.in1 I fp wr n P St)(hP:∀ i v,P i v->v=.ref (addr i))(hw:∀ i,i<n->addr i ∉ wr/\addr i≠S)(out:S ∉ fp)(hu:A.in1.units<cLine)(hn:0<n){s:Shared}{c:Nat}(st:St 0 s.heap)(ht:ql s.heap addr key n)
  (hS:s.heap.get? S=some { cls:=.type "list",dict:=none,data:=.seq #[] c,slots:=#[] })
  (fin:∀ h' tk,(∀ b o,b ∉ wr->b≠S->s.heap.get? b=some o->h'.get? b=some o)->R (.ok (.ret (.ref (addr (dz key (n - 1)))))) { s with heap:=h',toks:=tk }) :
  codeAny (model prog w) A (.builtin "min.loop" ⟨[.ref I,.none,.ref S],[]⟩) R s:=by
 have nw:S ∉ wr:=λz=>out (W.sub _ z)
 have nm:(toString "min"++toString ".loop":String)="min.loop":=by decide
 refine codeAny_builtin PySem.F.entry_min_loop ?_
 rw[Around.under_plainId PySem.F.plain_min_loop _]
 show wpAny _ A.in1 (seqItems? (.ref S)>>=_) _ _ s
 refine wpAny_bind (wpAny_seqItems hS rfl ?_)
 show wpAny _ A.in1 (tryCatch (pyNext (.ref I)) _>>=_) _ _ s
 refine wpAny_bind (wpAny_tryCatch (W.item 0 s _ _ hn st λv h1 tk1 pv st1 keep1=>?_))
 have hS1:=keep1 S _ nw hS
 have ht1:ql h1 addr key n:=ht.keeps λi hi o e=>keep1 _ o (hw i hi).1 e
 cases hP _ _ pv
 show wpAny _ A.in1 (updateSeq S (λ_=>#[Value.ref (addr 0),Value.ref (addr 0)])>>=_) _ _ _
 refine wpAny_bind (wpAny_updateSeq hS1 rfl ?_)
 rw[nm]
 have oth:∀ b o,b≠S->h1.get? b=some o->(h1.update S (Obj.mapSeq λ_=>#[Value.ref (addr 0),Value.ref (addr 0)])).get? b=some o:=λb o hb e=>(Heap.get?_update_other _ _ (Ne.symm hb)).trans e
 refine wpAny_pure ⟨plainId_quiet PySem.F.plain_min_loop _,Kk W hP hw out hu _ 0 _ _ rfl hn (W.frame _ _ _ st1 λb hbf o e=>oth b o (λz=>out (by rw[<- z];exact hbf)) e) (ht1.keeps λi hi o e=>oth _ o (hw i hi).2 e) (Heap.get?_update_self _ hS1 rfl) λh2 tk2 keep2=>?_⟩
 exact fin h2 tk2 λb o y1 y2 e=>keep2 b o y1 y2 (oth b o y2 (keep1 b o y1 e))
end
section
variable{prog:Program}{w:World}{A:Around}{E:Value->Shared->Prop}{s:Shared}{l:Addr}{its:Array Value}{Q:Value->Shared->Prop}{addr:Nat->Addr}{key:Nat->List Int}{n:Nat}
theorem Kl(hh:A.handled=none)(hu:A.in1.units<cLine)(hl:s.heap.IsList l its)(hn:its.size=n)(h0:0<n)(hi:∀ (i:Nat) (v:Value),its[i]? = some v->v=.ref (addr i))(ht:ql s.heap addr key n)
  (h:∀ h' tk,(∀ b o,s.heap.get? b=some o->h'.get? b=some o)->Q (.ref (addr (dz key (n - 1)))) { s with heap:=h',toks:=tk }):wpAny (model prog w) A (call (.builtin "min") [.ref l]) Q E s:=by
 have nm:(toString "min"++toString ".loop":String)="min.loop":=by decide
 have hlt:l<s.heap.objs.size:=by
  obtain⟨_,e,_⟩:=hl
  exact Heap.lt_size e
 have alt:∀ i,i<n->addr i<s.heap.objs.size:=λi hi=>by
  obtain⟨_,⟨_,e,_⟩,_⟩:=ht i hi
  exact Heap.lt_size e
 refine ym PySem.F.kind_min PySem.F.plain_min PySem.F.entry_min (F.args_min1 _) ?_
 show wpAny _ A.in1 (Builtin.Builtins.bindParams "min" ["key","default"] 0 ⟨[],[]⟩>>=_) _ _ s
 refine wpAny_bind (wpAny_of_eq (show Builtin.Builtins.bindParams "min" ["key","default"] 0 ⟨[],[]⟩=pure [none,none] from by first|rfl|kernel_rfl) ?_)
 refine wpAny_bind (wpAny_pure ?_)
 refine wpAny_bind (wpAny_pyIter_list hl ?_)
 refine wpAny_bind (wpAny_newObj_type ?_)
 have out:(s.heap.push { cls:=.type "list_iterator",data:=.fields #[.ref l,.int 0 0] }).objs.size ∉ [s.heap.objs.size,l]:=λhm=>by
  rw[Heap.size_push]at hm
  rcases List.mem_cons.mp hm with z|z
  .exact Nat.succ_ne_self _ z
  .have:=List.mem_singleton.mp z
   rw[<- this]at hlt
   exact absurd hlt (Nat.not_lt.mpr (Nat.le_succ _))
 have W:=Walks.list (prog:=prog) (w:=w) (A:=A.in1) hh s.heap.objs.size l (Nat.ne_of_lt hlt) its
 rw[hn]at W
 rw[nm]
 refine wpAny_pure ⟨plainId_quiet PySem.F.plain_min_loop _,?_⟩
 have keep:∀ b o,s.heap.get? b=some o->((s.heap.push { cls:=.type "list_iterator",data:=.fields #[.ref l,.int 0 0] }).push { cls:=.type "list",data:=.seq #[] }).get? b=some o:=λb o e=>Heap.get?_push_of_some _ (Heap.get?_push_of_some _ e)
 refine G6 W hi (λi hi2=>⟨λz=>?_,λz=>?_⟩) out hu h0 (W.frame _ _ _ ⟨⟨_,Heap.get?_push_size _ rfl,rfl,rfl⟩,hl.push _⟩ λb _ o q=>Heap.get?_push_of_some _ q) (ht.keeps λi hi2 o e=>keep _ o e) (Heap.get?_push_size _ rfl) λh' tk kp=>?_
 .have:=alt i hi2
  rw[List.mem_singleton.mp z]at this
  exact absurd this (Nat.lt_irrefl _)
 .have:=alt i hi2
  rw[z,Heap.size_push]at this
  exact absurd this (Nat.not_lt.mpr (Nat.le_succ _))
 .refine h h' tk λb o q=>kp b o (λz=>?_) (λz=>?_) (keep b o q)
  .rw[List.mem_singleton.mp z]at q
   exact absurd (Heap.lt_size q) (Nat.lt_irrefl _)
  .have hq:=Heap.lt_size q
   rw[z,Heap.size_push]at hq
   exact absurd hq (Nat.not_lt.mpr (Nat.le_succ _))
end
section
variable{X:Cx}
def Td(K:W.Frag):List V->Hp->VK->Prop:=λvs H Q=>∃ (a:Addr) (n:Nat) (addr:Nat->Addr) (key:Nat->List Int),vs=[V.ref a]/\SqL K H a ((List.range n).map λi=>V.ref (addr i))/\0<n/\(∀ i,i<n->SqT K H (addr i) ((key i).map V.int))/\Q (.ref (addr (dz key (n - 1)))) H
theorem Ow(hc:X.calm=true)(hu:X.A.in1.units<cLine):wn X (.builtin "min") (Td X.K):=by
 intro pins s Z H vs us Q I r h
 obtain⟨a,n,addr,key,rfl,hs,h0,hk,q⟩:=h
 obtain⟨its,rv,hl,_⟩:=I.list hs
 rw[Vals.ref1 r]
 have hlen:=rv.length
 rw[List.length_map,List.length_range]at hlen
 refine Kl (addr:=addr) (key:=key) (n:=n) (I.ok.hd hc) hu hl.isList (by rw[List.size_toArray];exact hlen.symm) h0 (λi v hv=>?_) (λi hi=>?_) λh' tk kp=>⟨V.ref (addr (dz key (n - 1))),H,I.kept kp,rfl,q⟩
 .have hv:its[i]? = some v:=by simpa using hv
  have hi:i<n:=by
   have:=(List.getElem?_eq_some_iff.mp hv).1
   omega
  obtain⟨u,hu2,ru⟩:=rv.get (i:=i) (x:=V.ref (addr i)) (by rw[List.getElem?_map,List.getElem?_range hi];rfl)
  rw[hv]at hu2
  cases hu2
  cases ru
  rfl
 .obtain⟨its2,r2,p2,_⟩:=I.tuple (hk i hi)
  exact⟨its2.toArray,p2,Hc r2⟩
end
end L2
end
section
namespace Sp
open PySem PySem.Spec PyProof.Rows L2
open VagraLine (at_)
open Vagraa (Frac)
def Ul:Stt->List Int->List (List Int)->Except Int (List Int):=λs _ _=>s.st.asked .plan
def ig(s:Stt)(i:Nat):Nat:=b9 (s.st.colours (i / 3) (i % 3))
def fk(s:Stt)(i:Nat):List Int:=[(ig s i:Int),((i / 3:Nat):Int),((i % 3:Nat):Int)]
theorem M7(s:Stt){b i:Nat}(hb:b<i):HT.lexLt (fk s i) (fk s b)=decide (ig s i<ig s b):=by
 unfold fk
 rw[HT.lexLt_cons]
 by_cases h:ig s i=ig s b
 .have e:decide (ig s i<ig s b)=false:=decide_eq_false (by omega)
  rw[if_pos (by rw[h]),HT.lexLt_cons,e]
  by_cases h2:((i / 3:Nat):Int)=((b / 3:Nat):Int)
  .rw[if_pos h2,HT.lexLt_cons,if_neg (by omega)]
   exact decide_eq_false (by omega)
  .rw[if_neg h2]
   exact decide_eq_false (by omega)
 .rw[if_neg (by omega)]
  rw[Bool.eq_iff_iff]
  simp
theorem Q3(s:Stt):s.st.plan=(dz (fk s) 5 / 3,dz (fk s) 5 % 3,ig s (dz (fk s) 5)):=by
 have key:∀ j,(List.range (j+1)).foldl (λ(b:Nat×Nat×Nat) i=>if ig s i<b.2.2 then (i / 3,i % 3,ig s i) else b) (0 / 3,0 % 3,ig s 0)=(dz (fk s) j / 3,dz (fk s) j % 3,ig s (dz (fk s) j)):=by
  intro j
  induction j with
  | zero=>
   show(if ig s 0<ig s 0 then _ else _)=_
   rw[if_neg (Nat.lt_irrefl _)]
   rfl
  | succ j ih=>
   rw[List.range_succ,List.foldl_append,ih]
   show(if ig s (j+1)<ig s (dz (fk s) j) then _ else _)=_
   have hb:=rp (fk s) j
   rw[dz,M7 s (by omega:dz (fk s) j<j+1)]
   by_cases h:ig s (j+1)<ig s (dz (fk s) j)
   .rw[if_pos h,if_pos (decide_eq_true h)]
   .rw[if_neg h,if_neg (by rw[decide_eq_false h];exact Bool.false_ne_true)]
 exact key 5
section
variable{P:Program}{w:World}{K:W.Frag}{mg:Str->Option Value}{base:Heap}{T:Addr}{C:Addr}{er:Int->Addr}
theorem Hz{k:Nat}{A:Around}(h:Room k A):A.in1.units<cLine:=by
 have:=h.un
 show A.units+1<cLine
 omega
theorem Q0{H Hn:Hp}{pp:Addr}(keep:∀ b xs,H b=some (.lst xs)->b≠pp->Hn b=some (.lst xs)){xs:List V}{ls:List (List Nat)}(pr:Paired (rLt rNat H) xs ls):V.ref pp ∉ xs->Paired (rLt rNat Hn) xs ls:=by
 induction pr with
 | nil=>intro _;exact .nil
 | cons r0 t0 ih0=>
  intro hn
  obtain⟨a9,x9,e9,h9,p9⟩:=r0
  exact .cons ⟨a9,x9,e9,keep _ _ h9 (λz=>hn (by rw[e9,z];exact List.mem_cons_self ..)),p9⟩ (ih0 λz=>hn (List.mem_cons_of_mem _ z))
structure PlansAt(T:Addr)(s:Stt)(H H':Hp)(pp:Addr)(m:Nat):Prop where
 keep:Sb T H H'
 tab:TabO T H'
 ls:∃ addr:Nat->Addr,H' pp=some (.lst ((List.range m).map λi=>V.ref (addr i)))/\∀ i,i<m->H' (addr i)=some (.tup ((fk s i).map V.int))
theorem j9:FnScope ["held","wholes","rows","plans","side","met","order","fewest"] ["held","wholes","rows"] (au d_answer_plan):=by trivial
theorem N7(B:Blt mg)(Cb:Bounds mg)(hC:HCls K C)(M:Mn P w K mg base CX0 6 C "columns_met" ["self","side"] (jo K C))(F:Fn P w K mg base CX0 4 "told_colours" ["met","order"] (xz K T))(G:Fn P w K mg base CX0 1 "colour_count" ["colours"] (i4 K))(D:Df K mg "answer_plan" d_answer_plan ["held","wholes","rows"]) :
  Fn P w K mg base (CXE P w) 53 "answer_plan" ["held","wholes","rows"] (gu K C T er 0 0 Ul):=by
 refine D.okE j9 (λvs H Q E h=>?_) (λf cdv A outer s0 H vs Q E hr h=>?_)
 .obtain⟨vh,vw,vr,s,S,ws,rows,rfl,_⟩:=h
  rfl
 .obtain⟨vh,vw,vr,s,S,ws,rows,rfl,hin,hws,hrs,qe,q⟩:=h
  obtain⟨vp,hh,hpt,hc⟩:=hin.st.held
  obtain⟨n,rs,outs,pt⟩:=s
  dsimp only at hh hpt hc
  refine⟨_,af (bg (i:=3) j9.nd rfl (Or.inl rfl) (cu aj))
   (af (fj m9 rfl (Fj (ia (aa (br Cb.col rfl) (aa (br Cb.row rfl) aj)))) (bi (i:=4) j9.nd rfl (Or.inl rfl))
    (af (bg (i:=5) j9.nd rfl (Or.inl rfl) (ol M hC.cl (hr.mono (by decide)) bo (pv 0) (aa (pv 4) aj)))
    (aq (fj m9 rfl (Fj (ia (aa (br Cb.ord.number rfl) (aa (br Cb.ord.most rfl) (aa (br Cb.ord.taken rfl) aj))))) (bi (i:=6) j9.nd rfl (Or.inl rfl))
     (aq (cf (ju PySem.F.plainAttrs_list PySem.F.slot_list_append PySem.F.type_list_append d8 (pv 3) (aa (ia (aa (bh G (hr.mono (by decide)) rfl bo (aa (bh F (hr.mono (by decide)) rfl bo (aa (pv 5) (aa (pv 6) aj))) aj)) (aa (pv 4) (aa (pv 6) aj)))) aj))))))))
   (af (bg (i:=7) j9.nd rfl (Or.inl rfl) (bj (Ow rfl (Hz hr)) rfl B.min boot_min (aa (pv 3) aj)))
   (aq (az (cu (aa (bf bq (pv 7) ax (λ_ _=>rfl)) (aa (bf bq (pv 7) ax (λ_ _=>rfl)) (aa (bf bq (pv 7) ax (λ_ _=>rfl)) aj)))))))),?_⟩
  refine⟨Nat.zero_le _,λpp hpp=>?_⟩
  refine⟨(by show 2<=sizeLine;decide),λtp htp=>?_⟩
  have s1:Same H (upd H pp (.lst [])):=.new hpp
  have s2:=s1.trans (.new (o:=.tup [.int 0,.int 1]) htp)
  have npt:pp≠tp:=λz=>by rw[<- z,ak]at htp;cases htp
  have st0:PlansAt T ⟨n,rs,outs,pt⟩ H (upd (upd H pp (.lst [])) tp (.tup [.int 0,.int 1])) pp 0:=⟨s2.sb,Tab.same s2 hin.tab,λ_=>0,(by rw[ay npt,ak];rfl),λi hi=>absurd hi (Nat.not_lt_zero i)⟩
  refine⟨tp,rfl,⟨_,.inl (.inl ak)⟩,K9 (K:=K) (a:=tp) (xs:=[.int 0,.int 1]) (λi Z H'=>∃ v4 v5 v6,Z=[some vh,some vw,some vr,some (.ref pp),v4,v5,v6,none]/\PlansAt T ⟨n,rs,outs,pt⟩ H H' pp (3*i)/\H' tp=some (.tup [.int 0,.int 1]))
   ⟨none,none,none,rfl,st0,ak⟩ (λi Z H' _ ⟨_,_,_,_,_,ht⟩=>.inl (.inl ht)) ?_ ?_⟩
  .rintro i x Z H' hx ⟨v4,v5,v6,rfl,pa,ht⟩
   have hi2:i<2:=(List.getElem?_eq_some_iff.mp hx).1
   have hxi:x=.int (i:Nat):=by
    have hii:i=0\/i=1:=by omega
    rcases hii with rfl|rfl
    .exact(Option.some.inj hx).symm
    .exact(Option.some.inj hx).symm
   subst hxi
   obtain⟨ps,hps⟩:=hin.tab.at_
   have hh':=fc.mt hps pa.keep hh
   obtain⟨hA,hml⟩:=ii (side:=i) hc
   obtain⟨a0,dx0,vl0,vo0,ea,ha,_,_⟩:=id hh'
   obtain⟨addr,hls,hat⟩:=pa.ls
   refine⟨_,rfl,a0,dx0,_,ea,ha,fo _ _ _ _,_,rfl,vh,vp,n,i,rs,outs,rfl,by omega,hh',hc,λv1 H1 s3 r1 m1=>?_⟩
   obtain⟨nv,nxs⟩:=m1 pp _ hls
   refine⟨(by show 3<=sizeLine;decide),λtq htq=>?_⟩
   have s4:=s3.trans (Same.new (o:=.tup [.int 0,.int 1,.int 2]) htq)
   have hT4:TabO T (upd H1 tq (.tup [.int 0,.int 1,.int 2])):=Tab.same s4 pa.tab
   have nq:pp≠tq:=ba (s3 _ _ hls) htq
   have st4:PlansAt T ⟨n,rs,outs,pt⟩ H (upd H1 tq (.tup [.int 0,.int 1,.int 2])) pp (3*i+0):=⟨λb o e hb=>s4 _ _ (pa.keep _ _ e hb),hT4,addr,s4 _ _ hls,λj hj=>s4 _ _ (hat j hj)⟩
   have r4:=rLt.mono (rLt.mono rNat.mono) _ _ _ _ (Same.new (o:=.tup [.int 0,.int 1,.int 2]) htq) r1
   have m4:∀ a xs,v1=.ref a->(upd H1 tq (.tup [.int 0,.int 1,.int 2])) a=some (.lst xs)->V.ref pp ∉ xs:=λa xs e1 e2=>nxs a xs e1 (by
    obtain⟨a1,x1,e3,e4,_⟩:=r1
    rw[e1]at e3
    cases e3
    rw[ay (ba e4 htq)]at e2
    exact e2)
   refine⟨tq,rfl,⟨_,.inl (.inl ak)⟩,K9 (K:=K) (a:=tq) (xs:=[.int 0,.int 1,.int 2]) (λj Z H'=>∃ v6,Z=[some vh,some vw,some vr,some (.ref pp),some (.int (i:Nat)),some v1,v6,none]/\PlansAt T ⟨n,rs,outs,pt⟩ H H' pp (3*i+j)/\H' tp=some (.tup [.int 0,.int 1])/\H' tq=some (.tup [.int 0,.int 1,.int 2])/\rLt (rLt rNat) H' v1 (metM i n rs outs)/\(∀ a xs,v1=.ref a->H' a=some (.lst xs)->V.ref pp ∉ xs))
    ⟨_,rfl,st4,s4 _ _ ht,ak,r4,m4⟩ (λj Z H' _ ⟨_,_,_,_,h3,_⟩=>.inl (.inl h3)) ?_ ?_⟩
   .rintro j y Z H5 hy ⟨v6,rfl,pa5,ht5,htq5,r5,m5⟩
    have hj3:j<3:=(List.getElem?_eq_some_iff.mp hy).1
    have hyj:y=.int (j:Nat):=by
     have hjj:j=0\/j=1\/j=2:=by omega
     rcases hjj with rfl|rfl|rfl
     .exact(Option.some.inj hy).symm
     .exact(Option.some.inj hy).symm
     .exact(Option.some.inj hy).symm
    subst hyj
    obtain⟨ad5,hl5,ha5⟩:=pa5.ls
    obtain⟨ps5,hps5⟩:=pa5.tab.at_
    refine⟨_,rfl,.inl ⟨rfl,_,SqL.of hl5⟩,_,rfl,_,rfl,v1,_,j,rfl,by omega,r5,hA,(λys ho c hcm=>(jw ho c).mp hcm),pa5.tab,λp6 H6 ys hp6 b6 hT6 hord r6=>?_⟩
    obtain⟨f1,f2,f3⟩:=j5 (pt:=pt) hc (show i<=1 by omega) hord
    rw[f1]at r6
    refine⟨_,_,rfl,r6.ls,(λc hcm=>by obtain⟨m,_,rfl⟩:=List.mem_map.mp hcm;omega),?_⟩
    rw[gq]
    refine⟨_,rfl,_,rfl,(by show 3<=sizeLine;decide),λp7 hp7=>?_⟩
    have hl6:=b6 _ _ hl5 (d7 hl5 hps5 (by intro z;cases z))
    have n7:pp≠p7:=ba hl6 hp7
    have hl7:(upd H6 p7 (.tup [.int (b9 ((⟨n,rs,outs,pt⟩:Stt).st.colours i j):Nat),.int (i:Nat),.int (j:Nat)])) pp=some (.lst ((List.range (3*i+j)).map λi=>V.ref (ad5 i))):=by rw[ay n7];exact hl6
    refine⟨pp,_,_,rfl,rfl,hl7,(by rw[List.length_map,List.length_range,sizeLine_eq];omega),?_⟩
    have hk:fk ⟨n,rs,outs,pt⟩ (3*i+j)=[(b9 ((⟨n,rs,outs,pt⟩:Stt).st.colours i j):Int),(i:Int),(j:Int)]:=by
     unfold fk ig
     rw[show(3*i+j) / 3=i by omega,show(3*i+j) % 3=j by omega]
    have keep7:∀ b o,H5 b=some o->b≠T->b≠pp->(upd (upd H6 p7 (.tup [.int (b9 ((⟨n,rs,outs,pt⟩:Stt).st.colours i j):Nat),.int (i:Nat),.int (j:Nat)])) pp (.lst (((List.range (3*i+j)).map λi=>V.ref (ad5 i))++[V.ref p7]))) b=some o:=λb o e h1 h2=>by
     rw[ay h2,ay (ba (b6 _ _ e h1) hp7)]
     exact b6 _ _ e h1
    have neT:∀ b u,H5 b=some u->(∀ ps,u≠.tbl ps)->b≠T:=λb u e hu z=>by
     rw[z,hps5]at e
     exact hu _ (Option.some.inj e).symm
    refine⟨_,rfl,⟨λb o e hb=>?_,?_,λm=>if m=3*i+j then p7 else ad5 m,?_,λm hm=>?_⟩,keep7 _ _ ht5 (neT _ _ ht5 (by intro ps z;cases z)) (d7 ht5 hl5 (by intro z;cases z)),keep7 _ _ htq5 (neT _ _ htq5 (by intro ps z;cases z)) (d7 htq5 hl5 (by intro z;cases z)),?_,?_⟩
    .exact keep7 _ _ (pa5.keep _ _ e hb) hb (λz=>by rw[z,hpp]at e;cases e)
    .have hT7:TabO T (upd H6 p7 (.tup [.int (b9 ((⟨n,rs,outs,pt⟩:Stt).st.colours i j):Nat),.int (i:Nat),.int (j:Nat)])):=Tab.same (.new hp7) hT6
     exact Tab.sb2 hl7 Sb.upd hT7
    .rw[ak]
     congr 2
     rw[<- Nat.add_assoc,List.range_succ,List.map_append]
     congr 1
     .refine List.map_congr_left λm hm=>?_
      show V.ref (ad5 m)=V.ref (if m=3*i+j then p7 else ad5 m)
      rw[if_neg (by have:=List.mem_range.mp hm;omega)]
     .show [V.ref p7]=[V.ref (if 3*i+j=3*i+j then p7 else _)]
      rw[if_pos rfl]
    .show _=some (HO.tup ((fk ⟨n,rs,outs,pt⟩ m).map V.int))
     by_cases e:m=3*i+j
     .dsimp only
      rw[if_pos e,ay n7.symm,ak,e,hk]
      rfl
     .dsimp only
      rw[if_neg e]
      have hm5:=ha5 m (by omega)
      exact keep7 _ _ hm5 (neT _ _ hm5 (by intro ps z;cases z)) (d7 hm5 hl5 (by intro z;cases z))
    .obtain⟨a5,x5,e5,hx5,pr5⟩:=id r5
     have n5:a5≠pp:=λz=>nv (by rw[e5,z])
     refine⟨a5,x5,e5,keep7 _ _ hx5 (neT _ _ hx5 (by intro ps z;cases z)) n5,?_⟩
     exact Q0 (λb xs e h=>keep7 _ _ e (neT _ _ e (by intro ps z;cases z)) h) pr5 (m5 a5 x5 e5 hx5)
    .intro a xs e1 e2
     obtain⟨a5,x5,e5,hx5,pr5⟩:=id r5
     rw[e1]at e5
     cases e5
     have n5:a≠pp:=λz=>nv (by rw[e1,z])
     rw[keep7 _ _ hx5 (neT _ _ hx5 (by intro ps z;cases z)) n5]at e2
     cases e2
     exact m5 a _ e1 hx5
   .rintro Z H5 ⟨v6,rfl,pa5,ht5,htq5,r5,m5⟩
    exact⟨_,_,_,rfl,(by rw[Nat.mul_succ];exact pa5),ht5⟩
  .rintro Z H' ⟨v4,v5,v6,rfl,pa,ht⟩
   obtain⟨addr,hls,hat⟩:=pa.ls
   obtain⟨ps',hps'⟩:=pa.tab.at_
   refine⟨_,rfl,pp,6,addr,fk ⟨n,rs,outs,pt⟩,rfl,SqL.of hls,by decide,λi hi=>.inl (.inl (hat i hi)),?_⟩
   have hb5:=rp (fk ⟨n,rs,outs,pt⟩) 5
   have hbt:=hat (dz (fk ⟨n,rs,outs,pt⟩) 5) (by show _<6;omega)
   have st:SqT K H' (addr (dz (fk ⟨n,rs,outs,pt⟩) 5)) ((fk ⟨n,rs,outs,pt⟩ (dz (fk ⟨n,rs,outs,pt⟩) 5)).map V.int):=.inl (.inl hbt)
   refine⟨_,rfl,_,_,_,_,rfl,rfl,st,rfl,_,rfl,_,_,_,_,rfl,rfl,st,rfl,_,rfl,_,_,_,_,rfl,rfl,st,rfl,(by show 3<=sizeLine;decide),λp4 hp4=>?_⟩
   have s5:=Same.new (o:=.lst [V.int ((dz (fk ⟨n,rs,outs,pt⟩) 5 / 3:Nat):Int),V.int ((dz (fk ⟨n,rs,outs,pt⟩) 5 % 3:Nat):Int),V.int (ig ⟨n,rs,outs,pt⟩ (dz (fk ⟨n,rs,outs,pt⟩) 5):Int)]) hp4
   refine q [((dz (fk ⟨n,rs,outs,pt⟩) 5 / 3:Nat):Int),((dz (fk ⟨n,rs,outs,pt⟩) 5 % 3:Nat):Int),(ig ⟨n,rs,outs,pt⟩ (dz (fk ⟨n,rs,outs,pt⟩) 5):Int)] p4 _ ?_ (pa.keep.free hps' hp4) (λb o e hb=>s5 _ _ (pa.keep _ _ e hb)) (Tab.same s5 pa.tab) (rLt.ints.mpr ⟨p4,rfl,ak⟩)
   show Except.ok [((⟨n,rs,outs,pt⟩:Stt).st.plan.1:Int),((⟨n,rs,outs,pt⟩:Stt).st.plan.2.1:Int),((⟨n,rs,outs,pt⟩:Stt).st.plan.2.2:Int)]=_
   rw[Q3]
end
def Pu:Stt->List Int->List (List Int)->Except Int (List Int):=λs _ _=>s.st.asked .dense
def Ag:Stt->List Int->List (List Int)->Except Int (List Int):=λs ws _=>s.st.asked (.packed (ws.getD 0 0) (ws.getD 1 0))
def K5:Stt->List Int->List (List Int)->Except Int (List Int):=λs ws _=>s.st.asked (.table (ws.getD 0 0) (ws.getD 1 0))
def Ga:Stt->List Int->List (List Int)->Except Int (List Int):=λs _ rows=>s.st.asked (.apart (rows.getD 0 []))
theorem CodeOk.outs{n:Nat}{rs:List (List Int)}{outs:List Nat}(h:CodeOk n rs outs):OutsOk rs outs:=⟨h.lt,by have:=h.o12;omega⟩
theorem md{n:Nat}{rs:List (List Int)}{outs:List Nat}{pt:Option (List Frac)}(h:pt=none):(⟨n,rs,outs,pt⟩:Stt).st.vals=.error (-4):=by
 subst h
 rfl
theorem qw{n:Nat}{rs:List (List Int)}{outs:List Nat}{pt:Option (List Frac)}{pts:List Frac}{e:VagraLine.Fault}(h:pt=some pts)(hr:VagraLine.run (some Vagrae.HEAVY) pts (rs.map bz)=.error e):(⟨n,rs,outs,pt⟩:Stt).st.vals=.error (-5):=by
 subst h
 show(match VagraLine.run (some Vagrae.HEAVY) pts (rs.map bz) with
  | .ok vs=>Except.ok vs
  | .error _=>.error (-5))=_
 rw[hr]
theorem yt{n:Nat}{rs:List (List Int)}{outs:List Nat}{pt:Option (List Frac)}{pts vals:List Frac}(h:pt=some pts)(hr:VagraLine.run (some Vagrae.HEAVY) pts (rs.map bz)=.ok vals):(⟨n,rs,outs,pt⟩:Stt).st.vals=.ok vals:=by
 subst h
 show(match VagraLine.run (some Vagrae.HEAVY) pts (rs.map bz) with
  | .ok vs=>Except.ok vs
  | .error _=>.error (-5))=_
 rw[hr]
theorem me{m:Nat}{t:List (List Frac)}(h:qh t=true):Vagrak.tableTold m t=.error (-6):=by
 unfold Vagrak.tableTold
 exact if_pos h
theorem sj{m:Nat}{t:List (List Frac)}(h:qh t=false):Vagrak.tableTold m t=.ok (P4 t m):=by
 unfold Vagrak.tableTold
 exact if_neg (by rw[show(t.flatten.any λa=>decide (Vagrae.LONG<Vagraa.weight a))=false from h];exact Bool.false_ne_true)
section
variable{P:Program}{w:World}{K:W.Frag}{mg:Str->Option Value}{base:Heap}{T:Addr}{C:Addr}{er:Int->Addr}
theorem Qt:FnScope ["held","wholes","rows"] ["held","wholes","rows"] (au d_answer_dense):=by trivial
theorem R0(hC:HCls K C)(V1:Fn P w K mg base (CXE P w) 47 "need_values" ["held"] (j6 K C er))(F:Fn P w K mg base CX0 49 "whole_table" ["held","values"] (y4 K C))(G:Fn P w K mg base (CXE P w) 2 "tell_table" ["table","how_many_columns"] (A5 K er))(D:Df K mg "answer_dense" d_answer_dense ["held","wholes","rows"]) :
  Fn P w K mg base (CXE P w) 53 "answer_dense" ["held","wholes","rows"] (gu K C T er 0 0 Pu):=by
 refine D.okE Qt (λvs H Q E h=>?_) (λf cdv A outer s0 H vs Q E hr h=>?_)
 .obtain⟨vh,vw,vr,s,S,ws,rows,rfl,_⟩:=h
  rfl
 .obtain⟨vh,vw,vr,s,S,ws,rows,rfl,hin,hws,hrs,qe,q⟩:=h
  obtain⟨vp,hh,hpt,hc⟩:=hin.st.held
  obtain⟨n,rs,outs,pt⟩:=s
  dsimp only at hh hpt hc
  have h12:=hc.n12
  refine⟨_,aq (az (bh G (hr.mono (by decide)) rfl bw (aa (bh F (hr.mono (by decide)) rfl bo (aa (pv 0) (aa (bh V1 (hr.mono (by decide)) rfl bw (aa (pv 0) aj)) aj))) (aa (fb (pv 0) rfl) aj)))),?_⟩
  refine⟨_,rfl,_,rfl,vh,vp,n,rs,outs,pt,rfl,hh,hc,hpt,λh0 H1 s1=>?_,λpts e h0 hr0 H1 s1=>?_,λpts vals v H1 h0 hr0 hR s1 rv=>?_⟩
  .exact qe (-4) H1 (dq (md h0)) s1.sb (Tab.same s1 hin.tab)
  .exact qe (-5) H1 (dq (qw h0 hr0)) s1.sb (Tab.same s1 hin.tab)
  .refine⟨vh,v,vp,n,rs,outs,vals,rfl,hh.mono s1,rv,hR,hc.outs,by omega,λp2 H2 hp2 s2 r2=>?_⟩
   have s12:=s1.trans s2
   obtain⟨⟨a,C1,dx,fs,u,e1,e2,e3,e4,e5,e6⟩,_⟩:=(hh.mono s12).fld hC
   subst e6
   obtain⟨tl,trow⟩:=kg hR hc.outs (cs:=List.range n) List.length_range
   rw[gf]at trow
   have o12:=hc.o12
   have spec:=bx (f:=λvs=>Vagrak.tableTold n ((dg n rs outs).dense vs)) (yt (n:=n) (outs:=outs) h0 hr0)
   rw[<- Gh]at spec
   refine⟨_,rfl,a,C1,dx,fs,_,e1,e2,e3,e4,e5,_,_,n,rfl,r2,by omega,λb hb=>by rw[(trow b hb).1];omega,λhv H3 s3=>?_,λhv p3 H3 hp3 s3 r3=>?_⟩
   .exact qe (-6) H3 (spec.trans (me hv)) (s12.trans s3).sb (Tab.same (s12.trans s3) hin.tab)
   .exact q _ p3 H3 (spec.trans (sj hv)) (s12.free hp3) (s12.trans s3).sb (Tab.same (s12.trans s3) hin.tab) r3
theorem P8(m:Nat)(rows:List (List Frac)):(sumM m rows).length=m:=yx m rows _ (by rw[List.length_map,List.length_range])
theorem Pg{n side:Nat}{rs:List (List Int)}{outs cs:List Nat}{vals:List Frac}(hR:RunOk n rs vals)(hO:OutsOk rs outs)(hcl:cs.length=if side=1 then outs.length else n) :
  (ptM side n rs outs vals cs).length=(if side=1 then b9 cs else outs.length)/\∀ b∈ptM side n rs outs vals cs,b.length=if side=1 then n else b9 cs:=by
 unfold ptM
 by_cases h:side=1
 .rw[if_pos h,if_pos h,if_pos h]
  unfold pbrM
  refine⟨by rw[List.length_map,List.length_range],λb hb=>?_⟩
  obtain⟨k,_,rfl⟩:=List.mem_map.mp hb
  exact P8 _ _
 .rw[if_neg h]at hcl
  rw[if_neg h,if_neg h,if_neg h]
  obtain⟨h1,h2⟩:=kg hR hO hcl
  exact⟨h1,λb hb=>(h2 b hb).1⟩
def Cu(side n:Nat)(rs:List (List Int))(outs:List Nat)(vals:List Frac)(cs:List Nat):List (List Frac):=ku side (patM n rs outs) (ptM side n rs outs vals cs) cs
def Mi(K:W.Frag)(C:Addr)(er:Int->Addr):Sp:=λvs H Q E=>∃ (vh vv vc vp:V) (n side:Nat) (rs:List (List Int)) (outs:List Nat) (vals:List Frac) (cs:List Nat),vs=[vh,vv,.int (side:Nat),vc]/\side<=1/\fc K C H vh n rs outs vp/\CodeOk n rs outs/\rLs K (rFr K) H vv vals/\rLs K rNat H vc cs/\RunOk n rs vals/\cs.length=(if side=1 then outs.length else n)/\(∀ c∈cs,c<100) /\
 (qh (Cu side n rs outs vals cs)=true->∀ H',Same H H'->E (.ref (er (-6))) none H')/\(qh (Cu side n rs outs vals cs)=false->∀ p H',H p=none->Same H H'->rLt rInt H' (.ref p) (P4 (Cu side n rs outs vals cs) n)->Q (.ref p) H')
theorem Pc:FnScope ["held","values","side","colours","packed"] ["held","values","side","colours"] (au d_tell_packed_apart):=by trivial
theorem Tq(hC:HCls K C)(F:Fn P w K mg base CX0 51 "packed_table" ["held","values","side","colours"] (spPt K C))(M:Mn P w K mg base CX0 5 C "pattern" ["self"] (A6 K C))(A1:Fn P w K mg base CX0 1 "told_apart" ["entries","packed","side","colours"] (Dh K))(G:Fn P w K mg base (CXE P w) 2 "tell_table" ["table","how_many_columns"] (A5 K er))(D:Df K mg "tell_packed_apart" d_tell_packed_apart ["held","values","side","colours"]) :
  Fn P w K mg base (CXE P w) 52 "tell_packed_apart" ["held","values","side","colours"] (Mi K C er):=by
 refine D.okE Pc (λvs H Q E h=>?_) (λf cdv A outer s0 H vs Q E hr h=>?_)
 .obtain⟨vh,vv,vc,vp,n,side,rs,outs,vals,cs,rfl,_⟩:=h
  rfl
 .obtain⟨vh,vv,vc,vp,n,side,rs,outs,vals,cs,rfl,hside,hh,hc,hv,hcs,hR,hcl,h100,qe,q⟩:=h
  have h12:=hc.n12
  have o12:=hc.o12
  have hcnt:=ut h100
  refine⟨_,af (bg (i:=4) Pc.nd rfl (Or.inl rfl) (bh F hr rfl bo (aa (pv 0) (aa (pv 1) (aa (pv 2) (aa (pv 3) aj))))))
   (aq (az (bh G (hr.mono (by decide)) rfl bw (aa (bh A1 (hr.mono (by decide)) rfl bo (aa (tz M hC.cl (hr.mono (by decide)) bo (pv 0)) (aa (pv 4) (aa (pv 2) (aa (pv 3) aj))))) (aa (fb (pv 0) rfl) aj))))),?_⟩
  refine⟨_,rfl,_,rfl,_,rfl,_,rfl,vh,vv,vc,vp,n,side,rs,outs,vals,cs,rfl,hside,hh,hv,hcs,hR,hc.outs,hcl,by omega,by omega,λp1 H1 hp1 s1 r1=>?_⟩
  obtain⟨a0,dx0,vl0,vo0,ea,ha,_,_⟩:=id (hh.mono s1)
  refine⟨_,rfl,a0,dx0,_,ea,ha,uk _ _ _ _,vh,vp,n,rs,outs,rfl,hh.mono s1,hc,λv2 H2 s2 r2=>?_⟩
  obtain⟨t1,t2⟩:=Pg (side:=side) hR hc.outs hcl
  obtain⟨p1',p2'⟩:=kd hc
  refine⟨_,rfl,_,rfl,_,rfl,v2,_,vc,side,n,_,_,cs,rfl,r2,rLt.mono (rLt.mono rFr.mono) _ _ _ _ s2 r1,rLs.mono rNat.mono _ _ _ _ (s1.trans s2) hcs,p1',?_,λp3 H3 hp3 s3 r3=>?_⟩
  .by_cases hs:side=1
   .rw[if_pos hs]at hcl t1
    refine .inl ⟨hs,by rw[p2'];exact hcl,λc hcm=>by rw[t1];exact ue hcm,λb hb=>?_⟩
    have:=t2 b hb
    rw[if_pos hs]at this
    exact this
   .rw[if_neg hs]at hcl t1
    refine .inr ⟨by omega,hcl,by rw[t1,p2'],λb hb c hcm=>?_⟩
    have:=t2 b hb
    rw[if_neg hs]at this
    rw[this]
    exact ue hcm
  .have s123:=(s1.trans s2).trans s3
   obtain⟨⟨a,C1,dx,fs,u,e1,e2,e3,e4,e5,e6⟩,_⟩:=(hh.mono s123).fld hC
   subst e6
   have l1:(ku side (patM n rs outs) (ptM side n rs outs vals cs) cs).length<=1000:=by
    unfold ku
    rw[List.length_map,List.length_range,p2']
    omega
   have l2:∀ b∈ku side (patM n rs outs) (ptM side n rs outs vals cs) cs,b.length<=1000:=λb hb=>by
    unfold ku at hb
    obtain⟨r,hr2,rfl⟩:=List.mem_map.mp hb
    unfold ic
    rw[List.length_map,List.length_range,(p1'.at_ (List.mem_range.mp hr2)).2]
    omega
   exact⟨_,rfl,a,C1,dx,fs,_,e1,e2,e3,e4,e5,_,_,n,rfl,r3,l1,l2,λhv2 H4 s4=>qe hv2 H4 (s123.trans s4),λhv2 p4 H4 hp4 s4 r4=>q hv2 p4 H4 (s123.free hp4) (s123.trans s4) r4⟩
theorem Ct{n side:Nat}{rs:List (List Int)}{outs cs:List Nat}{vals:List Frac}(hc:CodeOk n rs outs)(hR:RunOk n rs vals)(hside:side<=1)(hcl:cs.length=if side=1 then outs.length else n) :
  Cu side n rs outs vals cs=if side=0 then Vagrak.unpacked (dg n rs outs).pattern cs ((dg n rs outs).packed vals cs) else Vagrak.unpackedRows (dg n rs outs).pattern cs n ((dg n rs outs).packedRows vals cs):=by
 obtain⟨p1,p2⟩:=kd hc
 unfold Cu ptM
 have hs:side=0\/side=1:=by omega
 rcases hs with rfl|rfl
 .rw[if_neg (by decide)]at hcl ⊢
  rw[if_pos rfl,Cz p1 hcl,z8 hc.ok,Bs (n:=n)]
 .rw[if_pos rfl]at hcl ⊢
  rw[if_neg (by decide),sh p1,z8 hc.ok,mv hR hc.outs hcl]
end
section
variable{P:Program}{w:World}{K:W.Frag}{mg:Str->Option Value}{base:Heap}{T:Addr}{C:Addr}{er:Int->Addr}
theorem zu:FnScope ["held","wholes","rows","values","colours","packed"] ["held","wholes","rows"] (au d_answer_packed):=by trivial
theorem Rx(Cb:Bounds mg)(hC:HCls K C)(N:Fn P w K mg base (CXE P w) 2 "need_side" ["side"] (gt er 0 1))(N2:Fn P w K mg base (CXE P w) 2 "need_order" ["order"] (gt er 0 2))(V1:Fn P w K mg base (CXE P w) 47 "need_values" ["held"] (j6 K C er))(M:Mn P w K mg base CX0 6 C "columns_met" ["self","side"] (jo K C))(F:Fn P w K mg base CX0 4 "told_colours" ["met","order"] (xz K T))(F2:Fn P w K mg base CX0 51 "packed_table" ["held","values","side","colours"] (spPt K C))(G:Fn P w K mg base (CXE P w) 2 "tell_table" ["table","how_many_columns"] (A5 K er))(G2:Fn P w K mg base CX0 1 "colour_count" ["colours"] (i4 K))(D:Df K mg "answer_packed" d_answer_packed ["held","wholes","rows"]) :
  Fn P w K mg base (CXE P w) 53 "answer_packed" ["held","wholes","rows"] (gu K C T er 2 0 Ag):=by
 refine D.okE zu (λvs H Q E h=>?_) (λf cdv A outer s0 H vs Q E hr h=>?_)
 .obtain⟨vh,vw,vr,s,S,ws,rows,rfl,_⟩:=h
  rfl
 .obtain⟨vh,vw,vr,s,S,ws,rows,rfl,hin,hws,hrs,qe,q⟩:=h
  obtain⟨vp,hh,hpt,hc⟩:=hin.st.held
  obtain⟨n,rs,outs,pt⟩:=s
  dsimp only at hh hpt hc
  obtain⟨x,y,rfl⟩:=Ey hws
  obtain⟨aw,rfl,sw⟩:=rLs.ints.mp hin.hw
  have h12:=hc.n12
  have o12:=hc.o12
  refine⟨_,af (cf (bh N (hr.mono (by decide)) rfl bw (aa (bf bc (pv 1) ax (λ_ _=>rfl)) aj)))
   (af (cf (bh N2 (hr.mono (by decide)) rfl bw (aa (bf bc (pv 1) ax (λ_ _=>rfl)) aj)))
   (af (bg (i:=3) zu.nd rfl (Or.inl rfl) (bh V1 (hr.mono (by decide)) rfl bw (aa (pv 0) aj)))
   (af (bg (i:=4) zu.nd rfl (Or.inl rfl) (bh F (hr.mono (by decide)) rfl bo (aa (ol M hC.cl (hr.mono (by decide)) bo (pv 0) (aa (bf bc (pv 1) ax (λ_ _=>rfl)) aj)) (aa (bf bc (pv 1) ax (λ_ _=>rfl)) aj))))
   (af (bg (i:=5) zu.nd rfl (Or.inl rfl) (bh F2 (hr.mono (by decide)) rfl bo (aa (pv 0) (aa (pv 3) (aa (bf bc (pv 1) ax (λ_ _=>rfl)) (aa (pv 4) aj))))))
   (aq (az (bh G (hr.mono (by decide)) rfl bw (aa (pv 5) (aa (z7 (bp fe (bf bc (pv 1) ax (λ_ _=>rfl)) (br Cb.row rfl) (bv _)) (fb (pv 0) rfl) (bh G2 (hr.mono (by decide)) rfl bo (aa (pv 4) aj))) aj))))))))),?_⟩
  refine⟨_,rfl,aw,_,_,V.int x,rfl,rfl,sw,rfl,x,rfl,λhb=>?_,λhb=>qe (-1) H (dq (da (hi:=1) hb)) (λb o e _=>e) hin.tab⟩
  obtain⟨k,rfl,hk,hrk⟩:=du (hi:=1) hb
  refine⟨_,rfl,aw,_,_,V.int y,rfl,rfl,sw,rfl,y,rfl,λhb2=>?_,λhb2=>qe (-1) H ((bx hrk).trans (dq (da (hi:=2) hb2))) (λb o e _=>e) hin.tab⟩
  obtain⟨k2,rfl,hk2,hrk2⟩:=du (hi:=2) hb2
  obtain⟨hA,hml⟩:=ii (side:=k) hc
  refine⟨_,rfl,vh,vp,n,rs,outs,pt,rfl,hh,hc,hpt,λh0 H1 s1=>?_,λpts e h0 hr0 H1 s1=>?_,λpts vals v H1 h0 hr0 hR s1 rv=>?_⟩
  .exact qe (-4) H1 ((bx hrk).trans ((bx hrk2).trans (dq (md h0)))) s1.sb (Tab.same s1 hin.tab)
  .exact qe (-5) H1 ((bx hrk).trans ((bx hrk2).trans (dq (qw h0 hr0)))) s1.sb (Tab.same s1 hin.tab)
  .obtain⟨a0,dx0,vl0,vo0,ea,ha,_,_⟩:=id (hh.mono s1)
   refine⟨_,rfl,a0,dx0,_,ea,ha,fo _ _ _ _,_,rfl,aw,_,_,V.int (k:Int),rfl,rfl,s1.seq sw,rfl,vh,vp,n,k,rs,outs,rfl,hk,hh.mono s1,hc,λv2 H2 s2 r2 _=>?_⟩
   have s12:=s1.trans s2
   refine⟨_,rfl,aw,_,_,V.int (k2:Int),rfl,rfl,s12.seq sw,rfl,v2,_,k2,rfl,hk2,r2,hA,(λys ho c hcm=>(jw ho c).mp hcm),Tab.same s12 hin.tab,λp3 H3 ys hp3 b3 hT3 hord r3=>?_⟩
   obtain⟨f1,f2,f3⟩:=j5 (pt:=pt) hc hk hord
   rw[f1]at r3
   obtain⟨ps2,hps2⟩:=(Tab.same s12 hin.tab).at_
   obtain⟨ps3,hps3⟩:=hT3.at_
   have b03:Sb T H H3:=λb o e hb=>b3 _ _ (s12 _ _ e) hb
   have hh3:=fc.mt hps2 b3 (hh.mono s12)
   have rv3:=rLs.mt rFr.mt _ _ _ _ _ _ hps2 b3 (rLs.mono rFr.mono _ _ _ _ s2 rv)
   have sw3:SqL K H3 aw _:=SqL.mt hps2 b3 (s12.seq sw)
   have spec:∀ z,Ag ⟨n,rs,outs,pt⟩ [(k:Int),(k2:Int)] rows=z↔(if k=0 then Vagrak.tableTold (Vagrak.count ((⟨n,rs,outs,pt⟩:Stt).st.colours k k2)) ((dg n rs outs).packed vals ((⟨n,rs,outs,pt⟩:Stt).st.colours k k2)) else Vagrak.tableTold n ((dg n rs outs).packedRows vals ((⟨n,rs,outs,pt⟩:Stt).st.colours k k2)))=z:=λz=>by
    have e:Ag ⟨n,rs,outs,pt⟩ [(k:Int),(k2:Int)] rows=_:=(bx hrk).trans ((bx hrk2).trans (bx (yt (n:=n) (outs:=outs) h0 hr0)))
    rw[e]
   generalize (⟨n,rs,outs,pt⟩:Stt).st.colours k k2=cs at r3 f2 f3 spec
   have rc3:rLs K rNat H3 (.ref p3) cs:=by
    have z:=rLs.toNat (K:=K) r3.ls (λc hcm=>by obtain⟨m,_,rfl⟩:=List.mem_map.mp hcm;omega)
    rw[List.map_map]at z
    have e:(cs.map (Int.toNat∘λn:Nat=>(n:Int)))=cs:=by
     conv=>rhs;rw[<- List.map_id cs]
     exact List.map_congr_left λc _=>rfl
    rw[e]at z
    exact z
   have hcnt:=ut (m:=13) λc hcm=>by have:=f3 c hcm;omega
   refine⟨_,rfl,_,rfl,_,rfl,aw,_,_,V.int (k:Int),rfl,rfl,sw3,rfl,_,rfl,vh,v,.ref p3,vp,n,k,rs,outs,vals,cs,rfl,hk,hh3,rv3,rc3,hR,hc.outs,f2,by omega,by omega,λp4 H4 hp4 s4 r4=>?_⟩
   obtain⟨t1,t2⟩:=Pg (side:=k) hR hc.outs f2
   have b04:Sb T H H4:=λb o e hb=>s4 _ _ (b03 _ _ e hb)
   have hT4:=Tab.same s4 hT3
   obtain⟨ps4,hps4⟩:=hT4.at_
   obtain⟨⟨a,C1,dx,fs,u,e1,e2,e3,e4,e5,e6⟩,_⟩:=(hh3.mono s4).fld hC
   subst e6
   refine⟨_,rfl,_,rfl,aw,_,_,V.int (k:Int),rfl,rfl,s4.seq sw3,rfl,rfl,_,rfl,?_⟩
   have l1:(ptM k n rs outs vals cs).length<=1000:=by rw[t1];split <;> omega
   have l2:∀ b∈ptM k n rs outs vals cs,b.length<=1000:=λb hb=>by rw[t2 b hb];split <;> omega
   refine ite2 (λhs=>?_) λhs=>?_
   .have hs:k=1:=by
     have h1:(k:Int)=1:=by simpa using hs
     omega
    have et:ptM k n rs outs vals cs=(dg n rs outs).packedRows vals cs:=by
     unfold ptM
     rw[if_pos hs]
     rw[if_pos hs]at f2
     exact mv hR hc.outs f2
    rw[if_neg (by omega),<- et]at spec
    exact⟨_,rfl,a,C1,dx,fs,_,e1,e2,e3,e4,e5,_,_,n,rfl,r4,l1,l2,λhv2 H5 s5=>qe (-6) H5 ((spec _).mpr (me hv2)) (λb o e hb=>s5 _ _ (b04 _ _ e hb)) (Tab.same s5 hT4),λhv2 p5 H5 hp5 s5 r5=>q _ p5 H5 ((spec _).mpr (sj hv2)) (b04.free hps4 hp5) (λb o e hb=>s5 _ _ (b04 _ _ e hb)) (Tab.same s5 hT4) r5⟩
   .have hs:¬ k=1:=by
     have h1:¬ (k:Int)=1:=by simpa using hs
     omega
    have et:ptM k n rs outs vals cs=(dg n rs outs).packed vals cs:=by
     unfold ptM
     rw[if_neg hs]
     exact Bs
    rw[if_pos (by omega),<- et]at spec
    refine⟨_,rfl,_,_,rfl,rLs.mono rInt.mono _ _ _ _ s4 r3.ls,(λc hcm=>by obtain⟨m,_,rfl⟩:=List.mem_map.mp hcm;omega),?_⟩
    rw[gq]
    exact⟨_,_,b9 cs,rfl,r4,l1,l2,λhv2 H5 s5=>qe (-6) H5 ((spec _).mpr (me hv2)) (λb o e hb=>s5 _ _ (b04 _ _ e hb)) (Tab.same s5 hT4),λhv2 p5 H5 hp5 s5 r5=>q _ p5 H5 ((spec _).mpr (sj hv2)) (b04.free hps4 hp5) (λb o e hb=>s5 _ _ (b04 _ _ e hb)) (Tab.same s5 hT4) r5⟩
theorem Dp:FnScope ["held","wholes","rows","values","colours"] ["held","wholes","rows"] (au d_answer_table):=by trivial
theorem Rv(hC:HCls K C)(N:Fn P w K mg base (CXE P w) 2 "need_side" ["side"] (gt er 0 1))(N2:Fn P w K mg base (CXE P w) 2 "need_order" ["order"] (gt er 0 2))(V1:Fn P w K mg base (CXE P w) 47 "need_values" ["held"] (j6 K C er))(M:Mn P w K mg base CX0 6 C "columns_met" ["self","side"] (jo K C))(F:Fn P w K mg base CX0 4 "told_colours" ["met","order"] (xz K T))(G:Fn P w K mg base (CXE P w) 52 "tell_packed_apart" ["held","values","side","colours"] (Mi K C er))(D:Df K mg "answer_table" d_answer_table ["held","wholes","rows"]) :
  Fn P w K mg base (CXE P w) 53 "answer_table" ["held","wholes","rows"] (gu K C T er 2 0 K5):=by
 refine D.okE Dp (λvs H Q E h=>?_) (λf cdv A outer s0 H vs Q E hr h=>?_)
 .obtain⟨vh,vw,vr,s,S,ws,rows,rfl,_⟩:=h
  rfl
 .obtain⟨vh,vw,vr,s,S,ws,rows,rfl,hin,hws,hrs,qe,q⟩:=h
  obtain⟨vp,hh,hpt,hc⟩:=hin.st.held
  obtain⟨n,rs,outs,pt⟩:=s
  dsimp only at hh hpt hc
  obtain⟨x,y,rfl⟩:=Ey hws
  obtain⟨aw,rfl,sw⟩:=rLs.ints.mp hin.hw
  refine⟨_,af (cf (bh N (hr.mono (by decide)) rfl bw (aa (bf bc (pv 1) ax (λ_ _=>rfl)) aj)))
   (af (cf (bh N2 (hr.mono (by decide)) rfl bw (aa (bf bc (pv 1) ax (λ_ _=>rfl)) aj)))
   (af (bg (i:=3) Dp.nd rfl (Or.inl rfl) (bh V1 (hr.mono (by decide)) rfl bw (aa (pv 0) aj)))
   (af (bg (i:=4) Dp.nd rfl (Or.inl rfl) (bh F (hr.mono (by decide)) rfl bo (aa (ol M hC.cl (hr.mono (by decide)) bo (pv 0) (aa (bf bc (pv 1) ax (λ_ _=>rfl)) aj)) (aa (bf bc (pv 1) ax (λ_ _=>rfl)) aj))))
   (aq (az (bh G hr rfl bw (aa (pv 0) (aa (pv 3) (aa (bf bc (pv 1) ax (λ_ _=>rfl)) (aa (pv 4) aj)))))))))),?_⟩
  refine⟨_,rfl,aw,_,_,V.int x,rfl,rfl,sw,rfl,x,rfl,λhb=>?_,λhb=>qe (-1) H (dq (da (hi:=1) hb)) (λb o e _=>e) hin.tab⟩
  obtain⟨k,rfl,hk,hrk⟩:=du (hi:=1) hb
  refine⟨_,rfl,aw,_,_,V.int y,rfl,rfl,sw,rfl,y,rfl,λhb2=>?_,λhb2=>qe (-1) H ((bx hrk).trans (dq (da (hi:=2) hb2))) (λb o e _=>e) hin.tab⟩
  obtain⟨k2,rfl,hk2,hrk2⟩:=du (hi:=2) hb2
  obtain⟨hA,hml⟩:=ii (side:=k) hc
  refine⟨_,rfl,vh,vp,n,rs,outs,pt,rfl,hh,hc,hpt,λh0 H1 s1=>?_,λpts e h0 hr0 H1 s1=>?_,λpts vals v H1 h0 hr0 hR s1 rv=>?_⟩
  .exact qe (-4) H1 ((bx hrk).trans ((bx hrk2).trans (dq (md h0)))) s1.sb (Tab.same s1 hin.tab)
  .exact qe (-5) H1 ((bx hrk).trans ((bx hrk2).trans (dq (qw h0 hr0)))) s1.sb (Tab.same s1 hin.tab)
  .obtain⟨a0,dx0,vl0,vo0,ea,ha,_,_⟩:=id (hh.mono s1)
   refine⟨_,rfl,a0,dx0,_,ea,ha,fo _ _ _ _,_,rfl,aw,_,_,V.int (k:Int),rfl,rfl,s1.seq sw,rfl,vh,vp,n,k,rs,outs,rfl,hk,hh.mono s1,hc,λv2 H2 s2 r2 _=>?_⟩
   have s12:=s1.trans s2
   refine⟨_,rfl,aw,_,_,V.int (k2:Int),rfl,rfl,s12.seq sw,rfl,v2,_,k2,rfl,hk2,r2,hA,(λys ho c hcm=>(jw ho c).mp hcm),Tab.same s12 hin.tab,λp3 H3 ys hp3 b3 hT3 hord r3=>?_⟩
   obtain⟨f1,f2,f3⟩:=j5 (pt:=pt) hc hk hord
   rw[f1]at r3
   obtain⟨ps2,hps2⟩:=(Tab.same s12 hin.tab).at_
   obtain⟨ps3,hps3⟩:=hT3.at_
   have b03:Sb T H H3:=λb o e hb=>b3 _ _ (s12 _ _ e) hb
   have hh3:=fc.mt hps2 b3 (hh.mono s12)
   have rv3:=rLs.mt rFr.mt _ _ _ _ _ _ hps2 b3 (rLs.mono rFr.mono _ _ _ _ s2 rv)
   have sw3:SqL K H3 aw _:=SqL.mt hps2 b3 (s12.seq sw)
   have e0:K5 ⟨n,rs,outs,pt⟩ [(k:Int),(k2:Int)] rows=Vagrak.tableTold n (if k=0 then Vagrak.unpacked (dg n rs outs).pattern ((⟨n,rs,outs,pt⟩:Stt).st.colours k k2) ((dg n rs outs).packed vals ((⟨n,rs,outs,pt⟩:Stt).st.colours k k2)) else Vagrak.unpackedRows (dg n rs outs).pattern ((⟨n,rs,outs,pt⟩:Stt).st.colours k k2) n ((dg n rs outs).packedRows vals ((⟨n,rs,outs,pt⟩:Stt).st.colours k k2))):=(bx hrk).trans ((bx hrk2).trans (bx (yt (n:=n) (outs:=outs) h0 hr0)))
   generalize (⟨n,rs,outs,pt⟩:Stt).st.colours k k2=cs at r3 f2 f3 e0
   rw[<- Ct hc hR hk f2]at e0
   have rc3:rLs K rNat H3 (.ref p3) cs:=by
    have z:=rLs.toNat (K:=K) r3.ls (λc hcm=>by obtain⟨m,_,rfl⟩:=List.mem_map.mp hcm;omega)
    rw[List.map_map]at z
    have e:(cs.map (Int.toNat∘λn:Nat=>(n:Int)))=cs:=by
     conv=>rhs;rw[<- List.map_id cs]
     exact List.map_congr_left λc _=>rfl
    rw[e]at z
    exact z
   refine⟨_,rfl,_,rfl,_,rfl,aw,_,_,V.int (k:Int),rfl,rfl,sw3,rfl,_,rfl,vh,v,.ref p3,vp,n,k,rs,outs,vals,cs,rfl,hk,hh3,hc,rv3,rc3,hR,f2,(λc hcm=>by have:=f3 c hcm;omega),λhv2 H5 s5=>?_,λhv2 p5 H5 hp5 s5 r5=>?_⟩
   .exact qe (-6) H5 (e0.trans (me hv2)) (λb o e hb=>s5 _ _ (b03 _ _ e hb)) (Tab.same s5 hT3)
   .exact q _ p5 H5 (e0.trans (sj hv2)) (b03.free hps3 hp5) (λb o e hb=>s5 _ _ (b03 _ _ e hb)) (Tab.same s5 hT3) r5
theorem Jl:FnScope ["held","wholes","rows","values"] ["held","wholes","rows"] (au d_answer_apart):=by trivial
theorem R4(X:Errs K mg er)(Cb:Bounds mg)(hC:HCls K C)(N:Fn P w K mg base (CXE P w) 2 "need_colours" ["colours","how_many_columns"] (j7 K er))(V1:Fn P w K mg base (CXE P w) 47 "need_values" ["held"] (j6 K C er))(M:Mn P w K mg base CX0 6 C "columns_met" ["self","side"] (jo K C))(F:Fn P w K mg base CX0 2 "first_clash" ["met","colours"] (zh K))(G:Fn P w K mg base (CXE P w) 52 "tell_packed_apart" ["held","values","side","colours"] (Mi K C er))(D:Df K mg "answer_apart" d_answer_apart ["held","wholes","rows"]) :
  Fn P w K mg base (CXE P w) 53 "answer_apart" ["held","wholes","rows"] (gu K C T er 0 1 Ga):=by
 refine D.okE Jl (λvs H Q E h=>?_) (λf cdv A outer s0 H vs Q E hr h=>?_)
 .obtain⟨vh,vw,vr,s,S,ws,rows,rfl,_⟩:=h
  rfl
 .obtain⟨vh,vw,vr,s,S,ws,rows,rfl,hin,hws,hrs,qe,q⟩:=h
  obtain⟨vp,hh,hpt,hc⟩:=hin.st.held
  obtain⟨n,rs,outs,pt⟩:=s
  dsimp only at hh hpt hc
  obtain⟨l,rfl⟩:=t9 hrs
  obtain⟨ar,xr,rfl,sr,prr⟩:=hin.hr
  obtain⟨u,hu,ru⟩:=gp prr (i:=0) (y:=l) rfl
  have hl400:=hin.short l (List.mem_cons_self ..)
  refine⟨_,af (cf (bh N (hr.mono (by decide)) rfl bw (aa (bf bc (pv 2) ax (λ_ _=>rfl)) (aa (fb (pv 0) rfl) aj))))
   (af (bg (i:=3) Jl.nd rfl (Or.inl rfl) (bh V1 (hr.mono (by decide)) rfl bw (aa (pv 0) aj)))
   (af (cw (bp Ra (bh F (hr.mono (by decide)) rfl bo (aa (ol M hC.cl (hr.mono (by decide)) bo (pv 0) (aa (br Cb.col rfl) aj)) (aa (bf bc (pv 2) ax (λ_ _=>rfl)) aj))) yd (bv _)) (aq (cn cz rfl rfl X.e8.mg X.e8.ex)) bu)
   (aq (az (bh G hr rfl bw (aa (pv 0) (aa (pv 3) (aa (br Cb.col rfl) (aa (bf bc (pv 2) ax (λ_ _=>rfl)) aj))))))))),?_⟩
  obtain⟨⟨a,C1,dx,fs,u0,e1,e2,e3,e4,e5,e6⟩,_⟩:=hh.fld hC
  subst e6
  refine⟨_,rfl,ar,_,_,_,rfl,rfl,sr,ck (j:=0) rfl hu,_,rfl,a,C1,dx,fs,_,e1,e2,e3,e4,e5,u,l,n,rfl,ru,by omega,λhok H1 s1=>?_,λhok H1 s1=>qe (-2) H1 (dq (uv hok)) s1.sb (Tab.same s1 hin.tab)⟩
  obtain⟨c1,c2,c3,c4⟩:=yp hok
  refine⟨_,rfl,vh,vp,n,rs,outs,pt,rfl,hh.mono s1,hc,hpt.mono s1,λh0 H2 s2=>?_,λpts e h0 hr0 H2 s2=>?_,λpts vals v H2 h0 hr0 hR s2 rv=>?_⟩
  .exact qe (-4) H2 ((bx c1).trans (dq (md h0))) (s1.trans s2).sb (Tab.same (s1.trans s2) hin.tab)
  .exact qe (-5) H2 ((bx c1).trans (dq (qw h0 hr0))) (s1.trans s2).sb (Tab.same (s1.trans s2) hin.tab)
  .have s12:=s1.trans s2
   have hmo:=jc (pt:=pt) hc (show 0<=1 by decide)
   obtain⟨hA,hml⟩:=ii (side:=0) hc
   rw[if_neg (by decide)]at hml
   obtain⟨a0,dx0,vl0,vo0,ea,ha,_,_⟩:=id (hh.mono s12)
   refine⟨_,rfl,a0,dx0,_,ea,ha,fo _ _ _ _,vh,vp,n,0,rs,outs,rfl,by decide,hh.mono s12,hc,λv3 H3 s3 r3 _=>?_⟩
   have s13:=s12.trans s3
   have ecl:=Gm hmo (cs:=l.map Int.toNat) (by rw[List.length_map];exact c2)
   rw[xy c3]at ecl
   have e0:Ga ⟨n,rs,outs,pt⟩ ws [l]=(Vagrak.refuseIf (Vagrak.clash (dg n rs outs).pattern (l.map Int.toNat)).isSome (-8)>>=λ_=>Vagrak.tableTold n (Vagrak.unpacked (dg n rs outs).pattern (l.map Int.toNat) ((dg n rs outs).packed vals (l.map Int.toNat)))):=(bx c1).trans (bx (yt (n:=n) (outs:=outs) h0 hr0))
   have ecl:Ci (metM 0 n rs outs) l=Vagrak.clash (dg n rs outs).pattern (l.map Int.toNat):=ecl
   rw[<- ecl]at e0
   refine⟨_,rfl,ar,_,_,_,rfl,rfl,s13.seq sr,ck (j:=0) rfl hu,v3,u,_,l,rfl,r3,hA,rLs.mono rInt.mono _ _ _ _ s13 ru,by rw[c2,hml],λhno H4 s4=>?_,λz v4 H4 hz s4 r4=>?_⟩
   .rw[hno]at e0
    have e0:Ga ⟨n,rs,outs,pt⟩ ws [l]=Vagrak.tableTold n (Vagrak.unpacked (dg n rs outs).pattern (l.map Int.toNat) ((dg n rs outs).packed vals (l.map Int.toNat))):=e0
    have hcl:(l.map Int.toNat).length=if 0=1 then outs.length else n:=by rw[if_neg (by decide),List.length_map];exact c2
    have eT:=Ct hc hR (show 0<=1 by decide) hcl
    rw[if_pos rfl]at eT
    rw[<- eT]at e0
    have s14:=s13.trans s4
    refine⟨rfl,_,rfl,iteF ⟨_,rfl,_,rfl,_,rfl,ar,_,_,_,rfl,rfl,s14.seq sr,ck (j:=0) rfl hu,vh,v,u,vp,n,0,rs,outs,vals,l.map Int.toNat,rfl,by decide,hh.mono s14,hc,rLs.mono rFr.mono _ _ _ _ (s3.trans s4) rv,rLs.toNat (rLs.mono rInt.mono _ _ _ _ s14 ru) c3,hR,hcl,c4,λhv2 H5 s5=>?_,λhv2 p5 H5 hp5 s5 r5=>?_⟩⟩
    .exact qe (-6) H5 (e0.trans (me hv2)) (s14.trans s5).sb (Tab.same (s14.trans s5) hin.tab)
    .exact q _ p5 H5 (e0.trans (sj hv2)) (s14.free hp5) (s14.trans s5).sb (Tab.same (s14.trans s5) hin.tab) r5
   .rw[hz]at e0
    obtain⟨a5,rfl,h5⟩:=r4
    exact⟨rfl,_,rfl,iteT (qe (-8) H4 e0 (s13.trans s4).sb (Tab.same (s13.trans s4) hin.tab))⟩
end
section
variable{P:Program}{w:World}{K:W.Frag}{mg:Str->Option Value}{base:Heap}{T:Addr}{C:Addr}{er:Int->Addr}
theorem Bl(f g h:Str)(u v x:V):(putF f u (putF g v [])).length<1000/\(putF f u (putF g v (putF h x []))).length<1000:=by
 have h1:=d9 f u (putF g v [])
 have h2:=d9 g v []
 have h3:=d9 f u (putF g v (putF h x []))
 have h4:=d9 g v (putF h x [])
 have h5:=d9 h x []
 have h6:([]:List (Str×V)).length=0:=rfl
 omega
def Dd(C:Addr):Sp:=λvs H Q _=>∃ x dx,vs=[.ref x]/\H x=some (.ins C dx [])/\∀ pl po H',pl≠x->po≠x->H pl=none->H po=none->(∀ b o,H b=some o->b≠x->H' b=some o)->H' x=some (.ins C dx (fq (.int 0) (.ref pl) (.ref po) .non))->H' pl=some (.lst [])->H' po=some (.lst [])->Q .non H'
theorem Mz:FnScope ["self"] ["self"] (au d_Held_init):=by trivial
theorem N0(hC:HCls K C)(D:Di K C "Held.__init__" d_Held_init ["self"]):In P w K mg base CX0 1 C ["self"] (Dd C):=by
 refine D.ok Mz (λvs H Q E h=>?_) (λf cdv A outer s0 H vs Q E hr h=>?_)
 .obtain⟨x,dx,rfl,_⟩:=h
  rfl
 .obtain⟨x,dx,rfl,hx,q⟩:=h
  refine⟨_,af (jq (pv 0) ax rfl) (af (jq (pv 0) (cu aj) rfl) (af (jq (pv 0) (cu aj) rfl) (aq (jq (pv 0) yd rfl)))),?_⟩
  refine⟨_,rfl,x,C,dx,_,rfl,hx,hC.cl,hC.i,(by show 0<1000;decide),Nat.zero_le _,λpl hpl=>?_⟩
  have n1:pl≠x:=λz=>by rw[z,ak]at hpl;cases hpl
  have h0l:H pl=none:=by rw[ay n1]at hpl;exact hpl
  refine⟨_,rfl,x,C,dx,_,rfl,(by rw[ay n1.symm];exact ak),hC.cl,hC.l,(by decide +kernel),Nat.zero_le _,λpo hpo=>?_⟩
  have n2:po≠x:=λz=>by rw[z,ak]at hpo;cases hpo
  have n3:po≠pl:=λz=>by rw[z,ay n1,ak]at hpo;cases hpo
  have h0o:H po=none:=by rw[ay n2,ay n3,ay n2]at hpo;exact hpo
  refine⟨_,rfl,x,C,dx,_,rfl,(by rw[ay n2.symm];exact ak),hC.cl,hC.o,(Bl _ _ "" _ _ .non).1,_,rfl,x,C,dx,_,rfl,ak,hC.cl,hC.p,(Bl _ _ _ _ _ _).2,?_⟩
  refine q pl po _ n1 n2 h0l h0o (λb o e hb=>?_) (by rw[ak,K3]) ?_ ?_
  .rw[ay hb,ay hb,ay (ba e h0o),ay hb,ay (ba e h0l),ay hb]
   exact e
  .rw[ay n1,ay n1,ay n3.symm,ay n1]
   exact ak
  .rw[ay n2,ay n2]
   exact ak
def Ik(C:Addr):Sp:=λvs H Q _=>∃ x dx vi vl vo i l o p,vs=[.ref x,vi,vl,vo]/\H x=some (.ins C dx (fq i l o p))/\Q .non (upd H x (.ins C dx (fq vi vl vo .non)))
theorem My:FnScope ["self","inputs","lines","outs"] ["self","inputs","lines","outs"] (au d_Held_take_program):=by trivial
theorem Nz(hC:HCls K C)(D:Dm K C "take_program" "Held.take_program" d_Held_take_program ["self","inputs","lines","outs"]):Mn P w K mg base CX0 1 C "take_program" ["self","inputs","lines","outs"] (Ik C):=by
 refine D.ok My (λvs H Q E h=>?_) (λf cdv A outer s0 H vs Q E hr h=>?_)
 .obtain⟨x,dx,vi,vl,vo,i,l,o,p,rfl,_⟩:=h
  rfl
 .obtain⟨x,dx,vi,vl,vo,i,l,o,p,rfl,hx,q⟩:=h
  refine⟨_,af (jq (pv 0) (pv 1) rfl) (af (jq (pv 0) (pv 2) rfl) (af (jq (pv 0) (pv 3) rfl) (aq (jq (pv 0) yd rfl)))),?_⟩
  refine⟨_,rfl,_,rfl,x,C,dx,_,rfl,hx,hC.cl,hC.i,(by show 4<1000;decide),?_⟩
  rw[(jz i l o p vi).1]
  refine⟨_,rfl,_,rfl,x,C,dx,_,rfl,ak,hC.cl,hC.l,(by show 4<1000;decide),?_⟩
  rw[jm,(jz vi l o p vl).2.1]
  refine⟨_,rfl,_,rfl,x,C,dx,_,rfl,ak,hC.cl,hC.o,(by show 4<1000;decide),?_⟩
  rw[jm,(jz vi vl o p vo).2.2.1]
  refine⟨_,rfl,x,C,dx,_,rfl,ak,hC.cl,hC.p,(by show 4<1000;decide),?_⟩
  rw[jm,(jz vi vl vo p .non).2.2.2]
  exact q
def C7(C:Addr):Sp:=λvs H Q _=>∃ x dx vp i l o p,vs=[.ref x,vp]/\H x=some (.ins C dx (fq i l o p))/\Q .non (upd H x (.ins C dx (fq i l o vp)))
theorem Jg:FnScope ["self","point"] ["self","point"] (au d_Held_take_point):=by trivial
theorem Ka(hC:HCls K C)(D:Dm K C "take_point" "Held.take_point" d_Held_take_point ["self","point"]):Mn P w K mg base CX0 1 C "take_point" ["self","point"] (C7 C):=by
 refine D.ok Jg (λvs H Q E h=>?_) (λf cdv A outer s0 H vs Q E hr h=>?_)
 .obtain⟨x,dx,vp,i,l,o,p,rfl,_⟩:=h
  rfl
 .obtain⟨x,dx,vp,i,l,o,p,rfl,hx,q⟩:=h
  refine⟨_,aq (jq (pv 0) (pv 1) rfl),?_⟩
  refine⟨_,rfl,_,rfl,x,C,dx,_,rfl,hx,hC.cl,hC.p,(by show 4<1000;decide),?_⟩
  rw[(jz i l o p vp).2.2.2]
  exact q
structure AnsIn(K:W.Frag)(C T:Addr)(H:Hp)(vh vw vr:V)(s:Stt)(S:V->Prop)(ws:List Int)(rows:List (List Int)):Prop where
 ask:AskIn K C T H vh vw vr s S ws rows
 non:S .non
 new:∀ x,H x=none->S (.ref x)
 own:∃ ar xs,vr=.ref ar/\SqL K H ar xs/\Paired (rLs K rInt H) xs rows/\∀ x∈xs,S x
def ik(K:W.Frag)(C T:Addr)(er:Int->Addr)(nw nr:Nat)(call:List Int->List (List Int)->Vagrak.Call):Sp:=λvs H Q E=>∃ (vh vw vr:V) (s:Stt) (S:V->Prop) (ws:List Int) (rows:List (List Int)),vs=[vh,vw,vr]/\AnsIn K C T H vh vw vr s S ws rows/\ws.length=nw/\rows.length=nr /\
 (∀ n H',Vagrak.out s.st (call ws rows)=.error n->Sb T H H'->TabO T H'->E (.ref (er n)) none H') /\
 (∀ (s':Stt) l p H',Vagrak.out s.st (call ws rows)=.ok (s'.st,l)->H p=none->(∀ b o,H b=some o->b≠T->vh≠.ref b->H' b=some o)->TabO T H'->StAt K C H' vh s' S->rLt rInt H' (.ref p) l->Q (.ref p) H')
theorem PtAt.mt{H H':Hp}{vp:V}{n:Nat}{pt:Option (List Frac)}{ps:Array Value}(hT:H T=some (.tbl ps))(s:Sb T H H')(h:PtAt K H vp n pt):PtAt K H' vp n pt:=by
 cases pt with
 | none=>exact h
 | some pts=>exact⟨rLs.mt rFr.mt _ _ _ _ _ _ hT s h.1,h.2⟩
theorem StAt.mt{H H':Hp}{vh:V}{s:Stt}{S:V->Prop}{ps:Array Value}(hT:H T=some (.tbl ps))(b:Sb T H H')(h:StAt K C H vh s S):StAt K C H' vh s S:=by
 obtain⟨a,dx,vl,vo,vp,h1,h2,h3,h4,h5,h6,h7⟩:=h
 exact⟨a,dx,vl,vo,vp,h1,b _ _ h2 (d7 h2 hT (by intro z;cases z)),rLs.mt (rTp.mt rInt.mt) _ _ _ _ _ _ hT b h3,rLs.mt rNat.mt _ _ _ _ _ _ hT b h4,h5.mt hT b,h6,h7⟩
theorem dl{x:Str}{nw nr k:Nat}{g:Stt->List Int->List (List Int)->Except Int (List Int)}{call:List Int->List (List Int)->Vagrak.Call}(hg:∀ (s:Stt) ws rows,Vagrak.out s.st (call ws rows)=(g s ws rows>>=λl=>.ok (s.st,l)))
  (F:Fn P w K mg base (CXE P w) k x ["held","wholes","rows"] (gu K C T er nw nr g)):Fn P w K mg base (CXE P w) k x ["held","wholes","rows"] (ik K C T er nw nr call):=by
 obtain⟨f,fd,G,h1,h2,h3⟩:=F
 refine⟨f,fd,G.imp λvs H Q E ⟨vh,vw,vr,s,S,ws,rows,e,hin,hw,hr,qe,q⟩=>?_,h1,h2,h3⟩
 obtain⟨ps,hps⟩:=hin.ask.tab.at_
 refine⟨vh,vw,vr,s,S,ws,rows,e,hin.ask,hw,hr,λn H' hn b t=>qe n H' (by rw[hg,hn];rfl) b t,λl p H' hl hp b t r=>q s l p H' (by rw[hg,hl];rfl) hp (λb2 o e2 h3 _=>b _ _ e2 h3) t (StAt.mt hps b hin.ask.st) r⟩
end
end Sp
end
section
namespace L2
open PySem PySem.Spec PyProof.Rows
def jl(o:HO):Prop:=(∀ xs,o≠.lst xs)/\(∀ xs,o≠.tup xs)/\∀ ob u,o≠.frz ob u
theorem jl.ins{C dx:Addr}{fs:List (Str×V)}:jl (.ins C dx fs):=⟨λ_ z=>(by cases z),λ_ z=>(by cases z),λ_ _ z=>(by cases z)⟩
def Rp.Mo{α:Type}(R:Rp α):Prop:=∀ (p:Addr) (o:HO) (H H':Hp) (v:V) (x:α),jl o->H p=some o->Sb p H H'->R H v x->R H' v x
theorem SqL.mo{K:W.Frag}{p a:Addr}{H H':Hp}{xs:List V}{o:HO}(no:jl o)(hp:H p=some o)(s:Sb p H H')(h:SqL K H a xs):SqL K H' a xs:=by
 rcases h with (h|⟨ob,h⟩)|h
 .exact .inl (.inl (s _ _ h (d7 h hp (λz=>no.1 _ z.symm))))
 .exact .inl (.inr ⟨ob,s _ _ h (d7 h hp (λz=>no.2.2 _ _ z.symm))⟩)
 .exact .inr h
theorem SqT.mo{K:W.Frag}{p a:Addr}{H H':Hp}{xs:List V}{o:HO}(no:jl o)(hp:H p=some o)(s:Sb p H H')(h:SqT K H a xs):SqT K H' a xs:=by
 rcases h with (h|⟨ob,h⟩)|h
 .exact .inl (.inl (s _ _ h (d7 h hp (λz=>no.2.1 _ z.symm))))
 .exact .inl (.inr ⟨ob,s _ _ h (d7 h hp (λz=>no.2.2 _ _ z.symm))⟩)
 .exact .inr h
theorem rInt.mo:Rp.Mo rInt:=λ_ _ _ _ _ _ _ _ _ q=>q
theorem rNat.mo:Rp.Mo rNat:=λ_ _ _ _ _ _ _ _ _ q=>q
theorem rLs.mo{α:Type}{K:W.Frag}{R:Rp α}(h:R.Mo):Rp.Mo (rLs K R):=λp o H H' v l no hp s ⟨a,xs,e,q,pr⟩=>⟨a,xs,e,SqL.mo no hp s q,Paired.mapP pr λu x z=>h p o H H' u x no hp s z⟩
theorem rTp.mo{α:Type}{K:W.Frag}{R:Rp α}(h:R.Mo):Rp.Mo (rTp K R):=λp o H H' v l no hp s ⟨a,xs,e,q,pr⟩=>⟨a,xs,e,SqT.mo no hp s q,Paired.mapP pr λu x z=>h p o H H' u x no hp s z⟩
end L2
namespace Sp
open PySem PySem.Spec PyProof.Rows L2
open VagraLine (at_)
open Vagraa (Frac)
theorem rFr.mo{K:W.Frag}:Rp.Mo (rFr K):=λp o H H' v l no hp s ⟨a,e,q⟩=>⟨a,e,SqT.mo no hp s q⟩
theorem Q9{c:VagraLine.Code}{l:List Int}(h:ua l c.length=true):Vagrak.outsOf c l=.ok (l.map Int.toNat)/\(∀ z∈l,0<=z)/\(∀ o∈l.map Int.toNat,o<c.length)/\l.length<=12:=by
 unfold ua at h
 rw[Bool.and_eq_true]at h
 obtain⟨h1,h2⟩:=h
 unfold inB at h1
 rw[Bool.and_eq_true]at h1
 have a1:=of_decide_eq_true h1.1
 have a2:=of_decide_eq_true h1.2
 have h3:∀ z∈l,0<=z/\z<(c.length:Int):=λz hz=>by
  have:=List.all_eq_true.mp h2 z hz
  unfold inB at this
  rw[Bool.and_eq_true]at this
  have b1:=of_decide_eq_true this.1
  have b2:=of_decide_eq_true this.2
  omega
 refine⟨?_,λz hz=>(h3 z hz).1,λo ho=>?_,by omega⟩
 .unfold Vagrak.outsOf
  rw[if_pos ⟨List.all_eq_true.mpr λz hz=>by rw[decide_eq_true (h3 z hz).1,decide_eq_true (h3 z hz).2];rfl,by omega,show l.length<=12 by omega⟩]
 .obtain⟨z,hz,rfl⟩:=List.mem_map.mp ho
  have:=h3 z hz
  omega
theorem Ng{c:VagraLine.Code}{l:List Int}(h:ua l c.length=false):Vagrak.outsOf c l=.error (-2):=by
 unfold Vagrak.outsOf
 rw[if_neg λz=>?_]
 obtain⟨z1,z2,z3⟩:=z
 have z3:l.length<=12:=z3
 unfold ua inB at h
 rw[decide_eq_true (by omega:(1:Int)<=(l.length:Nat)),decide_eq_true (by omega:((l.length:Nat):Int)<=12)]at h
 have:(l.all λz=>decide (0<=z)&&decide (z<=(c.length:Int) - 1))=true:=List.all_eq_true.mpr λz hz=>by
  have:=List.all_eq_true.mp z1 z hz
  rw[Bool.and_eq_true]at this
  have b1:=of_decide_eq_true this.1
  have b2:=of_decide_eq_true this.2
  rw[decide_eq_true b1,decide_eq_true (by omega:z<=(c.length:Int) - 1)]
  rfl
 rw[this]at h
 cases h
theorem B5:∀ (l:List Int) (fs:List Frac),VagraLine.fracsOf l=some fs->∀ f∈fs,Low f
 | [],fs,h=>by
  unfold VagraLine.fracsOf at h
  cases h
  intro f hf
  cases hf
 | [_],fs,h=>by
  unfold VagraLine.fracsOf at h
  cases h
 | n::d::r,fs,h=>by
  rw[j0]at h
  split at h
  .cases h
  .next hd=>
   cases e:VagraLine.fracsOf r with
   | none=>
    rw[e]at h
    cases h
   | some gs=>
    rw[e]at h
    cases h
    intro f hf
    rcases List.mem_cons.mp hf with z|z
    .rw[z]
     exact Low.frac _ (by omega)
    .exact B5 r gs e f z
theorem Eh{n:Nat}{l:List Int}{fs:List Frac}(h:Vagrak.fracs n l=.ok fs):fs.length=n/\∀ f∈fs,Low f:=by
 unfold Vagrak.fracs at h
 cases e:VagraLine.fracsOf l with
 | none=>
  rw[e]at h
  cases h
 | some gs=>
  rw[e]at h
  have h:(if gs.length=n then Except.ok gs else Except.error (-2))=Except.ok fs:=h
  split at h
  .next hl=>
   cases h
   exact⟨hl,B5 l _ e⟩
  .cases h
section
variable{P:Program}{w:World}{K:W.Frag}{mg:Str->Option Value}{base:Heap}{T:Addr}{C:Addr}{er:Int->Addr}
def Lq:List Int->List (List Int)->Vagrak.Call:=λws rows=>.code (ws.getD 0 0) (rows.getD 0 []) (rows.getD 1 [])
def Ck:List Int->List (List Int)->Vagrak.Call:=λ_ rows=>.point (rows.getD 0 [])
theorem zx:FnScope ["held","wholes","rows","inputs","lines"] ["held","wholes","rows"] (au d_answer_code):=by trivial
theorem N9(B:Blt mg)(X:Errs K mg er)(Cb:Bounds mg)(hC:HCls K C)(W:Fn P w K mg base CX0 1 "within" ["number","least","greatest"] i0)(SL:Fn P w K mg base (CXE P w) 3 "split_lines" ["numbers"] (C8 K (er (-2))))(U:Fn P w K mg base CX0 2 "uses_are_there" ["lines","inputs"] (Ii K))(NO:Fn P w K mg base (CXE P w) 2 "need_outs" ["outs","how_many_lines"] (n8 K er))(TK:Mn P w K mg base CX0 1 C "take_program" ["self","inputs","lines","outs"] (Ik C))(D:Df K mg "answer_code" d_answer_code ["held","wholes","rows"]) :
  Fn P w K mg base (CXE P w) 53 "answer_code" ["held","wholes","rows"] (ik K C T er 1 2 Lq):=by
 refine D.okE zx (λvs H Q E h=>?_) (λf cdv A outer s0 H vs Q E hr h=>?_)
 .obtain⟨vh,vw,vr,s,S,ws,rows,rfl,_⟩:=h
  rfl
 .obtain⟨vh,vw,vr,s,S,ws,rows,rfl,hAn,hws,hrs,qe,q⟩:=h
  have hin:=hAn.ask
  obtain⟨a0,dx,vl0,vo0,vp0,ea,ha,_⟩:=id hin.st
  obtain⟨x,rfl⟩:=t9 hws
  obtain⟨l,o,rfl⟩:∃ l o,rows=[l,o]:=by
   match rows,hrs with
   | [l,o],_=>exact⟨l,o,rfl⟩
  obtain⟨aw,rfl,sw⟩:=rLs.ints.mp hin.hw
  obtain⟨ar,xr,rfl,sr,prr,hown⟩:=hAn.own
  obtain⟨u,hu,ru⟩:=gp prr (i:=0) (y:=l) rfl
  obtain⟨u1,hu1,ru1⟩:=gp prr (i:=1) (y:=o) rfl
  have hl400:=hin.short l (List.mem_cons_self ..)
  have ho400:=hin.short o (List.mem_cons_of_mem _ (List.mem_cons_self ..))
  refine⟨_,af (bg (i:=3) zx.nd rfl (Or.inl rfl) (bf bc (pv 1) ax (λ_ _=>rfl)))
   (af (cw (kq (gm (bh W (hr.mono (by decide)) rfl bo (aa (pv 3) (aa ax (aa (br Cb.inputs rfl) aj)))))) (aq (cn cz rfl rfl X.e1.mg X.e1.ex)) bu)
   (af (bg (i:=4) zx.nd rfl (Or.inl rfl) (bh SL (hr.mono (by decide)) rfl bw (aa (bf bc (pv 2) ax (λ_ _=>rfl)) aj)))
   (af (cw (bp Dy (bj be rfl B.len PySem.boot_len (aa (pv 4) aj)) (br Cb.lines rfl) (bv _)) (aq (cn cz rfl rfl X.e7.mg X.e7.ex)) bu)
   (af (cw (kq (gm (bh U (hr.mono (by decide)) rfl bo (aa (pv 4) (aa (pv 3) aj))))) (aq (cn cz rfl rfl X.e3.mg X.e3.ex)) bu)
   (af (cf (bh NO (hr.mono (by decide)) rfl bw (aa (bf bc (pv 2) ax (λ_ _=>rfl)) (aa (bj be rfl B.len PySem.boot_len (aa (pv 4) aj)) aj))))
   (af (cf (ol TK hC.cl (hr.mono (by decide)) bo (pv 0) (aa (pv 3) (aa (pv 4) (aa (bf bc (pv 2) ax (λ_ _=>rfl)) aj)))))
   (aq (az (cu (aa (bj be rfl B.len PySem.boot_len (aa (pv 4) aj)) aj)))))))))),?_⟩
  refine⟨_,rfl,aw,_,_,V.int x,rfl,rfl,sw,rfl,?_⟩
  refine⟨_,rfl,x,0,12,rfl,_,rfl,?_⟩
  cases hb:inB x 0 12 with
  | false=>exact iteT (qe (-1) H (dq (da (hi:=12) hb)) (λb o e _=>e) hin.tab)
  | true=>
   obtain⟨k,rfl,hk,hrk⟩:=du (hi:=12) hb
   refine iteF ⟨_,rfl,ar,_,_,_,rfl,rfl,sr,ck (j:=0) rfl hu,u,l,rfl,ru,by omega,λrs p1 H1 hrs1 hp1 s1 r1=>?_,λH1 hno s1=>?_⟩
   .obtain⟨rok,_⟩:=Ff _ _ _ hrs1
    have hcode:VagraLine.codeOf l.length l=some (rs.map bz):=by rw[oy,hrs1];rfl
    have e0:Vagrak.out s.st (Lq [(k:Int)] [l,o])=(Vagrak.refuseIf (decide (Vagrak.MOSTLINES<(rs.map bz).length)) (-7)>>=λ_=>Vagrak.refuseIf (!VagraLine.well k (rs.map bz)) (-3)>>=λ_=>Vagrak.outsOf (rs.map bz) o>>=λo=>.ok (({ prog:=⟨k,rs.map bz,o⟩,point:=none }:Vagrak.State),[((rs.map bz).length:Int)])):=by
     refine(bx hrk).trans ?_
     show(match VagraLine.codeOf l.length l with
      | none=>Except.error (-2)
      | some c=>_)=_
     rw[hcode]
     rfl
    rw[List.length_map]at e0
    obtain⟨a1,x1,e1,sx1,pr1⟩:=id r1
    cases e1
    have hx1:=eg pr1
    refine⟨_,rfl,p1,_,rfl,.inl sx1,_,_,rfl,rfl,_,rfl,ite2 (λh80=>?_) λh80=>?_⟩
    .have h80:Vagrak.MOSTLINES<rs.length:=by
      have:=of_decide_eq_true h80
      show 80<_
      omega
     refine qe (-7) H1 (e0.trans (dq ?_)) s1.sb (Tab.same s1 hin.tab)
     unfold Vagrak.refuseIf
     rw[if_pos (decide_eq_true h80)]
    .have h80:¬ Vagrak.MOSTLINES<rs.length:=λz=>h80 (decide_eq_true (by
      have z:80<_:=z
      omega))
     have hr80:rs.length<=80:=by
      have z:¬ 80<_:=h80
      omega
     have e1:=e0.trans (bx (a:=()) (by unfold Vagrak.refuseIf;rw[if_neg (by rw[decide_eq_false h80];exact Bool.false_ne_true)]))
     have hwell:VagraLine.well k (rs.map bz)=cx k 0 rs:=(sf k 0 rs rok).symm
     rw[hwell]at e1
     refine⟨_,rfl,_,rfl,_,rs,k,rfl,r1,rok,by omega,λH2 s2=>⟨_,rfl,?_⟩⟩
     have s12:=s1.trans s2
     cases hu2:cx k 0 rs with
     | false=>
      rw[hu2]at e1
      exact iteT (qe (-3) H2 (e1.trans rfl) s12.sb (Tab.same s12 hin.tab))
     | true=>
      rw[hu2]at e1
      have e2:Vagrak.out s.st (Lq [(k:Int)] [l,o])=(Vagrak.outsOf (rs.map bz) o>>=λo=>.ok (({ prog:=⟨k,rs.map bz,o⟩,point:=none }:Vagrak.State),[(rs.length:Int)])):=e1
      refine iteF ⟨_,rfl,ar,_,_,_,rfl,rfl,s12.seq sr,ck (j:=1) rfl hu1,_,rfl,p1,_,rfl,.inl (s2.seq sx1),u1,o,x1.length,rfl,rLs.mono rInt.mono _ _ _ _ s12 ru1,by omega,λhok H3 s3=>?_,λhok H3 s3=>?_⟩
      .have s13:=s12.trans s3
       rw[hx1,<- List.length_map (f:=bz) (as:=rs)]at hok
       obtain⟨o1,o2,o3,o4⟩:=Q9 hok
       rw[List.length_map]at o3
       have e3:=e2.trans (bx o1)
       have ha3:=s13 _ _ ha
       subst ea
       refine⟨_,rfl,a0,dx,_,rfl,ha3,K2 _ _ _ _,_,rfl,_,rfl,_,rfl,ar,_,_,_,rfl,rfl,s13.seq sr,ck (j:=1) rfl hu1,a0,dx,_,_,_,_,_,_,_,rfl,ha3,?_⟩
       have sb:Sb a0 H3 (upd H3 a0 (.ins C dx (fq (.int (k:Nat)) (.ref p1) u1 .non))):=Sb.upd
       have s23:=s2.trans s3
       have r1':=rLs.mo (rTp.mo rInt.mo) _ _ _ _ _ _ jl.ins ha3 sb (rLs.mono (rTp.mono rInt.mono) _ _ _ _ s23 r1)
       have ro':=rLs.mo rNat.mo _ _ _ _ _ _ jl.ins ha3 sb (rLs.toNat (rLs.mono rInt.mono _ _ _ _ s13 ru1) o2)
       have sx3:SqL K (upd H3 a0 (.ins C dx (fq (.int (k:Nat)) (.ref p1) u1 .non))) p1 x1:=SqL.mo jl.ins ha3 sb (s23.seq sx1)
       refine⟨_,rfl,p1,_,rfl,.inl sx3,(by show 1<=sizeLine;decide),λp4 hp4=>?_⟩
       rw[hx1]
       have n4:a0≠p4:=λz=>by rw[<- z,ak]at hp4;cases hp4
       have h40:H p4=none:=s13.free (by rw[ay n4.symm]at hp4;exact hp4)
       have s4:=Same.new (o:=.lst [.int (rs.length:Nat)]) hp4
       refine q ⟨k,rs,o.map Int.toNat,none⟩ [(rs.length:Int)] p4 _ e3 h40 (λb ob e hb hvh=>?_) ?_ ⟨a0,dx,.ref p1,u1,.non,rfl,s4 _ _ ak,rLs.mono (rTp.mono rInt.mono) _ _ _ _ s4 r1',rLs.mono rNat.mono _ _ _ _ s4 ro',rfl,⟨rok,hu2,hr80,hk,o3,by rw[List.length_map];exact o4⟩,hAn.new p1 hp1,?_,hAn.non⟩ (rLt.ints.mpr ⟨p4,rfl,ak⟩)
       .have nb:b≠a0:=λz=>hvh (by rw[z])
        exact s4 _ _ (by rw[ay nb];exact s13 _ _ e)
       .have hT3:=Tab.same s13 hin.tab
        obtain⟨ps3,hps3⟩:=hT3.at_
        have nT:T≠a0:=d7 hps3 ha3 (by intro z;cases z)
        refine Tab.same s4 ?_
        rcases hT3 with z|⟨c',z,z2⟩
        .exact .inl (by rw[ay nT];exact z)
        .exact .inr ⟨c',by rw[ay nT];exact z,by rw[ay (d7 z2 ha3 (by intro z;cases z))];exact z2⟩
       .exact hown u1 (List.mem_of_getElem? hu1)
      .rw[hx1,<- List.length_map (f:=bz) (as:=rs)]at hok
       exact qe (-2) H3 (e2.trans (dq (Ng hok))) (s12.trans s3).sb (Tab.same (s12.trans s3) hin.tab)
   .refine qe (-2) H1 ((bx hrk).trans ?_) s1.sb (Tab.same s1 hin.tab)
    have hcode:VagraLine.codeOf l.length l=none:=by rw[oy,hno];rfl
    show(match VagraLine.codeOf l.length l with
     | none=>Except.error (-2)
     | some c=>_)=_
    rw[hcode]
theorem Dq:FnScope ["held","wholes","rows","point","ran"] ["held","wholes","rows"] (au d_answer_point):=by trivial
theorem Rw(B:Blt mg)(Cf:Faults mg)(hC:HCls K C)(R:Fn P w K mg base (CXE P w) 42 "read_fractions" ["numbers","how_many"] (Il K (er (-2))))(TK:Mn P w K mg base CX0 1 C "take_point" ["self","point"] (C7 C))(F:Fn P w K mg base CX0 46 "run" ["lines","point"] (Mj K))(D:Df K mg "answer_point" d_answer_point ["held","wholes","rows"]) :
  Fn P w K mg base (CXE P w) 53 "answer_point" ["held","wholes","rows"] (ik K C T er 0 1 Ck):=by
 refine D.okE Dq (λvs H Q E h=>?_) (λf cdv A outer s0 H vs Q E hr h=>?_)
 .obtain⟨vh,vw,vr,s,S,ws,rows,rfl,_⟩:=h
  rfl
 .obtain⟨vh,vw,vr,s,S,ws,rows,rfl,hAn,hws,hrs,qe,q⟩:=h
  have hin:=hAn.ask
  obtain⟨n,rs,outs,pt⟩:=s
  obtain⟨a0,dx,vl0,vo0,vp0,ea,ha,hvl,hvo,hvp,hc,S1,S2,S3⟩:=id hin.st
  dsimp only at ha hvl hvo hvp hc
  subst ea
  obtain⟨l,rfl⟩:=t9 hrs
  obtain⟨ar,xr,rfl,sr,prr⟩:=hin.hr
  obtain⟨u,hu,ru⟩:=gp prr (i:=0) (y:=l) rfl
  have hl400:=hin.short l (List.mem_cons_self ..)
  refine⟨_,af (bg (i:=3) Dq.nd rfl (Or.inl rfl) (bh R (hr.mono (by decide)) rfl bw (aa (bf bc (pv 2) ax (λ_ _=>rfl)) (aa (fb (pv 0) rfl) aj))))
   (af (cf (ol TK hC.cl (hr.mono (by decide)) bo (pv 0) (aa (pv 3) aj)))
   (af (bg (i:=4) Dq.nd rfl (Or.inl rfl) (bh F (hr.mono (by decide)) rfl bo (aa (fb (pv 0) rfl) (aa (pv 3) aj))))
   (af (cw (bp fe (bf bq (pv 4) ax (λ_ _=>rfl)) (br Cf.no rfl) (bv _)) (aq (az (cu (aa ax aj)))) bu)
   (aq (az (cu (aa ax (aa (bj be rfl B.len PySem.boot_len (aa (bf bq (pv 4) ax (λ_ _=>rfl)) aj)) (aa (bf bq (pv 4) ax (λ_ _=>rfl)) aj))))))))),?_⟩
  refine⟨_,rfl,ar,_,_,_,rfl,rfl,sr,ck (j:=0) rfl hu,_,rfl,a0,C,dx,_,_,rfl,ha,hC.cl,hC.i,qg _ _ _ _,u,l,n,rfl,ru,by omega,λfs pv H1 hfs hpv s1 rv=>?_,λH1 hno s1=>qe (-2) H1 (dq hno) s1.sb (Tab.same s1 hin.tab)⟩
  obtain⟨fl,flow⟩:=Eh hfs
  have ha1:=s1 _ _ ha
  refine⟨_,rfl,a0,dx,_,rfl,ha1,K1 _ _ _ _,_,rfl,a0,dx,_,_,_,_,_,rfl,ha1,?_⟩
  have sb:Sb a0 H1 (upd H1 a0 (.ins C dx (fq (.int (n:Nat)) vl0 vo0 (.ref pv)))):=Sb.upd
  have hvl2:=rLs.mo (rTp.mo rInt.mo) _ _ _ _ _ _ jl.ins ha1 sb (rLs.mono (rTp.mono rInt.mono) _ _ _ _ s1 hvl)
  have hvo2:=rLs.mo rNat.mo _ _ _ _ _ _ jl.ins ha1 sb (rLs.mono rNat.mono _ _ _ _ s1 hvo)
  have rv2:=rLs.mo rFr.mo _ _ _ _ _ _ jl.ins ha1 sb rv
  have hT1:=Tab.same s1 hin.tab
  obtain⟨ps1,hps1⟩:=hT1.at_
  have nT:T≠a0:=d7 hps1 ha1 (by intro z;cases z)
  have hT2:TabO T (upd H1 a0 (.ins C dx (fq (.int (n:Nat)) vl0 vo0 (.ref pv)))):=by
   rcases hT1 with z|⟨c',z,z2⟩
   .exact .inl (by rw[ay nT];exact z)
   .exact .inr ⟨c',by rw[ay nT];exact z,by rw[ay (d7 z2 ha1 (by intro z;cases z))];exact z2⟩
  have free2:∀ b,(upd H1 a0 (.ins C dx (fq (.int (n:Nat)) vl0 vo0 (.ref pv)))) b=none->H b=none:=λb e=>s1.free (by
   rw[ay (λz=>by rw[z,ak]at e;cases e)]at e
   exact e)
  have hfew:=hc.few
  refine⟨_,rfl,a0,C,dx,_,_,rfl,ak,hC.cl,hC.l,ul _ _ _ _,_,rfl,vl0,_,rs,fs,n,rfl,hvl2,hc.ok,hc.uses,by omega,rv2,fl,flow,λvals fault p3 qa H3 hres s3 hp3 hpt3 r3=>?_⟩
  have st3:SqT K H3 p3 [.ref qa,.int (fault:Nat)]:=.inl (.inl hpt3)
  have fin:∀ (p4:Addr) (la:List Int),H3 p4=none->Vagrak.out (⟨n,rs,outs,pt⟩:Stt).st (Ck ws [l])=.ok ((⟨n,rs,outs,some fs⟩:Stt).st,la)->Q (.ref p4) (upd H3 p4 (.lst (la.map V.int))):=λp4 la hp4 hs=>by
   have s4:=s3.trans (Same.new (o:=.lst (la.map V.int)) hp4)
   refine q ⟨n,rs,outs,some fs⟩ la p4 _ hs (free2 _ (s3.free hp4)) (λb ob e hb hvh=>s4 _ _ ?_) (Tab.same s4 hT2) ⟨a0,dx,vl0,vo0,.ref pv,rfl,s4 _ _ ak,rLs.mono (rTp.mono rInt.mono) _ _ _ _ s4 hvl2,rLs.mono rNat.mono _ _ _ _ s4 hvo2,⟨rLs.mono rFr.mono _ _ _ _ s4 rv2,fl,flow⟩,hc,S1,S2,hAn.new pv hpv⟩ (rLt.ints.mpr ⟨p4,rfl,ak⟩)
   rw[ay (λz=>hvh (by rw[z]))]
   exact s1 _ _ e
  have e0:Vagrak.out (⟨n,rs,outs,pt⟩:Stt).st (Ck ws [l])=.ok ((⟨n,rs,outs,some fs⟩:Stt).st,match VagraLine.run (some Vagrae.HEAVY) fs (rs.map bz) with
   | .ok _=>[0]
   | .error e=>[1,(e.line:Int),(e.kind:Int)]):=bx hfs
  refine⟨_,rfl,p3,_,_,_,rfl,rfl,st3,rfl,rfl,_,rfl,?_⟩
  rw[f9]
  rcases hres with ⟨h1,h2,h3,h4⟩|⟨h1,h2⟩
  .subst h2
   rw[h1]at e0
   exact iteT ⟨(by show 1<=sizeLine;decide),λp4 hp4=>fin p4 [0] hp4 e0⟩
  .rw[h1]at e0
   rw[decide_eq_false (show ¬ ((fault:Nat):Int)=0 by omega)]
   obtain⟨a5,x5,e5,hx5,pr5,hl5⟩:=r3.len
   cases e5
   refine iteF ⟨_,rfl,p3,_,_,_,rfl,rfl,st3,rfl,qa,_,rfl,.inl (SqL.of hx5),_,rfl,p3,_,_,_,rfl,rfl,st3,rfl,(by show 3<=sizeLine;decide),λp4 hp4=>?_⟩
   rw[hl5]
   exact fin p4 [1,(vals.length:Int),(fault:Int)] hp4 e0
end
end Sp
end
section
namespace L2
open PySem PySem.Spec PyProof.Rows
section
variable{X:Cx}{CX:CXT}{k:Nat}{x:Str}{ps:List Str}{E:XK}{p pos:Pos}{e:Expr}{es:List Expr}{t:TA}{i:Nat}
def S5(P:Program)(w:World)(K:W.Frag)(mg:Str->Option Value)(base:Heap)(CX:CXT)(k:Nat)(ps:List Str)(i:Nat)(E:XK)(t:TA):TE:=λZ H Q=>∃ f fd sp,Z[i]? = some (some (.ref f))/\FnOk P w K mg base CX k f fd ps sp/\W.keepIn K (.ref f)=true/\jh K fd ps []/\Me sp [] E t Z H Q
theorem Nd{P:Program}{w:World}{K:W.Frag}{mg:Str->Option Value}{base:Heap}(eP:X.prog=P)(ew:X.w=w)(eK:X.K=K)(em:X.mg=mg)(eb:X.base=base)(hr:Room k X.A)(hN:X.N[i]? = some x)(hv:Vis X.env.scope x)(hx:gn CX X E)(ha:PA X (e::es) t)
  (hd:(x==("__debug__":Str))=false:=by decide) (hcd:(x==("__classdict__":Str))=false:=by decide) (he:starEach (e::es) X.env=(false,eval e X.env)::starEach es X.env:=by rfl) (hpl:(backTo pos (starEach es X.env)).any (·.1)=false:=by rfl) :
  PE X (.Call (.Name x p) (e::es) [] pos) (S5 P w K mg base CX k ps i E t):=by
 subst eP ew eK em eb
 intro pins s Z H Q I h
 obtain⟨f,fd,sp,hf,F,hk,hb,h⟩:=h
 refine wpAny_Call_Name_kw ?_
 refine thn ((Pj (pos:=p) hN hv hd hcd:PE X (.Name x p) (tVar i)) pins s Z H (λv H'=>v=.ref f/\H'=H) I ⟨_,hf,rfl,rfl⟩) λu s1 ⟨v,H1,I1,r,ev,eH⟩=>?_
 subst ev eH
 obtain rfl:u=Value.ref f:=r
 refine W.callWith_K (h₀:=X.base) I1.ok.mod.kin hk (thn (ha pos pins s1 Z _ _ I1 h) λus s2 ⟨vs,H2,I2,r2,q⟩=>⟨I2.kIn,?_⟩) he hpl
 exact Fe F hr hb .nil hx I2 r2 q
end
end L2
namespace Sp
open PySem PySem.Spec PyProof.Rows L2
open VagraLine (at_)
open Vagraa (Frac)
def g6{α:Type}(r:Except Int α):Prop:=∀ n,r=.error n->-8<=n/\n<=-1
theorem g6.ok{α:Type}{a:α}:g6 (Except.ok a:Except Int α):=λn h=>by cases h
theorem g6.err{α:Type}{m:Int}(h:-8<=m/\m<=-1):g6 (Except.error m:Except Int α):=λn e=>by cases e;exact h
theorem g6.bind{α β:Type}{a:Except Int α}{f:α->Except Int β}(h:g6 a)(g:∀ x,g6 (f x)):g6 (a>>=f):=by
 cases a with
 | ok x=>exact g x
 | error m=>exact λn e=>h n (by cases e;rfl)
theorem g6.ite{α:Type}{c:Prop}[Decidable c]{a b:Except Int α}(h:g6 a)(g:g6 b):g6 (if c then a else b):=by
 by_cases q:c
 .rw[if_pos q];exact h
 .rw[if_neg q];exact g
theorem dy{n lo hi:Int}:g6 (Vagrak.ranged n lo hi):=.ite .ok (.err (by decide))
theorem m8{b:Bool}{n:Int}(h:-8<=n/\n<=-1):g6 (Vagrak.refuseIf b n):=.ite (.err h) .ok
theorem Ld{n:Nat}{l:List Int}:g6 (Vagrak.coloursOf n l):=.ite .ok (.err (by decide))
theorem Sk{c:VagraLine.Code}{l:List Int}:g6 (Vagrak.outsOf c l):=.ite .ok (.err (by decide))
theorem Ce{c:Nat}{t:List (List Frac)}:g6 (Vagrak.tableTold c t):=.ite (.err (by decide)) .ok
theorem Os{n:Nat}{l:List Int}:g6 (Vagrak.fracs n l):=by
 unfold Vagrak.fracs
 cases VagraLine.fracsOf l with
 | none=>exact .err (by decide)
 | some fs=>exact .ite .ok (.err (by decide))
theorem Aj{s:Vagrak.State}:g6 s.vals:=by
 unfold Vagrak.State.vals
 cases s.point with
 | none=>exact .err (by decide)
 | some p=>
  dsimp only
  cases VagraLine.run (some Vagrae.HEAVY) p s.prog.code with
  | ok v=>exact .ok
  | error e=>exact .err (by decide)
theorem Sl{s:Vagrak.State}{c:Vagrak.Call}:g6 (s.askPattern c):=by
 cases c with
 | pattern=>exact .ok
 | meets k=>exact .bind dy λ_=>.ok
 | order side k=>exact .bind dy λ_=>.bind dy λ_=>.ok
 | colours side k=>exact .bind dy λ_=>.bind dy λ_=>.ok
 | check side l=>exact .bind dy λ_=>.bind Ld λ_=>.ok
 | least side=>exact .bind dy λ_=>.bind (m8 (by decide)) λ_=>.ok
 | plan=>exact .ok
 | _=>exact .err (by decide)
theorem Ot{s:Vagrak.State}{c:Vagrak.Call}:g6 (s.asked c):=by
 cases c with
 | dense=>exact .bind Aj λ_=>Ce
 | packed side k=>exact .bind dy λ_=>.bind dy λ_=>.bind Aj λ_=>.ite Ce Ce
 | table side k=>exact .bind dy λ_=>.bind dy λ_=>.bind Aj λ_=>Ce
 | apart l=>exact .bind Ld λ_=>.bind Aj λ_=>.bind (m8 (by decide)) λ_=>Ce
 | _ =>
  unfold Vagrak.State.asked
  exact Sl
theorem Ur{s:Vagrak.State}{c:Vagrak.Call}:g6 (Vagrak.out s c):=by
 cases c with
 | code n l o=>
  refine .bind dy λk=>?_
  show g6 (match VagraLine.codeOf l.length l with
   | none=>.error (-2)
   | some c=>Vagrak.refuseIf (decide (Vagrak.MOSTLINES<c.length)) (-7)>>=λ_=>Vagrak.refuseIf (!VagraLine.well k c) (-3)>>=λ_=>Vagrak.outsOf c o>>=λo=>.ok (({ prog:=⟨k,c,o⟩,point:=none }:Vagrak.State),[(c.length:Int)]))
  cases VagraLine.codeOf l.length l with
  | none=>exact .err (by decide)
  | some c=>exact .bind (m8 (by decide)) λ_=>.bind (m8 (by decide)) λ_=>.bind Sk λ_=>.ok
 | point x=>exact .bind Os λ_=>.ok
 | _=>exact .bind Ot λ_=>.ok
section
variable{P:Program}{w:World}{K:W.Frag}{mg:Str->Option Value}{base:Heap}{T:Addr}{C:Addr}{er:Int->Addr}{dA:Addr}{kvs:List (Key×V)}
def Arm(P:Program)(w:World)(K:W.Frag)(mg:Str->Option Value)(base:Heap)(C T:Addr)(er:Int->Addr)(n:Int)(nw nr:Nat)(v:V):Prop:=
 ∃ f fd call,v=.ref f/\FnOk P w K mg base (CXE P w) 53 f fd ["held","wholes","rows"] (ik K C T er nw nr call)/\W.keepIn K (.ref f)=true/\jh K fd ["held","wholes","rows"] [] /\
  ∀ ws rows,ws.length=nw->rows.length=nr->VagrakNeutral.callOf ((n::ws)::rows)=some (call ws rows)
def Arms(P:Program)(w:World)(K:W.Frag)(mg:Str->Option Value)(base:Heap)(C T:Addr)(er:Int->Addr)(kvs:List (Key×V)):Prop:=
 ∀ n nw nr,PyVagrak.shape n=some (nw,nr)->∃ v,valV kvs (.inl n)=some v/\Arm P w K mg base C T er n nw nr v
def Iw(K:W.Frag)(C T dA:Addr)(kvs:List (Key×V)):Sp:=λvs H Q _=>∃ (vh vw vr:V) (n:Int) (s:Stt) (S:V->Prop) (ws:List Int) (rows:List (List Int)),vs=[vh,.int n,vw,vr]/\AnsIn K C T H vh vw vr s S ws rows/\Rd H dA (.dK kvs)/\PyVagrak.shape n=some (ws.length,rows.length) /\
 (∀ (s':Stt) l p H',VagrakNeutral.step s.st ((n::ws)::rows)=(s'.st,l)->H p=none->(∀ b o,H b=some o->b≠T->vh≠.ref b->H' b=some o)->TabO T H'->StAt K C H' vh s' S->rLt rInt H' (.ref p) l->Q (.ref p) H')
theorem Qa{s:Vagrak.State}{c:List (List Int)}{k:Vagrak.Call}{u:Vagrak.State}{l:List Int}(h:VagrakNeutral.callOf c=some k)(e:Vagrak.out s k=.ok (u,l)):VagrakNeutral.step s c=(u,l):=by
 unfold VagrakNeutral.step
 rw[h]
 dsimp only
 unfold Vagrak.step
 rw[e]
 rfl
theorem Mg{s:Vagrak.State}{c:List (List Int)}{k:Vagrak.Call}{n:Int}(h:VagrakNeutral.callOf c=some k)(e:Vagrak.out s k=.error n):VagrakNeutral.step s c=(s,[n]):=by
 unfold VagrakNeutral.step
 rw[h]
 dsimp only
 unfold Vagrak.step
 rw[e]
 rfl
theorem Ji:FnScope ["held","number","wholes","rows","answering"] ["held","number","wholes","rows"] (au d_answer_call):=by trivial
theorem Ru(X:Errs K mg er)(hA:mg "ANSWERING"=some (.ref dA))(AS:Arms P w K mg base C T er kvs)(D:Df K mg "answer_call" d_answer_call ["held","number","wholes","rows"]) :
  Fn P w K mg base (CXE P w) 54 "answer_call" ["held","number","wholes","rows"] (Iw K C T dA kvs):=by
 refine D.okE Ji (λvs H Q E h=>?_) (λf cdv A outer s0 H vs Q E hr h=>?_)
 .obtain⟨vh,vw,vr,n,s,S,ws,rows,rfl,_⟩:=h
  rfl
 .obtain⟨vh,vw,vr,n,s,S,ws,rows,rfl,hin,hd,hs,q⟩:=h
  obtain⟨v,hv,f1,fd1,call,rfl,F1,k1,b1,hc⟩:=AS n _ _ hs
  refine⟨_,af (bg (i:=4) Ji.nd rfl (Or.inl rfl) (Jx (Uk hr) (i8 (v:=.ref dA) rfl hA rfl) (pv 1) (λ_ _=>rfl)))
   (aq (Tf rfl rfl rfl (λpn xe E1 hx=>aq (az (Nd (k:=53) (i:=4) (ps:=["held","wholes","rows"]) (P:=P) (w:=w) (K:=K) (mg:=mg) (base:=base) rfl rfl rfl rfl rfl (hr.mono (by decide)) rfl (Or.inl rfl) hx (aa (pv 0) (aa (pv 2) (aa (pv 3) aj))))))
    (jr rfl X.e1 (λe=>aq (az (cu (aa (tx jn ax) aj))))
    (jr rfl X.e2 (λe=>aq (az (cu (aa (tx jn ax) aj))))
    (jr rfl X.e3 (λe=>aq (az (cu (aa (tx jn ax) aj))))
    (jr rfl X.e4 (λe=>aq (az (cu (aa (tx jn ax) aj))))
    (jr rfl X.e5 (λe=>aq (az (cu (aa (tx jn ax) aj))))
    (jr rfl X.e6 (λe=>aq (az (cu (aa (tx jn ax) aj))))
    (jr rfl X.e7 (λe=>aq (az (cu (aa (tx jn ax) aj))))
    (jr rfl X.e8 (λe=>aq (az (cu (aa (tx jn ax) aj)))) Ti rfl) rfl) rfl) rfl) rfl) rfl) rfl) rfl))),?_⟩
  refine⟨_,rfl,dA,_,rfl,.inl ⟨kvs,.inl n,hd,rfl,hv.symm⟩,?_⟩
  refine⟨f1,fd1,_,rfl,F1,k1,b1,_,rfl,_,rfl,_,rfl,vh,vw,vr,s,S,ws,rows,rfl,hin,rfl,rfl,λm H1 he sb t1 Z'=>?_,λs' l p H1 ho hp kp t1 st1 r1=>q s' l p H1 (Qa (hc ws rows rfl rfl) ho) hp kp t1 st1 r1⟩
  obtain⟨m1,m2⟩:=Ur m he
  obtain⟨ps,hps⟩:=hin.ask.tab.at_
  obtain⟨ps1,hps1⟩:=t1.at_
  have fin:∀ p,H1 p=none->Q (.ref p) (upd H1 p (.lst [.int m])):=λp hp=>by
   have n0:p≠T:=λz=>by rw[z,hps1]at hp;cases hp
   have hp0:H p=none:=by
    cases e:H p with
    | none=>rfl
    | some o=>rw[sb p o e n0]at hp;cases hp
   have sb2:Sb T H (upd H1 p (.lst [.int m])):=λb o e hb=>by
    rw[ay (ba e hp0)]
    exact sb b o e hb
   refine q s [m] p _ (Mg (hc ws rows rfl rfl) he) hp0 (λb o e hb _=>sb2 b o e hb) ?_ (hin.ask.st.mt hps sb2) ⟨p,[.int m],rfl,ak,.cons rfl .nil⟩
   exact Tab.same (Same.new hp) t1
  have ne:∀ i:Int,-8<=i->i<=-1->m≠i->er m≠er i:=λi h1 h2 h3 z=>h3 (X.inj m i m1 m2 h1 h2 z)
  have hm:m=-1\/m=-2\/m=-3\/m=-4\/m=-5\/m=-6\/m=-7\/m=-8:=by omega
  rcases hm with rfl|rfl|rfl|rfl|rfl|rfl|rfl|rfl
  .exact(Or.inl ⟨rfl,_,rfl,(by decide),fin⟩)
  .exact(Or.inr ⟨_,er (-2),rfl,ne (-1) (by decide) (by decide) (by decide),X.e2,(Or.inl ⟨rfl,_,rfl,(by decide),fin⟩)⟩)
  .exact(Or.inr ⟨_,er (-3),rfl,ne (-1) (by decide) (by decide) (by decide),X.e3,(Or.inr ⟨_,er (-3),rfl,ne (-2) (by decide) (by decide) (by decide),X.e3,(Or.inl ⟨rfl,_,rfl,(by decide),fin⟩)⟩)⟩)
  .exact(Or.inr ⟨_,er (-4),rfl,ne (-1) (by decide) (by decide) (by decide),X.e4,(Or.inr ⟨_,er (-4),rfl,ne (-2) (by decide) (by decide) (by decide),X.e4,(Or.inr ⟨_,er (-4),rfl,ne (-3) (by decide) (by decide) (by decide),X.e4,(Or.inl ⟨rfl,_,rfl,(by decide),fin⟩)⟩)⟩)⟩)
  .exact(Or.inr ⟨_,er (-5),rfl,ne (-1) (by decide) (by decide) (by decide),X.e5,(Or.inr ⟨_,er (-5),rfl,ne (-2) (by decide) (by decide) (by decide),X.e5,(Or.inr ⟨_,er (-5),rfl,ne (-3) (by decide) (by decide) (by decide),X.e5,(Or.inr ⟨_,er (-5),rfl,ne (-4) (by decide) (by decide) (by decide),X.e5,(Or.inl ⟨rfl,_,rfl,(by decide),fin⟩)⟩)⟩)⟩)⟩)
  .exact(Or.inr ⟨_,er (-6),rfl,ne (-1) (by decide) (by decide) (by decide),X.e6,(Or.inr ⟨_,er (-6),rfl,ne (-2) (by decide) (by decide) (by decide),X.e6,(Or.inr ⟨_,er (-6),rfl,ne (-3) (by decide) (by decide) (by decide),X.e6,(Or.inr ⟨_,er (-6),rfl,ne (-4) (by decide) (by decide) (by decide),X.e6,(Or.inr ⟨_,er (-6),rfl,ne (-5) (by decide) (by decide) (by decide),X.e6,(Or.inl ⟨rfl,_,rfl,(by decide),fin⟩)⟩)⟩)⟩)⟩)⟩)
  .exact(Or.inr ⟨_,er (-7),rfl,ne (-1) (by decide) (by decide) (by decide),X.e7,(Or.inr ⟨_,er (-7),rfl,ne (-2) (by decide) (by decide) (by decide),X.e7,(Or.inr ⟨_,er (-7),rfl,ne (-3) (by decide) (by decide) (by decide),X.e7,(Or.inr ⟨_,er (-7),rfl,ne (-4) (by decide) (by decide) (by decide),X.e7,(Or.inr ⟨_,er (-7),rfl,ne (-5) (by decide) (by decide) (by decide),X.e7,(Or.inr ⟨_,er (-7),rfl,ne (-6) (by decide) (by decide) (by decide),X.e7,(Or.inl ⟨rfl,_,rfl,(by decide),fin⟩)⟩)⟩)⟩)⟩)⟩)⟩)
  .exact(Or.inr ⟨_,er (-8),rfl,ne (-1) (by decide) (by decide) (by decide),X.e8,(Or.inr ⟨_,er (-8),rfl,ne (-2) (by decide) (by decide) (by decide),X.e8,(Or.inr ⟨_,er (-8),rfl,ne (-3) (by decide) (by decide) (by decide),X.e8,(Or.inr ⟨_,er (-8),rfl,ne (-4) (by decide) (by decide) (by decide),X.e8,(Or.inr ⟨_,er (-8),rfl,ne (-5) (by decide) (by decide) (by decide),X.e8,(Or.inr ⟨_,er (-8),rfl,ne (-6) (by decide) (by decide) (by decide),X.e8,(Or.inr ⟨_,er (-8),rfl,ne (-7) (by decide) (by decide) (by decide),X.e8,(Or.inl ⟨rfl,_,rfl,(by decide),fin⟩)⟩)⟩)⟩)⟩)⟩)⟩)⟩)
end
def ie(n p:V):List (Str×V):=[("numbers",n),("place",p)]
theorem Ds(n p:V):(ie n p).lookup ("numbers":Str)=some n:=by kernel_rfl
theorem oh(n p:V):(ie n p).lookup ("place":Str)=some p:=by kernel_rfl
theorem Jn(n p:V):(ie n p).lookup ("at_end":Str)=none:=by kernel_rfl
theorem Bj(n p:V):(ie n p).lookup ("take_number":Str)=none:=by kernel_rfl
theorem Bi(n p:V):(ie n p).lookup ("take_numbers":Str)=none:=by kernel_rfl
theorem Jm(n p:V):(ie n p).lookup ("take_row":Str)=none:=by kernel_rfl
theorem Bh(n p v:V):putF "place" v (ie n p)=ie n v:=by kernel_rfl
theorem Jo(n p:V):putF "place" p (putF "numbers" n [])=ie n p:=by kernel_rfl
structure RCls(K:W.Frag)(R:Addr):Prop where
 cl:Cls K R
 n:fz K R "numbers"
 p:fz K R "place"
section
variable{P:Program}{w:World}{K:W.Frag}{mg:Str->Option Value}{base:Heap}{T:Addr}{R:Addr}{er:Int->Addr}
def Da(R:Addr):Sp:=λvs H Q _=>∃ x dx vn,vs=[.ref x,vn]/\H x=some (.ins R dx [])/\Q .non (upd H x (.ins R dx (ie vn (.int 0))))
theorem Mu:FnScope ["self","numbers"] ["self","numbers"] (au d_Reader_init):=by trivial
theorem Np(hR:RCls K R)(D:Di K R "Reader.__init__" d_Reader_init ["self","numbers"]):In P w K mg base CX0 1 R ["self","numbers"] (Da R):=by
 refine D.ok Mu (λvs H Q E h=>?_) (λf cdv A outer s0 H vs Q E hr h=>?_)
 .obtain⟨x,dx,vn,rfl,_⟩:=h
  rfl
 .obtain⟨x,dx,vn,rfl,hx,q⟩:=h
  refine⟨_,af (jq (pv 0) (pv 1) rfl) (aq (jq (pv 0) ax rfl)),?_⟩
  refine⟨_,rfl,_,rfl,x,R,dx,_,rfl,hx,hR.cl,hR.n,(by show 0<1000;decide),_,rfl,x,R,dx,_,rfl,ak,hR.cl,hR.p,(by have h2:=d9 "numbers" vn [];have h3:([]:List (Str×V)).length=0:=rfl;omega),?_⟩
  rw[jm,Jo]
  exact q
def RdAt(K:W.Frag)(R:Addr)(H:Hp)(x dx an:Addr)(l:List Int)(k:Nat):Prop:=H x=some (.ins R dx (ie (.ref an) (.int (k:Nat))))/\SqL K H an (l.map V.int)
abbrev iz(R:Addr)(H:Hp)(x dx an:Addr)(k:Nat):Hp:=upd H x (.ins R dx (ie (.ref an) (.int (k:Nat))))
def Dg(K:W.Frag)(R:Addr):Sp:=λvs H Q _=>∃ x dx an l k,vs=[.ref x]/\RdAt K R H x dx an l k/\Q (.bl (decide (l.length<=k))) H
theorem M1:FnScope ["self"] ["self"] (au d_Reader_at_end):=by trivial
theorem N6(B:Blt mg)(hR:RCls K R)(D:Dm K R "at_end" "Reader.at_end" d_Reader_at_end ["self"]):Mn P w K mg base CX0 1 R "at_end" ["self"] (Dg K R):=by
 refine D.ok M1 (λvs H Q E h=>?_) (λf cdv A outer s0 H vs Q E hr h=>?_)
 .obtain⟨x,dx,an,l,k,rfl,_⟩:=h
  rfl
 .obtain⟨x,dx,an,l,k,rfl,⟨hx,sl⟩,q⟩:=h
  refine⟨_,aq (az (i9 J1 (ld rfl (pv 0) rfl) (bj be rfl B.len PySem.boot_len (aa (ld rfl (pv 0) rfl) aj)) (bv _))),?_⟩
  refine⟨_,rfl,x,R,dx,_,_,rfl,hx,hR.cl,hR.p,oh _ _,_,rfl,x,R,dx,_,_,rfl,hx,hR.cl,hR.n,Ds _ _,an,_,rfl,.inl sl,_,_,rfl,rfl,?_⟩
  rw[List.length_map]
  have e:decide ((l.length:Int)<=(k:Int))=decide (l.length<=k):=by
   by_cases h:l.length<=k
   .rw[decide_eq_true h,decide_eq_true (by omega)]
   .rw[decide_eq_false h,decide_eq_false (by omega)]
  rw[<- e]at q
  exact q
def y6(K:W.Frag)(R:Addr):Sp:=λvs H Q _=>∃ x dx an l k z,vs=[.ref x]/\RdAt K R H x dx an l k/\l[k]? = some z/\Q (.int z) (iz R H x dx an (k+1))
theorem Pd:FnScope ["self","number"] ["self"] (au d_Reader_take_number):=by trivial
theorem Tv(hR:RCls K R)(D:Dm K R "take_number" "Reader.take_number" d_Reader_take_number ["self"]):Mn P w K mg base CX0 1 R "take_number" ["self"] (y6 K R):=by
 refine D.ok Pd (λvs H Q E h=>?_) (λf cdv A outer s0 H vs Q E hr h=>?_)
 .obtain⟨x,dx,an,l,k,z,rfl,_⟩:=h
  rfl
 .obtain⟨x,dx,an,l,k,z,rfl,⟨hx,sl⟩,hz,q⟩:=h
  refine⟨_,af (bg (i:=1) Pd.nd rfl (Or.inl rfl) (bf bc (ld rfl (pv 0) rfl) (ld rfl (pv 0) rfl) (λ_ _=>rfl))) (af (Bm (pv 0) ax Pq) (aq (az (pv 1)))),?_⟩
  have gk:(l.map V.int)[k]? = some (V.int z):=by rw[List.getElem?_map,hz];rfl
  refine⟨_,rfl,x,R,dx,_,_,rfl,hx,hR.cl,hR.n,Ds _ _,_,rfl,x,R,dx,_,_,rfl,hx,hR.cl,hR.p,oh _ _,an,_,_,_,rfl,rfl,sl,ck rfl gk,?_⟩
  refine⟨_,rfl,x,R,dx,_,_,rfl,hx,hR.cl,hR.p,oh _ _,_,_,rfl,rfl,dx,_,hx,(by show 2<1000;decide),_,rfl,?_⟩
  rw[Bh]
  exact q
def qy(K:W.Frag)(R:Addr):Sp:=λvs H Q _=>∃ x dx an l k m,vs=[.ref x,.int (m:Nat)]/\RdAt K R H x dx an l k/\k+m<=l.length/\∀ p,H p=none->Q (.ref p) (upd (iz R H x dx an (k+m)) p (.lst (((l.drop k).take m).map V.int)))
theorem Jd:FnScope ["self","how_many","begin"] ["self","how_many"] (au d_Reader_take_numbers):=by trivial
theorem J6(hR:RCls K R)(D:Dm K R "take_numbers" "Reader.take_numbers" d_Reader_take_numbers ["self","how_many"]):Mn P w K mg base CX0 1 R "take_numbers" ["self","how_many"] (qy K R):=by
 refine D.ok Jd (λvs H Q E h=>?_) (λf cdv A outer s0 H vs Q E hr h=>?_)
 .obtain⟨x,dx,an,l,k,m,rfl,_⟩:=h
  rfl
 .obtain⟨x,dx,an,l,k,m,rfl,⟨hx,sl⟩,hk,q⟩:=h
  refine⟨_,af (bg (i:=2) Jd.nd rfl (Or.inl rfl) (ld rfl (pv 0) rfl)) (af (Bm (pv 0) (pv 1) Pq) (aq (az (rk Iz (ld rfl (pv 0) rfl) (oj (pv 2)) (oj (ld rfl (pv 0) rfl)))))),?_⟩
  have sl2:SqL K (iz R H x dx an (k+m)) an (l.map V.int):=SqL.mo jl.ins hx Sb.upd sl
  have ek:(k:Int)+(m:Int)=((k+m:Nat):Int):=by omega
  refine⟨_,rfl,x,R,dx,_,_,rfl,hx,hR.cl,hR.p,oh _ _,?_⟩
  refine⟨_,rfl,x,R,dx,_,_,rfl,hx,hR.cl,hR.p,oh _ _,_,rfl,_,_,rfl,rfl,dx,_,hx,(by show 2<1000;decide),?_⟩
  rw[Bh,ek]
  refine⟨_,rfl,x,R,dx,_,_,rfl,ak,hR.cl,hR.n,Ds _ _,?_⟩
  refine⟨_,rfl,_,rfl,_,rfl,x,R,dx,_,_,rfl,ak,hR.cl,hR.p,oh _ _,_,rfl,an,_,rfl,sl2,λp hp=>?_⟩
  rw[Gi l (by omega) hk,show k+m - k=m by omega]
  have n1:p≠x:=λz=>by rw[z,ak]at hp;cases hp
  rw[ay n1]at hp
  exact q p hp
def C6(K:W.Frag)(R:Addr):Sp:=λvs H Q _=>∃ x dx an l k m,vs=[.ref x]/\RdAt K R H x dx an l k/\l[k]? = some ((m:Nat):Int)/\k+1+m<=l.length/\∀ p,H p=none->Q (.ref p) (upd (iz R H x dx an (k+1+m)) p (.lst (((l.drop (k+1)).take m).map V.int)))
theorem Ms:FnScope ["self"] ["self"] (au d_Reader_take_row):=by trivial
theorem Nl(hR:RCls K R)(F:Mn P w K mg base CX0 1 R "take_number" ["self"] (y6 K R))(G:Mn P w K mg base CX0 1 R "take_numbers" ["self","how_many"] (qy K R))(D:Dm K R "take_row" "Reader.take_row" d_Reader_take_row ["self"]):Mn P w K mg base CX0 2 R "take_row" ["self"] (C6 K R):=by
 refine D.ok Ms (λvs H Q E h=>?_) (λf cdv A outer s0 H vs Q E hr h=>?_)
 .obtain⟨x,dx,an,l,k,m,rfl,_⟩:=h
  rfl
 .obtain⟨x,dx,an,l,k,m,rfl,⟨hx,sl⟩,hz,hk,q⟩:=h
  refine⟨_,aq (az (ol G hR.cl (hr.mono (by decide)) bo (pv 0) (aa (tz F hR.cl (hr.mono (by decide)) bo (pv 0)) aj))),?_⟩
  have sl2:SqL K (iz R H x dx an (k+1)) an (l.map V.int):=SqL.mo jl.ins hx Sb.upd sl
  refine⟨_,rfl,x,dx,_,rfl,hx,Bi _ _,?_⟩
  refine⟨_,rfl,x,dx,_,rfl,hx,Bj _ _,x,dx,an,l,k,_,rfl,⟨hx,sl⟩,hz,?_⟩
  refine⟨x,dx,an,l,k+1,m,rfl,⟨ak,sl2⟩,hk,λp hp=>?_⟩
  have hp:upd H x (.ins R dx (ie (.ref an) (.int ((k+1:Nat):Int)))) p=none:=hp
  have n1:p≠x:=λz=>by rw[z,ak]at hp;cases hp
  rw[ay n1]at hp
  have:=q p hp
  rw[iz,jm]
  exact this
end
theorem yq{shape:Int->Option (Nat×Nat)}{l t:List Int}{c:List (List Int)}(h:PyFlat.call shape l=some (c,t)) :
  ∃ p r n m xs,l=p::r/\shape p=some (n,m)/\n<=r.length/\PyFlat.rows m (r.drop n)=some (xs,t)/\c=(p::r.take n)::xs:=by
 cases l with
 | nil=>cases h
 | cons p r=>
  unfold PyFlat.call at h
  dsimp only at h
  cases e:shape p with
  | none=>rw[e]at h;cases h
  | some q=>
   obtain⟨n,m⟩:=q
   rw[e]at h
   dsimp only at h
   split at h
   .cases h
   .next hn=>
    cases e2:PyFlat.rows m (r.drop n) with
    | none=>rw[e2]at h;cases h
    | some q2=>
     obtain⟨xs,u⟩:=q2
     rw[e2]at h
     cases h
     exact⟨p,r,n,m,xs,rfl,e,by omega,e2,rfl⟩
theorem Bf{k:Nat}{l t:List Int}{xs:List (List Int)}(h:PyFlat.rows (k+1) l=some (xs,t)):∃ (m:Nat) (q:List Int) (ys:List (List Int)),l=(m:Int)::q/\m<=q.length/\xs=q.take m::ys/\PyFlat.rows k (q.drop m)=some (ys,t):=by
 unfold PyFlat.rows at h
 cases l with
 | nil=>cases h
 | cons z q=>
  unfold PyFlat.row at h
  dsimp only at h
  by_cases hz:0<=z/\z.toNat<=q.length
  .rw[if_pos hz]at h
   dsimp only at h
   cases e:PyFlat.rows k (q.drop z.toNat) with
   | none=>rw[e]at h;cases h
   | some q2=>
    obtain⟨ys,u⟩:=q2
    rw[e]at h
    cases h
    refine⟨z.toNat,q,ys,?_,hz.2,rfl,e⟩
    rw[Int.toNat_of_nonneg hz.1]
  .rw[if_neg hz]at h
   cases h
theorem Be{l t:List Int}{xs:List (List Int)}(h:PyFlat.rows 0 l=some (xs,t)):xs=[]/\l=t:=by
 unfold PyFlat.rows at h
 cases h
 exact⟨rfl,rfl⟩
theorem zy:∀ {k:Nat} {l t:List Int} {xs:List (List Int)},PyFlat.rows k l=some (xs,t)->xs.length=k
 | 0,l,t,xs,h=>by rw[(Be h).1];rfl
 | k+1,l,t,xs,h=>by
  obtain⟨m,q,ys,_,_,rfl,h2⟩:=Bf h
  rw[List.length_cons,zy h2]
theorem i5{n:Int}{a b:Nat}(h:PyVagrak.shape n=some (a,b)):(n=0/\a=1/\b=2)\/(n=1/\a=0/\b=1)\/(n=2/\a=0/\b=0)\/(n=3/\a=1/\b=0)\/(n=4/\a=2/\b=0)\/(n=5/\a=2/\b=0)\/(n=6/\a=1/\b=1)\/(n=7/\a=1/\b=0)\/(n=8/\a=0/\b=0)\/(n=9/\a=0/\b=0)\/(n=10/\a=2/\b=0)\/(n=11/\a=2/\b=0)\/(n=12/\a=0/\b=1):=by
 unfold PyVagrak.shape at h
 by_cases h0:n=0
 .rw[if_pos h0]at h
  cases h
  exact(.inl ⟨h0,rfl,rfl⟩)
 rw[if_neg h0]at h
 by_cases h1:n=1
 .rw[if_pos h1]at h
  cases h
  exact(.inr (.inl ⟨h1,rfl,rfl⟩))
 rw[if_neg h1]at h
 by_cases h2:n=2
 .rw[if_pos h2]at h
  cases h
  exact(.inr (.inr (.inl ⟨h2,rfl,rfl⟩)))
 rw[if_neg h2]at h
 by_cases h3:n=3
 .rw[if_pos h3]at h
  cases h
  exact(.inr (.inr (.inr (.inl ⟨h3,rfl,rfl⟩))))
 rw[if_neg h3]at h
 by_cases h4:n=4
 .rw[if_pos h4]at h
  cases h
  exact(.inr (.inr (.inr (.inr (.inl ⟨h4,rfl,rfl⟩)))))
 rw[if_neg h4]at h
 by_cases h5:n=5
 .rw[if_pos h5]at h
  cases h
  exact(.inr (.inr (.inr (.inr (.inr (.inl ⟨h5,rfl,rfl⟩))))))
 rw[if_neg h5]at h
 by_cases h6:n=6
 .rw[if_pos h6]at h
  cases h
  exact(.inr (.inr (.inr (.inr (.inr (.inr (.inl ⟨h6,rfl,rfl⟩)))))))
 rw[if_neg h6]at h
 by_cases h7:n=7
 .rw[if_pos h7]at h
  cases h
  exact(.inr (.inr (.inr (.inr (.inr (.inr (.inr (.inl ⟨h7,rfl,rfl⟩))))))))
 rw[if_neg h7]at h
 by_cases h8:n=8
 .rw[if_pos h8]at h
  cases h
  exact(.inr (.inr (.inr (.inr (.inr (.inr (.inr (.inr (.inl ⟨h8,rfl,rfl⟩)))))))))
 rw[if_neg h8]at h
 by_cases h9:n=9
 .rw[if_pos h9]at h
  cases h
  exact(.inr (.inr (.inr (.inr (.inr (.inr (.inr (.inr (.inr (.inl ⟨h9,rfl,rfl⟩))))))))))
 rw[if_neg h9]at h
 by_cases h10:n=10
 .rw[if_pos h10]at h
  cases h
  exact(.inr (.inr (.inr (.inr (.inr (.inr (.inr (.inr (.inr (.inr (.inl ⟨h10,rfl,rfl⟩)))))))))))
 rw[if_neg h10]at h
 by_cases h11:n=11
 .rw[if_pos h11]at h
  cases h
  exact(.inr (.inr (.inr (.inr (.inr (.inr (.inr (.inr (.inr (.inr (.inr (.inl ⟨h11,rfl,rfl⟩))))))))))))
 rw[if_neg h11]at h
 by_cases h12:n=12
 .rw[if_pos h12]at h
  cases h
  exact(.inr (.inr (.inr (.inr (.inr (.inr (.inr (.inr (.inr (.inr (.inr (.inr ⟨h12,rfl,rfl⟩))))))))))))
 rw[if_neg h12]at h
 cases h
theorem Cg{l r:List Int}{k:Nat}{p:Int}(h:l.drop k=p::r):l[k]? = some p/\l.drop (k+1)=r/\k<l.length:=by
 have hk:k<l.length:=by
  rcases Nat.lt_or_ge k l.length with z|z
  .exact z
  .rw[List.drop_eq_nil_of_le z]at h;cases h
 rw[List.drop_eq_getElem_cons hk]at h
 obtain⟨h1,h2⟩:=List.cons.inj h
 exact⟨by rw[List.getElem?_eq_getElem hk,h1],h2,hk⟩
section
variable{P:Program}{w:World}{K:W.Frag}{mg:Str->Option Value}{base:Heap}{T C R:Addr}{er:Int->Addr}{dA dS:Addr}{kvs kvS:List (Key×V)}
def L3(K:W.Frag)(kvS:List (Key×V)):Prop:=∀ n nw nr,PyVagrak.shape n=some (nw,nr)->∃ b,valV kvS (.inl n)=some (.ref b)/\∀ H,SqT K H b [.int (nw:Nat),.int (nr:Nat)]
def Bar(E:Addr->Prop)(H H':Hp):Prop:=∀ b o,H b=some o->¬ E b->H' b=some o
structure Ix(E:Addr->Prop)(H:Hp):Prop where
 no:∀ b o,E b->H b=some o->jl o/\∀ u,o≠.dK u
theorem Bar.sqL{E:Addr->Prop}{H H':Hp}{a:Addr}{xs:List V}(x:Ix E H)(b:Bar E H H')(h:SqL K H a xs):SqL K H' a xs:=by
 rcases h with (h|⟨ob,h⟩)|h
 .exact .inl (.inl (b _ _ h λz=>(x.no _ _ z h).1.1 _ rfl))
 .exact .inl (.inr ⟨ob,b _ _ h λz=>(x.no _ _ z h).1.2.2 _ _ rfl⟩)
 .exact .inr h
theorem Bar.sqT{E:Addr->Prop}{H H':Hp}{a:Addr}{xs:List V}(x:Ix E H)(b:Bar E H H')(h:SqT K H a xs):SqT K H' a xs:=by
 rcases h with (h|⟨ob,h⟩)|h
 .exact .inl (.inl (b _ _ h λz=>(x.no _ _ z h).1.2.1 _ rfl))
 .exact .inl (.inr ⟨ob,b _ _ h λz=>(x.no _ _ z h).1.2.2 _ _ rfl⟩)
 .exact .inr h
theorem Bar.rd{E:Addr->Prop}{H H':Hp}{a:Addr}{u:List (Key×V)}(x:Ix E H)(b:Bar E H H')(h:Rd H a (.dK u)):Rd H' a (.dK u):=by
 rcases h with h|⟨ob,h⟩
 .exact .inl (b _ _ h λz=>(x.no _ _ z h).2 _ rfl)
 .exact .inr ⟨ob,b _ _ h λz=>(x.no _ _ z h).1.2.2 _ _ rfl⟩
theorem Bar.pt{E:Addr->Prop}{H H':Hp}{vp:V}{n:Nat}{pt:Option (List Frac)}(x:Ix E H)(b:Bar E H H')(h:PtAt K H vp n pt):PtAt K H' vp n pt:=by
 cases pt with
 | none=>exact h
 | some pts=>
  obtain⟨⟨a,xs,e,q,pr⟩,h2⟩:=h
  exact⟨⟨a,xs,e,b.sqL x q,Paired.mapP pr λu y ⟨a,e,q⟩=>⟨a,e,b.sqT x q⟩⟩,h2⟩
theorem Bar.st{E:Addr->Prop}{H H':Hp}{vh:V}{s:Stt}{S:V->Prop}(x:Ix E H)(b:Bar E H H')(hv:∀ a,vh=.ref a->¬ E a)(h:StAt K C H vh s S):StAt K C H' vh s S:=by
 obtain⟨a,dx,vl,vo,vp,h1,h2,⟨a3,x3,e3,q3,p3⟩,⟨a4,x4,e4,q4,p4⟩,h5,h6,h7⟩:=h
 exact⟨a,dx,vl,vo,vp,h1,b _ _ h2 (hv a h1),⟨a3,x3,e3,b.sqL x q3,Paired.mapP p3 λu y ⟨a,xs,e,q,pr⟩=>⟨a,xs,e,b.sqT x q,pr⟩⟩,⟨a4,x4,e4,b.sqL x q4,p4⟩,b.pt x h5,h6,h7⟩
theorem Bar.tab{E:Addr->Prop}{H H':Hp}(b:Bar E H H')(hT:¬ E T)(hx:∀ c',H c'=some (Er c' Ad)->¬ E c')(h:TabO T H):TabO T H':=by
 rcases h with h|⟨c',h1,h2⟩
 .exact .inl (b _ _ h hT)
 .exact .inr ⟨c',b _ _ h1 hT,b _ _ h2 (hx c' h2)⟩
def rNew(H1:Hp)(D x:Addr)(H:Hp)(v:V)(r:List Int):Prop:=∃ p,v=.ref p/\p≠D/\p≠x/\H1 p=none/\H p=some (.lst (r.map V.int))
def Iq(K:W.Frag)(C R T dA dS:Addr)(kvs kvS:List (Key×V)):Sp:=λvs H Q _=>∃ (vh:V) (x dx an:Addr) (l:List Int) (k:Nat) (s:Stt) (S:V->Prop) (c:List (List Int)) (t:List Int),vs=[vh,.ref x]/\StAt K C H vh s S/\S .non/\(∀ p,H p=none->S (.ref p))/\TabO T H/\RdAt K R H x dx an l k/\vh≠.ref x/\Rd H dA (.dK kvs)/\Rd H dS (.dK kvS) /\
 PyFlat.call PyVagrak.shape (l.drop k)=some (c,t)/\(∀ r∈c.tail,r.length<=400)/\∀ (s':Stt) ans p k2 H',VagrakNeutral.step s.st c=(s'.st,ans)->H p=none->k<k2->k2<=l.length->l.drop k2=t->(∀ b o,H b=some o->b≠T->b≠x->vh≠.ref b->H' b=some o)->H' x=some (.ins R dx (ie (.ref an) (.int (k2:Nat))))->TabO T H'->StAt K C H' vh s' S->rLt rInt H' (.ref p) ans->Q (.ref p) H'
theorem n9:FnScope ["held","reader","number","shape","wholes","rows","place"] ["held","reader"] (au d_answer_next):=by trivial
theorem Ro(B:Blt mg)(hR:RCls K R)(hS:mg "SHAPES"=some (.ref dS))(SH:L3 K kvS)(TN:Mn P w K mg base CX0 1 R "take_number" ["self"] (y6 K R))(TS:Mn P w K mg base CX0 1 R "take_numbers" ["self","how_many"] (qy K R))(TR:Mn P w K mg base CX0 2 R "take_row" ["self"] (C6 K R))
  (AC:Fn P w K mg base (CXE P w) 54 "answer_call" ["held","number","wholes","rows"] (Iw K C T dA kvs)) (D:Df K mg "answer_next" d_answer_next ["held","reader"]) :
  Fn P w K mg base (CXE P w) 55 "answer_next" ["held","reader"] (Iq K C R T dA dS kvs kvS):=by
 refine D.okE n9 (λvs H Q E h=>?_) (λf cdv A outer s0 H vs Q E hr h=>?_)
 .obtain⟨vh,x,dx,an,l,k,s,S,c,t,rfl,_⟩:=h
  rfl
 .obtain⟨vh,x,dx,an,l,k,s,S,c,t,rfl,hst,hSn,hSf,htab,⟨hx,sl⟩,hvx,hdA,hdS,hcall,hshort,q⟩:=h
  obtain⟨n,r,nw,nr,xs,hl,hsh,hnw,hrows,rfl⟩:=yq hcall
  obtain⟨hk1,hk2,hk3⟩:=Cg hl
  obtain⟨b,hb,sb⟩:=SH n nw nr hsh
  have hxs:=zy hrows
  have hnr:nr<=2/\nw<=2:=by
   rcases i5 hsh with ⟨_,h1,h2⟩|⟨_,h1,h2⟩|⟨_,h1,h2⟩|⟨_,h1,h2⟩|⟨_,h1,h2⟩|⟨_,h1,h2⟩|⟨_,h1,h2⟩|⟨_,h1,h2⟩|⟨_,h1,h2⟩|⟨_,h1,h2⟩|⟨_,h1,h2⟩|⟨_,h1,h2⟩|⟨_,h1,h2⟩ <;> omega
  have hrl:r.length+(k+1)=l.length:=by rw[<- hk2,List.length_drop];omega
  refine⟨_,af (bg (i:=2) n9.nd rfl (Or.inl rfl) (tz TN hR.cl (hr.mono (by decide)) bo (pv 1)))
   (af (bg (i:=3) n9.nd rfl (Or.inl rfl) (Jx (Uk hr) (i8 (v:=.ref dS) rfl hS rfl) (pv 2) (λ_ _=>rfl)))
   (af (bg (i:=4) n9.nd rfl (Or.inl rfl) (ol TS hR.cl (hr.mono (by decide)) bo (pv 1) (aa (bf bq (pv 3) ax (λ_ _=>rfl)) aj)))
   (af (kc (i:=5) (own:=[("place",6)]) rfl n9.nd rfl rfl rfl (ez rfl B.range (aa (bf bq (pv 3) ax (λ_ _=>rfl)) aj)) (b8 (by kernel_rfl)) (λ_ _ _ _ _=>bi (i:=6) n9.nd rfl (Or.inl rfl)) (λ_ _ _ _ _=>c8)
    (λ_ _ _ _ _=>tz TR hR.cl (hr.mono (by decide)) bo (pv 1)))
   (aq (az (bh AC (hr.mono (by decide)) rfl bw (aa (pv 0) (aa (pv 2) (aa (pv 4) (aa (pv 5) aj)))))))))),?_⟩
  have b1:Bar (λz=>z=x) H (iz R H x dx an (k+1)):=λz o e hz=>by
   show upd H x _ z=_
   rw[ay hz]
   exact e
  have ix:Ix (λz=>z=x) H:=⟨λz o e1 e2=>by
   rw[e1,hx]at e2
   cases e2
   exact⟨jl.ins,λu z=>(by cases z)⟩⟩
  refine⟨_,rfl,x,dx,_,rfl,hx,Bj _ _,x,dx,an,l,k,n,rfl,⟨hx,sl⟩,hk1,?_⟩
  refine⟨_,rfl,dS,_,rfl,.inl ⟨kvS,.inl n,b1.rd ix hdS,rfl,hb.symm⟩,?_⟩
  refine⟨_,rfl,x,dx,_,rfl,ak,Bi _ _,_,rfl,b,_,_,_,rfl,rfl,sb _,rfl,x,dx,an,l,k+1,nw,rfl,⟨ak,b1.sqL ix sl⟩,by omega,λp1 hp1=>?_⟩
  have hp1:upd H x (.ins R dx (ie (.ref an) (.int ((k+1:Nat):Int)))) p1=none:=hp1
  have n1:p1≠x:=λz=>by rw[z,ak]at hp1;cases hp1
  rw[ay n1]at hp1
  rw[iz,iz,jm,hk2]
  generalize hH2:upd (upd H x (HO.ins R dx (ie (.ref an) (.int ((k+1+nw:Nat):Int))))) p1 (.lst ((r.take nw).map V.int))=H2
  have b2:Bar (λz=>z=x) H H2:=λz o e hz=>by
   rw[<- hH2,ay (ba e hp1),ay hz]
   exact e
  have h2x:H2 x=some (.ins R dx (ie (.ref an) (.int ((k+1+nw:Nat):Int)))):=by
   rw[<- hH2,ay n1.symm,ak]
  have h2p:H2 p1=some (.lst ((r.take nw).map V.int)):=by rw[<- hH2,ak]
  dsimp only [m7,tAsg,k7,tSeq]
  refine c9 ?_
  refine⟨_,rfl,b,_,_,_,rfl,rfl,sb _,rfl,_,rfl,by omega,by omega,λD hD=>?_⟩
  have nDx:D≠x:=λz=>by rw[z,h2x]at hD;cases hD
  refine⟨λi m H'=>∃ (ki:Nat) (ys:List V) (dn td:List (List Int)),xs=dn++td/\dn.length=i/\td.length=m/\k<ki/\ki<=l.length/\PyFlat.rows td.length (l.drop ki)=some (td,t)/\H' x=some (.ins R dx (ie (.ref an) (.int (ki:Nat))))/\Bar (λz=>z=x) H2 H'/\H' D=some (.lst ys)/\Paired (rNew H2 D x H') ys dn,?_,?_⟩
  .refine⟨xs.length,k+1+nw,[],[],xs,rfl,rfl,rfl,by omega,by omega,?_,?_,?_,ak,.nil⟩
   .rw[hxs,<- List.drop_drop,hk2]
    exact hrows
   .rw[ay nDx.symm]
    exact h2x
   .intro z o e hz
    rw[ay (ba e hD)]
    exact e
  .rintro i m H' ⟨ki,ys,dn,td,hdt,hi,hm,hki,hkl,hrw,hx',b3,hD',pr⟩
   have sl':SqL K H' an (l.map V.int):=by
    have ix2:Ix (λz=>z=x) H2:=⟨λz o e1 e2=>by
     rw[e1,h2x]at e2
     cases e2
     exact⟨jl.ins,λu z=>(by cases z)⟩⟩
    exact b3.sqL ix2 (b2.sqL ix sl)
   have hlen:dn.length+td.length=nr:=by rw[<- hxs,hdt,List.length_append]
   have hprl:=pr.length
   cases td with
   | nil=>
    refine .inl ⟨by show((nr:Nat):Int).toNat<=i;simp at hlen;omega,?_⟩
    obtain⟨_,ht⟩:=Be hrw
    rw[List.append_nil]at hdt
    subst hdt
    have b4:Bar (λz=>z=x) H H':=λz o e hz=>b3 z o (b2 z o e hz) hz
    obtain⟨ps,hps⟩:=htab.at_
    have nTx:T≠x:=λz=>by rw[z,hx]at hps;cases hps
    have free:∀ p,H' p=none->H p=none:=λp hp=>by
     cases e:H p with
     | none=>rfl
     | some o=>
      by_cases hpx:p=x
      .rw[hpx,hx']at hp;cases hp
      .rw[b4 p o e hpx]at hp;cases hp
    have free2:∀ p,p≠x->H2 p=none->H p=none:=λp hpx hp=>by
     cases e:H p with
     | none=>rfl
     | some o=>rw[b2 p o e hpx]at hp;cases hp
    have hrr:Paired (rLs K rInt H') ys xs:=Paired.mapP pr λu yy ⟨p3,g1,g2,g3,g4,g5⟩=>rLs.ints.mpr ⟨p3,g1,SqL.of g5⟩
    have hin:AnsIn K C T H' vh (.ref p1) (.ref D) s S (r.take nw) xs:={
     ask:={
      st:=b4.st ix (λa e z=>hvx (by rw[e,z])) hst
      hw:=rLs.ints.mpr ⟨p1,rfl,SqL.of (b3 _ _ h2p n1)⟩
      hr:=⟨D,ys,rfl,SqL.of hD',hrr⟩
      short:=hshort
      tab:=b4.tab nTx (λc' h z=>by rw[z,hx]at h;cases h) htab }
     non:=hSn
     new:=λp hp=>hSf p (free p hp)
     own:=⟨D,ys,rfl,SqL.of hD',hrr,λv hv=>by
      obtain⟨i,hi⟩:=List.getElem?_of_mem hv
      obtain⟨yy,_,p3,g1,g2,g3,g4,g5⟩:=eh pr hi
      rw[g1]
      exact hSf p3 (free2 p3 g3 g4)⟩ }
    refine⟨_,rfl,_,rfl,_,rfl,_,rfl,vh,.ref p1,.ref D,n,s,S,r.take nw,xs,rfl,hin,b4.rd ix hdA,?_,λs' l' p H4 hs hp kp t4 st4 r4=>?_⟩
    .rw[hsh,hxs,List.length_take,Nat.min_eq_left hnw]
    .exact q s' l' p ki H4 hs (free p hp) hki hkl ht (λz o e h1 h2 h3=>kp z o (b4 z o e h2) h1 h3) (kp x _ hx' nTx.symm hvx) t4 st4 r4
   | cons y td=>
    obtain⟨mm,qq,ys2,hq1,hq2,hq3,hq4⟩:=Bf hrw
    obtain⟨e1,e2⟩:=List.cons.inj hq3
    subst e2
    obtain⟨hz1,hz2,hz3⟩:=Cg hq1
    have hql:qq.length+(ki+1)=l.length:=by rw[<- hz2,List.length_drop];omega
    rw[List.length_cons]at hlen hm
    refine .inr ⟨by show i<((nr:Nat):Int).toNat;omega,_,λH4 z=>⟨td.length,by omega,z⟩,?_⟩
    rintro z H4 ⟨rfl,rfl⟩
    refine⟨rfl,?_⟩
    dsimp only [tYes]
    rw[if_pos rfl]
    refine⟨_,rfl,x,dx,_,rfl,hx',Jm _ _,x,dx,an,l,ki,mm,rfl,⟨hx',sl'⟩,hz1,by omega,λp hp=>?_⟩
    have np:p≠x:=λz=>by rw[z,hx']at hp;cases hp
    have npD:p≠D:=λz=>by rw[z,hD']at hp;cases hp
    have hp2:H2 p=none:=by
     cases e:H2 p with
     | none=>rfl
     | some o=>rw[b3 p o e np]at hp;cases hp
    refine⟨ys,?_,by rw[sizeLine_eq];omega,ki+1+mm,ys++[.ref p],dn++[y],td,?_,?_,rfl,by omega,by omega,?_,?_,?_,ak,?_⟩
    .rw[ay npD.symm]
     show upd _ x _ D=_
     rw[ay nDx]
     exact hD'
    .rw[hdt,List.append_assoc]
     rfl
    .rw[List.length_append]
     show dn.length+1=_
     omega
    .rw[<- List.drop_drop,hz2]
     exact hq4
    .rw[ay nDx.symm,ay np.symm]
     exact ak
    .intro z o e hz
     rw[ay (ba e hD),ay (ba e hp2)]
     show upd _ x _ z=_
     rw[ay hz]
     exact b3 z o e hz
    .refine gg (Paired.mapP pr λu yy hu=>by
      obtain⟨p3,g1,g2,g3,g4,g5⟩:=hu
      refine⟨p3,g1,g2,g3,g4,?_⟩
      rw[ay g2,ay (ba g5 hp)]
      show upd _ x _ p3=_
      rw[ay g3]
      exact g5) ⟨p,rfl,npD,np,hp2,?_⟩
     rw[ay npD,ak,hz2,e1]
end
def l8(r:Except Int (List Int)):Prop:=∀ l,r=.ok l->l.length<=2000
theorem l8.ok{a:List Int}(h:a.length<=2000):l8 (.ok a):=λl e=>by cases e;exact h
theorem l8.err{m:Int}:l8 (.error m):=λn e=>by cases e
theorem l8.bind{α:Type}{a:Except Int α}{f:α->Except Int (List Int)}(g:∀ x,a=.ok x->l8 (f x)):l8 (a>>=f):=by
 cases a with
 | ok x=>exact g x rfl
 | error m=>exact .err
theorem l8.ite{c:Prop}[Decidable c]{a b:Except Int (List Int)}(h:l8 a)(g:l8 b):l8 (if c then a else b):=by
 by_cases q:c
 .rw[if_pos q];exact h
 .rw[if_neg q];exact g
theorem ou{α β:Type}(f:α->List β)(m:Nat):∀ (l:List α),(∀ x∈l,(f x).length<=m)->(l.flatMap f).length<=m*l.length
 | [],_=>Nat.zero_le _
 | x::l,h=>by
  rw[List.flatMap_cons,List.length_append,List.length_cons,Nat.mul_succ]
  have h1:=h x (List.mem_cons_self ..)
  have h2:=ou f m l λy hy=>h y (List.mem_cons_of_mem _ hy)
  omega
theorem ny{cols:Nat}{t:List (List Frac)}(h1:t.length<=13)(h2:∀ r∈t,r.length<=13):l8 (Vagrak.tableTold cols t):=by
 refine .ite .err (.ok ?_)
 have a1:t.flatten.length<=13*t.length:=by
  have:=ou id 13 t h2
  rwa [List.flatMap_id]at this
 have a2:(VagraLine.fracsTold t.flatten).length<=2*t.flatten.length:=ou _ 2 _ λx _=>Nat.le_refl _
 rw[List.length_cons,List.length_cons]
 omega
theorem ox(s:Stt)(hc:CodeOk s.n s.rs s.outs)(side k:Nat):(s.st.colours side k).length<=12/\Vagrak.count (s.st.colours side k)<=13:=by
 have h1:=hc.n12
 have h2:=hc.o12
 have hs:(s.st.side side).2<=12:=by
  unfold Vagrak.State.side
  by_cases h:side=0
  .rw[if_pos h];exact h1
  .rw[if_neg h];exact h2
 have e:s.st.colours side k=Vagrak.coloured (s.st.side side).1 (s.st.side side).2 (Vagrak.order (s.st.side side).1 (s.st.side side).2 k):=rfl
 rw[e]
 refine⟨by rw[qj];exact hs,?_⟩
 refine ut (m:=13) λc hc=>?_
 have:=uw _ _ _ c hc
 omega
theorem Jq(p:Vagrak.Pattern)(all:List Nat)(i:Nat):∀ l,(Vagrak.putMany p all i l).length=l.length+1
 | []=>rfl
 | j::r=>by
  unfold Vagrak.putMany
  split
  .rfl
  .rw[List.length_cons,Jq p all i r,List.length_cons]
theorem Oe(p:Vagrak.Pattern)(n:Nat):(Vagrak.manyFirst p n).length=n:=by
 have key:∀ (l acc:List Nat),(l.foldl (λl i=>Vagrak.putMany p (List.range n) i l) acc).length=acc.length+l.length:=by
  intro l
  induction l with
  | nil=>intro acc;rfl
  | cons a l ih=>
   intro acc
   rw[List.foldl_cons,ih,Jq,List.length_cons]
   omega
 have:=key (List.range n) []
 rw[List.length_range]at this
 unfold Vagrak.manyFirst
 rw[this]
 show 0+n=n
 omega
theorem Fu(p:Vagrak.Pattern):∀ (f:Nat) (l acc:List Nat),(Vagrak.lastFew p f l acc).length<=acc.length+f
 | 0,l,acc=>Nat.le_refl _
 | f+1,l,acc=>by
  unfold Vagrak.lastFew
  split
  .omega
  .have:=Fu p f (l.filter λi=>decide (i≠Vagrak.fewest p l)) (Vagrak.fewest p l::acc)
   rw[List.length_cons]at this
   omega
theorem Nh(p:Vagrak.Pattern)(n k:Nat):(Vagrak.order p n k).length<=n:=by
 unfold Vagrak.order
 split
 .rw[List.length_range];exact Nat.le_refl _
 .split
  .rw[Oe];exact Nat.le_refl _
  .have:=Fu p n (List.range n) []
   rw[List.length_nil]at this
   omega
theorem I0(s:Stt)(hc:CodeOk s.n s.rs s.outs)(side:Nat):(s.st.side side).2<=12:=by
 have h1:=hc.n12
 have h2:=hc.o12
 unfold Vagrak.State.side
 by_cases h:side=0
 .rw[if_pos h];exact h1
 .rw[if_neg h];exact h2
theorem oq(l:List Nat):(Vagrak.listed l).length=l.length+1:=by
 unfold Vagrak.listed
 rw[List.length_cons,List.length_map]
theorem Oh(s:Stt)(hc:CodeOk s.n s.rs s.outs)(c:Vagrak.Call):l8 (s.st.askPattern c):=by
 have h1:=hc.n12
 have h2:=hc.o12
 cases c with
 | pattern=>
  refine .ok ?_
  rw[List.length_cons,List.length_cons]
  have:=ou (λr:List Bool=>Vagrak.listed ((List.range s.n).filter λc=>r.getD c false)) 13 s.st.prog.pattern λx _=>by
   rw[oq]
   have:=List.length_filter_le (λc=>x.getD c false) (List.range s.n)
   rw[List.length_range]at this
   omega
  have e:s.st.prog.pattern.length=s.outs.length:=by
   show(s.outs.map _).length=_
   rw[List.length_map]
  rw[e]at this
  have h3:13*s.outs.length<=156:=by omega
  have h4:(s.st.prog.pattern.flatMap λr=>Vagrak.listed ((List.range s.st.prog.inputs).filter λc=>r.getD c false)).length<=13*s.outs.length:=this
  omega
 | meets k=>
  refine .bind λk _=>.ok ?_
  have hs:=I0 s hc k
  have hp:(Vagrak.pairsOf (s.st.side k).1 (s.st.side k).2).length<=144:=by
   unfold Vagrak.pairsOf
   refine Nat.le_trans (List.length_filter_le _ _) ?_
   have:=ou (λi=>(List.range (s.st.side k).2).map λj=>(i,j)) 12 (List.range (s.st.side k).2) λi _=>by rw[List.length_map,List.length_range];exact hs
   rw[List.length_range]at this
   omega
  rw[List.length_cons]
  have:=ou (λx:Nat×Nat=>[(x.1:Int),(x.2:Int)]) 2 (Vagrak.pairsOf (s.st.side k).1 (s.st.side k).2) λ_ _=>Nat.le_refl _
  omega
 | order side k=>
  refine .bind λside _=>.bind λk _=>.ok ?_
  rw[oq]
  have:=I0 s hc side
  have:=Nh (s.st.side side).1 (s.st.side side).2 k
  omega
 | colours side k=>
  refine .bind λside _=>.bind λk _=>.ok ?_
  rw[List.length_cons,oq]
  have:=(ox s hc side k).1
  omega
 | check side l=>
  refine .bind λside _=>.bind λcs _=>.ok ?_
  split
  .show 1<=2000;decide
  .show 3<=2000;decide
 | least side=>exact .bind λ_ _=>.bind λ_ _=>.ok (by show 1<=2000;decide)
 | plan=>exact .ok (by show 3<=2000;decide)
 | _=>exact .err
theorem Jz(s:Stt):s.st.prog.pattern.length=s.outs.length:=by
 show(s.outs.map _).length=_
 rw[List.length_map]
theorem Br(s:Stt)(hc:CodeOk s.n s.rs s.outs)(vs:List Frac)(cs:List Nat)(h:Vagrak.count cs<=13):(s.st.prog.packed vs cs).length<=13/\∀ r∈s.st.prog.packed vs cs,r.length<=13:=by
 have h2:=hc.o12
 unfold Vagrak.Prog.packed
 dsimp only
 refine⟨?_,λr hr=>?_⟩
 .rw[List.length_map,List.length_range]
  show s.outs.length<=13
  omega
 .obtain⟨i,_,rfl⟩:=List.mem_map.mp hr
  rw[List.length_map,List.length_map,List.length_range]
  exact h
theorem mr(s:Stt)(hc:CodeOk s.n s.rs s.outs)(vs:List Frac)(cs:List Nat)(h:Vagrak.count cs<=13):(s.st.prog.packedRows vs cs).length<=13/\∀ r∈s.st.prog.packedRows vs cs,r.length<=13:=by
 have h1:=hc.n12
 unfold Vagrak.Prog.packedRows
 refine⟨by rw[List.length_map,List.length_range];exact h,λr hr=>?_⟩
 obtain⟨i,_,rfl⟩:=List.mem_map.mp hr
 rw[List.length_map,List.length_range]
 show s.n<=13
 omega
theorem L5(s:Stt)(hc:CodeOk s.n s.rs s.outs)(t:List (List Frac))(cs:List Nat)(h:cs.length<=13):(Vagrak.unpacked s.st.prog.pattern cs t).length<=13/\∀ r∈Vagrak.unpacked s.st.prog.pattern cs t,r.length<=13:=by
 have h2:=hc.o12
 unfold Vagrak.unpacked
 refine⟨by rw[List.length_map,List.length_range,Jz];omega,λr hr=>?_⟩
 obtain⟨i,_,rfl⟩:=List.mem_map.mp hr
 rw[List.length_map,List.length_range]
 exact h
theorem O6(s:Stt)(hc:CodeOk s.n s.rs s.outs)(t:List (List Frac))(cs:List Nat):(Vagrak.unpackedRows s.st.prog.pattern cs s.st.prog.inputs t).length<=13/\∀ r∈Vagrak.unpackedRows s.st.prog.pattern cs s.st.prog.inputs t,r.length<=13:=by
 have h1:=hc.n12
 have h2:=hc.o12
 unfold Vagrak.unpackedRows
 refine⟨by rw[List.length_map,List.length_range,Jz];omega,λr hr=>?_⟩
 obtain⟨i,_,rfl⟩:=List.mem_map.mp hr
 rw[List.length_map,List.length_range]
 show s.n<=13
 omega
theorem Gg(s:Stt)(hc:CodeOk s.n s.rs s.outs)(vs:List Frac):(s.st.prog.dense vs).length<=13/\∀ r∈s.st.prog.dense vs,r.length<=13:=by
 have h1:=hc.n12
 have h2:=hc.o12
 unfold Vagrak.Prog.dense
 refine⟨by rw[List.length_map];show s.outs.length<=13;omega,λr hr=>?_⟩
 obtain⟨i,_,rfl⟩:=List.mem_map.mp hr
 rw[List.length_map,List.length_range]
 show s.n<=13
 omega
theorem Hl{n:Nat}{l:List Int}{cs:List Nat}(h:Vagrak.coloursOf n l=.ok cs):cs.length=n:=by
 unfold Vagrak.coloursOf at h
 split at h
 .next z=>
  cases h
  rw[List.length_map]
  exact z.1
 .cases h
theorem Kp(s:Stt)(hc:CodeOk s.n s.rs s.outs)(c:Vagrak.Call):l8 (s.st.asked c):=by
 have h1:=hc.n12
 cases c with
 | dense=>exact .bind λvs _=>ny (Gg s hc vs).1 (Gg s hc vs).2
 | packed side k=>
  refine .bind λside _=>.bind λk _=>.bind λvs _=>.ite ?_ ?_
  .exact ny (Br s hc vs _ (ox s hc side k).2).1 (Br s hc vs _ (ox s hc side k).2).2
  .exact ny (mr s hc vs _ (ox s hc side k).2).1 (mr s hc vs _ (ox s hc side k).2).2
 | table side k=>
  refine .bind λside _=>.bind λk _=>.bind λvs _=>?_
  have hl:(s.st.colours side k).length<=13:=Nat.le_trans (ox s hc side k).1 (by decide)
  show l8 (Vagrak.tableTold s.st.prog.inputs (if side=0 then Vagrak.unpacked s.st.prog.pattern (s.st.colours side k) (s.st.prog.packed vs (s.st.colours side k)) else Vagrak.unpackedRows s.st.prog.pattern (s.st.colours side k) s.st.prog.inputs (s.st.prog.packedRows vs (s.st.colours side k))))
  by_cases h:side=0
  .rw[if_pos h]
   exact ny (L5 s hc _ _ hl).1 (L5 s hc _ _ hl).2
  .rw[if_neg h]
   exact ny (O6 s hc _ _).1 (O6 s hc _ _).2
 | apart l=>
  refine .bind λcs hcs=>.bind λvs _=>.bind λ_ _=>?_
  have hl:cs.length<=13:=by rw[Hl hcs];show s.n<=13;omega
  exact ny (L5 s hc _ _ hl).1 (L5 s hc _ _ hl).2
 | _ =>
  unfold Vagrak.State.asked
  exact Oh s hc _
theorem Sa(s:Stt)(hc:CodeOk s.n s.rs s.outs)(c:Vagrak.Call)(u:Vagrak.State)(l:List Int)(h:Vagrak.out s.st c=.ok (u,l)):l.length<=2000:=by
 have asks:(s.st.asked c>>=λl=>Except.ok (s.st,l))=Except.ok (u,l)->l.length<=2000:=λh=>by
  cases e:s.st.asked c with
  | error m=>rw[e]at h;cases h
  | ok l2=>
   rw[e]at h
   cases h
   exact Kp s hc c _ e
 cases c with
 | code n li o=>
  have h:(Vagrak.ranged n 0 Vagrak.MOSTINPUTS>>=λk=>(match VagraLine.codeOf li.length li with
   | none=>.error (-2)
   | some c=>Vagrak.refuseIf (decide (Vagrak.MOSTLINES<c.length)) (-7)>>=λ_=>Vagrak.refuseIf (!VagraLine.well k c) (-3)>>=λ_=>Vagrak.outsOf c o>>=λo=>.ok (({ prog:=⟨k,c,o⟩,point:=none }:Vagrak.State),[(c.length:Int)])))=.ok (u,l):=h
  cases e1:Vagrak.ranged n 0 Vagrak.MOSTINPUTS with
  | error m=>rw[e1]at h;cases h
  | ok k=>
   rw[e1]at h
   cases e2:VagraLine.codeOf li.length li with
   | none=>rw[e2]at h;cases h
   | some c=>
    rw[e2]at h
    have h:(Vagrak.refuseIf (decide (Vagrak.MOSTLINES<c.length)) (-7)>>=λ_=>Vagrak.refuseIf (!VagraLine.well k c) (-3)>>=λ_=>Vagrak.outsOf c o>>=λo=>.ok (({ prog:=⟨k,c,o⟩,point:=none }:Vagrak.State),[(c.length:Int)]))=.ok (u,l):=h
    cases e3:Vagrak.refuseIf (decide (Vagrak.MOSTLINES<c.length)) (-7) with
    | error m=>rw[e3]at h;cases h
    | ok _ =>
     rw[e3]at h
     have h:(Vagrak.refuseIf (!VagraLine.well k c) (-3)>>=λ_=>Vagrak.outsOf c o>>=λo=>.ok (({ prog:=⟨k,c,o⟩,point:=none }:Vagrak.State),[(c.length:Int)]))=.ok (u,l):=h
     cases e4:Vagrak.refuseIf (!VagraLine.well k c) (-3) with
     | error m=>rw[e4]at h;cases h
     | ok _ =>
      rw[e4]at h
      have h:(Vagrak.outsOf c o>>=λo=>.ok (({ prog:=⟨k,c,o⟩,point:=none }:Vagrak.State),[(c.length:Int)]))=.ok (u,l):=h
      cases e5:Vagrak.outsOf c o with
      | error m=>rw[e5]at h;cases h
      | ok _ =>
       rw[e5]at h
       cases h
       show 1<=2000
       decide
 | point x=>
  have h:(Vagrak.fracs s.st.prog.inputs x>>=λp=>.ok (({ s.st with point:=some p }:Vagrak.State),(match VagraLine.run (some Vagrae.HEAVY) p s.st.prog.code with
   | .ok _=>[0]
   | .error e=>[1,(e.line:Int),(e.kind:Int)])))=.ok (u,l):=h
  cases e1:Vagrak.fracs s.st.prog.inputs x with
  | error m=>rw[e1]at h;cases h
  | ok p=>
   rw[e1]at h
   cases h
   split
   .show 1<=2000;decide
   .show 3<=2000;decide
 | _=>exact asks h
theorem Og(s:Stt)(hc:CodeOk s.n s.rs s.outs)(c:List (List Int)):(VagrakNeutral.step s.st c).2.length<=2000:=by
 unfold VagrakNeutral.step
 cases VagrakNeutral.callOf c with
 | none=>show 1<=2000;decide
 | some k=>
  show(VagrakNeutral.encode (Vagrak.step s.st k).2).length<=2000
  unfold Vagrak.step
  cases e:Vagrak.out s.st k with
  | error m=>show 1<=2000;decide
  | ok q=>
   obtain⟨u,l⟩:=q
   exact Sa s hc k u l e
theorem Lo{shape:Int->Option (Nat×Nat)}{f:Nat}{cs:List (List (List Int))}(h:PyFlat.calls shape f []=some cs):cs=[]:=by
 unfold PyFlat.calls at h
 cases f <;> cases h <;> rfl
theorem Ho{shape:Int->Option (Nat×Nat)}{f:Nat}{l:List Int}{cs:List (List (List Int))}(h:PyFlat.calls shape f l=some cs)(hl:l≠[]):∃ f' c t r,PyFlat.call shape l=some (c,t)/\PyFlat.calls shape f' t=some r/\cs=c::r:=by
 cases l with
 | nil=>exact absurd rfl hl
 | cons p r=>
  cases f with
  | zero=>unfold PyFlat.calls at h;cases h
  | succ f=>
   unfold PyFlat.calls at h
   cases e:PyFlat.call shape (p::r) with
   | none=>rw[e]at h;cases h
   | some q=>
    obtain⟨c,t⟩:=q
    rw[e]at h
    dsimp only at h
    cases e2:PyFlat.calls shape f t with
    | none=>rw[e2]at h;cases h
    | some r2=>
     rw[e2]at h
     cases h
     exact⟨f,c,t,r2,rfl,e2,rfl⟩
theorem Mp{p:Int}{a:List Int}{xs:List (List Int)}(hs:PyVagrak.shape p=some (a.length,xs.length))(h:VagrakNeutral.asked1 ((p::a)::xs)=true):∀ r∈xs,r.length<=400:=by
 have nil:∀ {ys:List (List Int)},ys.length=0->∀ r∈ys,r.length<=400:=λ{ys} h r hr=>by
  rw[List.length_eq_zero_iff.mp h]at hr
  cases hr
 rcases i5 hs with ⟨rfl,h1,h2⟩|⟨rfl,h1,h2⟩|⟨rfl,h1,h2⟩|⟨rfl,h1,h2⟩|⟨rfl,h1,h2⟩|⟨rfl,h1,h2⟩|⟨rfl,h1,h2⟩|⟨rfl,h1,h2⟩|⟨rfl,h1,h2⟩|⟨rfl,h1,h2⟩|⟨rfl,h1,h2⟩|⟨rfl,h1,h2⟩|⟨rfl,h1,h2⟩
 case inl=>
  match a,xs,h1,h2 with
  | [x],[l,m],_,_ =>
   have h:(VagrakNeutral.whole60 x&&((l.all (λ(z:Int)=>VagrakNeutral.whole60 z)&&decide (l.length<=400))&&(m.all (λ(z:Int)=>VagrakNeutral.whole60 z)&&decide (m.length<=100))))=true:=h
   rw[Bool.and_eq_true,Bool.and_eq_true,Bool.and_eq_true,Bool.and_eq_true]at h
   have b1:=of_decide_eq_true h.2.1.2
   have b2:=of_decide_eq_true h.2.2.2
   intro r hr
   rcases List.mem_cons.mp hr with z|hr
   .rw[z];exact b1
   .rcases List.mem_cons.mp hr with z|hr
    .rw[z];omega
    .cases hr
 case inr.inl=>
  match a,xs,h1,h2 with
  | [],[l],_,_ =>
   have h:(l.all (λ(z:Int)=>VagrakNeutral.whole60 z)&&decide (l.length<=100))=true:=h
   rw[Bool.and_eq_true]at h
   have b1:=of_decide_eq_true h.2
   intro r hr
   rcases List.mem_cons.mp hr with z|hr
   .rw[z];omega
   .cases hr
 case inr.inr.inr.inr.inr.inr.inl=>
  match a,xs,h1,h2 with
  | [x],[l],_,_ =>
   have h:(VagrakNeutral.whole60 x&&(l.all (λ(z:Int)=>VagrakNeutral.whole60 z)&&decide (l.length<=100)))=true:=h
   rw[Bool.and_eq_true,Bool.and_eq_true]at h
   have b1:=of_decide_eq_true h.2.2
   intro r hr
   rcases List.mem_cons.mp hr with z|hr
   .rw[z];omega
   .cases hr
 case inr.inr.inr.inr.inr.inr.inr.inr.inr.inr.inr.inr=>
  match a,xs,h1,h2 with
  | [],[l],_,_ =>
   have h:(l.all (λ(z:Int)=>VagrakNeutral.whole60 z)&&decide (l.length<=100))=true:=h
   rw[Bool.and_eq_true]at h
   have b1:=of_decide_eq_true h.2
   intro r hr
   rcases List.mem_cons.mp hr with z|hr
   .rw[z];omega
   .cases hr
 all_goals exact nil h2
theorem i13{P:Int->Prop}(a:P 0)(b:P 1)(c:P 2)(d:P 3)(e:P 4)(f:P 5)(g:P 6)(h:P 7)(i:P 8)(j:P 9)(k:P 10)(l:P 11)(m:P 12)(o:∀ n:Nat,P ((n+13:Nat):Int))(q:∀ n,P (.negSucc n)):∀ x,P x
 | .negSucc n=>q n
 | .ofNat 0=>a
 | .ofNat 1=>b
 | .ofNat 2=>c
 | .ofNat 3=>d
 | .ofNat 4=>e
 | .ofNat 5=>f
 | .ofNat 6=>g
 | .ofNat 7=>h
 | .ofNat 8=>i
 | .ofNat 9=>j
 | .ofNat 10=>k
 | .ofNat 11=>l
 | .ofNat 12=>m
 | .ofNat (n+13)=>o n
theorem L4(c:List (List Int)):PyVagrak.whole c=c:=by
 rcases c with _|⟨_|⟨x,_|⟨_,_|⟨_,_|⟨_,_⟩⟩⟩⟩,_|⟨_,_|⟨_,_|⟨_,_⟩⟩⟩⟩ <;> try rfl
 all_goals revert x;apply i13 <;> intros <;> rfl
theorem O0{l:List Int}(h:PyVagrak.answers_asked l=true):∃ cs,PyFlat.calls PyVagrak.shape l.length l=some cs/\cs.length<=400/\(∀ c∈cs,VagrakNeutral.asked1 c=true)/\PyVagrak.answers l=PyFlat.told (PyFlat.played VagrakNeutral.step VagrakNeutral.start cs):=by
 unfold PyVagrak.answers_asked PyVagrak.calls at h
 unfold PyVagrak.answers PyVagrak.calls
 cases e:PyFlat.calls PyVagrak.shape l.length l with
 | none=>rw[e]at h;cases h
 | some cs=>
  rw[e]at h
  have em:cs.map PyVagrak.whole=cs:=by
   rw[List.map_congr_left (g:=id) λc _=>L4 c,List.map_id]
  dsimp only at h ⊢
  rw[em]at h ⊢
  rw[Bool.and_eq_true]at h
  have h2:=h.2
  unfold VagrakNeutral.asked at h2
  rw[Bool.and_eq_true]at h2
  exact⟨cs,rfl,of_decide_eq_true h.1,List.all_eq_true.mp h2.1,rfl⟩
section
variable{P:Program}{w:World}{K:W.Frag}{mg:Str->Option Value}{base:Heap}{T C R:Addr}{er:Int->Addr}{dA dS:Addr}{kvs kvS:List (Key×V)}
theorem StAt.av{H H':Hp}{vh:V}{s:Stt}{pt:Addr}{ys:List V}(hp:H pt=some (.lst ys))(b:Sb pt H H')(h:StAt K C H vh s (λv=>v≠.ref pt)):StAt K C H' vh s (λv=>v≠.ref pt):=by
 obtain⟨a,dx,vl,vo,vp,h1,h2,h3,h4,h5,h6,n1,n2,n3⟩:=h
 refine⟨a,dx,vl,vo,vp,h1,b _ _ h2 (d7 h2 hp (by intro z;cases z)),rLs.av (rTp.avT rInt.avT) _ _ _ _ _ _ hp b n1 h3,rLs.av rNat.avT _ _ _ _ _ _ hp b n2 h4,?_,h6,n1,n2,n3⟩
 cases hpt:s.pt with
 | none=>
  rw[hpt]at h5
  exact h5
 | some pts=>
  rw[hpt]at h5
  exact⟨rLs.av rFr.avT _ _ _ _ _ _ hp b n3 h5.1,h5.2⟩
def jp(K:W.Frag)(T dA dS:Addr)(kvs kvS:List (Key×V)):Sp:=λvs H Q _=>∃ (an:Addr) (l:List Int),vs=[.ref an]/\SqL K H an (l.map V.int)/\TabO T H/\Rd H dA (.dK kvs)/\Rd H dS (.dK kvS)/\PyVagrak.answers_asked l=true /\
 ∀ p H',H p=none->(∀ b o,H b=some o->b≠T->H' b=some o)->TabO T H'->H' p=some (.lst ((PyVagrak.answers l).map V.int))->Q (.ref p) H'
theorem io:FnScope ["calls","held","reader","told","answer"] ["calls"] (au d_answers):=by trivial
theorem G5(B:Blt mg)(hC:HCls K C)(hR:RCls K R)(mC:mg "Held"=some (.ref C))(mR:mg "Reader"=some (.ref R))(HI:In P w K mg base CX0 1 C ["self"] (Dd C))(RI:In P w K mg base CX0 1 R ["self","numbers"] (Da R))(AE:Mn P w K mg base CX0 1 R "at_end" ["self"] (Dg K R))
  (AN:Fn P w K mg base (CXE P w) 55 "answer_next" ["held","reader"] (Iq K C R T dA dS kvs kvS)) (D:Df K mg "answers" d_answers ["calls"]) :
  Fn P w K mg base (CXE P w) 56 "answers" ["calls"] (jp K T dA dS kvs kvS):=by
 refine D.okE io (λvs H Q E h=>?_) (λf cdv A outer s0 H vs Q E hr h=>?_)
 .obtain⟨an,l,rfl,_⟩:=h
  rfl
 .obtain⟨an,l,rfl,sl,htab,hdA,hdS,hask,q⟩:=h
  obtain⟨cs,hcs,hlen,hone,hans⟩:=O0 hask
  refine⟨_,af (bg (i:=1) io.nd rfl (Or.inl rfl) (Tl HI (hr.mono (by decide)) rfl mC bo))
   (af (bg (i:=2) io.nd rfl (Or.inl rfl) (Vd RI (hr.mono (by decide)) rfl mR bo (aa (pv 0) aj)))
   (af (bg (i:=3) io.nd rfl (Or.inl rfl) (cu aj))
   (af (ka m9 (kq (gm (tz AE hR.cl (hr.mono (by decide)) bo (pv 2))))
    (af (bg (i:=4) io.nd rfl (Or.inl rfl) (bh AN (hr.mono (by decide)) rfl bw (aa (pv 1) (aa (pv 2) aj))))
    (af (cf (ju PySem.F.plainAttrs_list PySem.F.slot_list_append PySem.F.type_list_append d8 (pv 3) (aa (bj be rfl B.len PySem.boot_len (aa (pv 4) aj)) aj)))
    (aq (cf (ju PySem.F.plainAttrs_list PySem.F.slot_list_extend PySem.F.type_list_extend uc (pv 3) (aa (pv 4) aj)))))))
   (aq (az (pv 3)))))),?_⟩
  intro h dh hh0 hdh0 ndh
  refine⟨h,dh,rfl,ak,λpl po H1 npl npo hpl hpo kp1 h1h h1l h1o=>⟨rfl,?_⟩⟩
  have same1:Same H H1:=λb o e=>kp1 b o (by rw[ay (ba e hh0),ay (ba e hdh0)];exact e) (ba e hh0)
  refine⟨_,rfl,λx dx hx0 hdx0 ndx=>⟨x,dx,.ref an,rfl,ak,rfl,?_⟩⟩
  rw[jm]
  generalize hH2:upd (upd H1 dx (.own x)) x (.ins R dx (ie (.ref an) (.int 0)))=H2
  have same2:Same H1 H2:=λb o e=>by
   rw[<- hH2,ay (ba e hx0),ay (ba e hdx0)]
   exact e
  have same3:=same1.trans same2
  have h2x:H2 x=some (.ins R dx (ie (.ref an) (.int ((0:Nat):Int)))):=by rw[<- hH2];exact ak
  have h2h:=same2 _ _ h1h
  obtain⟨ps,hps⟩:=htab.at_
  have h2T:=same3 _ _ hps
  have nhx:h≠x:=λz=>by rw[z]at h1h;rw[h1h]at hx0;cases hx0
  refine⟨(by show 0<=sizeLine;decide),λpt hpt=>?_⟩
  have ixE:Ix (λb=>b=T\/b=h\/b=x) H2:=⟨λb o e1 e2=>by
   rcases e1 with z|z|z
   .rw[z,h2T]at e2
    cases e2
    exact⟨⟨λ_ z=>(by cases z),λ_ z=>(by cases z),λ_ _ z=>(by cases z)⟩,λ_ z=>(by cases z)⟩
   .rw[z,h2h]at e2
    cases e2
    exact⟨jl.ins,λ_ z=>(by cases z)⟩
   .rw[z,h2x]at e2
    cases e2
    exact⟨jl.ins,λ_ z=>(by cases z)⟩⟩
  have npth:pt≠h:=λz=>by rw[z,h2h]at hpt;cases hpt
  have nptx:pt≠x:=λz=>by rw[z,h2x]at hpt;cases hpt
  have nptT:pt≠T:=λz=>by rw[z,h2T]at hpt;cases hpt
  have hpt0:H pt=none:=same3.free hpt
  have sl2:SqL K H2 an (l.map V.int):=same3.seq sl
  have rd2:∀ {a:Addr} {u:List (Key×V)},Rd H a (.dK u)->Rd H2 a (.dK u):=λ{a u} z=>by
   rcases z with z|⟨ob,z⟩
   .exact .inl (same3 _ _ z)
   .exact .inr ⟨ob,same3 _ _ z⟩
  obtain⟨W,hW⟩:∃ W:Nat->L2.St->Hp->Prop,W=λm Z H'=>∃ (k f:Nat) (s:Stt) (v4:Option V) (dn:List Int) (rest:List (List (List Int))),Z=[some (.ref an),some (.ref h),some (.ref x),some (.ref pt),v4]/\m=l.length - k/\k<=l.length/\PyFlat.calls PyVagrak.shape f (l.drop k)=some rest/\(∀ c∈rest,VagrakNeutral.asked1 c=true) /\
   rest.length<=400/\dn.length<=2001*(400 - rest.length)/\PyVagrak.answers l=dn++PyFlat.told (PyFlat.played VagrakNeutral.step s.st rest)/\H' pt=some (.lst (dn.map V.int))/\H' x=some (.ins R dx (ie (.ref an) (.int (k:Nat))))/\Bar (λb=>b=T\/b=h\/b=x) H2 H'/\TabO T H'/\StAt K C H' (.ref h) s (λv=>v≠.ref pt):=⟨_,rfl⟩
  refine⟨W,?_,?_⟩
  .rw[hW]
   refine⟨l.length,0,l.length,⟨0,[],[],none⟩,none,[],cs,rfl,rfl,Nat.zero_le _,hcs,hone,hlen,Nat.zero_le _,hans,ak,?_,?_,?_,?_⟩
   .rw[ay nptx.symm]
    exact h2x
   .intro b o e _
    rw[ay (ba e hpt)]
    exact e
   .exact Tab.same (same3.trans (.new hpt)) htab
   .have nl:pl≠pt:=λz=>by rw[z]at h1l;rw[same2 _ _ h1l]at hpt;cases hpt
    have no:po≠pt:=λz=>by rw[z]at h1o;rw[same2 _ _ h1o]at hpt;cases hpt
    refine⟨h,dh,.ref pl,.ref po,.non,rfl,?_,⟨pl,[],rfl,SqL.of ?_,.nil⟩,⟨po,[],rfl,SqL.of ?_,.nil⟩,?_,?_,(λz=>nl (by cases z;rfl)),(λz=>no (by cases z;rfl)),(λz=>by cases z)⟩
    .rw[ay npth.symm]
     exact h2h
    .rw[ay nl]
     exact same2 _ _ h1l
    .rw[ay no]
     exact same2 _ _ h1o
    .exact rfl
    .exact⟨λa ha=>(by cases ha),rfl,Nat.zero_le _,Nat.zero_le _,λa ha=>(by cases ha),Nat.zero_le _⟩
  .intro m Z H' hw
   rw[hW]at hw
   obtain⟨k,f,s,v4,dn,rest,rfl,rfl,hk,hrest,hask2,hr4,hdn,htold,hpt',hx',bar,tab',st'⟩:=hw
   have sl':=bar.sqL ixE sl2
   refine⟨_,rfl,x,dx,_,rfl,hx',Jn _ _,x,dx,an,l,k,rfl,⟨hx',sl'⟩,_,rfl,?_⟩
   by_cases hend:l.length<=k
   .rw[decide_eq_true hend]
    refine iteF ?_
    have e0:l.drop k=[]:=List.drop_eq_nil_of_le hend
    rw[e0]at hrest
    have:=Lo hrest
    subst this
    have e1:PyVagrak.answers l=dn:=by
     rw[htold]
     show dn++[]=dn
     rw[List.append_nil]
    refine⟨_,rfl,q pt H' hpt0 (λb o e hb=>?_) tab' (by rw[e1];exact hpt')⟩
    refine bar b o (same3 _ _ e) λz=>?_
    rcases z with z|z|z
    .exact hb z
    .exact ba e hh0 z
    .exact ba (same1 _ _ e) hx0 z
   .rw[decide_eq_false hend]
    refine iteT ?_
    have hne:l.drop k≠[]:=λz=>by
     have:=congrArg List.length z
     rw[List.length_drop,List.length_nil]at this
     omega
    obtain⟨f',c,t,r,hc1,hc2,rfl⟩:=Ho hrest hne
    obtain⟨pn,rr,nw,nr,xs,_,hsh,hnw,hrw,rfl⟩:=yq hc1
    have hsc:∀ y∈xs,y.length<=400:=by
     refine Mp (p:=pn) (a:=rr.take nw) ?_ (hask2 _ (List.mem_cons_self ..))
     rw[hsh,zy hrw,List.length_take,Nat.min_eq_left hnw]
    rw[List.length_cons]at hr4 hdn
    have hcode:=st'
    obtain⟨_,_,_,_,_,_,_,_,_,_,hcodeok,_⟩:=hcode
    have hlen2:=Og s hcodeok ((pn::rr.take nw)::xs)
    refine⟨λZ' H''=>∃ m',m'<l.length - k/\W m' Z' H'',λZ' H'' z=>z,_,rfl,_,rfl,.ref h,x,dx,an,l,k,s,λv=>v≠.ref pt,_,t,rfl,st',(λz=>by cases z),(λp hp z=>by cases z;rw[hpt']at hp;cases hp),tab',⟨hx',sl'⟩,(λz=>nhx (by cases z;rfl)),bar.rd ixE (rd2 hdA),bar.rd ixE (rd2 hdS),hc1,hsc,λs' ans p k2 H4 hs hp hk2 hkl hdrop kp hx4 tab4 st4 r4=>?_⟩
    rw[hs]at hlen2
    have hlen2:ans.length<=2000:=hlen2
    have npp:p≠pt:=λz=>by rw[z,hpt']at hp;cases hp
    have hpt4:H4 pt=some (.lst (dn.map V.int)):=kp pt _ hpt' nptT nptx (λz=>npth (by cases z;rfl))
    obtain⟨p2,xa,e2,hxa,pra⟩:=r4
    cases e2
    have exa:xa=ans.map V.int:=by
     have:∀ {xs:List V} {l:List Int},Paired (rInt H4) xs l->xs=l.map V.int:=λ{xs l} h=>by
      induction h with
      | nil=>rfl
      | cons r _ ih=>rw[ih,List.map_cons];congr
     exact this pra
    subst exa
    refine⟨_,rfl,.inl ⟨rfl,_,SqL.of hpt4⟩,_,rfl,p,_,rfl,.inl (SqL.of hxa),pt,_,_,rfl,rfl,hpt4,(by rw[List.length_map,sizeLine_eq];omega),?_⟩
    refine⟨_,rfl,.inl ⟨rfl,_,SqL.of ak⟩,_,rfl,pt,p,_,_,rfl,rfl,ak,(by rw[ay npp];exact hxa),(by rw[List.length_append,List.length_map,List.length_map,sizeLine_eq];show dn.length+1+_<=_;omega),?_⟩
    rw[jm]
    refine⟨l.length - k2,by omega,?_⟩
    rw[hW]
    have sbp:∀ o,Sb pt H4 (upd H4 pt o):=λo=>Sb.upd
    refine⟨k2,f',s',some (.ref p),dn++((ans.length:Int)::ans),r,rfl,rfl,hkl,?_,λc hc=>hask2 c (List.mem_cons_of_mem _ hc),by omega,?_,?_,?_,?_,?_,Tab.sb2 hpt4 (sbp _) tab4,StAt.av hpt4 (sbp _) st4⟩
    .rw[hdrop]
     exact hc2
    .rw[List.length_append,List.length_cons]
     omega
    .rw[htold,List.append_assoc]
     show dn++PyFlat.told ((VagrakNeutral.step s.st _).2::PyFlat.played VagrakNeutral.step (VagrakNeutral.step s.st _).1 r)=_
     rw[hs]
     rfl
    .rw[ak,List.length_map,List.map_append,List.append_assoc]
     rfl
    .rw[ay nptx.symm]
     exact hx4
    .intro b o e hb
     rw[ay (ba e hpt)]
     have nb1:b≠T:=λz=>hb (.inl z)
     have nb2:b≠h:=λz=>hb (.inr (.inl z))
     have nb3:b≠x:=λz=>hb (.inr (.inr z))
     exact kp b o (bar b o e hb) nb1 nb3 (λz=>nb2 (by cases z;rfl))
end
end Sp
end
section
namespace Sp
open PySem PySem.Spec PyProof.Rows L2
section
variable{P:Program}{w:World}{K:W.Frag}{mg:Str->Option Value}{base:Heap}{T C R:Addr}{er:Int->Addr}{dA dS:Addr}{kvs kvS:List (Key×V)}
structure Texts(K:W.Frag)(mg:Str->Option Value)(base:Heap)(T C R:Addr):Prop where
 d_common_divisor:Df K mg "common_divisor" d_common_divisor ["first","second"]
 d_lowest_terms:Df K mg "lowest_terms" d_lowest_terms ["top","bottom"]
 d_plus:Df K mg "plus" d_plus ["first","second"]
 d_opposite:Df K mg "opposite" d_opposite ["fraction"]
 d_minus:Df K mg "minus" d_minus ["first","second"]
 d_times:Df K mg "times" d_times ["first","second"]
 d_turned_over:Df K mg "turned_over" d_turned_over ["fraction"]
 d_over:Df K mg "over" d_over ["first","second"]
 d_weight:Df K mg "weight" d_weight ["fraction"]
 d_read_fractions:Df K mg "read_fractions" d_read_fractions ["numbers","how_many"]
 d_well_formed:Df K mg "well_formed" d_well_formed ["line"]
 d_line_at:Df K mg "line_at" d_line_at ["numbers","place"]
 d_split_lines:Df K mg "split_lines" d_split_lines ["numbers"]
 d_parts:Df K mg "parts" d_parts ["line"]
 d_uses_are_there:Df K mg "uses_are_there" d_uses_are_there ["lines","inputs"]
 d_line_hangs:Df K mg "line_hangs" d_line_hangs ["line","column","hangs"]
 d_hanging:Df K mg "hanging" d_hanging ["inputs","lines"]
 d_pattern_rows:Df K mg "pattern_rows" d_pattern_rows ["inputs","lines","outs"]
 d_entry_columns:Df K mg "entry_columns" d_entry_columns ["row"]
 d_joined:Df K mg "joined" d_joined ["kind","first","second"]
 d_divides_by_zero:Df K mg "divides_by_zero" d_divides_by_zero ["line","values"]
 d_line_value:Df K mg "line_value" d_line_value ["line","values","point"]
 d_run:Df K mg "run" d_run ["lines","point"]
 d_share_entry:Df K mg "share_entry" d_share_entry ["first","second"]
 d_columns_met:Df K mg "columns_met" d_columns_met ["entries","column"]
 d_meeting_columns:Df K mg "meeting_columns" d_meeting_columns ["entries"]
 d_side_entries:Df K mg "side_entries" d_side_entries ["pattern","inputs","side"]
 d_meeting_pairs:Df K mg "meeting_pairs" d_meeting_pairs ["met"]
 d_fewest_met:Df K mg "fewest_met" d_fewest_met ["met","left"]
 d_taken_away_order:Df K mg "taken_away_order" d_taken_away_order ["met"]
 d_ordered_columns:DfL K mg base "ordered_columns" d_ordered_columns ["met","order"] T
 d_least_other:Df K mg "least_other" d_least_other ["colours"]
 d_colour_count:Df K mg "colour_count" d_colour_count ["colours"]
 d_told_colours:Df K mg "told_colours" d_told_colours ["met","order"]
 d_first_clash:Df K mg "first_clash" d_first_clash ["met","colours"]
 d_can_be_coloured:Df K mg "can_be_coloured" d_can_be_coloured ["met","begun","count"]
 d_fewest_colours:Df K mg "fewest_colours" d_fewest_colours ["met"]
 d_product_change:Df K mg "product_change" d_product_change ["line","values","changes"]
 d_quotient_change:Df K mg "quotient_change" d_quotient_change ["line","values","changes"]
 d_line_change:Df K mg "line_change" d_line_change ["line","values","changes","direction"]
 d_line_changes:Df K mg "line_changes" d_line_changes ["lines","values","direction"]
 d_colour_direction:Df K mg "colour_direction" d_colour_direction ["colours","moved"]
 d_colour_directions:Df K mg "colour_directions" d_colour_directions ["colours"]
 d_out_changes:Df K mg "out_changes" d_out_changes ["held","values","direction"]
 d_packed_by_columns:Df K mg "packed_by_columns" d_packed_by_columns ["held","values","colours"]
 d_whole_table:Df K mg "whole_table" d_whole_table ["held","values"]
 d_sum_of_rows:Df K mg "sum_of_rows" d_sum_of_rows ["rows","how_many_columns"]
 d_packed_by_rows:Df K mg "packed_by_rows" d_packed_by_rows ["held","values","colours"]
 d_packed_table:Df K mg "packed_table" d_packed_table ["held","values","side","colours"]
 d_told_apart:Df K mg "told_apart" d_told_apart ["entries","packed","side","colours"]
 d_within:Df K mg "within" d_within ["number","least","greatest"]
 d_need_side:Df K mg "need_side" d_need_side ["side"]
 d_need_order:Df K mg "need_order" d_need_order ["order"]
 d_need_outs:Df K mg "need_outs" d_need_outs ["outs","how_many_lines"]
 d_need_colours:Df K mg "need_colours" d_need_colours ["colours","how_many_columns"]
 d_need_values:Df K mg "need_values" d_need_values ["held"]
 d_tell_table:Df K mg "tell_table" d_tell_table ["table","how_many_columns"]
 d_Held_pattern:Dm K C "pattern" "Held.pattern" d_Held_pattern ["self"]
 d_Held_columns_met:Dm K C "columns_met" "Held.columns_met" d_Held_columns_met ["self","side"]
 d_answer_pattern:Df K mg "answer_pattern" d_answer_pattern ["held","wholes","rows"]
 d_answer_meets:Df K mg "answer_meets" d_answer_meets ["held","wholes","rows"]
 d_answer_order:Df K mg "answer_order" d_answer_order ["held","wholes","rows"]
 d_answer_colours:Df K mg "answer_colours" d_answer_colours ["held","wholes","rows"]
 d_answer_check:Df K mg "answer_check" d_answer_check ["held","wholes","rows"]
 d_answer_least:Df K mg "answer_least" d_answer_least ["held","wholes","rows"]
 d_answer_plan:Df K mg "answer_plan" d_answer_plan ["held","wholes","rows"]
 d_answer_dense:Df K mg "answer_dense" d_answer_dense ["held","wholes","rows"]
 d_tell_packed_apart:Df K mg "tell_packed_apart" d_tell_packed_apart ["held","values","side","colours"]
 d_answer_packed:Df K mg "answer_packed" d_answer_packed ["held","wholes","rows"]
 d_answer_table:Df K mg "answer_table" d_answer_table ["held","wholes","rows"]
 d_answer_apart:Df K mg "answer_apart" d_answer_apart ["held","wholes","rows"]
 d_Held_init:Di K C "Held.__init__" d_Held_init ["self"]
 d_Held_take_program:Dm K C "take_program" "Held.take_program" d_Held_take_program ["self","inputs","lines","outs"]
 d_Held_take_point:Dm K C "take_point" "Held.take_point" d_Held_take_point ["self","point"]
 d_answer_code:Df K mg "answer_code" d_answer_code ["held","wholes","rows"]
 d_answer_point:Df K mg "answer_point" d_answer_point ["held","wholes","rows"]
 d_answer_call:Df K mg "answer_call" d_answer_call ["held","number","wholes","rows"]
 d_Reader_init:Di K R "Reader.__init__" d_Reader_init ["self","numbers"]
 d_Reader_at_end:Dm K R "at_end" "Reader.at_end" d_Reader_at_end ["self"]
 d_Reader_take_number:Dm K R "take_number" "Reader.take_number" d_Reader_take_number ["self"]
 d_Reader_take_numbers:Dm K R "take_numbers" "Reader.take_numbers" d_Reader_take_numbers ["self","how_many"]
 d_Reader_take_row:Dm K R "take_row" "Reader.take_row" d_Reader_take_row ["self"]
 d_answer_next:Df K mg "answer_next" d_answer_next ["held","reader"]
 d_answers:Df K mg "answers" d_answers ["calls"]
def u5:List Str:=["answer_code","answer_point","answer_pattern","answer_meets","answer_order","answer_colours","answer_check","answer_least","answer_plan","answer_dense","answer_packed","answer_table","answer_apart"]
def KvOf(mg:Str->Option Value)(kvs:List (Key×V)):Prop:=∀ (i:Nat) (x:Str),u5[i]? = some x->∃ f,mg x=some (.ref f)/\valV kvs (.inl (i:Int))=some (.ref f)
theorem iw{n:Int}{nw nr:Nat}{x:Str}{call:List Int->List (List Int)->Vagrak.Call}(hk:∃ f,mg x=some (.ref f)/\valV kvs (.inl n)=some (.ref f))(F:Fn P w K mg base (CXE P w) 53 x ["held","wholes","rows"] (ik K C T er nw nr call))
  (hc:∀ ws rows,ws.length=nw->rows.length=nr->VagrakNeutral.callOf ((n::ws)::rows)=some (call ws rows)):∃ v,valV kvs (.inl n)=some v/\Arm P w K mg base C T er n nw nr v:=by
 obtain⟨f,h1,h2⟩:=hk
 obtain⟨g,fd,G,h3,h4,h5⟩:=F
 have e:f=g:=by
  rw[h1]at h3
  cases h3
  rfl
 subst e
 exact⟨_,h2,f,fd,call,rfl,G,h4,h5,hc⟩
theorem U3(B:Blt mg)(c0:Calm0 P base)(Kd:Kinds mg)(nb:Nb K mg)(Cf:Faults mg)(hno:Gc mg "NO_COLOUR" (-1))(hN:Gf K mg "NOUGHT" Vagraa.zero)(hO:Gf K mg "ONE" Vagraa.one)(hC:HCls K C)(hR:RCls K R)(X:Errs K mg er)(Cb:Bounds mg)
  (mA:mg "ANSWERING"=some (.ref dA)) (mS:mg "SHAPES"=some (.ref dS)) (mC:mg "Held"=some (.ref C)) (mR:mg "Reader"=some (.ref R)) (SH:L3 K kvS) (hkv:KvOf mg kvs) (t:Texts K mg base T C R) :
  Fn P w K mg base (CXE P w) 56 "answers" ["calls"] (jp K T dA dS kvs kvS):=by
 have f_gcd:Fn P w K mg base CX0 1 "common_divisor" ["first","second"] Mm:=T3 t.d_common_divisor
 have f_low:Fn P w K mg base CX0 41 "lowest_terms" ["top","bottom"] Ir:=T2 B c0 f_gcd t.d_lowest_terms
 have f_plus:Fn P w K mg base CX0 42 "plus" ["first","second"] (g7 K CFr Vagraa.add):=Rl B c0 f_gcd t.d_plus
 have f_opp:Fn P w K mg base CX0 1 "opposite" ["fraction"] (Ip K):=T0 t.d_opposite
 have f_minus:Fn P w K mg base CX0 43 "minus" ["first","second"] (g7 K CFr Vagraa.sub):=Nw f_plus f_opp t.d_minus
 have f_times:Fn P w K mg base CX0 42 "times" ["first","second"] (g7 K CFr Vagraa.mul):=Nk f_low t.d_times
 have f_turn:Fn P w K mg base CX0 1 "turned_over" ["fraction"] (Ij K):=Re t.d_turned_over
 have f_over:Fn P w K mg base CX0 43 "over" ["first","second"] (g7 K CFrD Vagraa.div):=Rm f_times f_turn t.d_over
 have f_weight:Fn P w K mg base CX0 1 "weight" ["fraction"] (qx K):=J4 B t.d_weight
 have f_read:Fn P w K mg base (CXE P w) 42 "read_fractions" ["numbers","how_many"] (Il K (er (-2))):=Ri B X.e2 f_low t.d_read_fractions
 have f_wf:Fn P w K mg base CX0 1 "well_formed" ["line"] (spWf K):=Vf B Kd t.d_well_formed
 have f_lineAt:Fn P w K mg base (CXE P w) 2 "line_at" ["numbers","place"] (ze K (er (-2))):=J8 B Kd nb X.e2 f_wf t.d_line_at
 have f_split:Fn P w K mg base (CXE P w) 3 "split_lines" ["numbers"] (C8 K (er (-2))):=Nn B f_lineAt t.d_split_lines
 have f_parts:Fn P w K mg base CX0 1 "parts" ["line"] (y8 K):=Nq Kd t.d_parts
 have f_uses:Fn P w K mg base CX0 2 "uses_are_there" ["lines","inputs"] (Ii K):=Rc B Kd f_parts t.d_uses_are_there
 have f_hangs:Fn P w K mg base CX0 2 "line_hangs" ["line","column","hangs"] (Dc K):=N1 B Kd f_parts t.d_line_hangs
 have f_hanging:Fn P w K mg base CX0 3 "hanging" ["inputs","lines"] (sk K):=G1 B f_hangs t.d_hanging
 have f_pat:Fn P w K mg base CX0 4 "pattern_rows" ["inputs","lines","outs"] (Qe K):=Ty f_hanging t.d_pattern_rows
 have f_entry:Fn P w K mg base CX0 1 "entry_columns" ["row"] (De K):=N3 B t.d_entry_columns
 have f_joined:Fn P w K mg base CX0 44 "joined" ["kind","first","second"] (zf K):=J9 Kd f_plus f_minus f_times f_over t.d_joined
 have f_divz:Fn P w K mg base CX0 1 "divides_by_zero" ["line","values"] (Iu K):=Rs Kd t.d_divides_by_zero
 have f_val:Fn P w K mg base CX0 45 "line_value" ["line","values","point"] (Qb K):=Tp Kd f_low f_opp f_joined t.d_line_value
 have f_run:Fn P w K mg base CX0 46 "run" ["lines","point"] (Mj K):=Ts Cf f_divz f_val f_weight t.d_run
 have f_share:Fn P w K mg base CX0 1 "share_entry" ["first","second"] (C9 K):=No B t.d_share_entry
 have f_metRow:Fn P w K mg base CX0 2 "columns_met" ["entries","column"] (zd K):=J7 B f_share t.d_columns_met
 have f_met:Fn P w K mg base CX0 3 "meeting_columns" ["entries"] (Qh K):=T1 B f_metRow t.d_meeting_columns
 have f_entries:Fn P w K mg base CX0 1 "side_entries" ["pattern","inputs","side"] (sq K):=G3 B Cb.row t.d_side_entries
 have f_pairs:Fn P w K mg base CX0 1 "meeting_pairs" ["met"] (y9 K):=Nr B t.d_meeting_pairs
 have f_few:Fn P w K mg base CX0 1 "fewest_met" ["met","left"] (Qi K):=T4 B t.d_fewest_met
 have f_taken:Fn P w K mg base CX0 2 "taken_away_order" ["met"] (C5 K):=Nm B f_few t.d_taken_away_order
 have f_order:Fn P w K mg base CX0 3 "ordered_columns" ["met","order"] (zc K T):=Nt B Cb.ord f_taken t.d_ordered_columns
 have f_least:Fn P w K mg base CX0 1 "least_other" ["colours"] (Db K):=Ny t.d_least_other
 have f_count:Fn P w K mg base CX0 1 "colour_count" ["colours"] (i4 K):=N4 B hno t.d_colour_count
 have f_told:Fn P w K mg base CX0 4 "told_colours" ["met","order"] (xz K T):=Rf B hno f_order f_least t.d_told_colours
 have f_clash:Fn P w K mg base CX0 2 "first_clash" ["met","colours"] (zh K):=N5 f_pairs t.d_first_clash
 have f_can:=Pn (P:=P) (w:=w) (base:=base) B f_count t.d_can_be_coloured 8
 have f_fewest:Fn P w K mg base CX0 11 "fewest_colours" ["met"] (zg K):=Kb f_can t.d_fewest_colours
 have f_prod:Fn P w K mg base CX0 43 "product_change" ["line","values","changes"] (Io K):=Rk f_plus f_times t.d_product_change
 have f_quot:Fn P w K mg base CX0 44 "quotient_change" ["line","values","changes"] (Im K):=Rj B f_minus f_times f_over t.d_quotient_change
 have f_change:Fn P w K mg base CX0 45 "line_change" ["line","values","changes","direction"] (zi K):=Kc Kd hN f_plus f_minus f_opp f_prod f_quot t.d_line_change
 have f_changes:Fn P w K mg base CX0 46 "line_changes" ["lines","values","direction"] (ss K):=G4 f_change t.d_line_changes
 have f_dir:Fn P w K mg base CX0 1 "colour_direction" ["colours","moved"] (Qj K):=T6 hN hO t.d_colour_direction
 have f_dirs:Fn P w K mg base CX0 3 "colour_directions" ["colours"] (Iv K):=Rt B f_count f_dir t.d_colour_directions
 have f_out:Fn P w K mg base CX0 47 "out_changes" ["held","values","direction"] (Qg K C):=Tz hC f_changes t.d_out_changes
 have f_pbc:Fn P w K mg base CX0 48 "packed_by_columns" ["held","values","colours"] (Ml K C):=Tx B hC f_dirs f_out t.d_packed_by_columns
 have f_whole:Fn P w K mg base CX0 49 "whole_table" ["held","values"] (y4 K C):=Nj B hC f_pbc t.d_whole_table
 have f_sum:Fn P w K mg base CX0 43 "sum_of_rows" ["rows","how_many_columns"] (Qc K):=Tr B hN f_plus t.d_sum_of_rows
 have f_pbr:Fn P w K mg base CX0 50 "packed_by_rows" ["held","values","colours"] (Qd K C):=Tw B hC f_whole f_count f_sum t.d_packed_by_rows
 have f_pt:Fn P w K mg base CX0 51 "packed_table" ["held","values","side","colours"] (spPt K C):=Vg Cb.row f_pbc f_pbr t.d_packed_table
 have f_apart:Fn P w K mg base CX0 1 "told_apart" ["entries","packed","side","colours"] (Dh K):=N8 B Cb.row hN t.d_told_apart
 have f_within:Fn P w K mg base CX0 1 "within" ["number","least","greatest"] i0:=J3 t.d_within
 have f_side:Fn P w K mg base (CXE P w) 2 "need_side" ["side"] (gt er 0 1):=Rh X Cb f_within t.d_need_side
 have f_nord:Fn P w K mg base (CXE P w) 2 "need_order" ["order"] (gt er 0 2):=Rn X Cb f_within t.d_need_order
 have f_nouts:Fn P w K mg base (CXE P w) 2 "need_outs" ["outs","how_many_lines"] (n8 K er):=Nu B X Cb f_within t.d_need_outs
 have f_ncols:Fn P w K mg base (CXE P w) 2 "need_colours" ["colours","how_many_columns"] (j7 K er):=Nv B X Cb f_within t.d_need_colours
 have f_values:Fn P w K mg base (CXE P w) 47 "need_values" ["held"] (j6 K C er):=J5 hC X Cf f_run t.d_need_values
 have f_tell:Fn P w K mg base (CXE P w) 2 "tell_table" ["table","how_many_columns"] (A5 K er):=Rg B X Cb f_weight t.d_tell_table
 have f_hpat:Mn P w K mg base CX0 5 C "pattern" ["self"] (A6 K C):=Rq hC f_pat t.d_Held_pattern
 have f_hmet:Mn P w K mg base CX0 6 C "columns_met" ["self","side"] (jo K C):=Rr hC f_hpat f_entries f_met t.d_Held_columns_met
 have f_apat:Fn P w K mg base (CXE P w) 53 "answer_pattern" ["held","wholes","rows"] (gu K C T er 0 0 F8):=Ry B hC f_hpat f_entry t.d_answer_pattern
 have f_ameets:Fn P w K mg base (CXE P w) 53 "answer_meets" ["held","wholes","rows"] (gu K C T er 1 0 Ps):=Kf B hC f_side f_hmet f_pairs t.d_answer_meets
 have f_aorder:Fn P w K mg base (CXE P w) 53 "answer_order" ["held","wholes","rows"] (gu K C T er 2 0 Pr):=Ke B hC f_side f_nord f_hmet f_order t.d_answer_order
 have f_acol:Fn P w K mg base (CXE P w) 53 "answer_colours" ["held","wholes","rows"] (gu K C T er 2 0 F9):=R1 B hC f_side f_nord f_hmet f_told f_count t.d_answer_colours
 have f_achk:Fn P w K mg base (CXE P w) 53 "answer_check" ["held","wholes","rows"] (gu K C T er 1 1 K6):=R3 B hC f_side f_ncols f_hmet f_clash t.d_answer_check
 have f_alst:Fn P w K mg base (CXE P w) 53 "answer_least" ["held","wholes","rows"] (gu K C T er 1 0 Pt):=Rz B X Cb hC f_side f_hmet f_fewest t.d_answer_least
 have f_aplan:Fn P w K mg base (CXE P w) 53 "answer_plan" ["held","wholes","rows"] (gu K C T er 0 0 Ul):=N7 B Cb hC f_hmet f_told f_count t.d_answer_plan
 have f_adns:Fn P w K mg base (CXE P w) 53 "answer_dense" ["held","wholes","rows"] (gu K C T er 0 0 Pu):=R0 hC f_values f_whole f_tell t.d_answer_dense
 have f_tpa:Fn P w K mg base (CXE P w) 52 "tell_packed_apart" ["held","values","side","colours"] (Mi K C er):=Tq hC f_pt f_hpat f_apart f_tell t.d_tell_packed_apart
 have f_apck:Fn P w K mg base (CXE P w) 53 "answer_packed" ["held","wholes","rows"] (gu K C T er 2 0 Ag):=Rx Cb hC f_side f_nord f_values f_hmet f_told f_pt f_tell f_count t.d_answer_packed
 have f_atab:Fn P w K mg base (CXE P w) 53 "answer_table" ["held","wholes","rows"] (gu K C T er 2 0 K5):=Rv hC f_side f_nord f_values f_hmet f_told f_tpa t.d_answer_table
 have f_aapt:Fn P w K mg base (CXE P w) 53 "answer_apart" ["held","wholes","rows"] (gu K C T er 0 1 Ga):=R4 X Cb hC f_ncols f_values f_hmet f_clash f_tpa t.d_answer_apart
 have f_hinit:In P w K mg base CX0 1 C ["self"] (Dd C):=N0 hC t.d_Held_init
 have f_htake:Mn P w K mg base CX0 1 C "take_program" ["self","inputs","lines","outs"] (Ik C):=Nz hC t.d_Held_take_program
 have f_htakep:Mn P w K mg base CX0 1 C "take_point" ["self","point"] (C7 C):=Ka hC t.d_Held_take_point
 have f_acode:Fn P w K mg base (CXE P w) 53 "answer_code" ["held","wholes","rows"] (ik K C T er 1 2 Lq):=N9 B X Cb hC f_within f_split f_uses f_nouts f_htake t.d_answer_code
 have f_apnt:Fn P w K mg base (CXE P w) 53 "answer_point" ["held","wholes","rows"] (ik K C T er 0 1 Ck):=Rw B Cf hC f_read f_htakep f_run t.d_answer_point
 have a0:Fn P w K mg base (CXE P w) 53 "answer_code" ["held","wholes","rows"] (ik K C T er 1 2 (Lq)):=f_acode
 have a1:Fn P w K mg base (CXE P w) 53 "answer_point" ["held","wholes","rows"] (ik K C T er 0 1 (Ck)):=f_apnt
 have a2:Fn P w K mg base (CXE P w) 53 "answer_pattern" ["held","wholes","rows"] (ik K C T er 0 0 (λ_ _=>.pattern)):=dl (λ_ _ _=>rfl) f_apat
 have a3:Fn P w K mg base (CXE P w) 53 "answer_meets" ["held","wholes","rows"] (ik K C T er 1 0 (λws _=>.meets (ws.getD 0 0))):=dl (λ_ _ _=>rfl) f_ameets
 have a4:Fn P w K mg base (CXE P w) 53 "answer_order" ["held","wholes","rows"] (ik K C T er 2 0 (λws _=>.order (ws.getD 0 0) (ws.getD 1 0))):=dl (λ_ _ _=>rfl) f_aorder
 have a5:Fn P w K mg base (CXE P w) 53 "answer_colours" ["held","wholes","rows"] (ik K C T er 2 0 (λws _=>.colours (ws.getD 0 0) (ws.getD 1 0))):=dl (λ_ _ _=>rfl) f_acol
 have a6:Fn P w K mg base (CXE P w) 53 "answer_check" ["held","wholes","rows"] (ik K C T er 1 1 (λws rows=>.check (ws.getD 0 0) (rows.getD 0 []))):=dl (λ_ _ _=>rfl) f_achk
 have a7:Fn P w K mg base (CXE P w) 53 "answer_least" ["held","wholes","rows"] (ik K C T er 1 0 (λws _=>.least (ws.getD 0 0))):=dl (λ_ _ _=>rfl) f_alst
 have a8:Fn P w K mg base (CXE P w) 53 "answer_plan" ["held","wholes","rows"] (ik K C T er 0 0 (λ_ _=>.plan)):=dl (λ_ _ _=>rfl) f_aplan
 have a9:Fn P w K mg base (CXE P w) 53 "answer_dense" ["held","wholes","rows"] (ik K C T er 0 0 (λ_ _=>.dense)):=dl (λ_ _ _=>rfl) f_adns
 have a10:Fn P w K mg base (CXE P w) 53 "answer_packed" ["held","wholes","rows"] (ik K C T er 2 0 (λws _=>.packed (ws.getD 0 0) (ws.getD 1 0))):=dl (λ_ _ _=>rfl) f_apck
 have a11:Fn P w K mg base (CXE P w) 53 "answer_table" ["held","wholes","rows"] (ik K C T er 2 0 (λws _=>.table (ws.getD 0 0) (ws.getD 1 0))):=dl (λ_ _ _=>rfl) f_atab
 have a12:Fn P w K mg base (CXE P w) 53 "answer_apart" ["held","wholes","rows"] (ik K C T er 0 1 (λ_ rows=>.apart (rows.getD 0 []))):=dl (λ_ _ _=>rfl) f_aapt
 have AS:Arms P w K mg base C T er kvs:=by
  intro n nw nr hs
  rcases i5 hs with ⟨rfl,rfl,rfl⟩|⟨rfl,rfl,rfl⟩|⟨rfl,rfl,rfl⟩|⟨rfl,rfl,rfl⟩|⟨rfl,rfl,rfl⟩|⟨rfl,rfl,rfl⟩|⟨rfl,rfl,rfl⟩|⟨rfl,rfl,rfl⟩|⟨rfl,rfl,rfl⟩|⟨rfl,rfl,rfl⟩|⟨rfl,rfl,rfl⟩|⟨rfl,rfl,rfl⟩|⟨rfl,rfl,rfl⟩
  .exact iw (hkv 0 "answer_code" rfl) a0 (λws rows h1 h2=>match ws,rows,h1,h2 with | [x],[l,o],_,_=>rfl)
  .exact iw (hkv 1 "answer_point" rfl) a1 (λws rows h1 h2=>match ws,rows,h1,h2 with | [],[l],_,_=>rfl)
  .exact iw (hkv 2 "answer_pattern" rfl) a2 (λws rows h1 h2=>match ws,rows,h1,h2 with | [],[],_,_=>rfl)
  .exact iw (hkv 3 "answer_meets" rfl) a3 (λws rows h1 h2=>match ws,rows,h1,h2 with | [x],[],_,_=>rfl)
  .exact iw (hkv 4 "answer_order" rfl) a4 (λws rows h1 h2=>match ws,rows,h1,h2 with | [x,y],[],_,_=>rfl)
  .exact iw (hkv 5 "answer_colours" rfl) a5 (λws rows h1 h2=>match ws,rows,h1,h2 with | [x,y],[],_,_=>rfl)
  .exact iw (hkv 6 "answer_check" rfl) a6 (λws rows h1 h2=>match ws,rows,h1,h2 with | [x],[l],_,_=>rfl)
  .exact iw (hkv 7 "answer_least" rfl) a7 (λws rows h1 h2=>match ws,rows,h1,h2 with | [x],[],_,_=>rfl)
  .exact iw (hkv 8 "answer_plan" rfl) a8 (λws rows h1 h2=>match ws,rows,h1,h2 with | [],[],_,_=>rfl)
  .exact iw (hkv 9 "answer_dense" rfl) a9 (λws rows h1 h2=>match ws,rows,h1,h2 with | [],[],_,_=>rfl)
  .exact iw (hkv 10 "answer_packed" rfl) a10 (λws rows h1 h2=>match ws,rows,h1,h2 with | [x,y],[],_,_=>rfl)
  .exact iw (hkv 11 "answer_table" rfl) a11 (λws rows h1 h2=>match ws,rows,h1,h2 with | [x,y],[],_,_=>rfl)
  .exact iw (hkv 12 "answer_apart" rfl) a12 (λws rows h1 h2=>match ws,rows,h1,h2 with | [],[l],_,_=>rfl)
 have f_call:Fn P w K mg base (CXE P w) 54 "answer_call" ["held","number","wholes","rows"] (Iw K C T dA kvs):=Ru X mA AS t.d_answer_call
 have f_rinit:In P w K mg base CX0 1 R ["self","numbers"] (Da R):=Np hR t.d_Reader_init
 have f_atend:Mn P w K mg base CX0 1 R "at_end" ["self"] (Dg K R):=N6 B hR t.d_Reader_at_end
 have f_rtn:Mn P w K mg base CX0 1 R "take_number" ["self"] (y6 K R):=Tv hR t.d_Reader_take_number
 have f_takens:Mn P w K mg base CX0 1 R "take_numbers" ["self","how_many"] (qy K R):=J6 hR t.d_Reader_take_numbers
 have f_taker:Mn P w K mg base CX0 2 R "take_row" ["self"] (C6 K R):=Nl hR f_rtn f_takens t.d_Reader_take_row
 have f_next:Fn P w K mg base (CXE P w) 55 "answer_next" ["held","reader"] (Iq K C R T dA dS kvs kvS):=Ro B hR mS SH f_rtn f_takens f_taker f_call t.d_answer_next
 have f_answers:Fn P w K mg base (CXE P w) 56 "answers" ["calls"] (jp K T dA dS kvs kvS):=G5 B hC hR mC mR f_hinit f_rinit f_atend f_next t.d_answers
 exact f_answers
end
end Sp
end
section
namespace L2
open PySem PySem.Spec PyProof.Rows
open PySem.W (WData Codec OpenSpec Well WellAll ReadsW ReadsAllW)
mutual
inductive Dw (K:W.Frag) (H:Hp):V->WData->Prop
 | non:Dw K H .non .none
 | bl (b:Bool):Dw K H (.bl b) (.bool b)
 | int (i:Int):Dw K H (.int i) (.int i)
 | str (x:Str):Dw K H (.str x) (.str x)
 | byt (b:Array UInt8):Dw K H (.byt b) (.bytes b.toList)
 | lst {a:Addr} {xs:List V} {ds:List WData}:SqL K H a xs->Ax K H xs ds->Dw K H (.ref a) (.list ds)
 | tup {a:Addr} {xs:List V} {ds:List WData}:SqT K H a xs->Ax K H xs ds->Dw K H (.ref a) (.tuple ds)
inductive Ax (K:W.Frag) (H:Hp):List V->List WData->Prop
 | nil:Ax K H [] []
 | cons {v:V} {vs:List V} {d:WData} {ds:List WData}:Dw K H v d->Ax K H vs ds->Ax K H (v::vs) (d::ds)
end
theorem Le{K:PySem.W.Frag}{H:Hp}:∀ ns:List Int,Ax K H (ns.map V.int) (ns.map WData.int)
 | []=>.nil
 | n::r=>.cons (.int n) (Le r)
theorem Kx{K:PySem.W.Frag}{H:Hp}:∀ (ns:List Int) (xs:List V),Ax K H xs (ns.map WData.int)->xs=ns.map V.int
 | [],xs,h=>by
  cases h
  rfl
 | n::r,xs,h=>by
  cases h with
  | cons h1 h2=>
   cases h1
   rw[Kx r _ h2] <;> rfl
section
variable{P:Program}{w:World}{K:PySem.W.Frag}{H:Hp}{h:Heap}{R:PySem.W.WRecords}{cl:Str->Option Addr}
theorem S9{a:Addr}{xs:List V}(hok:HOk P w H h)(KX:K.In h)(q:SqL K H a xs):∃ (its:List Value) (o:Obj) (n:Nat),Vals xs its/\h.get? a=some o/\o.cls=.type "list"/\o.data=.seq its.toArray n:=by
 rcases q with q|⟨o,its,n,e,hc,_,hd,_,hv⟩
 .obtain⟨_,its,n,hv,e⟩:=(show ga P w H h a (.lst xs) from q.ok hok)
  exact⟨its,_,n,hv,e,rfl,rfl⟩
 .exact⟨its.toList,o,n,hv,KX _ _ e,hc,by simp[hd]⟩
theorem S8{a:Addr}{xs:List V}(hok:HOk P w H h)(KX:K.In h)(q:SqT K H a xs):∃ (its:List Value) (o:Obj) (n:Nat),Vals xs its/\h.get? a=some o/\o.cls=.type "tuple"/\o.data=.seq its.toArray n:=by
 rcases q with q|⟨o,its,n,e,hc,hd,_,hv⟩
 .obtain⟨_,its,hv,o,e,hc,n,hd⟩:=(show ga P w H h a (.tup xs) from q.ok hok)
  exact⟨its,o,n,hv,e,hc,hd⟩
 .exact⟨its.toList,o,n,hv,KX _ _ e,hc,by simp[hd]⟩
mutual
theorem Dw.reads(hok:HOk P w H h)(KX:K.In h):∀ (d:WData) (v:V) (u:Value),Dw K H v d->RelV v u->∃ as,ReadsW R cl h u d as
 | .none,_,_,x,r=>by
  cases x
  cases r
  exact⟨_,ReadsW.none⟩
 | .bool b,_,_,x,r=>by
  cases x
  cases r
  exact⟨_,ReadsW.bool b⟩
 | .int i,_,_,x,r=>by
  cases x
  obtain⟨t,rfl⟩:=r
  exact⟨_,ReadsW.int i t⟩
 | .str s,_,_,x,r=>by
  cases x
  obtain⟨t,rfl⟩:=r
  exact⟨_,ReadsW.str s t⟩
 | .bytes b,_,_,x,r=>by
  cases x
  obtain⟨t,rfl⟩:=r
  exact⟨_,ReadsW.bytes _ t⟩
 | .list ds,_,_,x,r=>by
  cases x with
  | lst hs ha=>
   cases r
   obtain⟨its,o,n,rv,ho,hc,hd⟩:=S9 hok KX hs
   obtain⟨as,hr⟩:=Dw.readsAll hok KX ds _ its ha rv
   exact⟨_,ReadsW.list ho hc hd hr⟩
 | .tuple ds,_,_,x,r=>by
  cases x with
  | tup hs ha=>
   cases r
   obtain⟨its,o,n,rv,ho,hc,hd⟩:=S8 hok KX hs
   obtain⟨as,hr⟩:=Dw.readsAll hok KX ds _ its ha rv
   exact⟨_,ReadsW.tuple ho hc hd hr⟩
 | .float _,_,_,x,_=>by cases x
 | .dict _,_,_,x,_=>by cases x
 | .bytearray _,_,_,x,_=>by cases x
 | .set _,_,_,x,_=>by cases x
 | .frozenset _,_,_,x,_=>by cases x
 | .obj _ _,_,_,x,_=>by cases x
theorem Dw.readsAll(hok:HOk P w H h)(KX:K.In h):∀ (ds:List WData) (vs:List V) (us:List Value),Ax K H vs ds->Vals vs us->∃ as,ReadsAllW R cl h us ds as
 | [],_,_,x,r=>by
  cases x
  cases r
  exact⟨_,ReadsAllW.nil⟩
 | d::ds,_,_,x,r=>by
  cases x with
  | cons h1 h2=>
   cases r with
   | cons r1 r2=>
    obtain⟨as,q1⟩:=Dw.reads hok KX d _ _ h1 r1
    obtain⟨bs,q2⟩:=Dw.readsAll hok KX ds _ _ h2 r2
    exact⟨_,ReadsAllW.cons q1 q2⟩
end
end
mutual
def plW:WData->Bool
 | .none=>true
 | .bool _=>true
 | .int _=>true
 | .str _=>true
 | .bytes _=>true
 | .list xs=>plWs xs
 | .tuple xs=>plWs xs
 | _=>false
def plWs:List WData->Bool
 | []=>true
 | x::r=>plW x&&plWs r
end
theorem Fh{α:Type}{f:α->WData}(h:∀ a,plW (f a)=true):∀ l:List α,plWs (l.map f)=true
 | []=>rfl
 | x::r=>by
  show(plW (f x)&&plWs (r.map f))=true
  rw[h x,Fh h r] <;> rfl
theorem qb:∀ (c:Codec) (a:c.denote),plW (c.enc a)=true
 | .unit,_=>rfl
 | .bool,_=>rfl
 | .int _ _,_=>rfl
 | .nat _ _,_=>rfl
 | .u8,_=>rfl
 | .bytes _ _,_=>rfl
 | .text _ _ _ _,_=>rfl
 | .list _ _ c,a=>Fh (λx=>qb c x) a
 | .pair c d,a=>by
  show(plW (c.enc a.1)&&(plW (d.enc a.2)&&true))=true
  rw[qb c a.1,qb d a.2] <;> rfl
 | .triple c d e,a=>by
  show(plW (c.enc a.1)&&(plW (d.enc a.2.1)&&(plW (e.enc a.2.2)&&true)))=true
  rw[qb c a.1,qb d a.2.1,qb e a.2.2] <;> rfl
 | .option c,none=>rfl
 | .option c,some x=>qb c x
theorem tu:∀ (cs:List Codec) (a:Codec.denoteAll cs),plWs (Codec.encAll cs a)=true
 | [],_=>rfl
 | c::cs,a=>by
  show(plW (c.enc a.1)&&plWs (Codec.encAll cs a.2))=true
  rw[qb c a.1,tu cs a.2] <;> rfl
theorem nu:∀ {xs:List WData} {d:WData},d∈xs->d.weight<=WData.weightAll xs
 | [],d,h=>absurd h (by simp)
 | x::r,d,h=>by
  show d.weight<=x.weight+1+WData.weightAll r
  rcases List.mem_cons.mp h with e|m
  .rw[e]
   omega
  .have z:=nu m
   omega
def toV:Value->V
 | .none=>.non
 | .bool b=>.bl b
 | .int i _=>.int i
 | .str x _=>.str x
 | .bytes b _=>.byt b
 | .ref a=>.ref a
 | _=>.non
def OkU(A:List Addr):Value->Prop
 | .none=>True
 | .bool _=>True
 | .int _ _=>True
 | .str _ _=>True
 | .bytes _ _=>True
 | .ref a=>a∈A
 | _=>False
theorem OkU.mono{A B:List Addr}(h:∀ a∈A,a∈B):∀ {u:Value},OkU A u->OkU B u:=λ{u} x=>by
 cases u with
 | ref a=>exact h a x
 | none=>trivial
 | bool b=>trivial
 | int i t=>trivial
 | str s t=>trivial
 | bytes b t=>trivial
 | _=>exact False.elim x
theorem M3{A:List Addr}{u:Value}(x:OkU A u):RelV (toV u) u:=by
 cases u with
 | ref a=>rfl
 | none=>rfl
 | bool b=>rfl
 | int i t=>exact⟨t,rfl⟩
 | str s t=>exact⟨t,rfl⟩
 | bytes b t=>exact⟨t,rfl⟩
 | _=>exact False.elim x
theorem j4{A:List Addr}:∀ {vs:List Value},(∀ u∈vs,OkU A u)->Vals (vs.map toV) vs
 | [],_=>.nil
 | u::r,h=>.cons (M3 (h u (List.mem_cons_self ..))) (j4 λx hx=>h x (List.mem_cons_of_mem _ hx))
def xu(h:Heap)(A:List Addr)(a:Addr):Prop:=∃ vs:List Value,vs.length<=sizeLine/\(∀ u∈vs,OkU A u) /\
 (h.get? a=some { cls:=.type "list",data:=.seq vs.toArray }\/h.get? a=some { cls:=.type "tuple",data:=.seq vs.toArray })
theorem xu.mono{h:Heap}{A B:List Addr}{a:Addr}(k:∀ a∈A,a∈B)(x:xu h A a):xu h B a:=by
 obtain⟨vs,h1,h2,h3⟩:=x
 exact⟨vs,h1,λu hu=>(h2 u hu).mono k,h3⟩
theorem iy{P:Params}{h:Heap}:∀ {vs:List Value} {ds:List WData},WellAll P h vs ds->vs.length=ds.length
 | _,_,.nil=>rfl
 | _,_,.cons _ b=>by
  show _+1=_+1
  rw[iy b]
theorem Ay{P:Params}{h:Heap}{v:Value}{ds:List WData}(x:Well P h v (.list ds)):∃ (a:Addr) (vs:List Value),v=.ref a/\h.get? a=some { cls:=.type "list",data:=.seq vs.toArray }/\WellAll P h vs ds:=by
 cases x with
 | list ho hall=>exact⟨_,_,rfl,ho,hall⟩
theorem xw{P:Params}{h:Heap}{v:Value}{ds:List WData}(x:Well P h v (.tuple ds)):∃ (a:Addr) (vs:List Value),v=.ref a/\h.get? a=some { cls:=.type "tuple",data:=.seq vs.toArray }/\WellAll P h vs ds:=by
 cases x with
 | tuple ho hall=>exact⟨_,_,rfl,ho,hall⟩
theorem Az{P:Params}{h:Heap}{us:List Value}{d:WData}{ds:List WData}(x:WellAll P h us (d::ds)):∃ (v:Value) (vs:List Value),us=v::vs/\Well P h v d/\WellAll P h vs ds:=by
 cases x with
 | cons a b=>exact⟨_,_,rfl,a,b⟩
theorem Ko{n:Nat}(h:n<=1048576):n<=sizeLine:=Nat.le_trans h (by decide)
section
variable{P:Params}{h:Heap}
mutual
theorem O4:∀ (d:WData) (v:Value),Well P h v d->plW d=true->d.weight<=1048576->∃ A:List Addr,OkU A v/\∀ a∈A,xu h A a
 | .none,_,x,_,_=>by
  cases x
  exact⟨[],trivial,λa m=>absurd m (by simp)⟩
 | .bool b,_,x,_,_=>by
  cases x
  exact⟨[],trivial,λa m=>absurd m (by simp)⟩
 | .int i,_,x,_,_=>by
  cases x
  exact⟨[],trivial,λa m=>absurd m (by simp)⟩
 | .str s,_,x,_,_=>by
  cases x
  exact⟨[],trivial,λa m=>absurd m (by simp)⟩
 | .bytes b,_,x,_,_=>by
  cases x
  exact⟨[],trivial,λa m=>absurd m (by simp)⟩
 | .list ds,_,x,p,z=>by
  obtain⟨a,vs,rfl,ho,hall⟩:=Ay x
  have z2:WData.weightAll ds<=1048576:=z
  obtain⟨A,h1,h2⟩:=rq ds _ hall p λd hd=>Nat.le_trans (nu hd) z2
  have k:∀ b∈A,b∈a::A:=λb hb=>List.mem_cons_of_mem _ hb
  refine⟨a::A,List.mem_cons_self ..,λb hb=>?_⟩
  rcases List.mem_cons.mp hb with e|m
  .rw[e]
   exact⟨vs,Ko (by rw[iy hall];exact Nat.le_trans (PySem.W.length_le_weightAllW ds) z2),λu hu=>(h1 u hu).mono k,.inl ho⟩
  .exact(h2 b m).mono k
 | .tuple ds,_,x,p,z=>by
  obtain⟨a,vs,rfl,ho,hall⟩:=xw x
  have z2:WData.weightAll ds<=1048576:=z
  obtain⟨A,h1,h2⟩:=rq ds _ hall p λd hd=>Nat.le_trans (nu hd) z2
  have k:∀ b∈A,b∈a::A:=λb hb=>List.mem_cons_of_mem _ hb
  refine⟨a::A,List.mem_cons_self ..,λb hb=>?_⟩
  rcases List.mem_cons.mp hb with e|m
  .rw[e]
   exact⟨vs,Ko (by rw[iy hall];exact Nat.le_trans (PySem.W.length_le_weightAllW ds) z2),λu hu=>(h1 u hu).mono k,.inr ho⟩
  .exact(h2 b m).mono k
 | .float _,_,_,p,_=>Bool.noConfusion (show false=true from p)
 | .dict _,_,_,p,_=>Bool.noConfusion (show false=true from p)
 | .bytearray _,_,_,p,_=>Bool.noConfusion (show false=true from p)
 | .set _,_,_,p,_=>Bool.noConfusion (show false=true from p)
 | .frozenset _,_,_,p,_=>Bool.noConfusion (show false=true from p)
 | .obj _ _,_,_,p,_=>Bool.noConfusion (show false=true from p)
theorem rq:∀ (ds:List WData) (vs:List Value),WellAll P h vs ds->plWs ds=true->(∀ d∈ds,d.weight<=1048576)->∃ A:List Addr,(∀ u∈vs,OkU A u)/\∀ a∈A,xu h A a
 | [],_,x,_,_=>by
  cases x
  exact⟨[],λu m=>absurd m (by simp),λa m=>absurd m (by simp)⟩
 | d::ds,_,x,p,z=>by
  obtain⟨v,vs,rfl,x1,x2⟩:=Az x
  have q:plW d=true/\plWs ds=true:=Bool.and_eq_true_iff.mp p
  obtain⟨A,a1,a2⟩:=O4 d v x1 q.1 (z d (List.mem_cons_self ..))
  obtain⟨B,b1,b2⟩:=rq ds vs x2 q.2 λe he=>z e (List.mem_cons_of_mem _ he)
  have kA:∀ b∈A,b∈A++B:=λb hb=>List.mem_append.mpr (.inl hb)
  have kB:∀ b∈B,b∈A++B:=λb hb=>List.mem_append.mpr (.inr hb)
  refine⟨A++B,λu hu=>?_,λb hb=>?_⟩
  .rcases List.mem_cons.mp hu with e|m
   .rw[e]
    exact a1.mono kA
   .exact(b1 u m).mono kB
  .rcases List.mem_append.mp hb with m|m
   .exact(a2 b m).mono kA
   .exact(b2 b m).mono kB
end
end
def hoOf(o:Obj):Option HO:=match o.data with
 | .seq vs _=>if (o.cls==Value.type "list")=true then some (.frz o (.lst (vs.toList.map toV))) else some (.frz o (.tup (vs.toList.map toV)))
 | _=>none
def argH(K:PySem.W.Frag)(h:Heap)(A:List Addr):Hp:=λb=>if b∈A then (if (K.lookup b).isNone=true then (h.get? b).bind hoOf else none) else none
theorem Fy(vs:List Value):hoOf { cls:=.type "list",data:=.seq vs.toArray }=some (.frz { cls:=.type "list",data:=.seq vs.toArray } (.lst (vs.map toV))):=by
 show(if (Value.type "list"==Value.type "list")=true then some (HO.frz { cls:=.type "list",data:=.seq vs.toArray } (.lst (vs.toArray.toList.map toV))) else some (HO.frz { cls:=.type "list",data:=.seq vs.toArray } (.tup (vs.toArray.toList.map toV))))=_
 rw[if_pos (beq_self_eq_true _)]
theorem Fx(vs:List Value):hoOf { cls:=.type "tuple",data:=.seq vs.toArray }=some (.frz { cls:=.type "tuple",data:=.seq vs.toArray } (.tup (vs.map toV))):=by
 show(if (Value.type "tuple"==Value.type "list")=true then some (HO.frz { cls:=.type "tuple",data:=.seq vs.toArray } (.lst (vs.toArray.toList.map toV))) else some (HO.frz { cls:=.type "tuple",data:=.seq vs.toArray } (.tup (vs.toArray.toList.map toV))))=_
 rw[if_neg (by decide)]
section
variable{P:Program}{w:World}{K:PySem.W.Frag}{h:Heap}{A:List Addr}
theorem At{b:Addr}{o:Obj}(hb:b∈A)(hk:K.lookup b=none)(e:h.get? b=some o):argH K h A b=hoOf o:=by
 unfold argH
 rw[if_pos hb,hk,if_pos (show(none:Option Obj).isNone=true from rfl),e] <;> rfl
theorem R6{b:Addr}{u:HO}(q:argH K h A b=some u):b∈A/\K.lookup b=none:=by
 unfold argH at q
 by_cases hb:b∈A
 .rw[if_pos hb]at q
  cases hk:K.lookup b with
  | none=>exact⟨hb,rfl⟩
  | some o=>
   rw[hk,if_neg (by simp)]at q
   cases q
 .rw[if_neg hb]at q
  cases q
theorem l4 (ar : ∀ a ∈ A, xu h A a) {b : Addr} {u : HO} (q : argH K h A b = some u) : K.lookup b = none /\ ∃ vs : List Value, vs.length <= sizeLine /\ (∀ u ∈ vs, OkU A u) /\
    ((h.get? b = some { cls := .type "list", data := .seq vs.toArray } /\ u = .frz { cls := .type "list", data := .seq vs.toArray } (.lst (vs.map toV))) \/
     (h.get? b = some { cls := .type "tuple", data := .seq vs.toArray } /\ u = .frz { cls := .type "tuple", data := .seq vs.toArray } (.tup (vs.map toV)))) := by
  obtain ⟨hb, hk⟩ := R6 q
  obtain ⟨vs, h1, h2, h3⟩ := ar b hb
  refine ⟨hk, vs, h1, h2, ?_⟩
  rcases h3 with e | e
  · rw [At hb hk e, Fy] at q
    exact .inl ⟨e, (Option.some.inj q).symm⟩
  · rw [At hb hk e, Fx] at q
    exact .inr ⟨e, (Option.some.inj q).symm⟩
theorem zk{c c':Value}{vs us:List Value}(e:(some { cls:=c,data:=.seq vs.toArray }:Option Obj)=some { cls:=c',data:=.seq us.toArray }):c=c'/\vs=us:=by
 have e1:=Option.some.inj e
 have e2:c=c':=congrArg Obj.cls e1
 have e3:Data.seq vs.toArray=Data.seq us.toArray:=congrArg Obj.data e1
 injection e3 with e4
 refine⟨e2,?_⟩
 have e5:=congrArg Array.toList e4
 simpa using e5
theorem argL(KX:K.In h)(ar:∀ a∈A,xu h A a){a:Addr}{vs:List Value}(ha:a∈A)(e:h.get? a=some { cls:=.type "list",data:=.seq vs.toArray }):(∀ u∈vs,OkU A u)/\SqL K (argH K h A) a (vs.map toV):=by
 obtain⟨us,h1,h2,h3⟩:=ar a ha
 have hu:us=vs:=by
  rcases h3 with q|q
  .rw[e]at q
   exact(zk q).2.symm
  .rw[e]at q
   exact absurd (Value.type.inj (zk q).1) (by decide)
 subst hu
 refine⟨h2,?_⟩
 cases hk:K.lookup a with
 | none=>exact .inl (.inr ⟨_,by rw[At ha hk e,Fy]⟩)
 | some o=>
  have e2:=KX a o hk
  rw[e]at e2
  obtain rfl:=Option.some.inj e2
  exact .inr ⟨_,us.toArray,_,hk,rfl,rfl,rfl,by rw[List.size_toArray];exact h1,by simpa using j4 h2⟩
theorem argT(KX:K.In h)(ar:∀ a∈A,xu h A a){a:Addr}{vs:List Value}(ha:a∈A)(e:h.get? a=some { cls:=.type "tuple",data:=.seq vs.toArray }):(∀ u∈vs,OkU A u)/\SqT K (argH K h A) a (vs.map toV):=by
 obtain⟨us,h1,h2,h3⟩:=ar a ha
 have hu:us=vs:=by
  rcases h3 with q|q
  .rw[e]at q
   exact absurd (Value.type.inj (zk q).1) (by decide)
  .rw[e]at q
   exact(zk q).2.symm
 subst hu
 refine⟨h2,?_⟩
 cases hk:K.lookup a with
 | none=>exact .inl (.inr ⟨_,by rw[At ha hk e,Fx]⟩)
 | some o=>
  have e2:=KX a o hk
  rw[e]at e2
  obtain rfl:=Option.some.inj e2
  exact .inr ⟨_,us.toArray,_,hk,rfl,rfl,by rw[List.size_toArray];exact h1,by simpa using j4 h2⟩
mutual
theorem Us{Pm:Params}(KX:K.In h)(ar:∀ a∈A,xu h A a):∀ (d:WData) (v:Value),Well Pm h v d->plW d=true->OkU A v->Dw K (argH K h A) (toV v) d
 | .none,_,x,_,_=>by
  cases x
  exact .non
 | .bool b,_,x,_,_=>by
  cases x
  exact .bl b
 | .int i,_,x,_,_=>by
  cases x
  exact .int i
 | .str s,_,x,_,_=>by
  cases x
  exact .str s
 | .bytes b,_,x,_,_=>by
  cases x
  have z:=Dw.byt (K:=K) (H:=argH K h A) b.toArray
  exact z
 | .list ds,_,x,p,hu=>by
  obtain⟨a,vs,rfl,ho,hall⟩:=Ay x
  obtain⟨h2,hs⟩:=argL KX ar hu ho
  exact .lst hs (Ge KX ar ds _ hall p h2)
 | .tuple ds,_,x,p,hu=>by
  obtain⟨a,vs,rfl,ho,hall⟩:=xw x
  obtain⟨h2,hs⟩:=argT KX ar hu ho
  exact .tup hs (Ge KX ar ds _ hall p h2)
 | .float _,_,_,p,_=>Bool.noConfusion (show false=true from p)
 | .dict _,_,_,p,_=>Bool.noConfusion (show false=true from p)
 | .bytearray _,_,_,p,_=>Bool.noConfusion (show false=true from p)
 | .set _,_,_,p,_=>Bool.noConfusion (show false=true from p)
 | .frozenset _,_,_,p,_=>Bool.noConfusion (show false=true from p)
 | .obj _ _,_,_,p,_=>Bool.noConfusion (show false=true from p)
theorem Ge{Pm:Params}(KX:K.In h)(ar:∀ a∈A,xu h A a):∀ (ds:List WData) (vs:List Value),WellAll Pm h vs ds->plWs ds=true->(∀ u∈vs,OkU A u)->Ax K (argH K h A) (vs.map toV) ds
 | [],_,x,_,_=>by
  cases x
  exact .nil
 | d::ds,_,x,p,hu=>by
  obtain⟨v,vs,rfl,x1,x2⟩:=Az x
  have q:plW d=true/\plWs ds=true:=Bool.and_eq_true_iff.mp p
  exact .cons (Us KX ar d v x1 q.1 (hu _ (List.mem_cons_self ..))) (Ge KX ar ds vs x2 q.2 λu m=>hu u (List.mem_cons_of_mem _ m))
end
end
theorem wu{ds:List WData}(h:WData.layableAll ds=true):∀ d∈ds,d.weight<=1048576:=λd hd=>
 (PySem.W.layableW_iff.mp (List.all_eq_true.mp h d hd)).2.2
theorem yo:∀ (cs:List Codec) (a:Codec.denoteAll cs),(Codec.encAll cs a).length=cs.length
 | [],_=>rfl
 | c::cs,a=>by
  show(Codec.encAll cs a.2).length+1=cs.length+1
  rw[yo cs a.2]
end L2
end
section
namespace Sp
open PySem PySem.Spec PyProof.Rows L2
def cutK(K:W.Frag)(a b:Addr):W.Frag:=K.filter λp=>!(p.1==a)&&!(p.1==b)
theorem Py{K:W.Frag}{a b c:Addr}{o:Obj}(h:K.lookup c=some o)(n1:c≠a)(n2:c≠b):(cutK K a b).lookup c=some o:=by
 unfold cutK
 induction K with
 | nil=>cases h
 | cons p K ih=>
  obtain⟨q,r⟩:=p
  rw[List.lookup_cons]at h
  by_cases e:c=q
  .subst e
   rw[beq_self_eq_true]at h
   have hp:(!(c==a)&&!(c==b))=true:=by
    rw[Bool.and_eq_true,Bool.not_eq_true',Bool.not_eq_true']
    exact⟨beq_false_of_ne n1,beq_false_of_ne n2⟩
   rw[List.filter_cons,if_pos hp,List.lookup_cons,beq_self_eq_true]
   exact h
  .rw[beq_false_of_ne e]at h
   rw[List.filter_cons]
   split
   .rw[List.lookup_cons,beq_false_of_ne e]
    exact ih h
   .exact ih h
theorem Po{K:W.Frag}{a b c:Addr}{o:Obj}(h:(cutK K a b).lookup c=some o):K.lookup c=some o/\c≠a/\c≠b:=by
 unfold cutK at h
 induction K with
 | nil=>cases h
 | cons p K ih=>
  obtain⟨q,r⟩:=p
  rw[List.filter_cons]at h
  by_cases hp:(!(q==a)&&!(q==b))=true
  .rw[if_pos hp,List.lookup_cons]at h
   rw[Bool.and_eq_true,Bool.not_eq_true',Bool.not_eq_true']at hp
   rw[List.lookup_cons]
   by_cases e:c=q
   .subst e
    rw[beq_self_eq_true]at h ⊢
    exact⟨h,ne_of_beq_false hp.1,ne_of_beq_false hp.2⟩
   .rw[beq_false_of_ne e]at h ⊢
    exact ih h
  .rw[if_neg hp]at h
   have hc:c≠q:=λz=>hp (by
    have:=ih h
    rw[<- z,Bool.and_eq_true,Bool.not_eq_true',Bool.not_eq_true']
    exact⟨beq_false_of_ne this.2.1,beq_false_of_ne this.2.2⟩)
   rw[List.lookup_cons,beq_false_of_ne hc]
   exact ih h
def Ak(i:Nat)(x:Nat×Addr):DictEntry:={ hash:=(i:Int),key:=.int (i:Int) x.1,val:=.ref x.2 }
def kvOf(l:List (Nat×Addr)):List (Key×V):=l.zipIdx.map λp=>(.inl (p.2:Int),.ref p.1.2)
def kx(K:W.Frag)(a:Addr)(l:List (Nat×Addr)):Prop:=∃ ep,K.lookup a=some { cls:=.type "dict",data:=.dict (l.zipIdx.map λp=>Ak p.2 p.1).toArray ep }
theorem Hb(w:World):∀ i:Nat,i<13->keyH w (.inl (i:Int))=(i:Int):=λi hi=>match i,hi with
 | 0,_=>rfl | 1,_=>rfl | 2,_=>rfl | 3,_=>rfl | 4,_=>rfl | 5,_=>rfl | 6,_=>rfl | 7,_=>rfl | 8,_=>rfl | 9,_=>rfl | 10,_=>rfl | 11,_=>rfl | 12,_=>rfl
theorem rl{P:Program}{w:World}:∀ (l:List ((Nat×Addr)×Nat)),Pairs (gx P w) (l.map λp=>Ak p.2 p.1) (l.map λp=>((.inl (p.2:Int):Key),Value.ref p.1.2))
 | []=>.nil
 | p::l=>.cons (by show(uh (.inl (p.2:Int)) (.int (p.2:Int) p.1.1))=true;unfold uh Value.isInt;simp) rfl (rl l)
theorem Ud:∀ (l:List ((Nat×Addr)×Nat)),KV (l.map λp=>((.inl (p.2:Int):Key),V.ref p.1.2)) (l.map λp=>((.inl (p.2:Int):Key),Value.ref p.1.2))
 | []=>.nil
 | p::l=>.cons ⟨rfl,rfl⟩ (Ud l)
theorem Lf{P:Program}{w:World}{H:Hp}{h:Heap}{a:Addr}{l:List (Nat×Addr)}{ep:Nat}(e:h.get? a=some { cls:=.type "dict",data:=.dict (l.zipIdx.map λp=>Ak p.2 p.1).toArray ep })(hl:l.length<=13)(hs:(a==sysModules)=false) :
  ga P w H h a (.frz { cls:=.type "dict",data:=.dict (l.zipIdx.map λp=>Ak p.2 p.1).toArray ep } (.dK (kvOf l))):=by
 refine⟨e,?_,hs,l.zipIdx.map (λp:(Nat×Addr)×Nat=>((.inl (p.2:Int):Key),Value.ref p.1.2)),Ud _,_,_,ep,e,⟨rfl,rfl,rfl⟩,rfl,?_,?_,?_⟩
 .unfold kvOf
  rw[List.length_map,List.length_zipIdx,sizeLine_eq]
  omega
 .intro d hd
  have hd:=Array.mem_toList_iff.mpr hd
  rw[List.toList_toArray]at hd
  obtain⟨p,hp,rfl⟩:=List.mem_map.mp hd
  have hlt:p.2<13:=by
   obtain⟨x,i⟩:=p
   have:=(List.mem_zipIdx hp).2.1
   show i<13
   omega
  exact⟨.inl (p.2:Int),by show(uh (.inl (p.2:Int)) (.int (p.2:Int) p.1.1))=true;unfold uh Value.isInt;simp,(Hb w p.2 hlt).symm⟩
 .show Pairs _ (l.zipIdx.map λp=>Ak p.2 p.1).toArray.toList _
  rw[List.toList_toArray]
  exact rl _
 .rw[List.map_map]
  have e2:(l.zipIdx.map ((λx:Key×Value=>x.1)∘λp=>((.inl (p.2:Int):Key),Value.ref p.1.2)))=(List.range l.length).map λi:Nat=>(.inl (i:Int):Key):=by
   apply List.ext_getElem?
   intro i
   rw[List.getElem?_map,List.getElem?_map,List.getElem?_zipIdx]
   by_cases hi:i<l.length
   .rw[List.getElem?_eq_getElem hi,List.getElem?_range hi]
    simp
   .rw[List.getElem?_eq_none (by omega),List.getElem?_eq_none (by rw[List.length_range];omega)]
    rfl
  rw[e2]
  refine List.Pairwise.map _ (λ(i j:Nat) (hij:i≠j)=>?_) List.nodup_range
  intro z
  have:(i:Int)=(j:Int):=by injection z
  exact hij (by omega)
abbrev BD(x q:Str)(st:Stmt)(ps:List Str):Prop:=∀ (kV doc pm:Value) (an:Option Addr) (cdv ct:Value) (us:List Value),us.length=ps.length->bindArgs (W.fnOf x q (gj st) (dt st) (au st) .none kV doc pm an cdv ct) ⟨us,[]⟩=pure (ps.zip us)
def DefK(K:W.Frag)(x:Str)(st:Stmt):Prop:=∃ f oc od kV dc pm an cd ct sl,W.nsIn K mainGlobals x=some (some (.ref f))/\K.lookup f=some ⟨oc,od,.func (W.fnOf x x (gj st) (dt st) (au st) .none kV dc pm an cd ct),sl⟩/\W.codeIn K cd x=true
def gz(K:W.Frag)(C:Addr)(m qual:Str)(st:Stmt):Prop:=∃ f oc od kV dc pm an cd ct sl,W.findIn K (.ref C) m=some (some (.ref f))/\W.isFn K (.ref f)=true/\K.lookup f=some ⟨oc,od,.func (W.fnOf m qual (gj st) (dt st) (au st) .none kV dc pm an cd ct),sl⟩/\W.codeIn K cd qual=true
section
variable{K:W.Frag}{dA dS:Addr}{mg:Str->Option Value}{h:Heap}{x m qual:Str}{st:Stmt}{ps:List Str}{lA lS:List (Nat×Addr)}
theorem Oy(hA:kx K dA lA)(hS:kx K dS lS){cd:Value}{q:Str}(h:W.codeIn K cd q=true):W.codeIn (cutK K dA dS) cd q=true:=by
 obtain⟨eA,hA⟩:=hA
 obtain⟨eS,hS⟩:=hS
 unfold W.codeIn at h ⊢
 split at h
 .next c=>
  split at h
  .next oc od vs sl hl=>
   have n1:c≠dA:=λz=>by rw[z,hA]at hl;cases hl
   have n2:c≠dS:=λz=>by rw[z,hS]at hl;cases hl
   rw[Py hl n1 n2]
   exact h
  .cases h
 .cases h
theorem K7(hA:kx K dA lA)(hS:kx K dS lS){f:Addr}{oc:Value}{od an:Option Addr}{sl:Array (Option Value)}{kV doc pm cdv ct:Value}(l:K.lookup f=some ⟨oc,od,.func (W.fnOf x qual (gj st) (dt st) (au st) .none kV doc pm an cdv ct),sl⟩)(c:W.codeIn K cdv qual=true) :
  Fun (cutK K dA dS) x qual st f (W.fnOf x qual (gj st) (dt st) (au st) .none kV doc pm an cdv ct):=by
 have c2:=Oy hA hS c
 obtain⟨eA,hA⟩:=hA
 obtain⟨eS,hS⟩:=hS
 have n1:f≠dA:=λz=>by rw[z,hA]at l;cases l
 have n2:f≠dS:=λz=>by rw[z,hS]at l;cases l
 have l2:=Py l n1 n2
 refine Um l2 c2 ?_
 unfold W.keepIn
 dsimp only
 rw[l2]
theorem DefK.df(hA:kx K dA lA)(hS:kx K dS lS)(X:K.In h)(G:h.Ns mainGlobals mg)(D:DefK K x st)
  (hb:BD x x st ps):Df (cutK K dA dS) mg x st ps:=by
 obtain⟨f,oc,od,kV,dc,pm,an,cd,ct,sl,a1,a2,a3⟩:=D
 have F:=K7 hA hS a2 a3
 exact⟨f,_,F,W.mg_of X G a1,F.binds hb⟩
theorem gz.dm(hA:kx K dA lA)(hS:kx K dS lS){C:Addr}(D:gz K C m qual st)(hf:∀ f,W.findIn K (.ref C) m=some (some (.ref f))->W.findIn (cutK K dA dS) (.ref C) m=some (some (.ref f))/\W.isFn (cutK K dA dS) (.ref f)=true)
  (hb:BD m qual st ps):Dm (cutK K dA dS) C m qual st ps:=by
 obtain⟨f,oc,od,kV,dc,pm,an,cd,ct,sl,a1,a0,a2,a3⟩:=D
 have F:=K7 hA hS a2 a3
 exact⟨f,_,F,⟨(hf f a1).1,(hf f a1).2,F.kp⟩,F.binds hb⟩
end
abbrev BG(x q:Str)(st:Stmt)(kV doc pm:Value)(an:Option Addr)(cdv ct:Value)(us:List Value):=bindArgs (W.fnOf x q (gj st) (dt st) (au st) .none kV doc pm an cdv ct) ⟨us,[]⟩
theorem bd1{x q p:Str}{st:Stmt}(h:∀ k d m n c t a,BG x q st k d m n c t [a]=pure [(p,a)]):BD x q st [p]:=λk d m n c t us hl=>match us,hl with | [a],_=>h k d m n c t a
theorem bd2{x q p r:Str}{st:Stmt}(h:∀ k d m n c t a b,BG x q st k d m n c t [a,b]=pure [(p,a),(r,b)]):BD x q st [p,r]:=λk d m n c t us hl=>match us,hl with | [a,b],_=>h k d m n c t a b
theorem bd3{x q p r s:Str}{st:Stmt}(h:∀ k d m n c t a b e,BG x q st k d m n c t [a,b,e]=pure [(p,a),(r,b),(s,e)]):BD x q st [p,r,s]:=λk d m n c t us hl=>match us,hl with | [a,b,e],_=>h k d m n c t a b e
theorem bd4{x q p r s u:Str}{st:Stmt}(h:∀ k d m n c t a b e f,BG x q st k d m n c t [a,b,e,f]=pure [(p,a),(r,b),(s,e),(u,f)]):BD x q st [p,r,s,u]:=λk d m n c t us hl=>match us,hl with | [a,b,e,f],_=>h k d m n c t a b e f
local macro_rules | `(tactic| trivial)=>`(tactic| first|exact bd1 λ_ _ _ _ _ _ _=>rfl|exact bd2 λ_ _ _ _ _ _ _ _=>rfl|exact bd3 λ_ _ _ _ _ _ _ _ _=>rfl|exact bd4 λ_ _ _ _ _ _ _ _ _ _=>rfl|fail)
theorem pd:BD "common_divisor" "common_divisor" d_common_divisor ["first","second"]:=by trivial
theorem vy:BD "lowest_terms" "lowest_terms" d_lowest_terms ["top","bottom"]:=by trivial
theorem So:BD "plus" "plus" d_plus ["first","second"]:=by trivial
theorem Eu:BD "opposite" "opposite" d_opposite ["fraction"]:=by trivial
theorem O3:BD "minus" "minus" d_minus ["first","second"]:=by trivial
theorem O1:BD "times" "times" d_times ["first","second"]:=by trivial
theorem wz:BD "turned_over" "turned_over" d_turned_over ["fraction"]:=by trivial
theorem Sq:BD "over" "over" d_over ["first","second"]:=by trivial
theorem Lx:BD "weight" "weight" d_weight ["fraction"]:=by trivial
theorem o7:BD "read_fractions" "read_fractions" d_read_fractions ["numbers","how_many"]:=by trivial
theorem wy:BD "well_formed" "well_formed" d_well_formed ["line"]:=by trivial
theorem Hq:BD "line_at" "line_at" d_line_at ["numbers","place"]:=by trivial
theorem w8:BD "split_lines" "split_lines" d_split_lines ["numbers"]:=by trivial
theorem O2:BD "parts" "parts" d_parts ["line"]:=by trivial
theorem o6:BD "uses_are_there" "uses_are_there" d_uses_are_there ["lines","inputs"]:=by trivial
theorem Ar:BD "line_hangs" "line_hangs" d_line_hangs ["line","column","hangs"]:=by trivial
theorem Hr:BD "hanging" "hanging" d_hanging ["inputs","lines"]:=by trivial
theorem vg:BD "pattern_rows" "pattern_rows" d_pattern_rows ["inputs","lines","outs"]:=by trivial
theorem qt:BD "entry_columns" "entry_columns" d_entry_columns ["row"]:=by trivial
theorem Ly:BD "joined" "joined" d_joined ["kind","first","second"]:=by trivial
theorem ni:BD "divides_by_zero" "divides_by_zero" d_divides_by_zero ["line","values"]:=by trivial
theorem Aq:BD "line_value" "line_value" d_line_value ["line","values","point"]:=by trivial
theorem Uw:BD "run" "run" d_run ["lines","point"]:=by trivial
theorem w9:BD "share_entry" "share_entry" d_share_entry ["first","second"]:=by trivial
theorem xj:BD "columns_met" "columns_met" d_columns_met ["entries","column"]:=by trivial
theorem nh:BD "meeting_columns" "meeting_columns" d_meeting_columns ["entries"]:=by trivial
theorem vf:BD "side_entries" "side_entries" d_side_entries ["pattern","inputs","side"]:=by trivial
theorem qr:BD "meeting_pairs" "meeting_pairs" d_meeting_pairs ["met"]:=by trivial
theorem As:BD "fewest_met" "fewest_met" d_fewest_met ["met","left"]:=by trivial
theorem lx:BD "taken_away_order" "taken_away_order" d_taken_away_order ["met"]:=by trivial
theorem ng:BD "ordered_columns" "ordered_columns" d_ordered_columns ["met","order"]:=by trivial
theorem xh:BD "least_other" "least_other" d_least_other ["colours"]:=by trivial
theorem v8:BD "colour_count" "colour_count" d_colour_count ["colours"]:=by trivial
theorem u9:BD "told_colours" "told_colours" d_told_colours ["met","order"]:=by trivial
theorem xi:BD "first_clash" "first_clash" d_first_clash ["met","colours"]:=by trivial
theorem nj:BD "can_be_coloured" "can_be_coloured" d_can_be_coloured ["met","begun","count"]:=by trivial
theorem pc:BD "fewest_colours" "fewest_colours" d_fewest_colours ["met"]:=by trivial
theorem o8:BD "product_change" "product_change" d_product_change ["line","values","changes"]:=by trivial
theorem nc:BD "quotient_change" "quotient_change" d_quotient_change ["line","values","changes"]:=by trivial
theorem xg:BD "line_change" "line_change" d_line_change ["line","values","changes","direction"]:=by trivial
theorem vz:BD "line_changes" "line_changes" d_line_changes ["lines","values","direction"]:=by trivial
theorem ly:BD "colour_direction" "colour_direction" d_colour_direction ["colours","moved"]:=by trivial
theorem km:BD "colour_directions" "colour_directions" d_colour_directions ["colours"]:=by trivial
theorem xc:BD "out_changes" "out_changes" d_out_changes ["held","values","direction"]:=by trivial
theorem kl:BD "packed_by_columns" "packed_by_columns" d_packed_by_columns ["held","values","colours"]:=by trivial
theorem wx:BD "whole_table" "whole_table" d_whole_table ["held","values"]:=by trivial
theorem w6:BD "sum_of_rows" "sum_of_rows" d_sum_of_rows ["rows","how_many_columns"]:=by trivial
theorem o9:BD "packed_by_rows" "packed_by_rows" d_packed_by_rows ["held","values","colours"]:=by trivial
theorem vq:BD "packed_table" "packed_table" d_packed_table ["held","values","side","colours"]:=by trivial
theorem An:BD "told_apart" "told_apart" d_told_apart ["entries","packed","side","colours"]:=by trivial
theorem Lw:BD "within" "within" d_within ["number","least","greatest"]:=by trivial
theorem Cp:BD "need_side" "need_side" d_need_side ["side"]:=by trivial
theorem Ap:BD "need_order" "need_order" d_need_order ["order"]:=by trivial
theorem Cq:BD "need_outs" "need_outs" d_need_outs ["outs","how_many_lines"]:=by trivial
theorem vx:BD "need_colours" "need_colours" d_need_colours ["colours","how_many_columns"]:=by trivial
theorem xf:BD "need_values" "need_values" d_need_values ["held"]:=by trivial
theorem Ao:BD "tell_table" "tell_table" d_tell_table ["table","how_many_columns"]:=by trivial
theorem pf:BD "answer_pattern" "answer_pattern" d_answer_pattern ["held","wholes","rows"]:=by trivial
theorem wd:BD "answer_meets" "answer_meets" d_answer_meets ["held","wholes","rows"]:=by trivial
theorem wc:BD "answer_order" "answer_order" d_answer_order ["held","wholes","rows"]:=by trivial
theorem ph:BD "answer_colours" "answer_colours" d_answer_colours ["held","wholes","rows"]:=by trivial
theorem wj:BD "answer_check" "answer_check" d_answer_check ["held","wholes","rows"]:=by trivial
theorem we:BD "answer_least" "answer_least" d_answer_least ["held","wholes","rows"]:=by trivial
theorem xk:BD "answer_plan" "answer_plan" d_answer_plan ["held","wholes","rows"]:=by trivial
theorem wg:BD "answer_dense" "answer_dense" d_answer_dense ["held","wholes","rows"]:=by trivial
theorem kj:BD "tell_packed_apart" "tell_packed_apart" d_tell_packed_apart ["held","values","side","colours"]:=by trivial
theorem qu:BD "answer_packed" "answer_packed" d_answer_packed ["held","wholes","rows"]:=by trivial
theorem wa:BD "answer_table" "answer_table" d_answer_table ["held","wholes","rows"]:=by trivial
theorem wk:BD "answer_apart" "answer_apart" d_answer_apart ["held","wholes","rows"]:=by trivial
theorem xn:BD "answer_code" "answer_code" d_answer_code ["held","wholes","rows"]:=by trivial
theorem wb:BD "answer_point" "answer_point" d_answer_point ["held","wholes","rows"]:=by trivial
theorem xo:BD "answer_call" "answer_call" d_answer_call ["held","number","wholes","rows"]:=by trivial
theorem xl:BD "answer_next" "answer_next" d_answer_next ["held","reader"]:=by trivial
theorem Hs:BD "answers" "answers" d_answers ["calls"]:=by trivial
theorem wl:BD "pattern" "Held.pattern" d_Held_pattern ["self"]:=by trivial
theorem lz:BD "columns_met" "Held.columns_met" d_Held_columns_met ["self","side"]:=by trivial
theorem ko:BD "take_program" "Held.take_program" d_Held_take_program ["self","inputs","lines","outs"]:=by trivial
theorem nn:BD "take_point" "Held.take_point" d_Held_take_point ["self","point"]:=by trivial
theorem qv:BD "at_end" "Reader.at_end" d_Reader_at_end ["self"]:=by trivial
theorem j3:BD "take_number" "Reader.take_number" d_Reader_take_number ["self"]:=by trivial
theorem jk:BD "take_numbers" "Reader.take_numbers" d_Reader_take_numbers ["self","how_many"]:=by trivial
theorem nk:BD "take_row" "Reader.take_row" d_Reader_take_row ["self"]:=by trivial
theorem Cr:BD "__init__" "Held.__init__" d_Held_init ["self"]:=by trivial
theorem xq:BD "__init__" "Reader.__init__" d_Reader_init ["self","numbers"]:=by trivial
end Sp
end
section
namespace Sp
open PySem PySem.Spec PyProof.Rows L2
open PySem.W (WData Codec OpenSpec Well WellAll ReadsW ReadsAllW)
def gi(K:W.Frag)(x:Str):Option Int:=match W.nsIn K mainGlobals x with
 | some (some (.int i _))=>some i
 | _=>none
def og(K:W.Frag)(x:Str):Option Addr:=match W.nsIn K mainGlobals x with
 | some (some (.ref a))=>some a
 | _=>none
def Ui:Value->Option Int
 | .int i _=>some i
 | _=>none
def Fw:List Value->Option (List Int)
 | []=>some []
 | v::r=>(Ui v).bind λi=>(Fw r).map (i::·)
def L7(K:W.Frag)(a:Addr):Option (List Int):=match K.lookup a with
 | some ⟨.type t,_,.seq its _,_⟩=>if t=="tuple" then Fw its.toList else none
 | _=>none
def Ic(K K':W.Frag)(x:Str):Option (List Int):=(og K x).bind (L7 K')
def P5(K:W.Frag)(x:Str):Option Addr:=(og K x).bind λf=>match K.lookup f with
 | some ⟨_,_,.func fd,_⟩=>(match fd.code with
  | .ref c=>(match K.lookup c with
   | some ⟨_,_,.fields vs,_⟩=>(match (vs[11]?:Option Value) with
    | some (.ref t)=>some t
    | _=>none)
   | _=>none)
  | _=>none)
 | _=>none
def kh:List Str:=["OutOfRange","WrongForm","UseNotThere","NoPoint","RunFault","TooHeavy","TooMany","NotProper"]
def erOf(K:W.Frag):Int->Addr:=λn=>((kh[(-n).toNat - 1]?).bind (og K)).getD 0
def Oz(K:W.Frag)(C:Addr)(fs:List Str):Bool:=W.plainGet K C Str.empty&&(W.hasDictIn K C&&(W.plainOver K C&&((W.findIn K (.ref C) "__setattr__"==some (some (.builtin "object.__setattr__")))&&(W.makesIn K C&&(W.keepIn K (.ref C)&&fs.all λf=>W.findIn K (.ref C) f==some none)))))
def qo(K K':W.Frag)(C:Addr)(m:Str):Bool:=(W.findIn K' (.ref C) m==W.findIn K (.ref C) m)&&(match W.findIn K' (.ref C) m with
 | some (some v)=>W.isFn K' v
 | _=>false)
def Si(K K':W.Frag)(x:Str):Bool:=match og K x with
 | some c=>W.excIn K' c [.type "Exception",.type "BaseException",.type "object"] "Exception.__new__"&&L2.mroIn K' c
 | none=>false
structure Known(K:W.Frag)(dA dS C R:Addr)(lA lS:List (Nat×Addr)):Prop where
 mA:W.nsIn K mainGlobals "ANSWERING"=some (some (.ref dA))
 mS:W.nsIn K mainGlobals "SHAPES"=some (some (.ref dS))
 mC:W.nsIn K mainGlobals "Held"=some (some (.ref C))
 mR:W.nsIn K mainGlobals "Reader"=some (some (.ref R))
 oA:kx K dA lA
 oS:kx K dS lS
 lenA:lA.length=13
 lenS:lS.length=13
 far:([mainGlobals,builtinsNs,cStatics,sysModules].all λb=>!(b==dA)&&!(b==dS))=true
 dne:(dA==dS)=false
 kA:(u5.map (og K))=lA.map λp=>some p.2
 kS:(lS.map λp=>L7 (cutK K dA dS) p.2)=[some [1,2],some [0,1],some [0,0],some [1,0],some [2,0],some [2,0],some [1,1],some [1,0],some [0,0],some [0,0],some [2,0],some [2,0],some [0,1]]
 nought:Ic K (cutK K dA dS) "NOUGHT"=some [0,1]
 one:Ic K (cutK K dA dS) "ONE"=some [1,1]
 behind:Ic K (cutK K dA dS) "NUMBERS_BEHIND"=some [1,2,2,2,2,2,1]
 blt:((["abs","len","range","any","all","min","max","list","tuple","sorted","reversed","enumerate","zip"]:List Str).map (W.nsIn K mainGlobals))=[some none,some none,some none,some none,some none,some none,some none,some none,some none,some none,some none,some none,some none]
 i_INPUT:gi K "INPUT"=some 0
 i_CONSTANT:gi K "CONSTANT"=some 1
 i_SUM:gi K "SUM"=some 2
 i_DIFFERENCE:gi K "DIFFERENCE"=some 3
 i_PRODUCT:gi K "PRODUCT"=some 4
 i_QUOTIENT:gi K "QUOTIENT"=some 5
 i_OPPOSITE:gi K "OPPOSITE"=some 6
 i_NO_FAULT:gi K "NO_FAULT"=some 0
 i_DIVISOR_FAULT:gi K "DIVISOR_FAULT"=some 1
 i_WEIGHT_FAULT:gi K "WEIGHT_FAULT"=some 2
 i_MOST_WEIGHT:gi K "MOST_WEIGHT"=some 200
 i_NUMBER_ORDER:gi K "NUMBER_ORDER"=some 0
 i_MOST_MET_ORDER:gi K "MOST_MET_ORDER"=some 1
 i_TAKEN_AWAY_ORDER:gi K "TAKEN_AWAY_ORDER"=some 2
 i_COLUMN_SIDE:gi K "COLUMN_SIDE"=some 0
 i_ROW_SIDE:gi K "ROW_SIDE"=some 1
 i_MOST_INPUTS:gi K "MOST_INPUTS"=some 12
 i_MOST_LINES:gi K "MOST_LINES"=some 80
 i_MOST_OUTS:gi K "MOST_OUTS"=some 12
 i_GREATEST_COLOUR:gi K "GREATEST_COLOUR"=some 99
 i_MOST_COLUMNS_FOR_LEAST:gi K "MOST_COLUMNS_FOR_LEAST"=some 8
 i_MOST_TOLD_WEIGHT:gi K "MOST_TOLD_WEIGHT"=some 4000
 i_NO_COLOUR:gi K "NO_COLOUR"=some (-1)
 clsC:Oz (cutK K dA dS) C ["inputs","lines","outs","point"]=true
 clsR:Oz (cutK K dA dS) R ["numbers","place"]=true
 errs:(kh.map (Si K (cutK K dA dS)))=[true,true,true,true,true,true,true,true]
 apart:(decide ((kh.map (og K)).Nodup))=true
 tab:((P5 K "ordered_columns").map λt=>(K.lookup t).isNone)=some true
 d_common_divisor:DefK K "common_divisor" d_common_divisor
 d_lowest_terms:DefK K "lowest_terms" d_lowest_terms
 d_plus:DefK K "plus" d_plus
 d_opposite:DefK K "opposite" d_opposite
 d_minus:DefK K "minus" d_minus
 d_times:DefK K "times" d_times
 d_turned_over:DefK K "turned_over" d_turned_over
 d_over:DefK K "over" d_over
 d_weight:DefK K "weight" d_weight
 d_read_fractions:DefK K "read_fractions" d_read_fractions
 d_well_formed:DefK K "well_formed" d_well_formed
 d_line_at:DefK K "line_at" d_line_at
 d_split_lines:DefK K "split_lines" d_split_lines
 d_parts:DefK K "parts" d_parts
 d_uses_are_there:DefK K "uses_are_there" d_uses_are_there
 d_line_hangs:DefK K "line_hangs" d_line_hangs
 d_hanging:DefK K "hanging" d_hanging
 d_pattern_rows:DefK K "pattern_rows" d_pattern_rows
 d_entry_columns:DefK K "entry_columns" d_entry_columns
 d_joined:DefK K "joined" d_joined
 d_divides_by_zero:DefK K "divides_by_zero" d_divides_by_zero
 d_line_value:DefK K "line_value" d_line_value
 d_run:DefK K "run" d_run
 d_share_entry:DefK K "share_entry" d_share_entry
 d_columns_met:DefK K "columns_met" d_columns_met
 d_meeting_columns:DefK K "meeting_columns" d_meeting_columns
 d_side_entries:DefK K "side_entries" d_side_entries
 d_meeting_pairs:DefK K "meeting_pairs" d_meeting_pairs
 d_fewest_met:DefK K "fewest_met" d_fewest_met
 d_taken_away_order:DefK K "taken_away_order" d_taken_away_order
 d_ordered_columns:DefK K "ordered_columns" d_ordered_columns
 d_least_other:DefK K "least_other" d_least_other
 d_colour_count:DefK K "colour_count" d_colour_count
 d_told_colours:DefK K "told_colours" d_told_colours
 d_first_clash:DefK K "first_clash" d_first_clash
 d_can_be_coloured:DefK K "can_be_coloured" d_can_be_coloured
 d_fewest_colours:DefK K "fewest_colours" d_fewest_colours
 d_product_change:DefK K "product_change" d_product_change
 d_quotient_change:DefK K "quotient_change" d_quotient_change
 d_line_change:DefK K "line_change" d_line_change
 d_line_changes:DefK K "line_changes" d_line_changes
 d_colour_direction:DefK K "colour_direction" d_colour_direction
 d_colour_directions:DefK K "colour_directions" d_colour_directions
 d_out_changes:DefK K "out_changes" d_out_changes
 d_packed_by_columns:DefK K "packed_by_columns" d_packed_by_columns
 d_whole_table:DefK K "whole_table" d_whole_table
 d_sum_of_rows:DefK K "sum_of_rows" d_sum_of_rows
 d_packed_by_rows:DefK K "packed_by_rows" d_packed_by_rows
 d_packed_table:DefK K "packed_table" d_packed_table
 d_told_apart:DefK K "told_apart" d_told_apart
 d_within:DefK K "within" d_within
 d_need_side:DefK K "need_side" d_need_side
 d_need_order:DefK K "need_order" d_need_order
 d_need_outs:DefK K "need_outs" d_need_outs
 d_need_colours:DefK K "need_colours" d_need_colours
 d_need_values:DefK K "need_values" d_need_values
 d_tell_table:DefK K "tell_table" d_tell_table
 d_answer_pattern:DefK K "answer_pattern" d_answer_pattern
 d_answer_meets:DefK K "answer_meets" d_answer_meets
 d_answer_order:DefK K "answer_order" d_answer_order
 d_answer_colours:DefK K "answer_colours" d_answer_colours
 d_answer_check:DefK K "answer_check" d_answer_check
 d_answer_least:DefK K "answer_least" d_answer_least
 d_answer_plan:DefK K "answer_plan" d_answer_plan
 d_answer_dense:DefK K "answer_dense" d_answer_dense
 d_tell_packed_apart:DefK K "tell_packed_apart" d_tell_packed_apart
 d_answer_packed:DefK K "answer_packed" d_answer_packed
 d_answer_table:DefK K "answer_table" d_answer_table
 d_answer_apart:DefK K "answer_apart" d_answer_apart
 d_answer_code:DefK K "answer_code" d_answer_code
 d_answer_point:DefK K "answer_point" d_answer_point
 d_answer_call:DefK K "answer_call" d_answer_call
 d_answer_next:DefK K "answer_next" d_answer_next
 d_answers:DefK K "answers" d_answers
 d_Held_pattern:gz K C "pattern" "Held.pattern" d_Held_pattern
 f_Held_pattern:qo K (cutK K dA dS) C "pattern"=true
 d_Held_columns_met:gz K C "columns_met" "Held.columns_met" d_Held_columns_met
 f_Held_columns_met:qo K (cutK K dA dS) C "columns_met"=true
 d_Held_take_program:gz K C "take_program" "Held.take_program" d_Held_take_program
 f_Held_take_program:qo K (cutK K dA dS) C "take_program"=true
 d_Held_take_point:gz K C "take_point" "Held.take_point" d_Held_take_point
 f_Held_take_point:qo K (cutK K dA dS) C "take_point"=true
 d_Reader_at_end:gz K R "at_end" "Reader.at_end" d_Reader_at_end
 f_Reader_at_end:qo K (cutK K dA dS) R "at_end"=true
 d_Reader_take_number:gz K R "take_number" "Reader.take_number" d_Reader_take_number
 f_Reader_take_number:qo K (cutK K dA dS) R "take_number"=true
 d_Reader_take_numbers:gz K R "take_numbers" "Reader.take_numbers" d_Reader_take_numbers
 f_Reader_take_numbers:qo K (cutK K dA dS) R "take_numbers"=true
 d_Reader_take_row:gz K R "take_row" "Reader.take_row" d_Reader_take_row
 f_Reader_take_row:qo K (cutK K dA dS) R "take_row"=true
 d_Held_init:gz K C "__init__" "Held.__init__" d_Held_init
 f_Held_init:qo K (cutK K dA dS) C "__init__"=true
 d_Reader_init:gz K R "__init__" "Reader.__init__" d_Reader_init
 f_Reader_init:qo K (cutK K dA dS) R "__init__"=true
section
variable{K K':W.Frag}{dA dS C R T:Addr}{lA lS:List (Nat×Addr)}{mg:Str->Option Value}{h:Heap}{x:Str}
theorem rj{a:Addr}(e:og K x=some a):W.nsIn K mainGlobals x=some (some (.ref a)):=by
 unfold og at e
 split at e
 .next z=>cases e;exact z
 .cases e
theorem cr(X:K.In h)(G:h.Ns mainGlobals mg){i:Int}(e:gi K x=some i):Gc mg x i:=by
 unfold gi at e
 split at e
 .next t z=>cases e;exact⟨t,W.mg_of X G z⟩
 .cases e
theorem uj:∀ (l:List Value) (is:List Int),Fw l=some is->Vals (is.map V.int) l
 | [],is,h=>by cases h;exact .nil
 | v::r,is,h=>by
  unfold Fw at h
  obtain⟨i,e1,e2⟩:=Option.bind_eq_some_iff.mp h
  obtain⟨js,e,rfl⟩:=Option.map_eq_some_iff.mp e2
  refine .cons ?_ (uj r js e)
  unfold Ui at e1
  split at e1
  .next t=>cases e1;exact⟨t,rfl⟩
  .cases e1
theorem Ez{a:Addr}{l:List Int}(e:L7 K' a=some l)(hl:l.length<=100)(H:Hp):SqT K' H a (l.map V.int):=by
 unfold L7 at e
 split at e
 .next t d its n sl z=>
  split at e
  .next ht=>
   have hv:=uj _ _ e
   have hlen:=hv.length
   rw[List.length_map]at hlen
   have ht:t="tuple":=eq_of_beq ht
   subst ht
   exact .inr ⟨_,its,n,z,rfl,rfl,(by rw[sizeLine_eq];have:its.toList.length=its.size:=Array.length_toList;omega),hv⟩
  .cases e
 .cases e
theorem yw(X:K.In h)(G:h.Ns mainGlobals mg){l:List Int}(e:Ic K K' x=some l)(hl:l.length<=100):∃ a,mg x=some (.ref a)/\∀ H,SqT K' H a (l.map V.int):=by
 unfold Ic at e
 cases q:og K x with
 | none=>rw[q]at e;cases e
 | some a=>
  rw[q]at e
  exact⟨a,W.mg_of X G (rj q),Ez e hl⟩
theorem Gk{fs:List Str}(e:Oz K' C fs=true):Cls K' C/\W.makesIn K' C=true/\W.keepIn K' (.ref C)=true/\∀ f∈fs,fz K' C f:=by
 unfold Oz at e
 simp only[Bool.and_eq_true]at e
 obtain⟨e1,e2,e3,e4,e5,e6,e7⟩:=e
 exact⟨⟨e1,e2,e3,eq_of_beq e4⟩,e5,e6,λf hf=>eq_of_beq (List.all_eq_true.mp e7 f hf)⟩
theorem kt{m:Str}(e:qo K K' C m=true):∀ f,W.findIn K (.ref C) m=some (some (.ref f))->W.findIn K' (.ref C) m=some (some (.ref f))/\W.isFn K' (.ref f)=true:=λf hf=>by
 unfold qo at e
 rw[Bool.and_eq_true]at e
 have e1:=(eq_of_beq e.1).trans hf
 refine⟨e1,?_⟩
 have e2:=e.2
 rw[e1]at e2
 exact e2
theorem Up(X:K.In h)(G:h.Ns mainGlobals mg)(e:Si K K' x=true):∃ c,og K x=some c/\Err K' mg x c:=by
 unfold Si at e
 cases q:og K x with
 | none=>rw[q]at e;cases e
 | some c=>
  rw[q]at e
  have e:=Bool.and_eq_true_iff.mp e
  exact⟨c,rfl,W.mg_of X G (rj q),e.1,e.2⟩
theorem ee{α β:Type}{f:α->β}{l:List α}{m:List β}(e:l.map f=m){i:Nat}{a:α}(h:l[i]? = some a){b:β}(h2:m[i]? = some b):f a=b:=by
 rw[<- e,List.getElem?_map,h]at h2
 exact Option.some.inj h2
theorem Sj(X:K.In h)(G:h.Ns mainGlobals mg)(k:Known K dA dS C R lA lS):Errs (cutK K dA dS) mg (erOf K):=by
 have at1:∀ (i:Nat) (x:Str),kh[i]? = some x->i<8->Err (cutK K dA dS) mg x (erOf K (-((i:Int)+1)))/\og K x=some (erOf K (-((i:Int)+1))):=λi x hx hi=>by
  have e:=ee k.errs hx (b:=true) (match i,hi with
   | 0,_=>rfl | 1,_=>rfl | 2,_=>rfl | 3,_=>rfl | 4,_=>rfl | 5,_=>rfl | 6,_=>rfl | 7,_=>rfl)
  obtain⟨c,hc,he⟩:=Up X G e
  have ec:erOf K (-((i:Int)+1))=c:=by
   unfold erOf
   rw[show(- -((i:Int)+1)).toNat - 1=i by omega,hx]
   show((og K x)).getD 0=c
   rw[hc]
   rfl
  rw[ec]
  exact⟨he,hc⟩
 refine⟨(at1 0 _ rfl (by decide)).1,(at1 1 _ rfl (by decide)).1,(at1 2 _ rfl (by decide)).1,(at1 3 _ rfl (by decide)).1,(at1 4 _ rfl (by decide)).1,(at1 5 _ rfl (by decide)).1,(at1 6 _ rfl (by decide)).1,(at1 7 _ rfl (by decide)).1,λi j hi1 hi2 hj1 hj2 hij=>?_⟩
 have nd:=of_decide_eq_true k.apart
 obtain⟨a,ha,rfl⟩:∃ a:Nat,a<8/\i=-((a:Int)+1):=⟨(-i).toNat - 1,by omega,by omega⟩
 obtain⟨b,hb,rfl⟩:∃ b:Nat,b<8/\j=-((b:Int)+1):=⟨(-j).toNat - 1,by omega,by omega⟩
 have hla:a<kh.length:=ha
 have hlb:b<kh.length:=hb
 have ea:=(at1 a _ (List.getElem?_eq_getElem hla) ha).2
 have eb:=(at1 b _ (List.getElem?_eq_getElem hlb) hb).2
 have e:a=b:=by
  refine Vi nd (i:=a) (j:=b) (x:=some (erOf K (-((a:Int)+1)))) ?_ ?_
  .rw[List.getElem?_map,List.getElem?_eq_getElem hla,Option.map_some,ea]
  .rw[List.getElem?_map,List.getElem?_eq_getElem hlb,Option.map_some,eb,hij]
 rw[e]
end
theorem Hx(k:Nat):∀ (l:List (Nat×Addr)) (s i:Nat),k=s+i->((l.zipIdx s).map λp=>((.inl (p.2:Int):Key),V.ref p.1.2)).find? (λkv=>decide (kv.1=.inl (k:Int)))=(l[i]?).map λp=>((.inl (k:Int):Key),V.ref p.2)
 | [],s,i,h=>rfl
 | x::l,s,0,h=>by
  rw[List.zipIdx_cons,List.map_cons,List.find?_cons,h]
  have e:decide ((.inl ((s:Nat):Int):Key)=.inl ((s+0:Nat):Int))=true:=decide_eq_true rfl
  rw[e]
  rfl
 | x::l,s,i+1,h=>by
  rw[List.zipIdx_cons,List.map_cons,List.find?_cons]
  have e:decide ((.inl ((s:Nat):Int):Key)=.inl (k:Int))=false:=decide_eq_false λz=>by
   have:(s:Int)=(k:Int):=by injection z
   omega
  rw[e]
  exact Hx k l (s+1) i (by omega)
theorem O5(l:List (Nat×Addr))(i:Nat):valV (kvOf l) (.inl (i:Int))=(l[i]?).map λp=>V.ref p.2:=by
 unfold valV kvOf
 have:=Hx i l 0 i (by omega)
 rw[show l.zipIdx=l.zipIdx 0 from rfl,this]
 cases l[i]? <;> rfl
section
variable{P:Program}{w:World}{K:W.Frag}{dA dS C R T:Addr}{lA lS:List (Nat×Addr)}{mg:Str->Option Value}{h base:Heap}{x:Str}
theorem Ja(k:Known K dA dS C R lA lS):L3 (cutK K dA dS) (kvOf lS):=by
 have at1:∀ (i nw nr:Nat),i<13->([some [1,2],some [0,1],some [0,0],some [1,0],some [2,0],some [2,0],some [1,1],some [1,0],some [0,0],some [0,0],some [2,0],some [2,0],some [0,1]]:List (Option (List Int)))[i]? = some (some [(nw:Int),(nr:Int)]) ->
   ∃ b,valV (kvOf lS) (.inl (i:Int))=some (.ref b)/\∀ H,SqT (cutK K dA dS) H b [.int (nw:Nat),.int (nr:Nat)]:=λi nw nr hi hh=>by
  have hl:i<lS.length:=by rw[k.lenS];exact hi
  have e:=ee k.kS (List.getElem?_eq_getElem hl) hh
  refine⟨lS[i].2,?_,λH=>Ez e (by show 2<=100;decide) H⟩
  rw[O5,List.getElem?_eq_getElem hl]
  rfl
 intro n nw nr hs
 rcases i5 hs with ⟨rfl,rfl,rfl⟩|⟨rfl,rfl,rfl⟩|⟨rfl,rfl,rfl⟩|⟨rfl,rfl,rfl⟩|⟨rfl,rfl,rfl⟩|⟨rfl,rfl,rfl⟩|⟨rfl,rfl,rfl⟩|⟨rfl,rfl,rfl⟩|⟨rfl,rfl,rfl⟩|⟨rfl,rfl,rfl⟩|⟨rfl,rfl,rfl⟩|⟨rfl,rfl,rfl⟩|⟨rfl,rfl,rfl⟩
 .exact at1 0 _ _ (by decide) rfl
 .exact at1 1 _ _ (by decide) rfl
 .exact at1 2 _ _ (by decide) rfl
 .exact at1 3 _ _ (by decide) rfl
 .exact at1 4 _ _ (by decide) rfl
 .exact at1 5 _ _ (by decide) rfl
 .exact at1 6 _ _ (by decide) rfl
 .exact at1 7 _ _ (by decide) rfl
 .exact at1 8 _ _ (by decide) rfl
 .exact at1 9 _ _ (by decide) rfl
 .exact at1 10 _ _ (by decide) rfl
 .exact at1 11 _ _ (by decide) rfl
 .exact at1 12 _ _ (by decide) rfl
theorem Ed(X:K.In h)(G:h.Ns mainGlobals mg)(k:Known K dA dS C R lA lS):KvOf mg (kvOf lA):=λi x hx=>by
 have hi:i<u5.length:=(List.getElem?_eq_some_iff.mp hx).1
 have hl:i<lA.length:=by rw[k.lenA];exact hi
 have e:=ee k.kA hx (b:=some lA[i].2) (by rw[List.getElem?_map,List.getElem?_eq_getElem hl];rfl)
 refine⟨lA[i].2,W.mg_of X G (rj e),?_⟩
 rw[O5,List.getElem?_eq_getElem hl]
 rfl
theorem L9(X:K.In h)(G:h.Ns mainGlobals mg)(k:Known K dA dS C R lA lS)(hL:∀ f fd,Fun (cutK K dA dS) "ordered_columns" "ordered_columns" d_ordered_columns f fd->mg "ordered_columns"=some (.ref f)->LamEnv mg base fd.code T):Texts (cutK K dA dS) mg base T C R:=by
 have cC:=Gk k.clsC
 have cR:=Gk k.clsR
 exact {
  d_common_divisor:=DefK.df k.oA k.oS X G k.d_common_divisor pd
  d_lowest_terms:=DefK.df k.oA k.oS X G k.d_lowest_terms vy
  d_plus:=DefK.df k.oA k.oS X G k.d_plus So
  d_opposite:=DefK.df k.oA k.oS X G k.d_opposite Eu
  d_minus:=DefK.df k.oA k.oS X G k.d_minus O3
  d_times:=DefK.df k.oA k.oS X G k.d_times O1
  d_turned_over:=DefK.df k.oA k.oS X G k.d_turned_over wz
  d_over:=DefK.df k.oA k.oS X G k.d_over Sq
  d_weight:=DefK.df k.oA k.oS X G k.d_weight Lx
  d_read_fractions:=DefK.df k.oA k.oS X G k.d_read_fractions o7
  d_well_formed:=DefK.df k.oA k.oS X G k.d_well_formed wy
  d_line_at:=DefK.df k.oA k.oS X G k.d_line_at Hq
  d_split_lines:=DefK.df k.oA k.oS X G k.d_split_lines w8
  d_parts:=DefK.df k.oA k.oS X G k.d_parts O2
  d_uses_are_there:=DefK.df k.oA k.oS X G k.d_uses_are_there o6
  d_line_hangs:=DefK.df k.oA k.oS X G k.d_line_hangs Ar
  d_hanging:=DefK.df k.oA k.oS X G k.d_hanging Hr
  d_pattern_rows:=DefK.df k.oA k.oS X G k.d_pattern_rows vg
  d_entry_columns:=DefK.df k.oA k.oS X G k.d_entry_columns qt
  d_joined:=DefK.df k.oA k.oS X G k.d_joined Ly
  d_divides_by_zero:=DefK.df k.oA k.oS X G k.d_divides_by_zero ni
  d_line_value:=DefK.df k.oA k.oS X G k.d_line_value Aq
  d_run:=DefK.df k.oA k.oS X G k.d_run Uw
  d_share_entry:=DefK.df k.oA k.oS X G k.d_share_entry w9
  d_columns_met:=DefK.df k.oA k.oS X G k.d_columns_met xj
  d_meeting_columns:=DefK.df k.oA k.oS X G k.d_meeting_columns nh
  d_side_entries:=DefK.df k.oA k.oS X G k.d_side_entries vf
  d_meeting_pairs:=DefK.df k.oA k.oS X G k.d_meeting_pairs qr
  d_fewest_met:=DefK.df k.oA k.oS X G k.d_fewest_met As
  d_taken_away_order:=DefK.df k.oA k.oS X G k.d_taken_away_order lx
  d_ordered_columns:=by
   obtain⟨f,fd,F,hm,hb⟩:=DefK.df k.oA k.oS X G k.d_ordered_columns ng
   exact⟨f,fd,F,hm,hb,hL f fd F hm⟩
  d_least_other:=DefK.df k.oA k.oS X G k.d_least_other xh
  d_colour_count:=DefK.df k.oA k.oS X G k.d_colour_count v8
  d_told_colours:=DefK.df k.oA k.oS X G k.d_told_colours u9
  d_first_clash:=DefK.df k.oA k.oS X G k.d_first_clash xi
  d_can_be_coloured:=DefK.df k.oA k.oS X G k.d_can_be_coloured nj
  d_fewest_colours:=DefK.df k.oA k.oS X G k.d_fewest_colours pc
  d_product_change:=DefK.df k.oA k.oS X G k.d_product_change o8
  d_quotient_change:=DefK.df k.oA k.oS X G k.d_quotient_change nc
  d_line_change:=DefK.df k.oA k.oS X G k.d_line_change xg
  d_line_changes:=DefK.df k.oA k.oS X G k.d_line_changes vz
  d_colour_direction:=DefK.df k.oA k.oS X G k.d_colour_direction ly
  d_colour_directions:=DefK.df k.oA k.oS X G k.d_colour_directions km
  d_out_changes:=DefK.df k.oA k.oS X G k.d_out_changes xc
  d_packed_by_columns:=DefK.df k.oA k.oS X G k.d_packed_by_columns kl
  d_whole_table:=DefK.df k.oA k.oS X G k.d_whole_table wx
  d_sum_of_rows:=DefK.df k.oA k.oS X G k.d_sum_of_rows w6
  d_packed_by_rows:=DefK.df k.oA k.oS X G k.d_packed_by_rows o9
  d_packed_table:=DefK.df k.oA k.oS X G k.d_packed_table vq
  d_told_apart:=DefK.df k.oA k.oS X G k.d_told_apart An
  d_within:=DefK.df k.oA k.oS X G k.d_within Lw
  d_need_side:=DefK.df k.oA k.oS X G k.d_need_side Cp
  d_need_order:=DefK.df k.oA k.oS X G k.d_need_order Ap
  d_need_outs:=DefK.df k.oA k.oS X G k.d_need_outs Cq
  d_need_colours:=DefK.df k.oA k.oS X G k.d_need_colours vx
  d_need_values:=DefK.df k.oA k.oS X G k.d_need_values xf
  d_tell_table:=DefK.df k.oA k.oS X G k.d_tell_table Ao
  d_answer_pattern:=DefK.df k.oA k.oS X G k.d_answer_pattern pf
  d_answer_meets:=DefK.df k.oA k.oS X G k.d_answer_meets wd
  d_answer_order:=DefK.df k.oA k.oS X G k.d_answer_order wc
  d_answer_colours:=DefK.df k.oA k.oS X G k.d_answer_colours ph
  d_answer_check:=DefK.df k.oA k.oS X G k.d_answer_check wj
  d_answer_least:=DefK.df k.oA k.oS X G k.d_answer_least we
  d_answer_plan:=DefK.df k.oA k.oS X G k.d_answer_plan xk
  d_answer_dense:=DefK.df k.oA k.oS X G k.d_answer_dense wg
  d_tell_packed_apart:=DefK.df k.oA k.oS X G k.d_tell_packed_apart kj
  d_answer_packed:=DefK.df k.oA k.oS X G k.d_answer_packed qu
  d_answer_table:=DefK.df k.oA k.oS X G k.d_answer_table wa
  d_answer_apart:=DefK.df k.oA k.oS X G k.d_answer_apart wk
  d_answer_code:=DefK.df k.oA k.oS X G k.d_answer_code xn
  d_answer_point:=DefK.df k.oA k.oS X G k.d_answer_point wb
  d_answer_call:=DefK.df k.oA k.oS X G k.d_answer_call xo
  d_answer_next:=DefK.df k.oA k.oS X G k.d_answer_next xl
  d_answers:=DefK.df k.oA k.oS X G k.d_answers Hs
  d_Held_pattern:=gz.dm k.oA k.oS k.d_Held_pattern (kt k.f_Held_pattern) wl
  d_Held_columns_met:=gz.dm k.oA k.oS k.d_Held_columns_met (kt k.f_Held_columns_met) lz
  d_Held_take_program:=gz.dm k.oA k.oS k.d_Held_take_program (kt k.f_Held_take_program) ko
  d_Held_take_point:=gz.dm k.oA k.oS k.d_Held_take_point (kt k.f_Held_take_point) nn
  d_Reader_at_end:=gz.dm k.oA k.oS k.d_Reader_at_end (kt k.f_Reader_at_end) qv
  d_Reader_take_number:=gz.dm k.oA k.oS k.d_Reader_take_number (kt k.f_Reader_take_number) j3
  d_Reader_take_numbers:=gz.dm k.oA k.oS k.d_Reader_take_numbers (kt k.f_Reader_take_numbers) jk
  d_Reader_take_row:=gz.dm k.oA k.oS k.d_Reader_take_row (kt k.f_Reader_take_row) nk
  d_Held_init:=by
   obtain⟨f,fd,F,M,hb⟩:=gz.dm k.oA k.oS k.d_Held_init (kt k.f_Held_init) Cr
   exact⟨f,fd,F,⟨cC.2.1,M.at_,M.fn,cC.2.2.1⟩,hb⟩
  d_Reader_init:=by
   obtain⟨f,fd,F,M,hb⟩:=gz.dm k.oA k.oS k.d_Reader_init (kt k.f_Reader_init) xq
   exact⟨f,fd,F,⟨cR.2.1,M.at_,M.fn,cR.2.2.1⟩,hb⟩
 }
theorem Uv(X:K.In h)(G:h.Ns mainGlobals mg)(k:Known K dA dS C R lA lS):Blt mg:={
 abs:=W.mg_none_of X G (ee k.blt (i:=0) (a:=("abs":Str)) rfl rfl)
 len:=W.mg_none_of X G (ee k.blt (i:=1) (a:=("len":Str)) rfl rfl)
 range:=W.mg_none_of X G (ee k.blt (i:=2) (a:=("range":Str)) rfl rfl)
 any:=W.mg_none_of X G (ee k.blt (i:=3) (a:=("any":Str)) rfl rfl)
 all:=W.mg_none_of X G (ee k.blt (i:=4) (a:=("all":Str)) rfl rfl)
 min:=W.mg_none_of X G (ee k.blt (i:=5) (a:=("min":Str)) rfl rfl)
 max:=W.mg_none_of X G (ee k.blt (i:=6) (a:=("max":Str)) rfl rfl)
 list:=W.mg_none_of X G (ee k.blt (i:=7) (a:=("list":Str)) rfl rfl)
 tuple:=W.mg_none_of X G (ee k.blt (i:=8) (a:=("tuple":Str)) rfl rfl)
 sorted:=W.mg_none_of X G (ee k.blt (i:=9) (a:=("sorted":Str)) rfl rfl)
 reversed:=W.mg_none_of X G (ee k.blt (i:=10) (a:=("reversed":Str)) rfl rfl)
 enumerate:=W.mg_none_of X G (ee k.blt (i:=11) (a:=("enumerate":Str)) rfl rfl)
 zip:=W.mg_none_of X G (ee k.blt (i:=12) (a:=("zip":Str)) rfl rfl)
}
theorem Ht(X:K.In h)(G:h.Ns mainGlobals mg)(k:Known K dA dS C R lA lS)(c0:Calm0 P base)(hL:∀ f fd,Fun (cutK K dA dS) "ordered_columns" "ordered_columns" d_ordered_columns f fd->mg "ordered_columns"=some (.ref f)->LamEnv mg base fd.code T) :
  Fn P w (cutK K dA dS) mg base (CXE P w) 56 "answers" ["calls"] (jp (cutK K dA dS) T dA dS (kvOf lA) (kvOf lS)):=by
 have cC:=Gk k.clsC
 have cR:=Gk k.clsR
 have m1:∀ {l:List Str} {x:Str} {i:Nat},l[i]? = some x->x∈l:=λh=>List.mem_of_getElem? h
 exact U3 (Uv X G k) c0 ⟨cr X G k.i_INPUT,cr X G k.i_CONSTANT,cr X G k.i_SUM,cr X G k.i_DIFFERENCE,cr X G k.i_PRODUCT,cr X G k.i_QUOTIENT,cr X G k.i_OPPOSITE⟩ (yw X G k.behind (by show 7<=100;decide))
  ⟨cr X G k.i_NO_FAULT,cr X G k.i_DIVISOR_FAULT,cr X G k.i_WEIGHT_FAULT,cr X G k.i_MOST_WEIGHT⟩ (cr X G k.i_NO_COLOUR) (yw X G k.nought (by show 2<=100;decide)) (yw X G k.one (by show 2<=100;decide))
  ⟨cC.1,cC.2.2.2 _ (m1 (i:=0) rfl),cC.2.2.2 _ (m1 (i:=1) rfl),cC.2.2.2 _ (m1 (i:=2) rfl),cC.2.2.2 _ (m1 (i:=3) rfl)⟩ ⟨cR.1,cR.2.2.2 _ (m1 (i:=0) rfl),cR.2.2.2 _ (m1 (i:=1) rfl)⟩ (Sj X G k)
  ⟨cr X G k.i_COLUMN_SIDE,cr X G k.i_ROW_SIDE,⟨cr X G k.i_NUMBER_ORDER,cr X G k.i_MOST_MET_ORDER,cr X G k.i_TAKEN_AWAY_ORDER⟩,cr X G k.i_MOST_INPUTS,cr X G k.i_MOST_LINES,cr X G k.i_MOST_OUTS,cr X G k.i_GREATEST_COLOUR,cr X G k.i_MOST_COLUMNS_FOR_LEAST,cr X G k.i_MOST_TOLD_WEIGHT⟩
  (W.mg_of X G k.mA) (W.mg_of X G k.mS) (W.mg_of X G k.mC) (W.mg_of X G k.mR) (Ja k) (Ed X G k) (L9 X G k hL)
end
theorem defK_mk{K:W.Frag}{x:Str}{st:Stmt}{f:Addr}{oc:Value}{od an:Option Addr}{sl:Array (Option Value)}{kV dc pm cd ct:Value}(a:W.nsIn K mainGlobals x=some (some (.ref f)))(l:K.lookup f=some ⟨oc,od,.func (W.fnOf x x (gj st) (dt st) (au st) .none kV dc pm an cd ct),sl⟩)(c:W.codeIn K cd x=true):DefK K x st:=⟨f,oc,od,kV,dc,pm,an,cd,ct,sl,a,l,c⟩
theorem methK_mk{K:W.Frag}{C:Addr}{m qual:Str}{st:Stmt}{f:Addr}{oc:Value}{od an:Option Addr}{sl:Array (Option Value)}{kV dc pm cd ct:Value}(a:W.findIn K (.ref C) m=some (some (.ref f)))(i:W.isFn K (.ref f)=true)(l:K.lookup f=some ⟨oc,od,.func (W.fnOf m qual (gj st) (dt st) (au st) .none kV dc pm an cd ct),sl⟩)(c:W.codeIn K cd qual=true):gz K C m qual st:=⟨f,oc,od,kV,dc,pm,an,cd,ct,sl,a,i,l,c⟩
theorem S0{K:W.Frag}{mg:Str->Option Value}{h:Heap}{x:Str}{t f0 c0 T:Addr}{o0:Obj}{fd0:FuncData}{ps:Array Value}(X:K.In h)(G:h.Ns mainGlobals mg)(e:P5 K x=some t)(t1:mg x=some (.ref f0))(t2:h.get? f0=some o0)(t3:o0.data=.func fd0)(t4:fd0.code=.ref c0)(t6:h.TableAt c0 T ps):t=T:=by
 unfold P5 at e
 obtain⟨f,ef,e⟩:=Option.bind_eq_some_iff.mp e
 have m:=W.mg_of X G (rj ef)
 rw[t1]at m
 cases m
 split at e
 .next oc od fd sl z=>
  have z2:=X _ _ z
  rw[t2]at z2
  cases z2
  cases t3
  split at e
  .next c hc=>
   rw[t4]at hc
   cases hc
   split at e
   .next oc2 od2 vs sl2 zz=>
    have zz2:=X _ _ zz
    obtain⟨⟨o,vs2,g1,g2,g3,g4⟩,_⟩:=t6
    rw[zz2]at g1
    cases g1
    cases g3
    split at e
    .next t' ht=>
     cases e
     rw[g4]at ht
     cases ht
     rfl
    .cases e
   .cases e
  .cases e
 .cases e
theorem walk_ours{q:Program}{loose:List Str}{XP:(Str->Option Value)->Heap->Prop}{YP:World->Heap->Prop}{d:DefRec}{K:Params->W.Frag}{dA dS:Addr}{lA lS:List (Nat×Addr)}
  (hn:d.name="answers") (himp:importsNone q=true) (hrec:((recsOf q).any λd=>d.name=="ordered_columns")=true) (hY:∀ (w:World) (h:Heap),YP w h->(K w.params).In h) (HK:∀ w:World,∃ C R,Known (K w.params) dA dS C R lA lS) :
  W.WalkOS q loose XP YP PySem.Challenge.rw_sparsetables_s01_answers d [] (λf vs=>PySem.call f vs):=by
 intro w s_0 s₁ mg mb G Y fa o pm cd doc dV kV ho hd hcd hD hmg hg args vals as hpre hlay hrd hwl hlo
 obtain⟨a,e1,e2⟩:=W.os_pre_some hpre
 obtain⟨e3,hwi⟩:=Codec.encAll_of_decAll PySem.Challenge.rw_sparsetables_s01_answers.args args a e1
 subst e3
 have hwell:PySem.Challenge.rw_sparsetables_s01_answers.wellSaid=true:=by decide +kernel
 have KX:=hY w _ Y
 obtain⟨C,R,k⟩:=HK w
 obtain⟨d0,hd0,hd0n⟩:=List.any_eq_true.mp hrec
 have hd0n:d0.name="ordered_columns":=eq_of_beq hd0n
 obtain⟨f0,o0,fd0,c0,T,t1,t2,t3,t4,t5,t6⟩:=G.T.tab d0 hd0
 rw[hd0n]at t1
 have hKT:(K w.params).lookup T=none:=by
  obtain⟨t,et,en⟩:=Option.map_eq_some_iff.mp k.tab
  have:=S0 KX G.T.g et t1 t2 t3 t4 t6
  subst this
  exact Option.isNone_iff_eq_none.mp en
 obtain⟨epA,oA⟩:=k.oA
 obtain⟨epS,oS⟩:=k.oS
 have hA:=KX _ _ oA
 have hS:=KX _ _ oS
 have hT:=t6.2
 have nTA:T≠dA:=λz=>by rw[z,hA]at hT;cases hT
 have nTS:T≠dS:=λz=>by rw[z,hS]at hT;cases hT
 have nAS:dA≠dS:=ne_of_beq_false k.dne
 have KC:(cutK (K w.params) dA dS).In s₁.heap:=λb o e=>KX b o (Po e).1
 obtain⟨A,hoA,ar⟩:=rq _ vals hwl (tu _ _) (wu hlay)
 have hSA:=Ge KC ar _ vals hwl (tu _ _) hoA
 have hV:=j4 hoA
 obtain⟨H,hH⟩:∃ H:Hp,H=upd (upd (upd (argH (cutK (K w.params) dA dS) s₁.heap A) dA (.frz { cls:=.type "dict",data:=.dict (lA.zipIdx.map λp=>Ak p.2 p.1).toArray epA } (.dK (kvOf lA)))) dS (.frz { cls:=.type "dict",data:=.dict (lS.zipIdx.map λp=>Ak p.2 p.1).toArray epS } (.dK (kvOf lS)))) T (.tbl #[]):=⟨_,rfl⟩
 have HT:H T=some (.tbl #[]):=by rw[hH,ak]
 have HS:H dS=some (.frz { cls:=.type "dict",data:=.dict (lS.zipIdx.map λp=>Ak p.2 p.1).toArray epS } (.dK (kvOf lS))):=by rw[hH,ay nTS.symm,ak]
 have HA:H dA=some (.frz { cls:=.type "dict",data:=.dict (lA.zipIdx.map λp=>Ak p.2 p.1).toArray epA } (.dK (kvOf lA))):=by rw[hH,ay nTA.symm,ay nAS,ak]
 have HO:∀ b,b≠T->b≠dA->b≠dS->H b=argH (cutK (K w.params) dA dS) s₁.heap A b:=λb n1 n2 n3=>by rw[hH,ay n1,ay n3,ay n2]
 have argNo:∀ b u,argH (cutK (K w.params) dA dS) s₁.heap A b=some u->b≠T/\b≠dA/\b≠dS:=λb u z=>by
  obtain⟨_,vs,_,_,⟨e,_⟩|⟨e,_⟩⟩:=l4 ar z
  .exact⟨λy=>(by rw[y,hT]at e;cases e),λy=>(by rw[y,hA]at e;exact absurd (Value.type.inj (congrArg Obj.cls (Option.some.inj e))) (by decide)),λy=>(by rw[y,hS]at e;exact absurd (Value.type.inj (congrArg Obj.cls (Option.some.inj e))) (by decide))⟩
  .exact⟨λy=>(by rw[y,hT]at e;cases e),λy=>(by rw[y,hA]at e;exact absurd (Value.type.inj (congrArg Obj.cls (Option.some.inj e))) (by decide)),λy=>(by rw[y,hS]at e;exact absurd (Value.type.inj (congrArg Obj.cls (Option.some.inj e))) (by decide))⟩
 have same:Same (argH (cutK (K w.params) dA dS) s₁.heap A) H:=λb u z=>by
  obtain⟨n1,n2,n3⟩:=argNo b u z
  rw[HO b n1 n2 n3]
  exact z
 have far:=List.all_eq_true.mp k.far
 have farA:∀ b∈[mainGlobals,builtinsNs,cStatics,sysModules],b≠dA/\b≠dS:=λb hb=>by
  have z:=far b hb
  rw[Bool.and_eq_true,Bool.not_eq_true',Bool.not_eq_true']at z
  exact⟨ne_of_beq_false z.1,ne_of_beq_false z.2⟩
 have hok:HOk PySem.Challenge.rw_sparsetables_s01_answers.prog w H s₁.heap:=λb u z=>by
  by_cases n1:b=T
  .subst n1
   rw[HT]at z
   cases z
   exact hT
  .by_cases n2:b=dA
   .subst n2
    rw[HA]at z
    cases z
    exact Lf hA (by rw[k.lenA];exact Nat.le_refl _) (beq_false_of_ne λy=>(farA sysModules (by simp)).1 y.symm)
   .by_cases n3:b=dS
    .subst n3
     rw[HS]at z
     cases z
     exact Lf hS (by rw[k.lenS];exact Nat.le_refl _) (beq_false_of_ne λy=>(farA sysModules (by simp)).2 y.symm)
    .rw[HO b n1 n2 n3]at z
     obtain⟨_,vs,g1,g2,⟨e,rfl⟩|⟨e,rfl⟩⟩:=l4 ar z
     .exact⟨e,by rw[List.length_map];omega,vs,_,j4 g2,e⟩
     .exact⟨e,by rw[List.length_map];omega,vs,j4 g2,_,e,rfl,_,rfl⟩
 have free:∀ {b:Addr} {o:Obj},s₁.heap.get? b=some o->b≠dA->b≠dS->o.cls≠.none->(∀ vs n,o.data≠.seq vs n)->H b=none:=λ{b o} e n2 n3 hc hd=>by
  have n1:b≠T:=λy=>by
   rw[y,hT]at e
   cases e
   exact hc rfl
  rw[HO b n1 n2 n3]
  cases z:argH (cutK (K w.params) dA dS) s₁.heap A b with
  | none=>rfl
  | some u=>
   obtain⟨_,vs,_,_,⟨e2,_⟩|⟨e2,_⟩⟩:=l4 ar z
   .rw[e2]at e
    cases e
    exact absurd rfl (hd _ _)
   .rw[e2]at e
    cases e
    exact absurd rfl (hd _ _)
 have nK:∀ b o,(cutK (K w.params) dA dS).lookup b=some o->H b=none/\b≠T:=λb o e=>by
  obtain⟨z,n2,n3⟩:=Po e
  have n1:b≠T:=λy=>by rw[y,hKT]at z;cases z
  refine⟨?_,n1⟩
  rw[HO b n1 n2 n3]
  cases zz:argH (cutK (K w.params) dA dS) s₁.heap A b with
  | none=>rfl
  | some u=>
   have:=(l4 ar zz).1
   rw[e]at this
   cases this
 have hKb:(cutK (K w.params) dA dS).In (hidT s₁.heap H):=λb o e=>rm (KC b o e) (nK b o e).1
 have nsF:∀ {b:Addr} {m:Str->Option Value},b∈[mainGlobals,builtinsNs,cStatics,sysModules]->s₁.heap.Ns b m->(hidT s₁.heap H).Ns b m:=λ{b m} hb ⟨o,es,ep,e,d,r⟩=>by
  refine⟨o,es,ep,rm e ?_,d,r⟩
  have n1:b≠T:=λy=>by
   rw[y,hT]at e
   cases e
   cases d
  rw[HO b n1 (farA b hb).1 (farA b hb).2]
  cases z:argH (cutK (K w.params) dA dS) s₁.heap A b with
  | none=>rfl
  | some u=>
   obtain⟨_,vs,_,_,⟨e2,_⟩|⟨e2,_⟩⟩:=l4 ar z
   .rw[e2]at e
    cases e
    cases d
   .rw[e2]at e
    cases e
    cases d
 have hM:Mod (cutK (K w.params) dA dS) mg (hidT s₁.heap H):=⟨hKb,nsF (by simp) G.T.g,⟨mb,nsF (by simp) G.T.b,G.T.builtins⟩,let ⟨mc,h1,h2⟩:=G.T.nolimit;⟨mc,nsF (by simp) h1,h2⟩⟩
 have modF:∀ {b:Addr} {ob:Obj},s₁.heap.get? b=some ob->ob.cls=.type "module"->(hidT s₁.heap H).get? b=some ob:=λ{b ob} e hc=>by
  refine rm e ?_
  have n2:b≠dA:=λy=>by
   rw[y,hA]at e
   cases e
   exact absurd (Value.type.inj hc) (by decide)
  have n3:b≠dS:=λy=>by
   rw[y,hS]at e
   cases e
   exact absurd (Value.type.inj hc) (by decide)
  have n1:b≠T:=λy=>by
   rw[y,hT]at e
   cases e
   cases hc
  rw[HO b n1 n2 n3]
  cases z:argH (cutK (K w.params) dA dS) s₁.heap A b with
  | none=>rfl
  | some u=>
   obtain⟨_,vs,_,_,⟨e2,_⟩|⟨e2,_⟩⟩:=l4 ar z
   .rw[e2]at e
    cases e
    exact absurd (Value.type.inj hc) (by decide)
   .rw[e2]at e
    cases e
    exact absurd (Value.type.inj hc) (by decide)
 have calm:Calm0 PySem.Challenge.rw_sparsetables_s01_answers.prog (hidT s₁.heap H):=by
  have sr:=G.T.seer himp
  obtain⟨mc,s1,s2⟩:=sr.statics
  obtain⟨mm,s3,s4⟩:=sr.mods
  obtain⟨mb2,s5,s6⟩:=sr.imp
  obtain⟨mg2,bm,ob,s7,s8,s9,s10,s11⟩:=sr.main
  exact⟨⟨⟨mc,nsF (by simp) s1,s2⟩,⟨mm,nsF (by simp) s3,s4⟩,⟨mb2,nsF (by simp) s5,s6⟩,⟨mg2,bm,ob,nsF (by simp) s7,s8,modF s9 s10,s10,s11⟩⟩,rfl⟩
 have lam:∀ f fd,Fun (cutK (K w.params) dA dS) "ordered_columns" "ordered_columns" d_ordered_columns f fd->mg "ordered_columns"=some (.ref f)->LamEnv mg (hidT s₁.heap H) fd.code T:=λf fd F hm=>by
  rw[t1]at hm
  cases hm
  have ecd:fd.code=.ref c0:=by
   obtain⟨oc,od,kV,doc,pm,an,cdv,ct,osl,efd,lk,_⟩:=F.ex
   have z:=KC _ _ lk
   rw[t2]at z
   cases z
   cases t3
   exact t4
  refine⟨?_,c0,ecd,?_⟩
  .obtain⟨bm,ob,b1,b2,b3,b4,b5,b6⟩:=G.T.bmain
   exact⟨bm,ob,b1,b2,modF b3 b4,b4,b5,b6⟩
  .obtain⟨oo,vs,file,tf,flags,tg,inF,text,tt,g1,g2,g3,gr⟩:=W.CodeHd.of t5 t6
   refine⟨oo,vs,file,tf,flags,tg,inF,text,tt,rm g1 (free g1 (λy=>?_) (λy=>?_) (λy=>by rw[g2]at y;cases y) (λ_ _ y=>by rw[g3]at y;cases y)),g2,g3,gr⟩
   .rw[y,hA]at g1
    cases g1
    cases g3
   .rw[y,hS]at g1
    cases g1
    cases g3
 obtain⟨fa2,fd,FO,hm2,_,hbind⟩:=Ht (P:=PySem.Challenge.rw_sparsetables_s01_answers.prog) (w:=w) KX G.T.g k calm lam
 rw[hn,hm2]at hmg
 cases hmg
 have e0:Env0 PySem.Challenge.rw_sparsetables_s01_answers.prog w (cutK (K w.params) dA dS) mg (hidT s₁.heap H) callerA [] s₁ H:=⟨rfl,hM,λb o e=>R5 e,Nat.le_of_eq (K0 _ _),trivial,λb hb=>absurd (show b∈([]:List Addr) from hb) (by simp),hok,.of_eq hg⟩
 have hl:(vals++[]).length=(["calls"]:List Str).length:=by
  rw[List.append_nil,iy hwl,yo]
  rfl
 have hV2:Vals (vals.map toV++[]) (vals++[]):=hV.append .nil
 have hsp:jp (cutK (K w.params) dA dS) T dA dS (kvOf lA) (kvOf lS) (vals.map toV++[]) H (λv H'=>Dw (cutK (K w.params) dA dS) H' v (PySem.Challenge.rw_sparsetables_s01_answers.ret.enc (Codec.app PySem.Challenge.rw_sparsetables_s01_answers.args PySem.Challenge.rw_sparsetables_s01_answers.f a))) (λ_ _ _=>False):=by
  rw[List.append_nil]
  generalize vals.map toV=xs at hSA
  cases hSA with
  | cons h1 h2=>
   cases h2
   cases h1 with
   | lst hs ha=>
    have e:=Kx a.1 _ ha
    subst e
    exact⟨_,a.1,rfl,same.seq hs,.inl HT,.inr ⟨_,HA⟩,.inr ⟨_,HS⟩,e2,λp H' _ _ _ hp=>.lst (SqL.of hp) (Le _)⟩
 refine W.enter_call (codeAny_mono (FO.run callerA [] s₁ H ⟨vals,[]⟩ (vals++[]) (vals.map toV++[]) _ _ ⟨rfl,by decide,by decide⟩ e0 (hbind s₁ vals KC hl) hV2 hsp) λr' s' hq=>?_)
 cases r' with
 | error e=>
  obtain⟨_,_,_,_,_,_,_,_,_,_,_,_,hE⟩:=hq
  exact hE.elim
 | ok fl=>
  cases fl with
  | next=>exact False.elim hq
  | brk=>exact False.elim hq
  | cont=>exact False.elim hq
  | ret u=>
   obtain⟨v,H',os,bare,un,hok',r',qd⟩:=hq
   have kept:∀ b o,s₁.heap.get? b=some o->b≠T->s'.heap.get? b=some o:=λb o e n1=>by
    cases q2:H b with
    | none=>exact un.keep b o e q2 (by intro z;exact absurd (show b∈([]:List Addr) from z) (by simp)) (by simp)
    | some u2=>
     have frz:∃ ob u3,H b=some (.frz ob u3):=by
      by_cases n2:b=dA
      .subst n2;exact⟨_,_,HA⟩
      .by_cases n3:b=dS
       .subst n3;exact⟨_,_,HS⟩
       .rw[HO b n1 n2 n3]at q2 ⊢
        obtain⟨_,vs,_,_,⟨_,e5⟩|⟨_,e5⟩⟩:=l4 ar q2
        .exact⟨_,_,by rw[q2,e5]⟩
        .exact⟨_,_,by rw[q2,e5]⟩
     obtain⟨ob,u3,z⟩:=frz
     have z2:=un.frzs b ob _ z
     obtain⟨g1,_⟩:=hok b _ z
     obtain⟨g2,_⟩:=hok' b _ z2
     rw[e]at g1
     cases g1
     exact g2
   obtain⟨more,hmore⟩:=un.tbls T #[] HT
   have hT':s'.heap.get? T=some { cls:=.none,data:=.fields (#[]++more) }:=hok' T _ hmore
   have KX':(cutK (K w.params) dA dS).In s'.heap:=λb o e=>kept b o (KC b o e) (nK b o e).2
   obtain⟨as',hrd'⟩:=Dw.reads (R:=[]) (cl:=classAt s_0.heap) hok' KX' _ v u qd r'
   refine⟨.inl ⟨u,_,as',rfl,λ_=>rfl,hrd',(OpenSpec.post_iff hwell hwi _ _).mpr rfl,λz=>Bool.noConfusion (show false=true from z)⟩,⟨λb o e=>?_,λb o e=>?_⟩,os,bare⟩
   .by_cases n1:b=T
    .subst n1
     rw[hT]at e
     cases e
     exact .inr (.inl ⟨t6.isCodeTable,rfl,#[],more,rfl,hT'⟩)
    .exact .inl (kept b o e n1)
   .by_cases n1:b=T
    .subst n1
     exact⟨_,hT'⟩
    .exact⟨_,kept b o e n1⟩
end Sp
end
section
namespace PySem.W.Fast
def tw11940664094668147818:=0
def tw10259098447769372622:=0
def tw8023069743942879373:=0
def tw8307010038440090987:=0
def tw4664590976664079802:=0
def tw13889656971396456778:=0
def tw228563449616456636:=0
def tw13057415131836724811:=0
def tw4989877939014356979:=0
def tw4764423494127883993:=0
def tw1412879580995253078:=0
def tw7977605343568821732:=0
def tw16581006138810210059:=0
def tw6635721168628049886:=0
def tw1989672744141022948:=0
def tw3934386797307155198:=0
def tw2688680352854613504:=0
def tw17468148040876235777:=0
def tw12071835051712010690:=0
def tw14737763024178270431:=0
def tw14644982443183323239:=0
def tw16359509601342215115:=0
def tw14289831080685344749:=0
def tw8628372478763303022:=0
def tw562614089851660395:=0
def tw11173650490560673906:=0
def tw2789367890728334472:=0
def tw10813377196857208078:=0
def tw1875843352705726627:=0
def tw7683498122151294832:=0
def tw17020963015248652598:=0
def tw14745848599166741251:=0
def tw2282005283384041345:=0
def tw5078752407149575252:=0
def tw2674461379331069232:=0
def tw11143387310770419789:=0
def tw17019968734087068581:=0
def tw16176454964598092375:=0
def tw11874923094782757594:=0
def tw2412000511107251822:=0
def tw3169290279450423052:=0
def tw2429264910585706675:=0
def tw1829480393802466118:=0
def tw14938433454033479374:=0
def tw11141614200106623554:=0
def tw8207937218827887289:=0
def tw2777603991414793967:=0
def tw5090913396682303929:=0
def tw6305494816648880449:=0
def tw14390938317906557772:=0
def tw17145395817468549786:=0
def tw10318189057957613479:=0
def tw16718275601131785171:=0
def tw2332598973535551596:=0
def tw5762734239005133032:=0
def tw4148436889661960586:=0
def tw14075764396278251759:=0
def tw4078237653311057012:=0
def tw8958258771732630693:=0
def tw10550479097566273142:=0
def tw13829007391828407424:=0
def tw7295737874745367789:=0
def tw11494267233601470983:=0
def tw2561567032726184851:=0
def tw3496285978777908622:=0
def tw7538534428824989777:=0
def tw2445512256256370897:=0
def tw7613878097869915380:=0
def tw3852695610958296374:=0
def tw12681246823050888882:=0
def tw11846688524910535317:=0
def tw2722671321293706172:=0
def tw5604406630385878938:=0
def tw3374576193552743889:=0
def tw17439923911601913667:=0
def tw9297349649883706838:=0
def tw16108046660841442246:=0
def tw11097651432973776371:=0
def tw12114305653591540451:=0
def tw15412072817876717967:=0
def tw1132501760893471406:=0
def tw17327404603030108973:=0
def tw1713583073599832378:=0
def tw7175522348199890536:=0
def tw8063127082820496221:=0
def tw8887219111520998033:=0
def tw962275895700103451:=0
def tw13288922302600572366:=0
def tw15920147162935183233:=0
def tw9198199532421980168:=0
def tw12145316872763327857:=0
def tw16716705456392663230:=0
def tw15311295593317518115:=0
def tw3856225816745928669:=0
def tw2470711995037585105:=0
def tw11776196822641339020:=0
def tw1584200858154922333:=0
def tw17928664096123180841:=0
def tw16341130463040855323:=0
def tw16376993072657171059:=0
def tw11813707271699268433:=0
def tw15563149319338262367:=0
def tw7053352481084416261:=0
def tw4960301132253030698:=0
def tw8329341620015507876:=0
def tw5181546064809139585:=0
def tw2281779511320434370:=0
def tw30694845883740377:=0
def tw1623880684935262700:=0
def tw568941273939068242:=0
def tw6777479787413104330:=0
def tw11427842801696460872:=0
def tw2339029957666183960:=0
def tw9095901047499212126:=0
def tw7956749530203723846:=0
def tw4279442315049968528:=0
def tw2864463216441509311:=0
def tw16005721907047292674:=0
def tw4460819874254846105:=0
def tw9110752890194662444:=0
def tw4906463198423709724:=0
def tw8311366848630407208:=0
def tw16993636951176224169:=0
def tw13689948378204022153:=0
def tw11543179005582964738:=0
def tw544499703422354829:=0
def tw16017675548940898461:=0
def tw16015531732049472832:=0
def tw18413964812015780200:=0
def tw16831904477649318211:=0
def tw357782029924269572:=0
def tw10074119929685927856:=0
def tw8392065482285967871:=0
def tw11534262689297521786:=0
def tw10410627103546221504:=0
def tw6625479186225736558:=0
def tw17684409391856394165:=0
def tw9399810590175159253:=0
def tw3979678667560827626:=0
def tw517666238370071709:=0
def tw9341914775237019012:=0
def tw13192821293183120992:=0
def tw4383869058989929071:=0
def tw3170644251848399059:=0
def tw5368204275875990851:=0
def tw14143270298948892127:=0
def tw15982996374181910405:=0
def tw12838161027743901270:=0
def tw6996832965791972636:=0
def tw4826105515711474137:=0
def tw845392254077177605:=0
def tw15384373847178462148:=0
def tw15530835125075795992:=0
def tw573091201264147818:=0
def tw1648212041407670583:=0
def tw13343225516556736280:=0
def tw3625379935410703924:=0
def tw4524740845377960011:=0
def tw616475400635877839:=0
def tw5294089430190998278:=0
def tw13965649844027452768:=0
def tw10067862596356642153:=0
def tw12657291720894653476:=0
def tw16343015236335838899:=0
def tw10891402583342310679:=0
def tw15567979435324778365:=0
def tw10998453031950225380:=0
def tw9307443870429607517:=0
def tw5325007246244704309:=0
def tw6687330920748383823:=0
def tw15214763675001612645:=0
def tw3175168060238849545:=0
def tw14255060882964576865:=0
def tw11087009192561847326:=0
def tw4111182739829662339:=0
def tw6143025856504318315:=0
def tw10132135488220239286:=0
def tw4502125641089276027:=0
def tw7670075878757920954:=0
def tw5273457156759297748:=0
def tw5235149348331501998:=0
def tw7856942685687822496:=0
def tw12772510380859190960:=0
def tw7045743324360073579:=0
def tw15652172167467795080:=0
def tw8155978438381936440:=0
def tw12212490749676004365:=0
def tw4381713076079544890:=0
def tw11244161991596763170:=0
def tw17861147869820655512:=0
def tw12093256188466597613:=0
def tw3670345013004105329:=0
def tw16289137235164163621:=0
def tw9847221223621354836:=0
def tw5629066875708739455:=0
def tw17607219643980330958:=0
def tw8851122734941684892:=0
def tw13099885463672191147:=0
def tw14711266799055542740:=0
def tw9558739089308271670:=0
def tw2929662326259777268:=0
def tw15227507954670888429:=0
def tw8715659199694087612:=0
def tw12199660550797475378:=0
def tw5798455828836575078:=0
def tw3428886206039860206:=0
def tw16423239228182699990:=0
def tw1532501823243029200:=0
def tw648961391661862580:=0
def tw11804079681142387192:=0
def tw5712289181993108234:=0
def tw3506762921222511301:=0
def tw13902977054655651752:=0
def tw11904749810401649139:=0
def tw4339747101558995441:=0
def tw1540897180962791253:=0
def tw6409774788901033302:=0
def tw2338183444525235416:=0
def tw227156391259980589:=0
def tw16225961984170491994:=0
def tw6734590269630077615:=0
def tw5355867042929328080:=0
def tw234993741937142528:=0
def tw17900098953339730331:=0
def tw7529504483692937515:=0
def tw14321483463494106283:=0
def tw4337463188030667709:=0
def tw6962778855449879540:=0
def tw10934438003855801595:=0
def tw12618976227780158152:=0
def tw16816548259879686021:=0
def tw17059359360989565931:=0
def tw14499891389432020072:=0
def tw7904809138335443584:=0
def tw273789646985273865:=0
def tw8826248449087312619:=0
def tw17308308627502750709:=0
def tw13752092507271231607:=0
def tw964792053934596564:=0
def tw1894832131898356516:=0
def tw12649748728540607275:=0
def tw3768906550273523466:=0
def tw1262282523860799702:=0
def tw8316480514858143200:=0
def tw14184178117029766913:=0
def tw9877638520605082957:=0
def tw13325135901933009080:=0
def tw3212447799353663708:=0
def tw7977799822508588781:=0
def tw12400669680343895601:=0
def tw3790267607374135512:=0
def tw5155618421594434528:=0
def tw536113824627986701:=0
def tw6162632023381110460:=0
def tw1065308435707757547:=0
def tw18210227589315469531:=0
def tw11832220335762354493:=0
def tw18235483773686020317:=0
def tw3105377086118263429:=0
end PySem.W.Fast
open PySem PySem.W PyProof.Rows
set_option maxRecDepth 100000 in
set_option maxHeartbeats 0 in
theorem PySem.Challenge.cw_sparsetables_s01_answers_holds : PySem.Challenge.rw_sparsetables_s01_answers.Holds := by
 w_on;k_headS;(case hw=>exact⟨[.list [.int 2]],by decide +kernel,by decide +kernel⟩)
 k_fillS
 refine' Sp.walk_ours (dA:=575) (dS:=632) (lA:=[(1026,483),(1027,490),(1028,497),(1029,504),(1030,511),(1031,518),(1032,525),(1033,532),(1034,539),(1035,546),(1036,553),(1037,560),(1038,567)]) (lS:=[(1132,633),(1135,634),(1138,635),(1141,636),(1144,637),(1147,638),(1150,639),(1153,640),(1156,641),(1159,642),(1162,643),(1165,644),(1168,645)]) rfl ?imp ?rec (λw h Y=>W.kIn_of Y) ?kn
 (case imp=>decide +kernel)
 (case rec=>decide +kernel)
 intro w
 refine' ⟨_,_,?kk⟩
 case kk=>
  refine' ⟨?mA,?mS,?mC,?mR,?oA,?oS,?lenA,?lenS,?far,?dne,?kA,?kS,?nought,?one,?behind,?blt,?i_INPUT,?i_CONSTANT,?i_SUM,?i_DIFFERENCE,?i_PRODUCT,?i_QUOTIENT,?i_OPPOSITE,?i_NO_FAULT,?i_DIVISOR_FAULT,?i_WEIGHT_FAULT,?i_MOST_WEIGHT,?i_NUMBER_ORDER,?i_MOST_MET_ORDER,?i_TAKEN_AWAY_ORDER,?i_COLUMN_SIDE,?i_ROW_SIDE,?i_MOST_INPUTS,?i_MOST_LINES,?i_MOST_OUTS,?i_GREATEST_COLOUR,?i_MOST_COLUMNS_FOR_LEAST,?i_MOST_TOLD_WEIGHT,?i_NO_COLOUR,?clsC,?clsR,?errs,?apart,?tab,?d_common_divisor,?d_lowest_terms,?d_plus,?d_opposite,?d_minus,?d_times,?d_turned_over,?d_over,?d_weight,?d_read_fractions,?d_well_formed,?d_line_at,?d_split_lines,?d_parts,?d_uses_are_there,?d_line_hangs,?d_hanging,?d_pattern_rows,?d_entry_columns,?d_joined,?d_divides_by_zero,?d_line_value,?d_run,?d_share_entry,?d_columns_met,?d_meeting_columns,?d_side_entries,?d_meeting_pairs,?d_fewest_met,?d_taken_away_order,?d_ordered_columns,?d_least_other,?d_colour_count,?d_told_colours,?d_first_clash,?d_can_be_coloured,?d_fewest_colours,?d_product_change,?d_quotient_change,?d_line_change,?d_line_changes,?d_colour_direction,?d_colour_directions,?d_out_changes,?d_packed_by_columns,?d_whole_table,?d_sum_of_rows,?d_packed_by_rows,?d_packed_table,?d_told_apart,?d_within,?d_need_side,?d_need_order,?d_need_outs,?d_need_colours,?d_need_values,?d_tell_table,?d_answer_pattern,?d_answer_meets,?d_answer_order,?d_answer_colours,?d_answer_check,?d_answer_least,?d_answer_plan,?d_answer_dense,?d_tell_packed_apart,?d_answer_packed,?d_answer_table,?d_answer_apart,?d_answer_code,?d_answer_point,?d_answer_call,?d_answer_next,?d_answers,?d_Held_pattern,?f_Held_pattern,?d_Held_columns_met,?f_Held_columns_met,?d_Held_take_program,?f_Held_take_program,?d_Held_take_point,?f_Held_take_point,?d_Reader_at_end,?f_Reader_at_end,?d_Reader_take_number,?f_Reader_take_number,?d_Reader_take_numbers,?f_Reader_take_numbers,?d_Reader_take_row,?f_Reader_take_row,?d_Held_init,?f_Held_init,?d_Reader_init,?f_Reader_init⟩
  (case mA=>k_is)
  (case mS=>k_is)
  (case mC=>k_is)
  (case mR=>k_is)
  (case oA=>exact⟨13,by kernel_rfl⟩)
  (case oS=>exact⟨13,by kernel_rfl⟩)
  case lenA | lenS=>rfl
  case far|dne|kA | kS | nought|one|behind|blt|i_INPUT | i_CONSTANT | i_SUM | i_DIFFERENCE | i_PRODUCT | i_QUOTIENT | i_OPPOSITE | i_NO_FAULT | i_DIVISOR_FAULT | i_WEIGHT_FAULT | i_MOST_WEIGHT | i_NUMBER_ORDER | i_MOST_MET_ORDER | i_TAKEN_AWAY_ORDER | i_COLUMN_SIDE | i_ROW_SIDE | i_MOST_INPUTS | i_MOST_LINES | i_MOST_OUTS | i_GREATEST_COLOUR | i_MOST_COLUMNS_FOR_LEAST | i_MOST_TOLD_WEIGHT | i_NO_COLOUR | clsC | clsR | errs|apart|tab|f_Held_pattern|f_Held_columns_met|f_Held_take_program|f_Held_take_point|f_Reader_at_end|f_Reader_take_number|f_Reader_take_numbers|f_Reader_take_row|f_Held_init|f_Reader_init=>kernel_rfl
  case d_common_divisor|d_lowest_terms|d_plus|d_opposite|d_minus|d_times|d_turned_over|d_over|d_weight|d_read_fractions|d_well_formed|d_line_at|d_split_lines|d_parts|d_uses_are_there|d_line_hangs|d_hanging|d_pattern_rows|d_entry_columns|d_joined|d_divides_by_zero|d_line_value|d_run|d_share_entry|d_columns_met|d_meeting_columns|d_side_entries|d_meeting_pairs|d_fewest_met|d_taken_away_order|d_ordered_columns|d_least_other|d_colour_count|d_told_colours|d_first_clash|d_can_be_coloured|d_fewest_colours|d_product_change|d_quotient_change|d_line_change|d_line_changes|d_colour_direction|d_colour_directions|d_out_changes|d_packed_by_columns|d_whole_table|d_sum_of_rows|d_packed_by_rows|d_packed_table|d_told_apart|d_within|d_need_side|d_need_order|d_need_outs|d_need_colours|d_need_values|d_tell_table|d_answer_pattern|d_answer_meets|d_answer_order|d_answer_colours|d_answer_check|d_answer_least|d_answer_plan|d_answer_dense|d_tell_packed_apart|d_answer_packed|d_answer_table|d_answer_apart|d_answer_code|d_answer_point|d_answer_call|d_answer_next|d_answers=>refine' Sp.defK_mk ?a ?l ?c;(case a=>k_is);(case l=>k_is);(case c=>k_is)
  case d_Held_pattern|d_Held_columns_met|d_Held_take_program|d_Held_take_point|d_Reader_at_end|d_Reader_take_number|d_Reader_take_numbers|d_Reader_take_row|d_Held_init|d_Reader_init=>refine' Sp.methK_mk ?a ?i ?l ?c;(case a=>k_is);(case i=>k_is);(case l=>k_is);(case c=>k_is)
end
