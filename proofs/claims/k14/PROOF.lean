import PyProof.Rows.All
import Wide.All
import OpenK.AllK
import Wide.FinOn
import Lean
import PyProof.EqAt
import PyProof.EqKinds
import PyProof.TupleCall
import PySem.Challenge.RW_wordscales_k14_whole_sums_of_differences
abbrev LPd:=List PySem.PyData
abbrev LAd:=List PySem.Addr
abbrev LNt:=List Nat
abbrev LZr:=List (Nat->Int)
abbrev LQr:=List (Nat->Rat)
abbrev LSr:=List PySem.Str
abbrev LVl:=List PySem.Value
abbrev LSA:=List (PySem.Str×PySem.Addr)
abbrev ShX:=PySem.Shared
abbrev AdX:=PySem.Addr
abbrev PdX:=PySem.PyData
local macro_rules| `(tactic|trivial)=>`(tactic|first |exact .inl rfl|exact .inr rfl|assumption)
local macro_rules|`(tactic|trivial)=>`(tactic|first |exact Or.inl rfl|exact Or.inr (Or.inl rfl)|exact Or.inr (Or.inr rfl))
noncomputable section
abbrev NDx(x:PySem.Str):Prop:=(x==("__debug__":PySem.Str))=false
abbrev NCx(x:PySem.Str):Prop:=(x==("__classdict__":PySem.Str))=false
abbrev VSx:=PySem.Value->PySem.Shared->Prop
abbrev PNx:=List (PySem.Addr×PySem.Obj)
abbrev FRx:=PySem.W.Frag
abbrev Q1x:=Nat->Rat
abbrev Q2x:=Nat->Nat->Rat
abbrev Q3x:=Nat->Nat->Nat->Rat
abbrev Z1x:=Nat->Int
set_option Elab.async false
set_option linter.all false
set_option maxRecDepth 100000
namespace L2
open PySem PySem.Spec PyProof.Rows
abbrev Key:=Sum Int Str
def zkI:Key->Value->Bool
 | .inl k,v=>Value.isInt k v
 | .inr x,v=>Value.isStrOf x v
def zm2(w:World):Key->Int
 | .inl k=>hashInt k
 | .inr x=>hashStr w x
theorem xg:∀{k:Key} {v:Value},zkI k v=true->(∃i t,k=Sum.inl i/\v=Value.int i t)\/(∃x t,k=Sum.inr x/\v=Value.str x t)
 | .inl i,v,h=>by
  obtain⟨t,e⟩:=Value.isInt_shape (k:=i) (v:=v) h;exact .inl ⟨i,t,rfl,e⟩
 | .inr x,v,h=>by
  obtain⟨t,e⟩:=Value.isStrOf_shape (x:=x) (v:=v) h;exact .inr ⟨x,t,rfl,e⟩
theorem zk6(a b:Int):decide ((Sum.inl a:Key)=Sum.inl b)=(a==b):=by
 by_cases e:a=b
 ·subst e;simp
 ·have h:¬(Sum.inl a:Key)=Sum.inl b:=λq=>e (Sum.inl.inj q)
  rw[decide_eq_false h];exact(beq_eq_false_iff_ne.mpr e).symm
theorem zkW(a b:Str):decide ((Sum.inr a:Key)=Sum.inr b)=decide (a=b):=by
 by_cases e:a=b
 ·subst e;simp
 ·have h:¬(Sum.inr a:Key)=Sum.inr b:=λq=>e (Sum.inr.inj q)
  rw[decide_eq_false h,decide_eq_false e]
theorem zk5(a:Int)(b:Str):decide ((Sum.inl a:Key)=Sum.inr b)=false:=decide_eq_false (λq=>nomatch q)
theorem zlq(a:Str)(b:Int):decide ((Sum.inr a:Key)=Sum.inl b)=false:=decide_eq_false (λq=>nomatch q)
def zfs(prog:Program)(w:World):PySem.KeyKind prog w Key where
 is:=zkI
 hash:=zm2 w
 inj:=λv a b ha hb=>by
  rcases xg ha with⟨i,t,rfl,rfl⟩|⟨x,t,rfl,rfl⟩
  ·rcases xg hb with⟨j,u,rfl,e⟩|⟨y,u,rfl,e⟩
   ·injection e with e1 _;rw[e1]
   ·exact nomatch e
  ·rcases xg hb with⟨j,u,rfl,e⟩|⟨y,u,rfl,e⟩
   ·exact nomatch e
   ·injection e with e1 _;rw[e1]
 byValue:=λk v h=>by
  rcases xg h with⟨i,t,rfl,rfl⟩|⟨x,t,rfl,rfl⟩<;>rfl
 pyHash:=λhv h=>by
  rcases xg hv with⟨i,t,rfl,rfl⟩|⟨x,t,rfl,rfl⟩
  ·exact wpAny_pyHash_int h
  ·exact wpAny_pyHash_str h
 eqBool:=λhu hv h=>by
  rcases xg hu with⟨i,t,rfl,rfl⟩|⟨x,t,rfl,rfl⟩
  ·rcases xg hv with⟨j,u,rfl,rfl⟩|⟨y,u,rfl,rfl⟩
   ·rw[zk6] at h;exact wpAny_eqBool_int h
   ·rw[zk5] at h;exact SeqAt.EqAt.int_str i t y u _ _ _ _ h
  ·rcases xg hv with⟨j,u,rfl,rfl⟩|⟨y,u,rfl,rfl⟩
   ·rw[zlq] at h;exact SeqAt.EqAt.str_int x t j u _ _ _ _ h
   ·rw[zkW] at h;exact wpAny_eqBool_str h
 «strs»:=λk x t v h=>by
  rcases xg h with⟨i,u,rfl,e⟩|⟨y,u,rfl,e⟩
  ·exact nomatch e
  ·injection e with e1 _
   subst e1;cases v<;>rfl
inductive V where
 |non|bl (b:Bool)|int (i:Int)|str (x:Str)|byt (b:Array UInt8)|flt (b:UInt64)|ref (a:AdX)|ty (n:String)
 deriving DecidableEq
def RelV:V->Value->Prop
 | .non,u=>u=Value.none
 | .bl b,u=>u=Value.bool b
 | .int i,u=>∃t,u=Value.int i t
 | .str x,u=>∃t,u=Value.str x t
 | .byt b,u=>∃t,u=Value.bytes b t
 | .flt b,u=>∃t,u=Value.float b t
 | .ref a,u=>u=Value.ref a
 | .ty n,u=>u=Value.type n
abbrev Vals:List V->List Value->Prop:=Paired RelV
theorem Vals.length{xs:List V}{us:LVl}(r:Vals xs us):xs.length=us.length:=Paired.length r
theorem Vals.get:∀{xs:List V} {us:LVl} {i:Nat} {x:V},Vals xs us->xs[i]?=some x->∃u,us[i]?=some u/\RelV x u
 |_,_,_,_,.nil,e=>by simp at e
 |_,_,0,_,.cons r _,e=>by simp at e;subst e;exact⟨_,rfl,r⟩
 |_,_,i+1,x,.cons _ t,e=>by
  obtain⟨u,h1,h2⟩:=Vals.get (i:=i) (x:=x) t (by simpa using e);exact⟨u,by simpa using h1,h2⟩
theorem Vals.set{x:V}{u:Value}(r:RelV x u):∀{xs:List V} {us:LVl} (i:Nat),Vals xs us->Vals (xs.set i x) (us.set i u)
 |_,_,_,.nil=>.nil
 |_,_,0,.cons _ t=>.cons r t
 |_,_,i+1,.cons q t=>.cons q (Vals.set r i t)
theorem Vals.append:∀{xs ys:List V} {us ws:LVl},Vals xs us->Vals ys ws->Vals (xs++ys) (us++ws)
 |_,_,_,_,.nil,s=>s
 |_,_,_,_,.cons r t,s=>.cons r (Vals.append t s)
theorem Vals.take:∀{xs:List V} {us:LVl} (n:Nat),Vals xs us->Vals (xs.take n) (us.take n)
 |_,_,0,_=>.nil
 |_,_,_+1,.nil=>.nil
 |_,_,n+1,.cons r t=>.cons r (Vals.take n t)
theorem Vals.drop:∀{xs:List V} {us:LVl} (n:Nat),Vals xs us->Vals (xs.drop n) (us.drop n)
 |_,_,0,r=>r
 |_,_,_+1,.nil=>.nil
 |_,_,n+1,.cons _ t=>Vals.drop n t
def vC:Option V->Option Value->Prop
 |some v,some u=>RelV v u
 |none,none=>True
 |_,_=>False
def KV{κ:Type}:List (κ×V)->List (κ×Value)->Prop:=Paired λ(p:κ×V) (q:κ×Value)=>p.1=q.1/\RelV p.2 q.2
def kV:Key->V
 | .inl i=>.int i
 | .inr x=>.str x
inductive HO where
  |lst (xs:List V)
  |tup (xs:List V)
  |dK (kvs:List (Key×V))|dT (kvs:List (List Key×V))
  |set (S:Int->Bool) (n:Nat)
  |ins (C dx:AdX) (fs:List (Str×V))
  |own (x:AdX)
  |xd (fs:List (Str×V))
  |met (f x:AdX)
  |rng (lo hi:Int)
  |frz (o:Obj) (u:HO)
  |tbl (ps:Array Value)
  |ext (φ:Heap->Prop)
abbrev Hp:=Addr->Option HO
def upd(H:Hp)(a:AdX)(o:HO):Hp:=λb=>if b=a then some o else H b
theorem zE{H:Hp}{a:AdX}{o:HO}:upd H a o a=some o:=by unfold upd;rw[if_pos rfl]
theorem zO{H:Hp}{a b:AdX}{o:HO}(h:b≠a):upd H a o b=H b:=by unfold upd;rw[if_neg h]
theorem jr{H:Hp}{a b:AdX}{o:HO}(h:H a=some o)(h':H b=none):a≠b:=by
 intro e;subst e;rw[h] at h';cases h'
section
variable(P:Program)(w:World)
def vo(H:Hp)(h:Heap)(a:AdX):HO->Prop
 | .lst xs=>xs.length<=sizeLine/\∃(its:LVl)(n:Nat),Vals xs its/\h.get? a=some { cls:=.type "list",data:=.seq its.toArray n }
 | .tup xs=>xs.length<=sizeLine/\∃its:List Value,Vals xs its/\IsTup h a its.toArray
 | .dK kvs=>kvs.length<=sizeLine/\(a==sysModules)=false/\∃vs,KV kvs vs/\h.DictOf (zfs P w) a vs
 | .dT kvs=>kvs.length<=sizeLine/\(a==sysModules)=false/\∃xs:List (List Key×Addr×Value),
   Paired (λ(p:List Key×V) (q:List Key×Addr×Value)=>p.1=q.1/\H q.2.1=some (.tup (p.1.map kV))/\RelV p.2 q.2.2) kvs xs/\
   ∃o es ep,h.get? a=some o/\o.ExactDict/\o.data=.dict es ep/\es.toList=xs.map (entryOfKey (tupleKind (zfs P w)))/\(xs.map (·.1)).Nodup
 | .set S n=>h.SetOf (intKind P w) a S n
 | .ins C dx fs=>H dx=some (.own a)/\fs.length<=1000/\dx≠a/\h.get? a=some (W.instObj C dx)/\
   ∃mA,h.Ns1 dx mA/\(∀f,vC (fs.lookup f) (mA f))/\PySem.Within mA (fs.map (·.1))
 | .own _=>∃o,h.get? a=some o
 | .xd fs=>∃mA,h.Ns1 a mA/\∀f,vC (fs.lookup f) (mA f)
 | .rng lo hi=>∃t u v,h.get? a=some { cls:=.type "range",data:=.fields #[.int lo t,.int hi u,.int 1 v] }
 | .frz o u=>h.get? a=some o/\vo H h a u
 | .tbl ps=>h.get? a=some { cls:=.none,data:=.fields ps }
 | .met f x=>h.get? a=some (W.methodObj (.ref f) (.ref x))
 | .ext φ=>φ h/\(∃o,h.get? a=some o)/\∀h1 h2:Heap,φ h1->(∀o,h1.get? a=some o->h2.get? a=some o)->φ h2
def HOk(H:Hp)(h:Heap):Prop:=∀a o,H a=some o->vo P w H h a o
end
section
variable{P:Program}{w:World}{H H':Hp}{h h':Heap}{a:AdX}{o:HO}
theorem vo.lt(x:vo P w H h a o):a<h.objs.size:=by
 cases o with
 |lst xs=>have⟨_,_,_,_,e⟩:=x;exact Heap.lt_size e
 |tup xs=>have⟨_,_,_,p⟩:=x;exact p.lt
 |dK kvs=>have⟨_,_,_,_,o,_,_,e,_⟩:=x;exact Heap.lt_size e
 |dT kvs=>have⟨_,_,_,_,o,_,_,e,_⟩:=x;exact Heap.lt_size e
 |set S n=>have⟨o,_,_,_,e,_⟩:=x;exact Heap.lt_size e
 |ins C dx fs=>have⟨_,_,_,e,_⟩:=x;exact Heap.lt_size e
 |own y=>have⟨_,e⟩:=x;exact Heap.lt_size e
 |xd fs=>have⟨_,⟨_,_,_,e,_⟩,_⟩:=x;exact Heap.lt_size e
 |rng lo hi=>have⟨_,_,_,e⟩:=x;exact Heap.lt_size e
 |frz ob u=>have⟨e,_⟩:=x;exact Heap.lt_size e
 |tbl ps=>exact Heap.lt_size (show h.get? a=some _ from x)
 |met f y=>exact Heap.lt_size (show h.get? a=some _ from x)
 |ext φ=>have⟨_,⟨_,e⟩,_⟩:=x;exact Heap.lt_size e
theorem Paired.zmW{α β:Type}{F G:α->β->Prop}:∀{l₁:List α} {l₂:List β},Paired F l₁ l₂->(∀a b,F a b->G a b)->Paired G l₁ l₂
 |_,_,.nil,_=>.nil
 |_,_,.cons r t,f=>.cons (f _ _ r) (Paired.zmW t f)
theorem vo.stay(x:vo P w H h a o)(k:∀b u,(b=a\/H b=some (.own a))->h.get? b=some u->h'.get? b=some u)(ho:∀b,H b=some (.own a)->H' b=some (.own a))(ht:∀b xs,H b=some (.tup xs)->H' b=some (.tup xs)):vo P w H' h' a o:=by
 induction o with
 |lst xs=>have⟨z,its,n,r,e⟩:=x;exact⟨z,its,n,r,k _ _ (.inl rfl) e⟩
 |tup xs=>have⟨z,its,r,ob,e,c⟩:=x;exact⟨z,its,r,ob,k _ _ (.inl rfl) e,c⟩
 |dK kvs=>have⟨z,y,vs,r,ob,es,ep,e,c⟩:=x;exact⟨z,y,vs,r,ob,es,ep,k _ _ (.inl rfl) e,c⟩
 |dT kvs=>
  have⟨z,y,xs,r,ob,es,ep,e,c⟩:=x;exact⟨z,y,xs,Paired.zmW r λp q z=>⟨z.1,ht _ _ z.2.1,z.2.2⟩,ob,es,ep,k _ _ (.inl rfl) e,c⟩
 |set S n=>have⟨ob,es,ep,t,e,c⟩:=x;exact⟨ob,es,ep,t,k _ _ (.inl rfl) e,c⟩
 |ins C dx fs=>
  have⟨d,z,ne,e,mA,⟨od,es,ep,e2,c⟩,r⟩:=x;exact⟨ho _ d,z,ne,k _ _ (.inl rfl) e,mA,⟨od,es,ep,k _ _ (.inr d) e2,c⟩,r⟩
 |own y=>have⟨ob,e⟩:=x;exact⟨ob,k _ _ (.inl rfl) e⟩
 |xd fs=>have⟨mA,⟨od,es,ep,e,c⟩,r⟩:=x;exact⟨mA,⟨od,es,ep,k _ _ (.inl rfl) e,c⟩,r⟩
 |rng lo hi=>have⟨t,u,v,e⟩:=x;exact⟨t,u,v,k _ _ (.inl rfl) e⟩
 |frz ob u ih=>have⟨e,q⟩:=x;exact⟨k _ _ (.inl rfl) e,ih q⟩
 |tbl ps=>
  have e:h.get? a=some { cls:=.none,data:=.fields ps }:=x;show h'.get? a=some { cls:=.none,data:=.fields ps }
  exact k a _ (.inl rfl) e
 |met f y=>
  have e:h.get? a=some (W.methodObj (.ref f) (.ref y)):=x;show h'.get? a=some (W.methodObj (.ref f) (.ref y))
  exact k a _ (.inl rfl) e
 |ext φ=>have⟨p,⟨o,e⟩,st⟩:=x;exact⟨st _ _ p λo q=>k _ _ (.inl rfl) q,⟨o,k _ _ (.inl rfl) e⟩,st⟩
theorem HOk.lt(x:HOk P w H h)(e:H a=some o):a<h.objs.size:=(x a o e).lt
theorem HOk.fresh(x:HOk P w H h)(e:h.objs.size<=a):H a=none:=by
 cases q:H a with
 |none=>rfl
 |some u=>exact absurd (Nat.lt_of_lt_of_le (x.lt q) e) (Nat.lt_irrefl _)
theorem HOk.kept(x:HOk P w H h)(k:∀b u,h.get? b=some u->h'.get? b=some u):HOk P w H h':=λa o e=>
 (x a o e).stay (λb u _ q=>k b u q) (λ_ q=>q) λ_ _ q=>q
theorem HOk.laid(x:HOk P w H h)(k:∀b u,h.get? b=some u->h'.get? b=some u)(hp:h.objs.size<=a)(new:vo P w (upd H a o) h' a o):HOk P w (upd H a o) h':=λb u e=>by
 have hn:=x.fresh hp;by_cases hb:b=a
 ·subst hb;rw[zE] at e;cases e;exact new
 ·rw[zO hb] at e;exact(x b u e).stay (λc v _ q=>k c v q) (λc q=>by rw[zO (jr q hn)];exact q) λc xs q=>by rw[zO (jr q hn)];exact q
end
def Rd(H:Hp)(a:AdX)(u:HO):Prop:=H a=some u\/∃o,H a=some (.frz o u)
theorem Rd.ok{P:Program}{w:World}{H:Hp}{h:Heap}{a:AdX}{u:HO}(r:Rd H a u)(x:HOk P w H h):vo P w H h a u:=by
 rcases r with r|⟨o,r⟩
 ·exact x a u r
 ·have⟨_,q⟩:=x a _ r;exact q
def Mut:Option HO->Prop
 |some (.lst _)=>True
 |some (.dK _)=>True
 |some (.dT _)=>True
 |some (.set _ _)=>True
 |some (.ins _ _ _)=>True
 |some (.ext _)=>True
 |_=>False
section
variable{P:Program}{w:World}{H:Hp}{h h':Heap}{x e:AdX}{o':HO}
theorem HOk.write(ok:HOk P w H h)(mu:Mut (H x))(he:e=x\/H e=some (.own x))(k:∀b u,b≠e->h.get? b=some u->h'.get? b=some u)(heo:∃u,h'.get? e=some u)(new:vo P w (upd H x o') h' x o'):HOk P w (upd H x o') h':=λb u q=>by
 have nown:∀c y,H c=some (.own y)->c≠x:=λc y r z=>by subst z;rw[r] at mu;exact mu
 have ntup:∀c xs,H c=some (.tup xs)->c≠x:=λc xs r z=>by subst z;rw[r] at mu;exact mu
 by_cases hb:b=x
 ·subst hb;rw[zE] at q;cases q;exact new
 ·rw[zO hb] at q;by_cases hbe:b=e
  ·have q':H b=some (.own x):=by
    rcases he with z|z
    ·exact absurd (hbe.trans z) hb
    ·rw[hbe];exact z
   rw[q] at q';cases q';have⟨v,hv⟩:=heo;exact⟨v,by rw[hbe];exact hv⟩
  ·refine(ok b u q).stay (λc v hc r=>k c v ?_ r) (λc r=>by rw[zO (nown c b r)];exact r) λc xs r=>by rw[zO (ntup c xs r)];exact r
   rcases hc with rfl|hc
   ·exact hbe
   ·rintro rfl;rcases he with z|z
    ·exact nown c b hc z
    ·rw[hc] at z;cases z;exact hb rfl
end
structure Un(fs ex:LAd)(H H':Hp)(h h':Heap):Prop where
 keep:∀b o,h.get? b=some o->H b=none->b∉fs->b∉ex->h'.get? b=some o
 slot:∀b o,h.get? b=some o->H b=none->b∈fs->b∉ex->∃sl,h'.get? b=some { o with slots:=sl }
 free:∀b o,h.get? b=some o->H b=none->b∉ex->H' b=none
 there:∀b o,h.get? b=some o->b∉ex->∃o',h'.get? b=some o'
 tups:∀b xs,H b=some (.tup xs)->H' b=some (.tup xs)
 frzs:∀b o u,H b=some (.frz o u)->H' b=some (.frz o u)
 tbls:∀b ps,H b=some (.tbl ps)->∃more,H' b=some (.tbl (ps++more))
section
variable{fs fs' ex ex':LAd}{H H1 H2:Hp}{h h1 h2 h':Heap}{a x e:AdX}{o:HO}
theorem Un.any(u:Un fs ex H H1 h h1){b:AdX}{ob:Obj}(q:h.get? b=some ob)(n:H b=none)(hx:b∉ex):∃sl,h1.get? b=some { ob with slots:=sl }:=by
 by_cases hb:b∈fs
 ·exact u.slot b ob q n hb hx
 ·exact⟨ob.slots,u.keep b ob q n hb hx⟩
theorem Un.kept(k:∀b u,h.get? b=some u->h'.get? b=some u):Un fs ex H H h h':=⟨λb ob q _ _ _=>k b ob q,λb ob q _ _ _=>⟨ob.slots,k b ob q⟩,λ_ _ _ n _=>n,λb ob q _=>⟨ob,k b ob q⟩,λ_ _ q=>q,λ_ _ _ q=>q,λ_ ps q=>⟨#[],by rw[q];simp⟩⟩
theorem Un.refl:Un fs ex H H h h:=Un.kept λ_ _ q=>q
theorem Un.laid(k:∀b u,h.get? b=some u->h'.get? b=some u)(hp:h.objs.size<=a)(hn:H a=none):Un fs ex H (upd H a o) h h' where
 keep:=λb u q _ _ _=>k b u q
 slot:=λb u q _ _ _=>⟨u.slots,k b u q⟩
 free:=λb u q n _=>by rw[zO (Nat.ne_of_lt (Nat.lt_of_lt_of_le (Heap.lt_size q) hp))];exact n
 there:=λb u q _=>⟨u,k b u q⟩
 tups:=λb xs q=>by rw[zO (jr q hn)];exact q
 frzs:=λb u xs q=>by rw[zO (jr q hn)];exact q
 tbls:=λb ps q=>⟨#[],by rw[zO (jr q hn),q];simp⟩
theorem Un.write(mu:Mut (H x))(he:e=x\/H e=some (.own x))(k:∀b u,b≠e->h.get? b=some u->h'.get? b=some u)(heo:∃u,h'.get? e=some u):Un fs ex H (upd H x o) h h':=by
 have hx:∀b,H b=none->b≠x:=λb n z=>by subst z;rw[n] at mu;exact mu
 have hb:∀b,H b=none->b≠e:=λb n z=>by
  subst z;rcases he with r|r
  ·exact hx b n r
  ·rw[n] at r;cases r
 have hm:∀b u,H b=some u->¬Mut (some u)->b≠x:=λb u q nm z=>by subst z;rw[q] at mu;exact nm mu
 refine⟨λb u q n _ _=>k b u (hb b n) q,λb u q n _ _=>⟨u.slots,k b u (hb b n) q⟩,λb u q n _=>by rw[zO (hx b n)];exact n,λb u q _=>?_,
  λb xs q=>by rw[zO (hm b _ q λz=>z)];exact q,λb u xs q=>by rw[zO (hm b _ q λz=>z)];exact q,λb ps q=>⟨#[],by rw[zO (hm b _ q λz=>z),q];simp⟩⟩
 by_cases hbe:b=e
 ·subst hbe;exact heo
 ·exact⟨u,k b u hbe q⟩
end
def trk(h:Heap)(H:Hp):List Addr:=(List.range h.objs.size).filter λa=>(H a).isSome
def zbQ(h:Heap)(H:Hp):Heap:=W.hideAll h (trk h H)
theorem zgs(h:Heap)(H:Hp):(zbQ h H).objs.size=h.objs.size:=W.hideAll_size _ _
theorem ziL{h:Heap}{H:Hp}{b:AdX}{o:Obj}(e:h.get? b=some o)(n:H b=none):(zbQ h H).get? b=some o:=W.hideAll_get _ e λhm=>by
  have q:(H b).isSome=true:=(List.mem_filter.mp hm).2;rw[n] at q;simp at q
theorem zja{h:Heap}{H:Hp}{b:AdX}{o:Obj}(e:(zbQ h H).get? b=some o):h.get? b=some o/\H b=none:=by
 have e':h.get? b=some o:=W.of_hideAll (trk h H) e;refine⟨e',?_⟩;cases q:H b with
 |none=>rfl
 |some x=>
  have hm:b∈trk h H:=List.mem_filter.mpr ⟨List.mem_range.mpr (Heap.lt_size e'),by simp[q]⟩;have z:(zbQ h H).get? b=none:=W.hideAll_none (trk h H) hm
  rw[z] at e;cases e
structure Mod(K:FRx)(mg:Str->Option Value)(base:Heap):Prop where
 kin:K.In base
 glob:base.Ns mainGlobals mg
 blt:∃mb,base.Ns builtinsNs mb/\∀x:Str,x≠"__name__"->mb x=bootBuiltins x
 nolimit:base.NoLimit
structure Cx where
 prog:Program
 w:World
 K:W.Frag
 mg:Str->Option Value
 base:Heap
 A:Around
 N:List Str
 s₀:Shared
 H₀:Hp
 env:Env
 outer:List Env
 stack:List Env
 ex:List Addr
 fn:Str->Bool
 calm:Bool
 pn:List (Addr×Obj)
 xe:Value->Shared->Prop
abbrev SEx(X:Cx)(e:Expr)(es:List Expr):Prop:=starEach (e::es) X.env=(false,eval e X.env)::starEach es X.env
abbrev ABx(X:Cx)(e:Expr)(f:Str):Prop:=attributeBase e f X.env (eval e X.env)=eval e X.env
abbrev FNx(X:Cx)(x:Str):Prop:=X.fn x=true\/X.env.scope.names.lookup x=some .local
abbrev FWx(X:Cx)(cpos:Pos)(es:List Expr):Prop:=((backTo cpos (starEach es X.env)).all (λx=>!x.1)&&(backToKw cpos (keywordEach [] X.env)).all (λx=>x.1.isSome)&&decide (es.length+([]:List Keyword).length+(if ([]:List Keyword).isEmpty then 0 else 1)<30))=true
abbrev PLx(X:Cx)(pos:Pos)(es:List Expr):Prop:=(backTo pos (starEach es X.env)).any (·.1)=false
abbrev FSx(X:Cx)(iter:Expr):Prop:=∀x,foldedSetIterable iter X.env x=pure x
def frs(l:List Env):List Addr:=l.filterMap (·.frame)
abbrev Cx.fs(X:Cx):List Addr:=frs X.outer
def Vis(sc:Scope)(x:Str):Prop:=sc.names.lookup x=some .local\/sc.names.lookup x=some .cell\/sc.names.lookup x=some .free
def Loc(sc:Scope)(x:Str):Prop:=sc.names.lookup x=some .local\/sc.names.lookup x=some .cell
def Look(env:Env)(h:Heap)(m:Str->Option Value)(x:Str)(u:Value):Prop:=(env.kindOf x=some .local/\m x=some u)\/((env.kindOf x=some .cell\/env.kindOf x=some .free)/\∃c,env.cells.lookup x=some c/\h.IsCell c (some u))
structure Cx.Ok(X:Cx):Prop where
 mod:Mod X.K X.mg X.base
 kind:X.env.scope.kind=.function
 glob:X.env.globals=mainGlobals
 blt:X.env.builtins=builtinsNs
 above:X.s₀.heap.objs.size<=X.env.locals
 inj:∀x y c,X.env.cells.lookup x=some c->X.env.cells.lookup y=some c->x=y
 has:∀x,(X.env.kindOf x=some .cell\/X.env.kindOf x=some .free)->∃c,X.env.cells.lookup x=some c
 cab:∀x c,X.fn x=true->X.env.cells.lookup x=some c->X.s₀.heap.objs.size<=c
 hd:X.calm=true->X.A.handled=none
 frames:X.A.frames=some X.stack
 stk:X.stack=X.outer\/(X.stack=X.env::X.outer/\X.env.frame=some X.env.locals)
 exf:∀b∈X.ex,b≠X.env.locals/\∀x c,X.env.cells.lookup x=some c->c≠b
 bs:∀b o,X.base.get? b=some o->X.s₀.heap.get? b=some o/\X.H₀ b=none
 bsz:X.base.objs.size<=X.s₀.heap.objs.size
 noex:∀b o,X.base.get? b=some o->b∉X.ex
 exfs:∀b∈X.ex,b∉X.fs
 funs:X.s₀.heap.FunFrames X.base X.outer
 frf:∀b∈X.fs,X.H₀ b=none
structure Inv(X:Cx)(pins:PNx)(σ:List (Option V))(H:Hp)(s:ShX):Prop where
 ok:X.Ok
 os:s.os=X.s₀.os
 bare:AllBare s.gens
 base:Un X.fs X.ex X.H₀ H X.s₀.heap s.heap
 loc:∃m,s.heap.Ns X.env.locals m/\∀(i:Nat)(x:Str)(v:V),X.N[i]?=some x->σ[i]?=some (some v)->Vis X.env.scope x->∃u,RelV v u/\Look X.env s.heap m x u
 cell:∀x c,X.env.cells.lookup x=some c->∃v,s.heap.IsCell c v
 free:H X.env.locals=none
 freeC:∀x c,X.env.cells.lookup x=some c->H c=none
 pin:∀p∈X.pn++pins,s.heap.get? p.1=some p.2/\H p.1=none/\p.1≠X.env.locals/\p.1∉X.fs/\∀v,p.2.data≠ .cell v
 hok:HOk X.prog X.w H s.heap
 len:σ.length=X.N.length
section
variable{X:Cx}{pins:PNx}{σ:List (Option V)}{H H':Hp}{s:ShX}{h':Heap}
theorem Cx.Ok.nofr(ok:X.Ok){b:AdX}{o:Obj}(e:X.base.get? b=some o):b∉X.fs:=λhb=>by
 have:=(ok.funs.mem hb).1;rw[e] at this;cases this
theorem Inv.bs(I:Inv X pins σ H s):∀b o,X.base.get? b=some o->s.heap.get? b=some o/\H b=none:=λb o e=>
 ⟨I.base.keep b o (I.ok.bs b o e).1 (I.ok.bs b o e).2 (I.ok.nofr e) (I.ok.noex b o e),I.base.free b o (I.ok.bs b o e).1 (I.ok.bs b o e).2 (I.ok.noex b o e)⟩
theorem Inv.bk(I:Inv X pins σ H s):∀b o,X.base.get? b=some o->s.heap.get? b=some o:=λb o e=>(I.bs b o e).1
theorem Inv.mod(I:Inv X pins σ H s):Mod X.K X.mg X.base:=I.ok.mod
theorem Inv.kIn(I:Inv X pins σ H s):X.K.In s.heap:=I.ok.mod.kin.keeps I.bk
theorem Inv.nolimit(I:Inv X pins σ H s):s.heap.NoLimit:=I.ok.mod.nolimit.keeps I.bk
theorem Inv.lt(I:Inv X pins σ H s):X.env.locals<s.heap.objs.size:=let ⟨_,hn,_⟩:=I.loc;hn.lt
theorem Inv.sz(I:Inv X pins σ H s):X.s₀.heap.objs.size<=s.heap.objs.size:=Nat.le_trans I.ok.above (Nat.le_of_lt I.lt)
theorem Inv.nofs(I:Inv X pins σ H s){a:AdX}(h:s.heap.objs.size<=a):a∉X.fs:=λhb=>by
 have⟨_,o,ho,_⟩:=I.ok.funs.mem hb;exact absurd (Nat.lt_of_lt_of_le (Heap.lt_size ho) (Nat.le_trans I.sz h)) (Nat.lt_irrefl _)
theorem Inv.cne(I:Inv X pins σ H s):∀x c,X.env.cells.lookup x=some c->c≠X.env.locals:=λx c e z=>by
 have⟨v,o,ho,hd⟩:=I.cell x c e;have⟨m,⟨o',es,ep,ho',hd',_⟩,_⟩:=I.loc;rw[z,ho'] at ho;cases ho;rw[hd'] at hd;cases hd
theorem Inv.funs(I:Inv X pins σ H s):s.heap.FunFrames X.base X.outer:=by
 have all:∀(l:List Env),(∀b∈frs l,b∈X.fs)->X.s₀.heap.FunFrames X.base l->s.heap.FunFrames X.base l:=by
  intro l;induction l with
  |nil=>intro _ _;trivial
  |cons env r ih=>
   intro hs hl;have⟨hk,⟨L,o,hf,hn,ho,hd⟩,hr⟩:=hl;have hL:L∈X.fs:=hs L (by unfold frs;rw[List.filterMap_cons,hf];exact List.mem_cons_self);obtain⟨sl,e⟩:=I.base.slot L o ho (I.ok.frf L hL) hL λz=>I.ok.exfs L z hL
   exact⟨hk,⟨L,_,hf,hn,e,hd⟩,ih (λb hb=>hs b (by unfold frs;rw[List.filterMap_cons,hf];exact List.mem_cons_of_mem _ hb)) hr⟩
 exact all X.outer (λ_ hb=>hb) I.ok.funs
theorem Inv.stack(I:Inv X pins σ H s):s.heap.FunFrames X.base X.stack:=by
 rcases I.ok.stk with e|⟨e,hf⟩
 ·rw[e];exact I.funs
 ·rw[e];have⟨m,hn,_⟩:=I.loc;refine .cons (by rw[I.ok.kind];decide) hf hn ?_ I.funs;exact Heap.get?_none_of_le (Nat.le_trans I.ok.bsz I.ok.above)
theorem Inv.zeH(I:Inv X pins σ H s):∀b∈frs X.stack,b∈X.env.locals::X.fs:=λb hb=>by
 rcases I.ok.stk with e|⟨e,hf⟩
 ·rw[e] at hb;exact List.mem_cons_of_mem _ hb
 ·rw[e] at hb;unfold frs at hb;rw[List.filterMap_cons,hf] at hb;exact hb
theorem Inv.zfk(I:Inv X pins σ H s):∀b∈frs X.stack,H b=none:=λb hb=>by
 rcases List.mem_cons.mp (I.zeH b hb) with e|hb
 ·rw[e];exact I.free
 ·have⟨_,o,ho,_⟩:=I.ok.funs.mem hb;exact I.base.free b o ho (I.ok.frf b hb) λz=>I.ok.exfs b z hb
theorem Inv.step{g':Array GenState}{t':Nat}{d':Drawn}{ch:LAd}(I:Inv X pins σ H s)(hch:∀b∈ch,(b∈X.ex\/X.s₀.heap.objs.size<=b)/\b≠X.env.locals/\(∀x c,X.env.cells.lookup x=some c->c≠b)/\∀p∈X.pn++pins,p.1≠b)(keep:∀b o,b≠X.env.locals->b∉X.fs->b∉ch->s.heap.get? b=some o->H b=none->h'.get? b=some o)(slot:∀b o,b≠X.env.locals->b∈X.fs->b∉ch->s.heap.get? b=some o->H b=none->∃sl,h'.get? b=some { o with slots:=sl })(free:∀b o,b∉ch->s.heap.get? b=some o->H b=none->H' b=none)(there:∀b o,b∉ch->s.heap.get? b=some o->∃o',h'.get? b=some o')(tups:∀b xs,H b=some (.tup xs)->H' b=some (.tup xs))(frzs:∀b o u,H b=some (.frz o u)->H' b=some (.frz o u))(tbls:∀b ps,H b=some (.tbl ps)->∃more,H' b=some (.tbl (ps++more)))(ns:∀m,s.heap.Ns X.env.locals m->h'.Ns X.env.locals m)(hok:HOk X.prog X.w H' h')(hg:AllBare g'):Inv X pins σ H' { s with heap:=h',gens:=g',drawn:=d',toks:=t' }:=by
 have neL:∀b o,X.s₀.heap.get? b=some o->b≠X.env.locals:=λb o e=>Nat.ne_of_lt (Nat.lt_of_lt_of_le (Heap.lt_size e) I.ok.above)
 have neC:∀b o,X.s₀.heap.get? b=some o->b∉X.ex->b∉ch:=λb o e hx hb=>by
  rcases(hch b hb).1 with z|z
  ·exact hx z
  ·exact absurd (Nat.lt_of_lt_of_le (Heap.lt_size e) z) (Nat.lt_irrefl _)
 have cellK:∀x c,X.env.cells.lookup x=some c->∀v,s.heap.IsCell c v->h'.IsCell c v:=λx c e v ⟨o,ho,hd⟩=>by
  have nch:c∉ch:=λz=>(hch c z).2.2.1 x c e rfl
  by_cases hc:c∈X.fs
  ·obtain⟨sl,q⟩:=slot c o (I.cne x c e) hc nch ho (I.freeC x c e);exact⟨_,q,hd⟩
  ·exact⟨o,keep c o (I.cne x c e) hc nch ho (I.freeC x c e),hd⟩
 refine⟨I.ok,I.os,hg,⟨λb o e n hb hx=>?_,λb o e n hb hx=>?_,λb o e n hx=>?_,λb o e hx=>?_,λb xs e=>tups b xs (I.base.tups b xs e),λb o xs e=>frzs b o xs (I.base.frzs b o xs e),λb ps e=>?_⟩,?_,λx c e=>?_,?_,λx c e=>?_,λp hp=>?_,hok,I.len⟩
 ·exact keep b o (neL b o e) hb (neC b o e hx) (I.base.keep b o e n hb hx) (I.base.free b o e n hx)
 ·have⟨sl,e1⟩:=I.base.slot b o e n hb hx;obtain⟨sl',e2⟩:=slot b _ (neL b o e) hb (neC b o e hx) e1 (I.base.free b o e n hx);exact⟨sl',e2⟩
 ·have⟨o',e1⟩:=I.base.there b o e hx;exact free b o' (neC b o e hx) e1 (I.base.free b o e n hx)
 ·have⟨o',e1⟩:=I.base.there b o e hx;exact there b o' (neC b o e hx) e1
 ·have⟨m1,e1⟩:=I.base.tbls b ps e;have⟨m2,e2⟩:=tbls b _ e1;exact⟨m1++m2,by rw[e2,Array.append_assoc]⟩
 ·have⟨m,hn,hl⟩:=I.loc;refine⟨m,ns m hn,λi x v e1 e2 e3=>?_⟩;have⟨u,r,l⟩:=hl i x v e1 e2 e3;refine⟨u,r,?_⟩;rcases l with l|⟨k,c,e,z⟩
  ·exact .inl l
  ·exact .inr ⟨k,c,e,cellK x c e _ z⟩
 ·have⟨v,z⟩:=I.cell x c e;exact⟨v,cellK x c e v z⟩
 ·have⟨m,⟨o,_,_,ho,_⟩,_⟩:=I.loc;exact free _ o (λz=>(hch _ z).2.1 rfl) ho I.free
 ·have⟨v,o,ho,hd⟩:=I.cell x c e;exact free c o (λz=>(hch c z).2.2.1 x c e rfl) ho (I.freeC x c e)
 ·have⟨e,n,ne,nf,d⟩:=I.pin p hp;have nch:p.1∉ch:=λz=>(hch p.1 z).2.2.2 p hp rfl
  exact⟨keep p.1 p.2 ne nf nch e n,free p.1 p.2 nch e n,ne,nf,d⟩
theorem Inv.un{t':Nat}(I:Inv X pins σ H s)(u:Un X.fs [] H H' s.heap h')(hok:HOk X.prog X.w H' h'):Inv X pins σ H' { s with heap:=h',toks:=t' }:=by
 have⟨m,⟨o,es,ep,ho,r⟩,_⟩:=id I.loc;obtain⟨sl,hL⟩:=u.any ho I.free (by simp);exact I.step (g':=s.gens) (d':=s.drawn) (ch:=[]) (λ_ z=>nomatch z) (λb o _ hb _ e n=>u.keep b o e n hb (by simp)) (λb o _ hb _ e n=>u.slot b o e n hb (by simp)) (λb o _ e n=>u.free b o e n (by simp)) (λb o _ e=>u.there b o e (by simp)) u.tups u.frzs u.tbls (λm' hm=>by
  have⟨o',es',ep',ho',r'⟩:=hm;rw[ho] at ho';cases ho';exact⟨_,es',ep',hL,r'⟩) hok I.bare
theorem Inv.call{g':Array GenState}{t':Nat}{d':Drawn}{ch:LAd}(I:Inv X pins σ H s)(u:Un (frs X.stack) ch H H' s.heap h')(hok:HOk X.prog X.w H' h')(hg:AllBare g')(hch:∀b∈ch,(b∈X.ex\/X.s₀.heap.objs.size<=b)/\b≠X.env.locals/\(∀x c,X.env.cells.lookup x=some c->c≠b)/\∀p∈X.pn++pins,p.1≠b):Inv X pins σ H' { s with heap:=h',gens:=g',drawn:=d',toks:=t' }:=by
 have⟨m,⟨o,es,ep,ho,r⟩,_⟩:=id I.loc;obtain⟨sl,hL⟩:=u.any ho I.free λz=>(hch _ z).2.1 rfl
 exact I.step (ch:=ch) hch (λb o hL hb hc e n=>u.keep b o e n (λz=>(List.mem_cons.mp (I.zeH b z)).elim hL hb) hc) (λb o _ _ hc e n=>u.any e n hc) (λb o hc e n=>u.free b o e n hc) (λb o hc e=>u.there b o e hc) u.tups u.frzs u.tbls (λm' hm=>by
  have⟨o',es',ep',ho',r'⟩:=hm;rw[ho] at ho';cases ho';exact⟨_,es',ep',hL,r'⟩) hok hg
theorem Inv.turned{t':Nat}{it:AdX}(I:Inv X pins σ H s)(k:∀b o,b≠it->s.heap.get? b=some o->h'.get? b=some o)(hn:H it=none)(hL:it≠X.env.locals)(h1:it∈X.ex\/X.s₀.heap.objs.size<=it)(h2:∀x c,X.env.cells.lookup x=some c->c≠it)(h3:∀p∈X.pn++pins,p.1≠it):Inv X pins σ H { s with heap:=h',toks:=t' }:=by
 have nit:∀b u,H b=some u->b≠it:=λb u e z=>by rw[z,hn] at e;cases e
 refine I.step (g':=s.gens) (d':=s.drawn) (ch:=[it]) (λb hb=>?_) (λb o _ _ hc e _=>k b o (λz=>hc (by simp[z])) e) (λb o _ _ hc e _=>⟨o.slots,k b o (λz=>hc (by simp[z])) e⟩) (λ_ _ _ _ n=>n)
  (λb o hc e=>⟨o,k b o (λz=>hc (by simp[z])) e⟩) (λ_ _ e=>e) (λ_ _ _ e=>e) (λb ps e=>⟨#[],by rw[e];simp⟩) (λm hm=>?_) (λb u e=>?_) I.bare
 ·have e:b=it:=by simpa using hb
  subst e;exact⟨h1,hL,h2,h3⟩
 ·have⟨o,es,ep,ho,r⟩:=hm;exact⟨o,es,ep,k _ o (Ne.symm hL) ho,r⟩
 ·refine(I.hok b u e).stay (λc v hc q=>k c v ?_ q) (λ_ q=>q) λ_ _ q=>q
  rcases hc with z|z
  ·rw[z];exact nit b u e
  ·exact nit c _ z
theorem Inv.tok(I:Inv X pins σ H s)(t:Nat):Inv X pins σ H { s with toks:=t }:=I.un (h':=s.heap) (t':=t) Un.refl I.hok
theorem Inv.kept{t':Nat}(I:Inv X pins σ H s)(k:∀b u,s.heap.get? b=some u->h'.get? b=some u):Inv X pins σ H { s with heap:=h',toks:=t' }:=I.un (Un.kept k) (I.hok.kept k)
theorem Inv.laid{a:AdX}{o:HO}{t':Nat}(I:Inv X pins σ H s)(k:∀b u,s.heap.get? b=some u->h'.get? b=some u)(hp:s.heap.objs.size<=a)(new:vo X.prog X.w (upd H a o) h' a o):Inv X pins σ (upd H a o) { s with heap:=h',toks:=t' }:=I.un (Un.laid k hp (I.hok.fresh hp)) (I.hok.laid k hp new)
theorem Inv.write{x e:AdX}{o:HO}{t':Nat}(I:Inv X pins σ H s)(mu:Mut (H x))(he:e=x\/H e=some (.own x))(k:∀b u,b≠e->s.heap.get? b=some u->h'.get? b=some u)(heo:∃u,h'.get? e=some u)(new:vo X.prog X.w (upd H x o) h' x o):Inv X pins σ (upd H x o) { s with heap:=h',toks:=t' }:=I.un (Un.write mu he k heo) (I.hok.write mu he k heo new)
theorem Inv.zeX{pins':PNx}(I:Inv X pins σ H s)(h:∀p∈pins',s.heap.get? p.1=some p.2/\H p.1=none/\p.1≠X.env.locals/\p.1∉X.fs/\∀v,p.2.data≠ .cell v):Inv X pins' σ H s:=⟨I.ok,I.os,I.bare,I.base,I.loc,I.cell,I.free,I.freeC,λp hp=>(List.mem_append.mp hp).elim (λz=>I.pin p (List.mem_append_left _ z)) (h p),I.hok,I.len⟩
theorem zcf{N:LSr}(hN:N.Nodup){i j:Nat}{x:Str}(a:N[i]?=some x)(b:N[j]?=some x):i=j:=by
 obtain⟨h1,e1⟩:=List.getElem?_eq_some_iff.mp a;obtain⟨h2,e2⟩:=List.getElem?_eq_some_iff.mp b;exact(List.getElem_inj hN).mp (e1.trans e2.symm)
theorem Wi{M:Model}{A:Around}{E:VSx}{i:Nat}{x:Str}{v:V}{u:Value}{Q:Unit->Shared->Prop}(I:Inv X pins σ H s)(hN:X.N.Nodup)(hi:X.N[i]?=some x)(hx:Loc X.env.scope x)(r:RelV v u)(h:∀s',Inv X pins (σ.set i (some v)) H s'->(∃a,Heap.SameBut a s.heap s'.heap/\(a=X.env.locals\/X.env.cells.lookup x=some a))->Q () s')(hf:FNx X x:=by trivial):wpAny M A (storeName X.env x u) Q E s:=by
 have⟨m,hn,hl⟩:=id I.loc;have hcls:(X.env.scope.kind== .class || (X.env.scope.kind== .module&&X.env.locals != X.env.globals))=false:=by rw[I.ok.kind];rfl
 have hiσ:i<σ.length:=by rw[I.len];exact(List.getElem?_eq_some_iff.mp hi).1
 have cne:=I.cne;have tracked:∀{a:AdX} {h':Heap},(∃o,s.heap.get? a=some o/\H a=none)->Heap.SameBut a s.heap h'->HOk X.prog X.w H h':=λ{a h'} ha hs b ob e=>by
  have⟨_,_,hfree⟩:=ha;refine(I.hok b ob e).stay (λc w' hc q=>(hs.2 c ?_).trans q) (λ_ q=>q) λ_ _ q=>q
  rintro rfl;rcases hc with rfl|hc
  ·rw[hfree] at e;cases e
  ·rw[hfree] at hc;cases hc
 rcases hx with hk|hk
 ·refine wpAny_storeName_local hk hn (λh' hn' hs=>?_) hcls;have⟨oL,_,_,hoL,_⟩:=id hn;refine h _ ⟨I.ok,I.os,I.bare,⟨λb o e n hb hx=>?_,λb o e n hb hx=>?_,I.base.free,λb o e hx=>?_,I.base.tups,I.base.frzs,I.base.tbls⟩,⟨_,hn',λj y v' e1 e2 e3=>?_⟩,λy c e=>?_,I.free,I.freeC,λp hp=>?_,tracked ⟨oL,hoL,I.free⟩ hs,by simpa using I.len⟩ ⟨_,hs,.inl rfl⟩
  ·exact(hs.2 b (Nat.ne_of_lt (Nat.lt_of_lt_of_le (Heap.lt_size e) I.ok.above))).trans (I.base.keep b o e n hb hx)
  ·have⟨sl,e1⟩:=I.base.slot b o e n hb hx;exact⟨sl,(hs.2 b (Nat.ne_of_lt (Nat.lt_of_lt_of_le (Heap.lt_size e) I.ok.above))).trans e1⟩
  ·have⟨o',e1⟩:=I.base.there b o e hx;exact⟨o',(hs.2 b (Nat.ne_of_lt (Nat.lt_of_lt_of_le (Heap.lt_size e) I.ok.above))).trans e1⟩
  ·by_cases hj:j=i
   ·subst hj;rw[hi] at e1;cases e1;rw[List.getElem?_set_self hiσ] at e2;cases e2;exact⟨u,r,.inl ⟨hk,by simp⟩⟩
   ·rw[List.getElem?_set_ne (Ne.symm hj)] at e2;have⟨u',r',q⟩:=hl j y v' e1 e2 e3;refine⟨u',r',?_⟩;rcases q with⟨k,e⟩|⟨k,c,e,z⟩
    ·refine .inl ⟨k,?_⟩
     have:y≠x:=λe=>hj (zcf hN e1 (e▸hi))
     simp[this,e]
    ·exact .inr ⟨k,c,e,z.sameBut hs (cne y c e)⟩
  ·have⟨w',z⟩:=I.cell y c e;exact⟨w',z.sameBut hs (cne y c e)⟩
  ·have⟨e,n,ne,nf,d⟩:=I.pin p hp;exact⟨(hs.2 p.1 ne).trans e,n,ne,nf,d⟩
 ·have hfn:X.fn x=true:=by
   rcases hf with z|z
   ·exact z
   ·rw[z] at hk;cases hk
  obtain⟨c,hc⟩:=I.ok.has x (.inl hk);have⟨w',z⟩:=I.cell x c hc;refine wpAny_storeName_cell I.ok.kind hk hc z (λh' hc' hs=>?_);have⟨oc,hoc,hocd⟩:=id z;refine h { s with heap:=h' } ⟨I.ok,I.os,I.bare,⟨λb o e n hb hx=>?_,λb o e n hb hx=>?_,I.base.free,λb o e hx=>?_,I.base.tups,I.base.frzs,I.base.tbls⟩,⟨m,hn.sameBut hs (Ne.symm (cne x c hc)),λj y v' e1 e2 e3=>?_⟩,λy c' e=>?_,I.free,I.freeC,λp hp=>?_,tracked ⟨oc,hoc,I.freeC x c hc⟩ hs,by simpa using I.len⟩ ⟨c,hs,.inr hc⟩
  ·exact(hs.2 b (Nat.ne_of_lt (Nat.lt_of_lt_of_le (Heap.lt_size e) (I.ok.cab x c hfn hc)))).trans (I.base.keep b o e n hb hx)
  ·have⟨sl,e1⟩:=I.base.slot b o e n hb hx;exact⟨sl,(hs.2 b (Nat.ne_of_lt (Nat.lt_of_lt_of_le (Heap.lt_size e) (I.ok.cab x c hfn hc)))).trans e1⟩
  ·have⟨o',e1⟩:=I.base.there b o e hx;exact⟨o',(hs.2 b (Nat.ne_of_lt (Nat.lt_of_lt_of_le (Heap.lt_size e) (I.ok.cab x c hfn hc)))).trans e1⟩
  ·by_cases hj:j=i
   ·subst hj;rw[hi] at e1;cases e1;rw[List.getElem?_set_self hiσ] at e2;cases e2;exact⟨u,r,.inr ⟨.inl hk,c,hc,hc'⟩⟩
   ·rw[List.getElem?_set_ne (Ne.symm hj)] at e2;have⟨u',r',q⟩:=hl j y v' e1 e2 e3;refine⟨u',r',?_⟩;rcases q with q|⟨k,c',e,z'⟩
    ·exact .inl q
    ·refine .inr ⟨k,c',e,z'.sameBut hs ?_⟩;rintro rfl;exact hj (zcf hN e1 (I.ok.inj _ _ _ e hc▸hi))
  ·by_cases hcc:c'=c
   ·subst hcc;exact⟨_,hc'⟩
   ·have⟨w2,z2⟩:=I.cell y c' e;exact⟨w2,z2.sameBut hs hcc⟩
  ·have⟨e,n,ne,nf,d⟩:=I.pin p hp;refine⟨(hs.2 p.1 ?_).trans e,n,ne,nf,d⟩;intro q;rw[q,hoc] at e;have q':oc=p.2:=Option.some.inj e;exact d w' (by rw[<-q'];exact hocd)
theorem zcp{M:Model}{A:Around}{E:VSx}{i:Nat}{x:Str}{v:V}{u:Value}{Q:Unit->Shared->Prop}(I:Inv X pins σ H s)(hN:X.N.Nodup)(hi:X.N[i]?=some x)(hx:Loc X.env.scope x)(r:RelV v u)(h:∀s',Inv X pins (σ.set i (some v)) H s'->Q () s')(hf:FNx X x:=by trivial):wpAny M A (storeName X.env x u) Q E s:=Wi I hN hi hx r (λs' I' _=>h s' I') hf
end
abbrev XK:=Value->Option Addr->Hp->Prop
abbrev St:=List (Option V)
abbrev VK:=V->Hp->Prop
abbrev TE:=St->Hp->VK->Prop
abbrev TT:=St->Hp->(Bool->Hp->Prop)->Prop
abbrev TA:=St->Hp->(List V->Hp->Prop)->Prop
structure Ends where
 nx:St->Hp->Prop
 rt:VK
 bk:St->Hp->Prop:=λ_ _=>False
 ct:St->Hp->Prop:=λ_ _=>False
abbrev TS:=Ends->St->Hp->Prop
def EP(X:Cx)(pins:PNx)(σ:St)(Q:VK)(u:Value)(s':ShX):Prop:=∃v H',Inv X pins σ H' s'/\RelV v u/\Q v H'
def TP(X:Cx)(pins:PNx)(σ:St)(Q:Bool->Hp->Prop)(b:Bool)(s':ShX):Prop:=∃H',Inv X pins σ H' s'/\Q b H'
def AP(X:Cx)(pins:PNx)(σ:St)(Q:List V->Hp->Prop)(us:LVl)(s':ShX):Prop:=∃vs H',Inv X pins σ H' s'/\Vals vs us/\Q vs H'
def SP(X:Cx)(pins:PNx)(D:Ends)(f:Flow)(s':ShX):Prop:=match f with
 | .next=>∃σ' H',Inv X pins σ' H' s'/\D.nx σ' H'
 | .brk=>∃σ' H',Inv X pins σ' H' s'/\D.bk σ' H'
 | .cont=>∃σ' H',Inv X pins σ' H' s'/\D.ct σ' H'
 | .ret u=>∃v σ' H',Inv X pins σ' H' s'/\RelV v u/\D.rt v H'
def PE(X:Cx)(e:Expr)(t:TE):Prop:=∀(pins:PNx)(s:ShX)(σ:St)(H:Hp)(Q:VK),Inv X pins σ H s->t σ H Q->wpAny (model X.prog X.w) X.A (eval e X.env) (EP X pins σ Q) X.xe s
def PT(X:Cx)(e:Expr)(t:TT):Prop:=∀(pins:PNx)(s:ShX)(σ:St)(H:Hp)(Q:Bool->Hp->Prop),Inv X pins σ H s->t σ H Q->wpAny (model X.prog X.w) X.A (isTrue e X.env (eval e X.env)) (TP X pins σ Q) X.xe s
def PW(X:Cx)(e:Expr)(t:TT):Prop:=∀(whole:Sem Value)(pins:PNx)(s:ShX)(σ:St)(H:Hp)(Q:Bool->Hp->Prop),Inv X pins σ H s->t σ H Q->wpAny (model X.prog X.w) X.A (isTrue e X.env whole) (TP X pins σ Q) X.xe s
theorem PW.pt{X:Cx}{e:Expr}{t:TT}(h:PW X e t):PT X e t:=h _
def PA(X:Cx)(es:List Expr)(t:TA):Prop:=∀(pos:Pos)(pins:PNx)(s:ShX)(σ:St)(H:Hp)(Q:List V->Hp->Prop),Inv X pins σ H s->t σ H Q->wpAny (model X.prog X.w) X.A (spliced (backTo pos (starEach es X.env))) (AP X pins σ Q) X.xe s
def PS(X:Cx)(st:Stmt)(t:TS):Prop:=∀(pins:PNx)(s:ShX)(σ:St)(H:Hp)(D:Ends),Inv X pins σ H s->t D σ H->wpAny (model X.prog X.w) X.A (exec st X.env) (SP X pins D) X.xe s
def PSs(X:Cx)(st:List Stmt)(t:TS):Prop:=∀(pins:PNx)(s:ShX)(σ:St)(H:Hp)(D:Ends),Inv X pins σ H s->t D σ H->wpAny (model X.prog X.w) X.A (execs st X.env) (SP X pins D) X.xe s
theorem thn{α:Type}{t:Sem α}{Q Q':α->Shared->Prop}{M:Model}{A:Around}{E:VSx}{s:ShX}(h:wpAny M A t Q E s)(hQ:∀a s,Q a s->Q' a s):wpAny M A t Q' E s:=wpAny_mono h hQ λ_ _ x=>x
section
variable{X:Cx}
theorem bin{a b:Expr}{ta tb:TE}(ha:PE X a ta)(hb:PE X b tb){pins:PNx}{s:ShX}{σ:St}{H:Hp}{R:V->V->Hp->Prop}(I:Inv X pins σ H s)(h:ta σ H λx H1=>tb σ H1 λy H2=>R x y H2){α:Type}{Q:α->Shared->Prop}{f:Value->Value->Sem α}(hf:∀v u s2 x y H2,Inv X pins σ H2 s2->RelV x v->RelV y u->R x y H2->wpAny (model X.prog X.w) X.A (f v u) Q X.xe s2):wpAny (model X.prog X.w) X.A (eval a X.env) (λv s₁=>wpAny (model X.prog X.w) X.A (eval b X.env) (λu s₂=>wpAny (model X.prog X.w) X.A (f v u) Q X.xe s₂) X.xe s₁) X.xe s:=by
 refine thn (ha pins s σ H _ I h) λv s1 ⟨x,H1,I1,r1,q1⟩=>?_
 refine thn (hb pins s1 σ H1 _ I1 q1) λu s2 ⟨y,H2,I2,r2,q2⟩=>?_
 exact hf v u s2 x y H2 I2 r1 r2 q2
def zng(i:Nat):TE:=λσ H Q=>∃v,σ[i]?=some (some v)/\Q v H
def tC(v:V):TE:=λ_ H Q=>Q v H
theorem yl{i:Nat}{x:Str}{pos:Pos}(hN:X.N[i]?=some x)(hv:Vis X.env.scope x)(hd:NDx x:=by decide)(hcd:NCx x:=by decide):PE X (.Name x pos) (zng i):=by
 intro pins s σ H Q I h;obtain⟨v,e,h⟩:=h;have⟨m,hn,hl⟩:=I.loc;have⟨u,r,l⟩:=hl i x v hN e hv;have fin:EP X pins σ Q u s:=⟨v,H,I,r,h⟩;rcases l with⟨hk,hm⟩|⟨hk,c,hc,hcell⟩
 ·exact wpAny_Name (wpAny_loadName_local I.ok.kind hk hn hm fin) hd
 ·rcases hk with hk|hk
  ·exact wpAny_Name (wpAny_loadName_cell I.ok.kind hk hc hcell fin) hd
  ·exact wpAny_Name (wpAny_loadName_free I.ok.kind hk hc hcell fin hcd) hd
theorem zkN{i j pos}:PE X (.Constant (.int i) j pos) (tC (.int i)):=λ_ _ _ H _ I h=>wpAny_Constant_int ⟨.int i,H,I.tok _,⟨_,rfl⟩,h⟩
theorem zmr{b j pos}:PE X (.Constant (.bool b) j pos) (tC (.bl b)):=λ_ _ _ H _ I h=>Constant_bool ⟨.bl b,H,I,rfl,h⟩
theorem zh8{j pos}:PE X (.Constant .none j pos) (tC .non):=λ_ _ _ H _ I h=>Constant_none ⟨.non,H,I,rfl,h⟩
def Gl(X:Cx)(x:Str):Prop:=X.env.kindOf x=some .globalImplicit
theorem zbt{E:VSx}{pins:PNx}{s:ShX}{σ:St}{H:Hp}{x:Str}{u:Value}{pos:Pos}{Q:VSx}(I:Inv X pins σ H s)(hg:Gl X x)(hm:X.mg x=some u)(h:Q u s)(hd:NDx x:=by decide):wpAny (model X.prog X.w) X.A (eval (.Name x pos) X.env) Q E s:=Calls.Name_function_global I.ok.kind hg (Calls.loadGlobal_global (by rw[I.ok.glob];exact I.mod.glob.keeps I.bk) hm h) hd
theorem UD{E:VSx}{pins:PNx}{s:ShX}{σ:St}{H:Hp}{x:Str}{u:Value}{pos:Pos}{Q:VSx}(I:Inv X pins σ H s)(hg:Gl X x)(hm:X.mg x=none)(hv:bootBuiltins x=some u)(h:Q u s)(hn:x≠"__name__":=by decide)(hd:NDx x:=by decide):wpAny (model X.prog X.w) X.A (eval (.Name x pos) X.env) Q E s:=by
 have⟨mb,h1,h2⟩:=I.mod.blt;exact Calls.Name_function_global I.ok.kind hg (Calls.loadGlobal_builtin (by rw[I.ok.glob];exact I.mod.glob.keeps I.bk) hm (by rw[I.ok.blt];exact h1.keeps I.bk) ((h2 x hn).trans hv) h) hd
theorem zkf{x:Str}{v:V}{u:Value}{pos:Pos}(hg:Gl X x)(hm:X.mg x=some u)(r:RelV v u)(hd:NDx x:=by decide):PE X (.Name x pos) (tC v):=λ_ _ _ H _ I h=>zbt I hg hm ⟨v,H,I,r,h⟩ hd
theorem zj2{x:Str}{v:V}{u:Value}{pos:Pos}(hg:Gl X x)(hm:X.mg x=none)(hv:bootBuiltins x=some u)(r:RelV v u)(hn:x≠"__name__":=by decide)(hd:NDx x:=by decide):PE X (.Name x pos) (tC v):=λ_ _ _ H _ I h=>UD I hg hm hv ⟨v,H,I,r,h⟩ hn hd
variable{a b:Expr}{ta tb:TE}{pos:Pos}
def PC(X:Cx)(op:CmpOp)(a b:Expr)(t:TE):Prop:=∀(pins:PNx)(s:ShX)(σ:St)(H:Hp)(Q:VK),Inv X pins σ H s->t σ H Q->
  wpAny (model X.prog X.w) X.A (eval a X.env) (λv s₁=>wpAny (model X.prog X.w) X.A (eval b X.env) (λu s₂=>wpAny (model X.prog X.w) X.A (compareOp op v u) (EP X pins σ Q) X.xe s₂) X.xe s₁) X.xe s
theorem zhY(b:Expr){op:CmpOp}(h:op≠ .In)(h2:op≠ .NotIn):behindInMarks op b=false:=by
 have e1:(op==CmpOp.In)=false:=by cases op<;>first |rfl|exact absurd rfl h
 have e2:(op==CmpOp.NotIn)=false:=by cases op<;>first |rfl|exact absurd rfl h2
 cases b<;>simp[behindInMarks,e1,e2]
def tB(t:TE):TT:=λσ H Q=>t σ H λx H1=>∃c,x=.bl c/\Q c H1
theorem zni{op:CmpOp}{t:TE}(h:PC X op a b t)(h1:behindInMarks op b=false:=by first |exact zhY _ (by decide) (by decide)|rfl):PT X (.Compare a [op] [b] pos) (tB t):=by
 intro pins s σ H Q I hw;refine wpAny_isTrue_Compare1 (thn (h pins s σ H _ I hw) λv s1 h1=>thn h1 λu s2 h2=>thn h2 λc s3 ⟨x,H1,I1,r1,q1⟩=>?_) h1;obtain⟨d,rfl,q⟩:=q1;cases r1;exact wpAny_truthy_bool ⟨H1,I1,q⟩
theorem zhC{e:Expr}{t:TE}(h:PE X e t)(he:∀whole,isTrue e X.env whole=(do let v <-whole;standAt e.pos;holding [v] (truthy v)):=by intro _;rfl):PT X e (tB t):=by
 intro pins s σ H Q I hw;refine isTrue_plain (thn (h pins s σ H _ I hw) λv s1 ⟨x,H1,I1,r1,q1⟩=>?_) (he _);obtain⟨d,rfl,q⟩:=q1;cases r1;exact wpAny_truthy_bool ⟨H1,I1,q⟩
variable{tA tB':TT}{rest:List Expr}
def znp(t u:TT):TT:=λσ H Q=>t σ H λc H1=>if c=true then u σ H1 Q else Q false H1
def znb(t:TT):TT:=λσ H Q=>t σ H λc H1=>Q (!c) H1
theorem pw_and1(ha:PT X a tA):PW X (.BoolOp .And [a] pos) tA:=by
 intro wh pins s σ H Q I h;refine isTrue_and (thn (ha pins s σ H Q I h) λc s1 e=>?_);cases c with
 |true=>exact isTrue_and_nil e
 |false=>exact e
theorem pw_and(ha:PT X a tA)(hb:PW X (.BoolOp .And (b::rest) pos) tB'):PW X (.BoolOp .And (a::b::rest) pos) (znp tA tB'):=by
 intro wh pins s σ H Q I h;refine isTrue_and (thn (ha pins s σ H _ I h) λc s1 ⟨H1,I1,q1⟩=>?_);cases c with
 |true=>exact hb wh pins s1 σ H1 Q I1 q1
 |false=>exact⟨H1,I1,q1⟩
theorem zhb(ha:PT X a tA):PT X (.UnaryOp .Not a pos) (znb tA):=by
 intro pins s σ H Q I h;exact isTrue_not (ha pins s σ H (λc H1=>Q (!c) H1) I h)
def zmM(ta tb:TE):TE:=λσ H Q=>ta σ H λx H1=>∃c,x=.bl c/\if c=true then tb σ H1 Q else Q (.bl false) H1
theorem zle{op}{t:TE}(h:PE X a t):PE X (.BoolOp op [a] pos) t:=λpins s σ H Q I hw=>BoolOp_one (h pins s σ H Q I hw)
theorem zk4(ha:PE X a ta)(hb:PE X (.BoolOp .And (b::rest) pos) tb):PE X (.BoolOp .And (a::b::rest) pos) (zmM ta tb):=by
 intro pins s σ H Q I h;refine BoolOp_and (thn (ha pins s σ H _ I h) λv s1 ⟨x,H1,I1,r1,q1⟩=>?_);obtain⟨c,rfl,q1⟩:=q1;cases r1;refine wpAny_truthy_bool ?_;cases c with
 |true=>exact hb pins s1 σ H1 Q I1 q1
 |false=>exact⟨.bl false,H1,I1,rfl,q1⟩
def tIf(t:TT)(ta tb:TE):TE:=λσ H Q=>t σ H λc H1=>if c=true then ta σ H1 Q else tb σ H1 Q
theorem zih{c:Expr}(hc:PT X c tA)(ha:PE X a ta)(hb:PE X b tb):PE X (.IfExp c a b pos) (tIf tA ta tb):=by
 intro pins s σ H Q I h;refine wpAny_IfExp (thn (hc pins s σ H _ I h) λd s1 ⟨H1,I1,q1⟩=>?_);cases d with
 |true=>exact ha pins s1 σ H1 Q I1 q1
 |false=>exact hb pins s1 σ H1 Q I1 q1
end
def SqL(K:FRx)(H:Hp)(a:AdX)(xs:List V):Prop:=Rd H a (.lst xs)\/
  ∃(o:Obj)(its:Array Value)(n:Nat),K.lookup a=some o/\o.cls=.type "list"/\o.dict=none/\o.data=.seq its n/\its.size<=sizeLine/\Vals xs its.toList
def SqT(K:FRx)(H:Hp)(a:AdX)(xs:List V):Prop:=Rd H a (.tup xs)\/
  ∃(o:Obj)(its:Array Value)(n:Nat),K.lookup a=some o/\o.cls=.type "tuple"/\o.data=.seq its n/\its.size<=sizeLine/\Vals xs its.toList
def znd:Value->Option V
 | .none=>some .non
 | .bool b=>some (.bl b)
 | .int i _=>some (.int i)
 | .str x _=>some (.str x)
 | .bytes b _=>some (.byt b)
 | .float b _=>some (.flt b)
 | .ref a=>some (.ref a)
 | .type n=>some (.ty n)
 |_=>none
theorem RelV.abs{x:V}{u:Value}(r:RelV x u):znd u=some x:=by
 cases x with
 |non=>cases r;rfl
 |bl _=>cases r;rfl
 |int _=>obtain⟨t,rfl⟩:=r;rfl
 |str _=>obtain⟨t,rfl⟩:=r;rfl
 |byt _=>obtain⟨t,rfl⟩:=r;rfl
 |flt _=>obtain⟨t,rfl⟩:=r;rfl
 |ref _=>cases r;rfl
 |ty _=>cases r;rfl
theorem RelV.inj{x y:V}{u:Value}(r:RelV x u)(q:RelV y u):x=y:=Option.some.inj (r.abs.symm.trans q.abs)
theorem Vals.inj:∀{xs ys:List V} {us:LVl},Vals xs us->Vals ys us->xs=ys
 |_,_,_,.nil,.nil=>rfl
 |_,_,_,.cons r t,.cons r' t'=>by rw[r.inj r',Vals.inj t t']
section
variable{X:Cx}{pins:PNx}{σ:St}{H:Hp}{s:ShX}{a:AdX}{xs ys:List V}
theorem SqL.of{K:FRx}(h:H a=some (.lst xs)):SqL K H a xs:=.inl (.inl h)
theorem SqT.of{K:FRx}(h:H a=some (.tup xs)):SqT K H a xs:=.inl (.inl h)
theorem Inv.list(I:Inv X pins σ H s)(h:SqL X.K H a xs):∃its:List Value,Vals xs its/\PlainL s.heap a its.toArray/\xs.length<=sizeLine:=by
 rcases h with h|⟨o,its,n,hk,hc,hd,hs,hz,r⟩
 ·have⟨z,its,n,r,e⟩:=h.ok I.hok;exact⟨its,r,⟨_,n,e,rfl,rfl,rfl⟩,z⟩
 ·refine⟨its.toList,r,⟨o,n,I.kIn a o hk,hc,hd,by simpa using hs⟩,?_⟩;have e:=r.length;simp only [Array.length_toList] at e;omega
theorem Inv.tuple(I:Inv X pins σ H s)(h:SqT X.K H a xs):∃its:List Value,Vals xs its/\IsTup s.heap a its.toArray/\xs.length<=sizeLine:=by
 rcases h with h|⟨o,its,n,hk,hc,hs,hz,r⟩
 ·have⟨z,its,r,p⟩:=h.ok I.hok;exact⟨its,r,p,z⟩
 ·refine⟨its.toList,r,⟨o,I.kIn a o hk,hc,n,by simpa using hs⟩,?_⟩;have e:=r.length;simp only [Array.length_toList] at e;omega
theorem Inv.zdA(I:Inv X pins σ H s)(h:SqL X.K H a xs)(h':SqL X.K H a ys):xs=ys:=by
 have⟨its,r,⟨o,n,e,_,_,d⟩,_⟩:=I.list h;have⟨its',r',⟨o',n',e',_,_,d'⟩,_⟩:=I.list h';rw[e] at e';cases e';rw[d] at d';injection d' with d1 _
 have:its=its':=by simpa using congrArg Array.toList d1
 subst this;exact r.inj r'
theorem Inv.zaU(I:Inv X pins σ H s)(h:SqT X.K H a xs)(h':SqT X.K H a ys):xs=ys:=by
 have⟨its,r,⟨o,e,_,n,d⟩,_⟩:=I.tuple h;have⟨its',r',⟨o',e',_,n',d'⟩,_⟩:=I.tuple h';rw[e] at e';cases e';rw[d] at d';injection d' with d1 _
 have:its=its':=by simpa using congrArg Array.toList d1
 subst this;exact r.inj r'
end
abbrev Cx.wish(X:Cx)(E:VSx):Cx:={ X with xe:=E }
abbrev Cx.nox(X:Cx):Cx:=X.wish λ_ _=>False
theorem Cx.Ok.wish{X:Cx}(ok:X.Ok)(E:VSx):(X.wish E).Ok:=⟨ok.mod,ok.kind,ok.glob,ok.blt,ok.above,ok.inj,ok.has,ok.cab,ok.hd,ok.frames,ok.stk,ok.exf,ok.bs,ok.bsz,ok.noex,ok.exfs,ok.funs,ok.frf⟩
theorem Cx.Ok.unwish{X:Cx}{E:VSx}(ok:(X.wish E).Ok):X.Ok:=⟨ok.mod,ok.kind,ok.glob,ok.blt,ok.above,ok.inj,ok.has,ok.cab,ok.hd,ok.frames,ok.stk,ok.exf,ok.bs,ok.bsz,ok.noex,ok.exfs,ok.funs,ok.frf⟩
section
variable{X:Cx}{pins:PNx}{σ:St}{H:Hp}{s:ShX}{E:VSx}
theorem Inv.wish(I:Inv X pins σ H s)(E:VSx):Inv (X.wish E) pins σ H s:=⟨I.ok.wish E,I.os,I.bare,I.base,I.loc,I.cell,I.free,I.freeC,I.pin,I.hok,I.len⟩
theorem Inv.unwish(I:Inv (X.wish E) pins σ H s):Inv X pins σ H s:=⟨I.ok.unwish,I.os,I.bare,I.base,I.loc,I.cell,I.free,I.freeC,I.pin,I.hok,I.len⟩
theorem SP.unwish{D:Ends}{f:Flow}{s':ShX}(h:SP (X.wish E) pins D f s'):SP X pins D f s':=by
 cases f with
 |next=>have⟨σ',H',I,q⟩:=h;exact⟨σ',H',I.unwish,q⟩
 |brk=>have⟨σ',H',I,q⟩:=h;exact⟨σ',H',I.unwish,q⟩
 |cont=>have⟨σ',H',I,q⟩:=h;exact⟨σ',H',I.unwish,q⟩
 |ret u=>have⟨v,σ',H',I,r,q⟩:=h;exact⟨v,σ',H',I.unwish,r,q⟩
theorem PSs.nox{st:List Stmt}{t:TS}(h:PSs X.nox st t):PSs X st t:=λpins s σ H D I hw=>
 wpAny_mono (h pins s σ H D (I.wish _) hw) (λ_ _ q=>q.unwish) λ_ _ z=>False.elim z
end
section
variable{X:Cx}{st:Stmt}{rest:List Stmt}{t u:TS}{e:Expr}{te:TE}{pos:Pos}
def zkB:TS:=λD σ H=>D.nx σ H
def zmY(t u:TS):TS:=λD σ H=>t { D with nx:=u D } σ H
theorem zbW:PSs X [] zkB:=λ_ _ σ H _ I h=>wpAny_execs_nil ⟨σ,H,I,h⟩
theorem wc(h1:PS X st t)(h2:PSs X rest u):PSs X (st::rest) (zmY t u):=by
 intro pins s σ H D I h;refine wpAny_execs_cons (thn (h1 pins s σ H { D with nx:=u D } I h) λf s1 q=>?_);cases f with
 |next=>
  obtain⟨σ',H',I',q⟩:=q;exact h2 pins s1 σ' H' D I' q
 |ret v=>exact q
 |brk=>exact q
 |cont=>exact q
theorem zbj(h1:PS X st t):PSs X [st] t:=by
 intro pins s σ H D I h;refine wpAny_execs_cons (thn (h1 pins s σ H D I h) λf s1 q=>?_);cases f with
 |next=>exact wpAny_execs_nil q
 |ret v=>exact q
 |brk=>exact q
 |cont=>exact q
theorem zje:PS X (.Pass pos) zkB:=λ_ _ σ H _ I h=>wpAny_Pass ⟨σ,H,I,h⟩
theorem Inv.quiet{pins:PNx}{σ:St}{H:Hp}{s:ShX}(I:Inv X pins σ H s):interactive X.env=false:=by simp[interactive,I.ok.kind]
def zmD(te:TE):TS:=λD σ H=>te σ H λ_ H1=>D.nx σ H1
theorem u3(he:PE X e te)(hs:swapsWith e none pos.line X.env=pure false:=by rfl):PS X (.Expr e pos) (zmD te):=by
 intro pins s σ H D I h;exact wpAny_Expr_any (thn (he pins s σ H _ I h) λv s1 ⟨x,H1,I1,r1,q1⟩=>⟨σ,H1,I1,q1⟩) I.quiet hs
def zm0(te:TE):TS:=λD σ H=>te σ H D.rt
theorem UB(he:PE X e te):PS X (.Return (some e) pos) (zm0 te):=by
 intro pins s σ H D I h;exact wpAny_Return_some (thn (he pins s σ H _ I h) λv s1 ⟨x,H1,I1,r1,q1⟩=>⟨x,σ,H1,I1,r1,q1⟩)
def zm1(c:TT)(t u:TS):TS:=λD σ H=>c σ H λb H1=>if b=true then t D σ H1 else u D σ H1
theorem zhc{c:Expr}{a b:List Stmt}{tc:TT}(hc:PT X c tc)(ha:PSs X a t)(hb:PSs X b u):PS X (.If c a b pos) (zm1 tc t u):=by
 intro pins s σ H D I h;refine wpAny_If (thn (hc pins s σ H _ I h) λd s1 ⟨H1,I1,q1⟩=>?_);cases d with
 |true=>exact ha pins s1 σ H1 D I1 q1
 |false=>exact hb pins s1 σ H1 D I1 q1
def zlK:TS:=λ_ _ _=>False
theorem zgY:PS X st zlK:=λ_ _ _ _ _ _ h=>h.elim
end
abbrev TG:=V->St->Hp->(St->Hp->Prop)->Prop
abbrev TGs:=List V->St->Hp->(St->Hp->Prop)->Prop
def PG(X:Cx)(target:Expr)(t:TG):Prop:=∀(pins:PNx)(s:ShX)(σ:St)(H:Hp)(v:V)(u:Value)(Q:St->Hp->Prop),Inv X pins σ H s->RelV v u->t v σ H Q->
  wpAny (model X.prog X.w) X.A (assign target X.env u) (λ_ s'=>∃σ' H',Inv X pins σ' H' s'/\Q σ' H') X.xe s
def PGs(X:Cx)(ts:List Expr)(t:TGs):Prop:=∀(pins:PNx)(s:ShX)(σ:St)(H:Hp)(vs:List V)(us:LVl)(Q:St->Hp->Prop),Inv X pins σ H s->Vals vs us->t vs σ H Q->
  wpAny (model X.prog X.w) X.A (assignInOrder ((assignEach ts X.env).map (·.2)) us) (λ_ s'=>∃σ' H',Inv X pins σ' H' s'/\Q σ' H') X.xe s
abbrev zlX:=V->V->V->Hp->(Hp->Prop)->Prop
def zmw(X:Cx)(t:zlX):Prop:=∀(pins:PNx)(s:ShX)(σ:St)(H:Hp)(o i v:V)(ov iv u:Value)(Q:Hp->Prop),Inv X pins σ H s->RelV o ov->RelV i iv->RelV v u->t o i v H Q->
  wpAny (model X.prog X.w) X.A (setItem ov iv u) (λ_ s'=>∃H',Inv X pins σ H' s'/\Q H') X.xe s
section
variable{X:Cx}{pos:Pos}
def zkz(i:Nat):TG:=λv σ H Q=>Q (σ.set i (some v)) H
theorem zjW{i:Nat}{x:Str}(hN:X.N.Nodup)(hi:X.N[i]?=some x)(hx:Loc X.env.scope x)(hf:FNx X x:=by trivial):PG X (.Name x pos) (zkz i):=by
 intro pins s σ H v u Q I r h;exact wpAny_assign_Name (zcp I hN hi hx r (λs' I'=>⟨_,H,I',h⟩) hf)
def zm5:TGs:=λvs σ H Q=>vs=[]/\Q σ H
def zmn(t:TG)(u:TGs):TGs:=λvs σ H Q=>∃v r,vs=v::r/\t v σ H λσ' H'=>u r σ' H' Q
theorem ziN:PGs X [] zm5:=by
 intro pins s σ H vs us Q I r h;obtain⟨e,h⟩:=h;subst e;cases r;exact assignInOrder_nil ⟨σ,H,I,h⟩
theorem zdC{e:Expr}{es:List Expr}{t:TG}{u:TGs}(h1:PG X e t)(h2:PGs X es u)(hs:(assignEach (e::es) X.env).map (·.2)=assign e X.env::(assignEach es X.env).map (·.2):=by rfl):PGs X (e::es) (zmn t u):=by
 intro pins s σ H vs us Q I r h;obtain⟨v,vr,e1,h⟩:=h;subst e1;cases r with
 |cons r rr=>
  rw[hs];refine assignInOrder_cons (thn (h1 pins s σ H _ _ _ I r h) λ_ s1 ⟨σ1,H1,I1,q1⟩=>?_);exact h2 pins s1 σ1 H1 _ _ Q I1 rr q1
def zm9(K:FRx)(n:Nat)(t:TGs):TG:=λv σ H Q=>∃a xs,v=.ref a/\SqT K H a xs/\xs.length=n/\t xs σ H Q
theorem zlY{es:List Expr}{k:Nat}{t:TGs}{n:Nat}(hc:X.calm=true)(h:PGs X es t)(hn:(assignEach es X.env).length=n:=by rfl)(hst:(assignEach es X.env).findIdx? (·.1)=none:=by rfl):PG X (.Tuple es k pos) (zm9 X.K n t):=by
 intro pins s σ H v u Q I r hw;obtain⟨a,xs,e1,hq,hl,hw⟩:=hw;subst e1;cases r;have⟨its,rv,ht,hz⟩:=I.tuple hq;refine assign_Tuple_tuple (I.ok.hd hc) ht (by simp[hn,<-hl,rv.length]) hst λh' hx=>?_
 have I1:Inv X pins σ H { s with heap:=h' }:=I.kept (t':=s.toks) λb o e=>hx b o (Nat.ne_of_lt (Heap.lt_size e)) e
 exact h pins _ σ H xs _ Q I1 (by simpa using rv) hw
def zm4(to ti:TE)(t:zlX):TG:=λv σ H Q=>to σ H λo H1=>ti σ H1 λi H2=>t o i v H2 λH3=>Q σ H3
theorem zht{o i:Expr}{to ti:TE}{t:zlX}(ho:PE X o to)(hi:PE X i ti)(hs:zmw X t)(ha:∀v,assign (.Subscript o i pos) X.env v=(do
   let ov <-holding [v] (eval o X.env)
   let iv <-holding [v,ov] (eval i X.env)
   standAt pos
   holding [v,ov,iv] (setItem ov iv v)
   release [v,ov,iv] []):=by intro _;rfl):PG X (.Subscript o i pos) (zm4 to ti t):=by
 intro pins s σ H v u Q I r h;rw[ha];refine wpAny_bind (wpAny_holding (thn (ho pins s σ H _ I h) λov s1 ⟨x,H1,I1,r1,q1⟩=>?_));refine wpAny_bind (wpAny_holding (thn (hi pins s1 σ H1 _ I1 q1) λiv s2 ⟨y,H2,I2,r2,q2⟩=>?_));refine wpAny_bind (wpAny_standAt (wpAny_bind (wpAny_holding (thn (hs pins s2 σ H2 x y v ov iv u _ I2 r1 r2 r q2) λ_ s3 ⟨H3,I3,q3⟩=>?_))));exact wpAny_release ⟨σ,H3,I3,q3⟩
def zmR(te:TE)(g:TG):TS:=λD σ H=>te σ H λx H1=>g x σ H1 D.nx
theorem zhB{tg e:Expr}{te:TE}{g:TG}(he:PE X e te)(hg:PG X tg g)(hs:swapsWithSole [tg] e pos.line X.env=pure false:=by rfl)(hw:swappedStores [tg] e X.env=pure none:=by rfl)(h1:(assignEach [tg] X.env).map (·.2)=[assign tg X.env]:=by rfl):PS X (.Assign [tg] e pos) (zmR te g):=by
 intro pins s σ H D I h;refine wpAny_Assign_stores (thn (he pins s σ H _ I h) λv s1 ⟨x,H1,I1,r1,q1⟩=>?_) hs hw;rw[h1];exact thn (hg pins s1 σ H1 x v _ I1 r1 q1) λ_ s2 q=>q
theorem w8{i:Nat}{x:Str}{e:Expr}{te:TE}{pos':Pos}(hN:X.N.Nodup)(hi:X.N[i]?=some x)(hx:Loc X.env.scope x)(he:PE X e te)(hs:swapsWith e (some (.Name x pos')) pos.line X.env=pure false:=by rfl)(hf:FNx X x:=by trivial):PS X (.Assign [.Name x pos'] e pos) (zmR te (zkz i)):=by
 intro pins s σ H D I h;refine wpAny_Assign_Name (thn (he pins s σ H _ I h) λv s1 ⟨y,H1,I1,r1,q1⟩=>?_) hs;exact zcp I1 hN hi hx r1 (λs2 I2=>⟨_,H1,I2,q1⟩) hf
end
section
variable{X:Cx}{pos:Pos}
def zkS(c:TT)(tb:TS):TS:=λD σ H=>∃W:Nat->St->Hp->Prop,(∃m,W m σ H)/\∀m σ H,W m σ H->
 c σ H λb H1=>if b=true then ∃N:St->Hp->Prop,(∀σ' H',N σ' H'->∃m',m'<m/\W m' σ' H')/\tb { D with nx:=N,ct:=N,bk:=D.nx } σ H1 else D.nx σ H1
theorem zb2{c:Expr}{body:List Stmt}{tc:TT}{tb:TS}(hp:PassesOwn (model X.prog X.w) X.A X.env X.xe)(hc:PT X c tc)(hb:PSs X body tb):PS X (.While c body [] pos) (zkS tc tb):=by
 intro pins s σ H D I h;have⟨W,⟨m0,w0⟩,turn⟩:=h;refine wpAny_While (codeAny_whileLoop (λn s'=>∃σ' H',Inv X pins σ' H' s'/\W n σ' H') ?_ m0 ⟨σ,H,I,w0⟩);rintro n s1 ⟨σ1,H1,I1,w1⟩;refine wpAny_passesOwn hp (thn (hc pins s1 σ1 H1 _ I1 (turn n σ1 H1 w1)) λb s2 ⟨H2,I2,q2⟩=>?_);cases b with
 |true=>
  obtain⟨N,hN,q2⟩:=q2;rw[if_pos rfl];refine wpAny_passesOwn hp (thn (hb pins s2 σ1 H2 _ I2 q2) λf s3 q3=>?_);cases f with
  |next=>
   have⟨σ3,H3,I3,n3⟩:=q3;have⟨m',hm,w3⟩:=hN σ3 H3 n3;exact⟨m',hm,σ3,H3,I3,w3⟩
  |cont=>
   have⟨σ3,H3,I3,n3⟩:=q3;have⟨m',hm,w3⟩:=hN σ3 H3 n3;exact⟨m',hm,σ3,H3,I3,w3⟩
  |brk=>exact q3
  |ret v=>exact q3
 |false=>
  rw[if_neg Bool.false_ne_true];exact wpAny_execs_nil ⟨σ1,H2,I2,q2⟩
end
structure It where
 go:Nat->Hp->Prop
 yld:Nat->Hp->V->Hp->Prop
 stop:Nat->Hp->Prop
def uK(X:Cx)(pins:PNx)(H:Hp)(b:AdX):Prop:=H b=none/\b≠X.env.locals/\b∉X.fs/\(b∈X.ex\/X.s₀.heap.objs.size<=b)/\(∀x c,X.env.cells.lookup x=some c->c≠b)/\∀p∈X.pn++pins,p.1≠b
theorem Inv.zbh{X:Cx}{pins:PNx}{σ:St}{H H':Hp}{s:ShX}{b:AdX}(I:Inv X pins σ H s)(hb:s.heap.objs.size<=b)(hn:H' b=none):uK X pins H' b:=by
 refine⟨hn,Nat.ne_of_gt (Nat.lt_of_lt_of_le I.lt hb),I.nofs hb,.inr (Nat.le_trans I.sz hb),λx c e z=>?_,λp hp z=>?_⟩
 ·have⟨v,q⟩:=I.cell x c e;exact absurd (Nat.lt_of_lt_of_le q.lt (by rw[z];exact hb)) (Nat.lt_irrefl _)
 ·exact absurd (Nat.lt_of_lt_of_le (Heap.lt_size (I.pin p hp).1) (by rw[z];exact hb)) (Nat.lt_irrefl _)
structure Turn(P:Program)(w:World)(K:FRx)(tg:Expr)(J:It)(fp:LAd)(it:AdX)(tn:Nat->Heap->Prop):Prop where
 mem:it∈fp
 obj:∀i h,tn i h->∀b∈fp,∃o,h.get? b=some o/\∀v,o.data≠ .cell v
 keep:∀i h h',tn i h->(∀b∈fp,∀o,h.get? b=some o->h'.get? b=some o)->tn i h'
 item:∀(X:Cx),X.prog=P->X.w=w->X.K=K->X.calm=true->∀(i:Nat)(pins:PNx)(s:ShX)(σ:St)(H:Hp)(E:VSx),Inv X pins σ H s->(∀b∈fp,uK X pins H b)->tn i s.heap->J.go i H->
  wpAny (model P w) X.A (pyNext (.ref it)) (λr s1=>∃u,r=some u/\
   wpAny (model P w) X.A (letOwnedTupleGo tg (.ref it) u) (λ_ s2=>∃x H',Inv X pins σ H' s2/\RelV x u/\J.yld i H x H'/\tn (i+1) s2.heap/\∀b∈fp,H' b=none) E s1) E s
 done:∀(X:Cx),X.prog=P->X.w=w->X.K=K->X.calm=true->∀(i:Nat)(pins:PNx)(s:ShX)(σ:St)(H:Hp)(E:VSx),Inv X pins σ H s->(∀b∈fp,uK X pins H b)->tn i s.heap->J.stop i H->
  wpAny (model P w) X.A (pyNext (.ref it)) (λr s1=>r=none/\Inv X pins σ H s1) E s
 self:∀(A:Around)(i:Nat)(s:ShX)(Q:VSx)(E:VSx),tn i s.heap->Q (.ref it) s->wpAny (model P w) A (pyIter (.ref it)) Q E s
abbrev TI:=St->Hp->(It->Hp->Prop)->Prop
def PIE(X:Cx)(pins:PNx)(σ:St)(tg:Expr)(R:It->Hp->Prop)(itv:Value)(s2:ShX):Prop:=∃(it:AdX)(fp:LAd)(tn:Nat->Heap->Prop)(J:It)(H':Hp),itv=.ref it/\Inv X pins σ H' s2/\Turn X.prog X.w X.K tg J fp it tn/\tn 0 s2.heap/\(∀b∈fp,uK X pins H' b)/\R J H'
def PI(X:Cx)(tg iter:Expr)(wi:TI):Prop:=∀(pins:PNx)(s:ShX)(σ:St)(H:Hp)(R:It->Hp->Prop),Inv X pins σ H s->wi σ H R->
  wpAny (model X.prog X.w) X.A (eval iter X.env) (λv s1=>wpAny (model X.prog X.w) X.A (pyIter v) (PIE X pins σ tg R) X.xe s1) X.xe s
theorem zhl{M:Model}{A:Around}{E:VSx}{s:ShX}{tg:Expr}{it:AdX}{u:Value}{o:Obj}{n:String}{vs:Array Value}{Q:Unit->Shared->Prop}(ho:s.heap.get? it=some o)(hc:o.cls=.type n)(hd:o.data=.fields vs)(hn:["enumerate","zip","dict_itemiterator","dict_reverseitemiterator","odict_iterator","itertools.zip_longest","itertools.pairwise"].contains n=false)(hQ:Q () s):wpAny M A (letOwnedTupleGo tg (.ref it) u) Q E s:=by
 unfold letOwnedTupleGo;cases tg<;>first
  |exact wpAny_pure hQ
  |(cases u<;>first
    |exact wpAny_pure hQ
    |(refine wpAny_bind (wpAny_load ho ?_)
      rw[hc,hd];show wpAny M A (if (["enumerate","zip","dict_itemiterator","dict_reverseitemiterator","odict_iterator","itertools.zip_longest","itertools.pairwise"].contains n&&vs[0]?==some (rawInt _))=true then _ else _) Q E s
      rw[if_neg (by intro h;rw[hn,Bool.false_and] at h;cases h)];exact wpAny_pure hQ))
def Itl(K:FRx)(a:AdX):It:=⟨λi H=>∃xs x,SqL K H a xs/\xs[i]?=some x,λi H x H'=>H'=H/\∀xs,SqL K H a xs->xs[i]?=some x,λi H=>∃xs,SqL K H a xs/\xs.length<=i⟩
def Itt(K:FRx)(a:AdX):It:=⟨λi H=>∃xs x,SqT K H a xs/\xs[i]?=some x,λi H x H'=>H'=H/\∀xs,SqT K H a xs->xs[i]?=some x,λi H=>∃xs,SqT K H a xs/\xs.length<=i⟩
def Itr(lo:Int)(n:Nat):It:=⟨λi _=>i<n,λi H x H'=>H'=H/\x=.int (lo+i),λi _=>n<=i⟩
theorem zgj{P:Program}{w:World}{K:FRx}{tg:Expr}(a it:AdX):Turn P w K tg (Itl K a) [it] it (λi h=>h.IsListIter it a i) where
 mem:=by simp
 obj:=λi h st b hb=>by
  have e:b=it:=by simpa using hb
  subst e;have⟨o,e,c,d⟩:=st;exact⟨o,e,λv z=>by rw[d] at z;cases z⟩
 keep:=λi h h' st k=>st.at λo e=>k it (by simp) o e
 item:=by
  intro X hP hw hK hc i pins s σ H E I hf st hg;subst hP hw hK;have⟨xs,x,hq,hx⟩:=hg;have⟨its,rv,p,hz⟩:=I.list hq;have⟨u,hu,ru⟩:=rv.get hx;obtain⟨f0,f1,f2,f3,f4,f5⟩:=hf it (by simp);refine wpAny_pyNext_list_item st p.isList (x:=u) (by simpa using hu) λh' st' sb=>?_
  have I1:Inv X pins σ H { s with heap:=h' }:=I.turned (t':=s.toks) (λb o hb e=>(sb.2 b hb).trans e) f0 f1 f3 f4 f5;have⟨o,e,c,d⟩:=id st'
  exact⟨u,rfl,zhl (s:={ s with heap:=h' }) e c d (by decide) ⟨x,H,I1,ru,⟨rfl,λys hy=>by rw[I.zdA hy hq];exact hx⟩,st',λb hb=>(hf b hb).1⟩⟩
 done:=by
  intro X hP hw hK hc i pins s σ H E I hf st hg;subst hP hw hK;have⟨xs,hq,hx⟩:=hg;have⟨its,rv,p,hz⟩:=I.list hq;obtain⟨f0,f1,f2,f3,f4,f5⟩:=hf it (by simp);have hl:=rv.length;exact wpAny_pyNext_list_end (I.ok.hd hc) st p.isList (by simp;omega) λh' eb=>⟨rfl,I.turned (t':=s.toks) (λb o hb e=>eb b o hb e) f0 f1 f3 f4 f5⟩
 self:=λ_ _ _ _ _ st h=>wpAny_pyIter_listiter st h
theorem zeD{P:Program}{w:World}{K:FRx}{tg:Expr}(a it:AdX):Turn P w K tg (Itt K a) [it] it (λi h=>h.IsTupleIter it a i) where
 mem:=by simp
 obj:=λi h st b hb=>by
  have e:b=it:=by simpa using hb
  subst e;have⟨o,e,c,d⟩:=st;exact⟨o,e,λv z=>by rw[d] at z;cases z⟩
 keep:=λi h h' st k=>st.at λo e=>k it (by simp) o e
 item:=by
  intro X hP hw hK hc i pins s σ H E I hf st hg;subst hP hw hK;have⟨xs,x,hq,hx⟩:=hg;have⟨its,rv,p,hz⟩:=I.tuple hq;have⟨u,hu,ru⟩:=rv.get hx;obtain⟨f0,f1,f2,f3,f4,f5⟩:=hf it (by simp);refine wpAny_pyNext_tuple_item st (show s.heap.IsTuple a its.toArray from p) (x:=u) (by simpa using hu) λh' st' sb=>?_
  have I1:Inv X pins σ H { s with heap:=h' }:=I.turned (t':=s.toks) (λb o hb e=>(sb.2 b hb).trans e) f0 f1 f3 f4 f5;have⟨o,e,c,d⟩:=id st'
  exact⟨u,rfl,zhl (s:={ s with heap:=h' }) e c d (by decide) ⟨x,H,I1,ru,⟨rfl,λys hy=>by rw[I.zaU hy hq];exact hx⟩,st',λb hb=>(hf b hb).1⟩⟩
 done:=by
  intro X hP hw hK hc i pins s σ H E I hf st hg;subst hP hw hK;have⟨xs,hq,hx⟩:=hg;have⟨its,rv,p,hz⟩:=I.tuple hq;obtain⟨f0,f1,f2,f3,f4,f5⟩:=hf it (by simp);have hl:=rv.length;exact wpAny_pyNext_tuple_end (I.ok.hd hc) st (show s.heap.IsTuple a its.toArray from p) (by simp;omega) λh' eb=>⟨rfl,I.turned (t':=s.toks) (λb o hb e=>eb b o hb e) f0 f1 f3 f4 f5⟩
 self:=λ_ _ _ _ _ st h=>wpAny_pyIter_tupleiter st h
theorem zeb{P:Program}{w:World}{K:FRx}{tg:Expr}(it:AdX)(lo:Int)(n:Nat):Turn P w K tg (Itr lo n) [it] it (λi h=>IsRangeIter h it (lo+(i:Nat)*1) ((n:Int) - (i:Nat)) 1) where
 mem:=by simp
 obj:=λi h st b hb=>by
  have e:b=it:=by simpa using hb
  subst e;exact⟨_,st,λv z=>by
   have z':Data.fields _=Data.cell v:=z;cases z'⟩
 keep:=λi h h' st k=>k it (by simp) _ st
 item:=by
  intro X hP hw hK hc i pins s σ H E I hf st hg;subst hP hw hK;obtain⟨f0,f1,f2,f3,f4,f5⟩:=hf it (by simp);have W:=Walks.range (prog:=X.prog) (w:=X.w) (I.ok.hd hc) it lo 1 n;refine W.item i s _ _ hg st λv h' tk hv st' kk=>?_
  obtain⟨t,rfl⟩:=hv;have I1:Inv X pins σ H { s with heap:=h',toks:=tk }:=I.turned (λb o hb e=>kk b o (by simpa using hb) e) f0 f1 f3 f4 f5;refine⟨_,rfl,zhl (s:={ s with heap:=h',toks:=tk }) (n:="range_iterator") st' rfl rfl (by decide) ⟨.int (lo+i),H,I1,⟨t,?_⟩,⟨rfl,rfl⟩,st',λb hb=>(hf b hb).1⟩⟩;rw[Int.mul_one]
 done:=by
  intro X hP hw hK hc i pins s σ H E I hf st hg;subst hP hw hK;obtain⟨f0,f1,f2,f3,f4,f5⟩:=hf it (by simp);exact wpAny_pyNext_range_end (I.ok.hd hc) st (by have:n<=i:=hg;omega) λh' eb=>⟨rfl,I.turned (t':=s.toks) (λb o hb e=>eb b o hb e) f0 f1 f3 f4 f5⟩
 self:=λ_ _ _ _ _ st h=>wpAny_pyIter_rangeiter st h
section
variable{X:Cx}{tg:Expr}
theorem zc1{pins:PNx}{σ:St}{H:Hp}{s:ShX}{R:It->Hp->Prop}{E:VSx}{lo hi:Int}{t u v:Tok}{tk:Nat}(I:Inv X pins σ H s)(h1:-(2 ^ 62)<=lo)(h2:lo<2 ^ 62)(h3:-(2 ^ 62)<=hi)(h4:hi<2 ^ 62)(q:R (Itr lo (hi - lo).toNat) H):wpAny (model X.prog X.w) X.A (pyIter (.ref s.heap.objs.size)) (PIE X pins σ tg R) E { s with heap:=s.heap.push { cls:=.type "range",data:=.fields #[.int lo t,.int hi u,.int 1 v] },toks:=tk }:=by
 refine wpAny_pyIter_range (IsRange.new ..) (small_one h1 h2 h3 h4) ?_;have I1:Inv X pins σ H { s with heap:=s.heap.push { cls:=.type "range",data:=.fields #[.int lo t,.int hi u,.int 1 v] },toks:=tk }:=I.kept λb o e=>Heap.get?_push_of_some _ e
 refine⟨(s.heap.push { cls:=.type "range",data:=.fields #[.int lo t,.int hi u,.int 1 v] }).objs.size,[(s.heap.push { cls:=.type "range",data:=.fields #[.int lo t,.int hi u,.int 1 v] }).objs.size],_,_,H,rfl,
  I1.kept (t':=tk) λb o e=>Heap.get?_push_of_some _ e,zeb _ lo (hi - lo).toNat,?_,λb hb=>?_,q⟩
 ·have e1:lo+((0:Nat):Int)*1=lo:=by simp
  have e2:(((hi - lo).toNat:Nat):Int) - ((0:Nat):Int)=Builtin.Range.rangeSize lo hi 1:=by rw[rangeSize_one];split<;>omega
  show IsRangeIter _ _ (lo+((0:Nat):Int)*1) ((((hi - lo).toNat:Nat):Int) - ((0:Nat):Int)) 1
  rw[e1,e2];exact Heap.get?_push_size _ rfl
 ·have e:b=(s.heap.push { cls:=.type "range",data:=.fields #[.int lo t,.int hi u,.int 1 v] }).objs.size:=by simpa using hb
  subst e;exact I1.zbh (Nat.le_refl _) (I1.hok.fresh (Nat.le_refl _))
def zmN(ta:TA):TI:=λσ H R=>ta σ H λvs H1=>∃j:Int,vs=[.int j]/\-(2 ^ 62)<=j/\j<2 ^ 62/\R (Itr 0 j.toNat) H1
def zmx(ta:TA):TI:=λσ H R=>ta σ H λvs H1=>∃i j:Int,vs=[.int i,.int j]/\(-(2 ^ 62)<=i/\i<2 ^ 62/\-(2 ^ 62)<=j/\j<2 ^ 62)/\R (Itr i (j - i).toNat) H1
theorem zaM{a:Expr}{ta:TA}{p pos:Pos}(hg:Gl X "range")(hm:X.mg "range"=none)(ha:PA X [a] ta)(hs:starEach [a] X.env=[(false,eval a X.env)]:=by rfl):PI X tg (.Call (.Name "range" p) [a] [] pos) (zmN ta):=by
 intro pins s σ H R I h;refine Call_ (UD I hg hm boot_range (PyProof.Rows.callWith_type1 (thn (ha pos pins s σ H _ I h) λus s1 ⟨vs,H1,I1,r1,q1⟩=>?_) hs rfl));obtain⟨j,e,q1,q2,q⟩:=q1;subst e;cases r1 with
 |cons r rr=>
  cases rr;obtain⟨t,rfl⟩:=r;exact call_range_1 (zc1 I1 (by omega) (by omega) q1 q2 (by simpa using q))
theorem zf0{a b:Expr}{ta:TA}{p pos:Pos}(hg:Gl X "range")(hm:X.mg "range"=none)(ha:PA X [a,b] ta)(hs:starEach [a,b] X.env=[(false,eval a X.env),(false,eval b X.env)]:=by rfl)(hs2:starEach [b] X.env=[(false,eval b X.env)]:=by rfl):PI X tg (.Call (.Name "range" p) [a,b] [] pos) (zmx ta):=by
 intro pins s σ H R I h;refine Call_ (UD I hg hm boot_range (PyProof.Rows.callWith_type1 (thn (ha pos pins s σ H _ I h) λus s1 ⟨vs,H1,I1,r1,q1⟩=>?_) (by rw[hs,hs2]) (by rw[hs2];rfl)));obtain⟨i,j,e,⟨q1,q2,q3,q4⟩,q⟩:=q1;subst e;cases r1 with
 |cons r rr=>
  cases rr with
  |cons r' rr=>
   cases rr;obtain⟨t,rfl⟩:=r;obtain⟨t',rfl⟩:=r';exact call_range_2 (zc1 I1 q1 q2 q3 q4 q)
def znm(wi:TI)(g:TG)(tb:TS):TS:=λD σ H=>wi σ H λJ H1=>∃W:Nat->Nat->St->Hp->Prop,(∃m,W 0 m σ H1)/\∀i m σ H,W i m σ H->
 (J.stop i H/\D.nx σ H)\/(J.go i H/\∃N:St->Hp->Prop,(∀σ' H',N σ' H'->∃m',m'<m/\W (i+1) m' σ' H')/\∀x H',J.yld i H x H'->g x σ H' λσ2 H2=>tb { D with nx:=N,ct:=N,bk:=D.nx } σ2 H2)
def zbR(fp:LAd)(h:Heap):List (Addr×Obj):=fp.filterMap λb=>(h.get? b).map λo=>(b,o)
theorem xY{fp:LAd}{h:Heap}{b:AdX}{o:Obj}(hb:b∈fp)(e:h.get? b=some o):(b,o)∈zbR fp h:=List.mem_filterMap.mpr ⟨b,hb,by rw[e];rfl⟩
theorem zgk{fp:LAd}{h:Heap}{p:Addr×Obj}(hp:p∈zbR fp h):p.1∈fp/\h.get? p.1=some p.2:=by
 have⟨b,hb,e⟩:=List.mem_filterMap.mp hp;cases q:h.get? b with
 |none=>rw[q] at e;cases e
 |some o=>
  rw[q] at e;have e':(b,o)=p:=Option.some.inj e;subst e';exact⟨hb,q⟩
theorem Inv.pinned{pins:PNx}{σ:St}{H:Hp}{s:ShX}{fp:LAd}(I:Inv X pins σ H s)(hf:∀b∈fp,uK X pins H b)(ho:∀b∈fp,∃o,s.heap.get? b=some o/\∀v,o.data≠ .cell v):Inv X (pins++zbR fp s.heap) σ H s:=I.zeX λp hp=>(List.mem_append.mp hp).elim (λz=>I.pin p (List.mem_append_right _ z)) λz=>by
  have⟨hb,e⟩:=zgk z;have⟨f0,f1,f2,_⟩:=hf p.1 hb;have⟨o,e',d⟩:=ho p.1 hb;rw[e] at e';cases e';exact⟨e,f0,f1,f2,d⟩
theorem Inv.ur{pins pl:PNx}{σ:St}{H:Hp}{s:ShX}(I:Inv X (pins++pl) σ H s):Inv X pins σ H s:=I.zeX λp hp=>I.pin p (List.mem_append_right _ (List.mem_append_left _ hp))
theorem zer{iter:Expr}{body:List Stmt}{wi:TI}{g:TG}{tb:TS}{pos:Pos}(hp:PassesOwn (model X.prog X.w) X.A X.env X.xe)(hc:X.calm=true)(hi:PI X tg iter wi)(hg:PG X tg g)(hb:PSs X body tb)(hs:FSx X iter:=by exact λ_=>rfl):PS X (.For tg iter body [] pos) (znm wi g tb):=by
 intro pins s σ H D I h;refine wpAny_For (thn (hi pins s σ H _ I h) λv s1 h1=>thn h1 λitv s2 h2=>?_) hs;have⟨it,fp,tn,J,H2,e,I2,T,st2,f2,W,⟨m0,w0⟩,turn⟩:=h2;subst e;have stat:∀{H':Hp},(∀b∈fp,H' b=none)->∀b∈fp,uK X pins H' b:=λhn b hb=>⟨hn b hb,(f2 b hb).2⟩
 refine codeAny_forLoop_any (λn s'=>∃i σ' H',Inv X pins σ' H' s'/\tn i s'.heap/\(∀b∈fp,H' b=none)/\W i n σ' H') ?_ m0 ⟨0,σ,H2,I2,st2,λb hb=>(f2 b hb).1,w0⟩;rintro n s3 ⟨i,σ3,H3,I3,st3,fr3,w3⟩;rcases turn i n σ3 H3 w3 with⟨stop,qn⟩|⟨go,N,hN,step⟩
 ·refine wpAny_passesOwn hp (thn (T.done X rfl rfl rfl hc i pins s3 σ3 H3 X.xe I3 (stat fr3) st3 stop) λr s4 ⟨hr,I4⟩=>?_);subst hr;exact wpAny_execs_nil ⟨σ3,H3,I4,qn⟩
 ·refine wpAny_passesOwn hp (thn (T.item X rfl rfl rfl hc i pins s3 σ3 H3 X.xe I3 (stat fr3) st3 go) λr s4 ⟨u,hr,h4⟩=>?_);subst hr;refine wpAny_passesOwn hp (thn h4 λ_ s5 ⟨x,H5,I5,r5,y5,st5,fr5⟩=>?_);have I5':=I5.pinned (stat fr5) (T.obj _ _ st5);refine wpAny_passesOwn hp (thn (hg _ s5 σ3 H5 x u _ I5' r5 (step x H5 y5)) λ_ s6 ⟨σ6,H6,I6,q6⟩=>?_);refine wpAny_passesOwn hp (thn (hb _ s6 σ6 H6 _ I6 q6) λf s7 q7=>?_);have again:∀{σ7:St} {H7:Hp},Inv X (pins++zbR fp s5.heap) σ7 H7 s7->N σ7 H7->∃m,m<n/\∃i σ' H',Inv X pins σ' H' s7/\tn i s7.heap/\(∀b∈fp,H' b=none)/\W i m σ' H':=λ{σ7 H7} I7 n7=>by
   have⟨m',hm,w7⟩:=hN σ7 H7 n7;refine⟨m',hm,i+1,σ7,H7,I7.ur,T.keep _ _ _ st5 λb hb o e=>(I7.pin (b,o) (List.mem_append_right _ (List.mem_append_right _ (xY hb e)))).1,λb hb=>?_,w7⟩;have⟨o,e,d⟩:=T.obj _ _ st5 b hb;exact(I7.pin (b,o) (List.mem_append_right _ (List.mem_append_right _ (xY hb e)))).2.1
  cases f with
  |next=>have⟨σ7,H7,I7,n7⟩:=q7;exact again I7 n7
  |cont=>have⟨σ7,H7,I7,n7⟩:=q7;exact again I7 n7
  |brk=>obtain⟨σ7,H7,I7,q7⟩:=q7;exact⟨σ7,H7,I7.ur,q7⟩
  |ret v=>obtain⟨x7,σ7,H7,I7,r7,q7⟩:=q7;exact⟨x7,σ7,H7,I7.ur,r7,q7⟩
end
abbrev R2:=V->V->Hp->VK->Prop
def OpR(X:Cx)(f:Value->Value->Sem Value)(r:R2):Prop:=∀(pins:PNx)(s:ShX)(σ:St)(H:Hp)(x y:V)(v u:Value)(Q:VK),Inv X pins σ H s->RelV x v->RelV y u->r x y H Q->
  wpAny (model X.prog X.w) X.A (f v u) (EP X pins σ Q) X.xe s
def UnR(X:Cx)(f:Value->Sem Value)(r:V->Hp->VK->Prop):Prop:=∀(pins:PNx)(s:ShX)(σ:St)(H:Hp)(x:V)(v:Value)(Q:VK),Inv X pins σ H s->RelV x v->r x H Q->
  wpAny (model X.prog X.w) X.A (f v) (EP X pins σ Q) X.xe s
def wk(X:Cx)(f:Value)(r:List V->Hp->VK->Prop):Prop:=∀(pins:PNx)(s:ShX)(σ:St)(H:Hp)(xs:List V)(us:LVl)(Q:VK),Inv X pins σ H s->Vals xs us->r xs H Q->
  wpAny (model X.prog X.w) X.A (call f us) (EP X pins σ Q) X.xe s
def tOp(r:R2)(ta tb:TE):TE:=λσ H Q=>ta σ H λx H1=>tb σ H1 λy H2=>r x y H2 Q
def tUn(r:V->Hp->VK->Prop)(ta:TE):TE:=λσ H Q=>ta σ H λx H1=>r x H1 Q
def rI(C:Int->Int->Prop)(g:Int->Int->V):R2:=λx y H Q=>∃i j,x=.int i/\y=.int j/\C i j/\Q (g i j) H
def rI0(g:Int->Int->V):R2:=λx y H Q=>∃i j,x=.int i/\y=.int j/\Q (g i j) H
def rU(g:Int->V):V->Hp->VK->Prop:=λx H Q=>∃i,x=.int i/\Q (g i) H
section
variable{X:Cx}{a b c:Expr}{ta tb tc:TE}{pos:Pos}
theorem zkX(ha:PE X a ta)(hb:PE X b tb){pins:PNx}{s:ShX}{σ:St}{H:Hp}{R:V->V->Hp->Prop}(I:Inv X pins σ H s)(h:ta σ H λx H1=>tb σ H1 λy H2=>R x y H2){Q:VSx}{f:Value->Value->Sem Value}(hf:∀v u s2 x y H2,Inv X pins σ H2 s2->RelV x v->RelV y u->R x y H2->wpAny (model X.prog X.w) X.A (f v u) Q X.xe s2):wpAny (model X.prog X.w) X.A (eval a X.env) (λv s₁=>wpAny (model X.prog X.w) X.A (eval b X.env) (λu s₂=>wpAny (model X.prog X.w) X.A (f v u) Q X.xe s₂) X.xe s₁) X.xe s:=by
 refine thn (ha pins s σ H _ I h) λv s1 ⟨x,H1,I1,r1,q1⟩=>?_
 refine thn (hb pins s1 σ H1 _ I1 q1) λu s2 ⟨y,H2,I2,r2,q2⟩=>?_
 exact hf v u s2 x y H2 I2 r1 r2 q2
theorem zaI{op:Operator}{r:R2}(ho:OpR X (binaryOp op) r)(ha:PE X a ta)(hb:PE X b tb):PE X (.BinOp a op b pos) (tOp r ta tb):=by
 intro pins s σ H Q I h;exact wpAny_BinOp (zkX ha hb I h λv u s2 x y H2 I2 rx ry q=>ho pins s2 σ H2 x y v u Q I2 rx ry q)
theorem zmj{op:UnaryOp}{r:V->Hp->VK->Prop}(ho:UnR X (unaryOp op) r)(ha:PE X a ta):PE X (.UnaryOp op a pos) (tUn r ta):=by
 intro pins s σ H Q I h;exact UnaryOp_ (thn (ha pins s σ H _ I h) λv s1 ⟨x,H1,I1,r1,q1⟩=>ho pins s1 σ H1 x v Q I1 r1 q1)
theorem opI{f:Value->Value->Sem Value}{C:Int->Int->Prop}{g:Int->Int->Int}(rule:∀(i j:Int)(t u:Tok)(s:ShX)(Q:VSx)(E:VSx),C i j->Q (.int (g i j) s.toks) { s with toks:=s.toks+1 }->wpAny (model X.prog X.w) X.A (f (.int i t) (.int j u)) Q E s):OpR X f (rI C λi j=>.int (g i j)):=by
 intro pins s σ H x y v u Q I rx ry h;obtain⟨i,j,rfl,rfl,hc,q⟩:=h;obtain⟨t,rfl⟩:=rx;obtain⟨t',rfl⟩:=ry;exact rule i j t t' s _ _ hc ⟨.int (g i j),H,I.tok _,⟨_,rfl⟩,q⟩
theorem zmQ{f:Value->Value->Sem Value}{g:Int->Int->Int}(rule:∀(i j:Int)(t u:Tok)(s:ShX)(Q:VSx)(E:VSx),Q (.int (g i j) s.toks) { s with toks:=s.toks+1 }->wpAny (model X.prog X.w) X.A (f (.int i t) (.int j u)) Q E s):OpR X f (rI0 λi j=>.int (g i j)):=by
 intro pins s σ H x y v u Q I rx ry h;obtain⟨i,j,rfl,rfl,q⟩:=h;obtain⟨t,rfl⟩:=rx;obtain⟨t',rfl⟩:=ry;exact rule i j t t' s _ _ ⟨.int (g i j),H,I.tok _,⟨_,rfl⟩,q⟩
theorem zmv{f:Value->Value->Sem Value}{g:Int->Int->Bool}(rule:∀(i j:Int)(t u:Tok)(s:ShX)(Q:VSx)(E:VSx),Q (.bool (g i j)) s->wpAny (model X.prog X.w) X.A (f (.int i t) (.int j u)) Q E s):OpR X f (rI0 λi j=>.bl (g i j)):=by
 intro pins s σ H x y v u Q I rx ry h;obtain⟨i,j,rfl,rfl,q⟩:=h;obtain⟨t,rfl⟩:=rx;obtain⟨t',rfl⟩:=ry;exact rule i j t t' s _ _ ⟨.bl (g i j),H,I,rfl,q⟩
theorem j7:OpR X (binaryOp .Add) (rI0 λi j=>.int (i+j)):=zmQ λ_ _ _ _ _ _ _ q=>add_int q
theorem We:OpR X (binaryOp .Sub) (rI0 λi j=>.int (i - j)):=zmQ λ_ _ _ _ _ _ _ q=>sub_int q
theorem jP:OpR X (binaryOp .Mod) (rI (λ_ j=>j≠0) λi j=>.int (i.fmod j)):=opI λ_ _ _ _ _ _ _ hc q=>mod_int' hc q
theorem unI{f:Value->Sem Value}{g:Int->Int}(rule:∀(i:Int)(t:Tok)(s:ShX)(Q:VSx)(E:VSx),Q (.int (g i) s.toks) { s with toks:=s.toks+1 }->wpAny (model X.prog X.w) X.A (f (.int i t)) Q E s):UnR X f (rU λi=>.int (g i)):=by
 intro pins s σ H x v Q I rx h;obtain⟨i,rfl,q⟩:=h;obtain⟨t,rfl⟩:=rx;exact rule i t s _ _ ⟨.int (g i),H,I.tok _,⟨_,rfl⟩,q⟩
theorem zlv:UnR X (unaryOp .USub) (rU λi=>.int (-i)):=unI λ_ _ _ _ _ q=>neg_int q
end
section
variable{X:Cx}{a b c:Expr}{ta tb tc:TE}{pos:Pos}
theorem zlO{pins:PNx}{σ:St}{H:Hp}{s:ShX}{Q:VK}{k k':Bool}(I:Inv X pins σ H s)(q:Q (.bl k) H)(e:k=k'):EP X pins σ Q (.bool k') s:=by
 subst e;exact⟨.bl k,H,I,rfl,q⟩
theorem zb9:OpR X (compareOp .Lt) (rI0 λi j=>.bl (decide (i<j))):=zmv λ_ _ _ _ _ _ _ q=>lt_int q
theorem zfB:OpR X (compareOp .Gt) (rI0 λi j=>.bl (decide (j<i))):=zmv λ_ _ _ _ _ _ _ q=>gt_int q
theorem zbX:OpR X (compareOp .IsNot) (λx y H Q=>y=.non/\Q (.bl (!decide (x=.non))) H):=by
 intro pins s σ H x y v u Q I rx ry h;obtain⟨rfl,q⟩:=h;cases ry;refine isnot_none_gen (zlO I q ?_);cases x<;>first
  |(cases rx;rfl)
  |(obtain⟨t,rfl⟩:=rx;rfl)
theorem nomark(b:Expr){op:CmpOp}(h:op≠ .In:=by decide)(h2:op≠ .NotIn:=by decide):behindInMarks op b=false:=by
 have e1:(op==CmpOp.In)=false:=by cases op<;>first |rfl|exact absurd rfl h
 have e2:(op==CmpOp.NotIn)=false:=by cases op<;>first |rfl|exact absurd rfl h2
 cases b<;>simp[behindInMarks,e1,e2]
theorem zfn{op:CmpOp}{r:R2}(ho:OpR X (compareOp op) r)(ha:PE X a ta)(hb:PE X b tb)(hm:behindInMarks op b=false):PE X (.Compare a [op] [b] pos) (tOp r ta tb):=by
 intro pins s σ H Q I h;exact wpAny_Compare1 (zkX ha hb I h λv u s2 x y H2 I2 rx ry q=>ho pins s2 σ H2 x y v u Q I2 rx ry q) hm
def zmK(t:TE):TT:=λσ H Q=>t σ H λx H'=>∃k,x=.bl k/\Q k H'
theorem zbr{op:CmpOp}{r:R2}(ho:OpR X (compareOp op) r)(ha:PE X a ta)(hb:PE X b tb)(hm:behindInMarks op b=false):PT X (.Compare a [op] [b] pos) (zmK (tOp r ta tb)):=by
 intro pins s σ H Q I h;refine wpAny_isTrue_Compare1 (thn (ha pins s σ H _ I h) λv s1 ⟨x,H1,I1,r1,q1⟩=>thn (hb pins s1 σ H1 _ I1 q1) λu s2 ⟨y,H2,I2,r2,q2⟩=>
  thn (ho pins s2 σ H2 x y v u _ I2 r1 r2 q2) λc s3 ⟨z,H3,I3,r3,k,e,q3⟩=>?_) hm
 subst e;cases r3;exact wpAny_truthy_bool ⟨H3,I3,q3⟩
theorem Wg:(sizeLine:Nat)<2 ^ 63:=by rw[sizeLine_eq];decide
theorem vals1{x:V}{us:LVl}(r:Vals [x] us):∃u,us=[u]/\RelV x u:=by
 cases r with
 |cons r1 r2=>cases r2;exact⟨_,rfl,r1⟩
theorem vals2{x y:V}{us:LVl}(r:Vals [x,y] us):∃u w',us=[u,w']/\RelV x u/\RelV y w':=by
 cases r with
 |cons r1 r2=>
  cases r2 with
  |cons r3 r4=>cases r4;exact⟨_,_,rfl,r1,r3⟩
theorem zcx:wk X (.builtin "abs") (λxs H Q=>∃i,xs=[.int i]/\Q (.int (if i<0 then -i else i)) H):=by
 intro pins s σ H xs us Q I r h;obtain⟨i,rfl,q⟩:=h;obtain⟨u,rfl,t,rfl⟩:=vals1 r;exact call_abs_int λu tk=>⟨.int (if i<0 then -i else i),H,I.tok _,⟨_,rfl⟩,q⟩
end
structure zea(h:Heap)(x dx C:AdX)(mA:Str->Option Value):Prop where
 obj:h.get? x=some (W.instObj C dx)
 ns:h.Ns1 dx mA
 ne:dx≠x
theorem zgB{h:Heap}{dx:AdX}{mA:Str->Option Value}(n:h.Ns1 dx mA):∃od,h.get? dx=some od/\∀name,W.lookIn name od=some (mA name):=by
 have⟨o,es,ep,ho,hd,hk,_,hm⟩:=n;refine⟨o,ho,λname=>?_⟩;have e:=hm name;unfold nsFind findBy at e;rw[<-Array.find?_toList] at e;unfold W.lookIn;rw[hd];dsimp only;split
 ·rename_i y q;rw[q] at e;exact congrArg some e
 ·rename_i q;rw[q] at e;have a:es.toList.any (·.refKey)=false:=by
   rw[List.any_eq_false];intro y hy;obtain⟨z,t,hkey⟩:=hk y (Array.mem_toList_iff.mp hy);simp[DictEntry.refKey,hkey]
  have a':¬es.toList.any (·.refKey)=true:=by rw[a];exact Bool.false_ne_true
  rw[if_neg a'];exact congrArg some e
theorem zea.look{h:Heap}{x dx C:AdX}{mA:Str->Option Value}(I:zea h x dx C mA):∃od,W.InstAt h x (W.instObj C dx) C (some od)/\∀name,W.lookIn name od=some (mA name):=let ⟨od,ho,hl⟩:=zgB I.ns
 ⟨od,⟨I.obj,rfl,rfl,ho⟩,hl⟩
section
variable{prog:Program}{w:World}{A:Around}{E:VSx}{s:ShX}{K:FRx}{x dx C f:AdX}{mA:Str->Option Value}{name:Str}{v:Value}
theorem get_map{expr:Bool}{Q:VSx}(X:K.In s.heap)(I:zea s.heap x dx C mA)(hg:W.plainGet K C name=true)(hh:W.hasDictIn K C=true)(ha:W.findIn K (.ref C) name=some none)(hv:mA name=some v)(hv':W.handedIn v=true)(h:Q v { s with toks:=s.toks+1 }):wpAny (model prog w) A (getAttr (.ref x) name expr) Q E s:=by
 have⟨od,J,hl⟩:=I.look;exact W.get_value X J (W.plainGet_of hg).1 (W.findObj_own hh ha rfl (by rw[hl,hv])) hv' h
theorem zh2{pl:Sem Bool}{Q:Value×List Value->Shared->Prop}(X:K.In s.heap)(I:zea s.heap x dx C mA)(hg:W.plainGet K C name=true)(hf:W.findIn K (.ref C) name=some (some (.ref f)))(ht:W.isFn K (.ref f)=true)(hv:mA name=none)(h:Q (.ref f,[.ref x]) s):wpAny (model prog w) A (getMethod (.ref x) name pl) Q E s:=by
 have⟨od,J,hl⟩:=I.look;exact W.method_fn X J (W.plainGet_of hg).1 (W.plainGet_of hg).2 hf (beq_iff_eq.mp ht) (by show(W.lookIn name od).map (·.isSome)=some false;rw[hl,hv];rfl) h
theorem zkl{ns:LSr}{Q:Unit->Shared->Prop}(X:K.In s.heap)(I:zea s.heap x dx C mA)(hs:W.findIn K (.ref C) "__setattr__"=some (some (.builtin "object.__setattr__")))(hp:W.plainOver K C=true)(ht:W.takerIn K C name=some none)(hh:W.hasDictIn K C=true)(hw:PySem.Within mA ns)(hsz:ns.length<=sizeLine)(h:∀h',zea h' x dx C (λy=>if y=name then some v else mA y)->Heap.SameBut dx s.heap h'->Q () { s with heap:=h',toks:=s.toks+2 }):wpAny (model prog w) A (setAttr (.ref x) name v) Q E s:=by
 have⟨od,J,hl⟩:=I.look;refine W.set_plain X J hs (W.osa_open (s:={ s with toks:=s.toks+1 }) (r:=none) X J hp ht λb=>?_);have⟨cd,hc,hd'⟩:=W.any_some hh;have hx:s.heap.get? x=some ⟨.ref C,some dx,.plain,#[]⟩:=I.obj;refine wpAny_bind (wpAny_pure (wpAny_bind (wpAny_bind (wpAny_loadPart hx (wpAny_bind (W.Looks.here (s:={ s with toks:=s.toks+1 }) (W.looks_clsIn X hc) ?_))))));rw[hd'];refine wpAny_pure (a:=some dx) (wpAny_bind (wpAny_pure (wpAny_bind ?_)));refine wpAny_nsSet1 (s:={ s with toks:=s.toks+1 }) I.ns λh' hn2 hs2=>?_
 obtain⟨oD,esD,epD,hoD,hdD,hcD⟩:=hn2.count (PySem.Within.cons name v hw);refine wpAny_bind (wpAny_lookBehind hoD (by rw[hdD];exact pastItsLine_dict (Nat.le_trans hcD (by rw[List.length_cons];omega))) ?_);exact wpAny_pure (h _ ⟨(hs2.2 _ (Ne.symm I.ne)).trans I.obj,hn2,I.ne⟩ hs2)
theorem zha{R:Result->Shared->Prop}{vs:LVl}{kw:List (Str×Value)}(X:K.In s.heap)(hm:W.makesIn K C=true)(hi:W.findIn K (.ref C) "__init__"=some (some (.ref f)))(hf:W.typeIn K (.ref f)=some (.type "function"))(h:codeAny (model prog w) (A.under (.builtin "type.__call__" ⟨.ref C::vs,kw⟩)) (.call (.ref f) ⟨.ref (s.heap.objs.size+1)::vs,kw⟩) (W.InitBack (s.heap.objs.size+1) R)
   { s with heap:=(s.heap.push W.emptyDict).push (W.instObj C s.heap.objs.size) }):codeAny (model prog w) A (.call (.ref C) ⟨vs,kw⟩) R s:=by
 have⟨hh,g,d,t,os⟩:=s;exact W.make_core (W.makes_of X hm) (W.looks_findIn X hi) (λself=>W.bind_fn X self hf) (.inl rfl) h
end
def uW(f:Str)(v:V):List (Str×V)->List (Str×V)
 |[]=>[(f,v)]
 |(g,x)::r=>if g=f then (g,v)::r else (g,x)::uW f v r
theorem WH(f g:Str)(v:V):∀fs:List (Str×V),(uW f v fs).lookup g=if g=f then some v else fs.lookup g
 |[]=>by
  show List.lookup g [(f,v)]=_
  by_cases h:g=f
  ·have hb:(g==f)=true:=beq_iff_eq.mpr h;simp only [List.lookup,hb,if_pos h]
  ·have hb:(g==f)=false:=beq_eq_false_iff_ne.mpr h;simp only [List.lookup,hb,if_neg h]
 |(k,x)::r=>by
  have ih:=WH f g v r;rw[show uW f v ((k,x)::r)=(if k=f then (k,v)::r else (k,x)::uW f v r) from rfl];by_cases hk:k=f
  ·rw[if_pos hk];by_cases h:g=k
   ·have hb:(g==k)=true:=beq_iff_eq.mpr h;simp only [List.lookup,hb,if_pos (h.trans hk)]
   ·have hb:(g==k)=false:=beq_eq_false_iff_ne.mpr h;simp only [List.lookup,hb,if_neg (λe:g=f=>h (e.trans hk.symm))]
  ·rw[if_neg hk];by_cases h:g=k
   ·have hb:(g==k)=true:=beq_iff_eq.mpr h;simp only [List.lookup,hb,if_neg (λe:g=f=>hk (h.symm.trans e))]
   ·have hb:(g==k)=false:=beq_eq_false_iff_ne.mpr h;simp only [List.lookup,hb];exact ih
theorem VW(f:Str)(v:V):∀fs:List (Str×V),f∈(uW f v fs).map (·.1)/\∀g,g∈fs.map (·.1)->g∈(uW f v fs).map (·.1)
 |[]=>⟨by simp[uW],λg h=>by simp at h⟩
 |(k,x)::r=>by
  have⟨i1,i2⟩:=VW f v r;rw[show uW f v ((k,x)::r)=(if k=f then (k,v)::r else (k,x)::uW f v r) from rfl];by_cases hk:k=f
  ·rw[if_pos hk];subst hk;exact⟨by simp,λg h=>by simpa using h⟩
  ·rw[if_neg hk];refine⟨?_,λg h=>?_⟩
   ·rw[List.map_cons];exact List.mem_cons_of_mem _ i1
   ·rw[List.map_cons] at h ⊢;rcases List.mem_cons.mp h with e|e
    ·exact List.mem_cons.mpr (.inl e)
    ·exact List.mem_cons_of_mem _ (i2 g e)
theorem WK(f:Str)(v:V):∀fs:List (Str×V),(uW f v fs).length<=fs.length+1
 |[]=>by simp[uW]
 |(k,x)::r=>by
  have ih:=WK f v r;rw[show uW f v ((k,x)::r)=(if k=f then (k,v)::r else (k,x)::uW f v r) from rfl];by_cases hk:k=f
  ·rw[if_pos hk,List.length_cons,List.length_cons];omega
  ·rw[if_neg hk,List.length_cons,List.length_cons];omega
theorem vC.some_of{v:V}{o:Option Value}(r:vC (some v) o):∃u,o=some u/\RelV v u:=by
 cases o with
 |none=>exact(show False from r).elim
 |some u=>exact⟨u,rfl,r⟩
theorem vC.none_of{o:Option Value}(r:vC none o):o=none:=by
 cases o with
 |none=>rfl
 |some u=>exact(show False from r).elim
theorem zgn{v:V}{u:Value}(r:RelV v u):W.handedIn u=true:=by
 cases v with
 |non=>cases (show u=Value.none from r);rfl
 |bl b=>cases (show u=Value.bool b from r);rfl
 |int i=>obtain⟨t,e⟩:=(show ∃t,u=Value.int i t from r);cases e;rfl
 |str x=>obtain⟨t,e⟩:=(show ∃t,u=Value.str x t from r);cases e;rfl
 |byt b=>obtain⟨t,e⟩:=(show ∃t,u=Value.bytes b t from r);cases e;rfl
 |flt b=>obtain⟨t,e⟩:=(show ∃t,u=Value.float b t from r);cases e;rfl
 |ref a=>cases (show u=Value.ref a from r);rfl
 |ty n=>cases (show u=Value.type n from r);rfl
section
variable{P:Program}{w:World}{H H':Hp}{h h':Heap}{a C dx:AdX}{fs fs':List (Str×V)}
theorem zbL(hok:HOk P w H h)(e:H a=some (.ins C dx fs)):∃mA,zea h a dx C mA/\(∀f,vC (fs.lookup f) (mA f))/\PySem.Within mA (fs.map (·.1))/\fs.length<=1000/\H dx=some (.own a):=by
 obtain⟨d,z,ne,ob,mA,n,r,q⟩:=(show vo P w H h a (.ins C dx fs) from hok a _ e);exact⟨mA,⟨ob,n,ne⟩,r,q,z,d⟩
end
structure Cls(K:FRx)(C:AdX):Prop where
 pg:W.plainGet K C Str.empty=true
 hd:W.hasDictIn K C=true
 po:W.plainOver K C=true
 sa:W.findIn K (.ref C) "__setattr__"=some (some (.builtin "object.__setattr__"))
theorem Cls.get{K:FRx}{C:AdX}(c:Cls K C)(f:Str):W.plainGet K C f=true:=c.pg
def zH(K:FRx)(C:AdX)(f:Str):Prop:=W.findIn K (.ref C) f=some none
theorem zH.taker{K:FRx}{C:AdX}{f:Str}(n:zH K C f):W.takerIn K C f=some none:=by
 unfold W.takerIn;rw[show W.findIn K (.ref C) f=some none from n];rfl
structure Meth(K:FRx)(C:AdX)(m:Str)(f:AdX):Prop where
 at_:W.findIn K (.ref C) m=some (some (.ref f))
 fn:W.isFn K (.ref f)=true
 kp:W.keepIn K (.ref f)=true
section
variable{X:Cx}{pins:PNx}{σ:St}{H:Hp}{s:ShX}{a C dx:AdX}{fs:List (Str×V)}{f:Str}{v:V}{A:Around}{E:VSx}
theorem zex{b:Bool}{Q:VSx}(I:Inv X pins σ H s)(e:H a=some (.ins C dx fs))(c:Cls X.K C)(n:zH X.K C f)(l:fs.lookup f=some v)(h:∀u s',Inv X pins σ H s'->RelV v u->Q u s'):wpAny (model X.prog X.w) A (getAttr (.ref a) f b) Q E s:=by
 have⟨mA,O,r,_,_,_⟩:=zbL I.hok e;obtain⟨u,hu,ru⟩:=vC.some_of (v:=v) (o:=mA f) (by rw[<-l];exact r f);exact get_map I.kIn O (c.get f) c.hd n hu (zgn ru) (h u _ (I.tok _) ru)
theorem Uu{m:Str}{g:AdX}{pl:Sem Bool}{Q:Value×List Value->Shared->Prop}(I:Inv X pins σ H s)(e:H a=some (.ins C dx fs))(c:Cls X.K C)(k:Meth X.K C m g)(l:fs.lookup m=none)(h:Q (.ref g,[.ref a]) s):wpAny (model X.prog X.w) A (getMethod (.ref a) m pl) Q E s:=by
 have⟨mA,O,r,_,_,_⟩:=zbL I.hok e;have hn:mA m=none:=vC.none_of (by rw[<-l];exact r m);exact zh2 I.kIn O (c.get m) k.at_ k.fn hn h
theorem zeK{y:V}{u:Value}{Q:Unit->Shared->Prop}(I:Inv X pins σ H s)(e:H a=some (.ins C dx fs))(c:Cls X.K C)(n:zH X.K C f)(hl:fs.length<1000)(ry:RelV y u)(h:∀s',Inv X pins σ (upd H a (.ins C dx (uW f y fs))) s'->Q () s'):wpAny (model X.prog X.w) A (setAttr (.ref a) f u) Q E s:=by
 have⟨mA,O,r,wi,_,ho⟩:=zbL I.hok e;have hz:(fs.map (·.1)).length<=sizeLine:=by rw[List.length_map,sizeLine_eq];omega
 refine zkl I.kIn O c.sa c.po n.taker c.hd wi hz λh' O' sb=>h _ ?_
 have hd:∃o,h'.get? dx=some o:=let ⟨o,_,_,e',_⟩:=O'.ns;⟨o,e'⟩
 refine I.write (x:=a) (e:=dx) (by rw[e];exact True.intro) (.inr ho) (λb q hb z=>(sb.2 b hb).trans z) hd ?_;refine⟨by rw[zO O.ne];exact ho,?_,O.ne,O'.obj,_,O'.ns,λg=>?_,λg hg=>?_⟩
 ·have:=WK f y fs;omega
 ·show vC ((uW f y fs).lookup g) (if g=f then some u else mA g)
  rw[WH];by_cases q:g=f
  ·rw[if_pos q,if_pos q];exact ry
  ·rw[if_neg q,if_neg q];exact r g
 ·by_cases q:g=f
  ·rw[q];exact(VW f y fs).1
  ·refine(VW f y fs).2 g (wi g λz=>hg ?_);show(if g=f then some u else mA g)=none
   rw[if_neg q];exact z
theorem Inv.made(I:Inv X pins σ H s):Inv X pins σ (upd (upd H s.heap.objs.size (.own (s.heap.objs.size+1))) (s.heap.objs.size+1) (.ins C s.heap.objs.size []))
  { s with heap:=(s.heap.push W.emptyDict).push (W.instObj C s.heap.objs.size) }:=by
 have e1:(s.heap.push W.emptyDict).get? s.heap.objs.size=some W.emptyDict:=Heap.get?_push_size s.heap rfl;have e2:((s.heap.push W.emptyDict).push (W.instObj C s.heap.objs.size)).get? (s.heap.objs.size+1)=some (W.instObj C s.heap.objs.size):=by
  have:=Heap.get?_push_size (s.heap.push W.emptyDict) (o:=W.instObj C s.heap.objs.size) rfl;rwa [Heap.size_push] at this
 have e3:(s.heap.push W.emptyDict).Ns s.heap.objs.size (λ_=>none):=⟨W.emptyDict,#[],_,e1,rfl,(λe he=>absurd he (by simp)),λ_=>rfl⟩;have I1:=I.laid (a:=s.heap.objs.size) (o:=.own (s.heap.objs.size+1)) (h':=s.heap.push W.emptyDict) (t':=s.toks) (λb u q=>Heap.get?_push_of_some _ q) (Nat.le_refl _) ⟨_,e1⟩
 refine I1.laid (a:=s.heap.objs.size+1) (o:=.ins C s.heap.objs.size []) (t':=s.toks) (λb u q=>Heap.get?_push_of_some _ q) (Nat.le_of_eq (Heap.size_push _ _)) ?_;have ne:s.heap.objs.size≠s.heap.objs.size+1:=Nat.ne_of_lt (Nat.lt_succ_self _);refine⟨by rw[zO ne,zE],Nat.zero_le _,ne,e2,λ_=>none,(Heap.Ns1.of_empty e3).at λo q=>Heap.get?_push_of_some _ q,λ_=>True.intro,λy hy=>absurd rfl hy⟩
theorem zke{prog:Program}{w:World}{env:Env}{e:Expr}{f:Str}{pos:Pos}{s:ShX}{Q:VSx}(hb:attributeBase e f env (eval e env)=eval e env)(h:wpAny (model prog w) A (eval e env) (λo s₁=>wpAny (model prog w) A (getAttr o f true) Q E s₁) E s):wpAny (model prog w) A (eval (.Attribute e f pos) env) Q E s:=Attribute_any_ h (by rw[arm_eval_Attribute,hb])
end
def znl(K:FRx)(ta:TE)(f:Str):TE:=λσ H Q=>ta σ H λx H1=>∃a C dx fs v,x=.ref a/\H1 a=some (.ins C dx fs)/\Cls K C/\zH K C f/\fs.lookup f=some v/\Q v H1
def zm8(K:FRx)(ta tv:TE)(f:Str):TS:=λD σ H=>tv σ H λy H1=>ta σ H1 λx H2=>∃a C dx fs,x=.ref a/\H2 a=some (.ins C dx fs)/\Cls K C/\zH K C f/\fs.length<1000/\
 D.nx σ (upd H2 a (.ins C dx (uW f y fs)))
section
variable{X:Cx}{o e value:Expr}{f:Str}{pos pos' tpos:Pos}{ta tv:TE}
theorem va(he:PE X e ta)(hb:attributeBase e f X.env (eval e X.env)=eval e X.env):PE X (.Attribute e f pos) (znl X.K ta f):=by
 intro pins s σ H Q I h;refine zke hb (thn (he pins s σ H _ I h) λu s1 ⟨x,H1,I1,rx,a,C,dx,fs,v,ex,ea,c,n,l,q⟩=>?_);subst ex;obtain rfl:u=Value.ref a:=rx;exact zex I1 ea c n l λu' s2 I2 ru=>⟨v,H1,I2,ru,q⟩
theorem zbB(ha:PE X o ta)(hv:PE X value tv)(hs:swapsWith value (some (.Attribute o f pos')) pos.line X.env=pure false):PS X (.Assign [.Attribute o f pos'] value pos) (zm8 X.K ta tv f):=by
 intro pins s σ H D I h;refine plainObj_wpAny_Assign_Attribute (thn (hv pins s σ H _ I h) λu s1 ⟨y,H1,I1,ry,q⟩=>thn (ha pins s1 σ H1 _ I1 q) λov s2 ⟨x,H2,I2,rx,a,C,dx,fs,ex,ea,c,n,l,q2⟩=>?_) hs;subst ex;obtain rfl:ov=Value.ref a:=rx;exact zeK I2 ea c n l ry λs3 I3=>⟨σ,_,I3,q2⟩
theorem zkx{pl:Sem Bool}{m:Str}{apos:Pos}{args:List Expr}{pins:PNx}{s:ShX}{σ:St}{H:Hp}{Q:VSx}{te:TE}(he:PE X e te)(I:Inv X pins σ H s)(h:te σ H λx H1=>∃a C dx fs g,x=.ref a/\H1 a=some (.ins C dx fs)/\Cls X.K C/\Meth X.K C m g/\fs.lookup m=none/\
   ∀s1,Inv X pins σ H1 s1->wpAny (model X.prog X.w) X.A (callWith pos (.ref g) [.ref a] (backTo pos (starEach args X.env)) (backToKw pos (keywordEach [] X.env))) Q X.xe s1)(ht:eval (.Call (.Attribute e m apos) args [] pos) X.env=(do
   let ov <-eval e X.env
   standAt apos.atName
   let (f,first) <-holding [ov] (getMethod ov m pl)
   callWith pos f first (backTo pos (starEach args X.env)) (backToKw pos (keywordEach [] X.env)))):wpAny (model X.prog X.w) X.A (eval (.Call (.Attribute e m apos) args [] pos) X.env) Q X.xe s:=by
 refine W.methodCall_KW (pl:=pl) (thn (he pins s σ H _ I h) λu s1 ⟨x,H1,I1,rx,a,C,dx,fs,g,ex,ea,c,k,l,q⟩=>?_) ht;subst ex;obtain rfl:u=Value.ref a:=rx;exact Uu I1 ea c k l (q s1 I1)
end
structure Room(k:Nat)(A:Around):Prop where
 hd:A.handled=none
 dp:A.depth+3*k+5<recursionLimit
 un:A.units+16*k+200<cLine
theorem Room.mono{j k:Nat}{A:Around}(r:Room k A)(h:j<=k):Room j A:=⟨r.hd,by have:=r.dp;omega,by have:=r.un;omega⟩
theorem Room.deeper{k:Nat}{A:Around}(r:Room (k+1) A)(env:Env):Room k (A.deeper env):=⟨r.hd,by have:=r.dp;show A.depth+1+3*k+5<_;omega,by have:=r.un;show A.units+3+16*k+200<_;omega⟩
theorem zeJ{A:Around}{C:AdX}{us:LVl}{kw:List (Str×Value)}:(A.under (.builtin "type.__call__" ⟨.ref C::us,kw⟩)).depth=A.depth+1:=by
 first |rfl|simp[Around.under,Code.weight,Code.isCreation,Code.isGuard,Code.isCaller,Code.frames,Code.isFrame,guardIds]
theorem zeL{A:Around}{C:AdX}{us:LVl}{kw:List (Str×Value)}:(A.under (.builtin "type.__call__" ⟨.ref C::us,kw⟩)).units=A.units+1:=by
 first |rfl|simp[Around.under,Code.cUnits,Code.frames,Code.isFrame]
theorem Room.make{k:Nat}{A:Around}(r:Room (k+1) A)(C:AdX)(us:LVl)(kw:List (Str×Value)):Room k (A.under (.builtin "type.__call__" ⟨.ref C::us,kw⟩)):=⟨r.hd,by have:=r.dp;rw[zeJ];omega,by have:=r.un;rw[zeL];omega⟩
theorem Room.depth{k:Nat}{A:Around}(r:Room k A):A.depth<recursionLimit:=by have:=r.dp;omega
theorem Room.units{k:Nat}{A:Around}(r:Room k A):A.units+64<cLine:=by have:=r.un;omega
def zmO:TA:=λ_ H Q=>Q [] H
def zmS(ta:TE)(tr:TA):TA:=λσ H Q=>ta σ H λx H1=>tr σ H1 λxs H2=>Q (x::xs) H2
section
variable{X:Cx}{e:Expr}{es:List Expr}{te:TE}{t:TA}{pos:Pos}
theorem xv:PA X [] zmO:=λ_ _ _ _ H Q I h=>Calls.spliced_nil ⟨[],H,I,.nil,h⟩
theorem yD(ha:PE X e te)(hr:PA X es t)(hs:SEx X e es:=by rfl):PA X (e::es) (zmS te t):=by
 intro pos pins s σ H Q I h;rw[hs];show wpAny _ _ (spliced ((false,eval e X.env)::backTo pos (starEach es X.env))) _ _ s
 refine Calls.spliced_cons (thn (ha pins s σ H _ I h) λu s1 ⟨x,H1,I1,r1,q1⟩=>?_);exact thn (hr pos pins s1 σ H1 _ I1 q1) λus s2 ⟨xs,H2,I2,r2,q2⟩=>⟨x::xs,H2,I2,.cons r1 r2,q2⟩
def zno(t:TA):TE:=λσ H Q=>t σ H λxs H1=>xs.length<=sizeLine/\∀p,H1 p=none->Q (.ref p) (upd H1 p (.tup xs))
def zm7(t:TA):TE:=λσ H Q=>t σ H λxs H1=>xs.length<=sizeLine/\∀p,H1 p=none->Q (.ref p) (upd H1 p (.lst xs))
theorem zem{x1}(h:PA X es t):PE X (.Tuple es x1 pos) (zno t):=by
 intro pins s σ H Q I hq;refine wpAny_Tuple_spliced (thn (h pos pins s σ H _ I hq) λus s1 ⟨xs,H1,I1,r,z,q⟩=>⟨by rw[<-r.length];exact z,?_⟩);have hf:H1 s1.heap.objs.size=none:=I1.hok.fresh (Nat.le_refl _);refine⟨.ref s1.heap.objs.size,upd H1 s1.heap.objs.size (.tup xs),I1.laid (t':=s1.toks) (λb u e=>Heap.get?_push_of_some _ e) (Nat.le_refl _) ?_,rfl,q _ hf⟩;exact⟨z,us,r,⟨_,Heap.get?_push_size _ rfl,rfl,_,rfl⟩⟩
theorem zkT(h:PA X es t):PE X (.List es pos) (zm7 t):=by
 intro pins s σ H Q I hq;refine wpAny_List_spliced (thn (h pos pins s σ H _ I hq) λus s1 ⟨xs,H1,I1,r,z,q⟩=>⟨by rw[<-r.length];exact z,?_⟩);have hf:H1 s1.heap.objs.size=none:=I1.hok.fresh (Nat.le_refl _);refine⟨.ref s1.heap.objs.size,upd H1 s1.heap.objs.size (.lst xs),I1.laid (t':=s1.toks) (λb u e=>Heap.get?_push_of_some _ e) (Nat.le_refl _) ?_,rfl,q _ hf⟩;exact⟨z,us,0,r,Heap.get?_push_size _ rfl⟩
end
abbrev Sp:=List V->Hp->VK->XK->Prop
abbrev CXT:=List Env->Hp->Shared->XK->Value->Shared->Prop
structure zdQ(P:Program)(w:World)(K:FRx)(mg:Str->Option Value)(base:Heap)(A:Around)(outer:List Env)(s:ShX)(H:Hp):Prop where
 frames:A.frames=some outer
 mod:Mod K mg base
 bs:∀b o,base.get? b=some o->s.heap.get? b=some o/\H b=none
 bsz:base.objs.size<=s.heap.objs.size
 funs:s.heap.FunFrames base outer
 frf:∀b∈frs outer,H b=none
 hok:HOk P w H s.heap
 bare:AllBare s.gens
def CE(outer:List Env)(P:Program)(w:World)(H:Hp)(s:ShX)(Q:VK)(u:Value)(s':ShX):Prop:=∃v H',s'.os=s.os/\AllBare s'.gens/\Un (frs outer) [] H H' s.heap s'.heap/\HOk P w H' s'.heap/\RelV v u/\Q v H'
def CR(CX:CXT)(outer:List Env)(P:Program)(w:World)(H:Hp)(s:ShX)(Q:VK)(E:XK)(r:Result)(s':ShX):Prop:=match r with
 | .ok (.ret u)=>CE outer P w H s Q u s'
 | .ok _=>False
 | .error e=>CX outer H s E e s'
structure wo(P:Program)(w:World)(K:FRx)(mg:Str->Option Value)(base:Heap)(CX:CXT)(k:Nat)(f:AdX)(fd:FuncData)(ps:LSr)(sp:Sp):Prop where
 len:∀vs H Q E,sp vs H Q E->vs.length=ps.length
 run:∀(A:Around)(outer:List Env)(s:ShX)(H:Hp)(args:Args)(us:LVl)(vs:List V)(Q:VK)(E:XK),Room k A->zdQ P w K mg base A outer s H->BindsTo s fd args (ps.zip us)->Vals vs us->sp vs H Q E->
  codeAny (model P w) A (.call (.ref f) args) (CR CX outer P w H s Q E) s
theorem wo.imp{P:Program}{w:World}{K:FRx}{mg:Str->Option Value}{base:Heap}{CX:CXT}{k:Nat}{f:AdX}{fd:FuncData}{ps:LSr}{sp sp':Sp}(F:wo P w K mg base CX k f fd ps sp)(h:∀vs H Q E,sp' vs H Q E->sp vs H Q E):wo P w K mg base CX k f fd ps sp':=⟨λvs H Q E q=>F.len vs H Q E (h _ _ _ _ q),λA outer s H args us vs Q E hr he hb hv hs=>F.run A outer s H args us vs Q E hr he hb hv (h _ _ _ _ hs)⟩
theorem zdQ.make{P:Program}{w:World}{K:FRx}{mg:Str->Option Value}{base:Heap}{A:Around}{outer:List Env}{s:ShX}{H:Hp}(e:zdQ P w K mg base A outer s H)(C:AdX)(us:LVl)(kw:List (Str×Value)):zdQ P w K mg base (A.under (.builtin "type.__call__" ⟨.ref C::us,kw⟩)) outer s H:=⟨by first |exact e.frames|(simpa [Around.under,Code.envs,Code.isFrame,pushEnvs] using e.frames),e.mod,e.bs,e.bsz,e.funs,e.frf,e.hok,e.bare⟩
section
variable{X:Cx}{pins:PNx}{σ:St}{H:Hp}{s s':ShX}
theorem Inv.zml(I:Inv X pins σ H s):zdQ X.prog X.w X.K X.mg X.base X.A X.stack s H:=⟨I.ok.frames,I.ok.mod,I.bs,Nat.le_trans I.ok.bsz I.sz,I.stack,I.zfk,I.hok,I.bare⟩
theorem Inv.after{Q:VK}{u:Value}(I:Inv X pins σ H s)(h:CE X.stack X.prog X.w H s Q u s'):EP X pins σ Q u s':=by
 have⟨v,H',os,bare,un,hok,r,q⟩:=h;have⟨hh,g,d,t,os'⟩:=s';obtain rfl:os'=s.os:=os;exact⟨v,H',I.call (h':=hh) (g':=g) (d':=d) (t':=t) (ch:=[]) un hok bare (λb z=>absurd z (by simp)),r,q⟩
end
def zkF(sp:Sp)(dvs:List V)(E:XK)(t:TA):TE:=λσ H Q=>t σ H λvs H1=>sp (vs++dvs) H1 Q E
def zkv(C:AdX)(m:Str)(sp:Sp)(dvs:List V)(E:XK)(ta:TE)(t:TA):TE:=λσ H Q=>ta σ H λx H1=>∃a dx fs,x=.ref a/\H1 a=some (.ins C dx fs)/\fs.lookup m=none/\
 t σ H1 λvs H2=>sp (x::(vs++dvs)) H2 Q E
def zmt(C:AdX)(sp:Sp)(dvs:List V)(E:XK)(t:TA):TE:=λσ H Q=>t σ H λvs H1=>∀x dx,H1 x=none->H1 dx=none->dx≠x->
 sp (.ref x::(vs++dvs)) (upd (upd H1 dx (.own x)) x (.ins C dx [])) (λv H2=>v=.non/\Q (.ref x) H2) E
def Binds(K:FRx)(fd:FuncData)(ps:LSr)(ds:LVl):Prop:=∀(s:ShX)(us:LVl),K.In s.heap->(us++ds).length=ps.length->BindsTo s fd ⟨us,[]⟩ (ps.zip (us++ds))
theorem Binds.all{K:FRx}{fd:FuncData}{ps:LSr}(h:∀us:List Value,us.length=ps.length->bindArgs fd ⟨us,[]⟩=pure (ps.zip us)):Binds K fd ps []:=λs us _ hl=>by
 rw[List.append_nil] at hl ⊢;exact .of_eq (h us hl)
def Passes(CX:CXT)(X:Cx)(E:XK):Prop:=∀(pins:PNx)(σ:St)(H:Hp)(s:ShX)(e:Value)(s':ShX),Inv X pins σ H s->CX X.stack H s E e s'->X.xe e s'
section
variable{X:Cx}{CX:CXT}{k:Nat}{f C:AdX}{fd:FuncData}{ps:LSr}{sp:Sp}{dvs:List V}{ds:LVl}{E:XK}{x m:Str}{p pos apos:Pos}{e o:Expr}{es:List Expr}{ta:TE}{t:TA}
theorem zdS{pins:PNx}{σ:St}{H:Hp}{s:ShX}{Q:VK}{us:LVl}{vs:List V}(F:wo X.prog X.w X.K X.mg X.base CX k f fd ps sp)(hr:Room k X.A)(hb:Binds X.K fd ps ds)(hd:Vals dvs ds)(hx:Passes CX X E)(I:Inv X pins σ H s)(r:Vals vs us)(h:sp (vs++dvs) H Q E):wpAny (model X.prog X.w) X.A (call (.ref f) us) (EP X pins σ Q) X.xe s:=by
 have r2:Vals (vs++dvs) (us++ds):=r.append hd;have hl:(us++ds).length=ps.length:=by rw[<-r2.length];exact F.len _ _ _ _ h
 refine wpAny_call (codeAny_mono (F.run X.A X.stack s H ⟨us,[]⟩ (us++ds) (vs++dvs) Q E hr I.zml (hb s us I.kIn hl) r2 h) λr s' hq=>?_);cases r with
 |error e=>exact hx pins σ H s e s' I hq
 |ok fl=>
  cases fl with
  |ret u=>exact I.after hq
  |next=>exact False.elim hq
  |brk=>exact False.elim hq
  |cont=>exact False.elim hq
theorem zjO(F:wo X.prog X.w X.K X.mg X.base CX k f fd ps sp)(hr:Room k X.A)(hg:Gl X x)(hm:X.mg x=some (.ref f))(hk:W.keepIn X.K (.ref f)=true)(hb:Binds X.K fd ps ds)(hd:Vals dvs ds)(hx:Passes CX X E)(ha:PA X (e::es) t)(hdb:NDx x:=by decide)(he:SEx X e es:=by rfl)(hpl:PLx X pos es:=by rfl):PE X (.Call (.Name x p) (e::es) [] pos) (zkF sp dvs E t):=by
 intro pins s σ H Q I h;refine wpAny_Call_Name_kw (zbt I hg hm ?_ hdb);refine W.callWith_K (h₀:=X.base) I.ok.mod.kin hk (thn (ha pos pins s σ H _ I h) λus s1 ⟨vs,H1,I1,r,q⟩=>⟨I1.kIn,?_⟩) he hpl;exact zdS F hr hb hd hx I1 r q
theorem zby{pl:Sem Bool}(he:PE X o ta)(c:Cls X.K C)(hm:Meth X.K C m f)(F:wo X.prog X.w X.K X.mg X.base CX k f fd ps sp)(hr:Room k X.A)(hb:Binds X.K fd ps ds)(hd:Vals dvs ds)(hx:Passes CX X E)(ha:PA X (e::es) t)(hst:SEx X e es:=by rfl)(hpl:PLx X pos es:=by rfl)(ht:eval (.Call (.Attribute o m apos) (e::es) [] pos) X.env=(do
   let ov <-eval o X.env
   standAt apos.atName
   let (f,first) <-holding [ov] (getMethod ov m pl)
   callWith pos f first (backTo pos (starEach (e::es) X.env)) (backToKw pos (keywordEach [] X.env))):=by rfl):PE X (.Call (.Attribute o m apos) (e::es) [] pos) (zkv C m sp dvs E ta t):=by
 intro pins s σ H Q I h;refine W.methodCall_KW (pl:=pl) (thn (he pins s σ H _ I h) λu s1 ⟨x,H1,I1,rx,a,dx,fs,ex,ea,l,q⟩=>?_) ht;subst ex;obtain rfl:u=Value.ref a:=rx;refine Uu I1 ea c hm l ?_;refine W.callWith_K (first:=[.ref a]) (h₀:=X.base) I.ok.mod.kin hm.kp (thn (ha pos pins s1 σ H1 _ I1 q) λus s2 ⟨vs,H2,I2,r,q2⟩=>⟨I2.kIn,?_⟩) hst hpl;exact zdS (us:=.ref a::us) (vs:=.ref a::vs) F hr hb hd hx I2 (.cons rfl r) q2
theorem zcI{pl:Sem Bool}(he:PE X o ta)(c:Cls X.K C)(hm:Meth X.K C m f)(F:wo X.prog X.w X.K X.mg X.base CX k f fd ps sp)(hr:Room k X.A)(hb:Binds X.K fd ps ds)(hd:Vals dvs ds)(hx:Passes CX X E)(ht:eval (.Call (.Attribute o m apos) [] [] pos) X.env=(do
   let ov <-eval o X.env
   standAt apos.atName
   let (f,first) <-holding [ov] (getMethod ov m pl)
   callWith pos f first (backTo pos (starEach [] X.env)) (backToKw pos (keywordEach [] X.env))):=by rfl):PE X (.Call (.Attribute o m apos) [] [] pos) (zkv C m sp dvs E ta zmO):=by
 intro pins s σ H Q I h;refine W.methodCall_KW (pl:=pl) (thn (he pins s σ H _ I h) λu s1 ⟨x,H1,I1,rx,a,dx,fs,ex,ea,l,q⟩=>?_) ht;subst ex;obtain rfl:u=Value.ref a:=rx;refine Uu I1 ea c hm l ?_;exact W.callWith_K0 (first:=[.ref a]) I1.kIn hm.kp (zdS (us:=[.ref a]) (vs:=[.ref a]) F hr hb hd hx I1 (.cons rfl .nil) q)
structure Mk(K:FRx)(C f:AdX):Prop where
 makes:W.makesIn K C=true
 init:W.findIn K (.ref C) "__init__"=some (some (.ref f))
 fn:W.isFn K (.ref f)=true
 kp:W.keepIn K (.ref C)=true
theorem zhs{pins:PNx}{σ:St}{H:Hp}{s:ShX}{Q:VK}{us:LVl}{vs:List V}(M:Mk X.K C f)(F:wo X.prog X.w X.K X.mg X.base CX k f fd ps sp)(hr:Room (k+1) X.A)(hb:Binds X.K fd ps ds)(hd:Vals dvs ds)(hx:Passes CX X E)(I:Inv X pins σ H s)(r:Vals vs us)(h:∀x dx,H x=none->H dx=none->dx≠x->sp (.ref x::(vs++dvs)) (upd (upd H dx (.own x)) x (.ins C dx [])) (λv H2=>v=.non/\Q (.ref x) H2) E):wpAny (model X.prog X.w) X.A (call (.ref C) us) (EP X pins σ Q) X.xe s:=by
 have hq:=h (s.heap.objs.size+1) s.heap.objs.size (I.hok.fresh (Nat.le_succ _)) (I.hok.fresh (Nat.le_refl _)) (Nat.ne_of_lt (Nat.lt_succ_self _));have I2:=Inv.made (C:=C) I
 have r2:Vals (V.ref (s.heap.objs.size+1)::(vs++dvs)) (Value.ref (s.heap.objs.size+1)::(us++ds)):=.cons rfl (r.append hd);have hl:(Value.ref (s.heap.objs.size+1)::us++ds).length=ps.length:=by
  have e:=r2.length;rw[F.len _ _ _ _ hq] at e;exact e.symm
 refine wpAny_call (zha (f:=f) I.kIn M.makes M.init (beq_iff_eq.mp M.fn) (codeAny_mono (F.run _ X.stack _ _ ⟨Value.ref (s.heap.objs.size+1)::us,[]⟩ (Value.ref (s.heap.objs.size+1)::(us++ds)) _ _ E (hr.make C us [])
  (I2.zml.make C us []) (hb _ (Value.ref (s.heap.objs.size+1)::us) I2.kIn hl) r2 hq) λr s' hq'=>?_))
 cases r with
 |error e=>exact hx pins σ _ _ e s' I2 hq'
 |ok fl=>
  cases fl with
  |ret u=>
   have⟨v,H',I3,rv,ev,q3⟩:=I2.after hq';subst ev;exact⟨rv,⟨V.ref (s.heap.objs.size+1),H',I3,rfl,q3⟩⟩
  |next=>exact False.elim hq'
  |brk=>exact False.elim hq'
  |cont=>exact False.elim hq'
theorem zj0(M:Mk X.K C f)(F:wo X.prog X.w X.K X.mg X.base CX k f fd ps sp)(hr:Room (k+1) X.A)(hg:Gl X x)(hm:X.mg x=some (.ref C))(hb:Binds X.K fd ps ds)(hd:Vals dvs ds)(hx:Passes CX X E)(ha:PA X (e::es) t)(hdb:NDx x:=by decide)(he:SEx X e es:=by rfl)(hpl:PLx X pos es:=by rfl):PE X (.Call (.Name x p) (e::es) [] pos) (zmt C sp dvs E t):=by
 intro pins s σ H Q I h;refine wpAny_Call_Name_kw (zbt I hg hm ?_ hdb);refine W.callWith_K (h₀:=X.base) I.ok.mod.kin M.kp (thn (ha pos pins s σ H _ I h) λus s1 ⟨vs,H1,I1,r,q⟩=>⟨I1.kIn,?_⟩) he hpl;exact zhs M F hr hb hd hx I1 r q
end
structure zq(N P:LSr)(sc:Scope):Prop where
 kind:sc.kind=.function
 co:sc.isCoroutine=false
 gen:sc.isGenerator=false
 nd:N.Nodup
 pre:N.take P.length=P
 par:∀x∈P,sc.names.lookup x=some .local\/sc.names.lookup x=some .cell
 nofree:∀y∈sc.names,y.2≠ .free
theorem scx{N P:LSr}{sc:Scope}(a:sc.kind=.function:=by rfl)(c:sc.isCoroutine=false:=by rfl)(g:sc.isGenerator=false:=by rfl)(p:N.take P.length=P:=by rfl)(h:N.Nodup/\(∀x∈P,sc.names.lookup x=some .local\/sc.names.lookup x=some .cell)/\∀y∈sc.names,y.2≠ .free:=by decide+kernel):zq N P sc:=⟨a,c,g,h.1,p,h.2.1,h.2.2⟩
theorem zaL{kindOf:Str->Option NameKind}{x:Str}:∀{binds:List (Str×Value)} {m:Str->Option Value},(∀v,(x,v)∉binds)->bindL kindOf binds m x=m x
 |[],_,_=>rfl
 |(n,v)::r,m,h=>by
  unfold bindL;rw[zaL λw hw=>h w (List.mem_cons_of_mem _ hw)];split
  ·have:x≠n:=by rintro rfl;exact h v List.mem_cons_self
   simp[this]
  ·rfl
theorem zaO{kindOf:Str->Option NameKind}{x:Str}:∀{binds:List (Str×Value)} {m:Str->Option Value},(∀v,(x,v)∉binds)->bindC kindOf binds m x=m x
 |[],_,_=>rfl
 |(n,v)::r,m,h=>by
  unfold bindC;rw[zaO λw hw=>h w (List.mem_cons_of_mem _ hw)];split
  ·rfl
  ·have:x≠n:=by rintro rfl;exact h v List.mem_cons_self
   simp[this]
theorem zaw{kindOf:Str->Option NameKind}{x:Str}{v:Value}:∀{P:LSr} {vs:LVl} {i:Nat} {m:Str->Option Value},P.Nodup->P[i]?=some x->vs[i]?=some v->kindOf x=some .local->
  bindL kindOf (P.zip vs) m x=some v
 |[],_,_,_,_,h,_,_=>by simp at h
 |_::_,[],_,_,_,_,h,_=>by simp at h
 |p::P,w::vs,0,m,nd,h1,h2,hk=>by
  simp at h1 h2;subst h1;subst h2
  show bindL kindOf ((p,w)::P.zip vs) m p=_
  unfold bindL;rw[zaL λv hv=>(List.nodup_cons.mp nd).1 (List.of_mem_zip hv).1,if_pos hk];simp
 |p::P,w::vs,i+1,m,nd,h1,h2,hk=>by
  show bindL kindOf ((p,w)::P.zip vs) m x=_
  unfold bindL;exact zaw (i:=i) (List.nodup_cons.mp nd).2 (by simpa using h1) (by simpa using h2) hk
theorem zaA{kindOf:Str->Option NameKind}{x:Str}{v:Value}:∀{P:LSr} {vs:LVl} {i:Nat} {m:Str->Option Value},P.Nodup->P[i]?=some x->vs[i]?=some v->kindOf x≠some .local->
  bindC kindOf (P.zip vs) m x=some v
 |[],_,_,_,_,h,_,_=>by simp at h
 |_::_,[],_,_,_,_,h,_=>by simp at h
 |p::P,w::vs,0,m,nd,h1,h2,hk=>by
  simp at h1 h2;subst h1;subst h2
  show bindC kindOf ((p,w)::P.zip vs) m p=_
  unfold bindC;rw[zaO λv hv=>(List.nodup_cons.mp nd).1 (List.of_mem_zip hv).1,if_neg hk];simp
 |p::P,w::vs,i+1,m,nd,h1,h2,hk=>by
  show bindC kindOf ((p,w)::P.zip vs) m x=_
  unfold bindC;exact zaA (i:=i) (List.nodup_cons.mp nd).2 (by simpa using h1) (by simpa using h2) hk
def start(N:LSr)(vs:List V):St:=vs.map some++List.replicate (N.length - vs.length) none
def J1(CX:CXT)(P:Program)(w:World)(K:FRx)(mg:Str->Option Value)(base:Heap)(N:LSr)(qual:Str)(scope:Scope)(f:AdX)(cd:Value)(A:Around)(outer:List Env)(s:ShX)(H:Hp)(E:XK):Cx where
 prog:=P
 w:=w
 K:=K
 mg:=mg
 base:=base
 A:=A.deeper (envOfC qual scope s.heap.objs.size f cd)
 N:=N
 s₀:=s
 H₀:=H
 env:=envOfC qual scope s.heap.objs.size f cd
 outer:=outer
 stack:=envOfC qual scope s.heap.objs.size f cd::outer
 ex:=[]
 calm:=true
 fn:=λ_=>true
 pn:=[]
 xe:=λe s'=>wpAny (model P w) (A.deeper (envOfC qual scope s.heap.objs.size f cd)) (leaving (envOfC qual scope s.heap.objs.size f cd) e) (λ_ s''=>CX outer H s E e s'') (λe' s''=>CX outer H s E e' s'') s'
theorem zdq{sc:Scope}{n:Nat}{x:Str}(h:sc.names.lookup x=some .cell):∃c,(cellsFrom n sc.names []).lookup x=some c:=by
 have q:=W.cellsFrom_some sc.names n [] (.inl h);exact Option.isSome_iff_exists.mp q
theorem zgM{CX:CXT}{P:Program}{w:World}{K:FRx}{mg:Str->Option Value}{base:Heap}{N ps:LSr}{qual:Str}{scope:Scope}{f:AdX}{cd:Value}{A:Around}{outer:List Env}{s s1:ShX}{H:Hp}{E:XK}{us:LVl}{vs:List V}(S:zq N ps scope)(hd:A.handled=none)(e0:zdQ P w K mg base A outer s H)(hl:vs.length=ps.length)(r:Vals vs us)(x:InCallC s s.heap.objs.size (bindL (envOfC qual scope s.heap.objs.size f cd).kindOf (ps.zip us) λ_=>none) (cellsFrom (s.heap.objs.size+1) scope.names []) (bindC (envOfC qual scope s.heap.objs.size f cd).kindOf (ps.zip us) λ_=>none) s1):Inv (J1 CX P w K mg base N qual scope f cd A outer s H E) [] (start N vs) H s1:=by
 have hpl:ps.length<=N.length:=by have:=congrArg List.length S.pre;rw[List.length_take] at this;omega
 obtain⟨h1,tk,rfl,hk⟩:=x.done;have noA:∀b:Addr,b∉(J1 CX P w K mg base N qual scope f cd A outer s H E).ex:=λb z=>absurd (show b∈([]:LAd) from z) (by simp)
 refine⟨⟨e0.mod,S.kind,rfl,rfl,Nat.le_refl _,λy z c h1 h2=>?_,λy hy=>?_,λy c _ h=>?_,λ_=>hd,Around.frames_deeper e0.frames,.inr ⟨rfl,rfl⟩,λb z=>absurd z (noA b),e0.bs,e0.bsz,λb _ _=>noA b,λb z=>absurd z (noA b),e0.funs,e0.frf⟩,
  rfl,e0.bare,Un.kept hk,⟨_,x.toInCall.ns,λi y v h1 h2 h3=>?_⟩,λy c h=>⟨_,x.cell y c h⟩,e0.hok.fresh (Nat.le_refl _),λy c h=>?_,λp hp=>absurd (show p∈([]:PNx) from hp) (by simp),e0.hok.kept hk,?_⟩
 ·exact name_of_addr x.apart (PySem.mem_of_lookup h1) (PySem.mem_of_lookup h2)
 ·have hy:scope.names.lookup y=some .cell\/scope.names.lookup y=some .free:=hy;rcases hy with hy|hy
  ·exact zdq hy
  ·exact absurd rfl (S.nofree _ (PySem.mem_of_lookup hy))
 ·exact Nat.le_of_lt (x.above y c (PySem.mem_of_lookup h))
 ·have hi:i<vs.length:=by
   unfold start at h2;by_cases hi:i<vs.length
   ·exact hi
   ·rw[List.getElem?_append_right (by simpa using hi)] at h2;rw[List.getElem?_replicate] at h2;split at h2<;>cases h2
  have ha:vs[i]?=some v:=by
   unfold start at h2;rw[List.getElem?_append_left (by simpa using hi),List.getElem?_map] at h2;cases e:vs[i]? with
   |none=>rw[e] at h2;cases h2
   |some a=>rw[e] at h2;cases h2;rfl
  have⟨u,hu,rv⟩:=r.get ha;have hp:ps[i]?=some y:=by
   rw[<-S.pre,List.getElem?_take_of_lt (by omega)];exact h1
  have ndP:ps.Nodup:=by rw[<-S.pre];exact S.nd.sublist (List.take_sublist _ _)
  refine⟨u,rv,?_⟩;rcases S.par y (List.mem_of_getElem? hp) with k|k
  ·exact .inl ⟨k,zaw ndP hp hu k⟩
  ·obtain⟨c,e⟩:=zdq (n:=s.heap.objs.size+1) k;refine .inr ⟨.inl k,c,e,?_⟩;have q:=x.cell y c e;rw[zaA ndP hp hu (by show scope.names.lookup y≠_;rw[k];decide)] at q;exact q
 ·exact e0.hok.fresh (Nat.le_of_lt (x.above y c (PySem.mem_of_lookup h)))
 ·unfold start;show _=N.length
  rw[List.length_append,List.length_map,List.length_replicate];omega
theorem zmT{CX:CXT}{P:Program}{w:World}{K:FRx}{mg:Str->Option Value}{base:Heap}{k:Nat}{f:AdX}{name qual:Str}{params:Arguments}{body:List Stmt}{scope:Scope}{dV kV doc pm cdv ct oc:Value}{an od:Option Addr}{osl:Array (Option Value)}{N ps:LSr}{sp:Sp}(lk:K.lookup f=some ⟨oc,od,.func (W.fnOf name qual params body scope dV kV doc pm an cdv ct),osl⟩)(hcd:W.codeIn K cdv qual=true)(S:zq N ps scope)(len:∀vs H Q E,sp vs H Q E->vs.length=ps.length)(hbody:∀(A:Around)(outer:List Env)(s:ShX)(H:Hp)(vs:List V)(Q:VK)(E:XK),Room k (A.deeper (envOfC qual scope s.heap.objs.size f cdv))->sp vs H Q E->
   ∃t,PSs (J1 CX P w K mg base N qual scope f cdv A outer s H E) body t/\t { nx:=λ_ H'=>Q .non H',rt:=Q } (start N vs) H):wo P w K mg base CX (k+1) f (W.fnOf name qual params body scope dV kV doc pm an cdv ct) ps sp:=by
 refine⟨len,λA outer s H args us vs Q E hr e0 hb r hsp=>?_⟩;have hl:=len _ _ _ _ hsp;have KX:K.In s.heap:=e0.mod.kin.keeps λb o e=>(e0.bs b o e).1
 have lim:s.heap.NoLimit:=e0.mod.nolimit.keeps λb o e=>(e0.bs b o e).1
 have hkind:∀y∈ps.zip us,scope.names.lookup y.1=some .local\/(scope.names.lookup y.1=some .cell/\((cellsFrom (s.heap.objs.size+1) scope.names []).lookup y.1).isSome=true):=λ⟨n,v⟩ hy=>by
  rcases S.par n (List.of_mem_zip hy).1 with q|q
  ·exact .inl q
  ·exact .inr ⟨q,W.cellsFrom_some _ _ _ (.inl q)⟩
 refine codeAny_call_function hr.depth (KX _ _ lk) rfl S.co S.gen rfl (W.codeRec_of KX hcd) (hb _ _ _ _ ?_);refine wpAny_newFunctionEnv_cells S.kind hkind λenv he s1 x=>?_
 subst he;refine⟨lim.keeps x.toInCall.keep,codeAny_func ?_⟩;obtain⟨t,ht,hq⟩:=hbody A outer s H vs Q E (hr.deeper _) hsp;have I:Inv (J1 CX P w K mg base N qual scope f cdv A outer s H E) [] (start N vs) H s1:=zgM S hr.hd e0 hl r x;refine wpAny_mono (ht [] s1 (start N vs) H _ I hq) (λfl s' hs=>?_) λe s' hs=>hs
 have fin:∀{σ':St} {H':Hp} {v:V} {u:Value},Inv (J1 CX P w K mg base N qual scope f cdv A outer s H E) [] σ' H' s'->RelV v u->Q v H'->CE outer P w H s Q u s':=λ{σ' H' v u} J rv q=>⟨v,H',J.os,J.bare,J.base,J.hok,rv,q⟩
 cases fl with
 |ret u=>
  have⟨v,σ',H',J,rv,q⟩:=hs;exact fin J rv q
 |next=>
  have⟨σ',H',J,q⟩:=hs;exact fin (v:=V.non) (u:=Value.none) J rfl q
 |brk=>
  have⟨_,_,_,q⟩:=hs;exact False.elim q
 |cont=>
  have⟨_,_,_,q⟩:=hs;exact False.elim q
section
variable{X:Cx}{x:Str}{p pos:Pos}{e:Expr}{es:List Expr}{t:TA}{id T:String}{r:List V->Hp->VK->Prop}
def tCB(r:List V->Hp->VK->Prop)(t:TA):TE:=λσ H Q=>t σ H λvs H1=>r vs H1 Q
theorem VQ(hc:wk X (.builtin id) r)(hg:Gl X x)(hm:X.mg x=none)(hv:bootBuiltins x=some (.builtin id))(ha:PA X (e::es) t)(hn:x≠"__name__":=by decide)(hdb:NDx x:=by decide)(he:SEx X e es:=by rfl)(hpl:PLx X pos es:=by rfl):PE X (.Call (.Name x p) (e::es) [] pos) (tCB r t):=by
 intro pins s σ H Q I h;refine wpAny_Call_Name_kw (UD I hg hm hv ?_ hn hdb);exact PyProof.Rows.callWith_builtin1 (thn (ha pos pins s σ H _ I h) λus s1 ⟨vs,H1,I1,r1,q1⟩=>hc pins s1 σ H1 vs us Q I1 r1 q1) he hpl
theorem J0(hc:wk X (.type T) r)(hg:Gl X x)(hm:X.mg x=none)(hv:bootBuiltins x=some (.type T))(ha:PA X (e::es) t)(hn:x≠"__name__":=by decide)(hdb:NDx x:=by decide)(he:SEx X e es:=by rfl)(hpl:PLx X pos es:=by rfl):PE X (.Call (.Name x p) (e::es) [] pos) (tCB r t):=by
 intro pins s σ H Q I h;refine wpAny_Call_Name_kw (UD I hg hm hv ?_ hn hdb);exact PyProof.Rows.callWith_type1 (thn (ha pos pins s σ H _ I h) λus s1 ⟨vs,H1,I1,r1,q1⟩=>hc pins s1 σ H1 vs us Q I1 r1 q1) he hpl
end
end L2
namespace HT
open PySem PyProof.Rows
section
open PySem.SeqAt
open PySem.AutoSeq1 (wpAny_loadPart')
open PySem.MeetsSeq PySem.MeetsSeq2 PySem.MeetsSeq3
end
section
variable{prog:Program}{w:World}{A:Around}{E:VSx}{s:ShX}
theorem zi8{t b:AdX}{vs ws:LVl}{Q:VSx}(ht:IsTup s.heap t vs.toArray)(hb:IsTup s.heap b ws.toArray)(hv:vs≠[])(h1:ws=[]->Q (.ref t) s)(h2:ws≠[]->Q (.ref s.heap.objs.size) { s with heap:=s.heap.push { cls:=.type "tuple",data:=.seq (vs++ws).toArray } })(hsz:vs.length+ws.length<=sizeLine):wpAny (model prog w) A (binaryOp .Add (.ref t) (.ref b)) Q E s:=by
 have⟨⟨cls,dd,data,sl⟩,ho,hc,n,hd⟩:=id ht;have⟨⟨cls2,dd2,data2,sl2⟩,ho2,hc2,n2,hd2⟩:=id hb;simp only at hc hd hc2 hd2;subst hc hd hc2 hd2;have e:vs.toArray++ws.toArray=(vs++ws).toArray:=by simp
 by_cases hw:ws=[]
 ·exact concat_meets ⟨_,ho,rfl⟩ ⟨_,ho2,rfl⟩ noFill_tuple_add seq_tuple_add PySem.F.slot_tuple_add PySem.F.entry_tuple_add (PySem.F.args_tuple_add_2 _ _)
   (tuple_addW1 t b vs.toArray ws.toArray n n2 dd dd2 sl sl2 (by simpa using hv) (by simp[hw])) ⟨ho,ho2,h1 hw⟩
 ·refine concat_meets ⟨_,ho,rfl⟩ ⟨_,ho2,rfl⟩ noFill_tuple_add seq_tuple_add PySem.F.slot_tuple_add PySem.F.entry_tuple_add (PySem.F.args_tuple_add_2 _ _)
   (tuple_addW2 t b vs.toArray ws.toArray n n2 dd dd2 sl sl2 (by simpa using hv) (by simpa using hw) (by rw[List.size_toArray,List.size_toArray];exact hsz)) ⟨ho,ho2,?_⟩
  rw[e];exact h2 hw
def sIx(n d:Nat):Option Int->Nat
 |none=>d
 |some v=>if v<0 then (v+(n:Int)).toNat else min v.toNat n
theorem zgU(n d:Nat):sIx n d none=d:=rfl
theorem zbA(n d k:Nat):sIx n d (some (k:Int))=min k n:=by
 show(if (k:Int)<0 then ((k:Int)+(n:Int)).toNat else min (k:Int).toNat n)=min k n
 rw[if_neg (by omega),Int.toNat_natCast]
end
end HT
namespace L2
open PySem PySem.Spec PyProof.Rows
abbrev TO:=St->Hp->(Option Int->Hp->Prop)->Prop
def PO(X:Cx)(e:Option Expr)(t:TO):Prop:=∀(pins:PNx)(s:ShX)(σ:St)(H:Hp)(Q:Option Int->Hp->Prop),Inv X pins σ H s->t σ H Q->
  wpAny (model X.prog X.w) X.A (evalPart e X.env) (λu s'=>∃o H',Inv X pins σ H' s'/\IsPart u o/\Q o H') X.xe s
def zko:TO:=λ_ H Q=>Q none H
def zmA(t:TE):TO:=λσ H Q=>t σ H λx H1=>∃i,x=.int i/\Q (some i) H1
theorem intsAre_of{ns:List Int}:∀{us:LVl},Vals (ns.map V.int) us->IntsAre us ns:=by
 induction ns with
 |nil=>intro us r;rw[List.map_nil] at r;cases r;exact .nil
 |cons n ns ih=>
  intro us r;rw[List.map_cons] at r;cases r with
  |cons r1 r2=>
   have⟨t,e⟩:=r1;subst e;exact .cons n t (ih r2)
section
variable{X:Cx}{e:Expr}{te:TE}{lo hi:Option Expr}{tl th:TO}{pos p2:Pos}
theorem zjB:PO X none zko:=by
 intro pins s σ H Q I h;rw[evalPart_none];exact wpAny_pure ⟨none,H,I,.none,h⟩
theorem ziW(h:PE X e te):PO X (some e) (zmA te):=by
 intro pins s σ H Q I hw;rw[evalPart_some];refine thn (h pins s σ H _ I hw) λu s1 ⟨x,H1,I1,r1,q1⟩=>?_
 obtain⟨i,rfl,q⟩:=q1;obtain⟨t,rfl⟩:=r1;exact⟨some i,H1,I1,.int i t,q⟩
def SlR(X:Cx)(r:V->Option Int->Option Int->Hp->VK->Prop):Prop:=∀(pins:PNx)(s:ShX)(σ:St)(H:Hp)(x:V)(v vl vu:Value)(lo hi:Option Int)(sl:AdX)(Q:VK),Inv X pins σ H s->RelV x v->s.heap.IsSliceOf sl vl vu .none->IsPart vl lo->IsPart vu hi->r x lo hi H Q->
  ∃T id,typeLookup (.type T) "__getitem__"=pure (some (.builtin id))/\s.TypeIs v T/\wpAny (model X.prog X.w) X.A (getItem v (.ref sl)) (EP X pins σ Q) X.xe s
def tSl(r:V->Option Int->Option Int->Hp->VK->Prop)(te:TE)(tl th:TO):TE:=λσ H Q=>te σ H λx H1=>tl σ H1 λl H2=>th σ H2 λu H3=>r x l u H3 Q
theorem zda{r:V->Option Int->Option Int->Hp->VK->Prop}(hr:SlR X r)(he:PE X e te)(hl:PO X lo tl)(hu:PO X hi th):PE X (.Subscript e (.Slice lo hi none p2) pos) (tSl r te tl th):=by
 intro pins s σ H Q I h;refine Subscript_ (thn (he pins s σ H _ I h) λv s1 ⟨x,H1,I1,r1,q1⟩=>?_);refine wpAny_Slice (thn (hl pins s1 σ H1 _ I1 q1) λvl s2 ⟨l,H2,I2,pl,q2⟩=>thn (hu pins s2 σ H2 _ I2 q2) λvu s3 ⟨u,H3,I3,pu,q3⟩=>?_);rw[evalPart_none];refine wpAny_pure ?_;have I4:Inv X pins σ H3 { s3 with heap:=s3.heap.push { cls:=.type "slice",data:=.fields #[vl,vu,.none] } }:=I3.kept (t':=s3.toks) λb ob q=>Heap.get?_push_of_some _ q
 obtain⟨T,id,hT,ht,hg⟩:=hr pins { s3 with heap:=s3.heap.push { cls:=.type "slice",data:=.fields #[vl,vu,.none] } } σ H3 x v vl vu l u s3.heap.objs.size Q I4 r1 (Heap.IsSliceOf.new ..) pl pu q3;show wpAny (model X.prog X.w) X.A (subscriptTail e (.Slice lo hi none p2) v (.ref s3.heap.objs.size)) (EP X pins σ Q) X.xe { s3 with heap:=s3.heap.push { cls:=.type "slice",data:=.fields #[vl,vu,.none] } }
 exact tail_any (ops:=[.ref s3.heap.objs.size,v]) ht hT hg (by with_unfolding_all rfl)
def zgN(xs:List V)(lo hi:Option Int):List V:=(xs.drop (HT.sIx xs.length 0 lo)).take (HT.sIx xs.length xs.length hi - HT.sIx xs.length 0 lo)
theorem zcm(xs:List V)(lo hi:Option Int):(zgN xs lo hi).length<=xs.length:=by
 unfold zgN;rw[List.length_take,List.length_drop];omega
theorem Vals.Yh{xs:List V}{us:LVl}(r:Vals xs us):us=[]↔xs=[]:=by
 cases r with
 |nil=>simp
 |cons _ _=>simp
end
def ixN(n:Nat)(i:Int):Option Nat:=if 0<=i then (if i<n then some i.toNat else none) else if -(n:Int)<=i then some (i+n).toNat else none
def atI{α:Type}(xs:List α)(i:Int):Option α:=(ixN xs.length i).bind λj=>xs[j]?
theorem zeS{n:Nat}{i:Int}{j:Nat}(h:ixN n i=some j):seqIndex? i n=some j/\j<n/\-(n:Int)<=i/\i<n:=by
 unfold ixN at h;by_cases h0:0<=i
 ·rw[if_pos h0] at h;by_cases h1:i<n
  ·rw[if_pos h1] at h;have e:i.toNat=j:=Option.some.inj h;exact⟨by rw[seqIndex_of h0 h1,e],by omega,by omega,h1⟩
  ·rw[if_neg h1] at h;cases h
 ·rw[if_neg h0] at h;by_cases h1:-(n:Int)<=i
  ·rw[if_pos h1] at h;have e:(i+n).toNat=j:=Option.some.inj h;exact⟨by rw[seqIndex_neg (by omega) h1,e],by omega,h1,by omega⟩
  ·rw[if_neg h1] at h;cases h
theorem ze4{α:Type}{xs:List α}{i:Int}{v:α}(h:atI xs i=some v):∃j,seqIndex? i xs.length=some j/\xs[j]?=some v/\j<xs.length/\-(xs.length:Int)<=i/\i<xs.length:=by
 unfold atI at h;cases e:ixN xs.length i with
 |none=>rw[e] at h;cases h
 |some j=>
  rw[e] at h;have⟨h1,h2,h3,h4⟩:=zeS e;exact⟨j,h1,h,h2,h3,h4⟩
theorem W8{α:Type}{xs:List α}{j:Nat}{v:α}(h:xs[j]?=some v):atI xs (j:Int)=some v:=by
 have hj:j<xs.length:=(List.getElem?_eq_some_iff.mp h).1;have e:ixN xs.length (j:Int)=some j:=by
  unfold ixN;rw[if_pos (by omega),if_pos (by omega)];simp
 unfold atI;rw[e];exact h
def zaY(b:Expr):Prop:=∀o i,subscripted b false o i=operate [o,i] (getItem o i)
def IxR(X:Cx)(r:R2):Prop:=∀(value slice:Expr)(pins:PNx)(s:ShX)(σ:St)(H:Hp)(x y:V)(v u:Value)(Q:VK),Inv X pins σ H s->RelV x v->RelV y u->r x y H Q->
  subscripted slice false v u=operate [v,u] (getItem v u)->wpAny (model X.prog X.w) X.A (subscriptTail value slice v u) (EP X pins σ Q) X.xe s
def MtR(X:Cx)(id:String)(r:V->List V->Hp->VK->Prop):Prop:=∀(pins:PNx)(s:ShX)(σ:St)(H:Hp)(x:V)(xs:List V)(v:Value)(us:LVl)(Q:VK),Inv X pins σ H s->RelV x v->Vals xs us->r x xs H Q->
  wpAny (model X.prog X.w) X.A (call (.builtin id) (v::us)) (EP X pins σ Q) X.xe s
section
variable{X:Cx}{a b:Expr}{ta tb:TE}{pos:Pos}
theorem IxR.or{r r':R2}(h:IxR X r)(h':IxR X r'):IxR X (λx y H Q=>r x y H Q\/r' x y H Q):=by
 intro value slice pins s σ H x y v u Q I rx ry q hs;rcases q with q|q
 ·exact h value slice pins s σ H x y v u Q I rx ry q hs
 ·exact h' value slice pins s σ H x y v u Q I rx ry q hs
theorem zkr{r:R2}(hr:IxR X r)(ha:PE X a ta)(hb:PE X b tb)(hs:zaY b):PE X (.Subscript a b pos) (tOp r ta tb):=by
 intro pins s σ H Q I h;exact Subscript_ (zkX ha hb I h λv u s2 x y H2 I2 rx ry q=>hr a b pins s2 σ H2 x y v u Q I2 rx ry q (hs _ _))
def zmq(K:FRx):R2:=λx y H Q=>∃p xs i v,x=.ref p/\y=.int i/\SqL K H p xs/\atI xs i=some v/\Q v H
def zmi(K:FRx):R2:=λx y H Q=>∃p xs i v,x=.ref p/\y=.int i/\SqT K H p xs/\atI xs i=some v/\Q v H
theorem zjQ:IxR X (zmq X.K):=by
 intro value slice pins s σ H x y v u Q I rx ry h hs;obtain⟨p,xs,i,z,rfl,rfl,hq,he,q⟩:=h;cases rx;obtain⟨t,rfl⟩:=ry;have⟨its,r,pl,hz⟩:=I.list hq;have⟨j,h1,h2,h3,h4,h5⟩:=ze4 he;have⟨w,ew,rw'⟩:=r.get h2;have hl:=r.length;have hn:=Wg
 have fin:EP X pins σ Q w s:=⟨z,H,I,rw',q⟩;by_cases h0:0<=i
 ·have hj:i.toNat=j:=by
   rw[seqIndex_of h0 h5] at h1;exact Option.some.inj h1
  exact item_listR pl.isList h0 (by omega) (by rw[hj];simpa using ew) fin hs
 ·have hj:(i+(its.toArray.size:Int)).toNat=j:=by
   rw[seqIndex_neg (by omega) h4] at h1;rw[List.size_toArray,<-hl];exact Option.some.inj h1
  exact subscriptTail_builtinR (x:=w) pl.isList.typeIs slot_list_getitem.lookup
   (wpAny_getItem_list_neg (Q:=λr s'=>r=w/\EP X pins σ Q r s') pl.isList (by omega) (by rw[List.size_toArray]<;>omega) (by omega) (by rw[hj];simpa using ew) ⟨rfl,fin⟩) hs
theorem zlE:IxR X (zmi X.K):=by
 intro value slice pins s σ H x y v u Q I rx ry h hs;obtain⟨p,xs,i,z,rfl,rfl,hq,he,q⟩:=h;cases rx;obtain⟨t,rfl⟩:=ry;have⟨its,r,pl,hz⟩:=I.tuple hq;have⟨j,h1,h2,h3,h4,h5⟩:=ze4 he;have⟨w,ew,rw'⟩:=r.get h2;have hl:=r.length;have hn:=Wg
 have fin:EP X pins σ Q w s:=⟨z,H,I,rw',q⟩;exact subscriptTail_builtinR (x:=w) pl.typeIs slot_tuple_getitem.lookup
  (getItem_tuple (j:=j) (Q:=λr s'=>r=w/\EP X pins σ Q r s') pl (by omega) (by omega) (by rw[List.size_toArray,<-hl];exact h1) (by simpa using ew) ⟨rfl,fin⟩) hs
theorem zew(its:LVl)(n j:Nat)(u:Value):Obj.mapSeq (·.setIfInBounds j u) { cls:=.type "list",data:=.seq its.toArray n }={ cls:=.type "list",data:=.seq (its.set j u).toArray n }:=by
 simp[Obj.mapSeq]
theorem Inv.lst{pins:PNx}{σ:St}{H:Hp}{s:ShX}{p:AdX}{xs:List V}(I:Inv X pins σ H s)(h:H p=some (.lst xs)):∃(its:LVl)(n:Nat),Vals xs its/\s.heap.get? p=some { cls:=.type "list",data:=.seq its.toArray n }/\xs.length<=sizeLine:=by
 have⟨z,its,n,r,e⟩:=I.hok p _ h;exact⟨its,n,r,e,z⟩
theorem Inv.zl5{pins:PNx}{σ:St}{H:Hp}{s:ShX}{p:AdX}{xs ys:List V}{its its':LVl}{n n':Nat}{f:Obj->Obj}(I:Inv X pins σ H s)(h:H p=some (.lst xs))(ho:s.heap.get? p=some { cls:=.type "list",data:=.seq its.toArray n })(hf:f { cls:=.type "list",data:=.seq its.toArray n }={ cls:=.type "list",data:=.seq its'.toArray n' })(r:Vals ys its')(hz:ys.length<=sizeLine)(t:Nat):Inv X pins σ (upd H p (.lst ys)) { s with heap:=s.heap.update p f,toks:=t }:=by
 have e:(s.heap.update p f).get? p=some { cls:=.type "list",data:=.seq its'.toArray n' }:=by
  rw[Heap.get?_update_self f ho (by rw[hf]<;>rfl),hf]
 refine I.write (x:=p) (e:=p) (by rw[h];trivial) (.inl rfl) (λb u hb q=>(Heap.get?_update_other _ _ (Ne.symm hb)).trans q) ⟨_,e⟩ ?_;exact⟨hz,its',n',r,e⟩
def zmV:V->V->V->Hp->(Hp->Prop)->Prop:=λo i v H Q=>∃p xs k j,o=.ref p/\i=.int k/\H p=some (.lst xs)/\ixN xs.length k=some j/\Q (upd H p (.lst (xs.set j v)))
theorem set_list:zmw X zmV:=by
 intro pins s σ H o i v ov iv u Q I ro ri rv h;obtain⟨p,xs,k,j,rfl,rfl,hp,hj,q⟩:=h;cases ro;obtain⟨t,rfl⟩:=ri;have⟨its,n,r,ho,hz⟩:=I.lst hp;have⟨h1,h2,h3,h4⟩:=zeS hj;have hl:=r.length;have hn:=Wg
 have I':Inv X pins σ (upd H p (.lst (xs.set j v))) { s with heap:=s.heap.update p (Obj.mapSeq (·.setIfInBounds j u)) }:=I.zl5 hp ho (zew its n j u) (r.set rv j) (by rw[List.length_set];exact hz) s.toks;by_cases h0:0<=k
 ·have hk:k.toNat=j:=by
   rw[seqIndex_of h0 h4] at h1;exact Option.some.inj h1
  exact W.ki_setAt ho h0 (by omega) (by rw[List.size_toArray,<-hl];exact h4) (by rw[hk];exact⟨_,I',q⟩)
 ·have hk:(k+(its.toArray.size:Int)).toNat=j:=by
   rw[seqIndex_neg (by omega) h3] at h1;rw[List.size_toArray,<-hl];exact Option.some.inj h1
  exact W.ki_setBack ho (by omega) (by rw[List.size_toArray,<-hl];exact h3) (by omega) (by rw[hk];exact⟨_,I',q⟩)
theorem zbD(lo hi:Option Int)(n:Nat):(sliceBounds lo hi none n).1=((HT.sIx n 0 lo:Nat):Int)/\(sliceBounds lo hi none n).2.1=((HT.sIx n n hi:Nat):Int)/\(sliceBounds lo hi none n).2.2=1:=by
 refine⟨?_,?_,rfl⟩
 ·cases lo with
  |none=>simp[sliceBounds,HT.sIx]
  |some i=>
   simp only [sliceBounds,HT.sIx,Option.getD_none,show(1:Int)>0 by decide,if_true];by_cases h:i<0
   ·simp only [h,if_true]<;>omega
   ·simp only [h,if_false]<;>omega
 ·cases hi with
  |none=>simp[sliceBounds,HT.sIx]
  |some i=>
   simp only [sliceBounds,HT.sIx,Option.getD_none,show(1:Int)>0 by decide,if_true];by_cases h:i<0
   ·simp only [h,if_true]<;>omega
   ·simp only [h,if_false]<;>omega
theorem zaf(its:LVl)(lo hi:Option Int):slicePick its.toArray lo hi none=((its.drop (HT.sIx its.length 0 lo)).take (HT.sIx its.length its.length hi - HT.sIx its.length 0 lo)).toArray:=by
 have⟨h1,h2,h3⟩:=zbD lo hi its.toArray.size;unfold slicePick;rw[h1,h2,h3];simp only [sliceRange_one,pick_run,List.size_toArray]<;>rfl
def znc(K:FRx):V->Option Int->Option Int->Hp->VK->Prop:=λx lo hi H Q=>∃a xs,x=.ref a/\SqL K H a xs/\∀p,H p=none->Q (.ref p) (upd H p (.lst (zgN xs lo hi)))
theorem zeU:SlR X (znc X.K):=by
 intro pins s σ H x v vl vu lo hi sl Q I rx hs pl pu h;obtain⟨a,xs,rfl,hx,q⟩:=h;cases rx;have⟨its,r,ht,hz⟩:=I.list hx;have hlen:=r.length;refine⟨"list",_,slot_list_getitem.lookup,ht.isList.typeIs,?_⟩;refine wpAny_getItem_list_slice ht.isList hs pl pu .none (by simp) ?_ (by rw[List.size_toArray]<;>omega);rw[zaf,<-hlen];refine⟨.ref s.heap.objs.size,_,I.laid (t':=s.toks) (o:=.lst (zgN xs lo hi)) (λb ob q=>Heap.get?_push_of_some _ q) (Nat.le_refl _) ?_,rfl,q _ (I.hok.fresh (Nat.le_refl _))⟩;exact⟨Nat.le_trans (zcm xs lo hi) hz,_,0,(r.drop (HT.sIx xs.length 0 lo)).take (HT.sIx xs.length xs.length hi - HT.sIx xs.length 0 lo),Heap.get?_push_size _ rfl⟩
theorem zw:wk X (.builtin "len") (λxs H Q=>∃p ys,xs=[.ref p]/\(SqL X.K H p ys\/SqT X.K H p ys)/\Q (.int ys.length) H):=by
 intro pins s σ H xs us Q I r h;obtain⟨p,ys,rfl,hq,q⟩:=h;obtain⟨u,rfl,rx⟩:=vals1 r;cases rx;have hn:=Wg;rcases hq with hq|hq
 ·have⟨its,r',pl,hz⟩:=I.list hq;have hlen:=r'.length;exact Calls.call_len_list pl.isList (by simp only [List.size_toArray]<;>omega) ⟨.int ys.length,H,I.tok _,⟨s.toks+1,by rw[List.size_toArray,hlen]⟩,q⟩
 ·have⟨its,r',pl,hz⟩:=I.tuple hq;have hlen:=r'.length;exact len_tuple pl (by simp only [List.size_toArray]<;>omega) ⟨.int ys.length,H,I.tok _,⟨s.toks+1,by rw[List.size_toArray,hlen]⟩,q⟩
theorem vK:wk X (.type "list") (λxs H Q=>∃p ys,xs=[.ref p]/\(SqL X.K H p ys\/SqT X.K H p ys)/\∀l,H l=none->Q (.ref l) (upd H l (.lst ys))):=by
 intro pins s σ H xs us Q I r h;obtain⟨p,ys,rfl,hq,q⟩:=h;obtain⟨u,rfl,rx⟩:=vals1 r;cases rx;have fin:∀(its:LVl),Vals ys its->ys.length<=sizeLine->∀(h':Heap)(c':Nat),(∀b o',s.heap.get? b=some o'->h'.get? b=some o')->
   h'.get? s.heap.objs.size=some { cls:=.type "list",dict:=none,data:=.seq its.toArray c',slots:=#[] }->EP X pins σ Q (.ref s.heap.objs.size) { s with heap:=h' }:=λits r' hz h' c' kp e=>
  ⟨.ref s.heap.objs.size,_,I.laid (t':=s.toks) kp (Nat.le_refl _) (show vo X.prog X.w _ h' _ (.lst ys) from⟨hz,its,c',r',e⟩),rfl,q _ (I.hok.fresh (Nat.le_refl _))⟩
 rcases hq with hq|hq
 ·have⟨its,r',pl,hz⟩:=I.list hq;have hlen:=r'.length;have⟨o,ho,hc,n,hd⟩:=pl.isList
  exact call_list_seq p (.inl rfl) ho hc hd (λh' c' kp e=>fin its r' hz h' c' kp e) (by simp only [List.size_toArray]<;>omega)
 ·have⟨its,r',pl,hz⟩:=I.tuple hq;have hlen:=r'.length;have⟨o,ho,hc,n,hd⟩:=pl
  exact call_list_seq p (.inr rfl) ho hc hd (λh' c' kp e=>fin its r' hz h' c' kp e) (by simp only [List.size_toArray]<;>omega)
theorem zC:wk X (.type "tuple") (λxs H Q=>∃p ys,xs=[.ref p]/\((SqL X.K H p ys/\∀l,H l=none->Q (.ref l) (upd H l (.tup ys)))\/(SqT X.K H p ys/\Q (.ref p) H))):=by
 intro pins s σ H xs us Q I r h;obtain⟨p,ys,rfl,h⟩:=h;obtain⟨u,rfl,rx⟩:=vals1 r;cases rx;rcases h with⟨hq,q⟩|⟨hq,q⟩
 ·have⟨its,r',pl,hz⟩:=I.list hq;have hlen:=r'.length;refine call_tuple_list pl.isList (λh' kp=>?_) (by simp only [List.size_toArray]<;>omega);have I1:Inv X pins σ H { s with heap:=h' }:=I.kept (t':=s.toks) kp
  have I2:Inv X pins σ (upd H h'.objs.size (.tup ys)) { s with heap:=h'.push { cls:=.type "tuple",data:=.seq its.toArray } }:=I1.laid (t':=s.toks) (λb o e=>Heap.get?_push_of_some _ e) (Nat.le_refl _) (show vo X.prog X.w _ _ _ (.tup ys) from⟨hz,its,r',IsTup.new _ _⟩);exact⟨.ref h'.objs.size,_,I2,rfl,q _ (I1.hok.fresh (Nat.le_refl _))⟩
 ·have⟨its,r',pl,hz⟩:=I.tuple hq;exact call_tuple_same pl ⟨.ref p,H,I,rfl,q⟩
def tyV(K:FRx)(T:String)(x:V)(H:Hp):Prop:=match x with
 | .str _=>T="str"
 | .int _=>T="int"
 | .ref p=>(T="list"/\∃xs,SqL K H p xs)\/(T="tuple"/\∃o,K.lookup p=some o/\o.cls=.type "tuple"/\o.dict=none)\/
   (T="dict"/\((∃kvs,H p=some (.dK kvs))\/∃kvs,H p=some (.dT kvs)))\/(T="set"/\∃S n,H p=some (.set S n))
 |_=>False
theorem zlU{pins:PNx}{σ:St}{H:Hp}{s:ShX}{T:String}{x:V}{v:Value}(I:Inv X pins σ H s)(r:RelV x v)(ty:tyV X.K T x H):s.TypeIs v T/\∀a,v=.ref a->∃ob,s.heap.get? a=some ob/\ob.dict=none:=by
 cases x with
 |str z=>
  obtain⟨t,rfl⟩:=r;cases (show T="str" from ty);exact⟨typeIs_str s z t,λ_ e=>nomatch e⟩
 |int i=>
  obtain⟨t,rfl⟩:=r;cases (show T="int" from ty);exact⟨typeIs_int s i t,λ_ e=>nomatch e⟩
 |ref p=>
  cases r;rcases ty with⟨rfl,xs,hq⟩|⟨rfl,o,hk,hc,hd⟩|⟨rfl,hk⟩|⟨rfl,S,n,hk⟩
  ·have⟨its,_,pl,_⟩:=I.list hq;refine⟨pl.isList.typeIs,λa e=>?_⟩;cases e;have⟨o,n,e,c,hd,_⟩:=pl;exact⟨o,e,hd⟩
  ·refine⟨⟨o,I.kIn p o hk,hc⟩,λa e=>?_⟩;cases e;exact⟨o,I.kIn _ o hk,hd⟩
  ·have z:∃o,s.heap.get? p=some o/\o.ExactDict:=by
    rcases hk with⟨kvs,hk⟩|⟨kvs,hk⟩
    ·have⟨_,_,_,_,o,_,_,e,ex,_⟩:=I.hok p _ hk;exact⟨o,e,ex⟩
    ·have⟨_,_,_,_,o,_,_,e,ex,_⟩:=I.hok p _ hk;exact⟨o,e,ex⟩
   have⟨o,e,ex⟩:=z;refine⟨⟨o,e,ex.1⟩,λa e2=>?_⟩;cases e2;exact⟨o,e,ex.2.1⟩
  ·have⟨o,_,_,_,e,ex,_⟩:=I.hok p _ hk;refine⟨⟨o,e,ex.1⟩,λa e2=>?_⟩;cases e2;exact⟨o,e,ex.2.1⟩
 |_=>exact False.elim ty
def tBM(K:FRx)(T:String)(r:V->List V->Hp->VK->Prop)(to:TE)(t:TA):TE:=λσ H Q=>to σ H λx H1=>tyV K T x H1/\t σ H1 λxs H2=>r x xs H2 Q
variable{o e:Expr}{es:List Expr}{to:TE}{t:TA}{name:Str}{apos cpos:Pos}{T id:String}{r:V->List V->Hp->VK->Prop}
theorem U1(pa:PlainAttrs T)(slot:Slot T name id)(hty:typeOf (.builtin id)=pure (.type "method_descriptor"))(hm:MtR X id r)(ho:PE X o to)(ha:PA X (e::es) t)(hbase:attributeBase o name X.env (eval o X.env)=eval o X.env:=by rfl)(hfew:((backTo cpos (starEach (e::es) X.env)).all (λx=>!x.1)&&(backToKw cpos (keywordEach [] X.env)).all (λx=>x.1.isSome)
   &&decide ((e::es).length+([]:List Keyword).length+(if ([]:List Keyword).isEmpty then 0 else 1)<30))=true:=by rfl)(hline:(apos.endLine==cpos.line)=true:=by rfl)(hs:SEx X e es:=by rfl)(hplain:(backTo cpos (starEach es X.env)).any (·.1)=false:=by rfl):PE X (.Call (.Attribute o name apos) (e::es) [] cpos) (tBM X.K T r to t):=by
 intro pins s σ H Q I h;refine wpAny_Call_method_late hbase hfew hline rfl (thn (ho pins s σ H _ I h) λv s1 ⟨x,H1,I1,r1,ty,q1⟩=>?_);have⟨h1,h2⟩:=zlU I1 r1 ty;refine⟨T,id,pa,slot,hty,h1,h2,?_⟩;have hA:=ha cpos pins s1 σ H1 _ I1 q1;rw[hs] at hA ⊢;refine Calls.callWith_builtin (by show(false || (backTo cpos (starEach es X.env)).any (·.1))=false;rw[hplain]<;>rfl) (Calls.evalArgs_plain ?_);exact thn hA λus s2 ⟨vs,H2,I2,r2,q2⟩=>hm pins s2 σ H2 x vs v us Q I2 r1 r2 q2
end
def MtM(X:Cx)(id:String)(r:V->List V->Hp->VK->Prop):Prop:=∀(pins:PNx)(s:ShX)(σ:St)(H:Hp)(x:V)(xs:List V)(v:Value)(us:LVl)(Q:VK),Inv X pins σ H s->RelV x v->Vals xs us->r x xs H Q->
  wpAny (model X.prog X.w) X.A (call (.builtin id) (v::us)) (EP X pins σ Q) X.xe s
theorem Vals.one:∀{x:V} {us:LVl},Vals [x] us->∃u,us=[u]/\RelV x u
 |_,_,.cons r .nil=>⟨_,rfl,r⟩
theorem Vals.two:∀{x y:V} {us:LVl},Vals [x,y] us->∃u v,us=[u,v]/\RelV x u/\RelV y v
 |_,_,_,.cons r (.cons q .nil)=>⟨_,_,rfl,r,q⟩
theorem Vals.eraseIdx:∀{xs:List V} {us:LVl} (i:Nat),Vals xs us->Vals (xs.eraseIdx i) (us.eraseIdx i)
 |_,_,_,.nil=>.nil
 |_,_,0,.cons _ t=>t
 |_,_,i+1,.cons r t=>.cons r (Vals.eraseIdx i t)
theorem Vals.rep{xs:List V}{us:LVl}(h:Vals xs us):∀k:Nat,Vals (List.replicate k xs).flatten (List.replicate k us).flatten
 |0=>.nil
 |k+1=>by
  rw[List.replicate_succ,List.replicate_succ,List.flatten_cons,List.flatten_cons];exact Vals.append h (Vals.rep h k)
theorem zaW{α:Type}:∀(l:List α)(i:Nat),(l.eraseIdx i).length<=l.length
 |[],_=>Nat.le_refl _
 |_::_,0=>Nat.le_succ _
 |_::r,i+1=>Nat.succ_le_succ (zaW r i)
theorem foldl_rep(its:LVl):∀(k:Nat)(acc:LVl),
  List.foldl (λx1 x2=>x1++x2) acc.toArray (List.replicate k its.toArray)=(acc++(List.replicate k its).flatten).toArray
 |0,acc=>by simp
 |k+1,acc=>by
  have e:acc.toArray++its.toArray=(acc++its).toArray:=by simp
  have e2:(acc++its)++(List.replicate k its).flatten=acc++(List.replicate (k+1) its).flatten:=by
   rw[List.replicate_succ,List.flatten_cons,List.append_assoc]
  rw[<-e2,<-foldl_rep its k (acc++its),<-e,List.replicate_succ,List.foldl_cons]
section
variable{X:Cx}{pins:PNx}{σ:St}{H:Hp}{s:ShX}{l b:AdX}{xs ys zs:List V}
theorem Inv.lset{its its':LVl}{n:Nat}{f:Array Value->Array Value}{t':Nat}(I:Inv X pins σ H s)(hH:H l=some (.lst xs))(e:s.heap.get? l=some { cls:=.type "list",data:=.seq its.toArray n })(hf:f its.toArray=its'.toArray)(hv:Vals ys its')(hz:ys.length<=sizeLine):Inv X pins σ (upd H l (.lst ys)) { s with heap:=s.heap.update l (Obj.mapSeq f),toks:=t' }:=by
 have q:=PySem.IsL.update e f;rw[hf] at q;refine I.write (x:=l) (e:=l) (by rw[hH];exact trivial) (.inl rfl) (λb' u hb hu=>(Heap.get?_update_other s.heap (Obj.mapSeq f) (Ne.symm hb)).trans hu) ⟨_,q⟩ ?_;exact⟨hz,its',_,hv,q⟩
theorem Inv.lnew{its:LVl}{t':Nat}(I:Inv X pins σ H s)(hv:Vals ys its)(hz:ys.length<=sizeLine):Inv X pins σ (upd H s.heap.objs.size (.lst ys)) { s with heap:=s.heap.push { cls:=.type "list",data:=.seq its.toArray },toks:=t' }:=I.laid (λ_ _ q=>Heap.get?_push_of_some _ q) (Nat.le_refl _) ⟨hz,its,0,hv,Heap.get?_push_size _ rfl⟩
theorem Inv.fresh(I:Inv X pins σ H s):H s.heap.objs.size=none:=I.hok.fresh (Nat.le_refl _)
theorem Inv.zbY(I:Inv X pins σ H s)(hH:H l=some (.lst xs)):xs.length<=sizeLine/\∃(its:LVl)(n:Nat),Vals xs its/\xs.length=its.length/\s.heap.get? l=some { cls:=.type "list",data:=.seq its.toArray n }:=by
 have⟨z,its,n,r,e⟩:=I.hok l _ hH;exact⟨z,its,n,r,r.length,e⟩
theorem Zy{n:Nat}(h:n<=sizeLine):Builtin.List.listTooLong n=false:=by
 unfold Builtin.List.listTooLong;exact decide_eq_false (by omega)
end
section
variable{X:Cx}
def zjb:V->List V->Hp->VK->Prop:=λx vs H Q=>∃l xs y,x=.ref l/\vs=[y]/\H l=some (.lst xs)/\xs.length<sizeLine/\Q .non (upd H l (.lst (xs++[y])))
theorem uj:MtM X "list.append" zjb:=by
 intro pins s σ H x vs v us Q I rx rv h;obtain⟨l,xs,y,rfl,rfl,hH,hz,q⟩:=h;cases rx;obtain⟨u,rfl,ru⟩:=rv.one;have⟨z,its,n,r,hl,e⟩:=I.zbY hH;refine call_meets F.slot_list_append ⟨_,e,rfl⟩ F.entry_list_append (F.args_list_append_2 _ _) (PySem.list_append l its.toArray n u (by rw[List.size_toArray];omega)) ⟨e,?_⟩;refine⟨.non,_,I.lset (its':=its++[u]) hH e (by simp) (r.append (.cons ru .nil)) ?_,rfl,q⟩;rw[List.length_append,List.length_singleton];omega
def zjc:V->List V->Hp->VK->Prop:=λx vs H Q=>∃l b xs zs,x=.ref l/\vs=[.ref b]/\H l=some (.lst xs)/\H b=some (.lst zs)/\xs.length+zs.length<=sizeLine/\Q .non (upd H l (.lst (xs++zs)))
theorem zmd:MtM X "list.extend" zjc:=by
 intro pins s σ H x vs v us Q I rx rv h;obtain⟨l,b,xs,zs,rfl,rfl,hH,hB,hz,q⟩:=h;cases rx;obtain⟨u,rfl,ru⟩:=rv.one;cases ru;have⟨z,its,n,r,hl,e⟩:=I.zbY hH;have⟨z2,its2,n2,r2,hl2,e2⟩:=I.zbY hB;have hsz:its.toArray.size+its2.toArray.size<=sizeLine:=by rw[List.size_toArray,List.size_toArray];omega
 have hlong:¬(!its.toArray.isEmpty&&Builtin.List.listTooLong (its.toArray.size+its2.toArray.size))=true:=by
  rw[Zy hsz,Bool.and_false];exact Bool.false_ne_true
 refine call_meets F.slot_list_extend ⟨_,e,rfl⟩ F.entry_list_extend (F.args_list_extend_2 _ _)
  (AutoSeq1.list_extend_list_list_0 l its.toArray n b its2.toArray n2 hlong (by rw[List.size_toArray];omega) (by omega)) ⟨e,e2,?_⟩
 refine⟨.non,_,I.lset (its':=its++its2) hH e (by simp) (r.append r2) ?_,rfl,q⟩;rw[List.length_append];omega
def zlP:V->List V->Hp->VK->Prop:=λx vs H Q=>∃l xs i k y,x=.ref l/\vs=[.int i]/\H l=some (.lst xs)/\-(2 ^ 63)<=i/\i<2 ^ 63/\seqIndex? i xs.length=some k/\xs[k]?=some y/\Q y (upd H l (.lst (xs.eraseIdx k)))
theorem Vz:MtM X "list.pop" zlP:=by
 intro pins s σ H x vs v us Q I rx rv h;obtain⟨l,xs,i,k,y,rfl,rfl,hH,h1,h2,hk,hy,q⟩:=h;cases rx;obtain⟨u,rfl,ru⟩:=rv.one;obtain⟨t,rfl⟩:=ru;have⟨z,its,n,r,hl,e⟩:=I.zbY hH;have⟨w,hw,rw'⟩:=r.get hy;refine call_meets F.slot_list_pop ⟨_,e,rfl⟩ F.entry_list_pop (F.args_list_pop_2 _ _)
  (MeetsSeq.list_pop_at l its.toArray n i t k w (fitsIndex_both h1 h2) (by rw[List.size_toArray,<-hl];exact hk) (by rw[<-Array.getElem?_toList];exact hw) (by rw[List.size_toArray];omega)) ⟨e,?_⟩
 refine⟨y,_,I.lset (its':=its.eraseIdx k) hH e ?_ (r.eraseIdx k) ?_,rw',q⟩
 ·show its.toArray.eraseIdxIfInBounds k=(its.eraseIdx k).toArray
  rw[List.eraseIdxIfInBounds_toArray]
 ·have:=zaW xs k;omega
def zm3:R2:=λx y H Q=>∃l b xs zs,x=.ref l/\y=.ref b/\H l=some (.lst xs)/\H b=some (.lst zs)/\xs.length+zs.length<=sizeLine/\∀p,H p=none->Q (.ref p) (upd H p (.lst (xs++zs)))
theorem zlB:OpR X (binaryOp .Add) zm3:=by
 intro pins s σ H x y v u Q I rx ry h;obtain⟨l,b,xs,zs,rfl,rfl,hH,hB,hz,q⟩:=h;cases rx;cases ry;have⟨z,its,n,r,hl,e⟩:=I.zbY hH;have⟨z2,its2,n2,r2,hl2,e2⟩:=I.zbY hB;refine PySem.P.add_list e e2 ?_ (by rw[List.size_toArray,List.size_toArray];omega);have ea:its.toArray++its2.toArray=(its++its2).toArray:=by simp
 rw[ea];exact⟨.ref _,_,I.lnew (t':=s.toks) (r.append r2) (by rw[List.length_append];omega),rfl,q _ I.fresh⟩
def zmZ:R2:=λx y H Q=>∃l k xs,x=.ref l/\y=.int k/\H l=some (.lst xs)/\-(2 ^ 63)<=k/\k<2 ^ 63/\xs.length*k.toNat<=sizeLine/\
 ∀p,H p=none->Q (.ref p) (upd H p (.lst (List.replicate k.toNat xs).flatten))
theorem len_rep{α:Type}(xs:List α)(k:Nat):(List.replicate k xs).flatten.length=k*xs.length:=by
 induction k with
 |zero=>simp
 |succ k ih=>rw[List.replicate_succ,List.flatten_cons,List.length_append,ih,Nat.succ_mul,Nat.add_comm]
theorem zgT:OpR X (binaryOp .Mult) zmZ:=by
 intro pins s σ H x y v u Q I rx ry h;obtain⟨l,k,xs,rfl,rfl,hH,h1,h2,hz,q⟩:=h;cases rx;obtain⟨t,rfl⟩:=ry;have⟨z,its,n,r,hl,e⟩:=I.zbY hH;have hlen:its.toArray.size*k.toNat<=sizeLine:=by rw[List.size_toArray,<-hl];exact hz
 have hcap:¬its.toArray.size*k.toNat>(2 ^ 63 - 1) / 8:=by
  have:(sizeLine:Nat)<=(2 ^ 63 - 1) / 8:=by decide
  omega
 have hfit:¬(!Builtin.List.listFitsIndex k)=true:=by
  rw[fitsIndex_both h1 h2];exact Bool.false_ne_true
 have hlong:¬Builtin.List.listTooLong (its.toArray.size*k.toNat)=true:=by
  rw[Zy hlen];exact Bool.false_ne_true
 have hnew:List.foldl (λx1 x2=>x1++x2) #[] (List.replicate (if its.toArray.isEmpty=true then 0 else k.toNat) its.toArray)=(List.replicate k.toNat its).flatten.toArray:=by
  have f0:∀m:Nat,List.foldl (λx1 x2=>x1++x2) #[] (List.replicate m its.toArray)=(List.replicate m its).flatten.toArray:=λm=>by
   have:=foldl_rep its m [];rw[List.nil_append] at this;exact this
  rw[f0];cases its with
  |nil=>simp
  |cons a r'=>rw[if_neg (by simp)]
 refine wpAny_binaryOp_repeat_ref (T:="list") (U:="int") (by decide) ⟨_,e,rfl⟩ (λs'=>typeIs_int s' k t) noFill_list_mul F.fills_int_mul F.slot_int_rmul repeat_list F.slot_int_index.lookup
  (call_meets F.slot_int_rmul (typeIs_int s k t) F.entry_int_rmul (F.args_int_rmul_2 _ _) (int___rmul___int_list k t l its.toArray n)
   ⟨e,rfl,⟨_,e,rfl⟩,call_meets F.slot_list_mul ⟨_,e,rfl⟩ F.entry_list_mul (F.args_list_mul_2 _ _) (AutoListH.list___mul___list_int_3 l its.toArray n k t hfit hcap hlong) ⟨e,?_⟩⟩)
 rw[hnew];exact⟨.ref _,_,I.lnew (t':=s.toks) (r.rep k.toNat) (by rw[len_rep,Nat.mul_comm];exact hz),rfl,q _ I.fresh⟩
end
end L2
namespace Att
open PySem PySem.W PySem.Calls PyProof.Rows
theorem W3{P:Params}{h:Heap}:∀(ns:List Int)(vs:LVl),WellAll P h vs (ns.map WData.int)->IntsAre vs ns:=by
 intro ns;induction ns with
 |nil=>
  intro vs w;rw[List.map_nil] at w;cases w;exact .nil
 |cons n ns ih=>
  intro vs w;rw[List.map_cons] at w;cases w with
  |cons a b=>
   cases a;exact .cons _ _ (ih _ b)
theorem zgO{l:OpenLaw}{n:Nat}(hn:l.most=some n){P:Params}{h:Heap}{args:List WData}{vals:LVl}(hpre:l.row.toRowW.claim.pre args=true)(hwl:WellAll P h vals args):∃a vs ns,vals=[Value.ref a]/\args=[WData.list (ns.map WData.int)]/\h.get? a=some { cls:=.type "list",data:=.seq vs.toArray }/\IntsAre vs ns/\ns.length<=n:=by
 have hsh:WShape.hasAll [] args [.list .int]=true:=(pre_splitW hpre).1;have hc:l.pre.holds [] { args:=args }=true:=(pre_splitW hpre).2
 obtain⟨d,r,rfl,h1,h2⟩:=hasAllW_cons hsh;obtain rfl:=hasAllW_nil h2;obtain⟨xs,rfl,h3⟩:=hasW_list h1;obtain⟨ns,rfl⟩:=items_int h3;have hlen:ns.length<=n:=by
  unfold OpenLaw.pre at hc;have h4:(WTm.not (.lt (.lit (.int (n:Int))) (.len (.arg 0)))).holds [] { args:=[.list (ns.map .int)] }=true:=by
   have h4:=(holds_andW hc).1;rw[hn] at h4;exact h4
  have h5:=condW_of h4 (w_not (w_lt w_lit (w_len_list (w_arg rfl))));rw[List.length_map] at h5;refine Nat.le_of_not_lt λq=>?_
  have q':(n:Int)<((ns.length:Nat):Int):=by omega
  first
   |(rw[decide_eq_true q'] at h5;exact absurd h5 (by decide))
   |(simp at h5;omega)
 cases hwl with
 |cons w1 w2=>
  cases w2;cases w1 with
  |list ho hall=>exact⟨_,_,ns,rfl,rfl,ho,W3 ns _ hall,hlen⟩
theorem zfR(l:OpenLaw)(args:List WData):l.row.toRowW.claim.post args (.bool true) args=true:=postW_of (r:=l.row.toRowW) (X:=(true==true))
  (show WShape.has [] (.bool true) .bool=true by first |rfl|decide|simp[WShape.has,WShape.arms,WShape.armsAll])
  (show(WTm.eq .res (.lit (.bool true))).value [] { args:=args,res:=some (.bool true),after:=args }=some (.bool (true==true)) from w_eq_bool (w_res rfl) w_lit) rfl
theorem zcH{l:OpenLaw}{n:Nat}{q:Program}{loose:LSr}{XP:(Str->Option Value)->Heap->Prop}{YP:World->Heap->Prop}{d:DefRec}(hn:l.most=some n)(hdf:d.params.defaults=[])(call:∀(w:World)(s₀ s₁:ShX)(mg mb:Str->Option Value)(fa:AdX)(o:Obj)(pm cd doc:Value)(a:AdX)(vs:LVl)(ns:List Int),
   Ground q loose [] XP w s₀ mg mb s₁.heap->YP w s₁.heap->
   s₁.heap.get? fa=some o->o.data=.func (docDef d.name d.params d.body d.scope pm cd doc)->s₁.heap.CodeRec cd d.name->mg d.name=some (.ref fa)->
   s₁.heap.get? a=some { cls:=.type "list",data:=.seq vs.toArray }->IntsAre vs ns->ns.length<=n->s₁.gens=#[]->
   codeAny (model l.prog w) callerA (.call (.ref fa) ⟨[.ref a],[]⟩) (λr s'=>r=.ok (.ret (.bool true))/\OldK s₁.heap s'.heap/\s'.os=s₁.os/\AllBare s'.gens) s₁):WalkO q loose XP YP l.row.toRowW d [] (λf vs=>PySem.call f vs):=by
 intro w s₀ s₁ mg mb G Y fa o pm cd doc dV kV ho hd hcd hD hmg hg args vals as hpre hlay hrd hwl hlo;obtain rfl:dV=.none:=Dflts.none hD hdf;obtain rfl:kV=.none:=Dflts.noKw hD;obtain⟨a,vs,ns,rfl,rfl,hobj,hints,hlen⟩:=zgO hn hpre hwl;refine enter_call (codeAny_mono (call w s₀ s₁ mg mb fa o pm cd doc a vs ns G Y ho (fd_plain hd) hcd hmg hobj hints hlen hg) λr s' hq=>?_);obtain⟨rfl,h2,h3,h4⟩:=hq;exact⟨.inl ⟨.bool true,.bool true,[],rfl,λ_=>rfl,.bool true,zfR l _,λ_=>⟨List.Pairwise.nil,λ_ hm=>(nomatch hm)⟩⟩,h2,h3,h4⟩
end Att
namespace L2
open PySem PySem.Spec PyProof.Rows
theorem zap:∀{vs:LVl} {ns:List Int},IntsAre vs ns->Vals (ns.map V.int) vs
 |_,_,.nil=>.nil
 |_,_,.cons n t h=>.cons ⟨t,rfl⟩ (zap h)
def Only(H:Hp):Prop:=∀b,H b=none\/∃o xs,H b=some (.frz o (.lst xs))
theorem zio{P:Program}{w:World}{K:FRx}{mg mb:Str->Option Value}{CX:CXT}{k:Nat}{fa a:AdX}{fd:FuncData}{x:Str}{sp:Sp}{s₁:ShX}{vs:LVl}{ns:List Int}(KX:K.In s₁.heap)(hns:s₁.heap.Ns mainGlobals mg)(hb:s₁.heap.Ns builtinsNs mb)(hbb:∀x:Str,x≠"__name__"->mb x=bootBuiltins x)(hlim:s₁.heap.NoLimit)(hg:s₁.gens=#[])(ha:s₁.heap.get? a=some { cls:=.type "list",data:=.seq vs.toArray })(hi:IntsAre vs ns)(hl:ns.length<=sizeLine)(hr:Room k callerA)(F:∀base:Heap,K.In base->base.Ns mainGlobals mg->wo P w K mg base CX k fa fd [x] sp)(hbind:∀(s:ShX)(u:Value),BindsTo s fd ⟨[u],[]⟩ [(x,u)])(hsp:∀H:Hp,Only H->SqL K H a (ns.map V.int)->sp [.ref a] H (λv _=>v=.bl true) λ_ _ _=>False)(hCX:∀H e s',CX [] H s₁ (λ_ _ _=>False) e s'->False):codeAny (model P w) callerA (.call (.ref fa) ⟨[.ref a],[]⟩) (λr s'=>r=.ok (.ret (.bool true))/\OldK s₁.heap s'.heap/\s'.os=s₁.os/\AllBare s'.gens) s₁:=by
 have rv:=zap hi;have lenV:=hi.length
 have core:∀H:Hp,Only H->SqL K H a (ns.map V.int)->HOk P w H s₁.heap->(∀b,H b≠none->b=a)->(H a≠none->K.lookup a=none)->
   codeAny (model P w) callerA (.call (.ref fa) ⟨[.ref a],[]⟩) (λr s'=>r=.ok (.ret (.bool true))/\OldK s₁.heap s'.heap/\s'.os=s₁.os/\AllBare s'.gens) s₁:=by
  intro H hO hS hok hA hK;have base_of:∀{b:AdX} {o:Obj},s₁.heap.get? b=some o->H b=none->(zbQ s₁.heap H).get? b=some o:=λe n=>ziL e n
  have noA:∀{b:AdX} {o:Obj} {es:Array DictEntry} {ep:Nat},s₁.heap.get? b=some o->o.data=.dict es ep->H b=none:=λ{b o es ep} e d=>by
   cases q:H b with
   |none=>rfl
   |some u=>
    have e':b=a:=hA b (by rw[q];simp);subst e';rw[ha] at e;cases e;have d':Data.seq vs.toArray _=Data.dict es ep:=d
    cases d'
  have nsK:∀{b:AdX} {m:Str->Option Value},s₁.heap.Ns b m->(zbQ s₁.heap H).Ns b m:=λ{b m} ⟨o,es,ep,e,d,r⟩=>⟨o,es,ep,base_of e (noA e d),d,r⟩
  have hKb:K.In (zbQ s₁.heap H):=λb o e=>base_of (KX b o e) (by
   cases q:H b with
   |none=>rfl
   |some u=>
    have e':b=a:=hA b (by rw[q];simp);subst e';rw[hK (by rw[q];simp)] at e;cases e)
  have hM:Mod K mg (zbQ s₁.heap H):=⟨hKb,nsK hns,⟨mb,nsK hb,hbb⟩,let ⟨mc,h1,h2⟩:=hlim;⟨mc,nsK h1,h2⟩⟩;have e0:zdQ P w K mg (zbQ s₁.heap H) callerA [] s₁ H:=⟨rfl,hM,λb o e=>zja e,Nat.le_of_eq (zgs _ _),trivial,λb hb=>absurd (show b∈([]:LAd) from hb) (by simp),hok,.of_eq hg⟩
  refine codeAny_mono ((F _ hKb (nsK hns)).run callerA [] s₁ H ⟨[.ref a],[]⟩ [.ref a] [.ref a] _ _ hr e0 (hbind s₁ (.ref a)) (.cons rfl .nil) (hsp H hO hS)) λr s' h=>?_
  cases r with
  |error e=>exact(hCX H e s' h).elim
  |ok fl=>
   cases fl with
   |next=>exact False.elim h
   |brk=>exact False.elim h
   |cont=>exact False.elim h
   |ret u=>
    have⟨v,H',os,bare,un,hok',r',q⟩:=h;have q':v=.bl true:=q;subst q';obtain rfl:u=Value.bool true:=r';refine⟨rfl,OldK.of_keep λb o e=>?_,os,bare⟩;cases q:H b with
    |none=>exact un.keep b o e q (by intro z;exact absurd (show b∈([]:LAd) from z) (by simp)) (by simp)
    |some u=>
     rcases hO b with z|⟨ob,xs,z⟩
     ·rw[q] at z;cases z
     ·have z2:=un.frzs b ob _ z;have⟨e1,_⟩:=hok b _ z
      have⟨e2,_⟩:=hok' b _ z2;rw[e] at e1;cases e1;exact e2
 cases hk:K.lookup a with
 |some o=>
  have e:=KX a o hk;rw[ha] at e;cases e;refine core (λ_=>none) (λ_=>.inl rfl) (.inr ⟨_,vs.toArray,_,hk,rfl,rfl,rfl,by rw[List.size_toArray,lenV];exact hl,by simpa using rv⟩) (λb u z=>by have z':(none:Option HO)=some u:=z;cases z') (λb z=>absurd rfl z) λz=>absurd rfl z
 |none=>
  refine core (λb=>if b=a then some (.frz { cls:=.type "list",data:=.seq vs.toArray } (.lst (ns.map V.int))) else none) (λb=>?_) (.inl (.inr ⟨{ cls:=.type "list",data:=.seq vs.toArray },if_pos rfl⟩)) (λb u z=>?_) (λb z=>?_) λ_=>hk
  ·by_cases hb:b=a
   ·exact .inr ⟨_,_,if_pos hb⟩
   ·exact .inl (if_neg hb)
  ·by_cases hb:b=a
   ·have z':=(if_pos hb).symm.trans z;cases z';subst hb;exact⟨ha,by rw[List.length_map];exact hl,vs,_,rv,ha⟩
   ·have z':=(if_neg hb).symm.trans z;cases z'
  ·by_cases hb:b=a
   ·exact hb
   ·exact absurd (if_neg hb) z
theorem zjF{l:W.OpenLaw}{n k:Nat}{q:Program}{loose:LSr}{XP:(Str->Option Value)->Heap->Prop}{YP:World->Heap->Prop}{d:DefRec}{K:Params->W.Frag}{CX:World->CXT}{sp:World->Sp}{x:Str}(hn:l.most=some n)(hn2:n<=sizeLine)(hdf:d.params.defaults=[])(hr:Room k callerA)(hY:∀(w:World)(h:Heap),YP w h->(K w.params).In h)(F:∀(w:World)(mg:Str->Option Value)(fa:AdX)(h:Heap),(K w.params).In h->h.Ns mainGlobals mg->mg d.name=some (.ref fa)->
   ∃fd:FuncData,(∀(s:ShX)(u:Value),BindsTo s fd ⟨[u],[]⟩ [(x,u)])/\
    ∀base:Heap,(K w.params).In base->base.Ns mainGlobals mg->wo l.prog w (K w.params) mg base (CX w) k fa fd [x] (sp w))(hsp:∀(w:World)(H:Hp)(a:AdX)(ns:List Int),ns.length<=n->Only H->SqL (K w.params) H a (ns.map V.int)->sp w [.ref a] H (λv _=>v=.bl true) λ_ _ _=>False)(hCX:∀(w:World)(H:Hp)(s:ShX)(e:Value)(s':ShX),CX w [] H s (λ_ _ _=>False) e s'->False):W.WalkO q loose XP YP l.row.toRowW d [] (λf vs=>PySem.call f vs):=by
 refine Att.zcH hn hdf λw s₀ s₁ mg mb fa o pm cd doc a vs ns G Y ho hd hcd hmg hobj hints hlen hg=>?_
 have KX:=hY w _ Y;have⟨fd,hb,hF⟩:=F w mg fa _ KX G.T.g hmg
 exact zio KX G.T.g G.T.b G.T.builtins G.T.nolimit hg hobj hints (Nat.le_trans hlen hn2) hr hF hb (λH hO hS=>hsp w H a ns hlen hO hS) λH e s'=>hCX w H s₁ e s'
def inClass(s:Stmt)(j:Nat):Stmt:=match s with
 | .ClassDef _ _ _ body _ _ _ _ _ _ _=>body.getD j (.Pass ⟨0,0,0,0⟩)
 |_=>.Pass ⟨0,0,0,0⟩
def x8(s:Stmt):Arguments:=match s with
 | .FunctionDef _ a _ _ _ _ _ _ _ _=>a
 |_=>{ posonlyargs:=[],args:=[],vararg:=none,kwonlyargs:=[],kw_defaults:=[],kwarg:=none,defaults:=[] }
def yC(s:Stmt):List Stmt:=match s with
 | .FunctionDef _ _ b _ _ _ _ _ _ _=>b
 |_=>[]
def zc(s:Stmt):Scope:=match s with
 | .FunctionDef _ _ _ _ _ _ sc _ _ _=>sc
 |_=>{ kind:=.function,names:=[],isGenerator:=false,isCoroutine:=false }
abbrev CX0:CXT:=λ_ _ _ _ _ _=>False
abbrev E0:XK:=λ_ _ _=>False
theorem Jg{X:Cx}:Passes CX0 X E0:=λ_ _ _ _ _ _ _ h=>h.elim
structure Fun(K:FRx)(x qual:Str)(st:Stmt)(f:AdX)(fd:FuncData):Prop where
 ex:∃(oc:Value) (od:Option Addr) (kV doc pm:Value) (an:Option Addr) (cdv ct:Value) (osl:Array (Option Value)),
  fd=W.fnOf x qual (x8 st) (yC st) (zc st) .none kV doc pm an cdv ct/\K.lookup f=some ⟨oc,od,.func fd,osl⟩/\W.codeIn K cdv qual=true
 kp:W.keepIn K (.ref f)=true
section
variable{P:Program}{w:World}{K:FRx}{mg:Str->Option Value}{base:Heap}
theorem Fun.ok{x qual:Str}{st:Stmt}{f:AdX}{fd:FuncData}{N ps:LSr}{k:Nat}{sp:Sp}(F:Fun K x qual st f fd)(S:zq N ps (zc st))(len:∀vs H Q E,sp vs H Q E->vs.length=ps.length)(hbody:∀(cdv:Value)(A:Around)(outer:List Env)(s:ShX)(H:Hp)(vs:List V)(Q:VK)(E:XK),Room k (A.deeper (envOfC qual (zc st) s.heap.objs.size f cdv))->sp vs H Q E->
   ∃t,PSs (J1 CX0 P w K mg base N qual (zc st) f cdv A outer s H E).nox (yC st) t/\t { nx:=λ_ H'=>Q .non H',rt:=Q } (start N vs) H):wo P w K mg base CX0 (k+1) f fd ps sp:=by
 obtain⟨oc,od,kV,doc,pm,an,cdv,ct,osl,rfl,lk,hcd⟩:=F.ex;refine zmT lk hcd S len λA outer s H vs Q E hr hsp=>?_
 have⟨t,h,q⟩:=hbody cdv A outer s H vs Q E hr hsp;exact⟨t,h.nox,q⟩
theorem Fun.binds{x qual:Str}{st:Stmt}{f:AdX}{fd:FuncData}{ps:LSr}(F:Fun K x qual st f fd)(h:∀(kV doc pm:Value)(an:Option Addr)(cdv ct:Value)(us:LVl),us.length=ps.length->bindArgs (W.fnOf x qual (x8 st) (yC st) (zc st) .none kV doc pm an cdv ct) ⟨us,[]⟩=pure (ps.zip us)):Binds K fd ps []:=by
 obtain⟨oc,od,kV,doc,pm,an,cdv,ct,osl,rfl,lk,hcd⟩:=F.ex;exact .all (h kV doc pm an cdv ct)
theorem za0{x qual:Str}{st:Stmt}{f:AdX}{oc:Value}{od an:Option Addr}{osl:Array (Option Value)}{kV doc pm cdv ct:Value}(l:K.lookup f=some ⟨oc,od,.func (W.fnOf x qual (x8 st) (yC st) (zc st) .none kV doc pm an cdv ct),osl⟩)(c:W.codeIn K cdv qual=true)(k:W.keepIn K (.ref f)=true):Fun K x qual st f (W.fnOf x qual (x8 st) (yC st) (zc st) .none kV doc pm an cdv ct):=⟨⟨oc,od,kV,doc,pm,an,cdv,ct,osl,rfl,l,c⟩,k⟩
end
def Same(H H':Hp):Prop:=∀b o,H b=some o->H' b=some o
theorem Same.refl(H:Hp):Same H H:=λ_ _ h=>h
theorem Same.trans{H H1 H2:Hp}(a:Same H H1)(b:Same H1 H2):Same H H2:=λc o h=>b c o (a c o h)
theorem Same.free{H H':Hp}(e:Same H H'){l:AdX}(h:H' l=Option.none):H l=Option.none:=by
 cases q:H l with
 |none=>rfl
 |some o=>
  rw[e l o q] at h;cases h
theorem Same.seq{K:FRx}{H H':Hp}{a:AdX}{xs:List V}(e:Same H H')(h:SqL K H a xs):SqL K H' a xs:=by
 rcases h with(h|⟨o,h⟩)|h
 ·exact .inl (.inl (e _ _ h))
 ·exact .inl (.inr ⟨o,e _ _ h⟩)
 ·exact .inr h
end L2
set_option maxHeartbeats 4000000
namespace L2
open PySem PySem.Spec PyProof.Rows
mutual
inductive Rep(K:FRx)(H:Hp):V->PyData->Prop
 |non:Rep K H .non .none
 |bl (b:Bool):Rep K H (.bl b) (.bool b)
 |int (i:Int):Rep K H (.int i) (.int i)
 |str (x:Str):Rep K H (.str x) (.str x)
 |tup {a:AdX} {xs:List V} {ds:LPd}:SqT K H a xs->Reps K H xs ds->Rep K H (.ref a) (.tuple ds)
 |lst {a:AdX} {xs:List V} {ds:LPd}:SqL K H a xs->Reps K H xs ds->Rep K H (.ref a) (.list ds)
inductive Reps(K:FRx)(H:Hp):List V->List PyData->Prop
 |nil:Reps K H [] []
 |cons {v:V} {d:PdX} {vs:List V} {ds:LPd}:Rep K H v d->Reps K H vs ds->Reps K H (v::vs) (d::ds)
end
theorem Same.tup{K:FRx}{H H':Hp}{a:AdX}{xs:List V}(e:Same H H')(h:SqT K H a xs):SqT K H' a xs:=by
 rcases h with(h|⟨o,h⟩)|h
 ·exact .inl (.inl (e _ _ h))
 ·exact .inl (.inr ⟨o,e _ _ h⟩)
 ·exact .inr h
mutual
theorem Rep.same{K:FRx}{H H':Hp}(e:Same H H'):∀{v:V} {d:PdX},Rep K H v d->Rep K H' v d
 |_,_,.non=>.non
 |_,_,.bl b=>.bl b
 |_,_,.int i=>.int i
 |_,_,.str x=>.str x
 |_,_,.tup h r=>.tup (e.tup h) (Reps.same e r)
 |_,_,.lst h r=>.lst (e.seq h) (Reps.same e r)
theorem Reps.same{K:FRx}{H H':Hp}(e:Same H H'):∀{vs:List V} {ds:LPd},Reps K H vs ds->Reps K H' vs ds
 |_,_,.nil=>.nil
 |_,_,.cons h r=>.cons (Rep.same e h) (Reps.same e r)
end
theorem Reps.length{K:FRx}{H:Hp}:∀{vs:List V} {ds:LPd},Reps K H vs ds->vs.length=ds.length
 |_,_,.nil=>rfl
 |_,_,.cons _ r=>by simp[Reps.length r]
theorem Reps.getD{K:FRx}{H:Hp}:∀{vs:List V} {ds:LPd} {i:Nat} {d:PdX},Reps K H vs ds->ds[i]?=some d->∃v,vs[i]?=some v/\Rep K H v d
 |_,_,_,_,.nil,e=>by simp at e
 |_,_,0,_,.cons h _,e=>by simp at e;subst e;exact⟨_,rfl,h⟩
 |_,_,i+1,_,.cons _ r,e=>by
  obtain⟨d,h1,h2⟩:=Reps.getD (i:=i) r (by simpa using e);exact⟨d,by simpa using h1,h2⟩
theorem Reps.append{K:FRx}{H:Hp}:∀{vs ws:List V} {ds es:LPd},Reps K H vs ds->Reps K H ws es->Reps K H (vs++ws) (ds++es)
 |_,_,_,_,.nil,s=>s
 |_,_,_,_,.cons h r,s=>.cons h (Reps.append r s)
theorem Reps.take{K:FRx}{H:Hp}:∀{vs:List V} {ds:LPd} (n:Nat),Reps K H vs ds->Reps K H (vs.take n) (ds.take n)
 |_,_,0,_=>.nil
 |_,_,_+1,.nil=>.nil
 |_,_,n+1,.cons h r=>.cons h (Reps.take n r)
theorem Reps.drop{K:FRx}{H:Hp}:∀{vs:List V} {ds:LPd} (n:Nat),Reps K H vs ds->Reps K H (vs.drop n) (ds.drop n)
 |_,_,0,r=>r
 |_,_,_+1,.nil=>.nil
 |_,_,n+1,.cons _ r=>Reps.drop n r
theorem Reps.ints{K:FRx}{H:Hp}:∀ns:List Int,Reps K H (ns.map V.int) (ns.map PyData.int)
 |[]=>.nil
 |n::r=>.cons (.int n) (Reps.ints r)
section
variable{X:Cx}{pins:PNx}{σ:St}{H:Hp}{s:ShX}
mutual
theorem Inv.reads(I:Inv X pins σ H s):∀{v:V} {d:PdX} {u:Value},Rep X.K H v d->RelV v u->∃as,Reads s.heap u d as
 |_,_,_,.non,r=>by cases (show _=Value.none from r);exact⟨_,.none⟩
 |_,_,_,.bl b,r=>by cases (show _=Value.bool b from r);exact⟨_,.bool b⟩
 |_,_,_,.int i,r=>by obtain⟨t,rfl⟩:=r;exact⟨_,.int i t⟩
 |_,_,_,.str x,r=>by obtain⟨t,rfl⟩:=r;exact⟨_,.str x t⟩
 |_,_,_,.tup h q,r=>by
  cases (show _=Value.ref _ from r);have⟨its,rv,⟨o,ho,hc,n,hd⟩,_⟩:=I.tuple h;have⟨as,ra⟩:=Inv.readsAll I q rv;exact⟨as,.tuple ho hc hd ra⟩
 |_,_,_,.lst h q,r=>by
  cases (show _=Value.ref _ from r);have⟨its,rv,⟨o,n,ho,hc,_,hd⟩,_⟩:=I.list h;have⟨as,ra⟩:=Inv.readsAll I q rv;exact⟨_,.list ho hc hd ra⟩
theorem Inv.readsAll(I:Inv X pins σ H s):∀{vs:List V} {ds:LPd} {us:LVl},Reps X.K H vs ds->Vals vs us->∃as,ReadsAll s.heap us ds as
 |_,_,_,.nil,.nil=>⟨_,.nil⟩
 |_,_,_,.cons h q,.cons r1 r2=>by
  have⟨as,a⟩:=Inv.reads I h r1;have⟨bs,b⟩:=Inv.readsAll I q r2;exact⟨_,.cons a b⟩
end
end
section
variable{X:Cx}
theorem yP:OpR X (binaryOp .Mult) (rI IntMulOk λi j=>.int (i*j)):=opI λ_ _ _ _ _ _ _ hc q=>mul_int q hc
def zkw(_ j:Int):Prop:=j≠0/\j.natAbs.log2<9000
theorem xh:OpR X (binaryOp .FloorDiv) (rI zkw λi j=>.int (i.fdiv j)):=opI λ_ _ _ _ _ _ _ hc q=>floordiv_int hc.1 q (.inl (PyProof.noPylong_of_log2 hc.2))
def zmE(K:FRx):R2:=λx y H Q=>∃d e,Rep K H x d/\Rep K H y e/\SeqAt.shaped d=true/\SeqAt.shaped e=true/\Q (.bl (PyData.eqv d e)) H
def zmL(K:FRx):R2:=λx y H Q=>∃d e,Rep K H x d/\Rep K H y e/\SeqAt.shaped d=true/\SeqAt.shaped e=true/\Q (.bl (!PyData.eqv d e)) H
theorem vy(hu:X.A.units+64<cLine):OpR X (compareOp .Eq) (zmE X.K):=by
 intro pins s σ H x y v u Q I rx ry h;have⟨d,e,hd,he,sd,se,q⟩:=h;have⟨as,ra⟩:=I.reads hd rx;have⟨bs,rb⟩:=I.reads he ry;exact eq_dataH ra rb sd se hu ⟨.bl _,H,I,rfl,q⟩
theorem Jv(hu:X.A.units+64<cLine):OpR X (compareOp .NotEq) (zmL X.K):=by
 intro pins s σ H x y v u Q I rx ry h;have⟨d,e,hd,he,sd,se,q⟩:=h;have⟨as,ra⟩:=I.reads hd rx;have⟨bs,rb⟩:=I.reads he ry;exact ne_dataH ra rb sd se hu ⟨.bl _,H,I,rfl,q⟩
inductive IsI(K:FRx)(H:Hp):V->String->Bool->Prop
 |int_int (i:Int):IsI K H (.int i) "int" true
 |int_bool (i:Int):IsI K H (.int i) "bool" false
 |int_tup (i:Int):IsI K H (.int i) "tuple" false
 |bl_int (b:Bool):IsI K H (.bl b) "int" true
 |bl_bool (b:Bool):IsI K H (.bl b) "bool" true
 |tup_tup {a:AdX} {xs:List V}:SqT K H a xs->IsI K H (.ref a) "tuple" true
 |tup_lst {a:AdX} {xs:List V}:SqT K H a xs->IsI K H (.ref a) "list" false
 |tup_int {a:AdX} {xs:List V}:SqT K H a xs->IsI K H (.ref a) "int" false
 |lst_lst {a:AdX} {xs:List V}:SqL K H a xs->IsI K H (.ref a) "list" true
 |lst_tup {a:AdX} {xs:List V}:SqL K H a xs->IsI K H (.ref a) "tuple" false
 |lst_int {a:AdX} {xs:List V}:SqL K H a xs->IsI K H (.ref a) "int" false
def znk(K:FRx):List V->Hp->VK->Prop:=λxs H Q=>∃x T b,xs=[x,.ty T]/\IsI K H x T b/\Q (.bl b) H
theorem zhW:wk X (.builtin "isinstance") (znk X.K):=by
 intro pins s σ H xs us Q I r h;obtain⟨x,T,b,rfl,hi,q⟩:=h;obtain⟨u,w',rfl,rx,rT⟩:=vals2 r;cases (show w'=Value.type T from rT);have fin:∀tk,EP X pins σ Q (.bool b) { s with toks:=tk }:=λtk=>⟨.bl b,H,I.tok tk,rfl,q⟩
 have fin0:EP X pins σ Q (.bool b) s:=⟨.bl b,H,I,rfl,q⟩;cases hi with
 |int_int i=>obtain⟨t,rfl⟩:=rx;exact IsiPair.int_int fin0
 |int_bool i=>obtain⟨t,rfl⟩:=rx;exact IsiPair.int_bool (fin _)
 |int_tup i=>obtain⟨t,rfl⟩:=rx;exact IsiPair.int_tuple (fin _)
 |bl_int i=>cases (show u=Value.bool i from rx);exact IsiPair.bool_int fin0
 |bl_bool i=>cases (show u=Value.bool i from rx);exact IsiPair.bool_bool fin0
 |tup_tup h=>cases (show u=Value.ref _ from rx);have⟨its,rv,⟨o,ho,hc,n,hd⟩,_⟩:=I.tuple h;exact IsiPair.tuple_tuple ho hc fin0
 |tup_lst h=>cases (show u=Value.ref _ from rx);have⟨its,rv,⟨o,ho,hc,n,hd⟩,_⟩:=I.tuple h;exact IsiPair.tuple_list ho hc (fin _)
 |tup_int h=>cases (show u=Value.ref _ from rx);have⟨its,rv,⟨o,ho,hc,n,hd⟩,_⟩:=I.tuple h;exact IsiPair.tuple_int ho hc (fin _)
 |lst_lst h=>cases (show u=Value.ref _ from rx);have⟨its,rv,⟨o,n,ho,hc,_,hd⟩,_⟩:=I.list h;exact IsiPair.list_list ho hc fin0
 |lst_tup h=>cases (show u=Value.ref _ from rx);have⟨its,rv,⟨o,n,ho,hc,_,hd⟩,_⟩:=I.list h;exact IsiPair.list_tuple ho hc (fin _)
 |lst_int h=>cases (show u=Value.ref _ from rx);have⟨its,rv,⟨o,n,ho,hc,_,hd⟩,_⟩:=I.list h;exact IsiPair.list_int ho hc (fin _)
end
theorem yp:bootBuiltins "len"=some (.builtin "len"):=by decide+kernel
theorem zg6:bootBuiltins "abs"=some (.builtin "abs"):=by decide+kernel
theorem zlx:bootBuiltins "sum"=some (.builtin "sum"):=by decide+kernel
theorem ZZ:bootBuiltins "isinstance"=some (.builtin "isinstance"):=by decide+kernel
theorem yh:bootBuiltins "tuple"=some (.type "tuple"):=by decide+kernel
theorem JJ:bootBuiltins "list"=some (.type "list"):=by decide+kernel
def NoB(mg:Str->Option Value)(l:LSr):Prop:=∀x∈l,mg x=none
theorem nbg{mg:Str->Option Value}{bs:LSr}{x:Str}(h:NoB mg bs)(m:x∈bs:=by decide):mg x=none:=h x m
def HasDef(K:FRx)(mg:Str->Option Value)(x:Str)(st:Stmt):Prop:=∃f fd,Fun K x x st f fd/\mg x=some (.ref f)
def Def(P:Program)(w:World)(K:FRx)(mg:Str->Option Value)(base:Heap)(CX:CXT)(k:Nat)(x:Str)(ps:LSr)(sp:Sp):Prop:=∃f fd,wo P w K mg base CX k f fd ps sp/\Binds K fd ps []/\W.keepIn K (.ref f)=true/\mg x=some (.ref f)
section
variable{P:Program}{w:World}{K:FRx}{mg:Str->Option Value}{base:Heap}
theorem Def.mk{x:Str}{st:Stmt}{N ps:LSr}{k:Nat}{sp:Sp}(h:HasDef K mg x st)(S:zq N ps (zc st))(hb:∀(kV doc pm:Value)(an:Option Addr)(cdv ct:Value)(us:LVl),us.length=ps.length->bindArgs (W.fnOf x x (x8 st) (yC st) (zc st) .none kV doc pm an cdv ct) ⟨us,[]⟩=pure (ps.zip us))(len:∀vs H Q E,sp vs H Q E->vs.length=ps.length)(hbody:∀(f:AdX)(cdv:Value)(A:Around)(outer:List Env)(s:ShX)(H:Hp)(vs:List V)(Q:VK)(E:XK),Room k (A.deeper (envOfC x (zc st) s.heap.objs.size f cdv))->sp vs H Q E->
   ∃t,PSs (J1 CX0 P w K mg base N x (zc st) f cdv A outer s H E).nox (yC st) t/\t { nx:=λ_ H'=>Q .non H',rt:=Q } (start N vs) H):Def P w K mg base CX0 (k+1) x ps sp:=by
 have⟨f,fd,F,hm⟩:=h;exact⟨f,fd,F.ok S len (λcdv A outer s H vs Q E hr hs=>hbody f cdv A outer s H vs Q E hr hs),F.binds hb,F.kp,hm⟩
end
section
variable{X:Cx}{CX:CXT}{E:XK}{k k':Nat}{x:Str}{ps:LSr}{sp:Sp}{p pos:Pos}{e:Expr}{es:List Expr}{t:TA}
theorem Wv(D:Def X.prog X.w X.K X.mg X.base CX k x ps sp)(hr:Room k' X.A)(hg:Gl X x)(hx:Passes CX X E)(ha:PA X (e::es) t)(hk:k<=k':=by decide)(hdb:NDx x:=by decide)(he:SEx X e es:=by rfl)(hpl:PLx X pos es:=by rfl):PE X (.Call (.Name x p) (e::es) [] pos) (zkF sp [] E t):=by
 have⟨f,fd,F,B,kp,m⟩:=D;exact zjO F (hr.mono hk) hg m kp B .nil hx ha hdb he hpl
end
theorem zW{H:Hp}{p:AdX}(h:H p=none)(o:HO):Same H (upd H p o):=λb u q=>by rw[zO (jr q h)];exact q
theorem Yi{env:Env}:∀(l:List (Str×NameKind)) (cs:LSA),(∀x∈l,x.2=.free->∃c,env.cells.lookup x.1=some c)->
  ∃cl,(forIn l cs λ(x:Str×NameKind) (cs:LSA)=>if (x.2==NameKind.free)=true then (do let c <-cellOf env x.1;pure (ForInStep.yield ((x.1,c)::cs)):Sem (ForInStep (List (Str×Addr)))) else pure (ForInStep.yield cs))=(pure cl:Sem (List (Str×Addr)))
   /\(∀p∈cl,p∈cs\/env.cells.lookup p.1=some p.2)/\(∀p∈cs,p∈cl)/\∀n,(n,NameKind.free)∈l->∃c,(n,c)∈cl
 |[],cs,_=>⟨cs,rfl,λp hp=>.inl hp,λp hp=>hp,λn hn=>absurd hn (by simp)⟩
 |(n,k)::r,cs,h=>by
  by_cases hk:k=.free
  ·subst hk;obtain⟨c,hc⟩:=h (n,.free) List.mem_cons_self rfl;obtain⟨cl,e,h1,h2,h3⟩:=Yi r ((n,c)::cs) λx hx=>h x (List.mem_cons_of_mem _ hx)
   have ec:cellOf env n=pure c:=by
    unfold cellOf;rw[hc]
   refine⟨cl,?_,λp hp=>?_,λp hp=>h2 p (List.mem_cons_of_mem _ hp),λm hm=>?_⟩
   ·rw[List.forIn_cons];show((do let c <-cellOf env n;pure (ForInStep.yield ((n,c)::cs)):Sem (ForInStep (List (Str×Addr)))) >>= _)=_
    rw[ec,pure_bind,pure_bind];exact e
   ·rcases h1 p hp with z|z
    ·rcases List.mem_cons.mp z with z|z
     ·subst z;exact .inr hc
     ·exact .inl z
    ·exact .inr z
   ·rcases List.mem_cons.mp hm with z|z
    ·cases z;exact⟨c,h2 _ List.mem_cons_self⟩
    ·exact h3 m z
  ·obtain⟨cl,e,h1,h2,h3⟩:=Yi r cs λx hx=>h x (List.mem_cons_of_mem _ hx)
   have hb:(k==NameKind.free)=false:=by simpa using hk
   refine⟨cl,?_,h1,h2,λm hm=>?_⟩
   ·rw[List.forIn_cons];show((if (k==NameKind.free)=true then _ else pure (ForInStep.yield cs):Sem (ForInStep (List (Str×Addr)))) >>= _)=_
    rw[hb,if_neg Bool.false_ne_true,pure_bind];exact e
   ·rcases List.mem_cons.mp hm with z|z
    ·cases z;exact absurd rfl hk
    ·exact h3 m z
structure J7(scope:Scope)(env:Env)(cl:LSA):Prop where
 from_:∀p∈cl,env.cells.lookup p.1=some p.2
 all:∀n,(n,NameKind.free)∈scope.names->∃c,(n,c)∈cl
theorem uM{scope:Scope}{env:Env}(h:∀x∈scope.names,x.2=.free->∃c,env.cells.lookup x.1=some c):∃cl,closureFor scope env=pure cl/\J7 scope env cl:=by
 obtain⟨cl,e,h1,_,h3⟩:=Yi (env:=env) scope.names [] h;refine⟨cl,?_,λp hp=>(h1 p hp).resolve_left (by simp),h3⟩;have e2:closureFor scope env=(forIn scope.names [] λ(x:Str×NameKind) (cs:LSA)=>if (x.2==NameKind.free)=true then (do let c <-cellOf env x.1;pure (ForInStep.yield ((x.1,c)::cs)):Sem (ForInStep (List (Str×Addr)))) else pure (ForInStep.yield cs)) >>= pure:=by rfl
 rw[e2,e];exact pure_bind _ _
theorem Z5{cl:LSA}{n:Str}{c:AdX}(h:(n,c)∈cl):∃c',cl.lookup n=some c':=by
 induction cl with
 |nil=>cases h
 |cons p r ih=>
  have⟨m,d⟩:=p;rw[List.lookup_cons];by_cases e:n=m
  ·subst e;exact⟨d,by simp⟩
  ·have hb:(n==m)=false:=by simpa using e
   rw[hb];rcases List.mem_cons.mp h with z|z
   ·cases z;exact absurd rfl e
   ·exact ih z
theorem J7.look{scope:Scope}{env:Env}{cl:LSA}(k:J7 scope env cl){x:Str}{c:AdX}(h:cl.lookup x=some c):env.cells.lookup x=some c:=k.from_ _ (PySem.mem_of_lookup h)
theorem J7.has{scope:Scope}{env:Env}{cl:LSA}(k:J7 scope env cl){x:Str}(h:(x,NameKind.free)∈scope.names):∃c,cl.lookup x=some c/\env.cells.lookup x=some c:=by
 have⟨c,hc⟩:=k.all x h;have⟨c',e⟩:=Z5 hc;exact⟨c',e,k.look e⟩
theorem U3{scope:Scope}{env:Env}{x:Str}:∀{k:NameKind},(relabel scope env).names.lookup x=some k->scope.names.lookup x=some k\/(k=.cell/\scope.names.lookup x=some .free):=by
 unfold relabel;dsimp only;generalize scope.names=l;induction l with
 |nil=>intro k h;cases h
 |cons p r ih=>
  intro k h;have⟨n,j⟩:=p;rw[List.map_cons,List.lookup_cons] at h;rw[List.lookup_cons];by_cases hc:(j==NameKind.free&&env.scope.kind==ScopeKind.function&&env.kindOf n==some NameKind.cell)=true
  ·rw[if_pos hc] at h;dsimp only at h;cases e:x==n with
   |true=>
    rw[e] at h;dsimp only at h;cases h;have hj:j=.free:=by
     simp only [Bool.and_eq_true,beq_iff_eq] at hc;exact hc.1.1
    subst hj;exact .inr ⟨rfl,rfl⟩
   |false=>
    rw[e] at h;exact ih h
  ·rw[if_neg hc] at h;dsimp only at h;cases e:x==n with
   |true=>
    rw[e] at h;exact .inl h
   |false=>
    rw[e] at h;exact ih h
theorem zbu{scope:Scope}{env:Env}{x:Str}(h:scope.names.lookup x=some .free):(relabel scope env).names.lookup x=some .cell\/(relabel scope env).names.lookup x=some .free:=by
 revert h
 unfold relabel;dsimp only;generalize scope.names=l;induction l with
 |nil=>intro h;cases h
 |cons p r ih=>
  intro h;have⟨n,j⟩:=p;rw[List.lookup_cons] at h;rw[List.map_cons,List.lookup_cons];by_cases hc:(j==NameKind.free&&env.scope.kind==ScopeKind.function&&env.kindOf n==some NameKind.cell)=true
  ·rw[if_pos hc];dsimp only;cases e:x==n with
   |true=>exact .inl rfl
   |false=>rw[e] at h;exact ih h
  ·rw[if_neg hc];dsimp only;cases e:x==n with
   |true=>rw[e] at h;exact .inr h
   |false=>rw[e] at h;exact ih h
def zd0(o:Option Str)(C:AdX):List (Str×Addr):=match o with |some x=>[(x,C+1)]|none=>[]
def xy(X:Cx)(o:Option Str)(N:LSr)(scope:Scope)(cl:LSA)(C:AdX)(ex:LAd)(s:ShX)(H:Hp):Cx:={ X with N:=N,s₀:=s,H₀:=H,env:=compEnvC scope (zd0 o C++cl) C X.env,outer:=X.stack,ex:=ex,fn:=λy=>o==some y,pn:=[],xe:=λ_ _=>False }
abbrev zV(X:Cx)(N:LSr)(scope:Scope)(cl:LSA)(C:AdX)(ex:LAd)(s:ShX)(H:Hp):Cx:=xy X none N scope cl C ex s H
structure xu(X:Cx)(scope:Scope)(o:Option Str):Prop where
 kind:scope.kind=.function
 is:∀x,o=some x->scope.names.lookup x=some .cell
 only:∀y∈scope.names,y.2=.cell->o=some y.1
 cf:∀(n:Nat)(acc:LSA),cellsFrom (n+1) scope.names acc=zd0 o n++acc
 pc:∀h:Heap,pushCells h scope.names=match o with |some _=>h.push { cls:=.type "cell",data:=.cell none }|none=>h
 loc:∀y∈scope.names,y.2=.local->scope.names.lookup y.1=some .local
 free:∀y∈scope.names,y.2=.free->X.env.kindOf y.1=some .cell\/X.env.kindOf y.1=some .free
structure ya(X:Cx)(scope:Scope):Prop where
 kind:scope.kind=.function
 nocell:∀y∈scope.names,y.2≠ .cell
 loc:∀y∈scope.names,y.2=.local->scope.names.lookup y.1=some .local
 free:∀y∈scope.names,y.2=.free->X.env.kindOf y.1=some .cell\/X.env.kindOf y.1=some .free
theorem nocells:∀names:List (Str×NameKind),(∀y∈names,y.2≠ .cell)->(∀n acc,cellsFrom n names acc=acc)/\∀h,pushCells h names=h
 |[],_=>⟨λ_ _=>rfl,λ_=>rfl⟩
 |(x,k)::r,h=>by
  have hk:¬(k==NameKind.cell)=true:=λe=>h _ (.head _) (beq_iff_eq.mp e)
  obtain⟨h1,h2⟩:=nocells r λy hy=>h y (.tail _ hy)
  refine⟨λn acc=>?_,λhh=>?_⟩
  ·unfold cellsFrom;rw[if_neg hk];exact h1 n acc
  ·unfold pushCells;rw[if_neg hk];exact h2 hh
theorem ya.o{X:Cx}{scope:Scope}(S:ya X scope):xu X scope none:=⟨S.kind,λx h=>(by cases h),λy hy h=>absurd h (S.nocell y hy),λn acc=>(nocells _ S.nocell).1 (n+1) acc,λh=>(nocells _ S.nocell).2 h,S.loc,S.free⟩
theorem ua{o:Option Str}{C c:AdX}{cl:LSA}{y:Str}(h:(zd0 o C++cl).lookup y=some c):(o=some y/\C+1=c)\/(o≠some y/\cl.lookup y=some c):=by
 cases o with
 |none=>exact .inr ⟨by simp,h⟩
 |some x=>
  have h:((x,C+1)::cl).lookup y=some c:=h;rw[List.lookup_cons] at h;cases e:y==x with
  |true=>rw[e] at h;cases h;exact .inl ⟨by rw[beq_iff_eq.mp e],rfl⟩
  |false=>rw[e] at h;exact .inr ⟨λz=>beq_eq_false_iff_ne.mp e (Option.some.inj z).symm,h⟩
theorem zhH{o:Option Str}{C:AdX}{cl:LSA}{y:Str}(h:¬o=some y):(zd0 o C++cl).lookup y=cl.lookup y:=by
 cases o with
 |none=>rfl
 |some x=>
  show((x,C+1)::cl).lookup y=_
  rw[List.lookup_cons,beq_eq_false_iff_ne.mpr λz=>h (by rw[z])]
theorem zlm{o:Option Str}{C:AdX}{cl:LSA}{y:Str}(h:o=some y):(zd0 o C++cl).lookup y=some (C+1):=by
 subst h;show((y,C+1)::cl).lookup y=_
 rw[List.lookup_cons,beq_self_eq_true]
def Uv(T:Nat)(F:LNt)(σ:St):St:=List.replicate T none++F.map λj=>(σ[j]?).join
section
variable{X:Cx}{o:Option Str}{pins:PNx}{σ:St}{H:Hp}{s:ShX}
theorem Wz(I:Inv X pins σ H s){scope:Scope}(S:xu X scope o):∀x∈scope.names,x.2=.free->∃c,X.env.cells.lookup x.1=some c:=λx hx hf=>I.ok.has x.1 (S.free x hx hf)
theorem Uw(I:Inv X pins σ H s){scope:Scope}(S:ya X scope):∀x∈scope.names,x.2=.free->∃c,X.env.cells.lookup x.1=some c:=Wz I S.o
theorem zhA(I:Inv X pins σ H s){scope:Scope}(S:xu X scope o){cl:LSA}(k:J7 scope X.env cl){N:LSr}{C:AdX}{ex:LAd}(hC:s.heap.objs.size<=C)(hex:∀b∈ex,uK X pins H b)(hexo:∀b∈ex,∃o,s.heap.get? b=some o):(xy X o N scope cl C ex s H).Ok where
 mod:=I.ok.mod
 kind:=S.kind
 glob:=I.ok.glob
 blt:=I.ok.blt
 above:=hC
 inj:=λx y c h1 h2=>by
  have lt:∀z,cl.lookup z=some (C+1)->False:=λz hz=>by
   obtain⟨v,o,e,_⟩:=I.cell z _ (k.look hz);exact Nat.lt_irrefl C (Nat.lt_trans (Nat.lt_succ_self C) (Nat.lt_of_lt_of_le (Heap.lt_size e) hC))
  rcases ua h1 with⟨e1,z1⟩|⟨_,z1⟩<;>rcases ua h2 with⟨e2,z2⟩|⟨_,z2⟩
  ·rw[e1] at e2;exact Option.some.inj e2
  ·rw[<-z1] at z2;exact(lt y z2).elim
  ·rw[<-z2] at z1;exact(lt x z1).elim
  ·exact I.ok.inj x y c (k.look z1) (k.look z2)
 has:=λx hx=>by
  have hx':(relabel scope X.env).names.lookup x=some .cell\/(relabel scope X.env).names.lookup x=some .free:=hx;by_cases hxx:o=some x
  ·exact⟨C+1,zlm hxx⟩
  ·have hf:(x,NameKind.free)∈scope.names:=by
    rcases hx' with h|h
    ·rcases U3 h with h|⟨_,h⟩
     ·exact absurd (S.only _ (PySem.mem_of_lookup h) rfl) hxx
     ·exact PySem.mem_of_lookup h
    ·rcases U3 h with h|⟨h0,_⟩
     ·exact PySem.mem_of_lookup h
     ·cases h0
   have⟨c,e,_⟩:=k.has hf;exact⟨c,(zhH hxx).trans e⟩
 cab:=λx c h hc=>by
  have hx:o=some x:=beq_iff_eq.mp (show(o==some x)=true from h);rcases ua hc with⟨_,z⟩|⟨z,_⟩
  ·rw[<-z];exact Nat.le_succ_of_le hC
  ·exact absurd hx z
 hd:=I.ok.hd
 frames:=I.ok.frames
 stk:=.inl rfl
 exf:=λb hb=>by
  have⟨o,e⟩:=hexo b hb;have hlt:=Heap.lt_size e;refine⟨λz=>?_,λx c e' z=>?_⟩
  ·have e2:b=C:=z;rw[e2] at hlt;exact Nat.lt_irrefl C (Nat.lt_of_lt_of_le hlt hC)
  ·rcases ua e' with⟨_,q⟩|⟨_,q⟩
   ·have e2:C+1=b:=q.trans z;rw[<-e2] at hlt;exact Nat.lt_irrefl C (Nat.lt_trans (Nat.lt_succ_self C) (Nat.lt_of_lt_of_le hlt hC))
   ·exact(hex b hb).2.2.2.2.1 x c (k.look q) z
 bs:=I.bs
 bsz:=Nat.le_trans I.ok.bsz I.sz
 noex:=λb o e hb=>by
  rcases(hex b hb).2.2.2.1 with z|z
  ·exact I.ok.noex b o e z
  ·exact Nat.lt_irrefl _ (Nat.lt_of_lt_of_le (Heap.lt_size e) (Nat.le_trans I.ok.bsz z))
 exfs:=λb hb z=>by
  rcases List.mem_cons.mp (I.zeH b z) with z|z
  ·exact(hex b hb).2.1 z
  ·exact(hex b hb).2.2.1 z
 funs:=I.stack
 frf:=I.zfk
theorem WY(I:Inv X pins σ H s){scope:Scope}(S:xu X scope o){cl:LSA}(k:J7 scope X.env cl){Ts:LSr}{F:LNt}{ex:LAd}{h':Heap}{tk:Nat}(hex:∀b∈ex,uK X pins H b)(hexo:∀b∈ex,∃o,s.heap.get? b=some o)(hF:∀j∈F,∃x,X.N[j]?=some x/\scope.names.lookup x=some .free)(hns:h'.Ns s.heap.objs.size (λ_=>none))(hk:∀b o,s.heap.get? b=some o->h'.get? b=some o)(hcl:∀x,o=some x->h'.IsCell (s.heap.objs.size+1) none):Inv (xy X o (Ts++F.map λj=>X.N.getD j "") scope cl s.heap.objs.size ex s H) [] (Uv Ts.length F σ) H { s with heap:=h',toks:=tk }:=by
 refine⟨zhA I S k (Nat.le_refl _) hex hexo,rfl,I.bare,Un.kept hk,⟨_,hns,λi x v h1 h2 h3=>?_⟩,λx c h=>?_,I.hok.fresh (Nat.le_refl _),λx c h=>(by
   rcases ua h with⟨_,z⟩|⟨_,z⟩
   ·rw[<-z];exact I.hok.fresh (Nat.le_succ _)
   ·exact I.freeC x c (k.look z)),λp hp=>absurd (show p∈([]:PNx) from hp) (by simp),I.hok.kept hk,?_⟩
 ·have h1':(Ts++F.map λj=>X.N.getD j "")[i]?=some x:=h1;unfold Uv at h2;have hi:Ts.length<=i:=by
   by_cases z:Ts.length<=i
   ·exact z
   ·rw[List.getElem?_append_left (by simpa using Nat.lt_of_not_le z),List.getElem?_replicate] at h2;split at h2<;>cases h2
  rw[List.getElem?_append_right (by simpa using hi),List.length_replicate,List.getElem?_map] at h2;rw[List.getElem?_append_right hi,List.getElem?_map] at h1';cases ej:F[i - Ts.length]? with
  |none=>rw[ej] at h2;cases h2
  |some j=>
   rw[ej] at h2 h1';obtain⟨y,hy,hf⟩:=hF j (List.mem_of_getElem? ej);have ex:x=y:=by
    have e1:X.N.getD j ""=x:=Option.some.inj h1';rw[List.getD_eq_getElem?_getD,hy] at e1;exact e1.symm
   subst ex;have hs:σ[j]?=some (some v):=by
    have h2':(σ[j]?).join=some v:=Option.some.inj h2;cases e:σ[j]? with
    |none=>rw[e] at h2';cases h2'
    |some o=>rw[e] at h2';exact congrArg some h2'
   have hkf:=S.free _ (PySem.mem_of_lookup hf) rfl;have⟨m,hn,hl⟩:=I.loc
   have hv:Vis X.env.scope x:=.inr hkf;have⟨u,r,l⟩:=hl j x v hy hs hv
   refine⟨u,r,.inr ⟨zbu hf,?_⟩⟩;rcases l with⟨hl',_⟩|⟨_,c,hc,⟨o,ho,hd⟩⟩
   ·rcases hkf with z|z<;>(rw[z] at hl';cases hl')
   ·obtain⟨c',e1,e2⟩:=k.has (PySem.mem_of_lookup hf);rw[hc] at e2;cases e2;exact⟨c,(zhH (λq=>by rw[S.is _ q] at hf;cases hf)).trans e1,⟨o,hk _ _ ho,hd⟩⟩
 ·rcases ua h with⟨z0,z⟩|⟨_,z⟩
  ·rw[<-z];exact⟨none,hcl x z0⟩
  ·obtain⟨v,o,ho,hd⟩:=I.cell x c (k.look z);exact⟨v,o,hk _ _ ho,hd⟩
 ·show(Uv Ts.length F σ).length=(Ts++F.map λj=>X.N.getD j "").length
  simp[Uv]
theorem zdL(I:Inv X pins σ H s){scope:Scope}(S:ya X scope){cl:LSA}(k:J7 scope X.env cl){Ts:LSr}{F:LNt}{ex:LAd}{h':Heap}{tk:Nat}(hex:∀b∈ex,uK X pins H b)(hexo:∀b∈ex,∃o,s.heap.get? b=some o)(hF:∀j∈F,∃x,X.N[j]?=some x/\scope.names.lookup x=some .free)(hns:h'.Ns s.heap.objs.size (λ_=>none))(hk:∀b o,s.heap.get? b=some o->h'.get? b=some o):Inv (zV X (Ts++F.map λj=>X.N.getD j "") scope cl s.heap.objs.size ex s H) [] (Uv Ts.length F σ) H { s with heap:=h',toks:=tk }:=WY I S.o k hex hexo hF hns hk λx h=>(by cases h)
end
theorem JB{prog:Program}{w:World}{A:Around}{R:Result->Shared->Prop}{s:ShX}{elt target iter:Expr}{scope:Scope}{pos:Pos}{it acc:Value}{env:Env}(I:Nat->Shared->Prop)(turn:∀n s,I n s->wpAny (model prog w) A (pyNext it) (λr s₁=>match r with
   |none=>R (.ok .next) s₁
   |some v=>wpAny (model prog w) A (letOwnedTupleGo target it v) (λ_ s₂=>wpAny (model prog w) A (assign target env v) (λ_ s₃=>wpAny (model prog w) A (eval elt env) (λx s₄=>
     wpAny (model prog w) A (call (.builtin "list.append") [acc,x]) (λ_ s₅=>∃m,m<n/\I m s₅) (λ_ _=>False) s₄) (λ_ _=>False) s₃) (λ_ _=>False) s₂) (λ_ _=>False) s₁) (λ_ _=>False) s)(n:Nat)(h:I n s):codeAny (model prog w) A (.compLoop (.ListComp elt [⟨target,iter,[],0⟩] scope pos) 0 it acc env) R s:=by
 refine codeAny_loop rfl I (λn s hI=>?_) n h;show wpAny _ _ ((compTurn (.ListComp elt [⟨target,iter,[],0⟩] scope pos) 0 it acc env).onRaise (λx=>do noteFrame x env;theTreesLotGoes x)) _ _ s
 refine wpAny_noted ?_;rw[compTurn_list1];refine wpAny_bind (wpAny_standAt (wpAny_bind (wpAny_mono (turn n s hI) (λr s₁ h₁=>?_) λ_ _ h'=>h'.elim)));cases r with
 |none=>exact wpAny_pure h₁
 |some v=>
  refine wpAny_bind (wpAny_mono h₁ (λ_ s₂ h₂=>?_) λ_ _ h'=>h'.elim);exact wpAny_bind (wpAny_mono h₂ (λ_ s₃ h₃=>wpAny_bind (wpAny_bind (wpAny_mono h₃ (λx s₄ h₄=>wpAny_bind (wpAny_mono h₄
   (λ_ s₅ h₅=>wpAny_pure (wpAny_pure ⟨rfl,h₅⟩)) λ_ _ h'=>h'.elim)) λ_ _ h'=>h'.elim))) λ_ _ h'=>h'.elim)
def zg7(T:Nat)(F:LNt)(g:TG)(te:TE)(k:Addr->Hp->Prop)(σ:St)(H1:Hp)(D:AdX)(J:It):Prop:=∃W:Nat->Nat->St->Hp->Prop,(∃m,W 0 m (Uv T F σ) (upd H1 D (.lst [])))/\∀i m σ' H',W i m σ' H'->
  (J.stop i H'/\k D H')\/(J.go i H'/\∃N:St->Hp->Prop,(∀σ2 H2,N σ2 H2->∃m',m'<m/\W (i+1) m' σ2 H2)/\
   ∀x H2,J.yld i H' x H2->g x σ' H2 λσ2 H3=>te σ2 H3 λv H4=>∃xs,H4 D=some (.lst xs)/\xs.length<sizeLine/\N σ2 (upd H4 D (.lst (xs++[v]))))
def zee(T:Nat)(F:LNt)(wi:TI)(g:TG)(te:TE)(k:Addr->Hp->Prop):St->Hp->Prop:=λσ H=>wi σ H λJ H1=>∀D,H1 D=none->zg7 T F g te k σ H1 D J
def zkG(T:Nat)(F:LNt)(wi:TI)(g:TG)(te:TE):TE:=λσ H Q=>zee T F wi g te (λD H'=>Q (.ref D) H') σ H
theorem Zo{X:Cx}{M:Model}{A:Around}{E:VSx}{s:ShX}{scope:Scope}{o:Option Str}{globals:AdX}{cl:LSA}{qual:Str}{env:Env}{Q:Env->Shared->Prop}(S:xu X scope o)(hQ:∀h',h'.Ns s.heap.objs.size (λ_=>none)->(∀b o,s.heap.get? b=some o->h'.get? b=some o)->(∀x,o=some x->h'.IsCell (s.heap.objs.size+1) none)->Q (newEnv scope s.heap.objs.size globals (zd0 o s.heap.objs.size++cl) qual none .none (some env) builtinsNs) { s with heap:=h',toks:=s.toks }):wpAny M A (newFunctionEnv scope globals cl [] qual none .none (some env)) Q E s:=by
 simp only [newFunctionEnv,Option.isSome_some,if_true];refine wpAny_bind (wpAny_alloc ?_);refine wpAny_bind (wpAny_layCells _ (λname kind cells=>by cases hkc:kind==NameKind.cell<;>simp[hkc]) _ _ _ _ ?_);rw[show({ s with heap:=s.heap.push { cls:=.type "dict",data:=.dict #[] } }:ShX).heap.objs.size=s.heap.objs.size+1 from Heap.size_push ..,S.cf,S.pc,List.forIn_nil];refine wpAny_bind (wpAny_pure (wpAny_pure (hQ _ ?_ ?_ ?_)))
 ·cases o with
  |none=>exact Heap.Ns.new s.heap (.type "dict")
  |some x=>exact(Heap.Ns.new s.heap (.type "dict")).keeps λb o e=>Heap.get?_push_of_some _ e
 ·cases o with
  |none=>exact λb o e=>Heap.get?_push_of_some _ e
  |some x=>exact λb o e=>Heap.get?_push_of_some _ (Heap.get?_push_of_some _ e)
 ·intro x ho;subst ho;have e:((s.heap.push { cls:=.type "dict",data:=.dict #[] }).push { cls:=.type "cell",data:=.cell none }).get? (s.heap.push { cls:=.type "dict",data:=.dict #[] }).objs.size=some { cls:=.type "cell",data:=.cell none }:=Heap.get?_push_size _ rfl;rw[Heap.size_push] at e;exact⟨_,e,rfl⟩
section
variable{X:Cx}{o:Option Str}{elt tg iter:Expr}{scope:Scope}{pos:Pos}{Ts:LSr}{F:LNt}{wi:TI}{g:TG}{te:TE}
theorem zaD{cl:LSA}{use:Option (Value->Sem Unit)}{Q:VSx}{pins:PNx}{s:ShX}{σ:St}{H:Hp}{k:Addr->Hp->Prop}(hc:X.calm=true)(hi:PI X tg iter wi)(S:xu X scope o)(hF:∀j∈F,∃x,X.N[j]?=some x/\scope.names.lookup x=some .free)(hg:∀cl C ex s H,PG (xy X o (Ts++F.map λj=>X.N.getD j "") scope cl C ex s H) tg g)(he:∀cl C ex s H,PE (xy X o (Ts++F.map λj=>X.N.getD j "") scope cl C ex s H) elt te)(ko:J7 scope X.env cl)(I:Inv X pins σ H s)(h:zee Ts.length F wi g te k σ H)(fin:∀(s':ShX)(H':Hp)(D C:AdX)(m:Str->Option Value),Inv X pins σ H' s'->uK X pins H' C->s'.heap.Ns C m->k D H'->compPost (model X.prog X.w) X.A X.xe use Q (.ref D) C (.ok .next) s'):wpAny (model X.prog X.w) X.A (eval iter X.env) (λx s₁=>wpAny (model X.prog X.w) X.A (pyIter x) (λit s₂=>wpAny (model X.prog X.w) X.A (newList []) (λacc s₃=>
   wpAny (model X.prog X.w) X.A (newFunctionEnv scope X.env.globals cl [] X.env.qual none .none (some X.env)) (λcenv s₄=>
    codeAny (model X.prog X.w) X.A (.compStart (.ListComp elt [⟨tg,iter,[],0⟩] scope pos) 0 it acc { cenv with scope:=relabel scope X.env }) (compPost (model X.prog X.w) X.A X.xe use Q acc cenv.locals) s₄) X.xe s₃) X.xe s₂) X.xe s₁) X.xe s:=by
 refine thn (hi pins s σ H _ I h) λv s1 h1=>thn h1 λitv s2 h2=>?_
 obtain⟨it,fp,tn,J,H2,rfl,I2,T,st2,f2,hW⟩:=h2;refine wpAny_newObj_type (Zo S λh₁ hns₁ hk₁ hc₁=>?_);dsimp only at hns₁ hk₁ hc₁ ⊢;have fresh2:H2 s2.heap.objs.size=none:=I2.hok.fresh (Nat.le_refl _);have⟨W,⟨m0,w0⟩,turn⟩:=hW s2.heap.objs.size fresh2
 generalize hD:s2.heap.objs.size=D at*;have I3:Inv X pins σ (upd H2 D (.lst [])) { s2 with heap:=s2.heap.push { cls:=.type "list",dict:=none,data:=.seq ([]:LVl).toArray } }:=by
  refine I2.laid (t':=s2.toks) (λb u e=>Heap.get?_push_of_some _ e) (Nat.le_of_eq hD) ?_;refine⟨by simp,[],0,.nil,?_⟩;rw[<-hD];exact Heap.get?_push_size _ rfl
 generalize hS3:({ s2 with heap:=s2.heap.push { cls:=.type "list",dict:=none,data:=.seq ([]:LVl).toArray } }:ShX)=s3 at*;have hh3:s3.heap=s2.heap.push { cls:=.type "list",dict:=none,data:=.seq ([]:LVl).toArray }:=by rw[<-hS3]
 have objs:∀b∈fp,∃o,s3.heap.get? b=some o:=λb hb=>by
  have⟨o,e,_⟩:=T.obj _ _ st2 b hb;exact⟨o,by rw[hh3];exact Heap.get?_push_of_some _ e⟩
 have neD:∀b∈fp,b≠D:=λb hb z=>by
  have⟨o,e,_⟩:=T.obj _ _ st2 b hb;have e1:=Heap.lt_size e;rw[hD,z] at e1;exact Nat.lt_irrefl _ e1
 have f3:∀b∈fp,uK X pins (upd H2 D (.lst [])) b:=λb hb=>⟨by rw[zO (neD b hb)];exact(f2 b hb).1,(f2 b hb).2⟩
 have hns:h₁.Ns s3.heap.objs.size (λ_=>none):=by
  rw[<-hS3];exact hns₁
 have keep:∀b o,s3.heap.get? b=some o->h₁.get? b=some o:=by
  rw[<-hS3];exact hk₁
 have hcl₁:∀x,o=some x->h₁.IsCell (s3.heap.objs.size+1) none:=by
  rw[<-hS3];exact hc₁
 have IY:=WY (Ts:=Ts) (F:=F) (tk:=s3.toks) I3 S ko f3 objs hF hns keep hcl₁;have tn1:tn 0 h₁:=T.keep _ _ _ st2 λb hb o e=>keep b o (by rw[hh3];exact Heap.get?_push_of_some _ e)
 have stat:∀{H':Hp},(∀b∈fp,H' b=none)->∀b∈fp,uK (xy X o (Ts++F.map λj=>X.N.getD j "") scope cl s3.heap.objs.size fp s3 (upd H2 D (.lst []))) [] H' b:=λhn b hb=>
  ⟨hn b hb,(IY.ok.exf b hb).1,IY.ok.exfs b hb,.inl hb,(IY.ok.exf b hb).2,λp hp=>absurd (show p∈([]:PNx) from hp) (by simp)⟩
 have back:∀{σ':St} {H':Hp} {s':ShX},Inv (xy X o (Ts++F.map λj=>X.N.getD j "") scope cl s3.heap.objs.size fp s3 (upd H2 D (.lst []))) [] σ' H' s'->k D H'->compPost (model X.prog X.w) X.A X.xe use Q (.ref D) s3.heap.objs.size (.ok .next) s':=λ{σ' H' s'} J' q=>by
  have hI:Inv X pins σ H' s':=by
   have⟨hh,gg,dd,tt,os'⟩:=s';have ho:os'=s3.os:=J'.os;subst ho;exact I3.call (h':=hh) (g':=gg) (d':=dd) (t':=tt) (ch:=fp) J'.base J'.hok J'.bare λb hb=>⟨(f3 b hb).2.2.2.1,(f3 b hb).2.1,(f3 b hb).2.2.2.2.1,(f3 b hb).2.2.2.2.2⟩
  have⟨m,hm,_⟩:=J'.loc;exact fin s' H' D s3.heap.objs.size m hI (I3.zbh (Nat.le_refl _) J'.free) hm q
 have loop:∀s4:Shared,s4={ s3 with heap:=h₁,toks:=s3.toks }->
   codeAny (model X.prog X.w) X.A (.compLoop (.ListComp elt [⟨tg,iter,[],0⟩] scope pos) 0 (.ref it) (.ref D) (compEnvC scope (zd0 o s3.heap.objs.size++cl) s3.heap.objs.size X.env)) (compPost (model X.prog X.w) X.A X.xe use Q (.ref D) s3.heap.objs.size) s4:=by
  rintro s4 rfl;refine JB (λn s'=>∃i σ' H',Inv (xy X o (Ts++F.map λj=>X.N.getD j "") scope cl s3.heap.objs.size fp s3 (upd H2 D (.lst []))) [] σ' H' s'/\tn i s'.heap/\(∀b∈fp,H' b=none)/\W i n σ' H') ?_ m0
   ⟨0,_,_,IY,tn1,λb hb=>(f3 b hb).1,w0⟩
  rintro n s5 ⟨i,σ5,H5,I5,st5,fr5,w5⟩;rcases turn i n σ5 H5 w5 with⟨stop,qn⟩|⟨go,N,hN,step⟩
  ·refine thn (T.done (xy X o (Ts++F.map λj=>X.N.getD j "") scope cl s3.heap.objs.size fp s3 (upd H2 D (.lst []))) rfl rfl rfl hc i [] s5 σ5 H5 _ I5 (stat fr5) st5 stop) λr s6 ⟨hr,I6⟩=>?_
   subst hr;exact back I6 qn
  ·refine thn (T.item (xy X o (Ts++F.map λj=>X.N.getD j "") scope cl s3.heap.objs.size fp s3 (upd H2 D (.lst []))) rfl rfl rfl hc i [] s5 σ5 H5 _ I5 (stat fr5) st5 go) λr s6 ⟨u,hr,h6⟩=>?_
   subst hr;refine thn h6 λ_ s7 ⟨x,H7,I7,r7,y7,st7,fr7⟩=>?_
   have I7':=I7.pinned (stat fr7) (T.obj _ _ st7);refine thn (hg cl _ fp s3 _ _ s7 σ5 H7 x u _ I7' r7 (step x H7 y7)) λ_ s8 ⟨σ8,H8,I8,q8⟩=>?_
   refine thn (he cl _ fp s3 _ _ s8 σ8 H8 _ I8 q8) λev s9 ⟨y,H9,I9,r9,xs,hx,hz,n9⟩=>?_
   refine thn (uj _ s9 σ8 H9 (.ref D) [y] (.ref D) [ev] (λ_ H'=>N σ8 H') I9 rfl (.cons r9 .nil) ⟨D,xs,y,rfl,rfl,hx,hz,n9⟩) λ_ s10 ⟨z,H10,I10,_,n10⟩=>?_
   have⟨m',hm,w10⟩:=hN σ8 H10 n10;refine⟨m',hm,i+1,σ8,H10,I10.ur,T.keep _ _ _ st7 λb hb o e=>(I10.pin (b,o) (List.mem_append_right _ (List.mem_append_right _ (xY hb e)))).1,λb hb=>?_,w10⟩;have⟨o,e,d⟩:=T.obj _ _ st7 b hb;exact(I10.pin (b,o) (List.mem_append_right _ (List.mem_append_right _ (xY hb e)))).2.1
 subst hS3;subst hD;exact codeAny_compStart_list (loop _ rfl) (T.self _ 0 _ _ _ tn1 (loop _ rfl))
theorem zcM(hc:X.calm=true)(hi:PI X tg iter wi)(S:xu X scope o)(hF:∀j∈F,∃x,X.N[j]?=some x/\scope.names.lookup x=some .free)(hg:∀cl C ex s H,PG (xy X o (Ts++F.map λj=>X.N.getD j "") scope cl C ex s H) tg g)(he:∀cl C ex s H,PE (xy X o (Ts++F.map λj=>X.N.getD j "") scope cl C ex s H) elt te)(hs:FSx X iter:=by exact λ_=>rfl):PE X (.ListComp elt [⟨tg,iter,[],0⟩] scope pos) (zkG Ts.length F wi g te):=by
 intro pins s σ H Q I h;obtain⟨cl,hcl,ko⟩:=uM (Wz I S);rw[eval_ListComp];refine wpAny_comprehension_free (use:=none) rfl hs hcl S.kind S.loc (zaD (use:=none) hc hi S hF hg he ko I h λs' H' D C m I' fC hm q=>?_);refine⟨m,hm,λh' hs'=>⟨.ref D,H',?_,rfl,q⟩⟩;exact I'.turned (t':=s'.toks) (λb o hb e=>hs'.extBut b o hb e) fC.1 fC.2.1 fC.2.2.2.1 fC.2.2.2.2.1 fC.2.2.2.2.2
theorem zfm(hc:X.calm=true)(hi:PI X tg iter wi)(S:ya X scope)(hF:∀j∈F,∃x,X.N[j]?=some x/\scope.names.lookup x=some .free)(hg:∀cl C ex s H,PG (zV X (Ts++F.map λj=>X.N.getD j "") scope cl C ex s H) tg g)(he:∀cl C ex s H,PE (zV X (Ts++F.map λj=>X.N.getD j "") scope cl C ex s H) elt te)(hs:FSx X iter:=by exact λ_=>rfl):PE X (.ListComp elt [⟨tg,iter,[],0⟩] scope pos) (zkG Ts.length F wi g te):=zcM hc hi S.o hF hg he hs
def zms(T:Nat)(F:LNt)(wi:TI)(g:TG)(te:TE)(i:Nat):TS:=λD σ H=>zee T F wi g te (λl H'=>D.nx (σ.set i (some (.ref l))) H') σ H
theorem Up{x:Str}{pos' spos:Pos}{i:Nat}(hN:X.N.Nodup)(hi':X.N[i]?=some x)(hx:X.env.scope.names.lookup x=some .local)(hc:X.calm=true)(hi:PI X tg iter wi)(S:ya X scope)(hF:∀j∈F,∃x,X.N[j]?=some x/\scope.names.lookup x=some .free)(hg:∀cl C ex s H,PG (zV X (Ts++F.map λj=>X.N.getD j "") scope cl C ex s H) tg g)(he:∀cl C ex s H,PE (zV X (Ts++F.map λj=>X.N.getD j "") scope cl C ex s H) elt te)(hsw:swapsWith (.ListComp elt [⟨tg,iter,[],0⟩] scope pos) (some (.Name x pos')) spos.line X.env=pure true:=by rfl)(hs:FSx X iter:=by exact λ_=>rfl):PS X (.Assign [.Name x pos'] (.ListComp elt [⟨tg,iter,[],0⟩] scope pos) spos) (zms Ts.length F wi g te i):=by
 intro pins s σ H D I h;obtain⟨cl,hcl,ko⟩:=uM (Uw I S);rw[exec_Assign_Name_used _ _ _ _ hsw];refine wpAny_bind (wpAny_standAt (wpAny_bind ?_));show wpAny _ X.A (do let _ <-comprehension (.ListComp elt [⟨tg,iter,[],0⟩] scope pos) scope X.env _ (newList []) false (eval iter X.env) (some (assign (.Name x pos') X.env))) _ _ s
 refine wpAny_bind (wpAny_mono (wpAny_comprehension_free (use:=some (assign (.Name x pos') X.env)) (Q:=λ_ s'=>SP X pins D .next s') rfl hs hcl S.kind S.loc
  (zaD (use:=some (assign (.Name x pos') X.env)) hc hi S.o hF hg he ko I h λs' H' l C m I' fC hm q=>?_)) (λ_ s' hq=>wpAny_pure (wpAny_pure hq)) λ_ _ e=>e)
 show wpAny _ X.A (assign (.Name x pos') X.env (.ref l)) _ _ s'
 refine wpAny_assign_Name (Wi I' hN hi' (.inl hx) (show RelV (.ref l) (.ref l) from rfl) (λs2 I2 hsame=>?_) (.inr hx));have⟨a,hsb,ha⟩:=hsame;have neC:C≠a:=by
  rcases ha with rfl|ha
  ·exact fC.2.1
  ·exact λz=>fC.2.2.2.2.1 x a ha z.symm
 have hm2:s2.heap.Ns C m:=hm.sameBut hsb neC;refine⟨m,hm2,λh' hs'=>⟨_,H',?_,q⟩⟩;exact I2.turned (t':=s2.toks) (λb o hb e=>hs'.extBut b o hb e) fC.1 fC.2.1 fC.2.2.2.1 fC.2.2.2.2.1 fC.2.2.2.2.2
end
section
variable{X:Cx}
theorem zg0(hc:X.calm=true):wk X (.builtin "sum") (λxs H Q=>∃(p:AdX)(ns:List Int),xs=[.ref p]/\SqL X.K H p (ns.map V.int)/\Q (.int ns.sum) H):=by
 intro pins s σ H xs us Q I r h;obtain⟨p,ns,rfl,hS,q⟩:=h;obtain⟨u,rfl,ru⟩:=vals1 r;cases ru;have⟨its,rv,pl,hz⟩:=I.list hS;have hi:IntsAre its ns:=intsAre_of rv;have es:(numsOf its.toArray.toList).sum=ns.sum:=by rw[show its.toArray.toList=its from rfl,hi.numsOf]
 have⟨zs,e⟩:=hi.allInts.items;rw[e,nums_intItems] at es;have hL:=pl.isList;rw[e] at hL;refine sum_intListG (I.ok.hd hc) hL λh' tk t' hk=>?_
 rw[preSum_eq,List.take_of_length_le (by simp)];exact⟨.int ns.sum,H,I.kept hk,⟨t',by rw[es]⟩,q⟩
end
def yX(t:Bool)(h:Heap)(a:AdX)(vs:Array Value):Prop:=match t with |true=>h.IsTuple a vs|false=>h.IsList a vs
def yS(t:Bool)(h:Heap)(j a:AdX)(i:Nat):Prop:=match t with |true=>h.IsTupleIter j a i|false=>h.IsListIter j a i
def w9(t:Bool):String:=match t with |true=>"tuple_iterator" |false=>"list_iterator"
theorem yX.stay{t:Bool}{h h':Heap}{a:AdX}{vs:Array Value}(x:yX t h a vs)(e:∀o,h.get? a=some o->h'.get? a=some o):yX t h' a vs:=by
 cases t
 ·obtain⟨o,ho,r⟩:=(show h.IsList a vs from x);exact(show h'.IsList a vs from⟨o,e _ ho,r⟩)
 ·obtain⟨o,ho,r⟩:=(show h.IsTuple a vs from x);exact(show h'.IsTuple a vs from⟨o,e _ ho,r⟩)
theorem yS.stay{t:Bool}{h h':Heap}{j a:AdX}{i:Nat}(x:yS t h j a i)(e:∀o,h.get? j=some o->h'.get? j=some o):yS t h' j a i:=by
 cases t
 ·obtain⟨o,ho,r⟩:=(show h.IsListIter j a i from x);exact(show h'.IsListIter j a i from⟨o,e _ ho,r⟩)
 ·obtain⟨o,ho,r⟩:=(show h.IsTupleIter j a i from x);exact(show h'.IsTupleIter j a i from⟨o,e _ ho,r⟩)
theorem yS.obj{t:Bool}{h:Heap}{j a:AdX}{i:Nat}(x:yS t h j a i):∃o,h.get? j=some o/\∀v,o.data≠ .cell v:=by
 cases t
 ·obtain⟨o,ho,hc,hd⟩:=(show h.IsListIter j a i from x);exact⟨o,ho,λv z=>by rw[hd] at z;cases z⟩
 ·obtain⟨o,ho,hc,hd⟩:=(show h.IsTupleIter j a i from x);exact⟨o,ho,λv z=>by rw[hd] at z;cases z⟩
theorem yX.lt{t:Bool}{h:Heap}{a:AdX}{vs:Array Value}(x:yX t h a vs):a<h.objs.size:=by
 cases t
 ·obtain⟨o,ho,_⟩:=(show h.IsList a vs from x);exact Heap.lt_size ho
 ·obtain⟨o,ho,_⟩:=(show h.IsTuple a vs from x);exact Heap.lt_size ho
section
variable{prog:Program}{w:World}{A:Around}{E:VSx}{s:ShX}
theorem JL{t:Bool}{j a:AdX}{i:Nat}{vs:Array Value}{v:Value}{Q:VSx}(hd:yS t s.heap j a i)(hs:yX t s.heap a vs)(hv:vs[i]?=some v)(hQ:∀h',yS t h' j a (i+1)->Heap.SameBut j s.heap h'->Q v { s with heap:=h' }):wpAny (model prog w) A (Builtin.SmallTypes.nextOf (.ref j)) Q E s:=by
 cases t
 ·exact wpAny_nextOf_list_item (show s.heap.IsListIter j a i from hd) (show s.heap.IsList a vs from hs) hv hQ
 ·have hd':s.heap.IsTupleIter j a i:=hd;have⟨ob,hob,hcl,hda⟩:=id hd'
  obtain⟨oa,hoa,_,na,hdt⟩:=(show s.heap.IsTuple a vs from hs);unfold Builtin.SmallTypes.nextOf;refine wpAny_bind (wpAny_callSpecial?_slot (name:=Str.ofString "__next__") hd'.typeIs F.slot_tuple_iterator_next (wpAny_call_entry F.slot_tuple_iterator_next hd'.typeIs F.entry_tuple_iterator_next ?_ (F.args_tuple_iterator_next_1 _)));show wpAny _ _ (field (.ref j) 0 >>= _) _ _ s
  refine wpAny_bind (wpAny_field hob hda (x:=.ref a) rfl ?_);show wpAny _ _ (if (Value.ref a==Value.none)=true then _ else _) _ _ s
  rw[if_neg (show ¬((Value.ref a==Value.none)=true) from Bool.false_ne_true)];show wpAny _ _ (field (.ref j) 1 >>= _) _ _ s
  refine wpAny_bind (wpAny_field hob hda (x:=.int i 0) rfl ?_);show wpAny _ _ (seqItems? (.ref a) >>= _) _ _ s
  refine wpAny_bind (wpAny_seqItems hoa hdt ?_);simp only [Int.toNat_natCast,hv];refine wpAny_bind (wpAny_setField hob hda (by simp) (wpAny_pure ⟨v,rfl,wpAny_pure (hQ _ ?_ (Heap.SameBut.update ..))⟩));show Heap.IsTupleIter _ j a (i+1)
  exact⟨_,Heap.get?_update_self _ hob (Obj.isFreed_of_fields (Obj.data_mapFields hda _)),(Obj.cls_mapFields ..).trans hcl,by rw[Obj.data_mapFields hda];simp[rawInt]⟩
theorem JV{t:Bool}{j a:AdX}{i:Nat}{vs:Array Value}{Q:VSx}(hh:A.handled=none)(hd:yS t s.heap j a i)(hs:yX t s.heap a vs)(hv:vs[i]?=none)(hE:∀h' e,Heap.ExtBut j s.heap h'->(∃o,h'.get? e=some o/\o.cls=.type "StopIteration")->E (.ref e) { s with heap:=h' }):wpAny (model prog w) A (Builtin.SmallTypes.nextOf (.ref j)) Q E s:=by
 cases t
 ·exact wpAny_nextOf_list_end hh (show s.heap.IsListIter j a i from hd) (show s.heap.IsList a vs from hs) hv hE
 ·have hd':s.heap.IsTupleIter j a i:=hd;have⟨ob,hob,hcl,hda⟩:=id hd'
  obtain⟨oa,hoa,_,na,hdt⟩:=(show s.heap.IsTuple a vs from hs);unfold Builtin.SmallTypes.nextOf;refine wpAny_bind (wpAny_callSpecial?_slot (name:=Str.ofString "__next__") hd'.typeIs F.slot_tuple_iterator_next (wpAny_call_entry F.slot_tuple_iterator_next hd'.typeIs F.entry_tuple_iterator_next ?_ (F.args_tuple_iterator_next_1 _)));show wpAny _ _ (field (.ref j) 0 >>= _) _ _ s
  refine wpAny_bind (wpAny_field hob hda (x:=.ref a) rfl ?_);show wpAny _ _ (if (Value.ref a==Value.none)=true then _ else _) _ _ s
  rw[if_neg (show ¬((Value.ref a==Value.none)=true) from Bool.false_ne_true)];show wpAny _ _ (field (.ref j) 1 >>= _) _ _ s
  refine wpAny_bind (wpAny_field hob hda (x:=.int i 0) rfl ?_);show wpAny _ _ (seqItems? (.ref a) >>= _) _ _ s
  refine wpAny_bind (wpAny_seqItems hoa hdt ?_);simp only [Int.toNat_natCast,hv];refine wpAny_bind (wpAny_rule (wpAny_bind (wpAny_setField hob hda (by simp) ?_)));show wpAny _ _ ((newExc (.type "StopIteration") []) >>= _) _ _ _
  refine wpAny_bind ?_;simp only [newExc,newTuple];refine wpAny_bind (wpAny_newObj_type ?_ (by size_fits));refine wpAny_bind (m:=firstArgMember _ _) (wpAny_of_eq (a:=Value.none) (by first |rfl|(simp only [firstArgMember]<;>rfl)) ?_);refine wpAny_newObj_type ?_ (by size_fits);simp only [raiseNew];refine wpAny_bind (wpAny_handled ?_);first |rw[show A.in1.handled=none from hh]|rw[hh]
  refine wpAny_bind (wpAny_pure (wpAny_throw ?_));exact hE _ _ (((Heap.SameBut.update ..).extBut.push _).push _) ⟨_,Heap.get?_push_size _ rfl,rfl⟩
end
section
variable{prog:Program}{w:World}{A:Around}{E:VSx}{s:ShX}
theorem ziM{t1 t2:Bool}{z ti tu j1 j2 a1 a2:AdX}{k1 k2:Nat}{xs ys:Array Value}{x y b1 b2:Value}{Q:VSx}(D:ZipApart z ti tu j1 j2 a1 a2)(hz:IsZip s.heap z ti tu .none)(hti:IsPair s.heap ti (.ref j1) (.ref j2))(htu:IsPair s.heap tu b1 b2)(d1:yS t1 s.heap j1 a1 k1)(d2:yS t2 s.heap j2 a2 k2)(c1:yX t1 s.heap a1 xs)(c2:yX t2 s.heap a2 ys)(hx:xs[k1]?=some x)(hy:ys[k2]?=some y)(hQ:∀h',IsZip h' z ti tu (rawInt s.heap.objs.size)->IsPair h' tu x y->yS t1 h' j1 a1 (k1+1)->yS t2 h' j2 a2 (k2+1)->IsPair h' s.heap.objs.size x y->h'.objs.size=s.heap.objs.size+1->
   (∀c o,c≠z->c≠tu->c≠j1->c≠j2->s.heap.get? c=some o->h'.get? c=some o)->Q (.ref s.heap.objs.size) { s with heap:=h' }):wpAny (model prog w) A (Builtin.«zip.__next__» ⟨[.ref z],[]⟩) (λfin s'=>∃v,fin=.done (.ret v)/\Q v s') E s:=by
 show wpAny _ _ (field (.ref z) 2 >>= _) _ _ s
 refine wpAny_bind (wpAny_field hz rfl (x:=.bool false) rfl ?_);show wpAny _ _ (field (.ref z) 3 >>= _) _ _ s
 refine wpAny_bind (wpAny_field hz rfl (x:=.ref ti) rfl ?_);refine wpAny_bind (wpAny_seqItems hti rfl ?_);show wpAny _ _ (Builtin.SmallTypes.ownedTupleIsFree (.ref z) >>= _) _ _ s
 refine wpAny_bind ?_;unfold Builtin.SmallTypes.ownedTupleIsFree;refine wpAny_bind (wpAny_field hz rfl (x:=.none) rfl (wpAny_pure ?_));simp only [if_true];refine wpAny_bind (wpAny_rule ?_);refine wpAny_bind (wpAny_field hz rfl (x:=.ref tu) rfl ?_);refine wpAny_bind (wpAny_setField_rec hz (by simp) λg1 z1 e1=>?_);replace z1:IsZip g1 z ti tu .ellipsis:=z1;refine wpAny_bind ?_;simp only [List.zipIdx_cons,List.zipIdx_nil,List.forIn_cons,List.forIn_nil];refine wpAny_bind (wpAny_bind (wpAny_onRaise ?_));show wpAny _ _ (Builtin.SmallTypes.nextOf (.ref j1) >>= _) _ _ _
 refine wpAny_bind (JL (d1.stay λo e=>e1.extBut _ _ D.i1z e) (c1.stay λo e=>e1.extBut _ _ D.l1z e) hx λg2 d1' e2=>wpAny_pure ?_);have tu2:IsPair g2 tu b1 b2:=e2.extBut _ _ D.TOi1 (e1.extBut _ _ D.TOz htu);refine wpAny_bind (wpAny_seqItems tu2 rfl ?_);refine wpAny_bind (wpAny_updateSeq_pair tu2 λg3 tu3 e3=>?_);replace tu3:IsPair g3 tu x b2:=tu3;refine wpAny_bind (wpAny_letGo (wpAny_pure ?_));refine wpAny_bind (wpAny_bind (wpAny_onRaise ?_));show wpAny _ _ (Builtin.SmallTypes.nextOf (.ref j2) >>= _) _ _ _
 refine wpAny_bind (JL (d2.stay λo e=>e3.extBut _ _ D.TOi2.symm (e2.extBut _ _ D.i12.symm (e1.extBut _ _ D.i2z e))) (c2.stay λo e=>e3.extBut _ _ D.l2TO (e2.extBut _ _ D.l2i1 (e1.extBut _ _ D.l2z e))) hy λg4 d2' e4=>wpAny_pure ?_);have tu4:IsPair g4 tu x b2:=e4.extBut _ _ D.TOi2 tu3;refine wpAny_bind (wpAny_seqItems tu4 rfl ?_);refine wpAny_bind (wpAny_updateSeq_pair tu4 λg5 tu5 e5=>?_);replace tu5:IsPair g5 tu x y:=tu5;refine wpAny_bind (wpAny_letGo (wpAny_pure (wpAny_pure ?_)));refine wpAny_bind (wpAny_seqItems tu5 rfl ?_);refine wpAny_bind (wpAny_newTuple ?_);have size5:g5.objs.size=s.heap.objs.size:=by rw[e5.1,e4.1,e3.1,e2.1,e1.1]
 have z5:IsZip g5 z ti tu .ellipsis:=e5.extBut _ _ D.TOz.symm (e4.extBut _ _ D.i2z.symm (e3.extBut _ _ D.TOz.symm (e2.extBut _ _ D.i1z.symm z1)));have keep5:∀c o,c≠z->c≠tu->c≠j1->c≠j2->s.heap.get? c=some o->g5.get? c=some o:=λc o n1 n2 n3 n4 e=>
  e5.extBut _ _ n2 (e4.extBut _ _ n4 (e3.extBut _ _ n2 (e2.extBut _ _ n3 (e1.extBut _ _ n1 e))))
 have d15:yS t1 g5 j1 a1 (k1+1):=((d1'.stay λo e=>e3.extBut _ _ D.TOi1.symm e).stay λo e=>e4.extBut _ _ D.i12 e).stay λo e=>e5.extBut _ _ D.TOi1.symm e
 have d25:yS t2 g5 j2 a2 (k2+1):=d2'.stay λo e=>e5.extBut _ _ D.TOi2.symm e
 have zlt:z<g5.objs.size:=Heap.lt_size z5;show wpAny _ _ (Builtin.SmallTypes.ownedTupleHandOut (.ref z) (.ref g5.objs.size) >>= _) _ _ _
 refine wpAny_bind ?_;unfold Builtin.SmallTypes.ownedTupleHandOut;have z6:IsZip (g5.push { cls:=.type "tuple",data:=.seq #[x,y] }) z ti tu .ellipsis:=Heap.get?_push_of_some _ z5;refine wpAny_bind (wpAny_setField_rec z6 (by simp) λg7 z7 e7=>?_);replace z7:IsZip g7 z ti tu (rawInt g5.objs.size):=z7;refine wpAny_setField_rec z7 (by simp) λg8 z8 e8=>?_
 replace z8:IsZip g8 z ti tu (rawInt g5.objs.size):=z8
 have up:∀c o,c≠z->g5.get? c=some o->g8.get? c=some o:=λc o n e=>e8.extBut _ _ n (e7.extBut _ _ n (Heap.get?_push_of_some _ e))
 have p8:IsPair g8 g5.objs.size x y:=e8.extBut _ _ (Nat.ne_of_gt zlt) (e7.extBut _ _ (Nat.ne_of_gt zlt) (Heap.get?_push_size _ rfl));have size8:g8.objs.size=g5.objs.size+1:=by rw[e8.1,e7.1,Heap.size_push]
 rw[size5] at z8 p8 size8;refine wpAny_pure ⟨_,rfl,?_⟩;show Q (.ref g5.objs.size) _
 rw[size5];exact hQ g8 z8 (up _ _ D.TOz tu5) (d15.stay λo e=>up _ o D.i1z e) (d25.stay λo e=>up _ o D.i2z e) p8 size8 λc o n1 n2 n3 n4 e=>up c o n1 (keep5 c o n1 n2 n3 n4 e)
theorem zjd{t1 t2:Bool}{z ti tu j1 j2 a1 a2:AdX}{k1 k2:Nat}{xs ys:Array Value}{b1 b2:Value}{Q:Fin->Shared->Prop}(hh:A.handled=none)(D:ZipApart z ti tu j1 j2 a1 a2)(hz:IsZip s.heap z ti tu .none)(hti:IsPair s.heap ti (.ref j1) (.ref j2))(htu:IsPair s.heap tu b1 b2)(d1:yS t1 s.heap j1 a1 k1)(d2:yS t2 s.heap j2 a2 k2)(c1:yX t1 s.heap a1 xs)(c2:yX t2 s.heap a2 ys)(hend:xs[k1]?=none\/ys[k2]?=none)(hE:∀h' e,(∀c o,c≠z->c≠tu->c≠j1->c≠j2->s.heap.get? c=some o->h'.get? c=some o)->(∃o,h'.get? e=some o/\o.cls=.type "StopIteration")->E (.ref e) { s with heap:=h' }):wpAny (model prog w) A (Builtin.«zip.__next__» ⟨[.ref z],[]⟩) Q E s:=by
 show wpAny _ _ (field (.ref z) 2 >>= _) _ _ s
 refine wpAny_bind (wpAny_field hz rfl (x:=.bool false) rfl ?_);show wpAny _ _ (field (.ref z) 3 >>= _) _ _ s
 refine wpAny_bind (wpAny_field hz rfl (x:=.ref ti) rfl ?_);refine wpAny_bind (wpAny_seqItems hti rfl ?_);show wpAny _ _ (Builtin.SmallTypes.ownedTupleIsFree (.ref z) >>= _) _ _ s
 refine wpAny_bind ?_;unfold Builtin.SmallTypes.ownedTupleIsFree;refine wpAny_bind (wpAny_field hz rfl (x:=.none) rfl (wpAny_pure ?_));simp only [if_true];refine wpAny_bind (wpAny_rule ?_);refine wpAny_bind (wpAny_field hz rfl (x:=.ref tu) rfl ?_);refine wpAny_bind (wpAny_setField_rec hz (by simp) λg1 z1 e1=>?_);replace z1:IsZip g1 z ti tu .ellipsis:=z1;refine wpAny_bind ?_;simp only [List.zipIdx_cons,List.zipIdx_nil,List.forIn_cons,List.forIn_nil];refine wpAny_bind (wpAny_bind (wpAny_onRaise ?_));show wpAny _ _ (Builtin.SmallTypes.nextOf (.ref j1) >>= _) _ _ _
 cases hx:xs[k1]? with
 |none=>
  refine wpAny_bind (JV hh (d1.stay λo e=>e1.extBut _ _ D.i1z e) (c1.stay λo e=>e1.extBut _ _ D.l1z e) hx λg2 e e2 he=>?_);have⟨oe,hoe,hce⟩:=he;have z2:IsZip g2 z ti tu .ellipsis:=e2 _ _ D.i1z.symm z1;have nez:e≠z:=λq=>by subst q;rw[z2] at hoe;cases hoe;simp at hce
  refine wpAny_setField_rec z2 (by simp) λg3 _ e3=>hE g3 e (λc o n1 _ n3 _ q=>e3.extBut _ _ n1 (e2 _ _ n3 (e1.extBut _ _ n1 q))) ⟨oe,e3.extBut _ _ nez hoe,hce⟩
 |some x=>
  have hy:ys[k2]?=none:=hend.resolve_left (by rw[hx];simp);refine wpAny_bind (JL (d1.stay λo e=>e1.extBut _ _ D.i1z e) (c1.stay λo e=>e1.extBut _ _ D.l1z e) hx λg2 d1' e2=>wpAny_pure ?_);have tu2:IsPair g2 tu b1 b2:=e2.extBut _ _ D.TOi1 (e1.extBut _ _ D.TOz htu)
  refine wpAny_bind (wpAny_seqItems tu2 rfl ?_);refine wpAny_bind (wpAny_updateSeq_pair tu2 λg3 tu3 e3=>?_);refine wpAny_bind (wpAny_letGo (wpAny_pure ?_));refine wpAny_bind (wpAny_bind (wpAny_onRaise ?_));show wpAny _ _ (Builtin.SmallTypes.nextOf (.ref j2) >>= _) _ _ _
  refine wpAny_bind (JV hh (d2.stay λo e=>e3.extBut _ _ D.TOi2.symm (e2.extBut _ _ D.i12.symm (e1.extBut _ _ D.i2z e))) (c2.stay λo e=>e3.extBut _ _ D.l2TO (e2.extBut _ _ D.l2i1 (e1.extBut _ _ D.l2z e))) hy λg4 e e4 he=>?_);have⟨oe,hoe,hce⟩:=he;have z4:IsZip g4 z ti tu .ellipsis:=e4 _ _ D.i2z.symm (e3.extBut _ _ D.TOz.symm (e2.extBut _ _ D.i1z.symm z1));have nez:e≠z:=λq=>by subst q;rw[z4] at hoe;cases hoe;simp at hce
  refine wpAny_setField_rec z4 (by simp) λg5 _ e5=>hE g5 e (λc o n1 n2 n3 n4 q=>e5.extBut _ _ n1 (e4 _ _ n4 (e3.extBut _ _ n2 (e2.extBut _ _ n3 (e1.extBut _ _ n1 q))))) ⟨oe,e5.extBut _ _ nez hoe,hce⟩
structure zff(t1 t2:Bool)(z ti tu j1 j2 a1 a2:AdX)(i:Nat)(h:Heap):Prop where
 zp:IsZip h z ti tu .none
 ip:IsPair h ti (.ref j1) (.ref j2)
 op:∃b1 b2,IsPair h tu b1 b2
 d1:yS t1 h j1 a1 i
 d2:yS t2 h j2 a2 i
theorem zjr{t1 t2:Bool}{z ti tu j1 j2 a1 a2:AdX}{i:Nat}{xs ys:Array Value}{x y:Value}{Q:Option Value->Shared->Prop}(D:ZipApart z ti tu j1 j2 a1 a2)(S:zff t1 t2 z ti tu j1 j2 a1 a2 i s.heap)(c1:yX t1 s.heap a1 xs)(c2:yX t2 s.heap a2 ys)(hx:xs[i]?=some x)(hy:ys[i]?=some y)(hQ:∀h',IsZip h' z ti tu (rawInt s.heap.objs.size)->IsPair h' tu x y->yS t1 h' j1 a1 (i+1)->yS t2 h' j2 a2 (i+1)->IsPair h' s.heap.objs.size x y->h'.objs.size=s.heap.objs.size+1->
   (∀c o,c≠z->c≠tu->c≠j1->c≠j2->s.heap.get? c=some o->h'.get? c=some o)->Q (some (.ref s.heap.objs.size)) { s with heap:=h' }):wpAny (model prog w) A (pyNext (.ref z)) Q E s:=by
 have⟨b1,b2,hb⟩:=S.op;have hT:s.TypeIs (.ref z) "zip":=⟨_,S.zp,rfl⟩;unfold pyNext;exact wpAny_bind (wpAny_attempt (wpAny_callSpecial?_slot (name:=Str.ofString "__next__") hT F.slot_zip_next (wpAny_call_entry F.slot_zip_next hT F.entry_zip_next
  (ziM D S.zp S.ip hb S.d1 S.d2 c1 c2 hx hy λh' q1 q2 q3 q4 q5 q6 q7=>wpAny_pure (hQ h' q1 q2 q3 q4 q5 q6 q7)) (F.args_zip_next_1 _))))
theorem ziZ{t1 t2:Bool}{z ti tu j1 j2 a1 a2:AdX}{i:Nat}{xs ys:Array Value}{Q:Option Value->Shared->Prop}(hh:A.handled=none)(D:ZipApart z ti tu j1 j2 a1 a2)(S:zff t1 t2 z ti tu j1 j2 a1 a2 i s.heap)(c1:yX t1 s.heap a1 xs)(c2:yX t2 s.heap a2 ys)(hend:xs[i]?=none\/ys[i]?=none)(hQ:∀h',(∀c o,c≠z->c≠tu->c≠j1->c≠j2->s.heap.get? c=some o->h'.get? c=some o)->Q none { s with heap:=h' }):wpAny (model prog w) A (pyNext (.ref z)) Q E s:=by
 have⟨b1,b2,hb⟩:=S.op;have hT:s.TypeIs (.ref z) "zip":=⟨_,S.zp,rfl⟩;unfold pyNext;refine wpAny_bind (wpAny_attempt (wpAny_callSpecial?_slot (name:=Str.ofString "__next__") hT F.slot_zip_next (wpAny_call_entry F.slot_zip_next hT F.entry_zip_next
  (zjd hh D S.zp S.ip hb S.d1 S.d2 c1 c2 hend λh' e hk he=>?_) (F.args_zip_next_1 _))))
 have⟨o,ho,hc⟩:=he;exact wpAny_bind (wpAny_isInstance (T:="StopIteration") (b:=true) ⟨o,ho,hc⟩ isSubtype_stop (wpAny_pure (hQ _ hk)))
end
theorem Jt{prog:Program}{w:World}{A:Around}{E:VSx}{s:ShX}{t:Bool}{a:AdX}{vs:Array Value}{Q:VSx}(c:yX t s.heap a vs)(hQ:Q (.ref s.heap.objs.size) { s with heap:=s.heap.push { cls:=.type (w9 t),data:=.fields #[.ref a,.int 0 0] } }):wpAny (model prog w) A (pyIter (.ref a)) Q E s:=by
 cases t
 ·exact wpAny_pyIter_list (show s.heap.IsList a vs from c) hQ
 ·exact wpAny_pyIter_tuple (show s.heap.IsTuple a vs from c) hQ
theorem yX.push{t:Bool}{h:Heap}{a:AdX}{vs:Array Value}(x:yX t h a vs)(o:Obj):yX t (h.push o) a vs:=x.stay λ_ e=>Heap.get?_push_of_some _ e
abbrev zp1(t1:Bool)(h:Heap)(a1:AdX):Heap:=h.push { cls:=.type (w9 t1),data:=.fields #[.ref a1,.int 0 0] }
abbrev zp2(t1 t2:Bool)(h:Heap)(a1 a2:AdX):Heap:=(zp1 t1 h a1).push { cls:=.type (w9 t2),data:=.fields #[.ref a2,.int 0 0] }
abbrev zp3(t1 t2:Bool)(h:Heap)(a1 a2:AdX):Heap:=(zp2 t1 t2 h a1 a2).push { cls:=.type "tuple",data:=.seq #[.ref h.objs.size,.ref (zp1 t1 h a1).objs.size] }
abbrev zp4(t1 t2:Bool)(h:Heap)(a1 a2:AdX):Heap:=(zp3 t1 t2 h a1 a2).push { cls:=.type "tuple",data:=.seq #[.none,.none] }
abbrev zp5(t1 t2:Bool)(h:Heap)(a1 a2:AdX):Heap:=(zp4 t1 t2 h a1 a2).push { cls:=.type "zip",data:=.fields #[.none,.bool false,.bool false,.ref (zp2 t1 t2 h a1 a2).objs.size,.ref (zp3 t1 t2 h a1 a2).objs.size] }
theorem zkP(t1 t2:Bool)(a1 a2:AdX)(xs ys:Array Value):Meets (Builtin.«zip.__new__» ⟨[.type "zip",.ref a1,.ref a2],[]⟩) (λ_ R s=>yX t1 s.heap a1 xs/\yX t2 s.heap a2 ys/\
   R (.ok (.ret (.ref (zp4 t1 t2 s.heap a1 a2).objs.size))) { s with heap:=zp5 t1 t2 s.heap a1 a2 }):=.of_wp λprog w A R s h=>by
  have⟨hp,g,d,tk,os⟩:=s;obtain⟨c1,c2,h⟩:=h;have hsub:=sub_zip;have q1:yX t1 (Shared.heap ⟨hp,g,d,tk,os⟩) a1 xs:=c1
  have q2:yX t2 (Shared.heap ⟨hp.push { cls:=.type (w9 t1),data:=.fields #[.ref a1,.int 0 0] },g,d,tk,os⟩) a2 ys:=yX.push c2 _;wp_walk using Jt q1,Jt q2;exact⟨_,rfl,h⟩
theorem YV{t:Bool}{h:Heap}{j a:AdX}(e:h.get? j=some { cls:=.type (w9 t),data:=.fields #[.ref a,.int 0 0] }):yS t h j a 0:=by
 cases t
 ·exact(show h.IsListIter j a 0 from⟨_,e,rfl,rfl⟩)
 ·exact(show h.IsTupleIter j a 0 from⟨_,e,rfl,rfl⟩)
theorem zjh{prog:Program}{w:World}{A:Around}{E:VSx}{s:ShX}{t1 t2:Bool}{a1 a2:AdX}{xs ys:Array Value}{Q:VSx}(c1:yX t1 s.heap a1 xs)(c2:yX t2 s.heap a2 ys)(h:∀h',zff t1 t2 (s.heap.objs.size+4) (s.heap.objs.size+2) (s.heap.objs.size+3) s.heap.objs.size (s.heap.objs.size+1) a1 a2 0 h'->h'.objs.size=s.heap.objs.size+5->
   (∀c o,s.heap.get? c=some o->h'.get? c=some o)->Q (.ref (s.heap.objs.size+4)) { s with heap:=h' }):wpAny (model prog w) A (call (.type "zip") [.ref a1,.ref a2]) Q E s:=by
 refine callType_new F.called_zip (by decide) (F.typeCall_zip_2 _ _) (F.newCall_zip_2 _ _) (λobj=>F.args_object_init_3 obj _ _) F.entry_zip_new (zkP t1 t2 a1 a2 xs ys) ⟨c1,c2,?_⟩;have z1:(zp1 t1 s.heap a1).objs.size=s.heap.objs.size+1:=Heap.size_push ..;have z2:(zp2 t1 t2 s.heap a1 a2).objs.size=s.heap.objs.size+2:=by rw[Heap.size_push,z1]
 have z3:(zp3 t1 t2 s.heap a1 a2).objs.size=s.heap.objs.size+3:=by rw[Heap.size_push,z2]
 have z4:(zp4 t1 t2 s.heap a1 a2).objs.size=s.heap.objs.size+4:=by rw[Heap.size_push,z3]
 have z5:(zp5 t1 t2 s.heap a1 a2).objs.size=s.heap.objs.size+5:=by rw[Heap.size_push,z4]
 have g5:(zp5 t1 t2 s.heap a1 a2).get? (zp4 t1 t2 s.heap a1 a2).objs.size=some _:=Heap.get?_push_size _ rfl;have g4:(zp5 t1 t2 s.heap a1 a2).get? (zp3 t1 t2 s.heap a1 a2).objs.size=some _:=Heap.get?_push_of_some _ (Heap.get?_push_size _ rfl)
 have g3:(zp5 t1 t2 s.heap a1 a2).get? (zp2 t1 t2 s.heap a1 a2).objs.size=some _:=Heap.get?_push_of_some _ (Heap.get?_push_of_some _ (Heap.get?_push_size _ rfl));have g2:(zp5 t1 t2 s.heap a1 a2).get? (zp1 t1 s.heap a1).objs.size=some _:=Heap.get?_push_of_some _ (Heap.get?_push_of_some _ (Heap.get?_push_of_some _ (Heap.get?_push_size _ rfl)))
 have g1:(zp5 t1 t2 s.heap a1 a2).get? s.heap.objs.size=some _:=Heap.get?_push_of_some _ (Heap.get?_push_of_some _ (Heap.get?_push_of_some _ (Heap.get?_push_of_some _ (Heap.get?_push_size _ rfl))));show _/\_
 rw[z2,z3,z4] at g5;rw[z1,z2] at g3;rw[z3] at g4;rw[z1] at g2;rw[z4];exact⟨⟨_,g5,rfl⟩,h _ ⟨g5,g3,⟨_,_,g4⟩,YV g1,YV g2⟩ z5 λc o q=>
  Heap.get?_push_of_some _ (Heap.get?_push_of_some _ (Heap.get?_push_of_some _ (Heap.get?_push_of_some _ (Heap.get?_push_of_some _ q))))⟩
def SqB(K:FRx)(t:Bool)(H:Hp)(a:AdX)(xs:List V):Prop:=match t with |true=>SqT K H a xs|false=>SqL K H a xs
theorem Same.sqB{K:FRx}{t:Bool}{H H':Hp}{a:AdX}{xs:List V}(e:Same H H')(h:SqB K t H a xs):SqB K t H' a xs:=by
 cases t
 ·exact(show SqL K H' a xs from e.seq h)
 ·exact(show SqT K H' a xs from e.tup h)
def Itz(K:FRx)(t1 t2:Bool)(a b:AdX):It:=⟨λi H=>∃xs ys x y,SqB K t1 H a xs/\SqB K t2 H b ys/\xs[i]?=some x/\ys[i]?=some y,
  λi H v H'=>∃p,v=.ref p/\H p=none/\∀xs ys x y,SqB K t1 H a xs->SqB K t2 H b ys->xs[i]?=some x->ys[i]?=some y->H'=upd H p (.tup [x,y]),
  λi H=>∃xs ys,SqB K t1 H a xs/\SqB K t2 H b ys/\(xs.length<=i\/ys.length<=i)⟩
section
variable{X:Cx}{pins:PNx}{σ:St}{H:Hp}{s:ShX}
theorem Inv.sqB(I:Inv X pins σ H s){t:Bool}{a:AdX}{xs:List V}(h:SqB X.K t H a xs):∃its:List Value,Vals xs its/\yX t s.heap a its.toArray:=by
 cases t
 ·obtain⟨its,r,pl,_⟩:=I.list (show SqL X.K H a xs from h);exact⟨its,r,(show s.heap.IsList a its.toArray from pl.isList)⟩
 ·obtain⟨its,r,pl,_⟩:=I.tuple (show SqT X.K H a xs from h);exact⟨its,r,(show s.heap.IsTuple a its.toArray from pl)⟩
theorem Inv.zbF(I:Inv X pins σ H s){t:Bool}{a:AdX}{xs ys:List V}(h:SqB X.K t H a xs)(h':SqB X.K t H a ys):xs=ys:=by
 cases t
 ·exact I.zdA (show SqL X.K H a xs from h) h'
 ·exact I.zaU (show SqT X.K H a xs from h) h'
theorem Inv.moved{h':Heap}{t':Nat}{ch:LAd}(I:Inv X pins σ H s)(hf:∀b∈ch,uK X pins H b)(k:∀b o,b∉ch->s.heap.get? b=some o->h'.get? b=some o):Inv X pins σ H { s with heap:=h',toks:=t' }:=by
 have tr:∀b u,H b=some u->b∉ch:=λb u e z=>by rw[(hf b z).1] at e;cases e
 refine I.step (g':=s.gens) (d':=s.drawn) (ch:=ch) (λb hb=>⟨(hf b hb).2.2.2.1,(hf b hb).2.1,(hf b hb).2.2.2.2.1,(hf b hb).2.2.2.2.2⟩) (λb o _ _ hc e _=>k b o hc e) (λb o _ _ hc e _=>⟨o.slots,k b o hc e⟩) (λ_ _ _ _ n=>n)
  (λb o hc e=>⟨o,k b o hc e⟩) (λ_ _ e=>e) (λ_ _ _ e=>e) (λb ps e=>⟨#[],by rw[e];simp⟩) (λm hm=>?_) (λb u e=>?_) I.bare
 ·have⟨o,es,ep,ho,r⟩:=hm;exact⟨o,es,ep,k _ o (λz=>(hf _ z).2.1 rfl) ho,r⟩
 ·refine(I.hok b u e).stay (λc v hc q=>k c v ?_ q) (λ_ q=>q) λ_ _ q=>q
  rcases hc with z|z
  ·rw[z];exact tr b u e
  ·exact tr c _ z
theorem Inv.adopt{p:AdX}{o:HO}(I:Inv X pins σ H s)(hf:uK X pins H p)(new:vo X.prog X.w (upd H p o) s.heap p o):Inv X pins σ (upd H p o) s:=by
 have tr:∀b u,H b=some u->b≠p:=λb u e z=>by rw[z,hf.1] at e;cases e
 refine I.step (h':=s.heap) (g':=s.gens) (d':=s.drawn) (t':=s.toks) (ch:=[p]) (λb hb=>?_) (λb o _ _ _ e _=>e) (λb o _ _ _ e _=>⟨o.slots,e⟩) (λb o hc _ n=>?_)
  (λb o _ e=>⟨o,e⟩) (λb xs e=>by rw[zO (tr b _ e)];exact e) (λb u xs e=>by rw[zO (tr b _ e)];exact e) (λb ps e=>⟨#[],by rw[zO (tr b _ e),e];simp⟩) (λm hm=>hm) (λb u e=>?_) I.bare
 ·have e:b=p:=by simpa using hb
  subst e;exact⟨hf.2.2.2.1,hf.2.1,hf.2.2.2.2.1,hf.2.2.2.2.2⟩
 ·rw[zO (λz=>hc (by simp[z]))];exact n
 ·by_cases hb:b=p
  ·subst hb;rw[zE] at e;cases e;exact new
  ·rw[zO hb] at e;exact(I.hok b u e).stay (λc v _ q=>q) (λc q=>by rw[zO (tr c _ q)];exact q) λc xs q=>by rw[zO (tr c _ q)];exact q
end
theorem wV{xs:List V}{its:LVl}(r:Vals xs its){i:Nat}{x:V}(h:xs[i]?=some x):∃u,its.toArray[i]?=some u/\RelV x u:=by
 have⟨u,h1,h2⟩:=r.get h;exact⟨u,by simpa using h1,h2⟩
theorem zhP{P:Program}{w:World}{K:FRx}{es:List Expr}{kk:Nat}{tp:Pos}{t1 t2:Bool}{z ti tu j1 j2 a b:AdX}(D:ZipApart z ti tu j1 j2 a b):Turn P w K (.Tuple es kk tp) (Itz K t1 t2 a b) [z,ti,tu,j1,j2] z (λi h=>zff t1 t2 z ti tu j1 j2 a b i h) where
 mem:=by simp
 obj:=λi h S c hc=>by
  simp only [List.mem_cons,List.not_mem_nil,or_false] at hc;rcases hc with rfl|rfl|rfl|rfl|rfl
  ·exact⟨_,S.zp,λv q=>by cases q⟩
  ·exact⟨_,S.ip,λv q=>by cases q⟩
  ·have⟨b1,b2,e⟩:=S.op;exact⟨_,e,λv q=>by cases q⟩
  ·exact S.d1.obj
  ·exact S.d2.obj
 keep:=λi h h' S k=>by
  have⟨b1,b2,e⟩:=S.op;exact⟨k z (by simp) _ S.zp,k ti (by simp) _ S.ip,⟨b1,b2,k tu (by simp) _ e⟩,S.d1.stay λo q=>k j1 (by simp) o q,S.d2.stay λo q=>k j2 (by simp) o q⟩
 item:=λX hp hw hK hc i pins s σ H E I hf S go=>by
  subst hp hw hK;have⟨xs,ys,x,y,h1,h2,hx,hy⟩:=go;have⟨us,ru,c1⟩:=I.sqB h1;have⟨ws,rw',c2⟩:=I.sqB h2;have⟨u,eu,hu⟩:=wV ru hx;have⟨v,ev,hv⟩:=wV rw' hy;refine zjr D S c1 c2 eu ev λh' q1 q2 q3 q4 q5 q6 q7=>⟨_,rfl,?_⟩
  refine wpAny_letOwnedTupleGo_zip q1 λh'' z2 hs=>?_
  have lt:∀{c:AdX} {o:Obj},s.heap.get? c=some o->s.heap.objs.size≠c:=λe=>Nat.ne_of_gt (Heap.lt_size e)
  have nz:s.heap.objs.size≠z:=lt S.zp;have ntu:s.heap.objs.size≠tu:=by have⟨_,_,e⟩:=S.op;exact lt e
  have nj1:s.heap.objs.size≠j1:=by have⟨o,e,_⟩:=S.d1.obj;exact lt e
  have nj2:s.heap.objs.size≠j2:=by have⟨o,e,_⟩:=S.d2.obj;exact lt e
  have I1:Inv X pins σ H { s with heap:=h'',toks:=s.toks }:=I.moved (ch:=[z,tu,j1,j2]) (λc hc'=>hf c (by
    simp only [List.mem_cons,List.not_mem_nil,or_false] at hc' ⊢;rcases hc' with rfl|rfl|rfl|rfl<;>simp)) λc o hc' e=>by
   simp only [List.mem_cons,List.not_mem_nil,or_false,not_or] at hc';exact hs.extBut _ _ hc'.1 (q7 c o hc'.1 hc'.2.1 hc'.2.2.1 hc'.2.2.2 e)
  have pT:IsPair h'' s.heap.objs.size u v:=hs.extBut _ _ nz q5;have fT:uK X pins H s.heap.objs.size:=I.zbh (Nat.le_refl _) (I.hok.fresh (Nat.le_refl _))
  have I2:Inv X pins σ (upd H s.heap.objs.size (.tup [x,y])) { s with heap:=h'',toks:=s.toks }:=by
   refine I1.adopt fT ⟨by show 2<=sizeLine;decide,[u,v],.cons hu (.cons hv .nil),?_⟩;exact⟨_,pT,rfl,_,rfl⟩
  refine⟨.ref s.heap.objs.size,_,I2,rfl,⟨_,rfl,fT.1,λxs' ys' x' y' g1 g2 ex ey=>?_⟩,?_,λc hc'=>?_⟩
  ·rw[I.zbF g1 h1] at ex;rw[I.zbF g2 h2] at ey;rw[hx] at ex;rw[hy] at ey;cases ex;cases ey;rfl
  ·exact⟨z2,hs.extBut _ _ D.TIz (q7 _ _ D.TIz D.TITO D.TIi1 D.TIi2 S.ip),⟨_,_,hs.extBut _ _ D.TOz q2⟩,q3.stay λo e=>hs.extBut _ _ D.i1z e,q4.stay λo e=>hs.extBut _ _ D.i2z e⟩
  ·have ne:c≠s.heap.objs.size:=by
    simp only [List.mem_cons,List.not_mem_nil,or_false] at hc';rcases hc' with rfl|rfl|rfl|rfl|rfl
    ·exact nz.symm
    ·exact(lt S.ip).symm
    ·exact ntu.symm
    ·exact nj1.symm
    ·exact nj2.symm
   rw[zO ne];exact(hf c hc').1
 done:=λX hp hw hK hc i pins s σ H E I hf S st=>by
  subst hp hw hK;have⟨xs,ys,h1,h2,hend⟩:=st;have⟨us,ru,c1⟩:=I.sqB h1;have⟨ws,rw',c2⟩:=I.sqB h2;have l1:=ru.length;have l2:=rw'.length
  refine ziZ (I.ok.hd hc) D S c1 c2 ?_ λh' q=>⟨rfl,?_⟩
  ·rcases hend with g|g
   ·exact .inl (by simp;omega)
   ·exact .inr (by simp;omega)
  ·refine I.moved (t':=s.toks) (ch:=[z,tu,j1,j2]) (λc hc'=>hf c ?_) λc o hc' e=>?_
   ·simp only [List.mem_cons,List.not_mem_nil,or_false] at hc' ⊢;rcases hc' with rfl|rfl|rfl|rfl<;>simp
   ·simp only [List.mem_cons,List.not_mem_nil,or_false,not_or] at hc';exact q c o hc'.1 hc'.2.1 hc'.2.2.1 hc'.2.2.2 e
 self:=λA i s Q E S q=>wpAny_pyIter_zip S.zp q
theorem zlG:bootBuiltins "zip"=some (.type "zip"):=by decide+kernel
def zne(K:FRx)(t1 t2:Bool)(ta:TA):TI:=λσ H R=>ta σ H λvs H1=>∃a b,vs=[.ref a,.ref b]/\(∃xs,SqB K t1 H1 a xs)/\(∃ys,SqB K t2 H1 b ys)/\R (Itz K t1 t2 a b) H1
theorem zbG{X:Cx}{es:List Expr}{kk:Nat}{tp:Pos}(t1 t2:Bool){a b:Expr}{ta:TA}{p pos:Pos}(hg:Gl X "zip")(hm:X.mg "zip"=none)(ha:PA X [a,b] ta)(hs:starEach [a,b] X.env=[(false,eval a X.env),(false,eval b X.env)]:=by rfl)(hs2:starEach [b] X.env=[(false,eval b X.env)]:=by rfl):PI X (.Tuple es kk tp) (.Call (.Name "zip" p) [a,b] [] pos) (zne X.K t1 t2 ta):=by
 intro pins s σ H R I h;refine Call_ (UD I hg hm zlG (PyProof.Rows.callWith_type1 (thn (ha pos pins s σ H _ I h) λus s1 ⟨vs,H1,I1,r1,q1⟩=>?_) (by rw[hs,hs2]) (by rw[hs2];rfl)));have⟨a',b',e,⟨xs,h1⟩,⟨ys,h2⟩,q⟩:=q1;subst e;obtain⟨u,w',rfl,ru,rw'⟩:=vals2 r1;cases (show u=Value.ref a' from ru);cases (show w'=Value.ref b' from rw');have⟨its,_,c1⟩:=I1.sqB h1;have⟨its2,_,c2⟩:=I1.sqB h2;refine zjh c1 c2 λh' S hz hk=>?_
 have I2:Inv X pins σ H1 { s1 with heap:=h',toks:=s1.toks }:=I1.kept hk;refine wpAny_pyIter_zip S.zp ?_;refine⟨_,_,_,_,H1,rfl,I2,zhP (zipApart_new c1.lt c2.lt),S,λc hc=>?_,q⟩;simp only [List.mem_cons,List.not_mem_nil,or_false] at hc;have ge:s1.heap.objs.size<=c:=by
  rcases hc with rfl|rfl|rfl|rfl|rfl
  ·exact Nat.le_add_right _ 4
  ·exact Nat.le_add_right _ 2
  ·exact Nat.le_add_right _ 3
  ·exact Nat.le_refl _
  ·exact Nat.le_add_right _ 1
 have f1:=I1.zbh ge (I1.hok.fresh ge);exact f1
theorem Same.V8{H H':Hp}{D:AdX}(e:Same H H')(h:H D=none)(o:HO):Same H (upd H' D o):=λb u q=>by
 rw[zO (jr q h)];exact e b u q
def ItB(K:FRx)(t:Bool)(a:AdX):It:=match t with |true=>Itt K a|false=>Itl K a
def znh(K:FRx)(tl:TE):TI:=λσ H R=>tl σ H λx H1=>∃a t,x=.ref a/\(∃xs,SqB K t H1 a xs)/\R (ItB K t a) H1
section
variable{X:Cx}{tg:Expr}
theorem zdU{l:Expr}{tl:TE}(hl:PE X l tl):PI X tg l (znh X.K tl):=by
 intro pins s σ H R I h;refine thn (hl pins s σ H _ I h) λu s1 ⟨x,H1,I1,rx,a,t,ex,⟨xs,hx⟩,q⟩=>?_
 subst ex;cases (show u=Value.ref a from rx);cases t
 ·obtain⟨its,rv,pl,hz⟩:=I1.list (show SqL X.K H1 a xs from hx);refine wpAny_pyIter_list pl.isList ?_;refine⟨s1.heap.objs.size,[s1.heap.objs.size],_,_,H1,rfl,I1.kept (t':=s1.toks) λb o e=>Heap.get?_push_of_some _ e,zgj a _,⟨_,Heap.get?_push_size _ rfl,rfl,rfl⟩,λb hb=>?_,q⟩;have e:b=s1.heap.objs.size:=by simpa using hb
  subst e;exact I1.zbh (Nat.le_refl _) (I1.hok.fresh (Nat.le_refl _))
 ·obtain⟨its,rv,pl,hz⟩:=I1.tuple (show SqT X.K H1 a xs from hx);refine wpAny_pyIter_tuple (show s1.heap.IsTuple a its.toArray from pl) ?_;refine⟨s1.heap.objs.size,[s1.heap.objs.size],_,_,H1,rfl,I1.kept (t':=s1.toks) λb o e=>Heap.get?_push_of_some _ e,zeD a _,⟨_,Heap.get?_push_size _ rfl,rfl,rfl⟩,λb hb=>?_,q⟩;have e:b=s1.heap.objs.size:=by simpa using hb
  subst e;exact I1.zbh (Nat.le_refl _) (I1.hok.fresh (Nat.le_refl _))
end
def zlZ(K:FRx):R2:=λx y H Q=>∃t p xs i v,x=.ref p/\y=.int i/\SqB K t H p xs/\atI xs i=some v/\Q v H
theorem ze0{X:Cx}:IxR X (zlZ X.K):=by
 have b:=zjQ.or zlE (X:=X);have f:∀x y H Q,zlZ X.K x y H Q->zmq X.K x y H Q\/zmi X.K x y H Q:=by
  rintro x y H Q ⟨t,p,xs,i,v,e1,e2,h,e3,q⟩;cases t
  ·exact .inl ⟨p,xs,i,v,e1,e2,h,e3,q⟩
  ·exact .inr ⟨p,xs,i,v,e1,e2,h,e3,q⟩
 exact λvalue slice pins s σ H x y v u Q I r1 r2 h e=>b value slice pins s σ H x y v u Q I r1 r2 (f _ _ _ _ h) e
theorem zjv(l b:AdX)(its its2:Array Value)(n n2:Nat)(d2:Option Addr)(sl2:Array (Option Value))(h0:¬(!its.isEmpty&&Builtin.List.listTooLong (its.size+its2.size))=true)(h1:its.size<=sizeLine)(h2:its.size+its2.size<=sizeLine+1):Meets (Builtin.«list.extend» ⟨[.ref l,.ref b],[]⟩) (λ_ R s=>s.heap.get? l=some { cls:=.type "list",dict:=none,data:=.seq its n,slots:=#[] }/\s.heap.get? b=some { cls:=.type "tuple",dict:=d2,data:=.seq its2 n2,slots:=sl2 }/\
   R (.ok (.ret Value.none)) { s with heap:=s.heap.update l (Obj.mapSeq λx=>x++its2),toks:=s.toks }):=.of_wp λprog w A R s h=>by
  have⟨hp,g,d,tk,os⟩:=s;obtain⟨hl,hb,h⟩:=h;have f1:=AutoSeq1.idx_int;have f2:=AutoSeq1.sub_tuple_tuple
  have f3:=AutoSeq1.sub_list_list;have f4:=AutoSeq1.sub_tuple_list
  have f5:=AutoSeq1.sub_list_tuple;have hz:(its++its2).size<=sizeLine+1:=by rw[Array.size_append];exact h2
  wp_walk using (wpAny_updateSeq hl rfl (hz:=h1) (_hz':=hz)),wpAny_loadPart' hl,wpAny_loadPart' hb
  exact⟨_,rfl,h⟩
def zhO(K:FRx):V->List V->Hp->VK->Prop:=λx vs H Q=>∃l b xs zs,x=.ref l/\vs=[.ref b]/\H l=some (.lst xs)/\SqT K H b zs/\xs.length+zs.length<=sizeLine/\Q .non (upd H l (.lst (xs++zs)))
theorem zep{X:Cx}:MtM X "list.extend" (zhO X.K):=by
 intro pins s σ H x vs v us Q I rx rv h;obtain⟨l,b,xs,zs,rfl,rfl,hH,hB,hz,q⟩:=h;cases rx;obtain⟨u,rfl,ru⟩:=rv.one;cases ru;have⟨z,its,n,r,hl,e⟩:=I.zbY hH;have⟨its2,r2,⟨⟨cls,dd,data,sl⟩,ho,hc,n2,hd⟩,z2⟩:=I.tuple hB;simp only at hc hd;subst hc hd;have l2:=r2.length;have hsz:its.toArray.size+its2.toArray.size<=sizeLine:=by rw[List.size_toArray,List.size_toArray];omega
 have hlong:¬(!its.toArray.isEmpty&&Builtin.List.listTooLong (its.toArray.size+its2.toArray.size))=true:=by
  rw[Zy hsz,Bool.and_false];exact Bool.false_ne_true
 refine call_meets F.slot_list_extend ⟨_,e,rfl⟩ F.entry_list_extend (F.args_list_extend_2 _ _) (zjv l b its.toArray its2.toArray n n2 dd sl hlong (by rw[List.size_toArray];omega) (by omega)) ⟨e,ho,?_⟩;refine⟨.non,_,I.lset (its':=its++its2) hH e (by simp) (r.append r2) ?_,rfl,q⟩;rw[List.length_append];omega
def zit(K:FRx):R2:=λx y H Q=>∃a b xs ys,x=.ref a/\y=.ref b/\SqT K H a xs/\SqT K H b ys/\xs.length+ys.length<=sizeLine/\
 (xs=[]->Q (.ref b) H)/\(xs≠[]->ys=[]->Q (.ref a) H)/\(xs≠[]->ys≠[]->∀p,H p=none->Q (.ref p) (upd H p (.tup (xs++ys))))
theorem xW{X:Cx}:OpR X (binaryOp .Add) (zit X.K):=by
 intro pins s σ H x y v u Q I rx ry h;obtain⟨a,b,xs,ys,rfl,rfl,h1,h2,hz,q1,q2,q3⟩:=h;cases (show v=Value.ref a from rx);cases (show u=Value.ref b from ry);have⟨its,r1,p1,_⟩:=I.tuple h1;have⟨its2,r2,p2,_⟩:=I.tuple h2;have l1:=r1.length;have l2:=r2.length
 by_cases hx:xs=[]
 ·have hi:its=[]:=(Vals.Yh r1).mpr hx;have⟨⟨cls,dd,data,sl⟩,ho,hc,n,hd⟩:=id p1
  have⟨⟨cls2,dd2,data2,sl2⟩,ho2,hc2,n2,hd2⟩:=id p2;simp only at hc hd hc2 hd2;subst hc hd hc2 hd2;exact concat_meets ⟨_,ho,rfl⟩ ⟨_,ho2,rfl⟩ noFill_tuple_add seq_tuple_add PySem.F.slot_tuple_add PySem.F.entry_tuple_add (PySem.F.args_tuple_add_2 _ _) (tuple_addW0 a b its.toArray its2.toArray n n2 dd dd2 sl sl2 (by simp[hi])) ⟨ho,ho2,⟨.ref b,H,I,rfl,q1 hx⟩⟩
 ·have hi:its≠[]:=λz=>hx ((Vals.Yh r1).mp z)
  refine HT.zi8 p1 p2 hi (λz=>?_) (λz=>?_) (by omega)
  ·exact⟨.ref a,H,I,rfl,q2 hx ((Vals.Yh r2).mp z)⟩
  ·have hf:H s.heap.objs.size=none:=I.hok.fresh (Nat.le_refl _);refine⟨.ref s.heap.objs.size,_,I.laid (o:=.tup (xs++ys)) (t':=s.toks) (λc o e=>Heap.get?_push_of_some _ e) (Nat.le_refl _) ⟨by rw[List.length_append];exact hz,its++its2,r1.append r2,⟨_,Heap.get?_push_size _ rfl,rfl,_,rfl⟩⟩,rfl,q3 hx (λw=>z ((Vals.Yh r2).mpr w)) _ hf⟩
theorem Uz{X:Cx}{scope sc:Scope}(hsc:X.env.scope=sc)(kind:scope.kind=.function)(nocell:∀y∈scope.names,y.2≠ .cell)(loc:∀y∈scope.names,y.2=.local->scope.names.lookup y.1=some .local)(free:∀y∈scope.names,y.2=.free->sc.names.lookup y.1=some .cell\/sc.names.lookup y.1=some .free):ya X scope:=⟨kind,nocell,loc,λy hy hf=>by
  show X.env.scope.names.lookup y.1=_\/X.env.scope.names.lookup y.1=_
  rw[hsc];exact free y hy hf⟩
theorem csx{X:Cx}{scope sc:Scope}(hsc:X.env.scope=sc:=by rfl)(kind:scope.kind=.function:=by rfl)(h:(∀y∈scope.names,y.2≠ .cell)/\(∀y∈scope.names,y.2=.local->scope.names.lookup y.1=some .local)/\∀y∈scope.names,y.2=.free->sc.names.lookup y.1=some .cell\/sc.names.lookup y.1=some .free:=by decide+kernel):ya X scope:=Uz hsc kind h.1 h.2.1 h.2.2
theorem xA{X:Cx}{scope:Scope}:∀j∈([]:LNt),∃x,X.N[j]?=some x/\scope.names.lookup x=some .free:=λ_ h=>by cases h
theorem xF{X:Cx}{scope:Scope}{i:Nat}{F:LNt}{x:Str}(h1:X.N[i]?=some x)(h2:scope.names.lookup x=some .free)(r:∀j∈F,∃x,X.N[j]?=some x/\scope.names.lookup x=some .free):∀j∈i::F,∃x,X.N[j]?=some x/\scope.names.lookup x=some .free:=λj hj=>by
 rcases List.mem_cons.mp hj with z|z
 ·subst z;exact⟨x,h1,h2⟩
 ·exact r j z
end L2
namespace L2.Fu
open PySem PySem.Spec PyProof.Rows
inductive Sl where
 |no|pu (d:PdX)|ow (ds:LPd)|dk (ks:List (Int×PyData))
abbrev Ro:=List Sl
abbrev RPx:=Ro->Option PyData
abbrev RLx:=Ro->Option (List PyData)
abbrev LPx:=List PyData->Option PyData
abbrev LLx:=List PyData->Option (List PyData)
def isM:Sl->Bool
 | .ow _=>true
 | .dk _=>true
 |_=>false
def offs(H:Hp)(os:LAd):Hp:=λb=>if b∈os then none else H b
section
variable{H H' G:Hp}{os os':LAd}{a:AdX}{o:HO}
theorem zt(h:a∉os):offs H os a=H a:=by unfold offs;rw[if_neg h]
theorem xw(h:a∈os):offs H os a=none:=by unfold offs;rw[if_pos h]
theorem xa(H:Hp)(os:LAd):Same (offs H os) H:=λb o e=>by
 by_cases h:b∈os
 ·rw[xw h] at e;cases e
 ·rw[zt h] at e;exact e
theorem zl(e:Same H H')(os:LAd):Same (offs H os) (offs H' os):=λb o q=>by
 by_cases h:b∈os
 ·rw[xw h] at q;cases q
 ·rw[zt h] at q ⊢;exact e b o q
theorem y3(h:∀a∈os',a∈os):Same (offs H os) (offs H os'):=λb o q=>by
 by_cases hb:b∈os
 ·rw[xw hb] at q;cases q
 ·rw[zt hb] at q;rw[zt (λz=>hb (h b z))];exact q
theorem yF(h:a∈os):offs (upd H a o) os=offs H os:=by
 funext b
 by_cases hb:b∈os
 ·rw[xw hb,xw hb]
 ·rw[zt hb,zt hb,zO (λz=>hb (by rw[z];exact h))]
theorem je:offs (upd H a o) (a::os)=offs H (a::os):=yF List.mem_cons_self
end
def Al(H:Hp)(os:LAd):Prop:=∀a∈os,∃o,H a=some o
theorem Al.same{H H':Hp}{os:LAd}(h:Al H os)(e:Same H H'):Al H' os:=λa ha=>by
 have⟨o,q⟩:=h a ha;exact⟨o,e a o q⟩
theorem Al.nil(H:Hp):Al H []:=λa h=>by cases h
theorem Al.new{H:Hp}{os:LAd}(h:Al H os){a:AdX}(n:H a=none):a∉os:=λz=>by
 have⟨o,q⟩:=h a z;rw[n] at q;cases q
section
variable{K:FRx}{H H':Hp}{os:LAd}{v:V}{d:PdX}
def jt(K:FRx)(H:Hp)(os:LAd)(v:V)(d:PdX):Prop:=Rep K (offs H os) v d\/∃a xs ds,v=.ref a/\d=.list ds/\H a=some (.lst xs)/\Reps K (offs H os) xs ds
theorem jt.same(e:Same H H')(h:jt K H os v d):jt K H' os v d:=by
 rcases h with h|⟨a,xs,ds,e1,e2,h1,h2⟩
 ·exact .inl (h.same (zl e os))
 ·exact .inr ⟨a,xs,ds,e1,e2,e _ _ h1,h2.same (zl e os)⟩
theorem jt.rep(h:jt K H os v d):Rep K H v d:=by
 rcases h with h|⟨a,xs,ds,rfl,rfl,h1,h2⟩
 ·exact h.same (xa H os)
 ·exact .lst (SqL.of h1) (h2.same (xa H os))
theorem jt.int{i:Int}(h:jt K H os v (.int i)):v=.int i:=by
 cases h.rep;rfl
theorem jt.bl{b:Bool}(h:jt K H os v (.bool b)):v=.bl b:=by
 cases h.rep;rfl
theorem jt.non(h:jt K H os v .none):v=.non:=by
 cases h.rep;rfl
theorem jt.tup{ds:LPd}(h:jt K H os v (.tuple ds)):∃a xs,v=.ref a/\SqT K H a xs/\SqT K (offs H os) a xs/\Reps K (offs H os) xs ds:=by
 rcases h with h|⟨a,xs,es,e1,e2,h1,h2⟩
 ·cases h with
  |tup hS r=>exact⟨_,_,rfl,(xa H os).tup hS,hS,r⟩
 ·cases e2
theorem jt.lst{ds:LPd}(h:jt K H os v (.list ds)):∃a xs,v=.ref a/\SqL K H a xs/\Reps K (offs H os) xs ds:=by
 rcases h with h|⟨a,xs,es,e1,e2,h1,h2⟩
 ·cases h with
  |lst hS r=>exact⟨_,_,rfl,(xa H os).seq hS,r⟩
 ·cases e2;exact⟨a,xs,e1,SqL.of h1,h2⟩
inductive jS(K:FRx)(H:Hp)(os:LAd):List V->List PyData->Prop
 |nil:jS K H os [] []
 |cons {v:V} {d:PdX} {vs:List V} {ds:LPd}:jt K H os v d->jS K H os vs ds->jS K H os (v::vs) (d::ds)
theorem jS.same(e:Same H H'):∀{vs:List V} {ds:LPd},jS K H os vs ds->jS K H' os vs ds
 |_,_,.nil=>.nil
 |_,_,.cons h r=>.cons (h.same e) (jS.same e r)
theorem jS.one{vs:List V}{d:PdX}(h:jS K H os vs [d]):∃v,vs=[v]/\jt K H os v d:=by
 cases h with
 |cons h r=>cases r;exact⟨_,rfl,h⟩
theorem jS.two{vs:List V}{d e:PdX}(h:jS K H os vs [d,e]):∃v u,vs=[v,u]/\jt K H os v d/\jt K H os u e:=by
 cases h with
 |cons h r=>cases r with
  |cons h2 r=>cases r;exact⟨_,_,rfl,h,h2⟩
theorem jS.reps:∀{vs:List V} {ds:LPd},jS K H os vs ds->Reps K H vs ds
 |_,_,.nil=>.nil
 |_,_,.cons h r=>.cons h.rep (jS.reps r)
end
inductive Vw(K:FRx)(G:Hp):List (Key×V)->List (Int×PyData)->Prop
 |nil:Vw K G [] []
 |cons {k:Int} {v:V} {d:PdX} {ws:List (Key×V)} {ks:List (Int×PyData)}:Rep K G v d->Vw K G ws ks->Vw K G ((Sum.inl k,v)::ws) ((k,d)::ks)
theorem Vw.same{K:FRx}{G G':Hp}(e:Same G G'):∀{ws:List (Key×V)} {ks:List (Int×PyData)},Vw K G ws ks->Vw K G' ws ks
 |_,_,.nil=>.nil
 |_,_,.cons h r=>.cons (h.same e) (Vw.same e r)
def COk(K:FRx)(G:Hp):HO->Sl->Prop
 | .lst xs,.ow ds=>Reps K G xs ds
 | .dK ws,.dk ks=>Vw K G ws ks
 |_,_=>False
theorem COk.same{K:FRx}{G G':Hp}{o:HO}{c:Sl}(e:Same G G')(h:COk K G o c):COk K G' o c:=by
 cases o<;>cases c<;>first |exact False.elim h|skip
 ·exact Reps.same e h
 ·exact Vw.same e h
theorem COk.ow{K:FRx}{G:Hp}{o:HO}{ds:LPd}(h:COk K G o (.ow ds)):∃xs,o=.lst xs/\Reps K G xs ds:=by
 cases o<;>first |exact False.elim h|skip
 exact⟨_,rfl,h⟩
structure xo(K:FRx)(H:Hp)(os:LAd)(σ:St)(ρ:Ro):Prop where
 pu:∀(i:Nat)(d:PdX),ρ[i]?=some (.pu d)->∃v,σ[i]?=some (some v)/\Rep K (offs H os) v d
 mu:∀(i:Nat)(c:Sl),ρ[i]?=some c->isM c=true->∃a o,σ[i]?=some (some (.ref a))/\a∈os/\H a=some o/\COk K (offs H os) o c
 al:Al H os
 len:σ.length=ρ.length
theorem xo.ow{K:FRx}{H:Hp}{os:LAd}{σ:St}{ρ:Ro}(h:xo K H os σ ρ)(i:Nat)(ds:LPd)(q:ρ[i]?=some (.ow ds)):∃a xs,σ[i]?=some (some (.ref a))/\a∈os/\H a=some (.lst xs)/\Reps K (offs H os) xs ds:=by
 have⟨a,o,h1,h2,h3,h4⟩:=h.mu i _ q rfl;obtain⟨xs,rfl,r⟩:=h4.ow;exact⟨a,xs,h1,h2,h3,r⟩
theorem xo.same{K:FRx}{H H':Hp}{os:LAd}{σ:St}{ρ:Ro}(e:Same H H')(h:xo K H os σ ρ):xo K H' os σ ρ where
 pu:=λi d q=>by
  have⟨v,h1,h2⟩:=h.pu i d q;exact⟨v,h1,h2.same (zl e os)⟩
 mu:=λi c q m=>by
  have⟨a,o,h1,h2,h3,h4⟩:=h.mu i c q m;exact⟨a,o,h1,h2,e _ _ h3,h4.same (zl e os)⟩
 al:=h.al.same e
 len:=h.len
def FE(X:Cx)(e:Expr)(f:RPx):Prop:=∃t:TE,PE X e t/\∀(σ:St)(H:Hp)(os:LAd)(ρ:Ro)(d:PdX)(Q:VK),xo X.K H os σ ρ->f ρ=some d->
  (∀v H',Same H H'->Rep X.K (offs H' os) v d->Q v H')->t σ H Q
def FB(X:Cx)(e:Expr)(f:RPx):Prop:=∃t:TE,PE X e t/\∀(σ:St)(H:Hp)(os:LAd)(ρ:Ro)(d:PdX)(Q:VK),xo X.K H os σ ρ->f ρ=some d->
  (∀v H',Same H H'->jt X.K H' os v d->Q v H')->t σ H Q
def FL(X:Cx)(e:Expr)(f:RLx):Prop:=∃t:TE,PE X e t/\∀(σ:St)(H:Hp)(os:LAd)(ρ:Ro)(ds:LPd)(Q:VK),xo X.K H os σ ρ->f ρ=some ds->
  (∀a xs H',H a=none->Same H H'->H' a=some (.lst xs)->Reps X.K (offs H' (a::os)) xs ds->Q (.ref a) H')->t σ H Q
def FAB(X:Cx)(es:List Expr)(f:RLx):Prop:=∃t:TA,PA X es t/\∀(σ:St)(H:Hp)(os:LAd)(ρ:Ro)(ds:LPd)(Q:List V->Hp->Prop),xo X.K H os σ ρ->f ρ=some ds->
  (∀vs H',Same H H'->jS X.K H' os vs ds->Q vs H')->t σ H Q
def FA(X:Cx)(es:List Expr)(f:RLx):Prop:=∃t:TA,PA X es t/\∀(σ:St)(H:Hp)(os:LAd)(ρ:Ro)(ds:LPd)(Q:List V->Hp->Prop),xo X.K H os σ ρ->f ρ=some ds->
  (∀vs H',Same H H'->Reps X.K (offs H' os) vs ds->Q vs H')->t σ H Q
def FT(X:Cx)(e:Expr)(f:Ro->Option Bool):Prop:=∃t:TT,PT X e t/\∀(σ:St)(H:Hp)(os:LAd)(ρ:Ro)(b:Bool)(Q:Bool->Hp->Prop),xo X.K H os σ ρ->f ρ=some b->
  (∀H',Same H H'->Q b H')->t σ H Q
def yu(f:RLx):RPx:=λρ=>(f ρ).map .list
theorem map_some{α β:Type}{o:Option α}{f:α->β}{b:β}(h:o.map f=some b):∃a,o=some a/\f a=b:=by
 cases o with
 |none=>cases h
 |some a=>exact⟨a,rfl,Option.some.inj h⟩
theorem bind_some{α β:Type}{o:Option α}{f:α->Option β}{b:β}(h:o.bind f=some b):∃a,o=some a/\f a=some b:=by
 cases o with
 |none=>cases h
 |some a=>exact⟨a,rfl,h⟩
section
variable{X:Cx}{e:Expr}{f:RPx}{pos:Pos}
theorem FE.fb(h:FE X e f):FB X e f:=by
 have⟨t,h1,h2⟩:=h;exact⟨t,h1,λσ H os ρ d Q R q k=>h2 σ H os ρ d Q R q λv H' s r=>k v H' s (.inl r)⟩
theorem FL.fe{f:RLx}(h:FL X e f):FE X e (yu f):=by
 have⟨t,h1,h2⟩:=h;refine⟨t,h1,λσ H os ρ d Q R q k=>?_⟩;have⟨ds,e1,e2⟩:=map_some q;subst e2;refine h2 σ H os ρ ds Q R e1 λa xs H' n s hx r=>k _ H' s (.lst (SqL.of ?_) (r.same (y3 λb hb=>List.mem_cons_of_mem _ hb)))
 rw[zt (R.al.new n)];exact hx
theorem FL.fb{f:RLx}(h:FL X e f):FB X e (yu f):=h.fe.fb
def gv(i:Nat):RPx:=λρ=>match ρ[i]? with |some (.pu d)=>some d|_=>none
def gb(i:Nat):RPx:=λρ=>match ρ[i]? with |some (.pu d)=>some d|some (.ow ds)=>some (.list ds)|_=>none
theorem zi3{i:Nat}{ρ:Ro}{d:PdX}(h:gv i ρ=some d):ρ[i]?=some (.pu d):=by
 unfold gv at h;split at h
 ·rename_i e;cases h;exact e
 ·cases h
theorem ze(i:Nat){x:Str}(hN:X.N[i]?=some x:=by rfl)(hv:Vis X.env.scope x:=by trivial)(hd:NDx x:=by decide)(hcd:NCx x:=by decide):FE X (.Name x pos) (gv i):=by
 refine⟨_,yl hN hv hd hcd,λσ H os ρ d Q R q k=>?_⟩;obtain⟨v,h1,h2⟩:=R.pu i d (zi3 q);exact⟨v,h1,k v H (Same.refl H) h2⟩
theorem yQ(i:Nat){x:Str}(hN:X.N[i]?=some x:=by rfl)(hv:Vis X.env.scope x:=by trivial)(hd:NDx x:=by decide)(hcd:NCx x:=by decide):FB X (.Name x pos) (gb i):=by
 refine⟨_,yl hN hv hd hcd,λσ H os ρ d Q R q k=>?_⟩;unfold gb at q;split at q
 ·rename_i e;cases q;have⟨v,h1,h2⟩:=R.pu i d e;exact⟨v,h1,k v H (Same.refl H) (.inl h2)⟩
 ·rename_i ds e;cases q;have⟨a,xs,h1,h2,h3,h4⟩:=R.ow i ds e;exact⟨_,h1,k _ H (Same.refl H) (.inr ⟨a,xs,ds,rfl,rfl,h3,h4⟩)⟩
 ·cases q
def cst(d:PdX):RPx:=λ_=>some d
theorem yc{i j}:FE X (.Constant (.int i) j pos) (cst (.int i)):=⟨_,zkN,λ_ H _ _ _ _ _ q k=>by cases q;exact k _ H (Same.refl H) (.int i)⟩
theorem qv(i:Nat){x:Str}(hN:X.N[i]?=some x:=by rfl)(hv:Vis X.env.scope x:=by trivial)(hd:NDx x:=by decide)(hcd:NCx x:=by decide):FB X (.Name x pos) (gv i):=FE.fb (ze i hN hv hd hcd)
theorem qi{i j}:FB X (.Constant (.int i) j pos) (cst (.int i)):=FE.fb yc
theorem zam{b j}:FE X (.Constant (.bool b) j pos) (cst (.bool b)):=⟨_,zmr,λ_ H _ _ _ _ _ q k=>by cases q;exact k _ H (Same.refl H) (.bl b)⟩
theorem Yu{j}:FE X (.Constant .none j pos) (cst .none):=⟨_,zh8,λ_ H _ _ _ _ _ q k=>by cases q;exact k _ H (Same.refl H) .non⟩
def GC(K:FRx)(mg:Str->Option Value)(x:Str)(d:PdX):Prop:=∃v u,mg x=some u/\RelV v u/\∀H,Rep K H v d
theorem VN{x:Str}{d:PdX}(g:GC X.K X.mg x d)(hg:Gl X x)(hd:NDx x:=by decide):FE X (.Name x pos) (cst d):=by
 have⟨v,u,h1,h2,h3⟩:=g;exact⟨_,zkf hg h1 h2 hd,λ_ H os _ _ _ _ q k=>by cases q;exact k _ H (Same.refl H) (h3 _)⟩
def op2(h:PyData->PyData->Option PyData)(f g:RPx):RPx:=λρ=>(f ρ).bind λx=>(g ρ).bind λy=>h x y
def R2F(K:FRx)(r:R2)(h:PyData->PyData->Option PyData):Prop:=∀(x y:V)(H:Hp)(os:LAd)(d e c:PdX)(Q:VK),Al H os->jt K H os x d->jt K H os y e->h d e=some c->(∀v H',Same H H'->Rep K (offs H' os) v c->Q v H')->r x y H Q
def R2L(K:FRx)(r:R2)(h:PyData->PyData->Option (List PyData)):Prop:=∀(x y:V)(H:Hp)(os:LAd)(d e:PdX)(c:LPd)(Q:VK),Al H os->jt K H os x d->jt K H os y e->h d e=some c->
  (∀a xs H',H a=none->Same H H'->H' a=some (.lst xs)->Reps K (offs H' (a::os)) xs c->Q (.ref a) H')->r x y H Q
variable{a b:Expr}{g:RPx}
theorem two{ta tb:TE}{σ:St}{H:Hp}{os:LAd}{ρ:Ro}{d e:PdX}{R:V->V->Hp->Prop}(ha:∀(σ:St)(H:Hp)(os:LAd)(ρ:Ro)(d:PdX)(Q:VK),xo X.K H os σ ρ->f ρ=some d->(∀v H',Same H H'->jt X.K H' os v d->Q v H')->ta σ H Q)(hb:∀(σ:St)(H:Hp)(os:LAd)(ρ:Ro)(d:PdX)(Q:VK),xo X.K H os σ ρ->g ρ=some d->(∀v H',Same H H'->jt X.K H' os v d->Q v H')->tb σ H Q)(rel:xo X.K H os σ ρ)(e1:f ρ=some d)(e2:g ρ=some e)(k:∀x y H',Same H H'->jt X.K H' os x d->jt X.K H' os y e->R x y H'):ta σ H λx H1=>tb σ H1 λy H2=>R x y H2:=ha σ H os ρ d _ rel e1 λx H1 s1 r1=>hb σ H1 os ρ e _ (rel.same s1) e2 λy H2 s2 r2=>k x y H2 (s1.trans s2) (r1.same s2) r2
theorem VM{h:PyData->PyData->Option PyData}{ρ:Ro}{c:PdX}(q:op2 h f g ρ=some c):∃d e,f ρ=some d/\g ρ=some e/\h d e=some c:=by
 have⟨d,e1,q⟩:=bind_some q;have⟨e,e2,q⟩:=bind_some q;exact⟨d,e,e1,e2,q⟩
theorem zF{op:Operator}{r:R2}{h:PyData->PyData->Option PyData}(ho:OpR X (binaryOp op) r)(hr:R2F X.K r h)(ha:FB X a f)(hb:FB X b g):FE X (.BinOp a op b pos) (op2 h f g):=by
 have⟨ta,pa,qa⟩:=ha;have⟨tb,pb,qb⟩:=hb;refine⟨_,zaI ho pa pb,λσ H os ρ c Q R q k=>?_⟩;have⟨d,e,e1,e2,e3⟩:=VM q;refine two qa qb R e1 e2 λx y H' s r1 r2=>hr x y H' os d e c Q (R.al.same s) r1 r2 e3 λv H2 s2=>k v H2 (s.trans s2)
def zma(h:PyData->PyData->Option (List PyData))(f g:RPx):RLx:=λρ=>(f ρ).bind λx=>(g ρ).bind λy=>h x y
theorem zmk{op:Operator}{r:R2}{h:PyData->PyData->Option (List PyData)}(ho:OpR X (binaryOp op) r)(hr:R2L X.K r h)(ha:FB X a f)(hb:FB X b g):FL X (.BinOp a op b pos) (zma h f g):=by
 have⟨ta,pa,qa⟩:=ha;have⟨tb,pb,qb⟩:=hb;refine⟨_,zaI ho pa pb,λσ H os ρ c Q R q k=>?_⟩;have⟨d,e1,q⟩:=bind_some q;have⟨e,e2,e3⟩:=bind_some q;refine two qa qb R e1 e2 λx y H' s r1 r2=>hr x y H' os d e c Q (R.al.same s) r1 r2 e3 λa xs H2 n s2=>k a xs H2 (s.free n) (s.trans s2)
theorem zdV{op:CmpOp}{r:R2}{h:PyData->PyData->Option PyData}(ho:OpR X (compareOp op) r)(hr:R2F X.K r h)(ha:FB X a f)(hb:FB X b g)(hm:behindInMarks op b=false):FE X (.Compare a [op] [b] pos) (op2 h f g):=by
 have⟨ta,pa,qa⟩:=ha;have⟨tb,pb,qb⟩:=hb;refine⟨_,zfn ho pa pb hm,λσ H os ρ c Q R q k=>?_⟩;have⟨d,e,e1,e2,e3⟩:=VM q;refine two qa qb R e1 e2 λx y H' s r1 r2=>hr x y H' os d e c Q (R.al.same s) r1 r2 e3 λv H2 s2=>k v H2 (s.trans s2)
def zK(f:RPx):Ro->Option Bool:=λρ=>match f ρ with |some (.bool b)=>some b|_=>none
theorem Yv{ρ:Ro}{b:Bool}(h:zK f ρ=some b):f ρ=some (.bool b):=by
 unfold zK at h;split at h
 ·rename_i e;cases h;exact e
 ·cases h
theorem yM{op:CmpOp}{r:R2}{h:PyData->PyData->Option PyData}(ho:OpR X (compareOp op) r)(hr:R2F X.K r h)(ha:FB X a f)(hb:FB X b g)(hm:behindInMarks op b=false):FT X (.Compare a [op] [b] pos) (zK (op2 h f g)):=by
 have⟨ta,pa,qa⟩:=ha;have⟨tb,pb,qb⟩:=hb;refine⟨_,zbr ho pa pb hm,λσ H os ρ c Q R q k=>?_⟩;obtain⟨d,e,e1,e2,e3⟩:=VM (Yv q);refine two qa qb R e1 e2 λx y H' s r1 r2=>hr x y H' os d e (.bool c) _ (R.al.same s) r1 r2 e3 λv H2 s2 rv=>?_
 cases rv;exact⟨c,rfl,k H2 (s.trans s2)⟩
theorem zhJ(ha:FE X e f)(he:∀whole,isTrue e X.env whole=(do let v <-whole;standAt e.pos;holding [v] (truthy v)):=by intro _;rfl):FT X e (zK f):=by
 have⟨ta,pa,qa⟩:=ha;refine⟨_,zhC pa he,λσ H os ρ c Q R q k=>?_⟩;refine qa σ H os ρ _ _ R (Yv q) λv H' s rv=>?_
 cases rv;exact⟨c,rfl,k H' s⟩
def zab(f:Ro->Option Bool):Ro->Option Bool:=λρ=>(f ρ).map (!·)
theorem zhR{f:Ro->Option Bool}(ha:FT X a f):FT X (.UnaryOp .Not a pos) (zab f):=by
 have⟨ta,pa,qa⟩:=ha;refine⟨_,zhb pa,λσ H os ρ c Q R q k=>?_⟩;have⟨b,e1,e2⟩:=map_some q;subst e2;exact qa σ H os ρ b _ R e1 k
def zhK(f g:RPx):RPx:=λρ=>match f ρ with |some (.bool true)=>g ρ|some (.bool false)=>some (.bool false)|_=>none
theorem zkR{op}(h:FE X a f):FE X (.BoolOp op [a] pos) f:=by
 have⟨t,p,q⟩:=h;exact⟨t,zle p,q⟩
theorem zl4{rest:List Expr}(ha:FE X a f)(hb:FE X (.BoolOp .And (b::rest) pos) g):FE X (.BoolOp .And (a::b::rest) pos) (zhK f g):=by
 have⟨ta,pa,qa⟩:=ha;have⟨tb,pb,qb⟩:=hb;refine⟨_,zk4 pa pb,λσ H os ρ c Q R q k=>?_⟩;unfold zhK at q;split at q
 ·rename_i e1;refine qa σ H os ρ _ _ R e1 λv H' s rv=>?_
  cases rv;refine⟨true,rfl,?_⟩;rw[if_pos rfl];exact qb σ H' os ρ c Q (R.same s) q λv H2 s2=>k v H2 (s.trans s2)
 ·rename_i e1;cases q;refine qa σ H os ρ _ _ R e1 λv H' s rv=>?_
  cases rv;refine⟨false,rfl,?_⟩;rw[if_neg Bool.false_ne_true];exact k _ H' s (.bl _)
 ·cases q
def ifE(c:Ro->Option Bool)(f g:RPx):RPx:=λρ=>(c ρ).bind λb=>if b then f ρ else g ρ
theorem zcR{c:Expr}{fc:Ro->Option Bool}(hc:FT X c fc)(ha:FE X a f)(hb:FE X b g):FE X (.IfExp c a b pos) (ifE fc f g):=by
 have⟨tc,pc,qc⟩:=hc;have⟨ta,pa,qa⟩:=ha;have⟨tb,pb,qb⟩:=hb;refine⟨_,zih pc pa pb,λσ H os ρ d Q R q k=>?_⟩;have⟨b,e1,e2⟩:=bind_some q;refine qc σ H os ρ b _ R e1 λH' s=>?_
 cases b with
 |true=>rw[if_pos rfl] at e2 ⊢;exact qa σ H' os ρ d Q (R.same s) e2 λv H2 s2=>k v H2 (s.trans s2)
 |false=>rw[if_neg Bool.false_ne_true] at e2 ⊢;exact qb σ H' os ρ d Q (R.same s) e2 λv H2 s2=>k v H2 (s.trans s2)
def op1(h:PyData->Option PyData)(f:RPx):RPx:=λρ=>(f ρ).bind h
def ZF:PyData->Option PyData
 | .int i=>some (.int (-i))
 |_=>none
theorem V4(ha:FE X a f):FE X (.UnaryOp .USub a pos) (op1 ZF f):=by
 have⟨ta,pa,qa⟩:=ha;refine⟨_,zmj zlv pa,λσ H os ρ c Q R q k=>?_⟩;have⟨d,e1,e2⟩:=bind_some q;refine qa σ H os ρ _ _ R e1 λv H' s rv=>?_
 unfold ZF at e2;split at e2
 ·cases e2;cases rv;exact⟨_,rfl,k _ H' s (.int _)⟩
 ·cases e2
def a0:RLx:=λ_=>some []
def aC(f:RPx)(g:RLx):RLx:=λρ=>(f ρ).bind λx=>(g ρ).map (x::·)
variable{es:List Expr}{ga:RLx}
theorem zg:FA X [] a0:=⟨_,xv,λ_ H _ _ _ _ _ q k=>by cases q;exact k [] H (Same.refl H) .nil⟩
theorem zv:FAB X [] a0:=⟨_,xv,λ_ H _ _ _ _ _ q k=>by cases q;exact k [] H (Same.refl H) .nil⟩
theorem za(ha:FE X e f)(hr:FA X es ga)(hs:SEx X e es:=by rfl):FA X (e::es) (aC f ga):=by
 have⟨ta,pa,qa⟩:=ha;have⟨tb,pb,qb⟩:=hr;refine⟨_,yD pa pb hs,λσ H os ρ ds Q R q k=>?_⟩;have⟨d,e1,q⟩:=bind_some q;have⟨r,e2,e3⟩:=map_some q;subst e3;exact qa σ H os ρ d _ R e1 λx H1 s1 r1=>qb σ H1 os ρ r _ (R.same s1) e2 λxs H2 s2 r2=>k _ H2 (s1.trans s2) (.cons (r1.same (zl s2 os)) r2)
theorem zm(ha:FB X e f)(hr:FAB X es ga)(hs:SEx X e es:=by rfl):FAB X (e::es) (aC f ga):=by
 have⟨ta,pa,qa⟩:=ha;have⟨tb,pb,qb⟩:=hr;refine⟨_,yD pa pb hs,λσ H os ρ ds Q R q k=>?_⟩;have⟨d,e1,q⟩:=bind_some q;have⟨r,e2,e3⟩:=map_some q;subst e3;exact qa σ H os ρ d _ R e1 λx H1 s1 r1=>qb σ H1 os ρ r _ (R.same s1) e2 λxs H2 s2 r2=>k _ H2 (s1.trans s2) (.cons (r1.same s2) r2)
def xp(g:RLx):RPx:=λρ=>(g ρ).bind λds=>if ds.length<=16777216 then some (.tuple ds) else none
theorem yA{x1}(h:FA X es ga):FE X (.Tuple es x1 pos) (xp ga):=by
 have⟨t,p,q⟩:=h;refine⟨_,zem p,λσ H os ρ d Q R e k=>?_⟩;have⟨ds,e1,e2⟩:=bind_some e;by_cases hl:ds.length<=16777216
 ·rw[if_pos hl] at e2;cases e2;refine q σ H os ρ ds _ R e1 λvs H' s r=>⟨by rw[r.length];exact hl,λp hp=>k _ _ (s.trans (zW hp _)) (.tup (SqT.of ?_) (r.same (zl (zW hp _) os)))⟩
  rw[zt ((R.al.same s).new hp)];exact zE
 ·rw[if_neg hl] at e2;cases e2
def vw(g:RLx):RLx:=λρ=>(g ρ).bind λds=>if ds.length<=16777216 then some ds else none
theorem xE(h:FA X es ga):FL X (.List es pos) (vw ga):=by
 have⟨t,p,q⟩:=h;refine⟨_,zkT p,λσ H os ρ d Q R e k=>?_⟩;have⟨ds,e1,e2⟩:=bind_some e;by_cases hl:ds.length<=16777216
 ·rw[if_pos hl] at e2;cases e2;refine q σ H os ρ d _ R e1 λvs H' s r=>⟨by rw[r.length];exact hl,λp hp=>k p vs _ (s.free hp) (s.trans (zW hp _)) zE ?_⟩
  rw[je];refine r.same λb o z=>?_
  by_cases hb:b∈os
  ·rw[xw hb] at z;cases z
  ·rw[zt hb] at z;rw[zt]
   ·exact z
   ·intro w;rcases List.mem_cons.mp w with w|w
    ·rw[w,hp] at z;cases z
    ·exact hb w
 ·rw[if_neg hl] at e2;cases e2
end
end L2.Fu
namespace L2.Fu
open PySem PySem.Spec PyProof.Rows
open PySem.Builtin.Int (intBits)
def xP:PyData->PyData->Option PyData
 | .int i,.int j=>some (.int (i+j))
 |_,_=>none
def Zm:PyData->PyData->Option PyData
 | .int i,.int j=>some (.int (i - j))
 |_,_=>none
def yE:PyData->PyData->Option PyData
 | .int i,.int j=>open Classical in if IntMulOk i j then some (.int (i*j)) else none
 |_,_=>none
def xq:PyData->PyData->Option PyData
 | .int i,.int j=>if j≠0/\j.natAbs.log2<9000 then some (.int (i.fdiv j)) else none
 |_,_=>none
def wd:PyData->PyData->Option PyData
 | .int i,.int j=>if j≠0 then some (.int (i.fmod j)) else none
 |_,_=>none
def zes(p:Int->Int->Bool):PyData->PyData->Option PyData
 | .int i,.int j=>some (.bool (p i j))
 |_,_=>none
section
variable{K:FRx}
theorem j4:R2F K (rI0 λi j=>.int (i+j)) xP:=by
 intro x y H os d e c Q al r1 r2 h k;unfold xP at h;split at h
 ·cases h;exact⟨_,_,r1.int,r2.int,k _ H (Same.refl H) (.int _)⟩
 ·cases h
theorem Wt:R2F K (rI0 λi j=>.int (i - j)) Zm:=by
 intro x y H os d e c Q al r1 r2 h k;unfold Zm at h;split at h
 ·cases h;exact⟨_,_,r1.int,r2.int,k _ H (Same.refl H) (.int _)⟩
 ·cases h
theorem xn:R2F K (rI IntMulOk λi j=>.int (i*j)) yE:=by
 intro x y H os d e c Q al r1 r2 h k;unfold yE at h;split at h
 ·split at h
  ·rename_i hc;cases h;exact⟨_,_,r1.int,r2.int,hc,k _ H (Same.refl H) (.int _)⟩
  ·cases h
 ·cases h
theorem xN:R2F K (rI zkw λi j=>.int (i.fdiv j)) xq:=by
 intro x y H os d e c Q al r1 r2 h k;unfold xq at h;split at h
 ·split at h
  ·rename_i hc;cases h;exact⟨_,_,r1.int,r2.int,hc,k _ H (Same.refl H) (.int _)⟩
  ·cases h
 ·cases h
theorem v3:R2F K (rI (λ_ j=>j≠0) λi j=>.int (i.fmod j)) wd:=by
 intro x y H os d e c Q al r1 r2 h k;unfold wd at h;split at h
 ·split at h
  ·rename_i hc;cases h;exact⟨_,_,r1.int,r2.int,hc,k _ H (Same.refl H) (.int _)⟩
  ·cases h
 ·cases h
theorem uV{p:Int->Int->Bool}:R2F K (rI0 λi j=>.bl (p i j)) (zes p):=by
 intro x y H os d e c Q al r1 r2 h k;unfold zes at h;split at h
 ·cases h;exact⟨_,_,r1.int,r2.int,k _ H (Same.refl H) (.bl _)⟩
 ·cases h
def eqD(d e:PdX):Option PyData:=if SeqAt.shaped d=true/\SeqAt.shaped e=true then some (.bool (PyData.eqv d e)) else none
def neD(d e:PdX):Option PyData:=if SeqAt.shaped d=true/\SeqAt.shaped e=true then some (.bool (!PyData.eqv d e)) else none
theorem Jh:R2F K (zmE K) eqD:=by
 intro x y H os d e c Q al r1 r2 h k;unfold eqD at h;split at h
 ·rename_i hc;cases h;exact⟨d,e,r1.rep,r2.rep,hc.1,hc.2,k _ H (Same.refl H) (.bl _)⟩
 ·cases h
theorem WT:R2F K (zmL K) neD:=by
 intro x y H os d e c Q al r1 r2 h k;unfold neD at h;split at h
 ·rename_i hc;cases h;exact⟨d,e,r1.rep,r2.rep,hc.1,hc.2,k _ H (Same.refl H) (.bl _)⟩
 ·cases h
def isNone:PyData->Bool
 | .none=>true
 |_=>false
def isD:PyData->PyData->Option PyData
 |d,.none=>some (.bool (isNone d))
 |_,_=>none
def ZQ:PyData->PyData->Option PyData
 |d,.none=>some (.bool (!isNone d))
 |_,_=>none
theorem zek{H:Hp}{x:V}{d:PdX}(h:Rep K H x d):decide (x=.non)=isNone d:=by
 cases h<;>rfl
theorem ZJ:R2F K (λx y H Q=>y=.non/\Q (.bl (!decide (x=.non))) H) ZQ:=by
 intro x y H os d e c Q al r1 r2 h k;unfold ZQ at h;split at h
 ·cases h;refine⟨r2.non,?_⟩;rw[zek r1.rep];exact k _ H (Same.refl H) (.bl _)
 ·cases h
def ixD:PyData->PyData->Option PyData
 | .tuple ds,.int i=>atI ds i
 | .list ds,.int i=>atI ds i
 |_,_=>none
theorem zcE{G:Hp}{xs:List V}{ds:LPd}{i:Int}{d:PdX}(r:Reps K G xs ds)(h:atI ds i=some d):∃v,atI xs i=some v/\Rep K G v d:=by
 unfold atI at h ⊢;rw[r.length];cases e:ixN ds.length i with
 |none=>rw[e] at h;cases h
 |some j=>
  rw[e] at h;exact r.getD h
theorem zkL:R2F K (zlZ K) ixD:=by
 intro x y H os d e c Q al r1 r2 h k;unfold ixD at h;split at h
 ·obtain⟨a,xs,rfl,hS,_,r⟩:=r1.tup;have⟨v,e,rv⟩:=zcE r h;exact⟨true,a,xs,_,v,rfl,r2.int,hS,e,k v H (Same.refl H) rv⟩
 ·obtain⟨a,xs,rfl,hS,r⟩:=r1.lst;have⟨v,e,rv⟩:=zcE r h;exact⟨false,a,xs,_,v,rfl,r2.int,hS,e,k v H (Same.refl H) rv⟩
 ·cases h
def uC:PyData->PyData->Option PyData
 | .tuple ds,.tuple es=>if ds.length+es.length<=16777216 then some (.tuple (ds++es)) else none
 |_,_=>none
theorem jG:R2F K (zit K) uC:=by
 intro x y H os d e c Q al r1 r2 h k;unfold uC at h;split at h
 ·rename_i ds es;split at h
  ·rename_i hc;cases h;obtain⟨a,xs,rfl,hS,hSo,r⟩:=r1.tup;obtain⟨b,ys,rfl,hT,hTo,q⟩:=r2.tup;have l1:=r.length;have l2:=q.length
   refine⟨a,b,xs,ys,rfl,rfl,hS,hT,by rw[l1,l2];exact hc,λz=>?_,λz w=>?_,λz w p hp=>?_⟩
   ·subst z;cases r;exact k _ H (Same.refl H) (.tup hTo q)
   ·subst w;cases q;rw[List.append_nil] at k;exact k _ H (Same.refl H) (.tup hSo r)
   ·have s:=zW hp (.tup (xs++ys));refine k _ _ s (.tup (SqT.of ?_) ((r.append q).same (zl s os)));rw[zt (al.new hp)];exact zE
  ·cases h
 ·cases h
theorem jQ{H:Hp}{os:LAd}{p:AdX}{o:HO}{xs:List V}{ds:LPd}(hp:H p=none)(r:Reps K (offs H os) xs ds):Reps K (offs (upd H p o) (p::os)) xs ds:=by
 rw[je];refine r.same λb o z=>?_
 by_cases hb:b∈os
 ·rw[xw hb] at z;cases z
 ·rw[zt hb] at z;rw[zt]
  ·exact z
  ·intro w;rcases List.mem_cons.mp w with w|w
   ·rw[w,hp] at z;cases z
   ·exact hb w
end
def FK(X:Cx)(e:Expr)(f:RLx):Prop:=∃t:TE,PE X e t/\∀(σ:St)(H:Hp)(os:LAd)(ρ:Ro)(ds:LPd)(Q:VK),xo X.K H os σ ρ->f ρ=some ds->
  (∀a xs H',Same H H'->H' a=some (.lst xs)->Reps X.K (offs H' os) xs ds->Q (.ref a) H')->t σ H Q
def gk(i:Nat):RLx:=λρ=>match ρ[i]? with |some (.ow ds)=>some ds|_=>none
section
variable{X:Cx}{e a b:Expr}{pos:Pos}
theorem FL.fk{f:RLx}(h:FL X e f):FK X e f:=by
 have⟨t,h1,h2⟩:=h;exact⟨t,h1,λσ H os ρ ds Q R q k=>h2 σ H os ρ ds Q R q λa xs H' n s hx r=>k a xs H' s hx (r.same (y3 λb hb=>List.mem_cons_of_mem _ hb))⟩
theorem wF{i:Nat}{ρ:Ro}{ds:LPd}(q:gk i ρ=some ds):ρ[i]?=some (.ow ds):=by
 unfold gk at q;split at q
 ·rename_i e;cases q;exact e
 ·cases q
theorem zei(i:Nat){x:Str}(hN:X.N[i]?=some x:=by rfl)(hv:Vis X.env.scope x:=by trivial)(hd:NDx x:=by decide)(hcd:NCx x:=by decide):FK X (.Name x pos) (gk i):=by
 refine⟨_,yl hN hv hd hcd,λσ H os ρ d Q R q k=>?_⟩;obtain⟨a,xs,h1,h2,h3,h4⟩:=R.ow i d (wF q);exact⟨_,h1,k _ _ H (Same.refl H) h3 h4⟩
def zgc(f g:RLx):RLx:=λρ=>(f ρ).bind λx=>(g ρ).bind λy=>if x.length+y.length<=16777216 then some (x++y) else none
theorem zhf{f g:RLx}(ha:FK X a f)(hb:FK X b g):FL X (.BinOp a .Add b pos) (zgc f g):=by
 have⟨ta,pa,qa⟩:=ha;have⟨tb,pb,qb⟩:=hb;refine⟨_,zaI zlB pa pb,λσ H os ρ c Q R q k=>?_⟩;have⟨x,e1,q⟩:=bind_some q;have⟨y,e2,q⟩:=bind_some q;split at q
 ·rename_i hl;cases q;refine qa σ H os ρ x _ R e1 λa xs H1 s1 h1 r1=>qb σ H1 os ρ y _ (R.same s1) e2 λb ys H2 s2 h2 r2=>?_
  have l1:=r1.length;have l2:=r2.length
  refine⟨a,b,xs,ys,rfl,rfl,s2 _ _ h1,h2,by rw[l1,l2];exact hl,λp hp=>?_⟩;exact k p _ _ (s1.free (s2.free hp)) ((s1.trans s2).trans (zW hp _)) zE (jQ hp ((r1.same (zl s2 os)).append r2))
 ·cases q
def ziD(f:RLx)(g:RPx):RLx:=λρ=>(f ρ).bind λx=>match g ρ with
 |some (.int k)=>if -(2 ^ 63)<=k/\k<2 ^ 63/\x.length*k.toNat<=16777216 then some (List.replicate k.toNat x).flatten else none
 |_=>none
theorem Vp{K:FRx}{H:Hp}{xs:List V}{ds:LPd}(r:Reps K H xs ds):∀k:Nat,Reps K H (List.replicate k xs).flatten (List.replicate k ds).flatten
 |0=>.nil
 |k+1=>by
  rw[List.replicate_succ,List.replicate_succ,List.flatten_cons,List.flatten_cons];exact r.append (Vp r k)
theorem zgZ{f:RLx}{g:RPx}(ha:FK X a f)(hb:FE X b g):FL X (.BinOp a .Mult b pos) (ziD f g):=by
 have⟨ta,pa,qa⟩:=ha;have⟨tb,pb,qb⟩:=hb;refine⟨_,zaI zgT pa pb,λσ H os ρ c Q R q k=>?_⟩;have⟨x,e1,q⟩:=bind_some q;split at q
 ·rename_i n e2;split at q
  ·rename_i hl;cases q;refine qa σ H os ρ x _ R e1 λa xs H1 s1 h1 r1=>qb σ H1 os ρ _ _ (R.same s1) e2 λv H2 s2 r2=>?_
   cases r2;have l1:=r1.length;refine⟨a,n,xs,rfl,rfl,s2 _ _ h1,hl.1,hl.2.1,by rw[l1];exact hl.2.2,λp hp=>?_⟩;exact k p _ _ (s1.free (s2.free hp)) ((s1.trans s2).trans (zW hp _)) zE (jQ hp (Vp (r1.same (zl s2 os)) _))
  ·cases q
 ·cases q
def FO(X:Cx)(e:Option Expr)(f:Ro->Option (Option Int)):Prop:=∃t:TO,PO X e t/\∀(σ:St)(H:Hp)(os:LAd)(ρ:Ro)(d:Option Int)(Q:Option Int->Hp->Prop),xo X.K H os σ ρ->f ρ=some d->(∀H',Same H H'->Q d H')->t σ H Q
def o0:Ro->Option (Option Int):=λ_=>some none
def oS(f:RPx):Ro->Option (Option Int):=λρ=>match f ρ with |some (.int i)=>some (some i)|_=>none
theorem zfl:FO X none o0:=⟨_,zjB,λ_ H _ _ _ _ _ q k=>by cases q;exact k H (Same.refl H)⟩
theorem JQ{f:RPx}(h:FE X e f):FO X (some e) (oS f):=by
 have⟨t,p,q⟩:=h;refine⟨_,ziW p,λσ H os ρ d Q R e k=>?_⟩;unfold oS at e;split at e
 ·rename_i i e1;cases e;refine q σ H os ρ _ _ R e1 λv H' s r=>?_
  cases r;exact⟨i,rfl,k H' s⟩
 ·cases e
def cut(ds:LPd)(lo hi:Option Int):List PyData:=(ds.drop (HT.sIx ds.length 0 lo)).take (HT.sIx ds.length ds.length hi - HT.sIx ds.length 0 lo)
theorem zb1{K:FRx}{H:Hp}{xs:List V}{ds:LPd}(r:Reps K H xs ds)(lo hi:Option Int):Reps K H (zgN xs lo hi) (cut ds lo hi):=by
 unfold zgN cut;rw[r.length];exact(r.drop _).take _
def slL(f:RPx)(l h:Ro->Option (Option Int)):RLx:=λρ=>match f ρ with
 |some (.list ds)=>(l ρ).bind λlo=>(h ρ).bind λhi=>some (cut ds lo hi)
 |_=>none
variable{lo hi:Option Expr}{p2:Pos}{l h:Ro->Option (Option Int)}{f:RPx}
theorem YS(ha:FB X e f)(hl:FO X lo l)(hh:FO X hi h):FL X (.Subscript e (.Slice lo hi none p2) pos) (slL f l h):=by
 have⟨ta,pa,qa⟩:=ha;have⟨tl,pl,ql⟩:=hl;have⟨th,ph,qh⟩:=hh;refine⟨_,zda zeU pa pl ph,λσ H os ρ c Q R q k=>?_⟩;unfold slL at q;split at q
 ·rename_i ds e1;have⟨a,e2,q⟩:=bind_some q;have⟨b,e3,q⟩:=bind_some q;cases q;refine qa σ H os ρ _ _ R e1 λv H1 s1 r1=>ql σ H1 os ρ a _ (R.same s1) e2 λH2 s2=>qh σ H2 os ρ b _ (R.same (s1.trans s2)) e3 λH3 s3=>?_
  obtain⟨p,xs,rfl,hS,r⟩:=(r1.same (s2.trans s3)).lst;exact⟨p,xs,rfl,hS,λq hq=>k q _ _ ((s1.trans s2).trans s3 |>.free hq) (((s1.trans s2).trans s3).trans (zW hq _)) zE (jQ hq (zb1 r a b))⟩
 ·cases q
def CRF(K:FRx)(r:List V->Hp->VK->Prop)(h:LPx):Prop:=∀(xs:List V)(H:Hp)(os:LAd)(ds:LPd)(c:PdX)(Q:VK),Al H os->jS K H os xs ds->h ds=some c->(∀v H',Same H H'->Rep K (offs H' os) v c->Q v H')->r xs H Q
def CRL(K:FRx)(r:List V->Hp->VK->Prop)(h:LLx):Prop:=∀(xs:List V)(H:Hp)(os:LAd)(ds:LPd)(c:LPd)(Q:VK),Al H os->jS K H os xs ds->h ds=some c->
  (∀a xs H',H a=none->Same H H'->H' a=some (.lst xs)->Reps K (offs H' (a::os)) xs c->Q (.ref a) H')->r xs H Q
def zh(h:LPx)(g:RLx):RPx:=λρ=>(g ρ).bind h
def xU(h:LLx)(g:RLx):RLx:=λρ=>(g ρ).bind h
variable{x:Str}{p:Pos}{es:List Expr}{ga:RLx}{id T:String}{r:List V->Hp->VK->Prop}
theorem zN{h:LPx}(hc:wk X (.builtin id) r)(hr:CRF X.K r h)(hg:Gl X x)(hm:X.mg x=none)(hv:bootBuiltins x=some (.builtin id))(ha:FAB X (e::es) ga)(hn:x≠"__name__":=by decide)(hdb:NDx x:=by decide)(he:SEx X e es:=by rfl)(hpl:PLx X pos es:=by rfl):FE X (.Call (.Name x p) (e::es) [] pos) (zh h ga):=by
 have⟨t,pa,qa⟩:=ha;refine⟨_,VQ hc hg hm hv pa hn hdb he hpl,λσ H os ρ c Q R q k=>?_⟩;have⟨ds,e1,e2⟩:=bind_some q;exact qa σ H os ρ ds _ R e1 λvs H' s rv=>hr vs H' os ds c Q (R.al.same s) rv e2 λv H2 s2=>k v H2 (s.trans s2)
theorem zX{h:LPx}(hc:wk X (.type T) r)(hr:CRF X.K r h)(hg:Gl X x)(hm:X.mg x=none)(hv:bootBuiltins x=some (.type T))(ha:FAB X (e::es) ga)(hn:x≠"__name__":=by decide)(hdb:NDx x:=by decide)(he:SEx X e es:=by rfl)(hpl:PLx X pos es:=by rfl):FE X (.Call (.Name x p) (e::es) [] pos) (zh h ga):=by
 have⟨t,pa,qa⟩:=ha;refine⟨_,J0 hc hg hm hv pa hn hdb he hpl,λσ H os ρ c Q R q k=>?_⟩;have⟨ds,e1,e2⟩:=bind_some q;exact qa σ H os ρ ds _ R e1 λvs H' s rv=>hr vs H' os ds c Q (R.al.same s) rv e2 λv H2 s2=>k v H2 (s.trans s2)
theorem JT{h:LLx}(hc:wk X (.type T) r)(hr:CRL X.K r h)(hg:Gl X x)(hm:X.mg x=none)(hv:bootBuiltins x=some (.type T))(ha:FAB X (e::es) ga)(hn:x≠"__name__":=by decide)(hdb:NDx x:=by decide)(he:SEx X e es:=by rfl)(hpl:PLx X pos es:=by rfl):FL X (.Call (.Name x p) (e::es) [] pos) (xU h ga):=by
 have⟨t,pa,qa⟩:=ha;refine⟨_,J0 hc hg hm hv pa hn hdb he hpl,λσ H os ρ c Q R q k=>?_⟩;have⟨ds,e1,e2⟩:=bind_some q;exact qa σ H os ρ ds _ R e1 λvs H' s rv=>hr vs H' os ds c Q (R.al.same s) rv e2 λa xs H2 n s2=>k a xs H2 (s.free n) (s.trans s2)
def yk:List PyData->Option PyData
 |[.list ds]=>some (.int ds.length)
 |[.tuple ds]=>some (.int ds.length)
 |_=>none
def yn:List PyData->Option PyData
 |[.list ds]=>some (.tuple ds)
 |[.tuple ds]=>some (.tuple ds)
 |_=>none
def Uc:List PyData->Option (List PyData)
 |[.list ds]=>some ds
 |[.tuple ds]=>some ds
 |_=>none
def zi5:List PyData->Option PyData
 |[.int i]=>some (.int (if i<0 then -i else i))
 |_=>none
def zdl:PyData->Option Int
 | .int i=>some i
 |_=>none
def Jj{α β:Type}(h:α->Option β):List α->Option (List β)
 |[]=>some []
 |x::r=>(h x).bind λy=>(Jj h r).map (y::·)
def ziy:List PyData->Option PyData
 |[.list ds]=>(Jj zdl ds).map λns=>.int ns.sum
 |_=>none
theorem Yl{K:FRx}{H:Hp}:∀{ds:LPd} {xs:List V} {ns:List Int},Reps K H xs ds->Jj zdl ds=some ns->xs=ns.map V.int
 |[],_,_,r,h=>by cases r;cases h;rfl
 |d::r,_,_,q,h=>by
  cases q with
  |cons h1 h2=>
   have⟨y,e1,h⟩:=bind_some h;have⟨ys,e2,e3⟩:=map_some h;subst e3;rw[Yl h2 e2];cases d<;>cases e1
   cases h1;rfl
end
section
variable{K:FRx}
theorem y0:CRF K (λxs H Q=>∃p ys,xs=[.ref p]/\(SqL K H p ys\/SqT K H p ys)/\Q (.int ys.length) H) yk:=by
 intro xs H os ds c Q al rv h k;unfold yk at h;split at h
 ·cases h;obtain⟨v,rfl,r⟩:=rv.one;obtain⟨a,ys,rfl,hS,r⟩:=r.lst;exact⟨a,ys,rfl,.inl hS,by rw[r.length];exact k _ H (Same.refl H) (.int _)⟩
 ·cases h;obtain⟨v,rfl,r⟩:=rv.one;obtain⟨a,ys,rfl,hS,_,r⟩:=r.tup;exact⟨a,ys,rfl,.inr hS,by rw[r.length];exact k _ H (Same.refl H) (.int _)⟩
 ·cases h
theorem yB:CRF K (λxs H Q=>∃p ys,xs=[.ref p]/\((SqL K H p ys/\∀l,H l=none->Q (.ref l) (upd H l (.tup ys)))\/(SqT K H p ys/\Q (.ref p) H))) yn:=by
 intro xs H os ds c Q al rv h k;unfold yn at h;split at h
 ·cases h;obtain⟨v,rfl,r⟩:=rv.one;obtain⟨a,ys,rfl,hS,r⟩:=r.lst;refine⟨a,ys,rfl,.inl ⟨hS,λl hl=>?_⟩⟩;have s:=zW hl (.tup ys);refine k _ _ s (.tup (SqT.of ?_) (r.same (zl s os)));rw[zt (al.new hl)];exact zE
 ·cases h;obtain⟨v,rfl,r⟩:=rv.one;obtain⟨a,ys,rfl,hS,hSo,r⟩:=r.tup;exact⟨a,ys,rfl,.inr ⟨hS,k _ H (Same.refl H) (.tup hSo r)⟩⟩
 ·cases h
theorem zbP:CRL K (λxs H Q=>∃p ys,xs=[.ref p]/\(SqL K H p ys\/SqT K H p ys)/\∀l,H l=none->Q (.ref l) (upd H l (.lst ys))) Uc:=by
 intro xs H os ds c Q al rv h k;unfold Uc at h;split at h
 ·cases h;obtain⟨v,rfl,r⟩:=rv.one;obtain⟨a,ys,rfl,hS,r⟩:=r.lst;exact⟨a,ys,rfl,.inl hS,λl hl=>k l ys _ hl (zW hl _) zE (jQ hl r)⟩
 ·cases h;obtain⟨v,rfl,r⟩:=rv.one;obtain⟨a,ys,rfl,hS,_,r⟩:=r.tup;exact⟨a,ys,rfl,.inr hS,λl hl=>k l ys _ hl (zW hl _) zE (jQ hl r)⟩
 ·cases h
theorem zkt:CRF K (λxs H Q=>∃i,xs=[.int i]/\Q (.int (if i<0 then -i else i)) H) zi5:=by
 intro xs H os ds c Q al rv h k;unfold zi5 at h;split at h
 ·cases h;obtain⟨v,rfl,r⟩:=rv.one;cases r.int;exact⟨_,rfl,k _ H (Same.refl H) (.int _)⟩
 ·cases h
theorem zmP:CRF K (λxs H Q=>∃(p:AdX)(ns:List Int),xs=[.ref p]/\SqL K H p (ns.map V.int)/\Q (.int ns.sum) H) ziy:=by
 intro xs H os ds c Q al rv h k;unfold ziy at h;split at h
 ·have⟨ns,e1,e2⟩:=map_some h;subst e2;obtain⟨v,rfl,r⟩:=rv.one;obtain⟨a,ys,rfl,hS,r⟩:=r.lst;rw[Yl r e1] at hS;exact⟨a,ns,rfl,hS,k _ H (Same.refl H) (.int _)⟩
 ·cases h
end
def zkc(T:String):PyData->Option PyData
 | .int _=>if T="int" then some (.bool true) else if T="bool" then some (.bool false) else if T="tuple" then some (.bool false) else none
 | .bool _=>if T="int" then some (.bool true) else if T="bool" then some (.bool true) else none
 | .tuple _=>if T="tuple" then some (.bool true) else if T="list" then some (.bool false) else if T="int" then some (.bool false) else none
 | .list _=>if T="list" then some (.bool true) else if T="tuple" then some (.bool false) else if T="int" then some (.bool false) else none
 |_=>none
theorem zl7{K:FRx}{H:Hp}{os:LAd}{v:V}{d:PdX}{T:String}{c:PdX}(r:jt K H os v d)(h:zkc T d=some c):∃b,c=.bool b/\IsI K H v T b:=by
 unfold zkc at h;split at h
 ·cases r.int;split at h
  ·rename_i e;subst e;cases h;exact⟨_,rfl,.int_int _⟩
  ·split at h
   ·rename_i e;subst e;cases h;exact⟨_,rfl,.int_bool _⟩
   ·split at h
    ·rename_i e;subst e;cases h;exact⟨_,rfl,.int_tup _⟩
    ·cases h
 ·cases r.bl;split at h
  ·rename_i e;subst e;cases h;exact⟨_,rfl,.bl_int _⟩
  ·split at h
   ·rename_i e;subst e;cases h;exact⟨_,rfl,.bl_bool _⟩
   ·cases h
 ·obtain⟨a,xs,rfl,hS,_,_⟩:=r.tup;split at h
  ·rename_i e;subst e;cases h;exact⟨_,rfl,.tup_tup hS⟩
  ·split at h
   ·rename_i e;subst e;cases h;exact⟨_,rfl,.tup_lst hS⟩
   ·split at h
    ·rename_i e;subst e;cases h;exact⟨_,rfl,.tup_int hS⟩
    ·cases h
 ·obtain⟨a,xs,rfl,hS,_⟩:=r.lst;split at h
  ·rename_i e;subst e;cases h;exact⟨_,rfl,.lst_lst hS⟩
  ·split at h
   ·rename_i e;subst e;cases h;exact⟨_,rfl,.lst_tup hS⟩
   ·split at h
    ·rename_i e;subst e;cases h;exact⟨_,rfl,.lst_int hS⟩
    ·cases h
 ·cases h
section
variable{X:Cx}{e:Expr}{f:RPx}{pos p p2:Pos}{T:String}{tn:Str}
theorem zk7(ha:FB X e f)(hg:Gl X "isinstance")(hm:X.mg "isinstance"=none)(hgt:Gl X tn)(hmt:X.mg tn=none)(ht:bootBuiltins tn=some (.type T))(hn:tn≠"__name__":=by decide)(hdb:NDx tn:=by decide)(he:starEach [e,.Name tn p2] X.env=(false,eval e X.env)::starEach [.Name tn p2] X.env:=by rfl)(he2:starEach [.Name tn p2] X.env=(false,eval (.Name tn p2) X.env)::starEach [] X.env:=by rfl)(hpl:(backTo pos (starEach [.Name tn p2] X.env)).any (·.1)=false:=by rfl):FE X (.Call (.Name "isinstance" p) [e,.Name tn p2] [] pos) (op1 (zkc T) f):=by
 have⟨t,pa,qa⟩:=ha;refine⟨_,VQ zhW hg hm ZZ (yD pa (yD (zj2 (v:=.ty T) hgt hmt ht rfl hn hdb) xv he2) he) (by decide) (by decide) he hpl,λσ H os ρ c Q R q k=>?_⟩;have⟨d,e1,e2⟩:=bind_some q;refine qa σ H os ρ d _ R e1 λv H' s rv=>?_
 obtain⟨b,rfl,hi⟩:=zl7 rv e2;exact⟨v,T,b,rfl,hi,k _ H' s (.bl b)⟩
end
end L2.Fu
namespace L2.Fu
open PySem PySem.Spec PyProof.Rows
def spF(K:FRx)(f:LPx):Sp:=λvs H Q _=>∃os ds r,Al H os/\Reps K (offs H os) vs ds/\f ds=some r/\∀v H',Same H H'->Rep K (offs H' os) v r->Q v H'
def spL(K:FRx)(f:LLx):Sp:=λvs H Q _=>∃os ds r,Al H os/\Reps K (offs H os) vs ds/\f ds=some r/\
 ∀a xs H',H a=none->Same H H'->H' a=some (.lst xs)->Reps K (offs H' (a::os)) xs r->Q (.ref a) H'
abbrev yq(P:Program)(w:World)(K:FRx)(mg:Str->Option Value)(base:Heap)(k:Nat)(x:Str)(ps:LSr)(f:LPx):Prop:=Def P w K mg base CX0 k x ps (spF K f)
abbrev jA(P:Program)(w:World)(K:FRx)(mg:Str->Option Value)(base:Heap)(k:Nat)(x:Str)(ps:LSr)(f:LLx):Prop:=Def P w K mg base CX0 k x ps (spL K f)
def zjJ:PyData->Bool
 | .int _=>true
 | .bool _=>true
 | .none=>true
 | .str _=>true
 |_=>false
theorem zla{K:FRx}{H H':Hp}{v:V}{d:PdX}(h:zjJ d=true)(r:Rep K H v d):Rep K H' v d:=by
 cases r with
 |non=>exact .non
 |bl b=>exact .bl b
 |int i=>exact .int i
 |str x=>exact .str x
 |tup _ _=>cases h
 |lst _ _=>cases h
def ZN(h:LPx)(g:RLx):RPx:=λρ=>(g ρ).bind λds=>(h ds).bind λr=>if zjJ r=true then some r else none
section
variable{X:Cx}{k k':Nat}{x:Str}{ps:LSr}{p pos:Pos}{e:Expr}{es:List Expr}{ga:RLx}
theorem zj{f:LPx}(D:yq X.prog X.w X.K X.mg X.base k x ps f)(hr:Room k' X.A)(hg:Gl X x)(ha:FA X (e::es) ga)(hk:k<=k':=by decide)(hdb:NDx x:=by decide)(he:SEx X e es:=by rfl)(hpl:PLx X pos es:=by rfl):FE X (.Call (.Name x p) (e::es) [] pos) (zh f ga):=by
 have⟨t,pa,qa⟩:=ha;refine⟨_,Wv D hr hg Jg pa hk hdb he hpl,λσ H os ρ c Q R q k=>?_⟩;have⟨ds,e1,e2⟩:=bind_some q;refine qa σ H os ρ ds _ R e1 λvs H' s rv=>?_
 rw[List.append_nil];exact⟨os,ds,c,R.al.same s,rv,e2,λv H2 s2=>k v H2 (s.trans s2)⟩
theorem uR{f:LLx}(D:jA X.prog X.w X.K X.mg X.base k x ps f)(hr:Room k' X.A)(hg:Gl X x)(ha:FA X (e::es) ga)(hk:k<=k':=by decide)(hdb:NDx x:=by decide)(he:SEx X e es:=by rfl)(hpl:PLx X pos es:=by rfl):FL X (.Call (.Name x p) (e::es) [] pos) (xU f ga):=by
 have⟨t,pa,qa⟩:=ha;refine⟨_,Wv D hr hg Jg pa hk hdb he hpl,λσ H os ρ c Q R q k=>?_⟩;have⟨ds,e1,e2⟩:=bind_some q;refine qa σ H os ρ ds _ R e1 λvs H' s rv=>?_
 rw[List.append_nil];exact⟨os,ds,c,R.al.same s,rv,e2,λa xs H2 n s2=>k a xs H2 (s.free n) (s.trans s2)⟩
theorem zdr{f:LPx}(D:yq X.prog X.w X.K X.mg X.base k x ps f)(hr:Room k' X.A)(hg:Gl X x)(ha:FAB X (e::es) ga)(hk:k<=k':=by decide)(hdb:NDx x:=by decide)(he:SEx X e es:=by rfl)(hpl:PLx X pos es:=by rfl):FE X (.Call (.Name x p) (e::es) [] pos) (ZN f ga):=by
 have⟨t,pa,qa⟩:=ha;refine⟨_,Wv D hr hg Jg pa hk hdb he hpl,λσ H os ρ c Q R q k=>?_⟩;have⟨ds,e1,q⟩:=bind_some q;have⟨r,e2,q⟩:=bind_some q;split at q
 ·rename_i hs;cases q;refine qa σ H os ρ ds _ R e1 λvs H' s rv=>?_
  rw[List.append_nil];have e0:offs H' []=H':=by funext b;exact zt (by simp)
  refine⟨[],ds,c,Al.nil _,by rw[e0];exact rv.reps,e2,λv H2 s2 rr=>k v H2 (s.trans s2) (zla hs rr)⟩
 ·cases q
end
def Walks(K:FRx)(G G0:Hp)(J:It)(ds:LPd):Prop:=∀(H1:Hp)(os1:LAd),Al H1 os1->Same G H1->Same G0 (offs H1 os1)->
  (∀(i:Nat)(d:PdX),ds[i]?=some d->J.go i H1/\∀x H2,J.yld i H1 x H2->Same H1 H2/\Rep K (offs H2 os1) x d)/\J.stop ds.length H1
def FI(X:Cx)(tg iter:Expr)(f:RLx):Prop:=∃wi:TI,PI X tg iter wi/\∀(σ:St)(H:Hp)(os:LAd)(ρ:Ro)(ds:LPd)(R:It->Hp->Prop),xo X.K H os σ ρ->f ρ=some ds->
  (∀J H',Same H H'->Walks X.K (offs H' os) (offs H' os) J ds->R J H')->wi σ H R
def FIB(X:Cx)(tg iter:Expr)(f:RLx):Prop:=∃wi:TI,PI X tg iter wi/\∀(σ:St)(H:Hp)(os:LAd)(ρ:Ro)(ds:LPd)(R:It->Hp->Prop),xo X.K H os σ ρ->f ρ=some ds->
  (∀J H',Same H H'->Walks X.K H' (offs H' os) J ds->R J H')->wi σ H R
theorem Walks.mono{K:FRx}{G G' G0:Hp}{J:It}{ds:LPd}(h:Walks K G G0 J ds)(e:Same G G'):Walks K G' G0 J ds:=λH1 os1 a s s0=>h H1 os1 a (e.trans s) s0
section
variable{X:Cx}{tg iter l:Expr}{f:RLx}{g:RPx}{p pos:Pos}
theorem FI.fib(h:FI X tg iter f):FIB X tg iter f:=by
 have⟨wi,p,q⟩:=h;exact⟨wi,p,λσ H os ρ ds R rel e k=>q σ H os ρ ds R rel e λJ H' s w=>k J H' s (w.mono (xa H' os))⟩
def yt(g:RPx):RLx:=λρ=>match g ρ with
 |some (.list ds)=>some ds
 |some (.tuple ds)=>some ds
 |_=>none
theorem jZ{K:FRx}{G G0:Hp}{t:Bool}{a:AdX}{xs:List V}{ds:LPd}(hS:SqB K t G a xs)(r:Reps K G0 xs ds):Walks K G G0 (ItB K t a) ds:=by
 intro H1 os1 al s s0;have h1:SqB K t H1 a xs:=s.sqB hS;refine⟨λi d hd=>?_,?_⟩
 ·have⟨v,e,rv⟩:=r.getD hd;cases t
  ·refine⟨⟨xs,v,h1,e⟩,λx H2 hy=>?_⟩;obtain⟨rfl,hy⟩:=hy
   have:=hy xs h1;rw[e] at this;cases this;exact⟨Same.refl _,rv.same s0⟩
  ·refine⟨⟨xs,v,h1,e⟩,λx H2 hy=>?_⟩;obtain⟨rfl,hy⟩:=hy
   have:=hy xs h1;rw[e] at this;cases this;exact⟨Same.refl _,rv.same s0⟩
 ·cases t
  ·exact⟨xs,h1,by rw[r.length];exact Nat.le_refl _⟩
  ·exact⟨xs,h1,by rw[r.length];exact Nat.le_refl _⟩
theorem ZL(hl:FE X l g):FI X tg l (yt g):=by
 have⟨t,pl,ql⟩:=hl;refine⟨_,zdU pl,λσ H os ρ ds R rel e k=>?_⟩;unfold yt at e;split at e
 ·rename_i es e1;cases e;refine ql σ H os ρ _ _ rel e1 λv H' s r=>?_
  cases r with
  |lst hS r=>exact⟨_,false,rfl,⟨_,(xa H' os).seq hS⟩,k _ H' s (jZ (t:=false) hS r)⟩
 ·rename_i es e1;cases e;refine ql σ H os ρ _ _ rel e1 λv H' s r=>?_
  cases r with
  |tup hS r=>exact⟨_,true,rfl,⟨_,(xa H' os).tup hS⟩,k _ H' s (jZ (t:=true) hS r)⟩
 ·cases e
theorem ym(hl:FB X l g):FIB X tg l (yt g):=by
 have⟨t,pl,ql⟩:=hl;refine⟨_,zdU pl,λσ H os ρ ds R rel e k=>?_⟩;unfold yt at e;split at e
 ·rename_i es e1;cases e;refine ql σ H os ρ _ _ rel e1 λv H' s r=>?_
  obtain⟨a,xs,rfl,hS,r⟩:=r.lst;exact⟨_,false,rfl,⟨_,hS⟩,k _ H' s (jZ (t:=false) hS r)⟩
 ·rename_i es e1;cases e;refine ql σ H os ρ _ _ rel e1 λv H' s r=>?_
  obtain⟨a,xs,rfl,hS,_,r⟩:=r.tup;exact⟨_,true,rfl,⟨_,hS⟩,k _ H' s (jZ (t:=true) hS r)⟩
 ·cases e
def jB(lo:Int)(n:Nat):List PyData:=(List.range n).map λi:Nat=>PyData.int (lo+i)
def xK(g:RLx):RLx:=λρ=>match g ρ with
 |some [.int j]=>if -(2 ^ 62)<=j/\j<2 ^ 62 then some (jB 0 j.toNat) else none
 |_=>none
def uy(g:RLx):RLx:=λρ=>match g ρ with
 |some [.int i,.int j]=>if -(2 ^ 62)<=i/\i<2 ^ 62/\-(2 ^ 62)<=j/\j<2 ^ 62 then some (jB i (j - i).toNat) else none
 |_=>none
theorem VG{lo:Int}{n i:Nat}{d:PdX}(h:(jB lo n)[i]?=some d):i<n/\d=.int (lo+i):=by
 unfold jB at h;rw[List.getElem?_map] at h;by_cases hi:i<n
 ·rw[List.getElem?_range hi] at h;cases h;exact⟨hi,rfl⟩
 ·rw[List.getElem?_eq_none (by simpa using Nat.le_of_not_lt hi)] at h;cases h
theorem zb6{lo:Int}{n:Nat}:(jB lo n).length=n:=by simp[jB]
theorem V5{K:FRx}{G G0:Hp}{lo:Int}{n:Nat}:Walks K G G0 (Itr lo n) (jB lo n):=by
 intro H1 os1 al s s0;refine⟨λi d hd=>?_,?_⟩
 ·have⟨h1,h2⟩:=VG hd;subst h2;refine⟨h1,λx H2 hy=>?_⟩;obtain⟨rfl,rfl⟩:=hy;exact⟨Same.refl _,.int _⟩
 ·rw[zb6];exact Nat.le_refl n
variable{a b:Expr}{ga:RLx}
theorem xb(hg:Gl X "range")(hm:X.mg "range"=none)(ha:FA X [a] ga)(hs:starEach [a] X.env=[(false,eval a X.env)]:=by rfl):FI X tg (.Call (.Name "range" p) [a] [] pos) (xK ga):=by
 have⟨t,pa,qa⟩:=ha;refine⟨_,zaM hg hm pa hs,λσ H os ρ ds R rel e k=>?_⟩;unfold xK at e;split at e
 ·rename_i j e1;split at e
  ·rename_i hc;cases e;refine qa σ H os ρ _ _ rel e1 λvs H' s r=>?_
   cases r with
   |cons h r=>cases r;cases h;exact⟨j,rfl,hc.1,hc.2,k _ H' s V5⟩
  ·cases e
 ·cases e
theorem zaS(hg:Gl X "range")(hm:X.mg "range"=none)(ha:FA X [a,b] ga)(hs:starEach [a,b] X.env=[(false,eval a X.env),(false,eval b X.env)]:=by rfl)(hs2:starEach [b] X.env=[(false,eval b X.env)]:=by rfl):FI X tg (.Call (.Name "range" p) [a,b] [] pos) (uy ga):=by
 have⟨t,pa,qa⟩:=ha;refine⟨_,zf0 hg hm pa hs hs2,λσ H os ρ ds R rel e k=>?_⟩;unfold uy at e;split at e
 ·rename_i i j e1;split at e
  ·rename_i hc;cases e;refine qa σ H os ρ _ _ rel e1 λvs H' s r=>?_
   cases r with
   |cons h r=>cases r with
    |cons h2 r=>cases r;cases h;cases h2;exact⟨i,j,rfl,hc,k _ H' s V5⟩
  ·cases e
 ·cases e
def Jk(xs ys:LPd):List PyData:=(xs.zip ys).map λp=>.tuple [p.1,p.2]
theorem zcQ{xs ys:LPd}{i:Nat}{d:PdX}(h:(Jk xs ys)[i]?=some d):∃x y,xs[i]?=some x/\ys[i]?=some y/\d=.tuple [x,y]:=by
 unfold Jk at h;rw[List.getElem?_map] at h;have⟨z,e1,e2⟩:=map_some h;obtain⟨h1,h2⟩:=List.getElem?_zip_eq_some.mp e1;exact⟨z.1,z.2,h1,h2,e2.symm⟩
theorem zcT{xs ys:LPd}:(Jk xs ys).length=min xs.length ys.length:=by simp[Jk]
theorem JM{K:FRx}{G G0:Hp}{t1 t2:Bool}{a b:AdX}{xs ys:List V}{ds es:LPd}(h1:SqB K t1 G a xs)(h2:SqB K t2 G b ys)(r1:Reps K G0 xs ds)(r2:Reps K G0 ys es):Walks K G G0 (Itz K t1 t2 a b) (Jk ds es):=by
 intro H1 os1 al s s0;have k1:SqB K t1 H1 a xs:=s.sqB h1;have k2:SqB K t2 H1 b ys:=s.sqB h2
 refine⟨λi d hd=>?_,?_⟩
 ·obtain⟨d1,d2,g1,g2,rfl⟩:=zcQ hd;have⟨v1,e1,q1⟩:=r1.getD g1;have⟨v2,e2,q2⟩:=r2.getD g2;refine⟨⟨xs,ys,v1,v2,k1,k2,e1,e2⟩,λx H2 hy=>?_⟩;obtain⟨p,rfl,hp,hy⟩:=hy;have e:=hy xs ys v1 v2 k1 k2 e1 e2;subst e;have s2:=zW hp (.tup [v1,v2])
  refine⟨s2,.tup (SqT.of ?_) (.cons ((q1.same s0).same (zl s2 os1)) (.cons ((q2.same s0).same (zl s2 os1)) .nil))⟩;rw[zt (al.new hp)];exact zE
 ·refine⟨xs,ys,k1,k2,?_⟩;rw[zcT,r1.length,r2.length];omega
def kindOf:PyData->Option (Bool×List PyData)
 | .list xs=>some (false,xs)
 | .tuple xs=>some (true,xs)
 |_=>none
def uB(t1 t2:Bool)(g:RLx):RLx:=λρ=>match g ρ with
 |some [x,y]=>match kindOf x,kindOf y with
  |some (k1,xs),some (k2,ys)=>if k1=t1/\k2=t2 then some (Jk xs ys) else none
  |_,_=>none
 |_=>none
theorem uw{K:FRx}{H:Hp}{os:LAd}{v:V}{d:PdX}{k:Bool}{xs:LPd}(r:jt K H os v d)(h:kindOf d=some (k,xs)):∃a us,v=.ref a/\SqB K k H a us/\Reps K (offs H os) us xs:=by
 unfold kindOf at h;split at h
 ·cases h;obtain⟨a,us,e,hS,r⟩:=r.lst;exact⟨a,us,e,hS,r⟩
 ·cases h;obtain⟨a,us,e,hS,_,r⟩:=r.tup;exact⟨a,us,e,hS,r⟩
 ·cases h
theorem zdn{K:FRx}{G:Hp}{v:V}{d:PdX}{k:Bool}{xs:LPd}(r:Rep K G v d)(h:kindOf d=some (k,xs)):∃a us,v=.ref a/\SqB K k G a us/\Reps K G us xs:=by
 unfold kindOf at h;split at h
 ·cases h;cases r with
  |lst hS r=>exact⟨_,_,rfl,hS,r⟩
 ·cases h;cases r with
  |tup hS r=>exact⟨_,_,rfl,hS,r⟩
 ·cases h
variable{tes:List Expr}{kk:Nat}{tp:Pos}
theorem Yc(t1 t2:Bool)(hg:Gl X "zip")(hm:X.mg "zip"=none)(ha:FAB X [a,b] ga)(hs:starEach [a,b] X.env=[(false,eval a X.env),(false,eval b X.env)]:=by rfl)(hs2:starEach [b] X.env=[(false,eval b X.env)]:=by rfl):FIB X (.Tuple tes kk tp) (.Call (.Name "zip" p) [a,b] [] pos) (uB t1 t2 ga):=by
 have⟨t,pa,qa⟩:=ha;refine⟨_,zbG t1 t2 hg hm pa hs hs2,λσ H os ρ ds R rel e k=>?_⟩;unfold uB at e;split at e
 ·rename_i x y e1;split at e
  ·rename_i k1 xs k2 ys e2 e3;split at e
   ·rename_i hc;cases e;obtain⟨rfl,rfl⟩:=hc;refine qa σ H os ρ _ _ rel e1 λvs H' s r=>?_
    obtain⟨v,u,rfl,r1,r2⟩:=r.two;obtain⟨a1,us,rfl,h1,q1⟩:=uw r1 e2;obtain⟨a2,ws,rfl,h2,q2⟩:=uw r2 e3;exact⟨a1,a2,rfl,⟨_,h1⟩,⟨_,h2⟩,k _ H' s (JM h1 h2 q1 q2)⟩
   ·cases e
  ·cases e
 ·cases e
theorem zlT(t1 t2:Bool)(hg:Gl X "zip")(hm:X.mg "zip"=none)(ha:FA X [a,b] ga)(hs:starEach [a,b] X.env=[(false,eval a X.env),(false,eval b X.env)]:=by rfl)(hs2:starEach [b] X.env=[(false,eval b X.env)]:=by rfl):FI X (.Tuple tes kk tp) (.Call (.Name "zip" p) [a,b] [] pos) (uB t1 t2 ga):=by
 have⟨t,pa,qa⟩:=ha;refine⟨_,zbG t1 t2 hg hm pa hs hs2,λσ H os ρ ds R rel e k=>?_⟩;unfold uB at e;split at e
 ·rename_i x y e1;split at e
  ·rename_i k1 xs k2 ys e2 e3;split at e
   ·rename_i hc;cases e;obtain⟨rfl,rfl⟩:=hc;refine qa σ H os ρ _ _ rel e1 λvs H' s r=>?_
    cases r with
    |cons r1 r=>cases r with
     |cons r2 r=>
      cases r;obtain⟨a1,us,rfl,h1,q1⟩:=zdn r1 e2;obtain⟨a2,ws,rfl,h2,q2⟩:=zdn r2 e3;exact⟨a1,a2,rfl,⟨_,(xa H' os).sqB h1⟩,⟨_,(xa H' os).sqB h2⟩,k _ H' s (JM h1 h2 q1 q2)⟩
   ·cases e
  ·cases e
 ·cases e
end
inductive Sets(K:FRx)(G:Hp):List Nat->St->Ro->St->Ro->Prop
 |nil {σ:St} {ρ:Ro}:Sets K G [] σ ρ σ ρ
 |set {is:LNt} {σ σ':St} {ρ ρ':Ro} {i:Nat} {v:V} {d:PdX}:Rep K G v d->Sets K G is (σ.set i (some v)) (ρ.set i (.pu d)) σ' ρ'->Sets K G (i::is) σ ρ σ' ρ'
theorem Sets.trans{K:FRx}{G:Hp}{is js:LNt}{σ σ' σ2:St}{ρ ρ' ρ2:Ro}(h:Sets K G is σ ρ σ' ρ')(h2:Sets K G js σ' ρ' σ2 ρ2):Sets K G (is++js) σ ρ σ2 ρ2:=by
 induction h with
 |nil=>exact h2
 |set r _ ih=>exact .set r (ih h2)
theorem Sets.tail{K:FRx}{G:Hp}{is:LNt}{T:Nat}{σ σ':St}{ρ ρ':Ro}(h:Sets K G is σ ρ σ' ρ')(hT:∀i∈is,i<T):∀{ts c:St},ts.length=T->σ=ts++c->∃ts':St,ts'.length=T/\σ'=ts'++c:=by
 induction h with
 |nil=>exact λht e=>⟨_,ht,e⟩
 |set r _ ih=>
  intro ts c ht e;rename_i is σ σ' ρ ρ' i v d _;refine ih (λj hj=>hT j (List.mem_cons_of_mem _ hj)) (ts:=ts.set i (some v)) (c:=c) (by rw[List.length_set];exact ht) ?_;have hi:i<ts.length:=by rw[ht];exact hT i List.mem_cons_self
  rw[e,List.set_append_left _ _ hi]
theorem xo.set{K:FRx}{H:Hp}{os:LAd}{σ:St}{ρ:Ro}(h:xo K H os σ ρ){i:Nat}{v:V}{d:PdX}(r:Rep K (offs H os) v d):xo K H os (σ.set i (some v)) (ρ.set i (.pu d)) where
 pu:=λj e q=>by
  rw[List.getElem?_set] at q ⊢;by_cases hj:i=j
  ·subst hj;rw[if_pos rfl] at q ⊢;by_cases hl:i<ρ.length
   ·rw[if_pos hl] at q;cases q;rw[if_pos (by rw[h.len];exact hl)];exact⟨v,rfl,r⟩
   ·rw[if_neg hl] at q;cases q
  ·rw[if_neg hj] at q ⊢;exact h.pu j e q
 mu:=λj e q m=>by
  rw[List.getElem?_set] at q ⊢;by_cases hj:i=j
  ·subst hj;rw[if_pos rfl] at q;by_cases hl:i<ρ.length
   ·rw[if_pos hl] at q;cases q;cases m
   ·rw[if_neg hl] at q;cases q
  ·rw[if_neg hj] at q ⊢;exact h.mu j e q m
 al:=h.al
 len:=by rw[List.length_set,List.length_set];exact h.len
theorem xo.sets{K:FRx}{H:Hp}{os:LAd}{is:LNt}{σ σ':St}{ρ ρ':Ro}(s:Sets K (offs H os) is σ ρ σ' ρ')(h:xo K H os σ ρ):xo K H os σ' ρ':=by
 induction s with
 |nil=>exact h
 |set r _ ih=>exact ih (h.set r)
def gF(K:FRx)(is:LNt)(b:PyData->Ro->Option Ro):TG:=λv σ H Q=>∃os d ρ ρ',Rep K (offs H os) v d/\b d ρ=some ρ'/\∀σ',Sets K (offs H os) is σ ρ σ' ρ'->Q σ' H
def FG(X:Cx)(tg:Expr)(is:LNt)(b:PyData->Ro->Option Ro):Prop:=PG X tg (gF X.K is b)
theorem ze6{X:Cx}{tg:Expr}{g g':TG}(h:PG X tg g)(w:∀v σ H Q,g' v σ H Q->g v σ H Q):PG X tg g':=λpins s σ H v u Q I r q=>h pins s σ H v u Q I r (w _ _ _ _ q)
def bN(i:Nat):PyData->Ro->Option Ro:=λd ρ=>some (ρ.set i (.pu d))
def b2(b c:PyData->Ro->Option Ro):PyData->Ro->Option Ro:=λd ρ=>match d with
 | .tuple [x,y]=>(b x ρ).bind λρ'=>c y ρ'
 |_=>none
section
variable{X:Cx}{pos p1 p2:Pos}{kk:Nat}
theorem zU(i:Nat){x:Str}(hN:X.N.Nodup)(hi:X.N[i]?=some x:=by rfl)(hx:Loc X.env.scope x:=by trivial)(hf:FNx X x:=by trivial):FG X (.Name x pos) [i] (bN i):=by
 refine ze6 (zjW hN hi hx hf) λv σ H Q h=>?_
 have⟨os,d,ρ,ρ',r,e,k⟩:=h;cases e;exact k _ (.set r .nil)
theorem wH{t1 t2:Expr}{is js:LNt}{b c:PyData->Ro->Option Ro}(hc:X.calm=true)(h1:FG X t1 is b)(h2:FG X t2 js c)(hn:(assignEach [t1,t2] X.env).length=2:=by rfl)(hst:(assignEach [t1,t2] X.env).findIdx? (·.1)=none:=by rfl)(he:(assignEach [t1,t2] X.env).map (·.2)=assign t1 X.env::(assignEach [t2] X.env).map (·.2):=by rfl)(he2:(assignEach [t2] X.env).map (·.2)=assign t2 X.env::(assignEach [] X.env).map (·.2):=by rfl):FG X (.Tuple [t1,t2] kk pos) (is++js) (b2 b c):=by
 refine ze6 (zlY (n:=2) hc (zdC h1 (zdC h2 ziN he2) he) hn hst) λv σ H Q h=>?_
 have⟨os,d,ρ,ρ',r,e,k⟩:=h;unfold b2 at e;split at e
 ·rename_i x y;have⟨ρ1,e1,e2⟩:=bind_some e;cases r with
  |tup hS r=>cases r with
   |cons r1 r=>cases r with
    |cons r2 r=>
     cases r;refine⟨_,_,rfl,(xa H os).tup hS,rfl,_,_,rfl,os,x,ρ,ρ1,r1,e1,λσ1 s1=>?_⟩;exact⟨_,_,rfl,os,y,ρ1,ρ',r2,e2,λσ2 s2=>⟨rfl,k σ2 (s1.trans s2)⟩⟩
 ·cases e
end
def compEnv(T:Nat)(F:LNt)(ρ:Ro):Ro:=List.replicate T .no++F.map λj=>(ρ[j]?).getD .no
def tF(K:FRx)(f:RPx):TE:=λσ H Q=>∃os ρ d,xo K H os σ ρ/\f ρ=some d/\∀v H',Same H H'->Rep K (offs H' os) v d->Q v H'
theorem FE.pe{X:Cx}{e:Expr}{f:RPx}(h:FE X e f):PE X e (tF X.K f):=by
 have⟨t,p,q⟩:=h;intro pins s σ H Q I z;have⟨os,ρ,d,R,e1,k⟩:=z;exact p pins s σ H Q I (q σ H os ρ d Q R e1 k)
def zR(T:Nat)(F:LNt)(fi:RLx)(b:PyData->Ro->Option Ro)(fe:RPx):RLx:=λρ=>
 (fi ρ).bind λds=>if ds.length<=16777216 then Jj (λd=>(b d (compEnv T F ρ)).bind fe) ds else none
theorem YN{α β:Type}{h:α->Option β}:∀{xs:List α} {ys:List β},Jj h xs=some ys->ys.length=xs.length
 |[],_,e=>by cases e;rfl
 |x::r,_,e=>by
  have⟨y,e1,e⟩:=bind_some e;have⟨ys,e2,e3⟩:=map_some e;subst e3;simp[YN e2]
theorem Y9{α β:Type}{h:α->Option β}:∀{xs:List α} {ys:List β} {i:Nat} {x:α},Jj h xs=some ys->xs[i]?=some x->∃y,ys[i]?=some y/\h x=some y
 |[],_,_,_,_,e=>by simp at e
 |x::r,_,i,_,e,g=>by
  have⟨y,e1,e⟩:=bind_some e;have⟨ys,e2,e3⟩:=map_some e;subst e3;cases i with
  |zero=>simp at g;subst g;exact⟨y,rfl,e1⟩
  |succ i=>
   obtain⟨z,h1,h2⟩:=Y9 (i:=i) e2 (by simpa using g);exact⟨z,by simpa using h1,h2⟩
theorem ZG{K:FRx}{H H':Hp}{os:LAd}{σ ts:St}{ρ:Ro}{D:AdX}{xs:List V}(T:Nat)(F:LNt)(R:xo K H os σ ρ)(hD:H D=none)(s:Same H H')(hx:H' D=some (.lst xs))(ht:ts.length=T):xo K H' (D::os) (ts++F.map λj=>(σ[j]?).join) (compEnv T F ρ):=by
 have so:Same (offs H os) (offs H' (D::os)):=λb o z=>by
  by_cases hb:b∈os
  ·rw[xw hb] at z;cases z
  ·rw[zt hb] at z;rw[zt]
   ·exact s b o z
   ·intro w;rcases List.mem_cons.mp w with w|w
    ·rw[w,hD] at z;cases z
    ·exact hb w
 refine⟨λi d q=>?_,λi c q m=>?_,λa ha=>?_,?_⟩
 ·unfold compEnv at q;by_cases hi:i<T
  ·rw[List.getElem?_append_left (by simpa using hi),List.getElem?_replicate,if_pos hi] at q;cases q
  ·rw[List.getElem?_append_right (by simpa using Nat.le_of_not_lt hi),List.length_replicate,List.getElem?_map] at q;rw[List.getElem?_append_right (by rw[ht];exact Nat.le_of_not_lt hi),ht,List.getElem?_map];cases ej:F[i - T]? with
   |none=>rw[ej] at q;cases q
   |some j=>
    rw[ej] at q;cases er:ρ[j]? with
    |none=>rw[Option.map_some,er] at q;cases q
    |some c=>
     rw[Option.map_some,er] at q;have ec:c=.pu d:=Option.some.inj q;subst ec;have⟨v,h1,h2⟩:=R.pu j d er
     exact⟨v,by rw[Option.map_some,h1];rfl,h2.same so⟩
 ·unfold compEnv at q;by_cases hi:i<T
  ·rw[List.getElem?_append_left (by simpa using hi),List.getElem?_replicate,if_pos hi] at q;cases q;cases m
  ·rw[List.getElem?_append_right (by simpa using Nat.le_of_not_lt hi),List.length_replicate,List.getElem?_map] at q;rw[List.getElem?_append_right (by rw[ht];exact Nat.le_of_not_lt hi),ht,List.getElem?_map];cases ej:F[i - T]? with
   |none=>rw[ej] at q;cases q
   |some j=>
    rw[ej] at q;cases er:ρ[j]? with
    |none=>rw[Option.map_some,er] at q;cases q;cases m
    |some c'=>
     rw[Option.map_some,er] at q;have ec:c'=c:=Option.some.inj q;subst ec;have⟨a,o,h1,h2,h3,h4⟩:=R.mu j c' er m
     exact⟨a,o,by rw[Option.map_some,h1];rfl,List.mem_cons_of_mem _ h2,s _ _ h3,h4.same so⟩
 ·rcases List.mem_cons.mp ha with z|z
  ·subst z;exact⟨_,hx⟩
  ·have⟨o,e⟩:=R.al a z;exact⟨o,s _ _ e⟩
 ·simp[compEnv,ht]
theorem u6{K:FRx}{T:Nat}{F:LNt}{b:PyData->Ro->Option Ro}{fe:RPx}{σ:St}{ρ:Ro}{H1:Hp}{os:LAd}{D:AdX}{is:LNt}{k:Addr->Hp->Prop}{J:It}{ds rs:LPd}(his:∀i∈is,i<T)(R:xo K H1 os σ ρ)(hn:ds.length<=16777216)(hD:H1 D=none)(W:Walks K H1 (offs H1 os) J ds)(hm:Jj (λd=>(b d (compEnv T F ρ)).bind fe) ds=some rs)(fin:∀H' xs,Same H1 H'->H' D=some (.lst xs)->Reps K (offs H' (D::os)) xs rs->k D H'):zg7 T F (gF K is b) (tF K fe) k σ H1 D J:=by
 have hlr:=YN hm;have so:∀H',Same H1 H'->Same (offs H1 os) (offs H' (D::os)):=λH' s c o z=>by
  by_cases hb:c∈os
  ·rw[xw hb] at z;cases z
  ·rw[zt hb] at z;rw[zt]
   ·exact s c o z
   ·intro w;rcases List.mem_cons.mp w with w|w
    ·rw[w,hD] at z;cases z
    ·exact hb w
 have al:∀H' xs,Same H1 H'->H' D=some (.lst xs)->Al H' (D::os):=λH' xs s hx a ha=>by
  rcases List.mem_cons.mp ha with z|z
  ·subst z;exact⟨_,hx⟩
  ·have⟨o,e⟩:=R.al a z;exact⟨o,s _ _ e⟩
 refine⟨λi m σ' H'=>m=ds.length - i/\i<=ds.length/\(∃ts:St,ts.length=T/\σ'=ts++F.map λj=>(σ[j]?).join)/\Same H1 H'/\∃xs,H' D=some (.lst xs)/\Reps K (offs H' (D::os)) xs (rs.take i),
  ⟨ds.length,rfl,Nat.zero_le _,⟨List.replicate T none,by simp,rfl⟩,zW hD _,[],zE,.nil⟩,?_⟩
 rintro i m σ' H' ⟨rfl,hi,⟨ts,hts,rfl⟩,sm,xs,hx,rp⟩;have hl:xs.length=i:=by
  have:=rp.length;rw[List.length_take,hlr] at this;omega
 obtain⟨w1,w2⟩:=W H' (D::os) (al H' xs sm hx) sm (so H' sm);by_cases hlt:i<ds.length
 ·obtain⟨d,hd⟩:∃d,ds[i]?=some d:=⟨_,List.getElem?_eq_getElem hlt⟩;have⟨g1,g2⟩:=w1 i d hd;have⟨r,hr,e⟩:=Y9 hm hd;have⟨ρ',e1,e2⟩:=bind_some e;refine .inr ⟨g1,λσ2 H2=>i+1<=ds.length/\(∃ts:St,ts.length=T/\σ2=ts++F.map λj=>(σ[j]?).join)/\Same H1 H2/\∃xs,H2 D=some (.lst xs)/\Reps K (offs H2 (D::os)) xs (rs.take (i+1)),?_,?_⟩
  ·rintro σ2 H2 ⟨h1,h2,h3,h4⟩;exact⟨ds.length - (i+1),by omega,rfl,h1,h2,h3,h4⟩
  ·intro x H2 hy;have⟨s2,rx⟩:=g2 x H2 hy;refine⟨D::os,d,compEnv T F ρ,ρ',rx,e1,λσ2 st=>?_⟩;have R2:xo K H2 (D::os) (ts++F.map λj=>(σ[j]?).join) (compEnv T F ρ):=ZG T F R hD (sm.trans s2) (s2 _ _ hx) hts;have hts2:∃ts':St,ts'.length=T/\σ2=ts'++F.map λj=>(σ[j]?).join:=st.tail his hts rfl
   refine⟨D::os,ρ',r,R2.sets st,e2,λv H4 s4 rv=>?_⟩;refine⟨xs,s4 _ _ (s2 _ _ hx),?_,hlt,hts2,((sm.trans s2).trans s4).V8 hD _,_,zE,?_⟩
   ·rw[hl];show i<16777216
    omega
   ·rw[je,List.take_add_one,hr];exact(rp.same (zl (s2.trans s4) _)).append (.cons rv .nil)
 ·have e:i=ds.length:=by omega
  subst e;refine .inl ⟨w2,fin H' xs sm hx ?_⟩;rw[<-hlr,List.take_length] at rp;exact rp
section
variable{X:Cx}{elt tg iter:Expr}{scope:Scope}{pos:Pos}{Ts:LSr}{F:LNt}{is:LNt}{fi:RLx}{b:PyData->Ro->Option Ro}{fe:RPx}
theorem yo(hc:X.calm=true)(hi:FIB X tg iter fi)(S:ya X scope)(hF:∀j∈F,∃x,X.N[j]?=some x/\scope.names.lookup x=some .free)(hg:∀cl C ex s H,FG (zV X (Ts++F.map λj=>X.N.getD j "") scope cl C ex s H) tg is b)(he:∀cl C ex s H,FE (zV X (Ts++F.map λj=>X.N.getD j "") scope cl C ex s H) elt fe)(his:∀i∈is,i<Ts.length:=by decide)(hs:FSx X iter:=by exact λ_=>rfl):FL X (.ListComp elt [⟨tg,iter,[],0⟩] scope pos) (zR Ts.length F fi b fe):=by
 have⟨wi,pi,qi⟩:=hi;refine⟨_,zfm (Ts:=Ts) (F:=F) (g:=gF X.K is b) (te:=tF X.K fe) hc pi S hF hg (λcl C ex s H=>(he cl C ex s H).pe) hs,λσ H os ρ rs Q R q k=>?_⟩;have⟨ds,e1,q⟩:=bind_some q;split at q
 ·rename_i hl;refine qi σ H os ρ ds _ R e1 λJ H' s W D hD=>?_
  exact u6 his (R.same s) hl hD W q λH2 xs s2 hx r=>k D xs H2 (s.free hD) (s.trans s2) hx r
 ·cases q
end
structure SRo(K:FRx)(H0:Hp)(os0:LAd)(H:Hp)(os:LAd)(σ:St)(ρ:Ro):Prop where
 rel:xo K H os σ ρ
 sm:Same H0 H
 sub:∀a∈os0,a∈os
 new:∀a∈os,a∈os0\/H0 a=none
 al0:Al H0 os0
 own:∀(i:Nat)(c:Sl),ρ[i]?=some c->isM c=true->∀a,σ[i]?=some (some (.ref a))->H0 a=none
 ap:∀(i j:Nat)(c c':Sl),i≠j->ρ[i]?=some c->ρ[j]?=some c'->isM c=true->isM c'=true->∀a,σ[i]?=some (some (.ref a))->σ[j]?≠some (some (.ref a))
inductive Fl where
 |nx (ρ:Ro)|rt (d:PdX)|rl (ds:LPd)
abbrev RFx:=Ro->Option Fl
def Zk(K:FRx)(H0:Hp)(os0:LAd)(G:Hp)(D:Ends):Fl->Prop
 | .nx ρ'=>∀σ' H' os',SRo K H0 os0 H' os' σ' ρ'->Same G (offs H' os')->D.nx σ' H'
 | .rt d=>∀v H',Same H0 H'->Rep K (offs H' os0) v d->D.rt v H'
 | .rl ds=>∀a xs H',H0 a=none->Same H0 H'->H' a=some (.lst xs)->Reps K (offs H' (a::os0)) xs ds->D.rt (.ref a) H'
theorem Zk.mono{K:FRx}{H0:Hp}{os0:LAd}{G G':Hp}{D:Ends}{r:Fl}(k:Zk K H0 os0 G D r)(s:Same G G'):Zk K H0 os0 G' D r:=by
 cases r with
 |nx ρ=>exact λσ' H' os' R z=>k σ' H' os' R (s.trans z)
 |rt d=>exact k
 |rl d=>exact k
def FS(X:Cx)(st:Stmt)(f:RFx):Prop:=∃t:TS,PS X st t/\∀(H0:Hp)(os0:LAd)(D:Ends)(σ:St)(H:Hp)(os:LAd)(ρ:Ro)(r:Fl),SRo X.K H0 os0 H os σ ρ->f ρ=some r->Zk X.K H0 os0 (offs H os) D r->t D σ H
def FSs(X:Cx)(sts:List Stmt)(f:RFx):Prop:=∃t:TS,PSs X sts t/\∀(H0:Hp)(os0:LAd)(D:Ends)(σ:St)(H:Hp)(os:LAd)(ρ:Ro)(r:Fl),SRo X.K H0 os0 H os σ ρ->f ρ=some r->Zk X.K H0 os0 (offs H os) D r->t D σ H
section
variable{K:FRx}{H0 H H':Hp}{os0 os:LAd}{σ σ':St}{ρ ρ':Ro}
theorem jb{a:AdX}(n:H a=none)(s:Same H H'):Same (offs H os) (offs H' (a::os)):=λb o z=>by
 by_cases hb:b∈os
 ·rw[xw hb] at z;cases z
 ·rw[zt hb] at z;rw[zt]
  ·exact s b o z
  ·intro w;rcases List.mem_cons.mp w with w|w
   ·rw[w,n] at z;cases z
   ·exact hb w
theorem SRo.same(h:SRo K H0 os0 H os σ ρ)(e:Same H H'):SRo K H0 os0 H' os σ ρ:=⟨h.rel.same e,h.sm.trans e,h.sub,h.new,h.al0,h.own,h.ap⟩
theorem vn{ρ:Ro}{i j:Nat}{d:PdX}{c:Sl}(q:(ρ.set i (.pu d))[j]?=some c)(m:isM c=true):i≠j/\ρ[j]?=some c:=by
 rw[List.getElem?_set] at q;by_cases hj:i=j
 ·subst hj;rw[if_pos rfl] at q;by_cases hl:i<ρ.length
  ·rw[if_pos hl] at q;cases q;cases m
  ·rw[if_neg hl] at q;cases q
 ·rw[if_neg hj] at q;exact⟨hj,q⟩
theorem SRo.set(h:SRo K H0 os0 H os σ ρ){i:Nat}{v:V}{d:PdX}(r:Rep K (offs H os) v d):SRo K H0 os0 H os (σ.set i (some v)) (ρ.set i (.pu d)) where
 rel:=h.rel.set r
 sm:=h.sm
 sub:=h.sub
 new:=h.new
 al0:=h.al0
 own:=λj c q m a e=>by
  have⟨hj,q⟩:=vn q m;rw[List.getElem?_set_ne hj] at e;exact h.own j c q m a e
 ap:=λj k c c' hjk q1 q2 m1 m2 a e1 e2=>by
  have⟨h1,q1⟩:=vn q1 m1;have⟨h2,q2⟩:=vn q2 m2;rw[List.getElem?_set_ne h1] at e1;rw[List.getElem?_set_ne h2] at e2;exact h.ap j k c c' hjk q1 q2 m1 m2 a e1 e2
theorem SRo.sets{is:LNt}(s:Sets K (offs H os) is σ ρ σ' ρ')(h:SRo K H0 os0 H os σ ρ):SRo K H0 os0 H os σ' ρ':=by
 induction s with
 |nil=>exact h
 |set r _ ih=>exact ih (h.set r)
theorem yf{ρ:Ro}{i j:Nat}{d c:Sl}(q:(ρ.set i d)[j]?=some c):(i=j/\i<ρ.length/\d=c)\/(i≠j/\ρ[j]?=some c):=by
 rw[List.getElem?_set] at q;by_cases hj:i=j
 ·subst hj;rw[if_pos rfl] at q;by_cases hl:i<ρ.length
  ·rw[if_pos hl] at q;cases q;exact .inl ⟨rfl,hl,rfl⟩
  ·rw[if_neg hl] at q;cases q
 ·rw[if_neg hj] at q;exact .inr ⟨hj,q⟩
theorem ZI{ρ:Ro}{i j:Nat}{d:Sl}{c:PdX}(m:isM d=true)(q:(ρ.set i d)[j]?=some (.pu c)):i≠j/\ρ[j]?=some (.pu c):=by
 rcases yf q with⟨rfl,hl,rfl⟩|⟨hj,q⟩
 ·cases m
 ·exact⟨hj,q⟩
theorem SRo.setM(h:SRo K H0 os0 H os σ ρ){i:Nat}{a:AdX}{o:HO}{d:Sl}(md:isM d=true)(n:H a=none)(s:Same H H')(hx:H' a=some o)(r:COk K (offs H' (a::os)) o d):SRo K H0 os0 H' (a::os) (σ.set i (some (.ref a))) (ρ.set i d):=by
 have na:a∉os:=h.rel.al.new n;have so:Same (offs H os) (offs H' (a::os)):=jb n s
 have n0:H0 a=none:=h.sm.free n;refine⟨⟨λj c q=>?_,λj c q m=>?_,λb hb=>?_,?_⟩,h.sm.trans s,λb hb=>List.mem_cons_of_mem _ (h.sub b hb),λb hb=>?_,h.al0,λj c q m b e=>?_,λj k c c' hjk q1 q2 m1 m2 b e1 e2=>?_⟩
 ·have⟨hj,q⟩:=ZI md q;have⟨v,h1,h2⟩:=h.rel.pu j c q;exact⟨v,by rw[List.getElem?_set_ne hj];exact h1,h2.same so⟩
 ·rcases yf q with⟨rfl,hl,rfl⟩|⟨hj,q⟩
  ·exact⟨a,o,by rw[List.getElem?_set_self (by rw[h.rel.len];exact hl)],List.mem_cons_self,hx,r⟩
  ·have⟨b,o',h1,h2,h3,h4⟩:=h.rel.mu j c q m;exact⟨b,o',by rw[List.getElem?_set_ne hj];exact h1,List.mem_cons_of_mem _ h2,s _ _ h3,h4.same so⟩
 ·rcases List.mem_cons.mp hb with z|z
  ·subst z;exact⟨_,hx⟩
  ·have⟨o,e⟩:=h.rel.al b z;exact⟨o,s _ _ e⟩
 ·rw[List.length_set,List.length_set];exact h.rel.len
 ·rcases List.mem_cons.mp hb with z|z
  ·subst z;exact .inr n0
  ·exact h.new b z
 ·rcases yf q with⟨rfl,hl,rfl⟩|⟨hj,q⟩
  ·rw[List.getElem?_set_self (by rw[h.rel.len];exact hl)] at e;cases e;exact n0
  ·rw[List.getElem?_set_ne hj] at e;exact h.own j c q m b e
 ·rcases yf q1 with⟨rfl,hl,rfl⟩|⟨hj,q1⟩
  ·rw[List.getElem?_set_self (by rw[h.rel.len];exact hl)] at e1;cases e1;rcases yf q2 with⟨z,_,_⟩|⟨hk,q2⟩
   ·exact hjk z
   ·rw[List.getElem?_set_ne hk] at e2;have⟨b,o',h1,h2,h3,h4⟩:=h.rel.mu k c' q2 m2;rw[e2] at h1;cases h1;exact na h2
  ·rw[List.getElem?_set_ne hj] at e1;rcases yf q2 with⟨z,hl,_⟩|⟨hk,q2⟩
   ·subst z;rw[List.getElem?_set_self (by rw[h.rel.len];exact hl)] at e2;cases e2;have⟨b,o',h1,h2,h3,h4⟩:=h.rel.mu j c q1 m1;rw[e1] at h1;cases h1;exact na h2
   ·rw[List.getElem?_set_ne hk] at e2;exact h.ap j k c c' hjk q1 q2 m1 m2 b e1 e2
theorem SRo.W5(h:SRo K H0 os0 H os σ ρ){i:Nat}{a:AdX}{xs:List V}{ds:LPd}(n:H a=none)(s:Same H H')(hx:H' a=some (.lst xs))(r:Reps K (offs H' (a::os)) xs ds):SRo K H0 os0 H' (a::os) (σ.set i (some (.ref a))) (ρ.set i (.ow ds)):=h.setM (d:=.ow ds) rfl n s hx r
theorem SRo.znn(h:SRo K H0 os0 H os σ ρ){i:Nat}{a:AdX}{o':HO}{d d':Sl}(md:isM d=true)(md':isM d'=true)(q:ρ[i]?=some d)(e:σ[i]?=some (some (.ref a)))(r:COk K (offs H os) o' d'):SRo K H0 os0 (upd H a o') os σ (ρ.set i d'):=by
 have⟨a',o,e',ha,hx,rx⟩:=h.rel.mu i d q md;rw[e] at e';cases e';have n0:=h.own i d q md a e;have hi:i<ρ.length:=(List.getElem?_eq_some_iff.mp q).1
 have eo:offs (upd H a o') os=offs H os:=yF ha;refine⟨⟨λj c q=>?_,λj c q' m=>?_,λb hb=>?_,?_⟩,λb o z=>?_,h.sub,h.new,h.al0,λj c q' m b z=>?_,λj k c c' hjk q1 q2 m1 m2 b z1 z2=>?_⟩
 ·have⟨hj,q⟩:=ZI md' q;rw[eo];exact h.rel.pu j c q
 ·rcases yf q' with⟨rfl,hl,rfl⟩|⟨hj,q'⟩
  ·exact⟨a,o',e,ha,zE,by rw[eo];exact r⟩
  ·have⟨b,o2,h1,h2,h3,h4⟩:=h.rel.mu j c q' m;have ne:b≠a:=λz=>h.ap i j d c hj q q' md m a e (by rw[h1,z])
   exact⟨b,o2,h1,h2,by rw[zO ne];exact h3,by rw[eo];exact h4⟩
 ·by_cases hb':b=a
  ·subst hb';exact⟨_,zE⟩
  ·rw[zO hb'];exact h.rel.al b hb
 ·rw[List.length_set];exact h.rel.len
 ·rw[zO (λw=>by rw[w,n0] at z;cases z)];exact h.sm b o z
 ·rcases yf q' with⟨rfl,hl,rfl⟩|⟨hj,q'⟩
  ·exact h.own i d q md b z
  ·exact h.own j c q' m b z
 ·rcases yf q1 with⟨rfl,hl,rfl⟩|⟨hj,q1⟩
  ·rcases yf q2 with⟨z,_,_⟩|⟨hk,q2⟩
   ·exact hjk z
   ·exact h.ap i k d c' hjk q q2 md m2 b z1 z2
  ·rcases yf q2 with⟨z,hl,_⟩|⟨hk,q2⟩
   ·subst z;exact h.ap j i c d hjk q1 q m1 md b z1 z2
   ·exact h.ap j k c c' hjk q1 q2 m1 m2 b z1 z2
theorem SRo.chg(h:SRo K H0 os0 H os σ ρ){i:Nat}{a:AdX}{ys:List V}{ds es:LPd}(q:ρ[i]?=some (.ow ds))(e:σ[i]?=some (some (.ref a)))(r:Reps K (offs H os) ys es):SRo K H0 os0 (upd H a (.lst ys)) os σ (ρ.set i (.ow es)):=h.znn (d:=.ow ds) (d':=.ow es) rfl rfl q e r
def frz(i:Nat)(ρ:Ro):Ro:=match ρ[i]? with |some (.ow ds)=>ρ.set i (.pu (.list ds))|_=>ρ
theorem SRo.frz(h:SRo K H0 os0 H os σ ρ)(i:Nat):∃os',SRo K H0 os0 H os' σ (Fu.frz i ρ)/\Same (offs H os) (offs H os'):=by
 unfold Fu.frz;split
 ·rename_i ds q;have⟨a,xs,e,ha,hx,r⟩:=h.rel.ow i ds q;have n0:=h.own i _ q rfl a e;have sub:∀b∈os.filter (λc=>c≠a),b∈os:=λb hb=>(List.mem_filter.mp hb).1
  have so:Same (offs H os) (offs H (os.filter λc=>c≠a)):=y3 sub;have hi:i<ρ.length:=(List.getElem?_eq_some_iff.mp q).1
  have an:a∉os.filter (λc=>c≠a):=λz=>by simpa using (List.mem_filter.mp z).2
  refine⟨os.filter λc=>c≠a,⟨⟨λj c q'=>?_,λj c q' m=>?_,λb hb=>h.rel.al b (sub b hb),?_⟩,h.sm,λb hb=>?_,λb hb=>h.new b (sub b hb),h.al0,λj c q' m b z=>?_,λj k c c' hjk q1 q2 m1 m2 b z1 z2=>?_⟩,so⟩
  ·rw[List.getElem?_set] at q';by_cases hj:i=j
   ·subst hj;rw[if_pos rfl,if_pos hi] at q';cases q';exact⟨.ref a,e,.lst (SqL.of (by rw[zt an];exact hx)) (r.same so)⟩
   ·rw[if_neg hj] at q';have⟨v,h1,h2⟩:=h.rel.pu j c q';exact⟨v,h1,h2.same so⟩
  ·have⟨hj,q'⟩:=vn q' m;have⟨b,o2,h1,h2,h3,h4⟩:=h.rel.mu j c q' m;have ne:b≠a:=λz=>h.ap i j _ c hj q q' rfl m a e (by rw[h1,z])
   exact⟨b,o2,h1,List.mem_filter.mpr ⟨h2,by simpa using ne⟩,h3,h4.same so⟩
  ·rw[List.length_set];exact h.rel.len
  ·refine List.mem_filter.mpr ⟨h.sub b hb,?_⟩
   have:b≠a:=λz=>by
    have⟨o,w⟩:=h.al0 b hb;rw[z,n0] at w;cases w
   simpa using this
  ·have⟨hj,q'⟩:=vn q' m;exact h.own j c q' m b z
  ·have⟨h1,q1⟩:=vn q1 m1;have⟨h2,q2⟩:=vn q2 m2;exact h.ap j k c c' hjk q1 q2 m1 m2 b z1 z2
 ·exact⟨os,h,Same.refl _⟩
end
section
variable{X:Cx}{st:Stmt}{rest:List Stmt}{f g:RFx}{e:Expr}{pos:Pos}
def sq(f g:RFx):RFx:=λρ=>match f ρ with |some (.nx ρ')=>g ρ'|r=>r
def s0:RFx:=λρ=>some (.nx ρ)
theorem xi:FSs X [] s0:=⟨_,zbW,λ_ _ _ _ _ _ _ _ R q k=>by cases q;exact k _ _ _ R (Same.refl _)⟩
theorem zo(h:FS X st f):FSs X [st] f:=by
 have⟨t,p,q⟩:=h;exact⟨t,zbj p,q⟩
theorem zi(h:FS X st f)(h2:FSs X rest g):FSs X (st::rest) (sq f g):=by
 have⟨t,p,q⟩:=h;have⟨t2,p2,q2⟩:=h2;refine⟨_,wc p p2,λH0 os0 D σ H os ρ r R e k=>?_⟩;unfold sq at e;split at e
 ·rename_i ρ' e1;exact q H0 os0 { D with nx:=t2 D } σ H os ρ _ R e1 λσ' H' os' R' z=>q2 H0 os0 D σ' H' os' ρ' r R' e (k.mono z)
 ·cases r with
  |nx ρ'=>rename_i hn;exact absurd e (hn ρ')
  |rt d=>exact q H0 os0 { D with nx:=t2 D } σ H os ρ _ R e k
  |rl d=>exact q H0 os0 { D with nx:=t2 D } σ H os ρ _ R e k
theorem FS.frz(i:Nat)(h:FS X st f):FS X st (λρ=>f (frz i ρ)):=by
 have⟨t,p,q⟩:=h;refine⟨t,p,λH0 os0 D σ H os ρ r R e k=>?_⟩;have⟨os',R',z⟩:=R.frz i;exact q H0 os0 D σ H os' _ r R' e (k.mono z)
theorem zcA:FS X st (λ_=>none):=⟨_,zgY,λ_ _ _ _ _ _ _ _ _ q _=>by cases q⟩
def exS(f:RPx):RFx:=λρ=>(f ρ).bind λ_=>some (.nx ρ)
theorem VF{f:RPx}(h:FE X e f)(hs:swapsWith e none pos.line X.env=pure false:=by rfl):FS X (.Expr e pos) (exS f):=by
 have⟨t,p,q⟩:=h;refine⟨_,u3 p hs,λH0 os0 D σ H os ρ r R e k=>?_⟩;have⟨d,e1,e2⟩:=bind_some e;cases e2;exact q σ H os ρ d _ R.rel e1 λv H' s _=>k _ _ _ (R.same s) (zl s os)
def retS(f:RPx):RFx:=λρ=>(f ρ).bind λd=>some (.rt d)
theorem zL{f:RPx}(h:FE X e f):FS X (.Return (some e) pos) (retS f):=by
 have⟨t,p,q⟩:=h;refine⟨_,UB p,λH0 os0 D σ H os ρ r R e k=>?_⟩;have⟨d,e1,e2⟩:=bind_some e;cases e2;exact q σ H os ρ d _ R.rel e1 λv H' s rv=>k v H' (R.sm.trans s) (rv.same (y3 R.sub))
def U0(f:RLx):RFx:=λρ=>(f ρ).bind λd=>some (.rl d)
theorem JK{f:RLx}(h:FL X e f):FS X (.Return (some e) pos) (U0 f):=by
 have⟨t,p,q⟩:=h;refine⟨_,UB p,λH0 os0 D σ H os ρ r R e k=>?_⟩;have⟨d,e1,e2⟩:=bind_some e;cases e2;refine q σ H os ρ d _ R.rel e1 λa xs H' n s hx rv=>k a xs H' (R.sm.free n) (R.sm.trans s) hx (rv.same (y3 λb hb=>?_))
 rcases List.mem_cons.mp hb with z|z
 ·exact z▸List.mem_cons_self
 ·exact List.mem_cons_of_mem _ (R.sub b z)
theorem zfb(i:Nat){x:Str}{p:Pos}(hN:X.N[i]?=some x:=by rfl)(hv:Vis X.env.scope x:=by trivial)(hd:NDx x:=by decide)(hcd:NCx x:=by decide):FS X (.Return (some (.Name x p)) pos) (U0 (gk i)):=by
 refine⟨_,UB (yl hN hv hd hcd),λH0 os0 D σ H os ρ r R e k=>?_⟩;have⟨ds,e1,e2⟩:=bind_some e;cases e2;have q:=wF e1;have⟨a,xs,e,ha,hx,r⟩:=R.rel.ow i ds q
 refine⟨_,e,k a xs H (R.own i _ q rfl a e) R.sm hx (r.same (y3 λb hb=>?_))⟩;rcases List.mem_cons.mp hb with z|z
 ·exact z▸ha
 ·exact R.sub b z
def yr(i:Nat)(f:RPx):RFx:=λρ=>(f ρ).bind λd=>some (.nx (ρ.set i (.pu d)))
theorem zS(i:Nat){x:Str}{pos':Pos}{f:RPx}(hN:X.N.Nodup)(he:FE X e f)(hi:X.N[i]?=some x:=by rfl)(hx:Loc X.env.scope x:=by trivial)(hs:swapsWith e (some (.Name x pos')) pos.line X.env=pure false:=by rfl)(hf:FNx X x:=by trivial):FS X (.Assign [.Name x pos'] e pos) (yr i f):=by
 have⟨t,p,q⟩:=he;refine⟨_,w8 hN hi hx p hs hf,λH0 os0 D σ H os ρ r R e k=>?_⟩;have⟨d,e1,e2⟩:=bind_some e;cases e2;exact q σ H os ρ d _ R.rel e1 λv H' s rv=>k _ _ _ ((R.same s).set rv) (zl s os)
def jR(i:Nat)(f:RLx):RFx:=λρ=>(f ρ).bind λd=>some (.nx (ρ.set i (.ow d)))
theorem jI(i:Nat){x:Str}{pos':Pos}{f:RLx}(hN:X.N.Nodup)(he:FL X e f)(hi:X.N[i]?=some x:=by rfl)(hx:Loc X.env.scope x:=by trivial)(hs:swapsWith e (some (.Name x pos')) pos.line X.env=pure false:=by rfl)(hf:FNx X x:=by trivial):FS X (.Assign [.Name x pos'] e pos) (jR i f):=by
 have⟨t,p,q⟩:=he;refine⟨_,w8 hN hi hx p hs hf,λH0 os0 D σ H os ρ r R e k=>?_⟩;have⟨d,e1,e2⟩:=bind_some e;cases e2;exact q σ H os ρ d _ R.rel e1 λa xs H' n s hx rv=>k _ _ _ (R.W5 n s hx rv) (jb n s)
def ifS(c:Ro->Option Bool)(f g:RFx):RFx:=λρ=>(c ρ).bind λb=>if b then f ρ else g ρ
theorem vt{c:Expr}{a b:List Stmt}{fc:Ro->Option Bool}(hc:FT X c fc)(ha:FSs X a f)(hb:FSs X b g):FS X (.If c a b pos) (ifS fc f g):=by
 have⟨tc,pc,qc⟩:=hc;have⟨ta,pa,qa⟩:=ha;have⟨tb,pb,qb⟩:=hb;refine⟨_,zhc pc pa pb,λH0 os0 D σ H os ρ r R e k=>?_⟩;have⟨b,e1,e2⟩:=bind_some e;refine qc σ H os ρ b _ R.rel e1 λH' s=>?_
 cases b with
 |true=>rw[if_pos rfl] at e2 ⊢;exact qa H0 os0 D σ H' os ρ r (R.same s) e2 (k.mono (zl s os))
 |false=>rw[if_neg Bool.false_ne_true] at e2 ⊢;exact qb H0 os0 D σ H' os ρ r (R.same s) e2 (k.mono (zl s os))
def vX(c:Ro->Option Bool)(b:RFx):Nat->Ro->Option Fl
 |0,_=>none
 |n+1,ρ=>(c ρ).bind λt=>if t then (match b ρ with |some (.nx ρ')=>vX c b n ρ'|r=>r) else some (.nx ρ)
def whS(m:Ro->Nat)(c:Ro->Option Bool)(b:RFx):RFx:=λρ=>vX c b (m ρ) ρ
theorem zcw(m:Ro->Nat){c:Expr}{body:List Stmt}{fc:Ro->Option Bool}{fb:RFx}(hp:PassesOwn (model X.prog X.w) X.A X.env X.xe)(hc:FT X c fc)(hb:FSs X body fb):FS X (.While c body [] pos) (whS m fc fb):=by
 have⟨tc,pc,qc⟩:=hc;have⟨tb,pb,qb⟩:=hb;refine⟨_,zb2 hp pc pb,λH0 os0 D σ H os ρ r R e k=>?_⟩;refine⟨λn σ' H'=>∃os' ρ',SRo X.K H0 os0 H' os' σ' ρ'/\Same (offs H os) (offs H' os')/\vX fc fb n ρ'=some r,⟨m ρ,os,ρ,R,Same.refl _,e⟩,?_⟩;rintro n σ' H' ⟨os',ρ',R',z',e'⟩;cases n with
 |zero=>cases e'
 |succ n=>
  have⟨b,e1,e2⟩:=bind_some e';refine qc σ' H' os' ρ' b _ R'.rel e1 λH2 s=>?_
  cases b with
  |false=>rw[if_neg Bool.false_ne_true] at e2 ⊢;cases e2;exact k _ _ _ (R'.same s) (z'.trans (zl s os'))
  |true=>
   rw[if_pos rfl] at e2 ⊢;refine⟨λσ2 H2=>∃os' ρ',SRo X.K H0 os0 H2 os' σ2 ρ'/\Same (offs H os) (offs H2 os')/\vX fc fb n ρ'=some r,λσ2 H2 h=>⟨n,Nat.lt_succ_self n,h⟩,?_⟩;split at e2
   ·rename_i ρ2 e3;exact qb H0 os0 _ σ' H2 os' ρ' _ (R'.same s) e3 λσ3 H3 os3 R3 z3=>⟨os3,ρ2,R3,(z'.trans (zl s os')).trans z3,e2⟩
   ·cases r with
    |nx ρ2=>rename_i hn;exact absurd e2 (hn ρ2)
    |rt d=>exact qb H0 os0 _ σ' H2 os' ρ' _ (R'.same s) e2 k
    |rl d=>exact qb H0 os0 _ σ' H2 os' ρ' _ (R'.same s) e2 k
def YL(bd:PyData->Ro->Option Ro)(b:RFx):List PyData->Ro->Option Fl
 |[],ρ=>some (.nx ρ)
 |d::ds,ρ=>(bd d ρ).bind λρ1=>match b ρ1 with |some (.nx ρ')=>YL bd b ds ρ'|r=>r
def vc(it:RLx)(bd:PyData->Ro->Option Ro)(b:RFx):RFx:=λρ=>(it ρ).bind λds=>YL bd b ds ρ
theorem jD{tg iter:Expr}{body:List Stmt}{fi:RLx}{is:LNt}{bd:PyData->Ro->Option Ro}{fb:RFx}(hp:PassesOwn (model X.prog X.w) X.A X.env X.xe)(hc:X.calm=true)(hi:FI X tg iter fi)(hg:FG X tg is bd)(hb:FSs X body fb)(hs:FSx X iter:=by exact λ_=>rfl):FS X (.For tg iter body [] pos) (vc fi bd fb):=by
 have⟨wi,pi,qi⟩:=hi;have⟨tb,pb,qb⟩:=hb;refine⟨_,zer hp hc pi hg pb hs,λH0 os0 D σ H os ρ r R e k=>?_⟩;have⟨ds,e1,e2⟩:=bind_some e;refine qi σ H os ρ ds _ R.rel e1 λJ H1 s1 W=>?_
 refine⟨λi m σ' H'=>m=ds.length - i/\i<=ds.length/\∃os' ρ',SRo X.K H0 os0 H' os' σ' ρ'/\Same (offs H1 os) (offs H' os')/\YL bd fb (ds.drop i) ρ'=some r,
  ⟨ds.length,rfl,Nat.zero_le _,os,ρ,R.same s1,Same.refl _,e2⟩,?_⟩
 rintro i m σ' H' ⟨rfl,hi,os',ρ',R',so,e'⟩;obtain⟨w1,w2⟩:=W H' os' R'.rel.al (so.trans (xa H' os')) so;by_cases hlt:i<ds.length
 ·obtain⟨d,hd⟩:∃d,ds[i]?=some d:=⟨_,List.getElem?_eq_getElem hlt⟩;have⟨g1,g2⟩:=w1 i d hd;have ed:ds.drop i=d::ds.drop (i+1):=by
   rw[List.drop_eq_getElem_cons hlt];rw[List.getElem?_eq_getElem hlt] at hd;cases hd;rfl
  rw[ed] at e';have⟨ρ1,e3,e4⟩:=bind_some e';refine .inr ⟨g1,λσ2 H2=>i+1<=ds.length/\∃os' ρ',SRo X.K H0 os0 H2 os' σ2 ρ'/\Same (offs H1 os) (offs H2 os')/\YL bd fb (ds.drop (i+1)) ρ'=some r,?_,?_⟩
  ·rintro σ2 H2 ⟨h1,h2⟩;exact⟨ds.length - (i+1),by omega,rfl,h1,h2⟩
  ·intro x H2 hy;have⟨s2,rx⟩:=g2 x H2 hy;refine⟨os',d,ρ',ρ1,rx,e3,λσ2 st=>?_⟩;have R2:SRo X.K H0 os0 H2 os' σ2 ρ1:=(R'.same s2).sets st;split at e4
   ·rename_i ρ2 e5;exact qb H0 os0 _ σ2 H2 os' ρ1 _ R2 e5 λσ3 H3 os3 R3 z3=>⟨hlt,os3,ρ2,R3,(so.trans (zl s2 os')).trans z3,e4⟩
   ·cases r with
    |nx ρ2=>rename_i hn;exact absurd e4 (hn ρ2)
    |rt d=>exact qb H0 os0 _ σ2 H2 os' ρ1 _ R2 e4 k
    |rl d=>exact qb H0 os0 _ σ2 H2 os' ρ1 _ R2 e4 k
 ·have e:i=ds.length:=by omega
  subst e;rw[List.drop_length] at e';cases e';exact .inl ⟨w2,k _ _ _ R' ((zl s1 os).trans so)⟩
end
section
variable{X:Cx}{e:Expr}{pos apos cpos p1:Pos}
def apS(i:Nat)(f:RPx):RFx:=λρ=>(gk i ρ).bind λds=>(f ρ).bind λd=>if ds.length<16777216 then some (.nx (ρ.set i (.ow (ds++[d])))) else none
theorem vU(i:Nat){x:Str}{f:RPx}(he:FE X e f)(hN:X.N[i]?=some x:=by rfl)(hv:Vis X.env.scope x:=by trivial)(hd:NDx x:=by decide)(hcd:NCx x:=by decide)(hbase:ABx X (.Name x p1) "append":=by rfl)(hfew:FWx X cpos [e]:=by rfl)(hline:(apos.endLine==cpos.line)=true:=by rfl)(hs:SEx X e []:=by rfl)(hsw:swapsWith (.Call (.Attribute (.Name x p1) "append" apos) [e] [] cpos) none pos.line X.env=pure false:=by rfl):FS X (.Expr (.Call (.Attribute (.Name x p1) "append" apos) [e] [] cpos) pos) (apS i f):=by
 have⟨t,p,q⟩:=he;refine⟨_,u3 (U1 PySem.F.plainAttrs_list PySem.F.slot_list_append PySem.F.type_list_append uj (yl hN hv hd hcd) (yD p xv hs) hbase hfew hline hs) hsw,λH0 os0 D σ H os ρ r R e k=>?_⟩;have⟨ds,e1,e⟩:=bind_some e;have⟨d,e2,e⟩:=bind_some e;split at e
 ·rename_i hl;cases e;have g:=wF e1;have⟨a,xs,h1,h2,h3,h4⟩:=R.rel.ow i ds g
  refine⟨_,h1,.inl ⟨rfl,_,SqL.of h3⟩,q σ H os ρ d _ R.rel e2 λv H' s rv=>?_⟩;refine⟨a,xs,v,rfl,rfl,s _ _ h3,by rw[h4.length];exact hl,?_⟩;refine k _ _ os ((R.same s).chg g h1 ((h4.same (zl s os)).append (.cons rv .nil))) ?_;rw[yF h2];exact zl s os
 ·cases e
def exT(i:Nat)(f:RPx):RFx:=λρ=>(gk i ρ).bind λds=>match f ρ with
 |some (.tuple es)=>if ds.length+es.length<=16777216 then some (.nx (ρ.set i (.ow (ds++es)))) else none
 |_=>none
theorem zef(i:Nat){x:Str}{f:RPx}(he:FB X e f)(hN:X.N[i]?=some x:=by rfl)(hv:Vis X.env.scope x:=by trivial)(hd:NDx x:=by decide)(hcd:NCx x:=by decide)(hbase:ABx X (.Name x p1) "extend":=by rfl)(hfew:FWx X cpos [e]:=by rfl)(hline:(apos.endLine==cpos.line)=true:=by rfl)(hs:SEx X e []:=by rfl)(hsw:swapsWith (.Call (.Attribute (.Name x p1) "extend" apos) [e] [] cpos) none pos.line X.env=pure false:=by rfl):FS X (.Expr (.Call (.Attribute (.Name x p1) "extend" apos) [e] [] cpos) pos) (exT i f):=by
 have⟨t,p,q⟩:=he;refine⟨_,u3 (U1 PySem.F.plainAttrs_list PySem.F.slot_list_extend PySem.F.type_list_extend zep (yl hN hv hd hcd) (yD p xv hs) hbase hfew hline hs) hsw,λH0 os0 D σ H os ρ r R e k=>?_⟩;have⟨ds,e1,e⟩:=bind_some e;split at e
 ·rename_i es e2;split at e
  ·rename_i hl;cases e;have g:=wF e1;have⟨a,xs,h1,h2,h3,h4⟩:=R.rel.ow i ds g
   refine⟨_,h1,.inl ⟨rfl,_,SqL.of h3⟩,q σ H os ρ _ _ R.rel e2 λv H' s rv=>?_⟩;obtain⟨b,ys,rfl,hS,_,ry⟩:=rv.tup;refine⟨a,b,xs,ys,rfl,rfl,s _ _ h3,hS,by rw[h4.length,ry.length];exact hl,?_⟩;refine k _ _ os ((R.same s).chg g h1 ((h4.same (zl s os)).append ry)) ?_;rw[yF h2];exact zl s os
  ·cases e
 ·cases e
def siS(i:Nat)(fi f:RPx):RFx:=λρ=>(gk i ρ).bind λds=>(f ρ).bind λd=>match fi ρ with
 |some (.int k)=>(ixN ds.length k).bind λj=>some (.nx (ρ.set i (.ow (ds.set j d))))
 |_=>none
theorem Yw{K:FRx}{H:Hp}{v:V}{d:PdX}(r:Rep K H v d):∀{xs:List V} {ds:LPd} (j:Nat),Reps K H xs ds->Reps K H (xs.set j v) (ds.set j d)
 |_,_,_,.nil=>.nil
 |_,_,0,.cons _ q=>.cons r q
 |_,_,j+1,.cons h q=>.cons h (Yw r j q)
theorem zfK(i:Nat){x:Str}{ie:Expr}{fi f:RPx}{tpos:Pos}(hi:FE X ie fi)(he:FE X e f)(hN:X.N[i]?=some x:=by rfl)(hv:Vis X.env.scope x:=by trivial)(hd:NDx x:=by decide)(hcd:NCx x:=by decide)(ha:∀v,assign (.Subscript (.Name x p1) ie tpos) X.env v=(do
   let ov <-holding [v] (eval (.Name x p1) X.env)
   let iv <-holding [v,ov] (eval ie X.env)
   standAt tpos
   holding [v,ov,iv] (setItem ov iv v)
   release [v,ov,iv] []):=by intro _;rfl)(hs:swapsWithSole [.Subscript (.Name x p1) ie tpos] e pos.line X.env=pure false:=by rfl)(hw:swappedStores [.Subscript (.Name x p1) ie tpos] e X.env=pure none:=by rfl)(h1:(assignEach [.Subscript (.Name x p1) ie tpos] X.env).map (·.2)=[assign (.Subscript (.Name x p1) ie tpos) X.env]:=by rfl):FS X (.Assign [.Subscript (.Name x p1) ie tpos] e pos) (siS i fi f):=by
 have⟨t,p,q⟩:=he;have⟨ti,pi,qi⟩:=hi;refine⟨_,zhB p (zht (yl hN hv hd hcd) pi set_list ha) hs hw h1,λH0 os0 D σ H os ρ r R e k=>?_⟩;have⟨ds,e1,e⟩:=bind_some e;have⟨d,e2,e⟩:=bind_some e;split at e
 ·rename_i n e3;have⟨j,e4,e⟩:=bind_some e;cases e;have g:=wF e1;have⟨a,xs,h1,h2,h3,h4⟩:=R.rel.ow i ds g
  refine q σ H os ρ d _ R.rel e2 λv H' s rv=>⟨_,h1,qi σ H' os ρ _ _ (R.rel.same s) e3 λu H2 s2 ru=>?_⟩
  cases ru;have s3:=s.trans s2;refine⟨a,xs,n,j,rfl,rfl,s3 _ _ h3,by rw[h4.length];exact e4,?_⟩;refine k _ _ os ((R.same s3).chg g h1 (Yw (rv.same (zl s2 os)) j (h4.same (zl s3 os)))) ?_;rw[yF h2];exact zl s3 os
 ·cases e
theorem u4(i:Nat){elt tg iter:Expr}{scope:Scope}{Ts:LSr}{F:LNt}{is:LNt}{fi:RLx}{b:PyData->Ro->Option Ro}{fe:RPx}{x:Str}{pos' spos:Pos}(hN:X.N.Nodup)(hc:X.calm=true)(hi:FIB X tg iter fi)(S:ya X scope)(hF:∀j∈F,∃x,X.N[j]?=some x/\scope.names.lookup x=some .free)(hg:∀cl C ex s H,FG (zV X (Ts++F.map λj=>X.N.getD j "") scope cl C ex s H) tg is b)(he:∀cl C ex s H,FE (zV X (Ts++F.map λj=>X.N.getD j "") scope cl C ex s H) elt fe)(his:∀i∈is,i<Ts.length:=by decide)(hi':X.N[i]?=some x:=by rfl)(hx:X.env.scope.names.lookup x=some .local:=by rfl)(hsw:swapsWith (.ListComp elt [⟨tg,iter,[],0⟩] scope pos) (some (.Name x pos')) spos.line X.env=pure true:=by rfl)(hs:FSx X iter:=by exact λ_=>rfl):FS X (.Assign [.Name x pos'] (.ListComp elt [⟨tg,iter,[],0⟩] scope pos) spos) (jR i (zR Ts.length F fi b fe)):=by
 have⟨wi,pi,qi⟩:=hi;refine⟨_,Up (Ts:=Ts) (F:=F) (g:=gF X.K is b) (te:=tF X.K fe) hN hi' hx hc pi S hF hg (λcl C ex s H=>(he cl C ex s H).pe) hsw hs,λH0 os0 D σ H os ρ r R q k=>?_⟩;have⟨ds,e1,q⟩:=bind_some q;cases q;have⟨es,e1,q⟩:=bind_some e1;split at q
 ·rename_i hl;refine qi σ H os ρ es _ R.rel e1 λJ H' s W D hD=>?_
  exact u6 his (R.rel.same s) hl hD W q λH2 xs s2 hx r=>k _ _ _ (R.W5 (s.free hD) (s.trans s2) hx r) (jb (s.free hD) (s.trans s2))
 ·cases q
end
def fnF(n m:Nat)(b:RFx)(ds:LPd):Option PyData:=if ds.length=m then (match b (ds.map Sl.pu++List.replicate (n - m) .no) with
  |some (.rt d)=>some d
  |some (.rl es)=>some (.list es)
  |some (.nx _)=>some .none
  |none=>none) else none
def fnL(n m:Nat)(b:RFx)(ds:LPd):Option (List PyData):=if ds.length=m then (match b (ds.map Sl.pu++List.replicate (n - m) .no) with
  |some (.rl es)=>some es
  |_=>none) else none
section
variable{P:Program}{w:World}{K:FRx}{mg:Str->Option Value}{base:Heap}
theorem JU{N:LSr}{H:Hp}{os:LAd}{vs:List V}{ds:LPd}(al:Al H os)(r:Reps K (offs H os) vs ds)(m:Nat)(hm:ds.length=m):SRo K H os H os (start N vs) (ds.map Sl.pu++List.replicate (N.length - m) .no):=by
 have hl:=r.length;have no:∀(i:Nat)(c:Sl),(ds.map Sl.pu++List.replicate (N.length - m) .no)[i]?=some c->isM c=true->False:=λi c q m=>by
  by_cases hi:i<ds.length
  ·rw[List.getElem?_append_left (by simpa using hi),List.getElem?_map] at q;have⟨d,_,e2⟩:=map_some q;subst e2;cases m
  ·rw[List.getElem?_append_right (by simpa using Nat.le_of_not_lt hi),List.getElem?_replicate] at q;split at q
   ·cases q;cases m
   ·cases q
 refine⟨⟨λi d q=>?_,λi c q m=>(no i c q m).elim,al,?_⟩,Same.refl _,λa h=>h,λa h=>.inl h,al,λi c q m=>(no i c q m).elim,λi j c c' _ q _ m=>(no i c q m).elim⟩
 ·unfold start;by_cases hi:i<ds.length
  ·rw[List.getElem?_append_left (by simpa using hi),List.getElem?_map] at q;have⟨c,e1,e2⟩:=map_some q;cases e2;have⟨v,e3,e4⟩:=r.getD e1;refine⟨v,?_,e4⟩;rw[List.getElem?_append_left (by rw[List.length_map,hl];exact hi),List.getElem?_map,e3];rfl
  ·rw[List.getElem?_append_right (by simpa using Nat.le_of_not_lt hi),List.getElem?_replicate] at q;split at q<;>cases q
 ·unfold start;simp[hl,hm]
theorem yq.mk{x:Str}{st:Stmt}{N ps:LSr}{k m:Nat}{b:RFx}(h:HasDef K mg x st)(S:zq N ps (zc st))(hb:∀(kV doc pm:Value)(an:Option Addr)(cdv ct:Value)(us:LVl),us.length=ps.length->bindArgs (W.fnOf x x (x8 st) (yC st) (zc st) .none kV doc pm an cdv ct) ⟨us,[]⟩=pure (ps.zip us))(hm:ps.length=m)(hbody:∀(f:AdX)(cdv:Value)(A:Around)(outer:List Env)(s:ShX)(H:Hp)(E:XK),Room k (A.deeper (envOfC x (zc st) s.heap.objs.size f cdv))->
   FSs (J1 CX0 P w K mg base N x (zc st) f cdv A outer s H E).nox (yC st) b):yq P w K mg base (k+1) x ps (fnF N.length m b):=by
 refine Def.mk h S hb (λvs H Q E q=>?_) (λf cdv A outer s H vs Q E hr q=>?_)
 ·have⟨os,ds,r,_,hr,e,_⟩:=q;unfold fnF at e;split at e
  ·rename_i hl;rw[hr.length,hl,hm]
  ·cases e
 ·have⟨t,p,q'⟩:=hbody f cdv A outer s H E hr;have⟨os,ds,r,al,hr,e,kk⟩:=q;unfold fnF at e;split at e
  ·rename_i hl;refine⟨t,p,?_⟩;have R:=JU (N:=N) al hr m hl;split at e
   ·rename_i d e1;cases e;exact q' H os _ _ H os _ _ R e1 λv H' s r=>kk v H' s r
   ·rename_i es e1;cases e;refine q' H os _ _ H os _ _ R e1 λa xs H' n s hx r=>kk _ H' s (.lst (SqL.of ?_) (r.same (y3 λb hb=>List.mem_cons_of_mem _ hb)))
    rw[zt (al.new n)];exact hx
   ·rename_i ρ' e1;cases e;exact q' H os _ _ H os _ _ R e1 λσ' H' os' R' z=>kk _ H' R'.sm .non
   ·cases e
  ·cases e
theorem jA.mk{x:Str}{st:Stmt}{N ps:LSr}{k m:Nat}{b:RFx}(h:HasDef K mg x st)(S:zq N ps (zc st))(hb:∀(kV doc pm:Value)(an:Option Addr)(cdv ct:Value)(us:LVl),us.length=ps.length->bindArgs (W.fnOf x x (x8 st) (yC st) (zc st) .none kV doc pm an cdv ct) ⟨us,[]⟩=pure (ps.zip us))(hm:ps.length=m)(hbody:∀(f:AdX)(cdv:Value)(A:Around)(outer:List Env)(s:ShX)(H:Hp)(E:XK),Room k (A.deeper (envOfC x (zc st) s.heap.objs.size f cdv))->
   FSs (J1 CX0 P w K mg base N x (zc st) f cdv A outer s H E).nox (yC st) b):jA P w K mg base (k+1) x ps (fnL N.length m b):=by
 refine Def.mk h S hb (λvs H Q E q=>?_) (λf cdv A outer s H vs Q E hr q=>?_)
 ·have⟨os,ds,r,_,hr,e,_⟩:=q;unfold fnL at e;split at e
  ·rename_i hl;rw[hr.length,hl,hm]
  ·cases e
 ·have⟨t,p,q'⟩:=hbody f cdv A outer s H E hr;have⟨os,ds,r,al,hr,e,kk⟩:=q;unfold fnL at e;split at e
  ·rename_i hl;refine⟨t,p,?_⟩;have R:=JU (N:=N) al hr m hl;split at e
   ·rename_i es e1;cases e;exact q' H os _ _ H os _ _ R e1 λa xs H' n s hx r=>kk a xs H' n s hx r
   ·cases e
  ·cases e
end
end L2.Fu
namespace L2.Fu
open PySem PySem.Spec PyProof.Rows
abbrev ltI:PyData->PyData->Option PyData:=zes λi j=>decide (i<j)
abbrev gtI:PyData->PyData->Option PyData:=zes λi j=>decide (j<i)
abbrev frS(i:Nat)(f:RFx):RFx:=λρ=>f (frz i ρ)
section
variable{X:Cx}{a b e:Expr}{f g:RPx}{pos p1 apos cpos:Pos}
theorem zu(ha:FB X a f)(hb:FB X b g)(hs:zaY b:=by exact λ_ _=>rfl):FE X (.Subscript a b pos) (op2 ixD f g):=by
 have⟨ta,pa,qa⟩:=ha;have⟨tb,pb,qb⟩:=hb;refine⟨_,zkr ze0 pa pb hs,λσ H os ρ c Q R q k=>?_⟩;have⟨d,e,e1,e2,e3⟩:=VM q;refine two qa qb R e1 e2 λx y H' s r1 r2=>zkL x y H' os d e c Q (R.al.same s) r1 r2 e3 λv H2 s2=>k v H2 (s.trans s2)
end
section
variable{P:Program}{w:World}{K:FRx}{mg:Str->Option Value}{base:Heap}
theorem FnF.mk{x:Str}{st:Stmt}{f:AdX}{fd:FuncData}{N ps:LSr}{k m:Nat}{b:RFx}(F:Fun K x x st f fd)(S:zq N ps (zc st))(hm:ps.length=m)(hbody:∀(cdv:Value)(A:Around)(outer:List Env)(s:ShX)(H:Hp)(E:XK),Room k (A.deeper (envOfC x (zc st) s.heap.objs.size f cdv))->
   FSs (J1 CX0 P w K mg base N x (zc st) f cdv A outer s H E).nox (yC st) b):wo P w K mg base CX0 (k+1) f fd ps (spF K (fnF N.length m b)):=by
 refine F.ok S (λvs H Q E q=>?_) (λcdv A outer s H vs Q E hr q=>?_)
 ·have⟨os,ds,r,_,hr,e,_⟩:=q;unfold fnF at e;split at e
  ·rename_i hl;rw[hr.length,hl,hm]
  ·cases e
 ·have⟨t,p,q'⟩:=hbody cdv A outer s H E hr;have⟨os,ds,r,al,hr,e,kk⟩:=q;unfold fnF at e;split at e
  ·rename_i hl;refine⟨t,p,?_⟩;have R:=JU (N:=N) al hr m hl;split at e
   ·rename_i d e1;cases e;exact q' H os _ _ H os _ _ R e1 λv H' s r=>kk v H' s r
   ·rename_i es e1;cases e;refine q' H os _ _ H os _ _ R e1 λa xs H' n s hx r=>kk _ H' s (.lst (SqL.of ?_) (r.same (y3 λb hb=>List.mem_cons_of_mem _ hb)))
    rw[zt (al.new n)];exact hx
   ·rename_i ρ' e1;cases e;exact q' H os _ _ H os _ _ R e1 λσ' H' os' R' z=>kk _ H' R'.sm .non
   ·cases e
  ·cases e
def zfw(K:FRx):Sp:=λvs H Q _=>∃(a:AdX)(ns:List Int),vs=[.ref a]/\SqL K H a (ns.map V.int)/\ns.length<=63/\∀H',Q (.bl true) H'
theorem zjg{CX:CXT}{k:Nat}{f:AdX}{fd:FuncData}{ps:LSr}{F:LPx}(h:∀ns:List Int,ns.length<=63->F [.list (ns.map PyData.int)]=some (.bool true))(o:wo P w K mg base CX k f fd ps (spF K F)):wo P w K mg base CX k f fd ps (zfw K):=o.imp λvs H Q E q=>by
 obtain⟨a,ns,rfl,hS,hl,k⟩:=q;have e0:offs H []=H:=by funext b;exact zt (by simp)
 refine⟨[],[.list (ns.map PyData.int)],.bool true,Al.nil _,.cons (.lst (by rw[e0];exact hS) (Reps.ints ns)) .nil,h ns hl,λv H' s r=>?_⟩;cases r;exact k H'
theorem zkV{x:Str}{a:Int}{t:Tok}(h:mg x=some (.int a t)):GC K mg x (.int a):=⟨.int a,_,h,⟨t,rfl⟩,λ_=>.int a⟩
theorem za7{x:Str}{ga:AdX}{gd:Option Addr}{a b:Int}{t u:Tok}{n:Nat}{sl:Array (Option Value)}(h:mg x=some (.ref ga))(l:K.lookup ga=some ⟨.type "tuple",gd,.seq #[.int a t,.int b u] n,sl⟩):GC K mg x (.tuple [.int a,.int b]):=⟨.ref ga,_,h,rfl,λH=>.tup (xs:=[.int a,.int b]) (.inr ⟨_,#[.int a t,.int b u],n,l,rfl,rfl,(by show 2<=sizeLine;decide),.cons ⟨t,rfl⟩ (.cons ⟨u,rfl⟩ .nil)⟩) (.cons (.int a) (.cons (.int b) .nil))⟩
end
theorem V6:fillsNumberSlot (.type "tuple") "mul"=pure false:=PySem.fillsNumberSlot_seq (id:="tuple.__mul__") (r:=some (.builtin "tuple.__rmul__")) PySem.F.slot_tuple_mul.lookup (by decide+kernel) PySem.F.slot_tuple_rmul.lookup (by decide+kernel)
theorem zbK:seqRepeat? (.type "tuple")=pure (some (.builtin "tuple.__mul__")):=by
 unfold seqRepeat?;rw[PySem.seqSlot_of (T:="tuple") (name:="__mul__") (id:="tuple.__mul__") PySem.F.slot_tuple_mul.lookup (by decide+kernel),PySem.seqSlot_of (T:="tuple") (name:="__rmul__") (id:="tuple.__rmul__") PySem.F.slot_tuple_rmul.lookup (by decide+kernel)];rfl
theorem ZV(a:Int)(t:Tok)(l:AdX)(items:Array Value)(n:Nat)(dd:Option Addr)(sl:Array (Option Value)):Meets (Builtin.«int.__rmul__» ⟨[.int a t,.ref l],[]⟩) (λ_ R s=>s.heap.get? l=some { cls:=.type "tuple",dict:=dd,data:=.seq items n,slots:=sl }/\R (.ok (.ret Value.notImplemented)) s):=.of_wp λprog w A R s h=>by have⟨hp,g,d,tk,os⟩:=s;obtain⟨hl,h⟩:=h;wp_walk;exact⟨_,rfl,h⟩
theorem zcb(l:AdX)(items:Array Value)(n:Nat)(dd:Option Addr)(sl:Array (Option Value))(u:Tok):Meets (Builtin.«tuple.__mul__» ⟨[.ref l,.int 1 u],[]⟩) (λ_ R s=>s.heap.get? l=some { cls:=.type "tuple",dict:=dd,data:=.seq items n,slots:=sl }/\R (.ok (.ret (.ref l))) s):=.of_wp λprog w A R s h=>by
  have⟨hp,g,d,tk,os⟩:=s;obtain⟨hl,h⟩:=h;have f1:=AutoSeq1.idx_int;have hc:(items.isEmpty || (1:Int)==1)=true:=by simp
  wp_walk using wpAny_loadPart' hl
  exact⟨_,rfl,h⟩
theorem zdb(l:AdX)(items:Array Value)(n:Nat)(dd:Option Addr)(sl:Array (Option Value))(x:Int)(u:Tok)(h0:x<=0)(h1:-(2 ^ 63)<=x)(hi:items.isEmpty=false):Meets (Builtin.«tuple.__mul__» ⟨[.ref l,.int x u],[]⟩) (λ_ R s=>s.heap.get? l=some { cls:=.type "tuple",dict:=dd,data:=.seq items n,slots:=sl }/\R (.ok (.ret (.ref s.heap.objs.size))) { s with heap:=s.heap.push { cls:=Value.type "tuple",data:=Data.seq #[] },toks:=s.toks }):=.of_wp λprog w A R s h=>by
  have⟨hp,g,d,tk,os⟩:=s;obtain⟨hl,h⟩:=h;have f1:=AutoSeq1.idx_int;have hc:¬((items.isEmpty || x==1)=true):=by rw[hi];simp;omega
  have hc1:¬((decide (x< -(2 ^ 63)) || decide (x>=2 ^ 63))=true):=by simp;omega
  have hc2:((decide (x<=0) || items.isEmpty)=true):=by simp;omega
  wp_walk using wpAny_loadPart' hl
  rw[if_neg hc1];wp_walk using wpAny_loadPart' hl;rw[if_neg hc];wp_walk using wpAny_loadPart' hl;exact⟨_,rfl,h⟩
theorem zce(l:AdX)(items:Array Value)(n:Nat)(dd:Option Addr)(sl:Array (Option Value))(x:Int)(u:Tok)(h0:1<x)(h1:x<2 ^ 63)(hi:items.isEmpty=false)(hz:items.size*x.toNat<=sizeLine):Meets (Builtin.«tuple.__mul__» ⟨[.ref l,.int x u],[]⟩) (λ_ R s=>s.heap.get? l=some { cls:=.type "tuple",dict:=dd,data:=.seq items n,slots:=sl }/\R (.ok (.ret (.ref s.heap.objs.size))) { s with heap:=s.heap.push { cls:=Value.type "tuple",data:=Data.seq (List.foldl (λx1 x2=>x1++x2) #[] (List.replicate x.toNat items)) },toks:=s.toks }):=.of_wp λprog w A R s h=>by
  have⟨hp,g,d,tk,os⟩:=s;obtain⟨hl,h⟩:=h;have f1:=AutoSeq1.idx_int;have hz2:((items.size*x.toNat:Nat):Int)<=16777216:=by
   have:(sizeLine:Nat)=16777216:=rfl;omega
  have hx:(items.size:Int)*x=((items.size*x.toNat:Nat):Int):=by
   rw[Int.natCast_mul,Int.toNat_of_nonneg (by omega)]
  have hc:¬((items.isEmpty || x==1)=true):=by rw[hi];simp;omega
  have hc1:¬((decide (x< -(2 ^ 63)) || decide (x>=2 ^ 63))=true):=by simp;omega
  have hc2:¬((decide (x<=0) || items.isEmpty)=true):=by rw[hi];simp;omega
  have hc3:¬((items.size:Int)*x>(2 ^ 63 - 1) / 8):=by rw[hx];omega
  have hc4:¬(Builtin.Tuple.tupleTooMany ((items.size:Int)*x)=true):=by
   rw[hx];unfold Builtin.Tuple.tupleTooMany
   have:(sizeLine:Int)=16777216:=rfl;rw[decide_eq_true_iff];omega
  have hz':(List.foldl (λx1 x2=>x1++x2) #[] (List.replicate x.toNat items)).size<=sizeLine:=by
   rw[AutoListH.size_joined];simp only [Array.size_empty];rw[Nat.mul_comm] at hz;omega
  wp_walk using wpAny_loadPart' hl
  rw[if_neg hc1];wp_walk using wpAny_loadPart' hl;rw[if_neg hc];wp_walk using wpAny_loadPart' hl;rw[if_neg hc2];wp_walk using wpAny_loadPart' hl;rw[if_neg hc3];wp_walk using wpAny_loadPart' hl;rw[if_neg hc4];wp_walk using wpAny_loadPart' hl;exact⟨_,rfl,h⟩
def zkq(K:FRx):R2:=λx y H Q=>∃a k xs,x=.ref a/\y=.int k/\SqT K H a xs/\xs≠[]/\-(2 ^ 63)<=k/\k<2 ^ 63/\xs.length*k.toNat<=sizeLine/\
 (k=1->Q (.ref a) H)/\(k≠1->∀p,H p=none->Q (.ref p) (upd H p (.tup (List.replicate k.toNat xs).flatten)))
theorem zj9{X:Cx}:OpR X (binaryOp .Mult) (zkq X.K):=by
 intro pins s σ H x y v u Q I rx ry h;obtain⟨a,k,xs,rfl,rfl,hx,hne,h1,h2,hz,q1,q2⟩:=h;cases (show v=Value.ref a from rx);obtain⟨t,rfl⟩:=ry;have⟨its,r,⟨⟨cls,dd,data,sl⟩,ho,hc,n,hd⟩,hz2⟩:=I.tuple hx;simp only at hc hd;subst hc hd;have hl:=r.length;have hie:its.toArray.isEmpty=false:=by
  cases its with
  |nil=>cases r;exact absurd rfl hne
  |cons _ _=>rfl
 have hzz:its.toArray.size*k.toNat<=sizeLine:=by rw[List.size_toArray,<-hl];exact hz
 have hf:∀m:Nat,List.foldl (λx1 x2=>x1++x2) #[] (List.replicate m its.toArray)=(List.replicate m its).flatten.toArray:=λm=>by
  have:=foldl_rep its m [];rw[List.nil_append] at this;exact this
 refine wpAny_binaryOp_repeat_ref (T:="tuple") (U:="int") (by decide) ⟨_,ho,rfl⟩ (λs'=>typeIs_int s' k t) V6 F.fills_int_mul F.slot_int_rmul zbK F.slot_int_index.lookup
  (call_meets F.slot_int_rmul (typeIs_int s k t) F.entry_int_rmul (F.args_int_rmul_2 _ _) (ZV k t a its.toArray n dd sl) ⟨ho,rfl,⟨_,ho,rfl⟩,?_⟩)
 by_cases hk1:k=1
 ·subst hk1;exact call_meets F.slot_tuple_mul ⟨_,ho,rfl⟩ F.entry_tuple_mul (F.args_tuple_mul_2 _ _) (zcb a its.toArray n dd sl t) ⟨ho,⟨.ref a,H,I,rfl,q1 rfl⟩⟩
 ·by_cases hk0:k<=0
  ·refine call_meets F.slot_tuple_mul ⟨_,ho,rfl⟩ F.entry_tuple_mul (F.args_tuple_mul_2 _ _) (zdb a its.toArray n dd sl k t hk0 h1 hie) ⟨ho,?_⟩;have e:(List.replicate k.toNat xs).flatten=[]:=by
    have:k.toNat=0:=by omega
    rw[this];rfl
   have q:=q2 hk1 _ (I.hok.fresh (Nat.le_refl _));rw[e] at q;exact⟨.ref s.heap.objs.size,_,I.laid (o:=.tup []) (t':=s.toks) (λc o e=>Heap.get?_push_of_some _ e) (Nat.le_refl _) ⟨Nat.zero_le _,[],.nil,⟨_,Heap.get?_push_size _ rfl,rfl,_,rfl⟩⟩,rfl,q⟩
  ·refine call_meets F.slot_tuple_mul ⟨_,ho,rfl⟩ F.entry_tuple_mul (F.args_tuple_mul_2 _ _) (zce a its.toArray n dd sl k t (by omega) h2 hie hzz) ⟨ho,?_⟩;rw[hf];refine⟨.ref s.heap.objs.size,_,I.laid (o:=.tup (List.replicate k.toNat xs).flatten) (t':=s.toks) (λc o e=>Heap.get?_push_of_some _ e) (Nat.le_refl _) ⟨?_,_,r.rep k.toNat,⟨_,Heap.get?_push_size _ rfl,rfl,_,rfl⟩⟩,rfl,q2 hk1 _ (I.hok.fresh (Nat.le_refl _))⟩;rw[len_rep,Nat.mul_comm];exact hz
def zjT:PyData->PyData->Option PyData
 | .tuple ds,.int k=>if ds≠[]/\-(2 ^ 63)<=k/\k<2 ^ 63/\ds.length*k.toNat<=16777216 then some (.tuple (List.replicate k.toNat ds).flatten) else none
 |_,_=>none
theorem zjL{K:FRx}:R2F K (zkq K) zjT:=by
 intro x y H os d e c Q al r1 r2 h k;unfold zjT at h;split at h
 ·rename_i ds n;split at h
  ·rename_i hc;cases h;obtain⟨a,xs,rfl,hS,hSo,r⟩:=r1.tup;refine⟨a,n,xs,rfl,r2.int,hS,λz=>hc.1 ?_,hc.2.1,hc.2.2.1,by rw[r.length];exact hc.2.2.2,λz=>?_,λz p hp=>?_⟩
   ·have:=r.length;rw[z] at this;exact List.eq_nil_of_length_eq_zero this.symm
   ·subst z;have e:(List.replicate (1:Int).toNat ds).flatten=ds:=by simp
    rw[e] at k;exact k _ H (Same.refl H) (.tup hSo r)
   ·have s:=zW hp (.tup (List.replicate n.toNat xs).flatten);refine k _ _ s (.tup (SqT.of ?_) ((Vp r _).same (zl s os)));rw[zt (al.new hp)];exact zE
  ·cases h
 ·cases h
end L2.Fu
namespace L2.Fu
open PySem PySem.Spec PyProof.Rows
def ziv(h:Heap)(a l:AdX)(i:Int):Prop:=∃o,h.get? a=some o/\o.cls=.type "reversed"/\o.data=.fields #[.ref l,rawInt i]
section
variable{prog:Program}{w:World}{A:Around}{E:VSx}{s:ShX}
theorem ziv.typeIs{a l:AdX}{i:Int}(x:ziv s.heap a l i):s.TypeIs (.ref a) "reversed":=let ⟨o,ho,hc,_⟩:=x;⟨o,ho,hc⟩
end
end L2.Fu
namespace L2.Fu
open PySem
def ziE(i:Nat):Ro->Nat:=λρ=>match ρ[i]? with |some (.pu (.int b))=>b.natAbs+1|_=>0
abbrev wA:Ro->Nat:=ziE 1
abbrev Yp:Ro->Nat:=ziE 3
end L2.Fu
namespace L2.Fu
open PySem PySem.Spec PyProof.Rows
def Ug:RFx:=(sq (ifS (zK (op2 ltI (gv 1) (zh yk (aC (gv 0) a0)))) (retS (op2 ixD (gv 0) (gv 1))) s0)
 (retS (cst (.int 0))))
def yw:LPx:=fnF 2 2 Ug
def zax:RFx:=(sq (yr 2 (zh zi5 (aC (gv 0) a0)))
 (sq (yr 3 (gv 1))
 (sq (whS Yp (zK (op2 gtI (gv 3) (cst (.int 0)))) (sq (yr 4 (op2 wd (gv 2) (gv 3)))
 (sq (yr 2 (gv 3))
 (yr 3 (gv 4)))))
 (retS (xp (aC (op2 xq (gv 0) (gv 2)) (aC (op2 xq (gv 1) (gv 2)) a0)))))))
def uz:LPx:=fnF 5 2 zax
def Jw:RFx:=(retS (zh uz (aC (op2 Zm (op2 wd (gv 0) (cst (.int 9))) (cst (.int 4))) (aC (op2 ixD (yu (vw (aC (cst (.int 1)) (aC (cst (.int 1)) (aC (cst (.int 2)) (aC (cst (.int 1)) (aC (cst (.int 3)) a0))))))) (op2 wd (op2 xq (gv 0) (cst (.int 9))) (cst (.int 5)))) a0))))
def xV:LPx:=fnF 1 1 Jw
def vf:RFx:=(sq (jR 3 (vw a0))
 (sq (vc (xK (aC (op2 yE (gv 1) (op2 xP (cst (.int 2)) (op2 yE (gv 1) (gv 2)))) a0)) (bN 4) (sq (yr 0 (op2 wd (op2 xP (op2 yE (gv 0) (cst (.int 48271))) (cst (.int 29))) (cst (.int 2147483647))))
 (apS 3 (ifE (zK (op2 eqD (op2 wd (op2 xq (gv 0) (cst (.int 11))) (cst (.int 3))) (cst (.int 0)))) (xp (aC (cst (.int 0)) (aC (cst (.int 1)) a0))) (zh xV (aC (op2 xq (gv 0) (cst (.int 33))) a0))))))
 (sq (jR 5 (vw a0))
 (sq (vc (xK (aC (gv 2) a0)) (bN 6) (sq (jR 7 (vw a0))
 (sq (vc (xK (aC (gv 1) a0)) (bN 8) (sq (yr 9 (op2 xP (op2 yE (cst (.int 2)) (gv 1)) (op2 yE (op2 xP (op2 yE (gv 6) (gv 1)) (gv 8)) (gv 1))))
 (apS 7 (zh yn (aC (yu (slL (gb 3) (oS (gv 9)) (oS (op2 xP (gv 9) (gv 1))))) a0)))))
 (apS 5 (zh yn (aC (gb 7) a0))))))
 (retS (xp (aC (zh yn (aC (yu (slL (gb 3) o0 (oS (gv 1)))) a0)) (aC (zh yn (aC (gb 5) a0)) (aC (zh yn (aC (yu (slL (gb 3) (oS (gv 1)) (oS (op2 yE (cst (.int 2)) (gv 1))))) a0)) a0)))))))))
def ji:LPx:=fnF 10 3 vf
def W0:RFx:=(retS (zh uz (aC (op2 yE (op2 ixD (gv 0) (cst (.int 0))) (op2 ixD (gv 1) (cst (.int 0)))) (aC (op2 yE (op2 ixD (gv 0) (cst (.int 1))) (op2 ixD (gv 1) (cst (.int 1)))) a0))))
def yV:LPx:=fnF 2 2 W0
def Yz:RFx:=(retS (zh uz (aC (op2 xP (op2 yE (op2 ixD (gv 0) (cst (.int 0))) (op2 ixD (gv 1) (cst (.int 1)))) (op2 yE (op2 ixD (gv 1) (cst (.int 0))) (op2 ixD (gv 0) (cst (.int 1))))) (aC (op2 yE (op2 ixD (gv 0) (cst (.int 1))) (op2 ixD (gv 1) (cst (.int 1)))) a0))))
def ju:LPx:=fnF 2 2 Yz
def um:RFx:=(sq (whS wA (zK (op2 neD (gv 1) (cst (.int 0)))) (sq (yr 2 (op2 wd (gv 0) (gv 1)))
 (sq (yr 0 (gv 1))
 (yr 1 (gv 2)))))
 (retS (zh zi5 (aC (gv 0) a0))))
def yG:LPx:=fnF 3 2 um
def Jf:RFx:=(sq (yr 1 (cst (.int 1)))
 (sq (vc (yt (gv 0)) (bN 2) (yr 1 (op2 yE (gv 1) (op2 xq (op2 ixD (gv 2) (cst (.int 1))) (zh yG (aC (gv 1) (aC (op2 ixD (gv 2) (cst (.int 1))) a0)))))))
 (retS (gv 1))))
def ye:LPx:=fnF 3 1 Jf
def WU:RFx:=(U0 (zR 1 [1] (yt (gv 0)) (bN 0) (op2 yE (op2 ixD (gv 0) (cst (.int 0))) (op2 xq (gv 1) (op2 ixD (gv 0) (cst (.int 1)))))))
def yO:LLx:=fnL 2 2 WU
def zdp:RFx:=(retS (zh yn (aC (yu (zR 1 [1] (yt (gv 0)) (bN 0) (op2 ixD (gv 0) (gv 1)))) a0)))
def JH:LPx:=fnF 2 2 zdp
def Vx:RFx:=(sq (jR 1 (vw a0))
 (sq (vc (yt (gv 0)) (bN 2) (exT 1 (gv 2)))
 (sq (yr 3 (ZN ye (aC (gb 1) a0)))
 (sq (jR 4 (zR 1 [0,3] (xK (aC (zh yk (aC (gv 0) a0)) a0)) (bN 0) (yu (xU yO (aC (zh JH (aC (gv 1) (aC (gv 0) a0))) (aC (gv 2) a0))))))
 (frS 4 (retS (xp (aC (gv 4) (aC (gv 3) a0)))))))))
def vG:LPx:=fnF 5 1 Vx
def ug:RFx:=(retS (zh ziy (aC (yu (zR 2 [] (uB false false (aC (gv 0) (aC (gv 1) a0))) (b2 (bN 0) (bN 1)) (op2 yE (gv 0) (gv 1)))) a0)))
def yb:LPx:=fnF 2 2 ug
def zcX:RFx:=(U0 (zR 1 [0] (yt (gv 1)) (bN 0) (zh yb (aC (gv 1) (aC (gv 0) a0)))))
def U8:LLx:=fnL 2 2 zcX
def zdy:RFx:=(sq (yr 2 (zh yG (aC (gv 0) (aC (gv 1) a0))))
 (sq (ifS (zK (op2 ltI (gv 1) (cst (.int 0)))) (yr 2 (op1 ZF (gv 2))) s0)
 (retS (xp (aC (op2 xq (gv 0) (gv 2)) (aC (op2 xq (gv 1) (gv 2)) a0))))))
def ud:LPx:=fnF 3 2 zdy
def zaT:RFx:=(sq (yr 2 (xp (aC (cst (.int 0)) (aC (cst (.int 1)) a0))))
 (sq (vc (xK (aC (zh yk (aC (gv 0) a0)) a0)) (bN 3) (yr 2 (zh ju (aC (gv 2) (aC (zh yV (aC (op2 ixD (gv 0) (gv 3)) (aC (op2 ixD (gv 1) (gv 3)) a0))) a0)))))
 (retS (gv 2))))
def jx:LPx:=fnF 4 2 zaT
def zau:RFx:=(sq (jR 2 (vw a0))
 (sq (vc (xK (aC (zh yk (aC (gv 0) a0)) a0)) (bN 3) (apS 2 (zh jx (aC (gv 0) (aC (yu (zR 1 [1,3] (xK (aC (zh yk (aC (gv 0) a0)) a0)) (bN 0) (op2 ixD (op2 ixD (gv 1) (gv 0)) (gv 2)))) a0)))))
 (U0 (gk 2))))
def j9:LLx:=fnL 4 2 zau
def Je:RFx:=(sq (yr 2 (zh yk (aC (op2 ixD (gv 0) (cst (.int 1))) a0)))
 (sq (yr 3 (zh yk (aC (op2 ixD (gv 1) (cst (.int 1))) a0)))
 (ifS (zK (op2 neD (gv 2) (gv 3))) (λ_=>none) s0)))
def xB:LPx:=fnF 4 2 Je
def wJ:RFx:=(ifS (zK (op2 gtI (gv 0) (cst (.int 24)))) (λ_=>none) s0)
def xJ:LPx:=fnF 1 1 wJ
def zft:RFx:=(retS (zh ud (aC (op2 yE (op2 ixD (gv 0) (cst (.int 0))) (op2 ixD (gv 1) (cst (.int 0)))) (aC (op2 yE (op2 ixD (gv 0) (cst (.int 1))) (op2 ixD (gv 1) (cst (.int 1)))) a0))))
def zbw:LPx:=fnF 2 2 zft
def Vf:RFx:=(retS (zh yn (aC (yu (zR 1 [1] (yt (gv 0)) (bN 0) (zh zbw (aC (gv 0) (aC (gv 1) a0))))) a0)))
def jK:LPx:=fnF 2 2 Vf
def Ud:RFx:=(retS (zh yn (aC (yu (zR 1 [0] (xK (aC (zh yk (aC (gv 0) a0)) a0)) (bN 0) (zh JH (aC (gv 1) (aC (gv 0) a0))))) a0)))
def wO:LPx:=fnF 1 1 Ud
def zc3:RFx:=(retS (xp (aC (op2 ixD (gv 0) (cst (.int 2))) (aC (zh yn (aC (yu (zR 1 [] (yt (op2 ixD (gv 0) (cst (.int 1)))) (bN 0) (zh wO (aC (gv 0) a0)))) a0)) (aC (op2 ixD (gv 0) (cst (.int 0))) a0)))))
def vY:LPx:=fnF 1 1 zc3
def ZC:RFx:=(sq (yr 2 (zh ye (aC (gv 0) a0)))
 (sq (yr 3 (zh ye (aC (gv 1) a0)))
 (sq (yr 4 (zh yb (aC (yu (xU yO (aC (gv 0) (aC (gv 2) a0)))) (aC (yu (xU yO (aC (gv 1) (aC (gv 3) a0)))) a0))))
 (retS (zh ud (aC (gv 4) (aC (op2 yE (gv 2) (gv 3)) a0)))))))
def jv:LPx:=fnF 5 2 ZC
def Zc:RFx:=(retS (zh jK (aC (op2 ixD (gv 2) (cst (.int 0))) (aC (zh jv (aC (gv 0) (aC (op2 ixD (gv 1) (cst (.int 2))) a0))) a0))))
def jW:LPx:=fnF 3 3 Zc
def zaz:RFx:=(retS (op2 zjT (xp (aC (cst (.tuple [.int 0,.int 1])) a0)) (gv 0)))
def vO:LPx:=fnF 1 1 zaz
def J9:RFx:=(sq (jR 3 (zR 2 [] (uB true false (aC (gv 0) (aC (gv 1) a0))) (b2 (bN 0) (bN 1)) (op2 uC (gv 0) (gv 1))))
 (sq (jR 4 (zR 1 [0] (yt (gv 2)) (bN 0) (op2 uC (zh vO (aC (zh yk (aC (gv 1) a0)) a0)) (gv 0))))
 (retS (zh yn (aC (yu (zgc (gk 3) (gk 4))) a0)))))
def jk:LPx:=fnF 5 3 J9
def zav:RFx:=(sq (exS (zh xB (aC (gv 0) (aC (gv 1) a0))))
 (sq (exS (zh xJ (aC (op2 xP (zh yk (aC (op2 ixD (gv 0) (cst (.int 0))) a0)) (zh yk (aC (op2 ixD (gv 1) (cst (.int 0))) a0))) a0)))
 (sq (yr 2 (op2 uC (op2 ixD (gv 0) (cst (.int 0))) (zh jW (aC (op2 ixD (gv 0) (cst (.int 0))) (aC (gv 0) (aC (gv 1) a0))))))
 (sq (jR 3 (vw a0))
 (sq (vc (uB true true (aC (op2 ixD (gv 0) (cst (.int 1))) (aC (op2 ixD (gv 1) (cst (.int 1))) a0))) (b2 (bN 4) (bN 5)) (sq (jR 6 (zR 1 [0,1] (yt (gv 4)) (bN 0) (zh jW (aC (gv 0) (aC (gv 1) (aC (gv 2) a0))))))
 (frS 6 (apS 3 (zh jk (aC (gv 4) (aC (gv 6) (aC (gv 5) a0))))))))
 (retS (xp (aC (gv 2) (aC (zh yn (aC (gb 3) a0)) (aC (op2 uC (zh vO (aC (zh yk (aC (op2 ixD (gv 0) (cst (.int 0))) a0)) a0)) (op2 ixD (gv 1) (cst (.int 2)))) a0))))))))))
def j6:LPx:=fnF 7 2 zav
end L2.Fu
namespace WS
open Rat
theorem zcF(a b:Int):Int.gcd b (a.fmod b)=Int.gcd a b:=by
 rw[Int.fmod_def,Int.gcd_comm a b];have h:a - b*a.fdiv b=a+b*(-(a.fdiv b)):=by rw[Int.mul_neg];rfl
 rw[h];exact Int.gcd_add_mul_left_right ..
theorem zaB{a b:Int}(h:b≠0):(a.fmod b).natAbs<b.natAbs:=by
 rcases Int.lt_or_gt_of_ne h with hb|hb
 ·have h3:=Int.fmod_nonneg_of_pos (-a) (b:=-b) (by omega);have h4:=Int.fmod_lt_of_pos (-a) (b:=-b) (by omega)
  rw[Int.neg_fmod_neg] at h3 h4;omega
 ·have h1:=Int.fmod_nonneg_of_pos a hb;have h2:=Int.fmod_lt_of_pos a hb
  omega
theorem vP{t b:Int}(hb:b≠0):(0:Int)<(Int.gcd t b:Int):=by
 have:=Int.gcd_pos_of_ne_zero_right t hb;omega
theorem zbd{t b c:Int}(hb:b≠0)(hc:c=if b<0 then -(Int.gcd t b:Int) else (Int.gcd t b:Int)):t.fdiv c=(divInt t b).num:=by
 have hg:=vP (t:=t) hb;have h1:(Int.gcd t b:Int) ∣ t:=Int.gcd_dvd_left ..
 have⟨k,hk⟩:=h1;rw[num_divInt,Int.gcd_comm b t];by_cases h:b<0
 ·rw[if_pos h] at hc;subst hc;rw[Int.sign_eq_neg_one_of_neg h];have e1:t.fdiv (-(Int.gcd t b:Int))=-k:=Int.fdiv_eq_of_eq_mul_right (by omega) (by rw[Int.neg_mul_neg];exact hk);have e2:(-1*t) / (Int.gcd t b:Int)=-k:=Int.ediv_eq_of_eq_mul_right (by omega) (by rw[Int.mul_neg,<-hk];omega)
  rw[e1,e2]
 ·rw[if_neg h] at hc;subst hc;rw[Int.sign_eq_one_of_pos (by omega),Int.one_mul];have e1:t.fdiv (Int.gcd t b:Int)=k:=Int.fdiv_eq_of_eq_mul_right (by omega) hk;have e2:t / (Int.gcd t b:Int)=k:=Int.ediv_eq_of_eq_mul_right (by omega) hk
  rw[e1,e2]
theorem zbM{t b c:Int}(hb:b≠0)(hc:c=if b<0 then -(Int.gcd t b:Int) else (Int.gcd t b:Int)):b.fdiv c=((divInt t b).den:Int):=by
 have hg:=vP (t:=t) hb;have h1:(Int.gcd t b:Int) ∣ b:=Int.gcd_dvd_right ..
 have⟨k,hk⟩:=h1;rw[den_divInt,if_neg hb,Int.gcd_comm b t];have e3:((b.natAbs / Int.gcd t b:Nat):Int)=(b.natAbs:Int) / (Int.gcd t b:Int):=rfl;rw[e3];by_cases h:b<0
 ·rw[if_pos h] at hc;subst hc;have e1:b.fdiv (-(Int.gcd t b:Int))=-k:=Int.fdiv_eq_of_eq_mul_right (by omega) (by rw[Int.neg_mul_neg];exact hk);have e2:(b.natAbs:Int) / (Int.gcd t b:Int)=-k:=Int.ediv_eq_of_eq_mul_right (by omega) (by rw[Int.mul_neg,<-hk];omega)
  rw[e1,e2]
 ·rw[if_neg h] at hc;subst hc;have e1:b.fdiv (Int.gcd t b:Int)=k:=Int.fdiv_eq_of_eq_mul_right (by omega) hk;have e2:(b.natAbs:Int) / (Int.gcd t b:Int)=k:=Int.ediv_eq_of_eq_mul_right (by omega) (by rw[<-hk];omega)
  rw[e1,e2]
theorem zcS(q r:Rat):divInt (q.num*(r.den:Int)+r.num*(q.den:Int)) ((q.den:Int)*(r.den:Int))=q+r:=by
 have h1:(q.den:Int)≠0:=by have:=q.den_pos;omega
 have h2:(r.den:Int)≠0:=by have:=r.den_pos;omega
 have e:=divInt_add_divInt q.num r.num h1 h2;rw[num_divInt_den,num_divInt_den] at e;exact e.symm
theorem UZ(q r:Rat):divInt (q.num*r.num) ((q.den:Int)*(r.den:Int))=q*r:=by
 have e:=divInt_mul_divInt q.num r.num (d₁:=(q.den:Int)) (d₂:=(r.den:Int));rw[num_divInt_den,num_divInt_den] at e;exact e.symm
theorem ZT(q:Rat):(q.den:Int)≠0:=by have:=q.den_pos;omega
theorem zc8(q:Rat):(0:Int)<(q.den:Int):=by have:=q.den_pos;omega
theorem zid(t b:Int):(divInt t b).num.natAbs<=t.natAbs:=by
 rw[num_divInt];have h:(b.sign*t / (b.gcd t:Int)).natAbs<=(b.sign*t).natAbs:=Int.natAbs_ediv_le_natAbs ..;rw[Int.natAbs_mul,Int.natAbs_sign] at h;split at h<;>omega
theorem zld{t b:Int}(hb:b≠0):(divInt t b).den<=b.natAbs:=by
 rw[den_divInt,if_neg hb];exact Nat.div_le_self ..
end WS
namespace WD
open PySem L2 WS
open PySem.Builtin.Int (intBits)
def fr(q:Rat):PyData:=.tuple [.int q.num,.int (q.den:Int)]
theorem WJ{x:Int}{m:Nat}(hx:x≠0)(h:intBits x<=m):x.natAbs.log2<m:=by
 have h1:=(intBits_le_iff (m:=m) (x:=x)).mp h;exact(Nat.log2_lt (by omega)).mpr h1
theorem zg4{t b:Int}{m:Nat}(hb:b≠0)(h:intBits b<=m):intBits (Int.gcd t b:Int)<=m:=by
 refine intBits_le_of_natAbs ?_ h;exact Int.gcd_le_natAbs_right (a:=t) hb
theorem vh{x:Int}{m:Nat}(h:x.natAbs<2 ^ m):intBits x<=m:=intBits_le_iff.mpr h
theorem xS{a b:Int}{m n:Nat}(ha:intBits a<=m)(hb:intBits b<=n)(h:m+n<=134217728:=by decide):IntMulOk a b:=IntMulOk.of_le ha hb h
structure Bq(m:Nat)(q:Rat):Prop where
 n:intBits q.num<=m
 d:intBits (q.den:Int)<=m
theorem ZS{q r:Rat}(hq:Bq 4000 q)(hr:Bq 4000 r):IntMulOk q.num (r.den:Int)/\IntMulOk r.num (q.den:Int)/\IntMulOk (q.den:Int) (r.den:Int)/\IntMulOk q.num r.num/\IntMulOk (q.den:Int) r.num:=⟨xS hq.n hr.d,xS hr.n hq.d,xS hq.d hr.d,xS hq.n hr.n,xS hq.d hr.n⟩
theorem zeE(q r:Rat):(q.den:Int)*(r.den:Int)≠0:=Int.mul_ne_zero (ZT q) (ZT r)
def Sz(m:Nat):Prop:=intBits (m:Int)<=4000
theorem Sz.mono{m n:Nat}(h:m<=n)(s:Sz n):Sz m:=intBits_le_of_natAbs (y:=(n:Int)) h s
theorem Sz.bits{x:Int}{B:Nat}(s:Sz B)(h:x.natAbs<=B):intBits x<=4000:=intBits_le_of_natAbs (y:=(B:Int)) h s
theorem Sz.Ji{k:Nat}(h:k<4000):Sz (2 ^ k):=by
 refine intBits_le_iff.mpr ?_;exact Nat.pow_lt_pow_right (by decide) h
def z9(n:Nat)(f:Q1x):PyData:=.tuple ((List.range n).map λi=>fr (f i))
def yi(n:Nat)(f:Q1x):PyData:=.list ((List.range n).map λi=>fr (f i))
def yv(n:Nat)(f:Q2x):PyData:=.tuple ((List.range n).map λa=>z9 n (f a))
def V7(n s:Nat)(st:Q3x):PyData:=.tuple ((List.range s).map λg=>yv n (st g))
def zr(n s:Nat)(fi:Q1x)(st:Q3x)(la:Q1x):PyData:=.tuple [z9 n fi,V7 n s st,z9 n la]
def yZ(ws:LNt):PyData:=.tuple (ws.map λ(g:Nat)=>PyData.int (g:Int))
section
variable{K:FRx}{H:Hp}{v:V}
theorem get_map{d:Nat->PyData}{n i:Nat}(h:i<n):((List.range n).map d)[i]?=some (d i):=by
 rw[List.getElem?_map,List.getElem?_range h];rfl
end
structure InB(m B:Nat)(q:Rat):Prop where
 pos:0<m
 ex:∃x:Int,q*(m:Rat)=(x:Rat)/\x.natAbs<=B
theorem xG{m:Nat}(h:0<m):(m:Rat)≠0:=by
 intro z
 have:(m:Rat)=((0:Nat):Rat):=by rw[z];rfl
 have:=Rat.natCast_inj.mp this;omega
theorem InB.eq{m B:Nat}{q:Rat}(h:InB m B q):∃x:Int,q=Rat.divInt x (m:Int)/\x.natAbs<=B:=by
 have⟨x,e,hx⟩:=h.ex;refine⟨x,?_,hx⟩;have hm:=xG h.pos;rw[Rat.divInt_eq_div];have e2:((m:Int):Rat)=(m:Rat):=Rat.intCast_natCast m
 rw[e2];grind
theorem InB.num{m B:Nat}{q:Rat}(h:InB m B q):q.num.natAbs<=B:=by
 obtain⟨x,rfl,hx⟩:=h.eq;exact Nat.le_trans (zid _ _) hx
theorem InB.den{m B:Nat}{q:Rat}(h:InB m B q):q.den ∣ m:=by
 obtain⟨x,rfl,hx⟩:=h.eq;have hp:=h.pos;rw[Rat.den_divInt,if_neg (by omega)];have h1:Int.gcd (m:Int) x ∣ (m:Int).natAbs:=Int.gcd_dvd_natAbs_left _ _
 exact Nat.div_dvd_of_dvd h1
theorem InB.bq{m B:Nat}{q:Rat}(h:InB m B q)(hm:Sz m)(hB:Sz B):Bq 4000 q:=⟨hB.bits h.num,hm.bits (Nat.le_of_dvd h.pos h.den)⟩
theorem InB.zero{m B:Nat}(h:0<m):InB m B 0:=⟨h,0,by grind,Nat.zero_le _⟩
theorem InB.add{m B C:Nat}{q r:Rat}(h:InB m B q)(k:InB m C r):InB m (B+C) (q+r):=by
 have⟨x,e,hx⟩:=h.ex;have⟨y,f,hy⟩:=k.ex;refine⟨h.pos,x+y,?_,by omega⟩;rw[Rat.intCast_add];grind
theorem InB.mul{m n B C:Nat}{q r:Rat}(h:InB m B q)(k:InB n C r):InB (m*n) (B*C) (q*r):=by
 have⟨x,e,hx⟩:=h.ex;have⟨y,f,hy⟩:=k.ex;refine⟨Nat.mul_pos h.pos k.pos,x*y,?_,?_⟩
 ·rw[Rat.intCast_mul,Rat.natCast_mul];grind
 ·rw[Int.natAbs_mul];exact Nat.mul_le_mul hx hy
theorem InB.mono{m B C:Nat}{q:Rat}(h:InB m B q)(k:B<=C):InB m C q:=by
 have⟨x,e,hx⟩:=h.ex;exact⟨h.pos,x,e,Nat.le_trans hx k⟩
theorem InB.up{m B:Nat}{q:Rat}(h:InB m B q){c:Nat}(hc:0<c):InB (m*c) (B*c) q:=by
 have⟨x,e,hx⟩:=h.ex;refine⟨Nat.mul_pos h.pos hc,x*c,?_,?_⟩
 ·rw[Rat.intCast_mul,Rat.natCast_mul,Rat.intCast_natCast];grind
 ·rw[Int.natAbs_mul];exact Nat.mul_le_mul hx (Nat.le_of_eq (by simp))
def sumTo:Nat->(Nat->Rat)->Rat
 |0,_=>0
 |n+1,f=>sumTo n f+f n
theorem vQ{m B:Nat}{f:Q1x}(hm:0<m):∀n,(∀i,i<n->InB m B (f i))->InB m (n*B) (sumTo n f)
 |0,_=>InB.zero hm
 |n+1,h=>by
  have:=(vQ hm n λi hi=>h i (by omega)).add (h n (by omega));rw[Nat.succ_mul];exact this
theorem zd{f g:Q1x}:∀n,(∀i,i<n->f i=g i)->sumTo n f=sumTo n g
 |0,_=>rfl
 |n+1,h=>by
  show sumTo n f+f n=sumTo n g+g n
  rw[zd n λi hi=>h i (by omega),h n (by omega)]
theorem zG(c:Rat)(f:Q1x):∀n,sumTo n (λi=>f i*c)=sumTo n f*c
 |0=>by
  show(0:Rat)=0*c
  grind
 |n+1=>by
  show sumTo n (λi=>f i*c)+f n*c=(sumTo n f+f n)*c
  rw[zG c f n];grind
theorem vb(f g:Q1x):∀n,sumTo n (λi=>f i+g i)=sumTo n f+sumTo n g
 |0=>by
  show(0:Rat)=0+0
  grind
 |n+1=>by
  show sumTo n (λi=>f i+g i)+(f n+g n)=(sumTo n f+f n)+(sumTo n g+g n)
  rw[vb f g n];grind
def led(n:Nat)(r:Q1x)(M:Q2x):Nat->Rat:=λb=>sumTo n λa=>r a*M a b
def zT(n:Nat)(st:Q3x):(Nat->Rat)->List Nat->Nat->Rat
 |r,[]=>r
 |r,g::w=>zT n st (led n r (st g)) w
def wt(n:Nat)(st:Q3x)(fi la:Q1x)(w:LNt):Rat:=sumTo n λa=>zT n st fi w a*la a
theorem wB(n:Nat)(st:Q3x):∀(r:Q1x)(u w:LNt),zT n st r (u++w)=zT n st (zT n st r u) w
 |_,[],_=>rfl
 |r,g::u,w=>wB n st (led n r (st g)) u w
theorem zgP{n:Nat}{r r':Q1x}{M M':Q2x}(h:∀a,a<n->r a=r' a)(k:∀a b,a<n->b<n->M a b=M' a b):∀b,b<n->led n r M b=led n r' M' b:=λb hb=>
 zd n λa ha=>by rw[h a ha,k a b ha hb]
def xm(qs:List Rat):Nat:=qs.foldl (λb q=>Nat.lcm b q.den) 1
theorem zgu(qs:List Rat)(q:Rat):xm (qs++[q])=Nat.lcm (xm qs) q.den:=by
 unfold xm;rw[List.foldl_append];rfl
theorem YF(qs:List Rat):0<xm qs:=by
 unfold xm;generalize hb:(1:Nat)=b;have hp:0<b:=by omega
 clear hb;induction qs generalizing b with
 |nil=>exact hp
 |cons q r ih=>exact ih _ (Nat.lcm_pos hp q.den_pos)
theorem Vd{M:Nat}(qs:List Rat)(h:∀q∈qs,q.den ∣ M):xm qs ∣ M:=by
 unfold xm;generalize hb:(1:Nat)=b;have hp:b ∣ M:=by rw[<-hb];exact Nat.one_dvd _
 clear hb;induction qs generalizing b with
 |nil=>exact hp
 |cons q r ih=>exact ih (λx hx=>h x (List.mem_cons_of_mem _ hx)) _ (Nat.lcm_dvd hp (h q List.mem_cons_self))
theorem zad(qs:List Rat):∀b:Nat,b ∣ qs.foldl (λb q=>Nat.lcm b q.den) b:=by
 induction qs with
 |nil=>intro b;exact Nat.dvd_refl _
 |cons q r ih=>intro b;exact Nat.dvd_trans (Nat.dvd_lcm_left _ _) (ih _)
theorem YJ(qs:List Rat):∀q∈qs,q.den ∣ xm qs:=by
 unfold xm;generalize (1:Nat)=b;induction qs generalizing b with
 |nil=>intro q h;cases h
 |cons x r ih=>
  intro q h;rcases List.mem_cons.mp h with rfl|h
  ·exact Nat.dvd_trans (Nat.dvd_lcm_right _ _) (zad r _)
  ·exact ih _ q h
theorem zhj(b d:Nat):(b:Int)*((d:Int).fdiv (Int.gcd (b:Int) (d:Int):Int))=((Nat.lcm b d:Nat):Int):=by
 have e1:Int.gcd (b:Int) (d:Int)=Nat.gcd b d:=rfl;rw[e1,Int.fdiv_eq_ediv_of_nonneg _ (by omega)];have e2:(d:Int) / ((Nat.gcd b d:Nat):Int)=((d / Nat.gcd b d:Nat):Int):=rfl
 rw[e2];have e3:b*(d / Nat.gcd b d)=Nat.lcm b d:=by
  rw[Nat.lcm,Nat.mul_div_assoc _ (Nat.gcd_dvd_right b d)]
 rw[<-e3];rfl
def jj(q:Rat)(B:Nat):Int:=q.num*((B / q.den:Nat):Int)
theorem jo{q:Rat}{B:Nat}(h:q.den ∣ B):(jj q B:Rat)=q*(B:Rat):=by
 obtain⟨c,rfl⟩:=h;unfold jj;rw[Nat.mul_div_cancel_left _ q.den_pos];have e:=Rat.num_divInt_den q;rw[Rat.divInt_eq_div,Rat.intCast_natCast] at e;have hd:=xG q.den_pos
 rw[Rat.intCast_mul,Rat.natCast_mul,Rat.intCast_natCast];have e2:(q.num:Rat)=q*(q.den:Rat):=by
  generalize (q.num:Rat)=x at e;grind
 rw[e2];grind
theorem zg2(q:Rat)(B:Nat):q.num*((B:Int).fdiv (q.den:Int))=jj q B:=by
 unfold jj;rw[Int.fdiv_eq_ediv_of_nonneg _ (by omega)];rfl
def yg:Nat->(Nat->Int)->Int
 |0,_=>0
 |n+1,f=>yg n f+f n
theorem Wh(f:Z1x):∀n,((List.range n).map f).sum=yg n f
 |0=>rfl
 |n+1=>by
  rw[List.range_succ,List.map_append,List.sum_append,Wh f n];simp[yg]
theorem JF(f:Z1x):∀n,((yg n f:Int):Rat)=sumTo n λi=>(f i:Rat)
 |0=>rfl
 |n+1=>by
  show((yg n f+f n:Int):Rat)=sumTo n (λi=>(f i:Rat))+(f n:Rat)
  rw[Rat.intCast_add,JF f n]
theorem Jm{f:Z1x}{B:Nat}:∀n,(∀i,i<n->(f i).natAbs<=B)->(yg n f).natAbs<=n*B
 |0,_=>by simp[yg]
 |n+1,h=>by
  have h1:=Jm n λi hi=>h i (by omega)
  have h2:=h n (by omega);show(yg n f+f n).natAbs<=_
  rw[Nat.succ_mul];omega
end WD
namespace L2.Fu
open PySem WS WD
open PySem.Builtin.Int (intBits)
theorem Wy(c:Ro->Option Bool)(b:RFx)(n:Nat)(ρ:Ro):vX c b (n+1) ρ=(c ρ).bind λt=>if t then (match b ρ with |some (.nx ρ')=>vX c b n ρ'|r=>r) else some (.nx ρ):=rfl
theorem zao{c:Ro->Option Bool}{b:RFx}{n:Nat}{ρ ρ':Ro}(h1:c ρ=some true)(h2:b ρ=some (.nx ρ')):vX c b (n+1) ρ=vX c b n ρ':=by
 rw[Wy,h1,Option.bind_some,if_pos rfl,h2]
theorem Zu{c:Ro->Option Bool}{b:RFx}{n:Nat}{ρ:Ro}(h1:c ρ=some false):vX c b (n+1) ρ=some (.nx ρ):=by
 rw[Wy,h1,Option.bind_some,if_neg Bool.false_ne_true]
theorem zx{f g:RFx}{ρ ρ':Ro}(h:f ρ=some (.nx ρ')):sq f g ρ=g ρ':=by
 unfold sq;rw[h]
theorem Uj{f g:RFx}{ρ:Ro}{d:PdX}(h:f ρ=some (.rt d)):sq f g ρ=some (.rt d):=by
 unfold sq;rw[h]
theorem zmo{f g:RFx}{ρ:Ro}{d:LPd}(h:f ρ=some (.rl d)):sq f g ρ=some (.rl d):=by
 unfold sq;rw[h]
theorem zeT(i j:Int):PyData.eqv (.int i) (.int j)=decide (i=j):=by
 simp[PyData.eqv]
 by_cases h:i=j<;>simp[h]
theorem jE{i j:Int}(h:j≠0):wd (.int i) (.int j)=some (.int (i.fmod j)):=by
 show(if j≠0 then _ else _)=_
 rw[if_pos h]
theorem xR{i j:Int}(h:j≠0)(h2:j.natAbs.log2<9000):xq (.int i) (.int j)=some (.int (i.fdiv j)):=by
 show(if j≠0/\j.natAbs.log2<9000 then _ else _)=_
 rw[if_pos ⟨h,h2⟩]
theorem yK{i j:Int}(h:IntMulOk i j):yE (.int i) (.int j)=some (.int (i*j)):=by
 show(open Classical in if IntMulOk i j then _ else _)=_
 rw[if_pos h]
theorem JW(i j:Int):neD (.int i) (.int j)=some (.bool (!decide (i=j))):=by
 show(if SeqAt.shaped (.int i)=true/\SeqAt.shaped (.int j)=true then _ else _)=_
 rw[if_pos ⟨rfl,rfl⟩,zeT]
theorem UU(i j:Int):eqD (.int i) (.int j)=some (.bool (decide (i=j))):=by
 show(if SeqAt.shaped (.int i)=true/\SeqAt.shaped (.int j)=true then _ else _)=_
 rw[if_pos ⟨rfl,rfl⟩,zeT]
theorem zA{f:RPx}{ρ:Ro}{b:Bool}(h:f ρ=some (.bool b)):zK f ρ=some b:=by
 unfold zK;rw[h]
theorem wD{c:Ro->Option Bool}{f g:RFx}{ρ:Ro}(h:c ρ=some true):ifS c f g ρ=f ρ:=by
 unfold ifS;rw[h];rfl
theorem xH{c:Ro->Option Bool}{f g:RFx}{ρ:Ro}(h:c ρ=some false):ifS c f g ρ=g ρ:=by
 unfold ifS;rw[h];rfl
theorem zQ{i:Nat}{f:RPx}{ρ:Ro}{d:PdX}(h:f ρ=some d):yr i f ρ=some (.nx (ρ.set i (.pu d))):=by
 unfold yr;rw[h];rfl
theorem xj{i:Nat}{f:RLx}{ρ:Ro}{d:LPd}(h:f ρ=some d):jR i f ρ=some (.nx (ρ.set i (.ow d))):=by
 unfold jR;rw[h];rfl
theorem zy{f:RPx}{ρ:Ro}{d:PdX}(h:f ρ=some d):retS f ρ=some (.rt d):=by
 unfold retS;rw[h];rfl
theorem wC{f:RLx}{ρ:Ro}{d:LPd}(h:f ρ=some d):U0 f ρ=some (.rl d):=by
 unfold U0;rw[h];rfl
theorem Zx{f:RPx}{ρ:Ro}{d:PdX}(h:f ρ=some d):exS f ρ=some (.nx ρ):=by
 unfold exS;rw[h];rfl
theorem zf{h:PyData->PyData->Option PyData}{f g:RPx}{ρ:Ro}{x y:PdX}(h1:f ρ=some x)(h2:g ρ=some y):op2 h f g ρ=h x y:=by
 unfold op2;rw[h1,h2];rfl
theorem zlD{h:PyData->Option PyData}{f:RPx}{ρ:Ro}{x:PdX}(h1:f ρ=some x):op1 h f ρ=h x:=by
 unfold op1;rw[h1];rfl
theorem zk{f:RPx}{g:RLx}{ρ:Ro}{x:PdX}{xs:LPd}(h1:f ρ=some x)(h2:g ρ=some xs):aC f g ρ=some (x::xs):=by
 unfold aC;rw[h1,h2];rfl
theorem zb{h:LPx}{g:RLx}{ρ:Ro}{xs:LPd}(h1:g ρ=some xs):zh h g ρ=h xs:=by
 unfold zh;rw[h1];rfl
theorem jH{h:LLx}{g:RLx}{ρ:Ro}{xs:LPd}(h1:g ρ=some xs):xU h g ρ=h xs:=by
 unfold xU;rw[h1];rfl
theorem jL{g:RLx}{ρ:Ro}{xs:LPd}(h1:g ρ=some xs)(h2:xs.length<=16777216):xp g ρ=some (.tuple xs):=by
 unfold xp;rw[h1,Option.bind_some,if_pos h2]
theorem zc2{f g:RPx}{ρ:Ro}{x y:PdX}(h1:f ρ=some x)(h2:g ρ=some y):xp (aC f (aC g a0)) ρ=some (.tuple [x,y]):=jL (zk h1 (zk h2 rfl)) (show 2<=16777216 by decide)
theorem WM{f g h:RPx}{ρ:Ro}{x y z:PdX}(h1:f ρ=some x)(h2:g ρ=some y)(h3:h ρ=some z):xp (aC f (aC g (aC h a0))) ρ=some (.tuple [x,y,z]):=jL (zk h1 (zk h2 (zk h3 rfl))) (show 3<=16777216 by decide)
theorem zM{n m:Nat}{b:RFx}{ds:LPd}{d:PdX}(hm:ds.length=m)(h:b (ds.map Sl.pu++List.replicate (n - m) .no)=some (.rt d)):fnF n m b ds=some d:=by
 unfold fnF;rw[if_pos hm,h]
theorem zhq{n m:Nat}{b:RFx}{ds:LPd}{ρ:Ro}(hm:ds.length=m)(h:b (ds.map Sl.pu++List.replicate (n - m) .no)=some (.nx ρ)):fnF n m b ds=some .none:=by
 unfold fnF;rw[if_pos hm,h]
theorem Jy{n m:Nat}{b:RFx}{ds:LPd}{d:LPd}(hm:ds.length=m)(h:b (ds.map Sl.pu++List.replicate (n - m) .no)=some (.rl d)):fnL n m b ds=some d:=by
 unfold fnL;rw[if_pos hm,h]
theorem zeM:∀(n:Nat)(a b:Int)(o:Sl),b.natAbs<n->∃g o',vX (zK (op2 neD (gv 1) (cst (.int 0)))) (sq (yr 2 (op2 wd (gv 0) (gv 1))) (sq (yr 0 (gv 1)) (yr 1 (gv 2)))) n [.pu (.int a),.pu (.int b),o]=some (.nx [.pu (.int g),.pu (.int 0),o'])/\g.natAbs=Int.gcd a b
 |0,_,_,_,h=>by omega
 |n+1,a,b,o,h=>by
  by_cases hb:b=0
  ·subst hb;refine⟨a,o,?_,by rw[Int.gcd_zero_right]⟩;exact Zu (zA ((zf rfl rfl).trans (by rw[JW];rfl)))
  ·obtain⟨g,o',e1,e2⟩:=zeM n b (a.fmod b) (.pu (.int (a.fmod b))) (by have:=zaB (a:=a) hb;omega);refine⟨g,o',?_,by rw[e2];exact zcF a b⟩;rw[<-e1];refine zao (zA ((zf rfl rfl).trans (by rw[JW,decide_eq_false hb];rfl))) ?_;rw[zx (zQ ((zf rfl rfl).trans (jE hb)))];rfl
theorem jM(a b:Int):yG [.int a,.int b]=some (.int (Int.gcd a b)):=by
 obtain⟨g,o',e1,e2⟩:=zeM (b.natAbs+1) a b .no (by omega);refine zM rfl ?_;refine(zx e1).trans (zy ?_);show some (PyData.int (if g<0 then -g else g))=_
 rw[<-e2];congr 2;split<;>omega
theorem zbs{t b:Int}(hb:b≠0)(hx:intBits b<=8999):(Int.gcd t b:Int).natAbs.log2<9000/\(-(Int.gcd t b:Int)).natAbs.log2<9000:=by
 have hg:=vP (t:=t) hb;have h:=WJ (by omega) (zg4 (t:=t) hb hx)
 rw[Int.natAbs_neg];omega
theorem Wc{t b:Int}(hb:b≠0)(hx:intBits b<=8999):ud [.int t,.int b]=some (fr (Rat.divInt t b)):=by
 have hg:=vP (t:=t) hb;obtain⟨l1,l2⟩:=zbs (t:=t) hb hx;refine zM rfl ?_;refine(zx (zQ ((zb rfl).trans (jM t b)))).trans ?_;by_cases h:b<0
 ·refine(zx (ρ':=[.pu (.int t),.pu (.int b),.pu (.int (-(Int.gcd t b:Int)))]) ?_).trans ?_
  ·rw[wD (zA (show _=some (PyData.bool true) from congrArg some (congrArg PyData.bool (decide_eq_true h))))];rfl
  ·refine zy (zc2 ((zf rfl rfl).trans (xR (by omega) l2)) ((zf rfl rfl).trans (xR (by omega) l2))) |>.trans ?_;have hc:-(Int.gcd t b:Int)=(if b<0 then -(Int.gcd t b:Int) else (Int.gcd t b:Int)):=by rw[if_pos h]
   rw[zbd hb hc,zbM hb hc];rfl
 ·refine(zx (ρ':=[.pu (.int t),.pu (.int b),.pu (.int (Int.gcd t b:Int))]) ?_).trans ?_
  ·rw[xH (zA (show _=some (PyData.bool false) from congrArg some (congrArg PyData.bool (decide_eq_false h))))];rfl
  ·refine zy (zc2 ((zf rfl rfl).trans (xR (by omega) l1)) ((zf rfl rfl).trans (xR (by omega) l1))) |>.trans ?_;have hc:(Int.gcd t b:Int)=(if b<0 then -(Int.gcd t b:Int) else (Int.gcd t b:Int)):=by rw[if_neg h]
   rw[zbd hb hc,zbM hb hc];rfl
theorem zdk:∀(n:Nat)(t b0 a b:Int)(o:Sl),0<=a->0<=b->b.natAbs<n->∃g o',vX (zK (op2 gtI (gv 3) (cst (.int 0)))) (sq (yr 4 (op2 wd (gv 2) (gv 3))) (sq (yr 2 (gv 3)) (yr 3 (gv 4)))) n [.pu (.int t),.pu (.int b0),.pu (.int a),.pu (.int b),o]=some (.nx [.pu (.int t),.pu (.int b0),.pu (.int g),.pu (.int 0),o'])/\g=(Int.gcd a b:Int)
 |0,_,_,_,_,_,_,_,h=>by omega
 |n+1,t,b0,a,b,o,ha,hb0,h=>by
  by_cases hb:b=0
  ·subst hb;refine⟨a,o,?_,by rw[Int.gcd_zero_right];omega⟩;exact Zu (zA (show _=some (PyData.bool false) from rfl))
  ·obtain⟨g,o',e1,e2⟩:=zdk n t b0 b (a.fmod b) (.pu (.int (a.fmod b))) hb0 (Int.fmod_nonneg_of_pos a (by omega)) (by have:=zaB (a:=a) hb;omega);refine⟨g,o',?_,by rw[e2,zcF a b]⟩;rw[<-e1];refine zao (zA (show _=some (PyData.bool true) from congrArg some (congrArg PyData.bool (decide_eq_true (show(0:Int)<b by omega))))) ?_;rw[zx (zQ ((zf rfl rfl).trans (jE hb)))];rfl
theorem v5{t b:Int}(hb:0<b)(hx:intBits b<=8999):uz [.int t,.int b]=some (fr (Rat.divInt t b)):=by
 have hb0:b≠0:=by omega
 obtain⟨l1,l2⟩:=zbs (t:=t) hb0 hx;have hg:=vP (t:=t) hb0;have ea:(Int.gcd (if t<0 then -t else t) b:Int)=(Int.gcd t b:Int):=by
  split
  ·rw[Int.neg_gcd]
  ·rfl
 obtain⟨g,o',e1,e2⟩:=zdk (b.natAbs+1) t b (if t<0 then -t else t) b .no (by split<;>omega) (by omega) (by omega);rw[ea] at e2;subst e2;refine zM rfl ?_;refine(zx (ρ':=[.pu (.int t),.pu (.int b),.pu (.int (if t<0 then -t else t)),.no,.no]) rfl).trans ((zx (ρ':=[.pu (.int t),.pu (.int b),.pu (.int (if t<0 then -t else t)),.pu (.int b),.no]) rfl).trans ((zx e1).trans ?_));refine zy (zc2 ((zf rfl rfl).trans (xR (by omega) l1)) ((zf rfl rfl).trans (xR (by omega) l1))) |>.trans ?_;have hc:(Int.gcd t b:Int)=(if b<0 then -(Int.gcd t b:Int) else (Int.gcd t b:Int)):=by rw[if_neg (by omega)]
 rw[zbd hb0 hc,zbM hb0 hc];rfl
theorem ix0(q:Rat):ixD (fr q) (.int 0)=some (.int q.num):=rfl
theorem ix1(q:Rat):ixD (fr q) (.int 1)=some (.int (q.den:Int)):=rfl
theorem vp(q r:Rat):0<(q.den:Int)*(r.den:Int):=Int.mul_pos (zc8 q) (zc8 r)
theorem zbT{q r:Rat}(hq:Bq 4000 q)(hr:Bq 4000 r):intBits ((q.den:Int)*(r.den:Int))<=8999:=Nat.le_trans (intBits_mul_le hq.d hr.d) (by decide)
theorem zcg{q r:Rat}(hq:Bq 4000 q)(hr:Bq 4000 r):ju [fr q,fr r]=some (fr (q+r)):=by
 have⟨m1,m2,m3,m4,m5⟩:=ZS hq hr;refine zM rfl (zy ?_);have e1:op2 yE (op2 ixD (gv 0) (cst (.int 0))) (op2 ixD (gv 1) (cst (.int 1))) [.pu (fr q),.pu (fr r)]=some (.int (q.num*(r.den:Int))):=(zf (ix0 q) (ix1 r)).trans (yK m1);have e2:op2 yE (op2 ixD (gv 1) (cst (.int 0))) (op2 ixD (gv 0) (cst (.int 1))) [.pu (fr q),.pu (fr r)]=some (.int (r.num*(q.den:Int))):=(zf (ix0 r) (ix1 q)).trans (yK m2)
 have e3:op2 yE (op2 ixD (gv 0) (cst (.int 1))) (op2 ixD (gv 1) (cst (.int 1))) [.pu (fr q),.pu (fr r)]=some (.int ((q.den:Int)*(r.den:Int))):=(zf (ix1 q) (ix1 r)).trans (yK m3);refine(zb (zk ((zf e1 e2).trans rfl) (zk e3 rfl))).trans ?_;rw[v5 (vp q r) (zbT hq hr),zcS]
theorem zbU{q r:Rat}(hq:Bq 4000 q)(hr:Bq 4000 r):yV [fr q,fr r]=some (fr (q*r)):=by
 have⟨m1,m2,m3,m4,m5⟩:=ZS hq hr;refine zM rfl (zy ?_);have e1:op2 yE (op2 ixD (gv 0) (cst (.int 0))) (op2 ixD (gv 1) (cst (.int 0))) [.pu (fr q),.pu (fr r)]=some (.int (q.num*r.num)):=(zf (ix0 q) (ix0 r)).trans (yK m4);have e3:op2 yE (op2 ixD (gv 0) (cst (.int 1))) (op2 ixD (gv 1) (cst (.int 1))) [.pu (fr q),.pu (fr r)]=some (.int ((q.den:Int)*(r.den:Int))):=(zf (ix1 q) (ix1 r)).trans (yK m3)
 refine(zb (zk e1 (zk e3 rfl))).trans ?_;rw[v5 (vp q r) (zbT hq hr),UZ]
theorem zhS{q r:Rat}(hq:Bq 4000 q)(hr:Bq 4000 r):zbw [fr q,fr r]=some (fr (q*r)):=by
 have⟨m1,m2,m3,m4,m5⟩:=ZS hq hr;refine zM rfl (zy ?_);have e1:op2 yE (op2 ixD (gv 0) (cst (.int 0))) (op2 ixD (gv 1) (cst (.int 0))) [.pu (fr q),.pu (fr r)]=some (.int (q.num*r.num)):=(zf (ix0 q) (ix0 r)).trans (yK m4);have e3:op2 yE (op2 ixD (gv 0) (cst (.int 1))) (op2 ixD (gv 1) (cst (.int 1))) [.pu (fr q),.pu (fr r)]=some (.int ((q.den:Int)*(r.den:Int))):=(zf (ix1 q) (ix1 r)).trans (yK m3)
 refine(zb (zk e1 (zk e3 rfl))).trans ?_;rw[Wc (Int.ne_of_gt (vp q r)) (zbT hq hr),UZ]
def Sk(k:Nat)(q:Rat):Prop:=InB (6 ^ k) (2 ^ (8*k)) q
theorem yN(k:Nat):0<6 ^ k:=Nat.pow_pos (by decide)
theorem Sk.mono{k l:Nat}{q:Rat}(h:Sk k q)(hl:k<=l):Sk l q:=by
 obtain⟨d,rfl⟩:=Nat.exists_eq_add_of_le hl;have h1:=InB.up h (c:=6 ^ d) (yN d);unfold Sk;rw[Nat.pow_add];refine h1.mono ?_;have e:2 ^ (8*(k+d))=2 ^ (8*k)*256 ^ d:=by
  rw[Nat.mul_add,Nat.pow_add,Nat.pow_mul 2 8 d]
 rw[e];exact Nat.mul_le_mul_left _ (Nat.pow_le_pow_left (by decide) d)
theorem Sk.mul{k l:Nat}{q r:Rat}(h:Sk k q)(h':Sk l r):Sk (k+l) (q*r):=by
 have:=InB.mul h h';unfold Sk;rw[Nat.pow_add,Nat.mul_add,Nat.pow_add];exact this
theorem Sk.zero(k:Nat):Sk k 0:=InB.zero (yN k)
theorem Sk.sum{k n:Nat}{f:Q1x}(hn:n<=42)(h:∀i,i<n->Sk k (f i)):Sk (k+1) (sumTo n f):=by
 have h1:=vQ (f:=f) (yN k) n h;have h2:=InB.up h1 (c:=6) (by decide)
 unfold Sk;rw[Nat.pow_succ];refine h2.mono ?_;have e:2 ^ (8*(k+1))=2 ^ (8*k)*256:=by rw[Nat.mul_add,Nat.pow_add]
 rw[e,Nat.mul_comm n,Nat.mul_assoc];exact Nat.mul_le_mul_left _ (by omega)
theorem Sk.bq{k:Nat}{q:Rat}(h:Sk k q)(hk:k<=400):Bq 4000 q:=by
 refine InB.bq h ?_ (Sz.Ji (by omega));refine Sz.mono (n:=2 ^ (3*k)) ?_ (Sz.Ji (by omega));rw[Nat.pow_mul];exact Nat.pow_le_pow_left (by decide) k
theorem ziq{bd:PyData->Ro->Option Ro}{b:RFx}:∀{ds:LPd} {ρ0:Ro} (P:Nat->Ro->Prop),P 0 ρ0->
  (∀i d ρ,ds[i]?=some d->P i ρ->∃ρ1 ρ2,bd d ρ=some ρ1/\b ρ1=some (.nx ρ2)/\P (i+1) ρ2)->∃ρ',YL bd b ds ρ0=some (.nx ρ')/\P ds.length ρ'
 |[],ρ0,P,h0,_=>⟨ρ0,rfl,h0⟩
 |d::r,ρ0,P,h0,h=>by
  have⟨ρ1,ρ2,e1,e2,p⟩:=h 0 d ρ0 rfl h0;obtain⟨ρ',e3,p'⟩:=ziq (ds:=r) (ρ0:=ρ2) (λi=>P (i+1)) p λi d ρ e q=>h (i+1) d ρ (by simpa using e) q
  refine⟨ρ',?_,p'⟩;show((bd d ρ0).bind λρ1=>match b ρ1 with |some (.nx ρ')=>YL bd b r ρ'|r=>r)=_
  rw[e1,Option.bind_some,e2];exact e3
theorem VX{it:RLx}{bd:PyData->Ro->Option Ro}{b:RFx}{ds:LPd}{ρ0:Ro}(P:Nat->Ro->Prop)(hi:it ρ0=some ds)(h0:P 0 ρ0)(h:∀i d ρ,ds[i]?=some d->P i ρ->∃ρ1 ρ2,bd d ρ=some ρ1/\b ρ1=some (.nx ρ2)/\P (i+1) ρ2):∃ρ',vc it bd b ρ0=some (.nx ρ')/\P ds.length ρ':=by
 have⟨ρ',e,p⟩:=ziq P h0 h;refine⟨ρ',?_,p⟩;unfold vc;rw[hi];exact e
theorem Vj{g:RLx}{ρ:Ro}{n:Nat}(h:g ρ=some [.int n])(hn:n<4611686018427387904):xK g ρ=some (jB 0 n):=by
 unfold xK;rw[h];show(if -(2 ^ 62)<=(n:Int)/\(n:Int)<2 ^ 62 then _ else _)=_
 rw[if_pos (by constructor<;>omega),Int.toNat_natCast]
theorem zfJ{n i:Nat}{d:PdX}(h:(jB 0 n)[i]?=some d):i<n/\d=.int (i:Int):=by
 have⟨h1,h2⟩:=VG h;rw[Int.zero_add] at h2;exact⟨h1,h2⟩
theorem V3{g:RLx}{bd:PyData->Ro->Option Ro}{b:RFx}{n:Nat}{ρ0:Ro}(P:Nat->Ro->Prop)(hg:g ρ0=some [.int n])(hn:n<4611686018427387904)(h0:P 0 ρ0)(h:∀i ρ,i<n->P i ρ->∃ρ1 ρ2,bd (.int (i:Int)) ρ=some ρ1/\b ρ1=some (.nx ρ2)/\P (i+1) ρ2):∃ρ',vc (xK g) bd b ρ0=some (.nx ρ')/\P n ρ':=by
 have:=VX P (Vj hg hn) h0 (bd:=bd) (b:=b) λi d ρ e p=>by
  obtain⟨h1,rfl⟩:=zfJ e;exact h i ρ h1 p
 rw[zb6] at this;exact this
def qd(t:Bool)(n:Nat)(f:Q1x):PyData:=match t with |true=>z9 n f|false=>yi n f
theorem Zz(t:Bool)(n:Nat)(f:Q1x):yk [qd t n f]=some (.int n):=by
 cases t
 ·show some (PyData.int ((((List.range n).map λi=>fr (f i)).length:Nat):Int))=_
  simp
 ·show some (PyData.int ((((List.range n).map λi=>fr (f i)).length:Nat):Int))=_
  simp
theorem JD{d:Nat->PyData}{n i:Nat}(h:i<n):atI ((List.range n).map d) (i:Int)=some (d i):=W8 (WD.get_map h)
theorem Ue{t:Bool}{n i:Nat}{f:Q1x}(h:i<n):ixD (qd t n f) (.int (i:Int))=some (fr (f i)):=by
 cases t<;>exact JD h
theorem zlI{n i:Nat}{f:Q2x}(h:i<n):ixD (yv n f) (.int (i:Int))=some (z9 n (f i)):=JD h
theorem zdJ{n s i:Nat}{f:Q3x}(h:i<s):ixD (V7 n s f) (.int (i:Int))=some (yv n (f i)):=JD h
theorem YW{t u:Bool}{n k:Nat}{f g:Q1x}(hn:n<=42)(hk:k<=399)(hf:∀i,i<n->Bq 4000 (f i)/\Bq 4000 (g i)/\Sk k (f i*g i)):jx [qd t n f,qd u n g]=some (fr (sumTo n λi=>f i*g i)):=by
 refine zM rfl ?_;refine(zx (ρ':=[.pu (qd t n f),.pu (qd u n g),.pu (fr 0),.no]) rfl).trans ?_;obtain⟨ρ',e,o,rfl⟩:=V3 (n:=n) (g:=aC (zh yk (aC (gv 0) a0)) a0) (bd:=bN 3)
  (b:=yr 2 (zh ju (aC (gv 2) (aC (zh yV (aC (op2 ixD (gv 0) (gv 3)) (aC (op2 ixD (gv 1) (gv 3)) a0))) a0))))
  (ρ0:=[.pu (qd t n f),.pu (qd u n g),.pu (fr 0),.no])
  (λi ρ=>∃o,ρ=[.pu (qd t n f),.pu (qd u n g),.pu (fr (sumTo i λi=>f i*g i)),o]) (zk ((zb rfl).trans (Zz t n f)) rfl) (by omega) ⟨.no,rfl⟩
  λi ρ hi ⟨o,e⟩=>by
   subst e;refine⟨_,_,rfl,zQ ?_,.pu (.int (i:Int)),rfl⟩;refine(zb (zk rfl (zk ((zb (zk ((zf rfl rfl).trans (Ue hi)) (zk ((zf rfl rfl).trans (Ue hi)) rfl))).trans (zbU (hf i hi).1 (hf i hi).2.1)) rfl))).trans ?_;exact zcg ((Sk.sum (k:=k) (by omega) λj hj=>(hf j (by omega)).2.2).bq (by omega)) ((hf i hi).2.2.bq (by omega))
 exact(zx e).trans (zy rfl)
theorem v9(c:Int){m:Nat}(hm:0<m):∃r:Nat,r<m/\c.fmod (m:Int)=(r:Int):=by
 have h1:=Int.fmod_nonneg_of_pos c (b:=(m:Int)) (by omega);have h2:=Int.fmod_lt_of_pos c (b:=(m:Int)) (by omega)
 exact⟨(c.fmod (m:Int)).toNat,by omega,by omega⟩
theorem jz{i:Int}{j:Nat}(h:0<j)(h2:j<1073741824):xq (.int i) (.int (j:Int))=some (.int (i.fdiv (j:Int))):=by
 refine xR (by omega) ?_;rw[Int.natAbs_natCast];exact Nat.lt_trans ((Nat.log2_lt (by omega)).mpr (show j<2 ^ 30 by omega)) (by decide)
theorem zed{j:Nat}(h:j<1073741824):intBits (j:Int)<=30:=vh (show j<2 ^ 30 by omega)
def Fq(q:Rat):Prop:=InB 6 32 q
theorem Fq.zero:Fq 0:=InB.zero (by decide)
theorem Fq.sk{q:Rat}(h:Fq q):Sk 1 q:=InB.mono h (by decide)
theorem Fq.small{t:Int}{b:Nat}(ht:t.natAbs<=5)(hb:b=1\/b=2\/b=3\/b=6):Fq (Rat.divInt t (b:Int)):=by
 have key:∀c:Nat,b*c=6->c<=6->0<b->Fq (Rat.divInt t (b:Int)):=λc hc h6 hb0=>by
  refine⟨by decide,t*(c:Int),?_,?_⟩
  ·have hb':(b:Rat)≠0:=xG hb0;rw[Rat.divInt_eq_div,Rat.intCast_mul,<-hc,Rat.natCast_mul,Rat.intCast_natCast,Rat.intCast_natCast]
   have:=Rat.div_mul_cancel (a:=(t:Rat)) hb';rw[<-Rat.mul_assoc,this]
  ·rw[Int.natAbs_mul,Int.natAbs_natCast];exact Nat.le_trans (Nat.mul_le_mul ht h6) (by decide)
 rcases hb with rfl|rfl|rfl|rfl
 ·exact key 6 rfl (by decide) (by decide)
 ·exact key 3 rfl (by decide) (by decide)
 ·exact key 2 rfl (by decide) (by decide)
 ·exact key 1 rfl (by decide) (by decide)
theorem YT(c:Int):∃q,xV [.int c]=some (fr q)/\Fq q:=by
 obtain⟨r,hr,er⟩:=v9 c (m:=9) (by decide);obtain⟨u,hu,eu⟩:=v9 (c.fdiv 9) (m:=5) (by decide);obtain⟨b,hb,eb⟩:∃b:Nat,(b=1\/b=2\/b=3\/b=6)/\atI [PyData.int 1,.int 1,.int 2,.int 1,.int 3] (u:Int)=some (.int (b:Int)):=by
  have:u=0\/u=1\/u=2\/u=3\/u=4:=by omega
  rcases this with rfl|rfl|rfl|rfl|rfl
  ·exact⟨1,.inl rfl,rfl⟩
  ·exact⟨1,.inl rfl,rfl⟩
  ·exact⟨2,.inr (.inl rfl),rfl⟩
  ·exact⟨1,.inl rfl,rfl⟩
  ·exact⟨3,.inr (.inr (.inl rfl)),rfl⟩
 refine⟨Rat.divInt ((r:Int) - 4) (b:Int),zM rfl (zy ?_),Fq.small (by omega) hb⟩;have e1:op2 Zm (op2 wd (gv 0) (cst (.int 9))) (cst (.int 4)) [.pu (.int c)]=some (.int ((r:Int) - 4)):=by
  rw[<-er];exact(zf ((zf rfl rfl).trans (jE (by decide))) rfl).trans rfl
 have e2:op2 wd (op2 xq (gv 0) (cst (.int 9))) (cst (.int 5)) [.pu (.int c)]=some (.int (u:Int)):=by
  rw[<-eu];exact(zf ((zf rfl rfl).trans (jz (j:=9) (by decide) (by decide))) rfl).trans (jE (by decide))
 refine(zb (zk e1 (zk ((zf rfl e2).trans eb) rfl))).trans ?_;refine v5 (by omega) (Nat.le_trans (zed (by omega)) (by decide))
theorem Wj{i:Int}{j:Nat}(h:j<18446744073709551616):yE (.int i) (.int (j:Int))=some (.int (i*(j:Int))):=yK (IntMulOk.of_right (intBits_le_64 (by omega) (by omega)))
theorem zk8{j:Int}{i:Nat}(h:i<18446744073709551616):yE (.int (i:Int)) (.int j)=some (.int ((i:Int)*j)):=yK (IntMulOk.of_left (intBits_le_64 (by omega) (by omega)))
theorem zat(d:Nat->PyData){N lo m:Nat}(h:lo+m<=N):cut ((List.range N).map d) (some (lo:Int)) (some ((lo+m:Nat):Int))=(List.range m).map λi=>d (lo+i):=by
 unfold cut;rw[HT.zbA,HT.zbA,List.length_map,List.length_range,Nat.min_eq_left (show lo<=N by omega),Nat.min_eq_left h];refine List.ext_getElem? λi=>?_
 rw[List.getElem?_take,List.getElem?_drop,List.getElem?_map,List.getElem?_map];by_cases hi:i<m
 ·rw[if_pos (by omega),List.getElem?_range (by omega),List.getElem?_range hi];rfl
 ·rw[if_neg (by omega),List.getElem?_eq_none (by simpa using Nat.le_of_not_lt hi)];rfl
theorem zeh(d:Nat->PyData){N m:Nat}(h:m<=N):cut ((List.range N).map d) none (some (m:Int))=(List.range m).map d:=by
 unfold cut;rw[HT.zbA,HT.zgU,List.length_map,List.length_range,Nat.min_eq_left h];refine List.ext_getElem? λi=>?_
 rw[List.getElem?_take,List.getElem?_drop,List.getElem?_map,List.getElem?_map];by_cases hi:i<m
 ·rw[if_pos (by omega),List.getElem?_range (by omega),List.getElem?_range hi,Nat.zero_add]
 ·rw[if_neg (by omega),List.getElem?_eq_none (by simpa using Nat.le_of_not_lt hi)];rfl
theorem Ja(d:Nat->PyData)(n:Nat):(List.range n).map d++[d n]=(List.range (n+1)).map d:=by
 rw[List.range_succ,List.map_append];rfl
theorem list_range(qs:List Rat):qs.map fr=(List.range qs.length).map λi=>fr (qs.getD i 0):=by
 refine List.ext_getElem? λi=>?_
 rw[List.getElem?_map,List.getElem?_map];by_cases hi:i<qs.length
 ·rw[List.getElem?_range hi,List.getElem?_eq_getElem hi];simp[hi]
 ·rw[List.getElem?_eq_none (by omega),List.getElem?_eq_none (by simpa using Nat.le_of_not_lt hi)];rfl
theorem Wx{i:Nat}{f:RPx}{ρ:Ro}{ds:LPd}{d:PdX}(h1:gk i ρ=some ds)(h2:f ρ=some d)(h3:ds.length<16777216):apS i f ρ=some (.nx (ρ.set i (.ow (ds++[d])))):=by
 unfold apS;rw[h1,Option.bind_some,h2,Option.bind_some,if_pos h3]
theorem zkD{c:Ro->Option Bool}{f g:RPx}{ρ:Ro}(h:c ρ=some true):ifE c f g ρ=f ρ:=by
 unfold ifE;rw[h];rfl
theorem zkC{c:Ro->Option Bool}{f g:RPx}{ρ:Ro}(h:c ρ=some false):ifE c f g ρ=g ρ:=by
 unfold ifE;rw[h];rfl
theorem zdO{f:RPx}{l h:Ro->Option (Option Int)}{ρ:Ro}{ds:LPd}{lo hi:Option Int}(h1:f ρ=some (.list ds))(h2:l ρ=some lo)(h3:h ρ=some hi):slL f l h ρ=some (cut ds lo hi):=by
 unfold slL;rw[h1];show((l ρ).bind λlo=>(h ρ).bind λhi=>some (cut ds lo hi))=_
 rw[h2,Option.bind_some,h3];rfl
theorem zcP{f:RPx}{ρ:Ro}{i:Int}(h:f ρ=some (.int i)):oS f ρ=some (some i):=by
 unfold oS;rw[h]
theorem zZ{f:RLx}{ρ:Ro}{ds:LPd}(h:f ρ=some ds):yu f ρ=some (.list ds):=by
 unfold yu;rw[h];rfl
structure Mach(n s:Nat)(fi:Q1x)(st:Q3x)(la:Q1x)(k:Nat):Prop where
 fi:∀a,a<n->Sk k (fi a)
 st:∀g a b,g<s->a<n->b<n->Sk k (st g a b)
 la:∀a,a<n->Sk k (la a)
structure zb5(n s:Nat)(fi:Q1x)(st:Q3x)(la:Q1x):Prop where
 fi:∀a,a<n->Fq (fi a)
 st:∀g a b,g<s->a<n->b<n->Fq (st g a b)
 la:∀a,a<n->Fq (la a)
theorem zb5.mach{n s:Nat}{fi:Q1x}{st:Q3x}{la:Q1x}(h:zb5 n s fi st la):Mach n s fi st la 1:=⟨λa ha=>(h.fi a ha).sk,λg a b hg ha hb=>(h.st g a b hg ha hb).sk,λa ha=>(h.la a ha).sk⟩
theorem wR(c:Int){n s:Nat}(hn:n<=42)(hs:s<=42):∃fi st la,ji [.int c,.int (n:Int),.int (s:Int)]=some (zr n s fi st la)/\zb5 n s fi st la:=by
 have htot:n*(2+n*s)<=42*(2+42*42):=Nat.mul_le_mul hn (Nat.add_le_add_left (Nat.mul_le_mul hn hs) 2);have h0:vf ([.int c,.int (n:Int),.int (s:Int)].map Sl.pu++List.replicate (10 - 3) .no)=vf [.pu (.int c),.pu (.int (n:Int)),.pu (.int (s:Int)),.no,.no,.no,.no,.no,.no,.no]:=rfl
 obtain⟨ρ1,e1,c1,o1,qs,l1,q1,rfl⟩:=V3 (n:=n*(2+n*s)) (g:=aC (op2 yE (gv 1) (op2 xP (cst (.int 2)) (op2 yE (gv 1) (gv 2)))) a0) (bd:=bN 4)
  (b:=sq (yr 0 (op2 wd (op2 xP (op2 yE (gv 0) (cst (.int 48271))) (cst (.int 29))) (cst (.int 2147483647))))
   (apS 3 (ifE (zK (op2 eqD (op2 wd (op2 xq (gv 0) (cst (.int 11))) (cst (.int 3))) (cst (.int 0)))) (xp (aC (cst (.int 0)) (aC (cst (.int 1)) a0))) (zh xV (aC (op2 xq (gv 0) (cst (.int 33))) a0)))))
  (ρ0:=[.pu (.int c),.pu (.int (n:Int)),.pu (.int (s:Int)),.ow [],.no,.no,.no,.no,.no,.no])
  (λi ρ=>∃(c':Int)(o:Sl)(qs:List Rat),qs.length=i/\(∀x∈qs,Fq x)/\ρ=[.pu (.int c'),.pu (.int (n:Int)),.pu (.int (s:Int)),.ow (qs.map fr),o,.no,.no,.no,.no,.no])
  (zk (by
   refine(zf rfl ((zf rfl ((zf rfl rfl).trans (Wj (j:=s) (by omega)))).trans rfl)).trans ((zk8 (i:=n) (by omega)).trans ?_);simp only [Int.natCast_mul,Int.natCast_add];rfl) rfl) (by omega) ⟨c,.no,[],rfl,(λx h=>by cases h),rfl⟩
  λi ρ hi ⟨c',o,qs,l,q,e⟩=>by
   subst e;have e1:yr 0 (op2 wd (op2 xP (op2 yE (gv 0) (cst (.int 48271))) (cst (.int 29))) (cst (.int 2147483647))) [.pu (.int c'),.pu (.int (n:Int)),.pu (.int (s:Int)),.ow (qs.map fr),.pu (.int (i:Int)),.no,.no,.no,.no,.no]=some (.nx [.pu (.int ((c'*48271+29).fmod 2147483647)),.pu (.int (n:Int)),.pu (.int (s:Int)),.ow (qs.map fr),.pu (.int (i:Int)),.no,.no,.no,.no,.no]):=zQ ((zf ((zf ((zf rfl rfl).trans (Wj (j:=48271) (by omega))) rfl).trans rfl) rfl).trans (jE (by decide)));generalize (c'*48271+29).fmod 2147483647=c2 at e1;obtain⟨x,hx,ex⟩:∃x,Fq x/\ifE (zK (op2 eqD (op2 wd (op2 xq (gv 0) (cst (.int 11))) (cst (.int 3))) (cst (.int 0)))) (xp (aC (cst (.int 0)) (aC (cst (.int 1)) a0))) (zh xV (aC (op2 xq (gv 0) (cst (.int 33))) a0)) [.pu (.int c2),.pu (.int (n:Int)),.pu (.int (s:Int)),.ow (qs.map fr),.pu (.int (i:Int)),.no,.no,.no,.no,.no]=some (fr x):=by
    have et:∀ρ:Ro,gv 0 ρ=some (.int c2)->zK (op2 eqD (op2 wd (op2 xq (gv 0) (cst (.int 11))) (cst (.int 3))) (cst (.int 0))) ρ=some (decide ((c2.fdiv 11).fmod 3=0)):=λρ h=>
     zA ((zf ((zf ((zf h rfl).trans (jz (j:=11) (by decide) (by decide))) rfl).trans (jE (by decide))) rfl).trans (UU _ _))
    by_cases hz:(c2.fdiv 11).fmod 3=0
    ·refine⟨0,Fq.zero,?_⟩;rw[zkD ((et _ rfl).trans (by rw[decide_eq_true hz]))];rfl
    ·obtain⟨x,ex,hx⟩:=YT (c2.fdiv 33);refine⟨x,hx,?_⟩;rw[zkC ((et _ rfl).trans (by rw[decide_eq_false hz]))];exact(zb (zk ((zf rfl rfl).trans (jz (j:=33) (by decide) (by decide))) rfl)).trans ex
   refine⟨_,_,rfl,(zx e1).trans (Wx rfl ex (by rw[List.length_map,l];omega)),c2,.pu (.int (i:Int)),qs++[x],by simp[l],λy hy=>?_,by rw[List.map_append];rfl⟩;rcases List.mem_append.mp hy with h|h
   ·exact q y h
   ·have:y=x:=by simpa using h
    rw[this];exact hx
 have hQ:∀i,Fq (qs.getD i 0):=λi=>by
  by_cases hi:i<qs.length
  ·have:qs.getD i 0=qs[i]:=by simp[hi]
   rw[this];exact q1 _ (List.getElem_mem hi)
  ·have:qs.getD i 0=0:=by simp[Nat.le_of_not_lt hi]
   rw[this];exact Fq.zero
 rw[list_range qs,l1] at e1;generalize hQe:(λi=>qs.getD i 0)=Q at e1;have hQ':∀i,Fq (Q i):=λi=>by rw[<-hQe];exact hQ i
 have e1':(List.map (λi=>fr (qs.getD i 0)) (List.range (n*(2+n*s))))=(List.range (n*(2+n*s))).map λi=>fr (Q i):=by
  rw[<-hQe]
 rw[e1'] at e1;have hfin:∀x,x<=s*n->2*n+x*n<=n*(2+n*s):=λx hx=>by
  have:x*n<=s*n*n:=Nat.mul_le_mul_right n hx;have e:n*(2+n*s)=2*n+s*n*n:=by
   rw[Nat.mul_add,Nat.mul_comm n 2,Nat.mul_comm n (n*s),Nat.mul_comm n s]
  omega
 obtain⟨ρ2,e2,o2,o3,o4,o5,rfl⟩:=V3 (n:=s) (g:=aC (gv 2) a0) (bd:=bN 6)
  (b:=sq (jR 7 (vw a0)) (sq (vc (xK (aC (gv 1) a0)) (bN 8) (sq (yr 9 (op2 xP (op2 yE (cst (.int 2)) (gv 1)) (op2 yE (op2 xP (op2 yE (gv 6) (gv 1)) (gv 8)) (gv 1))))
   (apS 7 (zh yn (aC (yu (slL (gb 3) (oS (gv 9)) (oS (op2 xP (gv 9) (gv 1))))) a0))))) (apS 5 (zh yn (aC (gb 7) a0)))))
  (ρ0:=[.pu (.int c1),.pu (.int (n:Int)),.pu (.int (s:Int)),.ow ((List.range (n*(2+n*s))).map λi=>fr (Q i)),o1,.ow [],.no,.no,.no,.no])
  (λi ρ=>∃o2 o3 o4 o5,ρ=[.pu (.int c1),.pu (.int (n:Int)),.pu (.int (s:Int)),.ow ((List.range (n*(2+n*s))).map λi=>fr (Q i)),o1,.ow ((List.range i).map λg=>yv n λa b=>Q (2*n+(g*n+a)*n+b)),o2,o3,o4,o5])
  (zk rfl rfl) (by omega) ⟨.no,.no,.no,.no,rfl⟩
  λg ρ hg ⟨o2,o3,o4,o5,e⟩=>by
   subst e;obtain⟨ρ3,e3,o6,o7,rfl⟩:=V3 (n:=n) (g:=aC (gv 1) a0) (bd:=bN 8)
    (b:=sq (yr 9 (op2 xP (op2 yE (cst (.int 2)) (gv 1)) (op2 yE (op2 xP (op2 yE (gv 6) (gv 1)) (gv 8)) (gv 1))))
     (apS 7 (zh yn (aC (yu (slL (gb 3) (oS (gv 9)) (oS (op2 xP (gv 9) (gv 1))))) a0))))
    (ρ0:=[.pu (.int c1),.pu (.int (n:Int)),.pu (.int (s:Int)),.ow ((List.range (n*(2+n*s))).map λi=>fr (Q i)),o1,.ow ((List.range g).map λg=>yv n λa b=>Q (2*n+(g*n+a)*n+b)),.pu (.int (g:Int)),.ow [],o4,o5])
    (λa ρ=>∃o6 o7,ρ=[.pu (.int c1),.pu (.int (n:Int)),.pu (.int (s:Int)),.ow ((List.range (n*(2+n*s))).map λi=>fr (Q i)),o1,.ow ((List.range g).map λg=>yv n λa b=>Q (2*n+(g*n+a)*n+b)),.pu (.int (g:Int)),.ow ((List.range a).map λa=>z9 n λb=>Q (2*n+(g*n+a)*n+b)),o6,o7])
    (zk rfl rfl) (by omega) ⟨o4,o5,rfl⟩
    λa ρ ha ⟨o6,o7,e⟩=>by
     subst e;have hlt:2*n+(g*n+a)*n+n<=n*(2+n*s):=by
      have h1:g*n+a+1<=s*n:=by
       have h2:(g+1)*n<=s*n:=Nat.mul_le_mul_right n hg;have h3:(g+1)*n=g*n+n:=Nat.succ_mul _ _
       omega
      have h2:=hfin (g*n+a+1) h1;have h3:(g*n+a+1)*n=(g*n+a)*n+n:=Nat.succ_mul _ _
      omega
     have hgn:g*n+a<18446744073709551616:=by
      have:g*n<=42*42:=Nat.mul_le_mul (by omega) hn;omega
     have e4:op2 xP (op2 yE (cst (.int 2)) (gv 1)) (op2 yE (op2 xP (op2 yE (gv 6) (gv 1)) (gv 8)) (gv 1)) [.pu (.int c1),.pu (.int (n:Int)),.pu (.int (s:Int)),.ow ((List.range (n*(2+n*s))).map λi=>fr (Q i)),o1,.ow ((List.range g).map λg=>yv n λa b=>Q (2*n+(g*n+a)*n+b)),.pu (.int (g:Int)),.ow ((List.range a).map λa=>z9 n λb=>Q (2*n+(g*n+a)*n+b)),.pu (.int (a:Int)),o7]
       =some (.int ((2*n+(g*n+a)*n:Nat):Int)):=by
      have m1:op2 yE (cst (.int 2)) (gv 1) [.pu (.int c1),.pu (.int (n:Int)),.pu (.int (s:Int)),.ow ((List.range (n*(2+n*s))).map λi=>fr (Q i)),o1,.ow ((List.range g).map λg=>yv n λa b=>Q (2*n+(g*n+a)*n+b)),.pu (.int (g:Int)),.ow ((List.range a).map λa=>z9 n λb=>Q (2*n+(g*n+a)*n+b)),.pu (.int (a:Int)),o7]=some (.int ((2*n:Nat):Int)):=by
       refine(zf rfl rfl).trans ((Wj (j:=n) (by omega)).trans ?_);rw[Int.natCast_mul];rfl
      have m2:op2 xP (op2 yE (gv 6) (gv 1)) (gv 8) [.pu (.int c1),.pu (.int (n:Int)),.pu (.int (s:Int)),.ow ((List.range (n*(2+n*s))).map λi=>fr (Q i)),o1,.ow ((List.range g).map λg=>yv n λa b=>Q (2*n+(g*n+a)*n+b)),.pu (.int (g:Int)),.ow ((List.range a).map λa=>z9 n λb=>Q (2*n+(g*n+a)*n+b)),.pu (.int (a:Int)),o7]=some (.int ((g*n+a:Nat):Int)):=by
       refine(zf ((zf rfl rfl).trans (Wj (j:=n) (by omega))) rfl).trans ?_;rw[Int.natCast_add,Int.natCast_mul];rfl
      refine(zf m1 ((zf m2 rfl).trans (Wj (j:=n) (by omega)))).trans ?_;rw[<-Int.natCast_mul];show some (PyData.int _)=_
      rw[<-Int.natCast_add]
     refine⟨_,_,rfl,(zx (zQ e4)).trans (Wx (d:=z9 n λb=>Q (2*n+(g*n+a)*n+b)) rfl ?_ (by rw[List.length_map,List.length_range];omega)),.pu (.int (a:Int)),.pu (.int ((2*n+(g*n+a)*n:Nat):Int)),?_⟩
     ·refine(zb (zk (zZ (zdO rfl (zcP rfl) (zcP (i:=((2*n+(g*n+a)*n+n:Nat):Int)) ?_))) rfl)).trans ?_
      ·show some (PyData.int (((2*n+(g*n+a)*n:Nat):Int)+(n:Int)))=_
       rw[<-Int.natCast_add]
      ·rw[zat _ hlt];rfl
     ·rw[<-Ja];rfl
   refine⟨_,_,rfl,(zx rfl).trans ((zx e3).trans (Wx (d:=yv n λa b=>Q (2*n+(g*n+a)*n+b)) rfl rfl (by rw[List.length_map,List.length_range];omega))),.pu (.int (g:Int)),.ow ((List.range n).map λa=>z9 n λb=>Q (2*n+(g*n+a)*n+b)),o6,o7,?_⟩
   ·rw[<-Ja];rfl
 refine⟨λa=>Q a,λg a b=>Q (2*n+(g*n+a)*n+b),λa=>Q (n+a),zM rfl ?_,⟨λa _=>hQ' _,λg a b _ _ _=>hQ' _,λa _=>hQ' _⟩⟩;rw[h0];refine(zx (ρ':=[.pu (.int c),.pu (.int (n:Int)),.pu (.int (s:Int)),.ow [],.no,.no,.no,.no,.no,.no]) rfl).trans ((zx e1).trans ((zx (ρ':=[.pu (.int c1),.pu (.int (n:Int)),.pu (.int (s:Int)),.ow ((List.range (n*(2+n*s))).map λi=>fr (Q i)),o1,.ow [],.no,.no,.no,.no]) rfl).trans ((zx e2).trans (zy ?_))));have h2n:2*n<=n*(2+n*s):=by have:=hfin 0 (Nat.zero_le _);omega
 refine(WM (x:=z9 n λa=>Q a) (y:=V7 n s λg a b=>Q (2*n+(g*n+a)*n+b)) (z:=z9 n λa=>Q (n+a)) ?_ ?_ ?_).trans rfl
 ·refine(zb (zk (zZ (zdO rfl rfl (zcP rfl))) rfl)).trans ?_;rw[zeh _ (by omega)];rfl
 ·rfl
 ·refine(zb (zk (zZ (zdO rfl (zcP rfl) (zcP (i:=((n+n:Nat):Int)) ?_))) rfl)).trans ?_
  ·refine(zf rfl rfl).trans ((Wj (j:=n) (by omega)).trans ?_);rw[show(2:Int)*(n:Int)=((n+n:Nat):Int) by omega]
  ·rw[zat _ (by omega)];rfl
theorem Jn{α β:Type}{h:α->Option β}{f:α->β}:∀{xs:List α},(∀x∈xs,h x=some (f x))->Jj h xs=some (xs.map f)
 |[],_=>rfl
 |x::r,hf=>by
  show(h x).bind (λy=>(Jj h r).map (y::·))=_
  rw[hf x List.mem_cons_self,Option.bind_some,Jn λy hy=>hf y (List.mem_cons_of_mem _ hy)];rfl
theorem uc{α β γ:Type}{h:β->Option γ}{e:α->β}:∀{xs:List α},Jj h (xs.map e)=Jj (λx=>h (e x)) xs
 |[]=>rfl
 |x::r=>by
  show(h (e x)).bind (λy=>(Jj h (r.map e)).map (y::·))=_
  rw[uc];rfl
theorem zP{T:Nat}{F:LNt}{fi:RLx}{b:PyData->Ro->Option Ro}{fe:RPx}{ρ:Ro}{α:Type}{xs:List α}{e d:α->PyData}(h1:fi ρ=some (xs.map e))(hl:xs.length<=16777216)(h2:∀x∈xs,(b (e x) (compEnv T F ρ)).bind fe=some (d x)):zR T F fi b fe ρ=some (xs.map d):=by
 unfold zR;rw[h1,Option.bind_some,if_pos (by rw[List.length_map];exact hl),uc];exact Jn h2
theorem uk{T:Nat}{F:LNt}{g:RLx}{b:PyData->Ro->Option Ro}{fe:RPx}{ρ:Ro}{n:Nat}{d:Nat->PyData}(h1:g ρ=some [.int (n:Int)])(hl:n<=16777216)(h2:∀i,i<n->(b (.int (i:Int)) (compEnv T F ρ)).bind fe=some (d i)):zR T F (xK g) b fe ρ=some ((List.range n).map d):=by
 refine zP (xs:=List.range n) (e:=λi:Nat=>PyData.int (0+(i:Int))) (Vj h1 (by omega)) (by simpa using hl) λi hi=>?_
 rw[Int.zero_add];exact h2 i (List.mem_range.mp hi)
theorem wW{g:RPx}{ρ:Ro}{ds:LPd}(h:g ρ=some (.tuple ds)):yt g ρ=some ds:=by
 unfold yt;rw[h]
theorem jc{g:RPx}{ρ:Ro}{ds:LPd}(h:g ρ=some (.list ds)):yt g ρ=some ds:=by
 unfold yt;rw[h]
theorem zeo{t:Bool}{n k l:Nat}{r:Q1x}{M:Q2x}(hn:n<=42)(hr:∀a,a<n->Sk k (r a))(hM:∀a b,a<n->b<n->Sk l (M a b))(hk:k+l<=399):j9 [qd t n r,yv n M]=some ((List.range n).map λb=>fr (led n r M b)):=by
 obtain⟨ρ1,e1,o,rfl⟩:=V3 (n:=n) (g:=aC (zh yk (aC (gv 0) a0)) a0) (bd:=bN 3)
  (b:=apS 2 (zh jx (aC (gv 0) (aC (yu (zR 1 [1,3] (xK (aC (zh yk (aC (gv 0) a0)) a0)) (bN 0) (op2 ixD (op2 ixD (gv 1) (gv 0)) (gv 2)))) a0))))
  (ρ0:=[.pu (qd t n r),.pu (yv n M),.ow [],.no])
  (λi ρ=>∃o,ρ=[.pu (qd t n r),.pu (yv n M),.ow ((List.range i).map λb=>fr (led n r M b)),o]) (zk ((zb rfl).trans (Zz t n r)) rfl) (by omega) ⟨.no,rfl⟩
  λb ρ hb ⟨o,e⟩=>by
   subst e;refine⟨_,_,rfl,Wx (d:=fr (led n r M b)) rfl ?_ (by rw[List.length_map,List.length_range];omega),.pu (.int (b:Int)),by rw[<-Ja];rfl⟩;refine(zb (xs:=[qd t n r,qd false n λa=>M a b]) (zk rfl (zk (zZ (uk (n:=n) (zk ((zb rfl).trans (Zz t n r)) rfl) (by omega) λa ha=>?_)) rfl))).trans (YW hn hk λa ha=>⟨(hr a ha).bq (by omega),(hM a b ha hb).bq (by omega),(hr a ha).mul (hM a b ha hb)⟩);exact(zf ((zf rfl rfl).trans (zlI ha)) rfl).trans (Ue (t:=true) hb)
 refine Jy rfl ?_;exact(zx (ρ':=[.pu (qd t n r),.pu (yv n M),.ow [],.no]) rfl).trans ((zx e1).trans (wC rfl))
theorem za3{n s k k':Nat}{st:Q3x}(hn:n<=42)(hst:∀g a b,g<s->a<n->b<n->Sk k' (st g a b)):∀(ws:LNt)(k:Nat)(fi:Q1x),(∀a,a<n->Sk k (fi a))->(∀g∈ws,g<s)->∀a,a<n->Sk (k+ws.length*(k'+1)) (zT n st fi ws a)
 |[],k,fi,hf,_=>λa ha=>by
  rw[List.length_nil,Nat.zero_mul];exact hf a ha
 |g::ws,k,fi,hf,hg=>λa ha=>by
  have step:∀b,b<n->Sk (k+k'+1) (led n fi (st g) b):=λb hb=>Sk.sum hn λi hi=>(hf i hi).mul (hst g i b (hg g List.mem_cons_self) hi hb)
  have r:=za3 (k:=k) hn hst ws (k+k'+1) (led n fi (st g)) step (λx hx=>hg x (List.mem_cons_of_mem _ hx)) a ha;refine Sk.mono r ?_;rw[List.length_cons,Nat.succ_mul];omega
theorem xQ{n s:Nat}{fi:Q1x}{st:Q3x}{la:Q1x}:ixD (zr n s fi st la) (.int 0)=some (z9 n fi):=rfl
theorem vE{n s:Nat}{fi:Q1x}{st:Q3x}{la:Q1x}:ixD (zr n s fi st la) (.int 1)=some (V7 n s st):=rfl
theorem uv{n s:Nat}{fi:Q1x}{st:Q3x}{la:Q1x}:ixD (zr n s fi st la) (.int 2)=some (z9 n la):=rfl
theorem zfy{f:Ro->Option Bool}{ρ:Ro}{b:Bool}(h:f ρ=some b):zab f ρ=some (!b):=by
 unfold zab;rw[h];rfl
theorem zlW{f g:RPx}{ρ:Ro}{d:PdX}(h:f ρ=some (.bool true))(h2:g ρ=some d):zhK f g ρ=some d:=by
 unfold zhK;rw[h];exact h2
theorem xx(n:Nat)(d:Nat->PyData):yk [.tuple ((List.range n).map d)]=some (.int (n:Int)):=by
 show some (PyData.int ((((List.range n).map d).length:Nat):Int))=_
 rw[List.length_map,List.length_range]
theorem vq(ns:List Int)(i:Nat):∃c:Int,yw [.list (ns.map PyData.int),.int (i:Int)]=some (.int c):=by
 by_cases h:i<ns.length
 ·refine⟨ns[i],zM rfl ?_⟩;refine Uj ((wD (zA (show _=some (PyData.bool true) from ?_))).trans (zy ?_))
  ·refine congrArg some (congrArg PyData.bool (decide_eq_true ?_));rw[List.length_map];omega
  ·refine(zf (x:=.list (ns.map PyData.int)) (y:=.int (i:Int)) rfl rfl).trans ?_;show atI (ns.map PyData.int) (i:Int)=_
   refine W8 ?_;rw[List.getElem?_map,List.getElem?_eq_getElem h];rfl
 ·refine⟨0,zM rfl ?_⟩;refine(zx ((xH (zA (show _=some (PyData.bool false) from ?_))).trans rfl)).trans (zy rfl);refine congrArg some (congrArg PyData.bool (decide_eq_false ?_));rw[List.length_map];omega
theorem wY{n:Nat}{f:Q1x}{c:Rat}(hn:n<=1000)(h:∀i,i<n->Bq 4000 (f i))(hc:Bq 4000 c):jK [z9 n f,fr c]=some (z9 n λi=>f i*c):=by
 refine zM rfl (zy ?_);refine(zb (xs:=[.list ((List.range n).map λi=>fr (f i*c))]) (zk (zZ (zP (xs:=List.range n) (e:=λi=>fr (f i)) (d:=λi=>fr (f i*c)) rfl (by simpa using Nat.le_trans hn (by decide)) λi hi=>?_)) rfl)).trans rfl;exact(zb (g:=aC (gv 0) (aC (gv 1) a0)) (ρ:=[.pu (fr (f i)),.pu (fr c)]) rfl).trans (zhS (h i (List.mem_range.mp hi)) hc)
theorem zlj{i:Nat}{f:RPx}{ρ:Ro}{ds es:LPd}(h1:gk i ρ=some ds)(h2:f ρ=some (.tuple es))(h3:ds.length+es.length<=16777216):exT i f ρ=some (.nx (ρ.set i (.ow (ds++es)))):=by
 unfold exT;rw[h1,Option.bind_some,h2];show(if ds.length+es.length<=16777216 then _ else _)=_
 rw[if_pos h3]
theorem ziB{it:RLx}{bd:PyData->Ro->Option Ro}{b:RFx}{n:Nat}{d:Nat->PyData}{ρ0:Ro}(P:Nat->Ro->Prop)(hi:it ρ0=some ((List.range n).map d))(h0:P 0 ρ0)(h:∀i ρ,i<n->P i ρ->∃ρ1 ρ2,bd (d i) ρ=some ρ1/\b ρ1=some (.nx ρ2)/\P (i+1) ρ2):∃ρ',vc it bd b ρ0=some (.nx ρ')/\P n ρ':=by
 have:=VX P hi h0 (bd:=bd) (b:=b) λi x ρ e p=>by
  rw[List.getElem?_map] at e;obtain⟨j,hj,rfl⟩:=map_some e;have hi:i<n:=by
   have:=(List.getElem?_eq_some_iff.mp hj).1;simpa using this
  rw[List.getElem?_range hi] at hj;cases hj;exact h i ρ hi p
 rw[List.length_map,List.length_range] at this;exact this
theorem jY{n m s:Nat}{fi gi:Q1x}{st su:Q3x}{la lb:Q1x}:xB [zr n s fi st la,zr m s gi su lb]=some .none:=by
 refine zhq (ρ:=[.pu (zr n s fi st la),.pu (zr m s gi su lb),.pu (.int (s:Int)),.pu (.int (s:Int))]) rfl ?_;refine(zx (zQ ((zb (zk ((zf rfl rfl).trans vE) rfl)).trans (xx s _)))).trans ((zx (zQ ((zb (zk ((zf rfl rfl).trans vE) rfl)).trans (xx s _)))).trans ?_);refine(xH (zA ((zf rfl rfl).trans ((JW _ _).trans ?_)))).trans rfl;rw[decide_eq_true rfl];rfl
theorem wj{n:Nat}(h:n<=24):xJ [.int (n:Int)]=some .none:=by
 refine zhq (ρ:=[.pu (.int (n:Int))]) rfl ?_;refine(xH (zA (show _=some (PyData.bool false) from ?_))).trans rfl;exact congrArg some (congrArg PyData.bool (decide_eq_false (by omega)))
theorem uh(d e:Nat->PyData)(n:Nat):Jk ((List.range n).map d) ((List.range n).map e)=(List.range n).map λi=>.tuple [d i,e i]:=by
 unfold Jk;rw[List.zip_map',List.map_map];rfl
theorem zfc{g:RLx}{ρ:Ro}{xs ys:LPd}(h:g ρ=some [.tuple xs,.tuple ys]):uB true true g ρ=some (Jk xs ys):=by
 unfold uB;rw[h];rfl
theorem yz(f:Q1x)(a:Nat):∀m,sumTo (a+m) f=sumTo a f+sumTo m (λj=>f (a+j))
 |0=>by show sumTo a f=sumTo a f+0;grind
 |m+1=>by
  show sumTo (a+m) f+f (a+m)=sumTo a f+(sumTo m (λj=>f (a+j))+f (a+m))
  rw[yz f a m];grind
theorem uP{n:Nat}{st st':Q3x}:∀(ws:LNt) {r r':Q1x},(∀a,a<n->r a=r' a)->(∀g∈ws,∀a b,a<n->b<n->st g a b=st' g a b)->∀a,a<n->zT n st r ws a=zT n st' r' ws a
 |[],_,_,h,_=>h
 |g::ws,_,_,h,k=>λa ha=>uP ws (zgP h (k g List.mem_cons_self)) (λx hx=>k x (List.mem_cons_of_mem _ hx)) a ha
theorem Sk.den{k:Nat}{q:Rat}(h:Sk k q):q.den ∣ 6 ^ k:=InB.den h
theorem sz6{k:Nat}(hk:k<=1300):Sz (6 ^ k):=by
 refine Sz.mono (n:=2 ^ (3*k)) ?_ (Sz.Ji (by omega));rw[Nat.pow_mul];exact Nat.pow_le_pow_left (by decide) k
def sqD(t:Bool)(xs:LPd):PyData:=match t with |true=>.tuple xs|false=>.list xs
theorem zjA{g:RPx}{ρ:Ro}{t:Bool}{ds:LPd}(h:g ρ=some (sqD t ds)):yt g ρ=some ds:=by
 cases t
 ·exact jc h
 ·exact wW h
theorem vA{t:Bool}{qs:List Rat}{M:Nat}(hM:0<M)(sM:Sz M)(h:∀q∈qs,q.den ∣ M):ye [sqD t (qs.map fr)]=some (.int (xm qs:Int)):=by
 obtain⟨ρ1,e1,o,rfl⟩:=VX (ds:=qs.map fr) (it:=yt (gv 0)) (bd:=bN 2)
  (b:=yr 1 (op2 yE (gv 1) (op2 xq (op2 ixD (gv 2) (cst (.int 1))) (zh yG (aC (gv 1) (aC (op2 ixD (gv 2) (cst (.int 1))) a0))))))
  (ρ0:=[.pu (sqD t (qs.map fr)),.pu (.int 1),.no]) (λi ρ=>∃o,ρ=[.pu (sqD t (qs.map fr)),.pu (.int (xm (qs.take i):Int)),o]) (zjA rfl) ⟨.no,rfl⟩
  λi d ρ hd ⟨o,e⟩=>by
   subst e;rw[List.getElem?_map] at hd;obtain⟨q,hq,rfl⟩:=map_some hd;have hdM:=h q (List.mem_of_getElem? hq);have hL:xm (qs.take i) ∣ M:=Vd _ λz hz=>h z (List.mem_of_mem_take hz)
   have hd0:=ZT q;have bd:intBits (q.den:Int)<=4000:=sM.bits (Nat.le_of_dvd hM hdM)
   have bL:intBits (xm (qs.take i):Int)<=4000:=sM.bits (Nat.le_of_dvd hM hL);obtain⟨l1,_⟩:=zbs (t:=(xm (qs.take i):Int)) hd0 (Nat.le_trans bd (by decide));have hg:=vP (t:=(xm (qs.take i):Int)) hd0
   refine⟨_,_,rfl,zQ (d:=.int (xm (qs.take (i+1)):Int)) ?_,.pu (fr q),rfl⟩;refine(zf rfl ((zf ((zf rfl rfl).trans (ix1 q)) ((zb (zk rfl (zk ((zf rfl rfl).trans (ix1 q)) rfl))).trans (jM _ _))).trans (xR (by omega) l1))).trans ((yK (xS bL (intBits_fdiv_le bd))).trans ?_);rw[zhj,List.take_add_one,hq];exact congrArg (λz:Nat=>some (PyData.int (z:Int))) (zgu (qs.take i) q).symm
 refine zM rfl ?_;refine(zx (ρ':=[.pu (sqD t (qs.map fr)),.pu (.int 1),.no]) rfl).trans ((zx e1).trans (zy ?_));rw[List.length_map,List.take_length];rfl
theorem uU{t:Bool}{n:Nat}{f:Q1x}{B:Nat}(hn:n<=1000)(hB:0<B)(sB:Sz B)(hf:∀i,i<n->(f i).den ∣ B/\intBits (f i).num<=4000):yO [qd t n f,.int (B:Int)]=some ((List.range n).map λi=>.int (jj (f i) B)):=by
 refine Jy rfl (wC ?_);refine zP (xs:=List.range n) (e:=λi=>fr (f i)) ?_ (by simpa using Nat.le_trans hn (by decide)) λi hi=>?_
 ·cases t
  ·exact jc rfl
  ·exact wW rfl
 ·have hi:=List.mem_range.mp hi;have⟨hd,hb⟩:=hf i hi
  have bd:intBits ((f i).den:Int)<=4000:=sB.bits (Nat.le_of_dvd hB hd);have lg:=WJ (ZT (f i)) bd
  rw[<-zg2];show op2 yE (op2 ixD (gv 0) (cst (.int 0))) (op2 xq (gv 1) (op2 ixD (gv 0) (cst (.int 1)))) [.pu (fr (f i)),.pu (.int (B:Int))]=_
  exact(zf ((zf rfl rfl).trans (ix0 (f i))) ((zf rfl ((zf rfl rfl).trans (ix1 (f i)))).trans (xR (ZT _) (by omega)))).trans (yK (xS hb (intBits_fdiv_le (show intBits (B:Int)<=4000 from sB))))
def y9(n:Nat)(f:Z1x):List PyData:=(List.range n).map λi=>.int (f i)
theorem Y3(n:Nat)(f:Z1x):Jj zdl (y9 n f)=some ((List.range n).map f):=by
 unfold y9;rw[uc];exact Jn λ_ _=>rfl
theorem ze8{g:RLx}{ρ:Ro}{xs ys:LPd}(h:g ρ=some [.list xs,.list ys]):uB false false g ρ=some (Jk xs ys):=by
 unfold uB;rw[h];rfl
theorem JN{F:LNt}{ρ:Ro}{x y:PdX}{fe:RPx}:(b2 (bN 0) (bN 1) (.tuple [x,y]) (compEnv 2 F ρ)).bind fe=fe (.pu x::.pu y::F.map λj=>(ρ[j]?).getD .no):=rfl
theorem yy{F:LNt}{ρ:Ro}{x:PdX}{fe:RPx}:(bN 0 x (compEnv 1 F ρ)).bind fe=fe (.pu x::F.map λj=>(ρ[j]?).getD .no):=rfl
theorem zfi{n:Nat}{f g:Z1x}(ρ:Ro)(h0:ρ=[.pu (.list (y9 n f)),.pu (.list (y9 n g))]):uB false false (aC (gv 0) (aC (gv 1) a0)) ρ=some ((List.range n).map λi=>.tuple [.int (f i),.int (g i)]):=by
 subst h0;exact(ze8 rfl).trans (congrArg some (uh _ _ n))
theorem U5{n:Nat}{f g:Z1x}(hn:n<=1000)(h:∀i,i<n->intBits (f i)<=8000/\intBits (g i)<=8000):yb [.list (y9 n f),.list (y9 n g)]=some (.int (yg n λi=>f i*g i)):=by
 have hl:(List.range n).length<=16777216:=by rw[List.length_range];omega
 have ec:zR 2 [] (uB false false (aC (gv 0) (aC (gv 1) a0))) (b2 (bN 0) (bN 1)) (op2 yE (gv 0) (gv 1)) [.pu (.list (y9 n f)),.pu (.list (y9 n g))]=some (y9 n λi=>f i*g i):=zP (xs:=List.range n) (e:=λi=>.tuple [.int (f i),.int (g i)]) (d:=λi=>.int (f i*g i)) (zfi _ rfl) hl λi hi=>by
   have hi:=List.mem_range.mp hi;exact JN.trans ((zf rfl rfl).trans (yK (xS (h i hi).1 (h i hi).2 (by omega))))
 have es:ziy [.list (y9 n λi=>f i*g i)]=some (.int (yg n λi=>f i*g i)):=by
  show(Jj zdl (y9 n λi=>f i*g i)).map (λns=>PyData.int ns.sum)=_
  rw[Y3,Option.map_some,Wh]
 exact zM rfl (zy ((zb (zk (zZ ec) rfl)).trans es))
theorem VS{n b:Nat}{f:Q2x}(hn:n<=1000)(hb:b<n):JH [yv n f,.int (b:Int)]=some (z9 n λa=>f a b):=by
 refine zM rfl (zy ?_);refine(zb (xs:=[.list ((List.range n).map λa=>fr (f a b))]) (zk (zZ (zP (xs:=List.range n) (e:=λa=>z9 n (f a)) rfl (by simpa using Nat.le_trans hn (by decide)) λa ha=>?_)) rfl)).trans rfl;show op2 ixD (gv 0) (gv 1) [.pu (z9 n (f a)),.pu (.int (b:Int))]=_
 exact(zf rfl rfl).trans (Ue (t:=true) hb)
def wx(n:Nat)(f:Q2x)(i:Nat):List Rat:=(List.range i).flatMap λa=>(List.range n).map (f a)
theorem YQ(n:Nat)(f:Q2x)(i:Nat):wx n f (i+1)=wx n f i++(List.range n).map (f i):=by
 unfold wx;rw[List.range_succ,List.flatMap_append];simp
theorem zgJ{n:Nat}{f:Q2x}{i:Nat}{q:Rat}(h:q∈wx n f i):∃a b,a<i/\b<n/\q=f a b:=by
 unfold wx at h;have⟨a,ha,h⟩:=List.mem_flatMap.mp h;have⟨b,hb,e⟩:=List.mem_map.mp h;exact⟨a,b,List.mem_range.mp ha,List.mem_range.mp hb,e.symm⟩
theorem zgw{n:Nat}{f:Q2x}{i a b:Nat}(ha:a<i)(hb:b<n):f a b∈wx n f i:=by
 unfold wx;exact List.mem_flatMap.mpr ⟨a,List.mem_range.mpr ha,List.mem_map.mpr ⟨b,List.mem_range.mpr hb,rfl⟩⟩
theorem zaK(n:Nat)(f:Q2x):∀i,(wx n f i).length=i*n
 |0=>by simp[wx]
 |i+1=>by
  rw[YQ,List.length_append,zaK n f i,Nat.succ_mul];simp
def xM(n:Nat)(f:Q2x):Nat:=xm (wx n f n)
def wsD(n:Nat)(f:Q2x):PyData:=.tuple [.list ((List.range n).map λb=>.list (y9 n λa=>jj (f a b) (xM n f))),.int (xM n f:Int)]
theorem Vl{n M N:Nat}{f:Q2x}(hn:n<=42)(hM:0<M)(sM:Sz M)(sN:Sz N)(h:∀a b,a<n->b<n->InB M N (f a b)):vG [yv n f]=some (wsD n f)/\0<xM n f/\xM n f ∣ M/\∀a b,a<n->b<n->(f a b).den ∣ xM n f:=by
 have hd:∀q∈wx n f n,q.den ∣ M:=λq hq=>by
  obtain⟨a,b,ha,hb,rfl⟩:=zgJ hq;exact(h a b ha hb).den
 have hp:0<xM n f:=YF _;have hv:xM n f ∣ M:=Vd _ hd
 have hdv:∀a b,a<n->b<n->(f a b).den ∣ xM n f:=λa b ha hb=>YJ _ _ (zgw ha hb)
 refine⟨?_,hp,hv,hdv⟩;obtain⟨ρ1,e1,o,rfl⟩:=ziB (n:=n) (d:=λa=>z9 n (f a)) (it:=yt (gv 0)) (bd:=bN 2) (b:=exT 1 (gv 2)) (ρ0:=[.pu (yv n f),.ow [],.no,.no,.no])
  (λi ρ=>∃o,ρ=[.pu (yv n f),.ow ((wx n f i).map fr),o,.no,.no]) rfl ⟨.no,rfl⟩
  λi ρ hi ⟨o,e⟩=>by
   subst e;refine⟨_,_,rfl,zlj (es:=(List.range n).map λb=>fr (f i b)) rfl rfl ?_,.pu (z9 n (f i)),?_⟩
   ·rw[List.length_map,List.length_map,List.length_range,zaK]
    have:i*n<=42*42:=Nat.mul_le_mul (by omega) hn;omega
   ·rw[YQ,List.map_append,List.map_map];rfl
 refine zM rfl ?_;refine(zx (ρ':=[.pu (yv n f),.ow [],.no,.no,.no]) rfl).trans ((zx e1).trans ((zx (zQ (d:=.int (xM n f:Int)) ?_)).trans ((zx (xj (d:=(List.range n).map λb=>.list (y9 n λa=>jj (f a b) (xM n f))) ?_)).trans ?_)))
 ·show((ye [.list ((wx n f n).map fr)]).bind λr=>if zjJ r=true then some r else none)=_
  rw[show ye [.list ((wx n f n).map fr)]=some (.int (xM n f:Int)) from vA (t:=false) hM sM hd];rfl
 ·refine uk (n:=n) (zk ((zb rfl).trans (xx n _)) rfl) (by omega) λb hb=>?_
  refine zZ (ρ:=[.pu (.int (b:Int)),.pu (yv n f),.pu (.int (xM n f:Int))]) ((jH (zk ((zb rfl).trans (VS (by omega) hb)) rfl)).trans ?_);exact uU (t:=true) (by omega) hp (Sz.mono (Nat.le_of_dvd hM hv) sM) λa ha=>⟨hdv a b ha hb,((h a b ha hb).bq sM sN).n⟩
 ·exact zy (zc2 rfl rfl)
theorem Zb{q:Rat}{M B C:Nat}{t:Int}(h:InB M C q)(hB:B ∣ M)(e:(t:Rat)=q*(B:Rat)):t.natAbs<=C:=by
 have⟨x,ex,hx⟩:=h.ex;obtain⟨c,rfl⟩:=hB;have hc:0<c:=Nat.pos_of_mul_pos_left h.pos;have e1:(t:Rat)*(c:Rat)=(x:Rat):=by
  rw[e,<-ex,Rat.natCast_mul];grind
 have e2:t*(c:Int)=x:=by
  have:((t*(c:Int):Int):Rat)=(x:Rat):=by
   rw[Rat.intCast_mul,Rat.intCast_natCast];exact e1
  exact Rat.intCast_inj.mp this
 have e3:t.natAbs*c=x.natAbs:=by
  rw[<-e2,Int.natAbs_mul];rfl
 have:t.natAbs<=t.natAbs*c:=Nat.le_mul_of_pos_right _ hc;omega
theorem zfV{n:Nat}{r la:Q1x}{tops:Z1x}{Bt L:Nat}(ht:∀a,a<n->(tops a:Rat)=r a*(Bt:Rat))(hd:∀a,a<n->(la a).den ∣ L):((yg n λa=>tops a*jj (la a) L:Int):Rat)=sumTo n (λa=>r a*la a)*((Bt*L:Nat):Rat):=by
 rw[JF];have e:sumTo n (λa=>r a*la a)*((Bt*L:Nat):Rat)=sumTo n λa=>r a*la a*((Bt*L:Nat):Rat):=(zG _ _ n).symm
 rw[e];refine zd n λa ha=>?_
 rw[Rat.intCast_mul,ht a ha,jo (hd a ha),Rat.natCast_mul];grind
theorem zgb{q:Rat}{t:Int}{B:Nat}(hB:0<B)(e:(t:Rat)=q*(B:Rat)):Rat.divInt t (B:Int)=q:=by
 rw[Rat.divInt_eq_div,Rat.intCast_natCast,e]
 have:=xG hB;grind
theorem zg8(n:Nat)(f:Q1x):z9 n f=sqD true (((List.range n).map f).map fr):=by
 unfold z9 sqD;rw[List.map_map];rfl
end L2.Fu
namespace L2.Fu
open PySem WS WD
theorem zhG{h:LPx}{g:RLx}{ρ:Ro}{xs:LPd}{r:PdX}(h1:g ρ=some xs)(h2:h xs=some r)(h3:zjJ r=true):ZN h g ρ=some r:=by
 unfold ZN;rw[h1,Option.bind_some,h2,Option.bind_some,if_pos h3]
end L2.Fu
namespace L2.Fu
open PySem WS WD
open PySem.Builtin.Int (intBits)
theorem yU:∀n,sumTo n (λ_=>(0:Rat))=0
 |0=>rfl
 |n+1=>by
  show sumTo n (λ_=>(0:Rat))+0=0
  rw[yU n];grind
theorem UG(f:Q2x)(m:Nat):∀n,sumTo n (λa=>sumTo m (λb=>f a b))=sumTo m λb=>sumTo n λa=>f a b
 |0=>(yU m).symm
 |n+1=>by
  show sumTo n (λa=>sumTo m (λb=>f a b))+sumTo m (λb=>f n b)=sumTo m λb=>sumTo n (λa=>f a b)+f n b
  rw[UG f m n,<-vb]
theorem Ym(n:Nat)(st:Q3x)(f:Q1x):∀(ws:LNt)(r:Q1x),sumTo n (λx=>zT n (λg a b=>st g b a) r ws x*f x)=sumTo n λx=>zT n st f ws.reverse x*r x
 |[],r=>zd n λx _=>by
  show r x*f x=f x*r x
  grind
 |g::ws,r=>by
  show sumTo n (λx=>zT n (λg a b=>st g b a) (led n r λa b=>st g b a) ws x*f x)=_
  rw[Ym n st f ws,List.reverse_cons];have e:zT n st f (ws.reverse++[g])=led n (zT n st f ws.reverse) (st g):=by rw[wB];rfl
  rw[e];generalize zT n st f ws.reverse=R;have h1:sumTo n (λx=>R x*led n r (λa b=>st g b a) x)=sumTo n λx=>sumTo n λa=>R x*st g x a*r a:=zd n λx _=>by
   unfold led;rw[show R x*sumTo n (λa=>r a*st g x a)=sumTo n (λa=>r a*st g x a)*R x by grind,<-zG];exact zd n λa _=>by grind
  rw[h1,UG];refine zd n λa _=>?_
  unfold led;rw[<-zG]
theorem Wr(n:Nat)(st:Q3x)(fi la:Q1x)(ws:LNt):wt n (λg a b=>st g b a) la fi ws=wt n st fi la ws.reverse:=Ym n st fi ws la
theorem Yx{n:Nat}{f:Q2x}(hn:n<=1000):wO [yv n f]=some (yv n λa b=>f b a):=by
 refine zM rfl (zy ?_);refine(zb (xs:=[.list ((List.range n).map λb=>z9 n λa=>f a b)]) (zk (zZ (uk (n:=n) (zk ((zb rfl).trans (xx n _)) rfl) (by omega) λb hb=>?_)) rfl)).trans rfl;exact yy.trans ((zb rfl).trans (VS hn hb))
theorem ue{n s:Nat}{fi:Q1x}{st:Q3x}{la:Q1x}(hn:n<=1000)(hs:s<=1000):vY [zr n s fi st la]=some (zr n s la (λg a b=>st g b a) fi):=by
 refine zM rfl (zy ?_);refine(WM ((zf rfl rfl).trans uv) ((zb (xs:=[.list ((List.range s).map λg=>yv n λa b=>st g b a)]) (zk (zZ (zP (xs:=List.range s) (e:=λg=>yv n (st g)) (wW ((zf rfl rfl).trans vE)) (by simpa using Nat.le_trans hs (by decide)) λg hg=>?_)) rfl)).trans rfl) ((zf rfl rfl).trans xQ)).trans rfl;exact yy.trans ((zb rfl).trans (Yx hn))
theorem WQ{n s k:Nat}{fi:Q1x}{st:Q3x}{la:Q1x}(A:Mach n s fi st la k):Mach n s la (λg a b=>st g b a) fi k:=⟨A.la,λg a b hg ha hb=>A.st g b a hg hb ha,A.fi⟩
def jn(n:Nat)(f g:Q1x):Nat->Rat:=λx=>if x<n then f x else g (x - n)
theorem W4{n x:Nat}{f g:Q1x}(h:x<n):jn n f g x=f x:=if_pos h
theorem V9{n x:Nat}{f g:Q1x}:jn n f g (n+x)=g x:=by
 unfold jn;rw[if_neg (by omega),show n+x - n=x by omega]
theorem Wl{α:Type}(n m:Nat)(d f g:Nat->α)(h1:∀i,i<n->f i=d i)(h2:∀i,i<m->g i=d (n+i)):(List.range n).map f++(List.range m).map g=(List.range (n+m)).map d:=by
 rw[List.range_add,List.map_append,List.map_map];congr 1
 ·exact List.map_congr_left λi hi=>h1 i (List.mem_range.mp hi)
 ·exact List.map_congr_left λi hi=>h2 i (List.mem_range.mp hi)
theorem vi{n m:Nat}{f g:Q1x}(h:n+m<=16777216):uC (z9 n f) (z9 m g)=some (z9 (n+m) (jn n f g)):=by
 show(if ((List.range n).map λi=>fr (f i)).length+((List.range m).map λi=>fr (g i)).length<=16777216 then some (PyData.tuple _) else none)=_
 rw[if_pos (by rw[List.length_map,List.length_map,List.length_range,List.length_range];exact h)];exact congrArg some (congrArg PyData.tuple (Wl n m (λi=>fr (jn n f g i)) _ _ (λi hi=>by rw[W4 hi]) λi hi=>by rw[V9]))
theorem Vs(d:PdX):∀n,(List.replicate n [d]).flatten=(List.range n).map λ_=>d
 |0=>rfl
 |n+1=>by
  rw[List.replicate_succ',List.flatten_append,Vs d n,List.range_succ,List.map_append];rfl
theorem UE{n:Nat}(hn:n<=1000):vO [.int (n:Int)]=some (z9 n λ_=>0):=by
 refine zM rfl (zy ?_);refine(zf (x:=.tuple [fr 0]) (y:=.int (n:Int)) rfl rfl).trans ?_;unfold zjT;dsimp only;rw[if_pos ⟨by simp,by omega,by omega,by simp;omega⟩,Int.toNat_natCast,Vs];rfl
theorem UN{t u:Bool}{n M N M' N':Nat}{f g:Q1x}(hn:n<=42)(hM:0<M)(sM:Sz M)(sN:Sz N)(hM':0<M')(sM':Sz M')(sN':Sz N')(hf:∀i,i<n->InB M N (f i))(hg:∀i,i<n->InB M' N' (g i)):jv [qd t n f,qd u n g]=some (fr (sumTo n λi=>f i*g i)):=by
 have hd:∀(f:Q1x)(M N:Nat),(∀i,i<n->InB M N (f i))->∀q∈(List.range n).map f,q.den ∣ M:=λf M N hf q hq=>by
  obtain⟨a,ha,rfl⟩:=List.mem_map.mp hq;exact(hf a (List.mem_range.mp ha)).den
 have hB0:∀f:Nat->Rat,0<xm ((List.range n).map f):=λf=>YF _
 have hB1:∀(f:Q1x)(M N:Nat),(∀i,i<n->InB M N (f i))->xm ((List.range n).map f) ∣ M:=λf M N hf=>Vd _ (hd f M N hf)
 have hB2:∀(f:Q1x) a,a<n->(f a).den ∣ xm ((List.range n).map f):=λf a ha=>YJ _ _ (List.mem_map.mpr ⟨a,List.mem_range.mpr ha,rfl⟩)
 have eb:∀(t:Bool)(f:Q1x)(M N:Nat),0<M->Sz M->(∀i,i<n->InB M N (f i))->ye [qd t n f]=some (.int (xm ((List.range n).map f):Int)):=λt f M N hM sM hf=>by
  rw[show qd t n f=sqD t (((List.range n).map f).map fr) by rw[List.map_map];cases t<;>rfl];exact vA hM sM (hd f M N hf)
 have et:∀(t:Bool)(f:Q1x)(M N:Nat),0<M->Sz M->Sz N->(∀i,i<n->InB M N (f i))->yO [qd t n f,.int (xm ((List.range n).map f):Int)]=some (y9 n λi=>jj (f i) (xm ((List.range n).map f))):=λt f M N hM sM sN hf=>
  uU (t:=t) (n:=n) (f:=f) (by omega) (hB0 f) (Sz.mono (Nat.le_of_dvd hM (hB1 f M N hf)) sM) λa ha=>⟨hB2 f a ha,((hf a ha).bq sM sN).n⟩
 have bt:∀(f:Q1x)(M N:Nat),Sz N->(∀i,i<n->InB M N (f i))->∀a,a<n->intBits (jj (f a) (xm ((List.range n).map f)))<=8000:=λf M N sN hf a ha=>
  Nat.le_trans (sN.bits (Zb (hf a ha) (hB1 f M N hf) (jo (hB2 f a ha)))) (by decide)
 have bB:∀(f:Q1x)(M N:Nat),0<M->Sz M->(∀i,i<n->InB M N (f i))->intBits (xm ((List.range n).map f):Int)<=4000:=λf M N hM sM hf=>sM.bits (Nat.le_of_dvd hM (hB1 f M N hf))
 have es:=U5 (n:=n) (f:=λa=>jj (f a) (xm ((List.range n).map f))) (g:=λa=>jj (g a) (xm ((List.range n).map g))) (by omega) λa ha=>⟨bt f M N sN hf a ha,bt g M' N' sN' hg a ha⟩
 refine zM rfl ?_;refine(zx (zQ ((zb rfl).trans (eb t f M N hM sM hf)))).trans ((zx (zQ ((zb rfl).trans (eb u g M' N' hM' sM' hg)))).trans ((zx (zQ ((zb (zk (zZ ((jH rfl).trans (et t f M N hM sM sN hf))) (zk (zZ ((jH rfl).trans (et u g M' N' hM' sM' sN' hg))) rfl))).trans es))).trans (zy ?_)));refine(zb (zk rfl (zk ((zf rfl rfl).trans (yK (xS (bB f M N hM sM hf) (bB g M' N' hM' sM' hg)))) rfl))).trans ?_;have p1:=hB0 f;have p2:=hB0 g
 rw[Wc (Int.mul_ne_zero (by omega) (by omega)) (Nat.le_trans (intBits_mul_le (bB f M N hM sM hf) (bB g M' N' hM' sM' hg)) (by decide))];have e:=zfV (r:=f) (la:=g) (tops:=λa=>jj (f a) (xm ((List.range n).map f))) (λa ha=>jo (hB2 f a ha)) (hB2 g);rw[<-Int.natCast_mul];exact congrArg some (congrArg fr (zgb (Nat.mul_pos p1 p2) e))
theorem zcy{n k l:Nat}{f g:Q1x}(hn:n<=42)(hk:k<=399)(hl:l<=399)(hf:∀i,i<n->Sk k (f i))(hg:∀i,i<n->Sk l (g i)):jv [z9 n f,z9 n g]=some (fr (sumTo n λi=>f i*g i)):=UN (t:=true) (u:=true) hn (yN k) (sz6 (by omega)) (Sz.Ji (by omega)) (yN l) (sz6 (by omega)) (Sz.Ji (by omega)) hf hg
theorem WO{n m s s' k:Nat}{f:Q1x}{fi gi:Q1x}{st su:Q3x}{la lb:Q1x}(hn:n<=42)(hm:m<=42)(hk:k<=100)(hf:∀i,i<n->Sk k (f i))(hla:∀i,i<n->Sk k (la i))(hgi:∀i,i<m->Sk k (gi i)):jW [z9 n f,zr n s fi st la,zr m s' gi su lb]=some (z9 m λj=>gi j*sumTo n λa=>f a*la a):=by
 refine zM rfl (zy ?_);refine(zb (zk ((zf rfl rfl).trans xQ) (zk ((zb (zk rfl (zk ((zf rfl rfl).trans uv) rfl))).trans (zcy hn (by omega) (by omega) hf hla)) rfl))).trans ?_;exact wY (by omega) (λi hi=>(hgi i hi).bq (by omega)) ((Sk.sum hn λa ha=>(hf a ha).mul (hla a ha)).bq (by omega))
def jnM(n:Nat)(f:Q2x)(c:Q2x)(g:Q2x):Nat->Nat->Rat:=λx=>if x<n then jn n (f x) (c x) else jn n (λ_=>0) (g (x - n))
theorem zjP{g:RLx}{ρ:Ro}{xs ys:LPd}(h:g ρ=some [.tuple xs,.list ys]):uB true false g ρ=some (Jk xs ys):=by
 unfold uB;rw[h];rfl
theorem zeZ{f g:RLx}{ρ:Ro}{x y:LPd}(h1:f ρ=some x)(h2:g ρ=some y)(h3:x.length+y.length<=16777216):zgc f g ρ=some (x++y):=by
 unfold zgc;rw[h1,Option.bind_some,h2,Option.bind_some,if_pos h3]
theorem Ju{n m:Nat}{f c g:Q2x}(hn:n<=42)(hm:m<=42):jk [yv n f,.list ((List.range n).map λa=>z9 m (c a)),yv m g]=some (yv (n+m) (jnM n f c g)):=by
 have e1:zR 2 [] (uB true false (aC (gv 0) (aC (gv 1) a0))) (b2 (bN 0) (bN 1)) (op2 uC (gv 0) (gv 1)) [.pu (yv n f),.pu (.list ((List.range n).map λa=>z9 m (c a))),.pu (yv m g),.no,.no]=some ((List.range n).map λa=>z9 (n+m) (jn n (f a) (c a))):=zP (xs:=List.range n) (e:=λa=>.tuple [z9 n (f a),z9 m (c a)]) ((zjP rfl).trans (congrArg some (uh _ _ n))) (by rw[List.length_range];omega) λa ha=>JN.trans ((zf rfl rfl).trans (vi (by omega)))
 have e2:∀o,zR 1 [0] (yt (gv 2)) (bN 0) (op2 uC (zh vO (aC (zh yk (aC (gv 1) a0)) a0)) (gv 0)) [.pu (yv n f),.pu (.list ((List.range n).map λa=>z9 m (c a))),.pu (yv m g),o,.no]=some ((List.range m).map λb=>z9 (n+m) (jn n (λ_=>0) (g b))):=λo=>
  zP (xs:=List.range m) (e:=λb=>z9 m (g b)) rfl (by rw[List.length_range];omega) λb hb=>yy.trans ((zf ((zb (zk ((zb rfl).trans (xx n _)) rfl)).trans (UE (by omega))) rfl).trans (vi (by omega)))
 refine zM rfl ?_;refine(zx (xj e1)).trans ((zx (xj (e2 _))).trans (zy ?_));refine(zb (zk (zZ (zeZ rfl rfl (by rw[List.length_map,List.length_map,List.length_range,List.length_range];omega))) rfl)).trans ?_;refine congrArg some (congrArg PyData.tuple (Wl n m _ _ _ (λa ha=>?_) λb hb=>?_))
 ·unfold jnM;rw[if_pos ha]
 ·unfold jnM;rw[if_neg (by omega),show n+b - n=b by omega]
def jC(n:Nat)(st su:Q3x)(la gi:Q1x):Nat->Nat->Nat->Rat:=λg=>jnM n (st g) (λx j=>gi j*sumTo n λa=>st g x a*la a) (su g)
def vv(n:Nat)(fi la gi:Q1x):Nat->Rat:=jn n fi λj=>gi j*sumTo n λa=>fi a*la a
def wq(n:Nat)(lb:Q1x):Nat->Rat:=jn n (λ_=>0) lb
theorem wb{n m s k:Nat}{fi gi:Q1x}{st su:Q3x}{la lb:Q1x}(A:Mach n s fi st la k)(B:Mach m s gi su lb k)(hk:k<=100)(hn:n<=42)(hm:m<=42)(hs:s<=42)(h:n+m<=24):j6 [zr n s fi st la,zr m s gi su lb]=some (zr (n+m) s (vv n fi la gi) (jC n st su la gi) (wq n lb)):=by
 have ef:=WO (s:=s) (s':=s) (fi:=fi) (st:=st) (su:=su) (lb:=lb) hn hm hk A.fi A.la B.fi;obtain⟨ρ1,e1,o4,o5,o6,rfl⟩:=ziB (n:=s) (d:=λg=>.tuple [yv n (st g),yv m (su g)]) (it:=uB true true (aC (op2 ixD (gv 0) (cst (.int 1))) (aC (op2 ixD (gv 1) (cst (.int 1))) a0))) (bd:=b2 (bN 4) (bN 5))
  (b:=sq (jR 6 (zR 1 [0,1] (yt (gv 4)) (bN 0) (zh jW (aC (gv 0) (aC (gv 1) (aC (gv 2) a0)))))) (frS 6 (apS 3 (zh jk (aC (gv 4) (aC (gv 6) (aC (gv 5) a0)))))))
  (ρ0:=[.pu (zr n s fi st la),.pu (zr m s gi su lb),.pu (z9 (n+m) (vv n fi la gi)),.ow [],.no,.no,.no])
  (λi ρ=>∃o4 o5 o6,ρ=[.pu (zr n s fi st la),.pu (zr m s gi su lb),.pu (z9 (n+m) (vv n fi la gi)),.ow ((List.range i).map λg=>yv (n+m) (jC n st su la gi g)),o4,o5,o6])
  ((zfc (zk ((zf rfl rfl).trans vE) (zk ((zf rfl rfl).trans vE) rfl))).trans (congrArg some (uh _ _ s))) ⟨.no,.no,.no,rfl⟩
  λg ρ hg ⟨o4,o5,o6,e⟩=>by
   subst e;have ec:zR 1 [0,1] (yt (gv 4)) (bN 0) (zh jW (aC (gv 0) (aC (gv 1) (aC (gv 2) a0)))) [.pu (zr n s fi st la),.pu (zr m s gi su lb),.pu (z9 (n+m) (vv n fi la gi)),.ow ((List.range g).map λg=>yv (n+m) (jC n st su la gi g)),.pu (yv n (st g)),.pu (yv m (su g)),o6]=some ((List.range n).map λx=>z9 m λj=>gi j*sumTo n λa=>st g x a*la a):=zP (xs:=List.range n) (e:=λa=>z9 n (st g a)) rfl (by rw[List.length_range];omega) λx hx=>yy.trans ((zb rfl).trans (WO hn hm hk (λa ha=>A.st g x a hg (List.mem_range.mp hx) ha) A.la B.fi))
   refine⟨_,_,rfl,(zx (xj ec)).trans (Wx (d:=yv (n+m) (jC n st su la gi g)) rfl ((zb rfl).trans (Ju hn hm)) (by rw[List.length_map,List.length_range];omega)),.pu (yv n (st g)),.pu (yv m (su g)),.pu (.list ((List.range n).map λx=>z9 m λj=>gi j*sumTo n λa=>st g x a*la a)),by rw[<-Ja];rfl⟩
 refine zM rfl ?_;refine(zx (Zx ((zb rfl).trans jY))).trans ((zx (Zx (d:=.none) ?_)).trans ((zx (zQ (d:=z9 (n+m) (vv n fi la gi)) ?_)).trans ((zx (ρ':=[.pu (zr n s fi st la),.pu (zr m s gi su lb),.pu (z9 (n+m) (vv n fi la gi)),.ow [],.no,.no,.no]) rfl).trans ((zx e1).trans (zy ?_)))))
 ·refine(zb (xs:=[.int ((n+m:Nat):Int)]) (zk ((zf ((zb (zk ((zf rfl rfl).trans xQ) rfl)).trans (xx n _)) ((zb (zk ((zf rfl rfl).trans xQ) rfl)).trans (xx m _))).trans ?_) rfl)).trans (wj h);rw[Int.natCast_add];rfl
 ·exact(zf ((zf rfl rfl).trans xQ) ((zb (zk ((zf rfl rfl).trans xQ) rfl)).trans ef)).trans (vi (by omega))
 ·exact(WM rfl ((zb rfl).trans rfl) ((zf ((zb (zk ((zb (zk ((zf rfl rfl).trans xQ) rfl)).trans (xx n _)) rfl)).trans (UE (by omega))) ((zf rfl rfl).trans uv)).trans (vi (by omega)))).trans rfl
theorem zfo{n m k:Nat}{f g:Q1x}(hf:∀i,i<n->Sk k (f i))(hg:∀i,i<m->Sk k (g i)):∀x,x<n+m->Sk k (jn n f g x):=λx hx=>by
 unfold jn;split
 ·exact hf x ‹_›
 ·exact hg _ (by omega)
theorem zcu{m:Nat}{su:Q3x}(c:Rat):∀(ws:LNt)(a b:Q1x)(y:Nat),y<m->zT m su (λj=>a j*c+b j) ws y=zT m su a ws y*c+zT m su b ws y
 |[],_,_,_,_=>rfl
 |g::ws,a,b,y,hy=>by
  show zT m su (led m (λj=>a j*c+b j) (su g)) ws y=zT m su (led m a (su g)) ws y*c+zT m su (led m b (su g)) ws y
  rw[<-zcu c ws (led m a (su g)) (led m b (su g)) y hy];refine uP ws (λz hz=>?_) (λ_ _ _ _ _ _=>rfl) y hy;unfold led;rw[<-zG,<-vb];exact zd m λi _=>by grind
theorem zd3{m:Nat}{su:Q3x}(c:Rat)(a b lb:Q1x)(ws:LNt):wt m su (λj=>a j*c+b j) lb ws=c*wt m su a lb ws+wt m su b lb ws:=by
 unfold wt;rw[show c*sumTo m (λy=>zT m su a ws y*lb y)=sumTo m (λy=>zT m su a ws y*lb y)*c by grind,<-zG,<-vb];exact zd m λy hy=>by rw[zcu c ws a b y hy];grind
theorem zde{n m:Nat}{st su:Q3x}{la lb gi:Q1x}:∀(ws:LNt)(r u v:Q1x),(∀x,x<n+m->r x=jn n u v x)->
  wt (n+m) (jC n st su la gi) r (wq n lb) ws=wt m su v lb ws+sumTo ws.length λi=>wt n st u la (ws.take (i+1))*wt m su gi lb (ws.drop (i+1))
 |[],r,u,v,h=>by
  show sumTo (n+m) (λx=>r x*wq n lb x)=sumTo m (λx=>v x*lb x)+0
  rw[yz,zd n (g:=λ_=>0) λx hx=>by rw[show wq n lb x=0 from W4 hx];grind,yU];rw[zd m (g:=λx=>v x*lb x) λx hx=>by rw[show wq n lb (n+x)=lb x from V9,h _ (by omega),V9]];grind
 |g::ws,r,u,v,h=>by
  show wt (n+m) (jC n st su la gi) (led (n+m) r (jC n st su la gi g)) (wq n lb) ws=_
  rw[zde ws _ (led n u (st g)) (λj=>gi j*(sumTo n λa=>led n u (st g) a*la a)+led m v (su g) j) ?_,zd3,List.length_cons,Nat.add_comm ws.length 1,yz]
  ·show _=wt m su (led m v (su g)) lb ws+(0+wt n st (led n u (st g)) la (ws.take 0)*wt m su gi lb (ws.drop 0)+_)
   rw[List.take_zero,List.drop_zero,zd ws.length (f:=λj=>wt n st u la ((g::ws).take (1+j+1))*wt m su gi lb ((g::ws).drop (1+j+1))) (g:=λi=>wt n st (led n u (st g)) la (ws.take (i+1))*wt m su gi lb (ws.drop (i+1))) λi _=>by
    rw[show 1+i+1=(i+1)+1 by omega,List.take_succ_cons,List.drop_succ_cons];rfl]
   show(sumTo n λa=>led n u (st g) a*la a)*wt m su gi lb ws+_+_=_+(0+(sumTo n λa=>led n u (st g) a*la a)*wt m su gi lb ws+_)
   grind
  ·intro x hx;show sumTo (n+m) (λa=>r a*jC n st su la gi g a x)=_
   rw[yz];have r1:∀a,a<n->r a=u a:=λa ha=>by rw[h a (by omega),W4 ha]
   have r2:∀b,b<m->r (n+b)=v b:=λb hb=>by rw[h _ (by omega),V9]
   have c1:∀a,a<n->jC n st su la gi g a=jn n (st g a) λj=>gi j*sumTo n λc=>st g a c*la c:=λa ha=>if_pos ha
   have c2:∀b,jC n st su la gi g (n+b)=jn n (λ_=>0) (su g b):=λb=>by
    unfold jC jnM;rw[if_neg (by omega),show n+b - n=b by omega]
   by_cases hxn:x<n
   ·rw[W4 hxn,zd n (g:=λa=>u a*st g a x) λa ha=>by rw[r1 a ha,c1 a ha,W4 hxn],zd m (g:=λ_=>0) λb hb=>by rw[c2,W4 hxn];grind,yU];show led n u (st g) x+0=led n u (st g) x
    grind
   ·obtain⟨y,rfl⟩:∃y,x=n+y:=⟨x - n,by omega⟩;rw[V9,zd n (g:=λa=>(sumTo n λc=>u a*st g a c*la c)*gi y) λa ha=>by
     rw[r1 a ha,c1 a ha,V9,zd n (f:=λc=>u a*st g a c*la c) (g:=λc=>st g a c*la c*u a) λc _=>by grind,zG];grind,zG,UG,zd m (g:=λb=>v b*su g b y) λb hb=>by rw[r2 b hb,c2,V9]]
    rw[zd n (g:=λc=>led n u (st g) c*la c) λc _=>by unfold led;rw[<-zG]];show _+led m v (su g) y=_
    grind
theorem v8{n m:Nat}{fi gi:Q1x}{st su:Q3x}{la lb:Q1x}(ws:LNt):wt (n+m) (jC n st su la gi) (vv n fi la gi) (wq n lb) ws=sumTo (ws.length+1) λi=>wt n st fi la (ws.take i)*wt m su gi lb (ws.drop i):=by
 rw[zde ws _ fi (λj=>gi j*(sumTo n λa=>fi a*la a)+0) λx hx=>?_,zd3 _ gi (λ_=>0) lb ws,Nat.add_comm ws.length 1,yz]
 ·have z:wt m su (λ_=>0) lb ws=0:=by
   have h:∀(ws:LNt) y,y<m->zT m su (λ_=>0) ws y=0:=by
    intro ws;induction ws with
    |nil=>intro y _;rfl
    |cons g ws ih=>
     intro y hy;rw[<-ih y hy];refine uP ws (λz _=>?_) (λ_ _ _ _ _ _=>rfl) y hy;exact(zd m (g:=λ_=>0) λi _=>by grind).trans (yU m)
   unfold wt;rw[zd m (g:=λ_=>0) λy hy=>by rw[h ws y hy];grind,yU]
  rw[z];show _=0+wt n st fi la (ws.take 0)*wt m su gi lb (ws.drop 0)+_
  rw[List.take_zero,List.drop_zero,zd ws.length (f:=λj=>wt n st fi la (ws.take (1+j))*wt m su gi lb (ws.drop (1+j))) (g:=λi=>wt n st fi la (ws.take (i+1))*wt m su gi lb (ws.drop (i+1))) λi _=>by rw[Nat.add_comm 1 i]];show(sumTo n λa=>fi a*la a)*_+0+_=0+(sumTo n λa=>fi a*la a)*_+_
  grind
 ·unfold vv jn;split
  ·rfl
  ·grind
end L2.Fu
namespace L2.Fu
open PySem PySem.Spec PyProof.Rows
section
variable{X:Cx}
theorem zas:∀{xs:List V} {us:LVl} (k:Nat),Vals xs us->Vals (xs.take k) (us.take k)
 |_,_,0,_=>.nil
 |_,_,_+1,.nil=>.nil
 |_,_,k+1,.cons h q=>.cons h (zas k q)
theorem zan:∀{xs:List V} {us:LVl} (k:Nat),Vals xs us->Vals (xs.drop k) (us.drop k)
 |_,_,0,q=>q
 |_,_,_+1,.nil=>.nil
 |_,_,k+1,.cons _ q=>zan k q
def ziR:V->List V->Hp->VK->Prop:=λx vs H Q=>∃l xs i y,x=.ref l/\vs=[.int i,y]/\H l=some (.lst xs)/\0<=i/\i<2 ^ 63/\xs.length<sizeLine/\Q .non (upd H l (.lst (xs.take i.toNat++y::xs.drop i.toNat)))
theorem zi1(its:LVl)(i:Int)(h:0<=i)(u:Value):(its.toArray.extract 0 (if i<0 then (i+((its.toArray.size:Nat):Int)).toNat else min i.toNat its.toArray.size)).push u++its.toArray.extract (if i<0 then (i+((its.toArray.size:Nat):Int)).toNat else min i.toNat its.toArray.size)=(its.take i.toNat++u::its.drop i.toNat).toArray:=by
 rw[if_neg (by omega)];apply Array.toList_inj.mp;rw[Array.toList_append,Array.toList_push,Array.toList_extract,Array.toList_extract,List.extract_eq_take_drop,List.extract_eq_take_drop,List.size_toArray,Nat.sub_zero,List.drop_zero,List.append_assoc];by_cases hh:i.toNat<=its.length
 ·rw[Nat.min_eq_left hh];have k:=List.take_of_length_le (l:=its.drop i.toNat) (i:=its.length - i.toNat) (by rw[List.length_drop];exact Nat.le_refl _);simp[k]
 ·rw[Nat.min_eq_right (by omega)];rw[List.take_of_length_le (show its.length<=i.toNat by omega),List.drop_of_length_le (show its.length<=i.toNat by omega)];simp
theorem zgr:MtM X "list.insert" ziR:=by
 intro pins s σ H x vs v us Q I rx rv h;obtain⟨l,xs,i,y,rfl,rfl,hH,h1,h2,hz,q⟩:=h;cases rx;obtain⟨u,w,rfl,ru,rw'⟩:=rv.two;obtain⟨t,rfl⟩:=ru;have⟨z,its,n,r,hl,e⟩:=I.zbY hH;have hfit:¬(!Builtin.List.listFitsIndex i)=true:=by
  rw[fitsIndex_both (by omega) h2];exact Bool.false_ne_true
 have hsz:its.toArray.size<=sizeLine:=by rw[List.size_toArray];omega
 refine call_meets F.slot_list_insert ⟨_,e,rfl⟩ F.entry_list_insert (F.args_list_insert_3 _ _ _) (AutoSeq1.list_insert_list_int_val_1 l its.toArray n i t w hfit hsz) ⟨e,?_⟩;refine⟨.non,_,I.lset (its':=its.take i.toNat++w::its.drop i.toNat) hH e (zi1 its i h1 w) ((zas _ r).append (.cons rw' (zan _ r))) ?_,rfl,q⟩;rw[List.length_append,List.length_cons,List.length_take,List.length_drop];omega
variable{e ei:Expr}{pos apos cpos p1:Pos}
theorem zaq{K:FRx}{H:Hp}:∀{xs:List V} {ds:LPd} (k:Nat),Reps K H xs ds->Reps K H (xs.take k) (ds.take k)
 |_,_,0,_=>.nil
 |_,_,_+1,.nil=>.nil
 |_,_,k+1,.cons h q=>.cons h (zaq k q)
theorem zaE{K:FRx}{H:Hp}:∀{xs:List V} {ds:LPd} (k:Nat),Reps K H xs ds->Reps K H (xs.drop k) (ds.drop k)
 |_,_,0,q=>q
 |_,_,_+1,.nil=>.nil
 |_,_,k+1,.cons _ q=>zaE k q
def inS(i:Nat)(fi f:RPx):RFx:=λρ=>(gk i ρ).bind λds=>match fi ρ with
 |some (.int k)=>(f ρ).bind λd=>if 0<=k/\k<9223372036854775808/\ds.length<16777216 then some (.nx (ρ.set i (.ow (ds.take k.toNat++d::ds.drop k.toNat)))) else none
 |_=>none
theorem zgg(i:Nat){x:Str}{fi f:RPx}(hi:FE X ei fi)(he:FE X e f)(hN:X.N[i]?=some x:=by rfl)(hv:Vis X.env.scope x:=by trivial)(hd:NDx x:=by decide)(hcd:NCx x:=by decide)(hbase:ABx X (.Name x p1) "insert":=by rfl)(hfew:FWx X cpos [ei,e]:=by rfl)(hline:(apos.endLine==cpos.line)=true:=by rfl)(hs:starEach [ei,e] X.env=(false,eval ei X.env)::starEach [e] X.env:=by rfl)(hs2:SEx X e []:=by rfl)(hpl:(backTo cpos (starEach [e] X.env)).any (·.1)=false:=by rfl)(hsw:swapsWith (.Call (.Attribute (.Name x p1) "insert" apos) [ei,e] [] cpos) none pos.line X.env=pure false:=by rfl):FS X (.Expr (.Call (.Attribute (.Name x p1) "insert" apos) [ei,e] [] cpos) pos) (inS i fi f):=by
 have⟨t,p,q⟩:=he;have⟨ti,pi,qi⟩:=hi;refine⟨_,u3 (U1 PySem.F.plainAttrs_list PySem.F.slot_list_insert PySem.F.type_list_insert zgr (yl hN hv hd hcd) (yD pi (yD p xv hs2) hs) hbase hfew hline hs hpl) hsw,λH0 os0 D σ H os ρ r R e k=>?_⟩;have⟨ds,e1,e⟩:=bind_some e;split at e
 ·rename_i n e3;have⟨d,e2,e⟩:=bind_some e;split at e
  ·rename_i hl;obtain⟨hl1,hl2,hl⟩:=hl;cases e;have g:=wF e1;have⟨a,xs,h1,h2,h3,h4⟩:=R.rel.ow i ds g
   refine⟨_,h1,.inl ⟨rfl,_,SqL.of h3⟩,qi σ H os ρ _ _ R.rel e3 λv H' s rv=>?_⟩;refine q σ H' os ρ _ _ (R.same s).rel e2 λv2 H2 s2 rv2=>?_
   cases rv;refine⟨a,xs,n,v2,rfl,rfl,s2 _ _ (s _ _ h3),hl1,hl2,by rw[h4.length];exact hl,?_⟩;refine k _ _ os (((R.same s).same s2).chg g h1 ((zaq _ ((h4.same (zl s os)).same (zl s2 os))).append (.cons rv2 (zaE _ ((h4.same (zl s os)).same (zl s2 os)))))) ?_;rw[yF h2];exact λp o h=>zl s2 os _ _ (zl s os _ _ h)
  ·cases e
 ·cases e
end
section
variable{X:Cx}{a b e:Expr}{f g:RPx}{pos p p2:Pos}
def zhM:PyData->PyData->Option (List PyData)
 | .list xs,.list ys=>if xs.length+ys.length<=16777216 then some (xs++ys) else none
 |_,_=>none
def zky(K:FRx):R2:=λx y H Q=>∃l b xs zs,x=.ref l/\y=.ref b/\SqL K H l xs/\SqL K H b zs/\xs.length+zs.length<=sizeLine/\∀p,H p=none->Q (.ref p) (upd H p (.lst (xs++zs)))
theorem zd7(l b:AdX)(us vs:Array Value)(n m:Nat)(so sp:Array (Option Value))(hz:us.size+vs.size<=sizeLine):Meets (Builtin.«list.__add__» ⟨[.ref l,.ref b],[]⟩) (λ_ R s=>s.heap.get? l=some { cls:=.type "list",dict:=none,data:=.seq us n,slots:=so }/\
   s.heap.get? b=some { cls:=.type "list",dict:=none,data:=.seq vs m,slots:=sp }/\
   R (.ok (.ret (Value.ref s.heap.objs.size))) { s with heap:=s.heap.push { cls:=.type "list",data:=.seq (us++vs) } }):=by
 refine .of_wp λprog w A R s h=>?_
 have⟨hp,g,d,tk,os⟩:=s;obtain⟨q1,q2,h⟩:=h;have f1:=AutoSeq1.idx_int;have f2:=AutoSeq1.sub_tuple_tuple
 have f3:=AutoSeq1.sub_list_list;have f4:=AutoSeq1.sub_tuple_list
 have f5:=AutoSeq1.sub_list_tuple;wp_walk using AutoSeq1.wpAny_loadPart' q1,AutoSeq1.wpAny_loadPart' q2;exact⟨_,rfl,h⟩
theorem zaG{h:Heap}{l:AdX}{its:Array Value}(pl:PlainL h l its):∃n sl,h.get? l=some { cls:=.type "list",dict:=none,data:=.seq its n,slots:=sl }:=by
 have⟨o,n,e,hc,hd,hs⟩:=pl;have⟨c,d,t,sl⟩:=o;dsimp only at hc hd hs;subst hc hd hs;exact⟨n,sl,e⟩
theorem zj3:OpR X (binaryOp .Add) (zky X.K):=by
 intro pins s σ H x y v u Q I rx ry h;obtain⟨l,b,xs,zs,rfl,rfl,hH,hB,hz,q⟩:=h;cases rx;cases ry;have⟨its,r,pl,z⟩:=I.list hH;have⟨its2,r2,pl2,z2⟩:=I.list hB;have⟨n,sl,e⟩:=zaG pl;have⟨n2,sl2,e2⟩:=zaG pl2;have hl:=r.length;have hl2:=r2.length
 refine concat_meets ⟨_,e,rfl⟩ ⟨_,e2,rfl⟩ noFill_list_add seq_list_add F.slot_list_add F.entry_list_add (F.args_list_add_2 _ _) (zd7 l b _ _ n n2 sl sl2 (by rw[List.size_toArray,List.size_toArray];omega)) ⟨e,e2,?_⟩;have ea:its.toArray++its2.toArray=(its++its2).toArray:=by simp
 rw[ea];exact⟨.ref _,_,I.lnew (t':=s.toks) (r.append r2) (by rw[List.length_append];omega),rfl,q _ I.fresh⟩
theorem ziP{K:FRx}:R2L K (zky K) zhM:=by
 intro x y H os d e c Q al r1 r2 h k;unfold zhM at h;split at h
 ·split at h
  ·rename_i hc;cases h;obtain⟨l,xs,rfl,h1,q1⟩:=r1.lst;obtain⟨b,zs,rfl,h2,q2⟩:=r2.lst;refine⟨l,b,xs,zs,rfl,rfl,h1,h2,by rw[q1.length,q2.length];exact hc,λp hp=>?_⟩;have s:=zW hp (.lst (xs++zs));exact k p (xs++zs) _ hp s zE (jQ hp (q1.append q2))
  ·cases h
 ·cases h
end
end L2.Fu
namespace L2
open PySem PySem.Spec PyProof.Rows
theorem zfN{prog:Program}{w:World}{A:Around}{t:Bool}(hh:A.handled=none)(it a:AdX)(hne:a≠it)(vs:Array Value):Draws prog w A it [it,a] vs.size (λi v=>vs[i]?=some v) (λi h=>yS t h it a i/\yX t h a vs) where
 live:=λ_ _ st=>by
  have⟨o,ho,_⟩:=st.1.obj;exact⟨o,ho⟩
 frame:=λ_ _ _ st hk=>⟨st.1.stay λo e=>hk it (by simp) o e,st.2.stay λo e=>hk a (by simp) o e⟩
 item:=λi s Q E hi st hQ=>by
  refine JL st.1 st.2 (v:=vs[i]) (by simp[hi]) λh' d hs=>?_
  exact hQ _ h' s.toks (by simp[hi]) ⟨d,st.2.stay λo e=>hs.extBut _ _ hne e⟩ hs
 done:=λs Q E st hE=>JV hh st.1 st.2 (by simp) hE
theorem zfM{prog:Program}{w:World}{A:Around}{t:Bool}(hh:A.handled=none)(it a:AdX)(vs:Array Value)(n:Nat)(hv:vs[n]?=none):Draws prog w A it [it,a] n (λ_ _=>False) (λi h=>i=n/\yS t h it a n/\yX t h a vs) where
 live:=λ_ _ st=>by
  have⟨o,ho,_⟩:=st.2.1.obj;exact⟨o,ho⟩
 frame:=λ_ _ _ st hk=>⟨st.1,st.2.1.stay λo e=>hk it (by simp) o e,st.2.2.stay λo e=>hk a (by simp) o e⟩
 item:=λi s Q E hi st hQ=>absurd st.1 (by omega)
 done:=λs Q E st hE=>JV hh st.2.1 st.2.2 hv hE
abbrev en1(t:Bool)(h:Heap)(a:AdX):Heap:=h.push { cls:=.type (w9 t),data:=.fields #[.ref a,.int 0 0] }
abbrev en2(t:Bool)(h:Heap)(a:AdX):Heap:=(en1 t h a).push { cls:=.type "enumerate",data:=.fields #[.none,.bool false,.ref h.objs.size,rawInt 0,.none,.none] }
theorem zmb(t:Bool)(a:AdX)(vs:Array Value):Meets (Builtin.«enumerate.__new__» ⟨[.type "enumerate",.ref a],[]⟩) (λ_ R s=>yX t s.heap a vs/\
   R (.ok (.ret (.ref (en1 t s.heap a).objs.size))) { s with heap:=en2 t s.heap a }):=.of_wp λprog w A R s h=>by
  have⟨hp,g,d,tk,os⟩:=s;obtain⟨c1,h⟩:=h;have hsub:=sub_enumerate;have q1:yX t (Shared.heap ⟨hp,g,d,tk,os⟩) a vs:=c1
  wp_walk using Jt q1
  refine wpAny_stack_any λst=>wpAny_pure ?_
  split
  ·rename_i c _ _ _ _ _;cases (c==Value.type "enumerate")<;>(wp_walk using Jt q1;exact⟨_,rfl,h⟩)
  ·wp_walk using Jt q1
   exact⟨_,rfl,h⟩
theorem zjk{prog:Program}{w:World}{A:Around}{E:VSx}{s:ShX}{t:Bool}{a:AdX}{vs:Array Value}{Q:VSx}(c:yX t s.heap a vs)(h:∀h',IsEnum h' (s.heap.objs.size+1) s.heap.objs.size 0 .none->yS t h' s.heap.objs.size a 0->
   (∀c o,s.heap.get? c=some o->h'.get? c=some o)->Q (.ref (s.heap.objs.size+1)) { s with heap:=h' }):wpAny (model prog w) A (call (.type "enumerate") [.ref a]) Q E s:=by
 refine callType_new F.called_enumerate (by decide) (F.typeCall_enumerate_1 _) (F.newCall_enumerate_1 _) (λobj=>F.args_object_init_2 obj _) F.entry_enumerate_new (zmb t a vs) ⟨c,?_⟩;have z1:(en1 t s.heap a).objs.size=s.heap.objs.size+1:=Heap.size_push ..;have g2:(en2 t s.heap a).get? (en1 t s.heap a).objs.size=some _:=Heap.get?_push_size _ rfl
 have g1:(en2 t s.heap a).get? s.heap.objs.size=some _:=Heap.get?_push_of_some _ (Heap.get?_push_size _ rfl);show _/\_
 rw[z1] at g2 ⊢;exact⟨⟨_,g2,rfl⟩,h _ g2 (YV g1) λc o q=>Heap.get?_push_of_some _ (Heap.get?_push_of_some _ q)⟩
def Ite(K:FRx)(t:Bool)(a:AdX):It:=⟨λi H=>∃xs x,SqB K t H a xs/\xs[i]?=some x,
  λi H v H'=>∃p,v=.ref p/\H p=none/\∀xs x,SqB K t H a xs->xs[i]?=some x->H'=upd H p (.tup [.int (i:Int),x]),
  λi H=>∃xs,SqB K t H a xs/\xs.length<=i⟩
structure znj(t:Bool)(e it a:AdX)(i:Nat)(h:Heap):Prop where
 en:∃old,IsEnum h e it (i:Int) old
 dr:yS t h it a i
theorem zgo{P:Program}{w:World}{K:FRx}{es:List Expr}{kk:Nat}{tp:Pos}{t:Bool}{e it a:AdX}(hei:e≠it)(hae:a≠e)(hai:a≠it):Turn P w K (.Tuple es kk tp) (Ite K t a) [e,it] e (λi h=>znj t e it a i h) where
 mem:=by simp
 obj:=λi h S c hc=>by
  simp only [List.mem_cons,List.not_mem_nil,or_false] at hc;rcases hc with rfl|rfl
  ·have⟨old,q⟩:=S.en;exact⟨_,q,λv q=>by cases q⟩
  ·exact S.dr.obj
 keep:=λi h h' S k=>by
  have⟨old,q⟩:=S.en;exact⟨⟨old,k e (by simp) _ q⟩,S.dr.stay λo q=>k it (by simp) o q⟩
 item:=λX hp hw hK hc i pins s σ H E I hf S go=>by
  subst hp hw hK;have⟨xs,x,h1,hx⟩:=go;have⟨us,ru,c1⟩:=I.sqB h1;have⟨u,eu,hu⟩:=wV ru hx;have⟨old,he⟩:=S.en;have hlt:i<us.toArray.size:=(Array.getElem?_eq_some_iff.mp eu).1;refine wpAny_pyNext_enum_itemD (zfN (t:=t) (A:=X.A.in1) (I.ok.hd hc) it a hai us.toArray) he ⟨S.dr,c1⟩ hlt hei (by simp[hei,Ne.symm hae]) λx' h' tk hx' q1 q2 q3 q4 q5=>⟨_,rfl,?_⟩
  rw[eu] at hx';cases hx';refine wpAny_letOwnedTupleGo_enum q1 λh'' z2 hs=>?_
  have ne1:s.heap.objs.size≠e:=Nat.ne_of_gt (Heap.lt_size he);have ne2:s.heap.objs.size≠it:=by have⟨o,q,_⟩:=S.dr.obj;exact Nat.ne_of_gt (Heap.lt_size q)
  have I1:Inv X pins σ H { s with heap:=h'',toks:=tk+1 }:=I.moved (ch:=[e,it]) (λc hc'=>hf c hc') λc o hc' q=>by
   simp only [List.mem_cons,List.not_mem_nil,or_false,not_or] at hc';exact hs.extBut _ _ hc'.1 (q5 c o hc'.1 hc'.2 q)
  have fT:uK X pins H s.heap.objs.size:=I.zbh (Nat.le_refl _) (I.hok.fresh (Nat.le_refl _));have pT:=hs.extBut _ _ ne1 q3
  have I2:Inv X pins σ (upd H s.heap.objs.size (.tup [.int (i:Int),x])) { s with heap:=h'',toks:=tk+1 }:=by
   refine I1.adopt fT ⟨by show 2<=sizeLine;decide,[.int (i:Int) tk,u],.cons ⟨_,rfl⟩ (.cons hu .nil),?_⟩;exact⟨_,pT,rfl,_,rfl⟩
  refine⟨.ref s.heap.objs.size,_,I2,rfl,⟨_,rfl,fT.1,λxs' x' g1 ex=>?_⟩,?_,λc hc'=>?_⟩
  ·rw[I.zbF g1 h1] at ex;rw[hx] at ex;cases ex;rfl
  ·exact⟨⟨_,by have:=z2;rw[show((i+1:Nat):Int)=(i:Int)+1 from rfl];exact this⟩,q2.1.stay λo q=>hs.extBut _ _ (Ne.symm hei) q⟩
  ·have ne:c≠s.heap.objs.size:=by
    simp only [List.mem_cons,List.not_mem_nil,or_false] at hc';rcases hc' with rfl|rfl
    ·exact ne1.symm
    ·exact ne2.symm
   rw[zO ne];exact(hf c hc').1
 done:=λX hp hw hK hc i pins s σ H E I hf S st=>by
  subst hp hw hK;have⟨xs,h1,hend⟩:=st;have⟨us,ru,c1⟩:=I.sqB h1;have l1:=ru.length;have⟨old,he⟩:=S.en
  refine wpAny_pyNext_enum_endD (zfM (t:=t) (A:=X.A.in1) (I.ok.hd hc) it a us.toArray i (by simp;omega)) he ⟨rfl,S.dr,c1⟩ λh' q=>⟨rfl,?_⟩
  exact I.moved (t':=s.toks) (ch:=[it]) (λc hc'=>hf c (by simp at hc';simp[hc'])) λc o hc' e=>q c o (by simpa using hc') e
 self:=λA i s Q E S q=>by
  have⟨old,he⟩:=S.en;exact wpAny_pyIter_enum he q
theorem zbi:bootBuiltins "enumerate"=some (.type "enumerate"):=by decide+kernel
def zmy(K:FRx)(t:Bool)(ta:TA):TI:=λσ H R=>ta σ H λvs H1=>∃a,vs=[.ref a]/\(∃xs,SqB K t H1 a xs)/\R (Ite K t a) H1
theorem zjU{X:Cx}{es:List Expr}{kk:Nat}{tp:Pos}(t:Bool){a:Expr}{ta:TA}{p pos:Pos}(hg:Gl X "enumerate")(hm:X.mg "enumerate"=none)(ha:PA X [a] ta)(hs:starEach [a] X.env=[(false,eval a X.env)]:=by rfl):PI X (.Tuple es kk tp) (.Call (.Name "enumerate" p) [a] [] pos) (zmy X.K t ta):=by
 intro pins s σ H R I h;refine Call_ (UD I hg hm zbi (PyProof.Rows.callWith_type1 (thn (ha pos pins s σ H _ I h) λus s1 ⟨vs,H1,I1,r1,q1⟩=>?_) (by rw[hs];rfl) (by rfl)));have⟨a',e,⟨xs,h1⟩,q⟩:=q1;subst e;obtain⟨u,rfl,ru⟩:=vals1 r1;cases (show u=Value.ref a' from ru);have⟨its,_,c1⟩:=I1.sqB h1;refine zjk c1 λh' S d hk=>?_
 have I2:Inv X pins σ H1 { s1 with heap:=h',toks:=s1.toks }:=I1.kept hk;refine wpAny_pyIter_enum S ?_;have lt:=c1.lt
 refine⟨_,_,_,_,H1,rfl,I2,zgo (t:=t) (e:=s1.heap.objs.size+1) (it:=s1.heap.objs.size) (a:=a') (Nat.succ_ne_self _) (Nat.ne_of_lt (Nat.lt_succ_of_lt lt)) (Nat.ne_of_lt lt),⟨⟨_,S⟩,d⟩,λc hc=>?_,q⟩;simp only [List.mem_cons,List.not_mem_nil,or_false] at hc;have ge:s1.heap.objs.size<=c:=by
  rcases hc with rfl|rfl
  ·exact Nat.le_add_right _ 1
  ·exact Nat.le_refl _
 exact I1.zbh ge (I1.hok.fresh ge)
end L2
namespace L2.Fu
open PySem PySem.Spec PyProof.Rows
def WV(xs:LPd):List PyData:=xs.mapIdx λi d=>.tuple [.int (i:Int),d]
theorem zgK{xs:LPd}{i:Nat}{d:PdX}(h:(WV xs)[i]?=some d):∃x,xs[i]?=some x/\d=.tuple [.int (i:Int),x]:=by
 unfold WV at h;rw[List.getElem?_mapIdx] at h;have⟨z,e1,e2⟩:=map_some h;exact⟨z,e1,e2.symm⟩
theorem zdM{K:FRx}{G G0:Hp}{t:Bool}{a:AdX}{xs:List V}{ds:LPd}(h1:SqB K t G a xs)(r1:Reps K G0 xs ds):Walks K G G0 (Ite K t a) (WV ds):=by
 intro H1 os1 al s s0;have k1:SqB K t H1 a xs:=s.sqB h1;refine⟨λi d hd=>?_,?_⟩
 ·obtain⟨d1,g1,rfl⟩:=zgK hd;have⟨v1,e1,q1⟩:=r1.getD g1;refine⟨⟨xs,v1,k1,e1⟩,λx H2 hy=>?_⟩;obtain⟨p,rfl,hp,hy⟩:=hy;have e:=hy xs v1 k1 e1;subst e;have s2:=zW hp (.tup [.int (i:Int),v1])
  refine⟨s2,.tup (SqT.of ?_) (.cons (.int _) (.cons ((q1.same s0).same (zl s2 os1)) .nil))⟩;rw[zt (al.new hp)];exact zE
 ·refine⟨xs,k1,?_⟩;rw[r1.length];simp[WV]
def zfg(t:Bool)(g:RLx):RLx:=λρ=>match g ρ with
 |some [x]=>match kindOf x with
  |some (k,xs)=>if k=t then some (WV xs) else none
  |_=>none
 |_=>none
end L2.Fu
namespace L2
open PySem PySem.Spec PyProof.Rows
theorem zcn{prog:Program}{w:World}{A:Around}{R:Result->Shared->Prop}{s:ShX}{elt target iter c:Expr}{scope:Scope}{pos:Pos}{it acc:Value}{env:Env}(I:Nat->Shared->Prop)(turn:∀n s,I n s->wpAny (model prog w) A (pyNext it) (λr t1=>match r with
   |none=>R (.ok .next) t1
   |some v=>wpAny (model prog w) A (letOwnedTupleGo target it v) (λ_ t2=>wpAny (model prog w) A (assign target env v) (λ_ t3=>wpAny (model prog w) A (isTrue c env (eval c env)) (λok t31=>
     if ok=true then wpAny (model prog w) A (eval elt env) (λx t4=>wpAny (model prog w) A (call (.builtin "list.append") [acc,x]) (λ_ t5=>∃m,m<n/\I m t5) (λ_ _=>False) t4) (λ_ _=>False) t31
     else ∃m,m<n/\I m t31) (λ_ _=>False) t3) (λ_ _=>False) t2) (λ_ _=>False) t1) (λ_ _=>False) s)(n:Nat)(h:I n s):codeAny (model prog w) A (.compLoop (.ListComp elt [⟨target,iter,[c],0⟩] scope pos) 0 it acc env) R s:=by
 refine codeAny_loop rfl I (λn s hI=>?_) n h;show wpAny _ _ ((compTurn (.ListComp elt [⟨target,iter,[c],0⟩] scope pos) 0 it acc env).onRaise (λx=>do noteFrame x env;theTreesLotGoes x)) _ _ s
 refine wpAny_noted ?_;rw[compTurn_list];refine wpAny_bind (wpAny_standAt (wpAny_bind (wpAny_mono (turn n s hI) (λr t1 h1=>?_) λ_ _ z=>z.elim)));cases r with
 |none=>exact wpAny_pure h1
 |some v=>
  refine wpAny_bind (wpAny_mono h1 (λ_ t2 h2=>?_) λ_ _ z=>z.elim);refine wpAny_bind (wpAny_mono h2 (λ_ t3 h3=>?_) λ_ _ z=>z.elim);refine wpAny_bind ?_;rw[List.forIn_cons];refine wpAny_bind ?_;rw[if_pos rfl];refine wpAny_bind (wpAny_mono h3 (λok t31 h31=>?_) λ_ _ z=>z.elim);refine wpAny_pure ?_;dsimp only;rw[List.forIn_nil];refine wpAny_pure ?_;cases ok with
  |true=>
   rw[if_pos rfl] at h31 ⊢;exact wpAny_bind (wpAny_bind (wpAny_mono h31 (λx t4 h4=>wpAny_bind (wpAny_mono h4 (λ_ t5 h5=>wpAny_pure (wpAny_pure ⟨rfl,h5⟩)) λ_ _ z=>z.elim)) λ_ _ z=>z.elim))
  |false=>
   rw[if_neg Bool.false_ne_true] at h31 ⊢;exact wpAny_pure ⟨rfl,h31⟩
def zfz(T:Nat)(F:LNt)(g:TG)(tc:TT)(te:TE)(k:Addr->Hp->Prop)(σ:St)(H1:Hp)(D:AdX)(J:It):Prop:=∃W:Nat->Nat->St->Hp->Prop,(∃m,W 0 m (Uv T F σ) (upd H1 D (.lst [])))/\∀i m σ' H',W i m σ' H'->
  (J.stop i H'/\k D H')\/(J.go i H'/\∃N:St->Hp->Prop,(∀σ2 H2,N σ2 H2->∃m',m'<m/\W (i+1) m' σ2 H2)/\
   ∀x H2,J.yld i H' x H2->g x σ' H2 λσ2 H3=>tc σ2 H3 λok H31=>if ok=true then te σ2 H31 λv H4=>∃xs,H4 D=some (.lst xs)/\xs.length<sizeLine/\N σ2 (upd H4 D (.lst (xs++[v]))) else N σ2 H31)
def za6(T:Nat)(F:LNt)(wi:TI)(g:TG)(tc:TT)(te:TE)(k:Addr->Hp->Prop):St->Hp->Prop:=λσ H=>wi σ H λJ H1=>∀D,H1 D=none->zfz T F g tc te k σ H1 D J
section
variable{X:Cx}{elt tg iter c:Expr}{scope:Scope}{pos:Pos}{Ts:LSr}{F:LNt}{wi:TI}{g:TG}{tc:TT}{te:TE}
theorem Zr{cl:LSA}{use:Option (Value->Sem Unit)}{Q:VSx}{pins:PNx}{s:ShX}{σ:St}{H:Hp}{k:Addr->Hp->Prop}(hc:X.calm=true)(hi:PI X tg iter wi)(S:ya X scope)(hF:∀j∈F,∃x,X.N[j]?=some x/\scope.names.lookup x=some .free)(hg:∀cl C ex s H,PG (zV X (Ts++F.map λj=>X.N.getD j "") scope cl C ex s H) tg g)(he:∀cl C ex s H,PE (zV X (Ts++F.map λj=>X.N.getD j "") scope cl C ex s H) elt te)(ht:∀cl C ex s H,PT (zV X (Ts++F.map λj=>X.N.getD j "") scope cl C ex s H) c tc)(ko:J7 scope X.env cl)(I:Inv X pins σ H s)(h:za6 Ts.length F wi g tc te k σ H)(fin:∀(s':ShX)(H':Hp)(D C:AdX)(m:Str->Option Value),Inv X pins σ H' s'->uK X pins H' C->s'.heap.Ns C m->k D H'->compPost (model X.prog X.w) X.A X.xe use Q (.ref D) C (.ok .next) s'):wpAny (model X.prog X.w) X.A (eval iter X.env) (λx s₁=>wpAny (model X.prog X.w) X.A (pyIter x) (λit s₂=>wpAny (model X.prog X.w) X.A (newList []) (λacc s₃=>
   wpAny (model X.prog X.w) X.A (newFunctionEnv scope X.env.globals cl [] X.env.qual none .none (some X.env)) (λcenv s₄=>
    codeAny (model X.prog X.w) X.A (.compStart (.ListComp elt [⟨tg,iter,[c],0⟩] scope pos) 0 it acc { cenv with scope:=relabel scope X.env }) (compPost (model X.prog X.w) X.A X.xe use Q acc cenv.locals) s₄) X.xe s₃) X.xe s₂) X.xe s₁) X.xe s:=by
 refine thn (hi pins s σ H _ I h) λv s1 h1=>thn h1 λitv s2 h2=>?_
 obtain⟨it,fp,tn,J,H2,rfl,I2,T,st2,f2,hW⟩:=h2;refine wpAny_newObj_type (wpAny_newFunctionEnv S.nocell (by intro y hy;simp at hy) (λh₁ hns₁ hsb₁=>?_) S.kind);dsimp only at hns₁ hsb₁ ⊢;have fresh2:H2 s2.heap.objs.size=none:=I2.hok.fresh (Nat.le_refl _);have⟨W,⟨m0,w0⟩,turn⟩:=hW s2.heap.objs.size fresh2
 generalize hD:s2.heap.objs.size=D at*;have I3:Inv X pins σ (upd H2 D (.lst [])) { s2 with heap:=s2.heap.push { cls:=.type "list",dict:=none,data:=.seq ([]:LVl).toArray } }:=by
  refine I2.laid (t':=s2.toks) (λb u e=>Heap.get?_push_of_some _ e) (Nat.le_of_eq hD) ?_;refine⟨by simp,[],0,.nil,?_⟩;rw[<-hD];exact Heap.get?_push_size _ rfl
 generalize hS3:({ s2 with heap:=s2.heap.push { cls:=.type "list",dict:=none,data:=.seq ([]:LVl).toArray } }:ShX)=s3 at*;have hh3:s3.heap=s2.heap.push { cls:=.type "list",dict:=none,data:=.seq ([]:LVl).toArray }:=by rw[<-hS3]
 have objs:∀b∈fp,∃o,s3.heap.get? b=some o:=λb hb=>by
  have⟨o,e,_⟩:=T.obj _ _ st2 b hb;exact⟨o,by rw[hh3];exact Heap.get?_push_of_some _ e⟩
 have neD:∀b∈fp,b≠D:=λb hb z=>by
  have⟨o,e,_⟩:=T.obj _ _ st2 b hb;have e1:=Heap.lt_size e;rw[hD,z] at e1;exact Nat.lt_irrefl _ e1
 have f3:∀b∈fp,uK X pins (upd H2 D (.lst [])) b:=λb hb=>⟨by rw[zO (neD b hb)];exact(f2 b hb).1,(f2 b hb).2⟩
 have hsb:Heap.SameBut s3.heap.objs.size (s3.heap.push { cls:=.type "dict",data:=.dict #[] }) h₁:=by
  rw[<-hS3];exact hsb₁
 have hns:h₁.Ns s3.heap.objs.size (λ_=>none):=by
  rw[<-hS3];exact hns₁
 have keep:∀b o,s3.heap.get? b=some o->h₁.get? b=some o:=λb o e=>hsb.extBut b o (Nat.ne_of_lt (Heap.lt_size e)) (Heap.get?_push_of_some _ e)
 have IY:=zdL (Ts:=Ts) (F:=F) (tk:=s3.toks) I3 S ko f3 objs hF hns keep;have tn1:tn 0 h₁:=T.keep _ _ _ st2 λb hb o e=>keep b o (by rw[hh3];exact Heap.get?_push_of_some _ e)
 have stat:∀{H':Hp},(∀b∈fp,H' b=none)->∀b∈fp,uK (zV X (Ts++F.map λj=>X.N.getD j "") scope cl s3.heap.objs.size fp s3 (upd H2 D (.lst []))) [] H' b:=λhn b hb=>
  ⟨hn b hb,(IY.ok.exf b hb).1,IY.ok.exfs b hb,.inl hb,(IY.ok.exf b hb).2,λp hp=>absurd (show p∈([]:PNx) from hp) (by simp)⟩
 have back:∀{σ':St} {H':Hp} {s':ShX},Inv (zV X (Ts++F.map λj=>X.N.getD j "") scope cl s3.heap.objs.size fp s3 (upd H2 D (.lst []))) [] σ' H' s'->k D H'->compPost (model X.prog X.w) X.A X.xe use Q (.ref D) s3.heap.objs.size (.ok .next) s':=λ{σ' H' s'} J' q=>by
  have hI:Inv X pins σ H' s':=by
   have⟨hh,gg,dd,tt,os'⟩:=s';have ho:os'=s3.os:=J'.os;subst ho;exact I3.call (h':=hh) (g':=gg) (d':=dd) (t':=tt) (ch:=fp) J'.base J'.hok J'.bare λb hb=>⟨(f3 b hb).2.2.2.1,(f3 b hb).2.1,(f3 b hb).2.2.2.2.1,(f3 b hb).2.2.2.2.2⟩
  have⟨m,hm,_⟩:=J'.loc;exact fin s' H' D s3.heap.objs.size m hI (I3.zbh (Nat.le_refl _) J'.free) hm q
 have loop:∀s4:Shared,s4={ s3 with heap:=h₁,toks:=s3.toks }->
   codeAny (model X.prog X.w) X.A (.compLoop (.ListComp elt [⟨tg,iter,[c],0⟩] scope pos) 0 (.ref it) (.ref D) (compEnvC scope cl s3.heap.objs.size X.env)) (compPost (model X.prog X.w) X.A X.xe use Q (.ref D) s3.heap.objs.size) s4:=by
  rintro s4 rfl;refine zcn (λn s'=>∃i σ' H',Inv (zV X (Ts++F.map λj=>X.N.getD j "") scope cl s3.heap.objs.size fp s3 (upd H2 D (.lst []))) [] σ' H' s'/\tn i s'.heap/\(∀b∈fp,H' b=none)/\W i n σ' H') ?_ m0
   ⟨0,_,_,IY,tn1,λb hb=>(f3 b hb).1,w0⟩
  rintro n s5 ⟨i,σ5,H5,I5,st5,fr5,w5⟩;rcases turn i n σ5 H5 w5 with⟨stop,qn⟩|⟨go,N,hN,step⟩
  ·refine thn (T.done (zV X (Ts++F.map λj=>X.N.getD j "") scope cl s3.heap.objs.size fp s3 (upd H2 D (.lst []))) rfl rfl rfl hc i [] s5 σ5 H5 _ I5 (stat fr5) st5 stop) λr s6 ⟨hr,I6⟩=>?_
   subst hr;exact back I6 qn
  ·refine thn (T.item (zV X (Ts++F.map λj=>X.N.getD j "") scope cl s3.heap.objs.size fp s3 (upd H2 D (.lst []))) rfl rfl rfl hc i [] s5 σ5 H5 _ I5 (stat fr5) st5 go) λr s6 ⟨u,hr,h6⟩=>?_
   subst hr;refine thn h6 λ_ s7 ⟨x,H7,I7,r7,y7,st7,fr7⟩=>?_
   have I7':=I7.pinned (stat fr7) (T.obj _ _ st7);refine thn (hg cl _ fp s3 _ _ s7 σ5 H7 x u _ I7' r7 (step x H7 y7)) λ_ s8 ⟨σ8,H8,I8,q8⟩=>?_
   refine thn (ht cl _ fp s3 _ _ s8 σ8 H8 _ I8 q8) λok s81 ⟨H81,I81,q81⟩=>?_
   cases ok with
   |true=>
    rw[if_pos rfl] at q81 ⊢;refine thn (he cl _ fp s3 _ _ s81 σ8 H81 _ I81 q81) λev s9 ⟨y,H9,I9,r9,xs,hx,hz,n9⟩=>?_
    refine thn (uj _ s9 σ8 H9 (.ref D) [y] (.ref D) [ev] (λ_ H'=>N σ8 H') I9 rfl (.cons r9 .nil) ⟨D,xs,y,rfl,rfl,hx,hz,n9⟩) λ_ s10 ⟨z,H10,I10,_,n10⟩=>?_
    have⟨m',hm,w10⟩:=hN σ8 H10 n10;refine⟨m',hm,i+1,σ8,H10,I10.ur,T.keep _ _ _ st7 λb hb o e=>(I10.pin (b,o) (List.mem_append_right _ (List.mem_append_right _ (xY hb e)))).1,λb hb=>?_,w10⟩;have⟨o,e,d⟩:=T.obj _ _ st7 b hb;exact(I10.pin (b,o) (List.mem_append_right _ (List.mem_append_right _ (xY hb e)))).2.1
   |false=>
    rw[if_neg Bool.false_ne_true] at q81 ⊢;have⟨m',hm,w10⟩:=hN σ8 H81 q81;refine⟨m',hm,i+1,σ8,H81,I81.ur,T.keep _ _ _ st7 λb hb o e=>(I81.pin (b,o) (List.mem_append_right _ (List.mem_append_right _ (xY hb e)))).1,λb hb=>?_,w10⟩;have⟨o,e,d⟩:=T.obj _ _ st7 b hb;exact(I81.pin (b,o) (List.mem_append_right _ (List.mem_append_right _ (xY hb e)))).2.1
 subst hS3;subst hD;exact codeAny_compStart_list (loop _ rfl) (T.self _ 0 _ _ _ tn1 (loop _ rfl))
theorem zf2(hc:X.calm=true)(hi:PI X tg iter wi)(S:ya X scope)(hF:∀j∈F,∃x,X.N[j]?=some x/\scope.names.lookup x=some .free)(hg:∀cl C ex s H,PG (zV X (Ts++F.map λj=>X.N.getD j "") scope cl C ex s H) tg g)(he:∀cl C ex s H,PE (zV X (Ts++F.map λj=>X.N.getD j "") scope cl C ex s H) elt te)(ht:∀cl C ex s H,PT (zV X (Ts++F.map λj=>X.N.getD j "") scope cl C ex s H) c tc)(hs:FSx X iter:=by exact λ_=>rfl):PE X (.ListComp elt [⟨tg,iter,[c],0⟩] scope pos) (λσ H Q=>za6 Ts.length F wi g tc te (λD H'=>Q (.ref D) H') σ H):=by
 intro pins s σ H Q I h;obtain⟨cl,hcl,ko⟩:=uM (Uw I S);rw[eval_ListComp];refine wpAny_comprehension_free (use:=none) rfl hs hcl S.kind S.loc (Zr (use:=none) hc hi S hF hg he ht ko I h λs' H' D C m I' fC hm q=>?_);refine⟨m,hm,λh' hs'=>⟨.ref D,H',?_,rfl,q⟩⟩;exact I'.turned (t':=s'.toks) (λb o hb e=>hs'.extBut b o hb e) fC.1 fC.2.1 fC.2.2.2.1 fC.2.2.2.2.1 fC.2.2.2.2.2
def zjw(T:Nat)(F:LNt)(wi:TI)(g:TG)(tc:TT)(te:TE)(i:Nat):TS:=λD σ H=>za6 T F wi g tc te (λl H'=>D.nx (σ.set i (some (.ref l))) H') σ H
theorem Ve{x:Str}{pos' spos:Pos}{i:Nat}(hN:X.N.Nodup)(hi':X.N[i]?=some x)(hx:X.env.scope.names.lookup x=some .local)(hc:X.calm=true)(hi:PI X tg iter wi)(S:ya X scope)(hF:∀j∈F,∃x,X.N[j]?=some x/\scope.names.lookup x=some .free)(hg:∀cl C ex s H,PG (zV X (Ts++F.map λj=>X.N.getD j "") scope cl C ex s H) tg g)(he:∀cl C ex s H,PE (zV X (Ts++F.map λj=>X.N.getD j "") scope cl C ex s H) elt te)(ht:∀cl C ex s H,PT (zV X (Ts++F.map λj=>X.N.getD j "") scope cl C ex s H) c tc)(hsw:swapsWith (.ListComp elt [⟨tg,iter,[c],0⟩] scope pos) (some (.Name x pos')) spos.line X.env=pure true:=by rfl)(hs:FSx X iter:=by exact λ_=>rfl):PS X (.Assign [.Name x pos'] (.ListComp elt [⟨tg,iter,[c],0⟩] scope pos) spos) (zjw Ts.length F wi g tc te i):=by
 intro pins s σ H D I h;obtain⟨cl,hcl,ko⟩:=uM (Uw I S);rw[exec_Assign_Name_used _ _ _ _ hsw];refine wpAny_bind (wpAny_standAt (wpAny_bind ?_));show wpAny _ X.A (do let _ <-comprehension (.ListComp elt [⟨tg,iter,[c],0⟩] scope pos) scope X.env _ (newList []) false (eval iter X.env) (some (assign (.Name x pos') X.env))) _ _ s
 refine wpAny_bind (wpAny_mono (wpAny_comprehension_free (use:=some (assign (.Name x pos') X.env)) (Q:=λ_ s'=>SP X pins D .next s') rfl hs hcl S.kind S.loc
  (Zr (use:=some (assign (.Name x pos') X.env)) hc hi S hF hg he ht ko I h λs' H' l C m I' fC hm q=>?_)) (λ_ s' hq=>wpAny_pure (wpAny_pure hq)) λ_ _ e=>e)
 show wpAny _ X.A (assign (.Name x pos') X.env (.ref l)) _ _ s'
 refine wpAny_assign_Name (Wi I' hN hi' (.inl hx) (show RelV (.ref l) (.ref l) from rfl) (λs2 I2 hsame=>?_) (.inr hx));have⟨a,hsb,ha⟩:=hsame;have neC:C≠a:=by
  rcases ha with rfl|ha
  ·exact fC.2.1
  ·exact λz=>fC.2.2.2.2.1 x a ha z.symm
 have hm2:s2.heap.Ns C m:=hm.sameBut hsb neC;refine⟨m,hm2,λh' hs'=>⟨_,H',?_,q⟩⟩;exact I2.turned (t':=s2.toks) (λb o hb e=>hs'.extBut b o hb e) fC.1 fC.2.1 fC.2.2.2.1 fC.2.2.2.2.1 fC.2.2.2.2.2
end
end L2
namespace L2.Fu
open PySem PySem.Spec PyProof.Rows
def wu{α β:Type}(h:α->Option (Option β)):List α->Option (List β)
 |[]=>some []
 |d::r=>(h d).bind λo=>(wu h r).map λys=>match o with |some y=>y::ys|none=>ys
def u0(T:Nat)(F:LNt)(fi:RLx)(b:PyData->Ro->Option Ro)(fc:Ro->Option Bool)(fe:RPx):RLx:=λρ=>
 (fi ρ).bind λds=>if ds.length<=16777216 then wu (λd=>(b d (compEnv T F ρ)).bind λρ1=>(fc ρ1).bind λok=>if ok then (fe ρ1).map some else some none) ds else none
def tFT(K:FRx)(f:Ro->Option Bool):TT:=λσ H Q=>∃os ρ b,xo K H os σ ρ/\f ρ=some b/\∀H',Same H H'->Q b H'
theorem FT.pt{X:Cx}{e:Expr}{f:Ro->Option Bool}(h:FT X e f):PT X e (tFT X.K f):=by
 have⟨t,p,q⟩:=h;intro pins s σ H Q I z;have⟨os,ρ,d,R,e1,k⟩:=z;exact p pins s σ H Q I (q σ H os ρ d Q R e1 k)
theorem JE{K:FRx}{T:Nat}{F:LNt}{b:PyData->Ro->Option Ro}{fc:Ro->Option Bool}{fe:RPx}{σ:St}{ρ:Ro}{H1:Hp}{os:LAd}{D:AdX}{is:LNt}{k:Addr->Hp->Prop}{J:It}{ds rs:LPd}(his:∀i∈is,i<T)(R:xo K H1 os σ ρ)(hn:ds.length<=16777216)(hD:H1 D=none)(W:Walks K H1 (offs H1 os) J ds)(hm:wu (λd=>(b d (compEnv T F ρ)).bind λρ1=>(fc ρ1).bind λok=>if ok then (fe ρ1).map some else some none) ds=some rs)(fin:∀H' xs,Same H1 H'->H' D=some (.lst xs)->Reps K (offs H' (D::os)) xs rs->k D H'):zfz T F (gF K is b) (tFT K fc) (tF K fe) k σ H1 D J:=by
 have so:∀H',Same H1 H'->Same (offs H1 os) (offs H' (D::os)):=λH' s c o z=>by
  by_cases hb:c∈os
  ·rw[xw hb] at z;cases z
  ·rw[zt hb] at z;rw[zt]
   ·exact s c o z
   ·intro w;rcases List.mem_cons.mp w with w|w
    ·rw[w,hD] at z;cases z
    ·exact hb w
 have al:∀H' xs,Same H1 H'->H' D=some (.lst xs)->Al H' (D::os):=λH' xs s hx a ha=>by
  rcases List.mem_cons.mp ha with z|z
  ·subst z;exact⟨_,hx⟩
  ·have⟨o,e⟩:=R.al a z;exact⟨o,s _ _ e⟩
 refine⟨λi m σ' H'=>m=ds.length - i/\i<=ds.length/\(∃ts:St,ts.length=T/\σ'=ts++F.map λj=>(σ[j]?).join)/\Same H1 H'/\∃xs done rest,H' D=some (.lst xs)/\xs.length<=i/\Reps K (offs H' (D::os)) xs done/\wu (λd=>(b d (compEnv T F ρ)).bind λρ1=>(fc ρ1).bind λok=>if ok then (fe ρ1).map some else some none) (ds.drop i)=some rest/\done++rest=rs,
  ⟨ds.length,rfl,Nat.zero_le _,⟨List.replicate T none,by simp,rfl⟩,zW hD _,[],[],rs,zE,Nat.le_refl _,.nil,hm,rfl⟩,?_⟩
 rintro i m σ' H' ⟨rfl,hi,⟨ts,hts,rfl⟩,sm,xs,done,rest,hx,hl,rp,hf,hdr⟩;obtain⟨w1,w2⟩:=W H' (D::os) (al H' xs sm hx) sm (so H' sm);by_cases hlt:i<ds.length
 ·obtain⟨d,hd⟩:∃d,ds[i]?=some d:=⟨_,List.getElem?_eq_getElem hlt⟩;have⟨g1,g2⟩:=w1 i d hd;have ed:ds.drop i=d::ds.drop (i+1):=by
   rw[List.drop_eq_getElem_cons hlt];rw[List.getElem?_eq_getElem hlt] at hd;cases hd;rfl
  rw[ed] at hf;have⟨o,e,hf⟩:=bind_some hf;have⟨ys,hf2,ho⟩:=map_some hf;have⟨ρ',e1,e2⟩:=bind_some e;have⟨ok,e3,e4⟩:=bind_some e2;refine .inr ⟨g1,λσ2 H2=>i+1<=ds.length/\(∃ts:St,ts.length=T/\σ2=ts++F.map λj=>(σ[j]?).join)/\Same H1 H2/\∃xs done rest,H2 D=some (.lst xs)/\xs.length<=i+1/\Reps K (offs H2 (D::os)) xs done/\wu (λd=>(b d (compEnv T F ρ)).bind λρ1=>(fc ρ1).bind λok=>if ok then (fe ρ1).map some else some none) (ds.drop (i+1))=some rest/\done++rest=rs,?_,?_⟩
  ·rintro σ2 H2 ⟨h1,h2,h3,h4⟩;exact⟨ds.length - (i+1),by omega,rfl,h1,h2,h3,h4⟩
  ·intro x H2 hy;have⟨s2,rx⟩:=g2 x H2 hy;refine⟨D::os,d,compEnv T F ρ,ρ',rx,e1,λσ2 st=>?_⟩;have R2:xo K H2 (D::os) (ts++F.map λj=>(σ[j]?).join) (compEnv T F ρ):=ZG T F R hD (sm.trans s2) (s2 _ _ hx) hts;have hts2:∃ts':St,ts'.length=T/\σ2=ts'++F.map λj=>(σ[j]?).join:=st.tail his hts rfl
   refine⟨D::os,ρ',ok,R2.sets st,e3,λH31 s31=>?_⟩;cases ok with
   |true=>
    rw[if_pos rfl] at e4 ⊢;have⟨r,e5,e6⟩:=map_some e4;subst e6;refine⟨D::os,ρ',r,(R2.sets st).same s31,e5,λv H4 s4 rv=>?_⟩;refine⟨xs,s4 _ _ (s31 _ _ (s2 _ _ hx)),?_,hlt,hts2,(((sm.trans s2).trans s31).trans s4).V8 hD _,xs++[v],done++[r],ys,zE,by rw[List.length_append];exact Nat.succ_le_succ hl,?_,hf2,?_⟩
    ·show xs.length<16777216
     omega
    ·rw[je];exact(rp.same (zl ((s2.trans s31).trans s4) _)).append (.cons rv .nil)
    ·rw[<-hdr,<-ho,List.append_assoc];rfl
   |false=>
    rw[if_neg Bool.false_ne_true] at e4 ⊢;cases e4;refine⟨hlt,hts2,(sm.trans s2).trans s31,xs,done,ys,s31 _ _ (s2 _ _ hx),Nat.le_succ_of_le hl,rp.same (zl (s2.trans s31) _),hf2,?_⟩;rw[<-hdr,<-ho]
 ·have e:i=ds.length:=by omega
  subst e;rw[List.drop_length] at hf;cases hf;rw[List.append_nil] at hdr;subst hdr;exact .inl ⟨w2,fin H' xs sm hx rp⟩
section
variable{X:Cx}{elt tg iter c:Expr}{scope:Scope}{pos:Pos}{Ts:LSr}{F:LNt}{is:LNt}{fi:RLx}{b:PyData->Ro->Option Ro}{fc:Ro->Option Bool}{fe:RPx}
theorem zfS(hc:X.calm=true)(hi:FIB X tg iter fi)(S:ya X scope)(hF:∀j∈F,∃x,X.N[j]?=some x/\scope.names.lookup x=some .free)(hg:∀cl C ex s H,FG (zV X (Ts++F.map λj=>X.N.getD j "") scope cl C ex s H) tg is b)(ht:∀cl C ex s H,FT (zV X (Ts++F.map λj=>X.N.getD j "") scope cl C ex s H) c fc)(he:∀cl C ex s H,FE (zV X (Ts++F.map λj=>X.N.getD j "") scope cl C ex s H) elt fe)(his:∀i∈is,i<Ts.length:=by decide)(hs:FSx X iter:=by exact λ_=>rfl):FL X (.ListComp elt [⟨tg,iter,[c],0⟩] scope pos) (u0 Ts.length F fi b fc fe):=by
 have⟨wi,pi,qi⟩:=hi;refine⟨_,zf2 (Ts:=Ts) (F:=F) (g:=gF X.K is b) (tc:=tFT X.K fc) (te:=tF X.K fe) hc pi S hF hg (λcl C ex s H=>(he cl C ex s H).pe) (λcl C ex s H=>(ht cl C ex s H).pt) hs,λσ H os ρ rs Q R q k=>?_⟩;have⟨ds,e1,q⟩:=bind_some q;split at q
 ·rename_i hl;refine qi σ H os ρ ds _ R e1 λJ H' s W D hD=>?_
  exact JE his (R.same s) hl hD W q λH2 xs s2 hx r=>k D xs H2 (s.free hD) (s.trans s2) hx r
 ·cases q
theorem zgF(i:Nat){x:Str}{pos' spos:Pos}(hN:X.N.Nodup)(hc:X.calm=true)(hi:FIB X tg iter fi)(S:ya X scope)(hF:∀j∈F,∃x,X.N[j]?=some x/\scope.names.lookup x=some .free)(hg:∀cl C ex s H,FG (zV X (Ts++F.map λj=>X.N.getD j "") scope cl C ex s H) tg is b)(ht:∀cl C ex s H,FT (zV X (Ts++F.map λj=>X.N.getD j "") scope cl C ex s H) c fc)(he:∀cl C ex s H,FE (zV X (Ts++F.map λj=>X.N.getD j "") scope cl C ex s H) elt fe)(his:∀i∈is,i<Ts.length:=by decide)(hi':X.N[i]?=some x:=by rfl)(hx:X.env.scope.names.lookup x=some .local:=by rfl)(hsw:swapsWith (.ListComp elt [⟨tg,iter,[c],0⟩] scope pos) (some (.Name x pos')) spos.line X.env=pure true:=by rfl)(hs:FSx X iter:=by exact λ_=>rfl):FS X (.Assign [.Name x pos'] (.ListComp elt [⟨tg,iter,[c],0⟩] scope pos) spos) (jR i (u0 Ts.length F fi b fc fe)):=by
 have⟨wi,pi,qi⟩:=hi;refine⟨_,Ve (Ts:=Ts) (F:=F) (g:=gF X.K is b) (tc:=tFT X.K fc) (te:=tF X.K fe) hN hi' hx hc pi S hF hg (λcl C ex s H=>(he cl C ex s H).pe) (λcl C ex s H=>(ht cl C ex s H).pt) hsw hs,λH0 os0 D σ H os ρ r R q k=>?_⟩;have⟨ds,e1,q⟩:=bind_some q;cases q;have⟨es,e1,q⟩:=bind_some e1;split at q
 ·rename_i hl;refine qi σ H os ρ es _ R.rel e1 λJ H' s W D hD=>?_
  exact JE his (R.rel.same s) hl hD W q λH2 xs s2 hx r=>k _ _ _ (R.W5 (s.free hD) (s.trans s2) hx r) (jb (s.free hD) (s.trans s2))
 ·cases q
end
section
variable{X:Cx}{e:Expr}{pos apos cpos p1:Pos}
theorem we{K:FRx}{H:Hp}:∀{xs:List V} {ds:LPd} (j:Nat),Reps K H xs ds->Reps K H (xs.eraseIdx j) (ds.eraseIdx j)
 |_,_,_,.nil=>.nil
 |_,_,0,.cons _ q=>q
 |_,_,j+1,.cons h q=>.cons h (we j q)
end
def VD:RFx:=(sq (jR 2 (ziD (vw (aC (zh vO (aC (zh yk (aC (gv 1) a0)) a0)) a0)) (zh yk (aC (gv 0) a0))))
 (frS 2 (retS (zh jk (aC (gv 0) (aC (gv 2) (aC (gv 1) a0)))))))
def uT:LPx:=fnF 3 2 VD
def zcc:RFx:=(sq (jR 2 (zR 2 [] (uB true true (aC (op2 ixD (gv 0) (cst (.int 1))) (aC (op2 ixD (gv 1) (cst (.int 1))) a0))) (b2 (bN 0) (bN 1)) (zh uT (aC (gv 0) (aC (gv 1) a0)))))
 (retS (xp (aC (op2 uC (op2 ixD (gv 0) (cst (.int 0))) (op2 ixD (gv 1) (cst (.int 0)))) (aC (zh yn (aC (gb 2) a0)) (aC (op2 uC (op2 ixD (gv 0) (cst (.int 2))) (op2 ixD (gv 1) (cst (.int 2)))) a0))))))
def Va:LPx:=fnF 3 2 zcc
def ze1:RFx:=(sq (exS (zh xB (aC (gv 0) (aC (gv 1) a0))))
 (sq (exS (zh xJ (aC (op2 xP (zh yk (aC (op2 ixD (gv 0) (cst (.int 0))) a0)) (zh yk (aC (op2 ixD (gv 1) (cst (.int 0))) a0))) a0)))
 (retS (zh Va (aC (gv 0) (aC (gv 1) a0))))))
def jN:LPx:=fnF 2 2 ze1
def zcO:RFx:=(retS (xp (aC (zh jK (aC (op2 ixD (gv 0) (cst (.int 0))) (aC (gv 1) a0))) (aC (op2 ixD (gv 0) (cst (.int 1))) (aC (op2 ixD (gv 0) (cst (.int 2))) a0)))))
def Zw:LPx:=fnF 2 2 zcO
end L2.Fu
namespace L2.Fu
open PySem WS WD
open PySem.Builtin.Int (intBits)
theorem zfx{f:RLx}{g:RPx}{ρ:Ro}{d:PdX}{n:Nat}(h1:f ρ=some [d])(h2:g ρ=some (.int (n:Int)))(hn:n<=1000):ziD f g ρ=some ((List.range n).map λ_=>d):=by
 unfold ziD;rw[h1,Option.bind_some,h2];dsimp only;rw[if_pos (by refine⟨?_,?_,?_⟩<;>first |omega|simp;omega),Int.toNat_natCast,Vs]
theorem JO{g:RLx}{ρ:Ro}{ds:LPd}(h:g ρ=some ds)(hl:ds.length<=16777216):vw g ρ=some ds:=by
 unfold vw;rw[h,Option.bind_some,if_pos hl]
theorem Z1{n m:Nat}{f g:Q2x}(hn:n<=42)(hm:m<=42):uT [yv n f,yv m g]=some (yv (n+m) (jnM n f (λ_ _=>0) g)):=by
 refine zM rfl ?_;refine(zx (xj (d:=(List.range n).map λ_=>z9 m λ_=>0) ?_)).trans ?_
 ·refine zfx (d:=z9 m λ_=>0) ?_ ((zb rfl).trans (xx n _)) (by omega);exact JO (zk ((zb (zk ((zb rfl).trans (xx m _)) rfl)).trans (UE (by omega))) rfl) (by show 1<=16777216;decide)
 ·exact zy ((zb rfl).trans (Ju hn hm))
def xr(n:Nat)(st su:Q3x):Nat->Nat->Nat->Rat:=λg=>jnM n (st g) (λ_ _=>0) (su g)
theorem zaP{n m s:Nat}{fi gi:Q1x}{st su:Q3x}{la lb:Q1x}(hn:n<=42)(hm:m<=42)(hs:s<=42):Va [zr n s fi st la,zr m s gi su lb]=some (zr (n+m) s (jn n fi gi) (xr n st su) (jn n la lb)):=by
 refine zM rfl ?_;refine(zx (xj (d:=(List.range s).map λg=>yv (n+m) (xr n st su g)) ?_)).trans (zy ?_)
 ·refine zP (xs:=List.range s) (e:=λg=>.tuple [yv n (st g),yv m (su g)]) ((zfc (zk ((zf rfl rfl).trans vE) (zk ((zf rfl rfl).trans vE) rfl))).trans (congrArg some (uh _ _ s))) (by simpa using Nat.le_trans hs (by decide)) λg hg=>?_
  exact JN.trans ((zb rfl).trans (Z1 hn hm))
 ·exact(WM ((zf ((zf rfl rfl).trans xQ) ((zf rfl rfl).trans xQ)).trans (vi (by omega))) ((zb rfl).trans rfl) ((zf ((zf rfl rfl).trans uv) ((zf rfl rfl).trans uv)).trans (vi (by omega)))).trans rfl
theorem zgd{n m s s':Nat}{fi gi:Q1x}{st su:Q3x}{la lb:Q1x}{ρ:Ro}(h0:gv 0 ρ=some (zr n s fi st la))(h1:gv 1 ρ=some (zr m s' gi su lb)):aC (op2 xP (zh yk (aC (op2 ixD (gv 0) (cst (.int 0))) a0)) (zh yk (aC (op2 ixD (gv 1) (cst (.int 0))) a0))) a0 ρ=some [.int ((n+m:Nat):Int)]:=by
 refine zk ((zf ((zb (zk ((zf h0 rfl).trans xQ) rfl)).trans (xx n _)) ((zb (zk ((zf h1 rfl).trans xQ) rfl)).trans (xx m _))).trans ?_) rfl;rw[Int.natCast_add];rfl
theorem v7{n m s:Nat}{fi gi:Q1x}{st su:Q3x}{la lb:Q1x}(hs:s<=42)(h:n+m<=24):jN [zr n s fi st la,zr m s gi su lb]=some (zr (n+m) s (jn n fi gi) (xr n st su) (jn n la lb)):=by
 refine zM rfl ?_;refine(zx (Zx ((zb rfl).trans jY))).trans ((zx (Zx ((zb (zgd rfl rfl)).trans (wj h)))).trans (zy ((zb rfl).trans (zaP (by omega) (by omega) hs))))
theorem zgi{n s k:Nat}{fi:Q1x}{st:Q3x}{la:Q1x}{c:Rat}(hn:n<=42)(A:Mach n s fi st la k)(hk:k<=400)(hc:Bq 4000 c):Zw [zr n s fi st la,fr c]=some (zr n s (λi=>fi i*c) st la):=by
 refine zM rfl (zy ?_);exact(WM ((zb (zk ((zf rfl rfl).trans xQ) rfl)).trans (wY (by omega) (λi hi=>(A.fi i hi).bq hk) hc)) ((zf rfl rfl).trans vE) ((zf rfl rfl).trans uv)).trans rfl
theorem xX{n m:Nat}{st su:Q3x}{la lb:Q1x}:∀(ws:LNt)(r u v:Q1x),(∀x,x<n+m->r x=jn n u v x)->wt (n+m) (xr n st su) r (jn n la lb) ws=wt n st u la ws+wt m su v lb ws
 |[],r,u,v,h=>by
  show sumTo (n+m) (λx=>r x*jn n la lb x)=sumTo n (λx=>u x*la x)+sumTo m (λx=>v x*lb x)
  rw[yz,zd n (g:=λx=>u x*la x) λx hx=>by rw[h x (by omega),W4 hx,W4 hx],zd m (g:=λx=>v x*lb x) λx hx=>by rw[h _ (by omega),V9,V9]]
 |g::ws,r,u,v,h=>by
  show wt (n+m) (xr n st su) (led (n+m) r (xr n st su g)) (jn n la lb) ws=wt n st (led n u (st g)) la ws+wt m su (led m v (su g)) lb ws
  refine xX ws _ _ _ λx hx=>?_
  show sumTo (n+m) (λa=>r a*xr n st su g a x)=_
  rw[yz];have c1:∀a,a<n->xr n st su g a=jn n (st g a) λ_=>0:=λa ha=>if_pos ha
  have c2:∀b,xr n st su g (n+b)=jn n (λ_=>0) (su g b):=λb=>by
   unfold xr jnM;rw[if_neg (by omega),show n+b - n=b by omega]
  by_cases hxn:x<n
  ·rw[W4 hxn,zd n (g:=λa=>u a*st g a x) λa ha=>by rw[h a (by omega),W4 ha,c1 a ha,W4 hxn],zd m (g:=λ_=>0) λb hb=>by rw[c2,W4 hxn];grind,yU];show led n u (st g) x+0=led n u (st g) x
   grind
  ·obtain⟨y,rfl⟩:∃y,x=n+y:=⟨x - n,by omega⟩;rw[V9,zd n (g:=λ_=>0) λa ha=>by rw[c1 a ha,V9];grind,yU,zd m (g:=λb=>v b*su g b y) λb hb=>by rw[h _ (by omega),V9,c2,V9]];show 0+led m v (su g) y=led m v (su g) y
   grind
theorem YC{n m s k:Nat}{fi gi:Q1x}{st su:Q3x}{la lb:Q1x}(A:Mach n s fi st la k)(B:Mach m s gi su lb k):Mach (n+m) s (jn n fi gi) (xr n st su) (jn n la lb) k where
 fi:=zfo A.fi B.fi
 st:=λg x y hg hx hy=>by
  unfold xr jnM;split
  ·exact zfo (λi hi=>A.st g x i hg ‹_› hi) (λj hj=>Sk.zero _) y hy
  ·exact zfo (λi hi=>Sk.zero _) (λj hj=>B.st g _ j hg (by omega) hj) y hy
 la:=zfo A.la B.la
theorem zgx{n:Nat}{st:Q3x}(c:Rat)(fi la:Q1x)(ws:LNt):wt n st (λi=>fi i*c) la ws=wt n st fi la ws*c:=by
 have z:wt n st (λ_=>0) la ws=0:=by
  have h:∀(ws:LNt) y,y<n->zT n st (λ_=>0) ws y=0:=by
   intro ws;induction ws with
   |nil=>intro y _;rfl
   |cons g ws ih=>
    intro y hy;rw[<-ih y hy];refine uP ws (λz _=>?_) (λ_ _ _ _ _ _=>rfl) y hy;exact(zd n (g:=λ_=>0) λi _=>by grind).trans (yU n)
  unfold wt;rw[zd n (g:=λ_=>0) λy hy=>by rw[h ws y hy];grind,yU]
 have e:=zd3 (m:=n) (su:=st) c fi (λ_=>0) la ws;rw[z] at e;have e2:(λj=>fi j*c+0)=λj=>fi j*c:=by funext j;grind
 rw[e2] at e;rw[e];grind
end L2.Fu
namespace L2.Fu
open PySem PySem.Spec PyProof.Rows
def Vt:RFx:=(sq (yr 2 (zh yn (aC (yu (zR 1 [] (yt (op2 ixD (gv 0) (cst (.int 0)))) (bN 0) (xp (aC (cst (.int 0)) (aC (cst (.int 1)) a0))))) a0)))
 (sq (yr 3 (zh yn (aC (yu (zR 1 [] (yt (op2 ixD (gv 1) (cst (.int 0)))) (bN 0) (xp (aC (cst (.int 0)) (aC (cst (.int 1)) a0))))) a0)))
 (sq (jR 4 (vw a0))
 (sq (vc (xK (aC (zh yk (aC (op2 ixD (gv 0) (cst (.int 1))) a0)) a0)) (bN 5) (sq (jR 6 (zR 1 [3] (yt (op2 ixD (op2 ixD (gv 0) (cst (.int 1))) (gv 5))) (bN 0) (op2 uC (gv 0) (gv 1))))
 (apS 4 (zh yn (aC (yu (zgc (gk 6) (zR 1 [2] (yt (op2 ixD (op2 ixD (gv 1) (cst (.int 1))) (gv 5))) (bN 0) (op2 uC (gv 1) (gv 0))))) a0)))))
 (retS (xp (aC (op2 uC (op2 ixD (gv 0) (cst (.int 0))) (op2 ixD (gv 1) (cst (.int 0)))) (aC (zh yn (aC (gb 4) a0)) (aC (op2 uC (op2 ixD (gv 0) (cst (.int 2))) (op2 ixD (gv 1) (cst (.int 2)))) a0)))))))))
def uZ:LPx:=fnF 7 2 Vt
end L2.Fu
namespace L2.Fu
open PySem PySem.Spec PyProof.Rows WS WD
section
variable{n m s:Nat}{fi gi:Q1x}{st su:Q3x}{la lb:Q1x}
theorem ZY(hn:n<=42)(hm:m<=42)(hs:s<=42):uZ [zr n s fi st la,zr m s gi su lb]=some (zr (n+m) s (jn n fi gi) (xr n st su) (jn n la lb)):=by
 have nz:∀(k:Nat)(f:Q1x)(it:RPx)(ρ:Ro),k<=42->it ρ=some (z9 k f)->zh yn (aC (yu (zR 1 [] (yt it) (bN 0) (xp (aC (cst (.int 0)) (aC (cst (.int 1)) a0))))) a0) ρ=some (z9 k λ_=>0):=λk f it ρ hk h=>
  (zb (xs:=[.list ((List.range k).map λ_=>fr 0)]) (zk (zZ (zP (xs:=List.range k) (e:=λi=>fr (f i)) (wW h) (by rw[List.length_range];omega) λi _=>yy.trans rfl)) rfl)).trans rfl
 obtain⟨ρ1,e1,o5,o6,rfl⟩:=V3 (n:=s) (g:=aC (zh yk (aC (op2 ixD (gv 0) (cst (.int 1))) a0)) a0) (bd:=bN 5)
  (b:=sq (jR 6 (zR 1 [3] (yt (op2 ixD (op2 ixD (gv 0) (cst (.int 1))) (gv 5))) (bN 0) (op2 uC (gv 0) (gv 1))))
   (apS 4 (zh yn (aC (yu (zgc (gk 6) (zR 1 [2] (yt (op2 ixD (op2 ixD (gv 1) (cst (.int 1))) (gv 5))) (bN 0) (op2 uC (gv 1) (gv 0))))) a0))))
  (ρ0:=[.pu (zr n s fi st la),.pu (zr m s gi su lb),.pu (z9 n λ_=>0),.pu (z9 m λ_=>0),.ow [],.no,.no])
  (λi ρ=>∃o5 o6,ρ=[.pu (zr n s fi st la),.pu (zr m s gi su lb),.pu (z9 n λ_=>0),.pu (z9 m λ_=>0),.ow ((List.range i).map λg=>yv (n+m) (xr n st su g)),o5,o6])
  (zk ((zb (zk ((zf rfl rfl).trans vE) rfl)).trans (xx s _)) rfl) (by omega) ⟨.no,.no,rfl⟩ λg ρ hg ⟨o5,o6,q⟩=>by
   subst q;refine⟨_,_,rfl,(zx (xj (d:=(List.range n).map λa=>z9 (n+m) (jn n (st g a) λ_=>0)) ?_)).trans (Wx (d:=yv (n+m) (xr n st su g)) rfl ?_ (by rw[List.length_map,List.length_range];omega)),.pu (.int (g:Int)),.ow ((List.range n).map λa=>z9 (n+m) (jn n (st g a) λ_=>0)),?_⟩
   ·exact zP (xs:=List.range n) (e:=λa=>z9 n (st g a)) (wW ((zf ((zf rfl rfl).trans vE) rfl).trans (zdJ hg))) (by rw[List.length_range];omega) λa _=>yy.trans ((zf rfl rfl).trans (vi (by omega)))
   ·refine(zb (xs:=[.list ((List.range (n+m)).map λx=>z9 (n+m) (xr n st su g x))]) (zk (zZ ?_) rfl)).trans rfl;refine(zeZ rfl (zP (xs:=List.range m) (e:=λb=>z9 m (su g b)) (d:=λb=>z9 (n+m) (jn n (λ_=>0) (su g b))) (wW ((zf ((zf rfl rfl).trans vE) rfl).trans (zdJ hg))) (by rw[List.length_range];omega) λb _=>yy.trans ((zf rfl rfl).trans (vi (by omega)))) (by rw[List.length_map,List.length_map,List.length_range,List.length_range];omega)).trans (congrArg some ?_);refine Wl n m _ _ _ (λi hi=>?_) λi hi=>?_
    ·show _=z9 (n+m) (jnM n (st g) (λ_ _=>0) (su g) i)
     unfold jnM;rw[if_pos hi]
    ·show _=z9 (n+m) (jnM n (st g) (λ_ _=>0) (su g) (n+i))
     unfold jnM;rw[if_neg (by omega),show n+i - n=i by omega]
   ·rw[List.range_succ,List.map_append];rfl
 refine zM rfl ?_;refine(zx (zQ (nz n fi _ _ hn ((zf rfl rfl).trans xQ)))).trans ((zx (zQ (nz m gi _ _ hm ((zf rfl rfl).trans xQ)))).trans ((zx (xj (d:=[]) rfl)).trans ((zx e1).trans (zy ?_))));exact(WM ((zf ((zf rfl rfl).trans xQ) ((zf rfl rfl).trans xQ)).trans (vi (by omega))) ((zb rfl).trans rfl) ((zf ((zf rfl rfl).trans uv) ((zf rfl rfl).trans uv)).trans (vi (by omega)))).trans rfl
end
end L2.Fu
namespace WD.DT
theorem yj{f g:Z1x}:∀n,(∀i,i<n->f i=g i)->yg n f=yg n g
 |0,_=>rfl
 |n+1,h=>by
  show yg n f+f n=yg n g+g n
  rw[yj n λi hi=>h i (Nat.lt_succ_of_lt hi),h n (Nat.lt_succ_self n)]
theorem vR:∀n,yg n (λ_=>0)=0
 |0=>rfl
 |n+1=>by
  show yg n (λ_=>0)+0=0
  rw[vR n];rfl
theorem Vo(f:Z1x):∀n,yg n (λi=>- f i)=- yg n f
 |0=>rfl
 |n+1=>by
  show yg n (λi=>- f i)+- f n=-(yg n f+f n)
  rw[Vo f n];omega
theorem ZA(f g:Z1x):∀n,yg n (λi=>f i+g i)=yg n f+yg n g
 |0=>rfl
 |n+1=>by
  show yg n (λi=>f i+g i)+(f n+g n)=(yg n f+f n)+(yg n g+g n)
  rw[ZA f g n];omega
theorem uE(c:Int)(f:Z1x):∀n,yg n (λi=>c*f i)=c*yg n f
 |0=>by
  show(0:Int)=c*0
  rw[Int.mul_zero]
 |n+1=>by
  show yg n (λi=>c*f i)+c*f n=c*(yg n f+f n)
  rw[uE c f n,Int.mul_add]
theorem Wo(f:Nat->Nat->Int)(m:Nat):∀n,yg n (λa=>yg m λb=>f a b)=yg m λb=>yg n λa=>f a b
 |0=>(vR m).symm
 |n+1=>by
  show yg n (λa=>yg m λb=>f a b)+yg m (λb=>f n b)=yg m λb=>yg n (λa=>f a b)+f n b
  rw[Wo f m n,ZA]
theorem zaC(f:Z1x){j:Nat}:∀n,j<n->yg n (λi=>if i=j then f i else 0)=f j
 |0,h=>absurd h (Nat.not_lt_zero _)
 |n+1,h=>by
  show yg n (λi=>if i=j then f i else 0)+(if n=j then f n else 0)=f j
  by_cases e:n=j
  ·subst e;rw[if_pos rfl,yj n (g:=λ_=>0) λi hi=>if_neg (by omega),vR];omega
  ·rw[if_neg e,zaC f n (by omega)];omega
theorem zak(g:Z1x){j:Nat}:∀m,j<=m->yg m g=yg (m+1) λk=>if k=j then 0 else g (if k<j then k else k - 1)
 |0,h=>by
  have:j=0:=by omega
  subst this;rfl
 |m+1,h=>by
  show yg m g+g m=yg (m+1) (λk=>if k=j then 0 else g (if k<j then k else k - 1))+(if m+1=j then 0 else g (if m+1<j then m+1 else m+1 - 1))
  by_cases e:m+1=j
  ·rw[if_pos e,yj (m+1) (g:=g) λi hi=>by rw[if_neg (by omega),if_pos (by omega)]];show _=yg m g+g m+0
   omega
  ·rw[if_neg e,if_neg (by omega),<-zak g m (by omega)];rfl
def sg(j:Nat):Int:=if j % 2=0 then 1 else -1
theorem zfq(j:Nat):sg (j+1)=- sg j:=by
 unfold sg;by_cases h:j % 2=0
 ·rw[if_pos h,if_neg (by omega)]
 ·rw[if_neg h,if_pos (by omega)];rfl
theorem zhe(j:Nat):sg j*sg j=1:=by
 unfold sg;split<;>rfl
theorem erase_comm{α:Type}:∀(S:List α)(j k:Nat),k<j->(S.eraseIdx j).eraseIdx k=(S.eraseIdx k).eraseIdx (j - 1)
 |[],_,_,_=>rfl
 |x::S,0,k,h=>absurd h (Nat.not_lt_zero _)
 |x::S,j+1,0,h=>rfl
 |x::S,j+1,k+1,h=>by
  show x::(S.eraseIdx j).eraseIdx k=(x::S.eraseIdx k).eraseIdx (j+1 - 1)
  have e:j+1 - 1=(j - 1)+1:=by omega
  rw[e,erase_comm S j k (by omega)];rfl
theorem zdK(S:LNt){j k:Nat}(hk:k≠j):(S.eraseIdx j).getD (if k<j then k else k - 1) 0=S.getD k 0:=by
 rw[List.getD_eq_getElem?_getD,List.getD_eq_getElem?_getD,List.getElem?_eraseIdx];by_cases h:k<j
 ·rw[if_pos h,if_pos h]
 ·rw[if_neg h,if_neg (by omega),show k - 1+1=k by omega]
def det:List (Nat->Int)->List Nat->Int
 |[],_=>1
 |r::R,S=>yg S.length λj=>sg j*(r (S.getD j 0)*det R (S.eraseIdx j))
theorem zfA(r r':Z1x)(R:LZr)(S:LNt):det (r::r'::R) S=yg S.length λj=>yg S.length λk=>if k=j then 0 else
  sg j*sg (if k<j then k else k - 1)*(r (S.getD j 0)*r' (S.getD k 0))*det R ((S.eraseIdx j).eraseIdx (if k<j then k else k - 1)):=by
 show yg S.length (λj=>sg j*(r (S.getD j 0)*det (r'::R) (S.eraseIdx j)))=_
 refine yj _ λj hj=>?_
 have e:det (r'::R) (S.eraseIdx j)=yg (S.length - 1) λk=>sg k*(r' ((S.eraseIdx j).getD k 0)*det R ((S.eraseIdx j).eraseIdx k)):=by
  show yg (S.eraseIdx j).length _=_
  rw[List.length_eraseIdx_of_lt hj]
 rw[e,zak _ (j:=j) (S.length - 1) (by omega),show S.length - 1+1=S.length by omega,<-Int.mul_assoc,<-uE];refine yj _ λk hk=>?_
 by_cases h:k=j
 ·rw[if_pos h,if_pos h,Int.mul_zero]
 ·rw[if_neg h,if_neg h,zdK S h];generalize sg (if k<j then k else k - 1)=a;generalize det R _=d;grind
theorem zc5(r r':Z1x)(R:LZr)(S:LNt):det (r::r'::R) S=- det (r'::r::R) S:=by
 rw[zfA r r',zfA r' r,Wo,<-Vo];refine yj _ λk hk=>?_
 rw[<-Vo];refine yj _ λj hj=>?_
 by_cases h:k=j
 ·subst h;rw[if_pos rfl,if_pos rfl];rfl
 ·rw[if_neg h,if_neg (Ne.symm h)];by_cases hl:k<j
  ·rw[if_pos hl,if_neg (by omega),erase_comm S j k hl];obtain⟨i,rfl⟩:∃i,j=i+1:=⟨j - 1,by omega⟩;rw[show i+1 - 1=i by omega,zfq];generalize det R _=d;grind
  ·have hl:j<k:=by omega
   rw[if_neg (by omega),if_pos hl,erase_comm S k j hl];obtain⟨i,rfl⟩:∃i,k=i+1:=⟨k - 1,by omega⟩;rw[show i+1 - 1=i by omega,zfq];generalize det R _=d;grind
theorem zeN{r:Z1x}:∀{R:LZr} (S:LNt),r∈R->det (r::R) S=0
 |[],_,h=>by cases h
 |b::R,S,h=>by
  rcases List.mem_cons.mp h with z|z
  ·subst z
   have:=zc5 r r R S;omega
  ·rw[zc5];show -(yg S.length λj=>sg j*(b (S.getD j 0)*det (r::R) (S.eraseIdx j)))=0
   rw[yj S.length (g:=λ_=>0) λj hj=>by rw[zeN _ z,Int.mul_zero,Int.mul_zero],vR];rfl
def vec(R:LZr)(S:LNt)(x:Nat):Int:=yg S.length λj=>if S.getD j 0=x then sg j*det R (S.eraseIdx j) else 0
theorem zbm{n:Nat}{S:LNt}(R:LZr)(r:Z1x)(h:∀x∈S,x<n):yg n (λx=>vec R S x*r x)=det (r::R) S:=by
 have e:∀x,vec R S x*r x=yg S.length λj=>if x=S.getD j 0 then r x*(sg j*det R (S.eraseIdx j)) else 0:=λx=>by
  unfold vec;rw[Int.mul_comm,<-uE];refine yj _ λj _=>?_
  by_cases q:S.getD j 0=x
  ·rw[if_pos q,if_pos q.symm]
  ·rw[if_neg q,if_neg (Ne.symm q),Int.mul_zero]
 rw[yj n λx _=>e x,Wo];refine yj _ λj hj=>?_
 rw[zaC _ n (h _ ?_)]
 ·generalize det R _=d;grind
 ·rw[List.getD_eq_getElem?_getD,List.getElem?_eq_getElem hj];exact List.getElem_mem hj
theorem zcs{n:Nat}{S:LNt}{R:LZr}{r:Z1x}(h:∀x∈S,x<n)(hr:r∈R):yg n (λx=>vec R S x*r x)=0:=by
 rw[zbm R r h,zeN S hr]
theorem zeR{R:LZr}{S:LNt}{x:Nat}(h:x∉S):vec R S x=0:=by
 unfold vec;rw[yj S.length (g:=λ_=>0) λj hj=>if_neg λq=>h ?_,vR];rw[<-q,List.getD_eq_getElem?_getD,List.getElem?_eq_getElem hj];exact List.getElem_mem hj
theorem zcL{R:LZr}{T:LNt}{f:Nat}(h:f∉T):vec R (T++[f]) f=sg T.length*det R T:=by
 unfold vec;rw[List.length_append];show yg T.length (λj=>if (T++[f]).getD j 0=f then sg j*det R ((T++[f]).eraseIdx j) else 0)+(if (T++[f]).getD T.length 0=f then sg T.length*det R ((T++[f]).eraseIdx T.length) else 0)=_
 rw[yj T.length (g:=λ_=>0) λj hj=>if_neg λq=>h ?_,vR,if_pos,List.eraseIdx_append_of_length_le (Nat.le_refl _),Nat.sub_self]
 ·rw[show[f].eraseIdx 0=[] from rfl,List.append_nil];omega
 ·rw[List.getD_eq_getElem?_getD,List.getElem?_append_right (Nat.le_refl _),Nat.sub_self];rfl
 ·rw[<-q,List.getD_eq_getElem?_getD,List.getElem?_append_left hj,List.getElem?_eq_getElem hj];exact List.getElem_mem hj
abbrev dt(n:Nat)(f g:Z1x):Int:=yg n λx=>f x*g x
abbrev dq(n:Nat)(f g:Q1x):Rat:=sumTo n λx=>f x*g x
abbrev rt(f:Z1x):Nat->Rat:=λx=>(f x:Rat)
theorem VE{n:Nat}(f g:Z1x):dq n (rt f) (rt g)=((dt n f g:Int):Rat):=by
 unfold dq dt rt;rw[JF];exact zd n λi _=>(Rat.intCast_mul _ _).symm
theorem zgS{n:Nat}(a b:Int)(f g h:Z1x):dt n (λx=>a*f x - b*g x) h=a*dt n f h - b*dt n g h:=by
 unfold dt;rw[<-uE,<-uE,Int.sub_eq_add_neg,<-Vo,<-ZA];exact yj n λi _=>by grind
theorem za2{n:Nat}(a:Int)(f h:Z1x):dt n (λx=>a*f x) h=a*dt n f h:=by
 unfold dt;rw[<-uE];exact yj n λi _=>by grind
theorem Zj{n:Nat}{f f' h:Z1x}(e:∀x,x<n->f x=f' x):dt n f h=dt n f' h:=yj n λi hi=>by rw[e i hi]
theorem yJ:∀n,sumTo n (λ_=>(0:Rat))=0
 |0=>rfl
 |n+1=>by
  show sumTo n (λ_=>(0:Rat))+0=0
  rw[yJ n];grind
theorem xT(f:Q2x)(m:Nat):∀n,sumTo n (λa=>sumTo m λb=>f a b)=sumTo m λb=>sumTo n λa=>f a b
 |0=>(yJ m).symm
 |n+1=>by
  show sumTo n (λa=>sumTo m λb=>f a b)+sumTo m (λb=>f n b)=sumTo m λb=>sumTo n (λa=>f a b)+f n b
  rw[xT f m n,vb]
theorem yR(f:Q1x){j:Nat}:∀n,j<n->(∀i,i<n->i≠j->f i=0)->sumTo n f=f j
 |0,h,_=>absurd h (Nat.not_lt_zero _)
 |n+1,h,k=>by
  show sumTo n f+f n=f j
  by_cases e:n=j
  ·subst e;rw[zd n (g:=λ_=>0) λi hi=>k i (by omega) (by omega),yJ];grind
  ·rw[yR f n (by omega) λi hi=>k i (by omega),k n (by omega) e];grind
theorem zaV(u v:Q1x):∀n,sumTo n u - sumTo n v=sumTo n λx=>u x - v x
 |0=>by
  show(0:Rat) - 0=0
  grind
 |n+1=>by
  have:=zaV u v n;show(sumTo n u+u n) - (sumTo n v+v n)=sumTo n (λx=>u x - v x)+(u n - v n)
  rw[<-this];grind
theorem Y7{n:Nat}(a b:Rat)(f g h:Q1x):dq n (λx=>a*f x - b*g x) h=a*dq n f h - b*dq n g h:=by
 have e1:a*sumTo n (λx=>f x*h x)=sumTo n λx=>f x*h x*a:=by rw[zG];exact Rat.mul_comm _ _
 have e2:b*sumTo n (λx=>g x*h x)=sumTo n λx=>g x*h x*b:=by rw[zG];exact Rat.mul_comm _ _
 show sumTo n (λx=>(a*f x - b*g x)*h x)=a*sumTo n (λx=>f x*h x) - b*sumTo n (λx=>g x*h x)
 rw[e1,e2,zaV];exact zd n λi _=>by clear e1 e2;grind
def In(n:Nat)(R:LZr)(x:Q1x):Prop:=∀w:Nat->Rat,(∀r∈R,dq n w (rt r)=0)->dq n w x=0
structure Sp(n:Nat)(R:LZr)(T F:LNt)(C:LZr)(d:Int):Prop where
 d0:d≠0
 mem:∀x,x∈T++F↔x<n
 nd:(T++F).Nodup
 lenC:C.length=F.length
 ex:∃e:Int,e*e=1/\d=e*det R T/\∀(i:Nat)(c:Z1x)(f:Nat),C[i]?=some c->F[i]?=some f->∀x,x<n->c x=e*sg T.length*vec R (T++[f]) x
 ind:∀w:Nat->Rat,(∀x,x<n->x∉T->w x=0)->(∀r∈R,dq n w (rt r)=0)->∀x,x<n->w x=0
section
variable{n:Nat}{R:LZr}{T F:LNt}{C:LZr}{d:Int}
theorem Sp.free(h:Sp n R T F C d){i f:Nat}(hf:F[i]?=some f):f<n/\f∉T:=by
 have hm:f∈F:=List.mem_of_getElem? hf;exact⟨(h.mem f).mp (List.mem_append.mpr (.inr hm)),λz=>(List.nodup_append.mp h.nd).2.2 f z f hm rfl⟩
theorem Sp.lt(h:Sp n R T F C d){i f:Nat}(hf:F[i]?=some f):∀x∈T++[f],x<n:=λx hx=>by
 rcases List.mem_append.mp hx with z|z
 ·exact(h.mem x).mp (List.mem_append.mpr (.inl z))
 ·rw[List.mem_singleton.mp z];exact(h.free hf).1
theorem Sp.at(h:Sp n R T F C d){i f:Nat}{c:Z1x}(hc:C[i]?=some c)(hf:F[i]?=some f):c f=d:=by
 have⟨e,e1,e2,e3⟩:=h.ex;have⟨h1,h2⟩:=h.free hf;rw[e3 i c f hc hf f h1,zcL h2,e2]
 have:=zhe T.length;grind
theorem Sp.out(h:Sp n R T F C d){i f x:Nat}{c:Z1x}(hc:C[i]?=some c)(hf:F[i]?=some f)(hx:x<n)(ht:x∉T)(hne:x≠f):c x=0:=by
 have⟨e,e1,e2,e3⟩:=h.ex;rw[e3 i c f hc hf x hx,zeR (λz=>?_),Int.mul_zero];rcases List.mem_append.mp z with z|z
 ·exact ht z
 ·exact hne (List.mem_singleton.mp z)
theorem Sp.orth(h:Sp n R T F C d){i f:Nat}{c r:Z1x}(hc:C[i]?=some c)(hf:F[i]?=some f)(hr:r∈R):dt n c r=0:=by
 have⟨e,e1,e2,e3⟩:=h.ex;rw[Zj (f':=λx=>(e*sg T.length)*vec R (T++[f]) x) λx hx=>e3 i c f hc hf x hx,za2,show dt n (vec R (T++[f])) r=0 from zcs (h.lt hf) hr,Int.mul_zero]
theorem VO{α:Type}{l:List α}{i:Nat}{a b:α}(h:l[i]?=some a):l.getD i b=a:=by
 rw[List.getD_eq_getElem?_getD,h];rfl
theorem zcU{l:LNt}(h:l.Nodup){i j a b:Nat}(ha:l[i]?=some a)(hb:l[j]?=some b)(hij:i≠j):a≠b:=λe=>by
 subst e;obtain⟨hi,e1⟩:=List.getElem?_eq_some_iff.mp ha;obtain⟨hj,e2⟩:=List.getElem?_eq_some_iff.mp hb;rcases Nat.lt_or_gt_of_ne hij with q|q
 ·exact List.pairwise_iff_getElem.mp h i j hi hj q (e1.trans e2.symm)
 ·exact List.pairwise_iff_getElem.mp h j i hj hi q (e2.trans e1.symm)
theorem Sp.ndF(h:Sp n R T F C d):F.Nodup:=(List.nodup_append.mp h.nd).2.1
def xc(i:Nat):Nat->Int:=λx=>if x=i then 1 else 0
theorem zh6(n:Nat):Sp n [] [] (List.range n) ((List.range n).map xc) 1 where
 d0:=by decide
 mem:=λx=>by simp
 nd:=by simpa using List.nodup_range
 lenC:=by simp
 ex:=⟨1,rfl,rfl,λi c f hc hf x hx=>by
  rw[List.getElem?_map] at hc;obtain⟨hi,e⟩:=List.getElem?_eq_some_iff.mp hf;rw[hf] at hc;cases hc;show xc f x=1*1*(0+(if f=x then sg 0*1 else 0))
  unfold xc;by_cases q:x=f
  ·rw[if_pos q,if_pos q.symm];rfl
  ·rw[if_neg q,if_neg (Ne.symm q)];rfl⟩
 ind:=λw h _ x hx=>h x hx (by simp)
theorem Sp.holds(h:Sp n R T F C d)(x:Q1x):(∀c∈C,dq n (rt c) x=0)↔In n R x:=by
 constructor
 ·intro hc w hw;have hz:(d:Rat)≠0:=λz=>h.d0 (by exact_mod_cast z)
  have key:∀y,y<n->(d:Rat)*w y - 1*sumTo F.length (λi=>w (F.getD i 0)*((C.getD i λ_=>0) y:Rat))=0:=by
   refine h.ind _ (λy hy ht=>?_) λr hr=>?_
   ·have hyF:y∈F:=by
     rcases List.mem_append.mp ((h.mem y).mpr hy) with z|z
     ·exact absurd z ht
     ·exact z
    obtain⟨k,hk⟩:=List.getElem?_of_mem hyF;obtain⟨hkl,_⟩:=List.getElem?_eq_some_iff.mp hk;obtain⟨c,hck⟩:∃c,C[k]?=some c:=⟨_,List.getElem?_eq_getElem (by rw[h.lenC];exact hkl)⟩;rw[yR _ (j:=k) _ hkl λi hi hik=>?_]
    ·rw[VO hk,VO hck];show(d:Rat)*w y - 1*(w y*(c y:Rat))=0
     rw[h.at hck hk];grind
    ·obtain⟨c',hci⟩:∃c,C[i]?=some c:=⟨_,List.getElem?_eq_getElem (by rw[h.lenC];exact hi)⟩;obtain⟨f',hfi⟩:∃f,F[i]?=some f:=⟨_,List.getElem?_eq_getElem hi⟩;rw[VO (l:=C) hci];show _*((c' y:Int):Rat)=0
     rw[h.out hci hfi hy ht (zcU h.ndF hk hfi (Ne.symm hik))];exact Rat.mul_zero _
   ·rw[Y7];rw[hw r hr]
    have:dq n (λy=>sumTo F.length λi=>w (F.getD i 0)*((C.getD i λ_=>0) y:Rat)) (rt r)=0:=by
     unfold dq;rw[zd n (g:=λy=>sumTo F.length λi=>w (F.getD i 0)*((C.getD i λ_=>0) y:Rat)*(rt r) y) λy _=>(zG _ _ _).symm,xT,zd F.length (g:=λ_=>0) λi hi=>?_,yJ];obtain⟨c',hci⟩:∃c,C[i]?=some c:=⟨_,List.getElem?_eq_getElem (by rw[h.lenC];exact hi)⟩;obtain⟨f',hfi⟩:∃f,F[i]?=some f:=⟨_,List.getElem?_eq_getElem hi⟩;rw[VO (l:=C) hci];show sumTo n (λy=>w (F.getD i 0)*(c' y:Rat)*(r y:Rat))=0
     rw[zd n (g:=λy=>((c' y:Rat)*(r y:Rat))*w (F.getD i 0)) λy _=>by grind,zG];have e:sumTo n (λy=>(c' y:Rat)*(r y:Rat))=dq n (rt c') (rt r):=rfl;rw[e,VE,h.orth hci hfi hr];exact Rat.zero_mul _
    rw[this];grind
  have e1:(d:Rat)*dq n w x - 1*dq n (λy=>sumTo F.length λi=>w (F.getD i 0)*((C.getD i λ_=>0) y:Rat)) x=0:=by
   rw[<-Y7];unfold dq;rw[zd n (g:=λ_=>0) λy hy=>(congrArg (·*_) (key y hy)).trans (Rat.zero_mul _),yJ]
  have e2:dq n (λy=>sumTo F.length λi=>w (F.getD i 0)*((C.getD i λ_=>0) y:Rat)) x=0:=by
   unfold dq;rw[zd n (g:=λy=>sumTo F.length λi=>w (F.getD i 0)*((C.getD i λ_=>0) y:Rat)*x y) λy _=>(zG _ _ _).symm,xT,zd F.length (g:=λ_=>0) λi hi=>?_,yJ];obtain⟨c',hci⟩:∃c,C[i]?=some c:=⟨_,List.getElem?_eq_getElem (by rw[h.lenC];exact hi)⟩;rw[VO (l:=C) hci];show sumTo n (λy=>w (F.getD i 0)*(c' y:Rat)*x y)=0
   rw[zd n (g:=λy=>((c' y:Rat)*x y)*w (F.getD i 0)) λy _=>by grind,zG];have e:sumTo n (λy=>(c' y:Rat)*x y)=dq n (rt c') x:=rfl;rw[e,hc c' (List.mem_of_getElem? hci)];exact Rat.zero_mul _
  rw[e2] at e1;have e3:(d:Rat)*dq n w x=0:=by grind
  rcases Rat.mul_eq_zero.mp e3 with z|z
  ·exact absurd z hz
  ·exact z
 ·intro hx c hc;obtain⟨i,hi⟩:=List.getElem?_of_mem hc;obtain⟨hil,_⟩:=List.getElem?_eq_some_iff.mp hi;obtain⟨f,hf⟩:∃f,F[i]?=some f:=⟨_,List.getElem?_eq_getElem (by rw[<-h.lenC];exact hil)⟩;exact hx (rt c) λr hr=>by rw[VE,h.orth hi hf hr];rfl
def nar(p d s:Int)(g c:Z1x):Nat->Int:=λx=>(p*c x - s*g x).fdiv d
theorem Sp.ind'(h:Sp n R T F C d){i g:Nat}{cg r:Z1x}(hc:C[i]?=some cg)(hg:F[i]?=some g)(hp:dt n cg r≠0):∀w:Nat->Rat,(∀x,x<n->x∉T++[g]->w x=0)->(∀ρ∈r::R,dq n w (rt ρ)=0)->∀x,x<n->w x=0:=by
 intro w hs ho;have⟨g1,g2⟩:=h.free hg;have hz:(d:Rat)≠0:=λz=>h.d0 (by exact_mod_cast z)
 have hpz:((dt n cg r:Int):Rat)≠0:=λz=>hp (by exact_mod_cast z)
 have key:∀x,x<n->(d:Rat)*w x - w g*(rt cg) x=0:=by
  refine h.ind _ (λx hx ht=>?_) λρ hr=>?_
  ·by_cases q:x=g
   ·subst q;show(d:Rat)*w x - w x*((cg x:Int):Rat)=0
    rw[h.at hc hg];grind
   ·show(d:Rat)*w x - w g*((cg x:Int):Rat)=0
    rw[h.out hc hg hx ht q,hs x hx λz=>by
     rcases List.mem_append.mp z with z|z
     ·exact ht z
     ·exact q (List.mem_singleton.mp z)]
    show(d:Rat)*0 - w g*0=0
    grind
  ·rw[Y7,ho ρ (.tail _ hr),VE,h.orth hc hg hr];show(d:Rat)*0 - w g*0=0
   grind
 have e:(d:Rat)*dq n w (rt r) - w g*dq n (rt cg) (rt r)=0:=by
  rw[<-Y7];unfold dq;rw[zd n (g:=λ_=>0) λy hy=>(congrArg (·*_) (key y hy)).trans (Rat.zero_mul _),yJ]
 rw[ho r (.head _),VE] at e;have e2:w g*((dt n cg r:Int):Rat)=0:=by grind
 have wg:w g=0:=by
  rcases Rat.mul_eq_zero.mp e2 with z|z
  ·exact z
  ·exact absurd z hpz
 intro x hx
 have:=key x hx;rw[wg] at this;have e3:(d:Rat)*w x=0:=by grind
 rcases Rat.mul_eq_zero.mp e3 with z|z
 ·exact absurd z hz
 ·exact z
theorem zct{α:Type}(l:List α)(i j:Nat):(l.eraseIdx i)[j]?=l[if j<i then j else j+1]?:=by
 rw[List.getElem?_eraseIdx];by_cases h:j<i
 ·rw[if_pos h,if_pos h]
 ·rw[if_neg h,if_neg h]
theorem YD{α:Type}{a:α}:∀(l:List α)(i:Nat),l[i]?=some a->(a::l.eraseIdx i).Perm l
 |[],i,h=>by simp at h
 |x::l,0,h=>by
  have:x=a:=by simpa using h
  subst this;exact List.Perm.refl _
 |x::l,i+1,h=>by
  have ih:=YD l i (by simpa using h);exact(List.Perm.swap x a _).trans (ih.cons x)
theorem Sp.nar(h:Sp n R T F C d){i g:Nat}{cg r:Z1x}(hc:C[i]?=some cg)(hg:F[i]?=some g)(hp:dt n cg r≠0){e:Int}(e2:d=e*det R T)(e3:∀(i:Nat)(c:Z1x)(f:Nat),C[i]?=some c->F[i]?=some f->∀x,x<n->c x=e*sg T.length*vec R (T++[f]) x){k f:Nat}{c:Z1x}(hk:C[k]?=some c)(hf:F[k]?=some f)(hki:k≠i):∀x,x<n->DT.nar (dt n cg r) d (dt n c r) cg c x=e*sg T.length*sg (T++[g]).length*vec (r::R) (T++[g]++[f]) x:=by
 have hfg:f≠g:=zcU h.ndF hf hg hki;have⟨f1,f2⟩:=h.free hf
 have⟨g1,g2⟩:=h.free hg;have hfT:f∉T++[g]:=λz=>by
  rcases List.mem_append.mp z with z|z
  ·exact f2 z
  ·exact hfg (List.mem_singleton.mp z)
 have hlt:∀x∈T++[g]++[f],x<n:=λx hx=>by
  rcases List.mem_append.mp hx with z|z
  ·exact h.lt hg x z
  ·rw[List.mem_singleton.mp z];exact f1
 have ep:dt n cg r=e*sg T.length*det (r::R) (T++[g]):=by
  rw[Zj (f':=λx=>(e*sg T.length)*vec R (T++[g]) x) λx hx=>e3 i cg g hc hg x hx,za2,show dt n (vec R (T++[g])) r=det (r::R) (T++[g]) from zbm R r (h.lt hg)]
 have key:=h.ind' hc hg hp (λx=>((d*(e*sg T.length*sg (T++[g]).length*vec (r::R) (T++[g]++[f]) x) - 1*(dt n cg r*c x - dt n c r*cg x):Int):Rat)) (λx hx ht=>?_) (λρ hr=>?_)
 ·intro x hx;have q:d*(e*sg T.length*sg (T++[g]).length*vec (r::R) (T++[g]++[f]) x) - 1*(dt n cg r*c x - dt n c r*cg x)=0:=by exact_mod_cast key x hx
  unfold DT.nar;rw[show dt n cg r*c x - dt n c r*cg x=d*(e*sg T.length*sg (T++[g]).length*vec (r::R) (T++[g]++[f]) x) by omega];exact Int.mul_fdiv_cancel_left _ h.d0
 ·have q:d*(e*sg T.length*sg (T++[g]).length*vec (r::R) (T++[g]++[f]) x) - 1*(dt n cg r*c x - dt n c r*cg x)=0:=by
   have htT:x∉T:=λz=>ht (List.mem_append.mpr (.inl z))
   have hxg:x≠g:=λz=>ht (List.mem_append.mpr (.inr (by rw[z];exact .head _)))
   by_cases hxf:x=f
   ·subst hxf;rw[zcL hfT,h.at hk hf,h.out hc hg hx htT hxg,ep]
    have:=zhe (T++[g]).length;generalize det (r::R) (T++[g])=D at*;generalize sg (T++[g]).length=a at*;grind
   ·rw[zeR (λz=>?_),h.out hk hf hx htT hxf,h.out hc hg hx htT hxg]
    ·simp
    ·rcases List.mem_append.mp z with z|z
     ·exact ht z
     ·exact hxf (List.mem_singleton.mp z)
  exact_mod_cast q
 ·have q:dt n (λx=>d*(e*sg T.length*sg (T++[g]).length*vec (r::R) (T++[g]++[f]) x) - 1*(dt n cg r*c x - dt n c r*cg x)) ρ=0:=by
   rw[zgS d 1 (λx=>e*sg T.length*sg (T++[g]).length*vec (r::R) (T++[g]++[f]) x) (λx=>dt n cg r*c x - dt n c r*cg x) ρ,zgS,za2,show dt n (vec (r::R) (T++[g]++[f])) ρ=0 from zcs hlt hr];rcases List.mem_cons.mp hr with z|z
   ·subst z;rw[Int.mul_comm (dt n c ρ)];simp
   ·rw[h.orth hk hf z,h.orth hc hg z];simp
  have:=VE (n:=n) (λx=>d*(e*sg T.length*sg (T++[g]).length*vec (r::R) (T++[g]++[f]) x) - 1*(dt n cg r*c x - dt n c r*cg x)) ρ;rw[q] at this;exact this
theorem Sp.take(h:Sp n R T F C d){i g:Nat}{cg r:Z1x}(hc:C[i]?=some cg)(hg:F[i]?=some g)(hp:dt n cg r≠0):Sp n (r::R) (T++[g]) (F.eraseIdx i) ((C.eraseIdx i).map λc=>DT.nar (dt n cg r) d (dt n c r) cg c) (dt n cg r):=by
 have⟨e,e1,e2,e3⟩:=h.ex;obtain⟨hi,eg⟩:=List.getElem?_eq_some_iff.mp hg;have pm:(T++[g]++F.eraseIdx i).Perm (T++F):=by
  rw[List.append_assoc];refine List.Perm.append_left T ?_;exact YD F i hg
 refine⟨hp,λx=>?_,pm.nodup_iff.mpr h.nd,?_,⟨e*sg T.length,?_,?_,λj c' f hj hf x hx=>?_⟩,h.ind' hc hg hp⟩
 ·rw[pm.mem_iff];exact h.mem x
 ·rw[List.length_map,List.length_eraseIdx_of_lt hi,List.length_eraseIdx_of_lt (by rw[h.lenC];exact hi),h.lenC]
 ·have:=zhe T.length;grind
 ·rw[Zj (f':=λx=>(e*sg T.length)*vec R (T++[g]) x) λx hx=>e3 i cg g hc hg x hx,za2,show dt n (vec R (T++[g])) r=det (r::R) (T++[g]) from zbm R r (h.lt hg)]
 ·rw[zct] at hf;rw[List.getElem?_map,zct] at hj;cases hk:C[if j<i then j else j+1]? with
  |none=>rw[hk] at hj;cases hj
  |some c=>
   rw[hk] at hj;cases hj;exact h.nar hc hg hp e2 e3 hk hf (by split<;>omega) x hx
end
def cd(s:Nat)(w:LNt):Nat:=w.foldl (λc a=>c*s+a+1) 0
theorem wG(s:Nat)(w:LNt)(a:Nat):cd s (w++[a])=cd s w*s+a+1:=by
 unfold cd;rw[List.foldl_append];rfl
theorem zhi(s:Nat)(hs:0<s)(w:LNt)(a:Nat):cd s w<cd s (w++[a]):=by
 rw[wG]
 have:cd s w<=cd s w*s:=Nat.le_mul_of_pos_right _ hs;omega
theorem zjM{s:Nat}{v w:LNt}(h:cd s v<=cd s w)(a:Nat):cd s (v++[a])<=cd s (w++[a]):=by
 rw[wG,wG]
 have:cd s v*s<=cd s w*s:=Nat.mul_le_mul_right _ h;omega
theorem zjm{s:Nat}{v w:LNt}(h:cd s v<cd s w){a b:Nat}(ha:a<s):cd s (v++[a])<cd s (w++[b]):=by
 rw[wG,wG]
 have:(cd s v+1)*s<=cd s w*s:=Nat.mul_le_mul_right _ h;rw[Nat.add_mul] at this;omega
theorem zeW(w:LNt):w=[]\/∃v a,w=v++[a]:=by
 rcases List.eq_nil_or_concat w with h|⟨v,a,h⟩
 ·exact .inl h
 ·exact .inr ⟨v,a,by rw[h,List.concat_eq_append]⟩
def queue(s:Nat)(kept:List (List Nat)):List (List Nat):=[]::kept.flatMap λv=>(List.range s).map λa=>v++[a]
theorem ZE(s:Nat)(kept:List (List Nat))(u:LNt):queue s (kept++[u])=queue s kept++(List.range s).map λa=>u++[a]:=by
 unfold queue;rw[List.flatMap_append];simp
theorem JS{s:Nat}{kept:List (List Nat)}{u:LNt}:u∈queue s kept↔u=[]\/∃v∈kept,∃a,a<s/\u=v++[a]:=by
 unfold queue;rw[List.mem_cons,List.mem_flatMap];constructor
 ·rintro(h|⟨v,hv,h⟩)
  ·exact .inl h
  ·obtain⟨a,ha,rfl⟩:=List.mem_map.mp h;exact .inr ⟨v,hv,a,List.mem_range.mp ha,rfl⟩
 ·rintro(h|⟨v,hv,a,ha,rfl⟩)
  ·exact .inl h
  ·exact .inr ⟨v,hv,List.mem_map.mpr ⟨a,List.mem_range.mpr ha,rfl⟩⟩
theorem VC{s:Nat}{kept:List (List Nat)}(h:kept.Pairwise λv w=>cd s v<cd s w):(queue s kept).Pairwise λv w=>cd s v<cd s w:=by
 unfold queue;rw[List.pairwise_cons];constructor
 ·intro u hu;have⟨v,hv,h⟩:=List.mem_flatMap.mp hu;obtain⟨a,ha,rfl⟩:=List.mem_map.mp h;rw[wG];show 0<_
  omega
 ·rw[List.pairwise_flatMap];constructor
  ·intro v hv;rw[List.pairwise_map];refine List.Pairwise.imp ?_ List.pairwise_lt_range;intro a b hab;rw[wG,wG];omega
  ·refine List.Pairwise.imp ?_ h;intro v w hvw x hx y hy;obtain⟨a,ha,rfl⟩:=List.mem_map.mp hx;obtain⟨b,hb,rfl⟩:=List.mem_map.mp hy;exact zjm hvw (List.mem_range.mp ha)
def InK(n s:Nat)(row:List Nat->Nat->Rat)(kept:List (List Nat))(B:Nat)(x:Q1x):Prop:=∀w:Nat->Rat,(∀v∈kept,cd s v<B->dq n w (row v)=0)->dq n w x=0
theorem zbp{n:Nat}(w r:Q1x)(M:Q2x):dq n w (led n r M)=dq n (λx=>sumTo n λb=>M x b*w b) r:=by
 show sumTo n (λb=>w b*sumTo n λa=>r a*M a b)=sumTo n λa=>(sumTo n λb=>M a b*w b)*r a
 rw[zd n (g:=λb=>sumTo n λa=>r a*M a b*w b) λb _=>by rw[zG];exact Rat.mul_comm _ _,xT];exact zd n λa _=>by
  rw[<-zG];exact zd n λb _=>by grind
section
variable{n s:Nat}{st:Q3x}{fi:Q1x}{kept:List (List Nat)}
theorem vT(v:LNt)(a:Nat):zT n st fi (v++[a])=led n (zT n st fi v) (st a):=by
 rw[wB];rfl
theorem VZ{N:Nat}(hs:0<s)(h:∀u∈queue s kept,cd s u<N->InK n s (zT n st fi) kept (cd s u+1) (zT n st fi u)):∀(k:Nat)(w:LNt),w.length=k->(∀g∈w,g<s)->cd s w<N->InK n s (zT n st fi) kept (cd s w+1) (zT n st fi w)
 |0,w,hk,_,hN=>by
  have:w=[]:=List.length_eq_zero_iff.mp hk;subst this;exact h [] (JS.mpr (.inl rfl)) hN
 |k+1,w,hk,hg,hN=>by
  rcases zeW w with e|⟨v,a,e⟩
  ·rw[e] at hk;cases hk
  ·subst e;have ha:a<s:=hg a (by simp);have ih:=VZ hs h k v (by simpa using hk) (λg q=>hg g (by simp[q])) (Nat.lt_trans (zhi s hs v a) hN)
   intro c hc;rw[vT,zbp];refine ih _ λμ hμ hlt=>?_
   rw[<-zbp,<-vT];have hle:cd s (μ++[a])<=cd s (v++[a]):=zjM (by omega) a;exact h _ (JS.mpr (.inr ⟨μ,hμ,a,ha,rfl⟩)) (by omega) c λμ' hμ' hl'=>hc μ' hμ' (by omega)
structure Rc(n s:Nat)(st:Q3x)(fi:Q1x)(kept:List (List Nat))(a:Nat):Prop where
 le:a<=(queue s kept).length
 srt:kept.Pairwise λv w=>cd s v<cd s w
 sub:∀v∈kept,∃i,i<a/\(queue s kept)[i]?=some v
 ok:∀(i:Nat)(u:LNt),i<a->(queue s kept)[i]?=some u->InK n s (zT n st fi) kept (cd s u+1) (zT n st fi u)
theorem zls:Rc n s st fi [] 0:=⟨Nat.zero_le _,.nil,λ_ h=>(by cases h),λ_ _ h=>absurd h (Nat.not_lt_zero _)⟩
theorem Rc.ahead(h:Rc n s st fi kept a){u:LNt}(hu:(queue s kept)[a]?=some u):∀v∈kept,cd s v<cd s u:=λv hv=>by
 have⟨i,hi,e⟩:=h.sub v hv;obtain⟨h1,e1⟩:=List.getElem?_eq_some_iff.mp e;obtain⟨h2,e2⟩:=List.getElem?_eq_some_iff.mp hu
 have:=List.pairwise_iff_getElem.mp (VC h.srt) i a h1 h2 hi;rw[e1,e2] at this;exact this
theorem Rc.skip(h:Rc n s st fi kept a){u:LNt}(hu:(queue s kept)[a]?=some u)(hin:∀w:Nat->Rat,(∀v∈kept,dq n w (zT n st fi v)=0)->dq n w (zT n st fi u)=0):Rc n s st fi kept (a+1):=by
 obtain⟨h2,e2⟩:=List.getElem?_eq_some_iff.mp hu;refine⟨h2,h.srt,λv hv=>?_,λi x hi hx=>?_⟩
 ·have⟨i,hi,e⟩:=h.sub v hv;exact⟨i,by omega,e⟩
 ·by_cases q:i=a
  ·subst q;rw[hu] at hx;cases hx;exact λw hw=>hin w λv hv=>hw v hv (Nat.lt_succ_of_lt (h.ahead hu v hv))
  ·exact h.ok i x (by omega) hx
theorem Rc.keep(h:Rc n s st fi kept a){u:LNt}(hu:(queue s kept)[a]?=some u):Rc n s st fi (kept++[u]) (a+1):=by
 obtain⟨h2,e2⟩:=List.getElem?_eq_some_iff.mp hu;have old:∀i,i<(queue s kept).length->(queue s (kept++[u]))[i]?=(queue s kept)[i]?:=λi hi=>by rw[ZE,List.getElem?_append_left hi]
 have more:∀B x,InK n s (zT n st fi) kept B x->InK n s (zT n st fi) (kept++[u]) B x:=λB x q w hw=>q w λv hv hl=>hw v (List.mem_append.mpr (.inl hv)) hl
 refine⟨?_,?_,λv hv=>?_,λi x hi hx=>?_⟩
 ·rw[ZE,List.length_append];omega
 ·rw[List.pairwise_append];exact⟨h.srt,List.pairwise_singleton _ _,λv hv w hw=>by rw[List.mem_singleton.mp hw];exact h.ahead hu v hv⟩
 ·rcases List.mem_append.mp hv with z|z
  ·have⟨i,hi,e⟩:=h.sub v z;exact⟨i,by omega,by rw[old i (by omega)];exact e⟩
  ·rw[List.mem_singleton.mp z];exact⟨a,Nat.lt_succ_self a,by rw[old a h2];exact hu⟩
 ·rw[old i (by omega)] at hx;by_cases q:i=a
  ·subst q;rw[hu] at hx;cases hx;exact λw hw=>hw u (List.mem_append.mpr (.inr (.head _))) (Nat.lt_succ_self _)
  ·exact more _ _ (h.ok i x (by omega) hx)
theorem Rc.known(h:Rc n s st fi kept a){N:Nat}(hN:∀(i:Nat)(u:LNt),(queue s kept)[i]?=some u->cd s u<N->i<a):∀u∈queue s kept,cd s u<N->InK n s (zT n st fi) kept (cd s u+1) (zT n st fi u):=λu hu hl=>by
 obtain⟨i,hi⟩:=List.getElem?_of_mem hu;exact h.ok i u (hN i u hi hl) hi
theorem Rc.done(h:Rc n s st fi kept a)(hs:0<s)(hd:(queue s kept).length<=a)(w:LNt)(hg:∀g∈w,g<s):∀c:Nat->Rat,(∀v∈kept,dq n c (zT n st fi v)=0)->dq n c (zT n st fi w)=0:=λc hc=>
 VZ (N:=cd s w+1) hs (h.known λi u hi _=>Nat.lt_of_lt_of_le (List.getElem?_eq_some_iff.mp hi).1 hd) _ w rfl hg (Nat.lt_succ_self _) c λv hv _=>hc v hv
theorem Rc.before(h:Rc n s st fi kept a)(hs:0<s){u:LNt}(hu:(queue s kept)[a]?=some u)(w:LNt)(hg:∀g∈w,g<s)(hw:cd s w<cd s u):∀c:Nat->Rat,(∀v∈kept,dq n c (zT n st fi v)=0)->dq n c (zT n st fi w)=0:=λc hc=>by
 refine VZ (N:=cd s u) hs (h.known λi x hi hl=>?_) _ w rfl hg hw c λv hv _=>hc v hv
 obtain⟨h1,e1⟩:=List.getElem?_eq_some_iff.mp hi;obtain⟨h2,e2⟩:=List.getElem?_eq_some_iff.mp hu;rcases Nat.lt_trichotomy i a with q|q|q
 ·exact q
 ·subst q;rw[hi] at hu;cases hu;omega
 ·have:=List.pairwise_iff_getElem.mp (VC h.srt) a i h2 h1 q;rw[e1,e2] at this;omega
theorem Rc.short(h:Rc n s st fi kept a)(hs:0<s):∀(i:Nat)(v:LNt),kept[i]?=some v->v.length<=i:=by
 intro i;induction i using Nat.strongRecOn with
 |_ i ih=>
  intro v hv;obtain⟨j,hj,e⟩:=h.sub v (List.mem_of_getElem? hv);rcases JS.mp (List.mem_of_getElem? e) with q|⟨μ,hμ,b,hb,q⟩
  ·subst q;exact Nat.zero_le _
  ·subst q;obtain⟨k,hk⟩:=List.getElem?_of_mem hμ;obtain⟨h1,e1⟩:=List.getElem?_eq_some_iff.mp hk;obtain⟨h2,e2⟩:=List.getElem?_eq_some_iff.mp hv;have hlt:=zhi s hs μ b;have hki:k<i:=by
    rcases Nat.lt_trichotomy k i with q|q|q
    ·exact q
    ·subst q;rw[hk] at hv
     have:=Option.some.inj hv;rw[<-this] at hlt;omega
    ·have:=List.pairwise_iff_getElem.mp h.srt i k h2 h1 q;rw[e1,e2] at this;omega
   have:=ih k hki μ hk;rw[List.length_append];show μ.length+1<=i
   omega
theorem Rc.signs(h:Rc n s st fi kept a)(hs:0<s):∀(i:Nat)(v:LNt),kept[i]?=some v->∀g∈v,g<s:=by
 intro i;induction i using Nat.strongRecOn with
 |_ i ih=>
  intro v hv;obtain⟨j,hj,e⟩:=h.sub v (List.mem_of_getElem? hv);rcases JS.mp (List.mem_of_getElem? e) with q|⟨μ,hμ,b,hb,q⟩
  ·subst q;exact λg hg=>by cases hg
  ·subst q;obtain⟨k,hk⟩:=List.getElem?_of_mem hμ;obtain⟨h1,e1⟩:=List.getElem?_eq_some_iff.mp hk;obtain⟨h2,e2⟩:=List.getElem?_eq_some_iff.mp hv;have hlt:=zhi s hs μ b;have hki:k<i:=by
    rcases Nat.lt_trichotomy k i with q|q|q
    ·exact q
    ·subst q;rw[hk] at hv
     have:=Option.some.inj hv;rw[<-this] at hlt;omega
    ·have:=List.pairwise_iff_getElem.mp h.srt i k h2 h1 q;rw[e1,e2] at this;omega
   intro g hg;rcases List.mem_append.mp hg with z|z
   ·exact ih k hki μ hk g z
   ·rw[List.mem_singleton.mp z];exact hb
end
structure RS(n s:Nat)(st:Q3x)(fi:Q1x)(W:List (List Nat))(Rw:LZr)(T F:LNt)(C:LZr)(d:Int)(a:Nat):Prop where
 sp:Sp n Rw.reverse T F C d
 rc:Rc n s st fi W a
 len:W.length=Rw.length
 lenT:T.length=Rw.length
 mult:∀(i:Nat)(w:LNt)(r:Z1x),W[i]?=some w->Rw[i]?=some r->∃c:Rat,c≠0/\∀x,x<n->(r x:Rat)=c*zT n st fi w x
section
variable{n s:Nat}{st:Q3x}{fi la:Q1x}{W:List (List Nat)}{Rw:LZr}{T F:LNt}{C:LZr}{d:Int}{a:Nat}
theorem ziz:RS n s st fi [] [] [] (List.range n) ((List.range n).map xc) 1 0:=⟨zh6 n,zls,rfl,rfl,λi w r h=>(by simp at h)⟩
theorem ZU{c:Rat}{r:Z1x}{f w:Q1x}(h:∀x,x<n->(r x:Rat)=c*f x):dq n w (rt r)=c*dq n w f:=by
 show sumTo n (λx=>w x*(r x:Rat))=c*sumTo n λx=>w x*f x
 rw[zd n (g:=λx=>w x*f x*c) λx hx=>by rw[h x hx];grind,zG];exact Rat.mul_comm _ _
theorem zaX(f g:Q1x):dq n f g=dq n g f:=zd n λx _=>Rat.mul_comm _ _
theorem RS.orth(h:RS n s st fi W Rw T F C d a)(w:Q1x):(∀v∈W,dq n w (zT n st fi v)=0)↔∀r∈Rw.reverse,dq n w (rt r)=0:=by
 constructor
 ·intro q r hr;obtain⟨i,hi⟩:=List.getElem?_of_mem (List.mem_reverse.mp hr);obtain⟨hl,_⟩:=List.getElem?_eq_some_iff.mp hi;obtain⟨v,hv⟩:∃v,W[i]?=some v:=⟨_,List.getElem?_eq_getElem (by rw[h.len];exact hl)⟩;have⟨c,hc,e⟩:=h.mult i v r hv hi;rw[ZU e,q v (List.mem_of_getElem? hv)];exact Rat.mul_zero _
 ·intro q v hv;obtain⟨i,hi⟩:=List.getElem?_of_mem hv;obtain⟨hl,_⟩:=List.getElem?_eq_some_iff.mp hi;obtain⟨r,hr⟩:∃r,Rw[i]?=some r:=⟨_,List.getElem?_eq_getElem (by rw[<-h.len];exact hl)⟩;have⟨c,hc,e⟩:=h.mult i v r hi hr
  have:=q r (List.mem_reverse.mpr (List.mem_of_getElem? hr));rw[ZU e] at this;rcases Rat.mul_eq_zero.mp this with z|z
  ·exact absurd z hc
  ·exact z
theorem RS.skip(h:RS n s st fi W Rw T F C d a){u:LNt}{r:Z1x}{c:Rat}(hu:(queue s W)[a]?=some u)(hc:c≠0)(e:∀x,x<n->(r x:Rat)=c*zT n st fi u x)(hz:∀k∈C,dt n k r=0):RS n s st fi W Rw T F C d (a+1):=by
 refine⟨h.sp,h.rc.skip hu λw hw=>?_,h.len,h.lenT,h.mult⟩
 have:=(h.sp.holds (rt r)).mp (λk hk=>by rw[VE,hz k hk];rfl) w ((h.orth w).mp hw);rw[ZU e] at this;rcases Rat.mul_eq_zero.mp this with z|z
 ·exact absurd z hc
 ·exact z
theorem RS.keep(h:RS n s st fi W Rw T F C d a){u:LNt}{r cg:Z1x}{c:Rat}{i g:Nat}(hu:(queue s W)[a]?=some u)(hc:c≠0)(e:∀x,x<n->(r x:Rat)=c*zT n st fi u x)(hi:C[i]?=some cg)(hg:F[i]?=some g)(hp:dt n cg r≠0):RS n s st fi (W++[u]) (Rw++[r]) (T++[g]) (F.eraseIdx i) ((C.eraseIdx i).map λc=>nar (dt n cg r) d (dt n c r) cg c) (dt n cg r) (a+1):=by
 refine⟨?_,h.rc.keep hu,by rw[List.length_append,List.length_append,h.len];rfl,by rw[List.length_append,List.length_append,h.lenT];rfl,λj v ρ hv hρ=>?_⟩
 ·rw[List.reverse_append];exact h.sp.take hi hg hp
 ·by_cases q:j<W.length
  ·rw[List.getElem?_append_left q] at hv;rw[List.getElem?_append_left (by rw[<-h.len];exact q)] at hρ;exact h.mult j v ρ hv hρ
  ·obtain⟨hl,_⟩:=List.getElem?_eq_some_iff.mp hv;have hj:j=W.length:=by
    rw[List.length_append] at hl;simp at hl;omega
   subst hj;rw[List.getElem?_append_right (Nat.le_refl _),Nat.sub_self] at hv;rw[List.getElem?_append_right (by rw[h.len];exact Nat.le_refl _),h.len,Nat.sub_self] at hρ;cases hv;cases hρ;exact⟨c,hc,e⟩
theorem Sp.few{R:LZr}(h:Sp n R T F C d):T.length+F.length=n:=by
 have p:(T++F).Perm (List.range n):=by
  rw[List.perm_ext_iff_of_nodup h.nd List.nodup_range];intro x;rw[h.mem,List.mem_range]
 have:=p.length_eq;rw[List.length_append,List.length_range] at this;exact this
theorem zkp(w:LNt):wt n st fi la w=dq n la (zT n st fi w):=zd n λx _=>Rat.mul_comm _ _
theorem RS.none(h:RS n s st fi W Rw T F C d a)(hs:0<s)(hd:(queue s W).length<=a\/F=[])(w:LNt)(hg:∀g∈w,g<s)(c:Q1x)(hc:∀v∈W,dq n c (zT n st fi v)=0):dq n c (zT n st fi w)=0:=by
 rcases hd with hd|hd
 ·exact h.rc.done hs hd w hg c hc
 ·have z:=h.sp.ind c (λx hx ht=>?_) ((h.orth c).mp hc)
  ·show sumTo n (λx=>c x*zT n st fi w x)=0
   rw[zd n (g:=λ_=>0) λx hx=>by rw[z x hx];exact Rat.zero_mul _,yJ]
  ·have:=(h.sp.mem x).mpr hx;rw[hd,List.append_nil] at this;exact absurd this ht
theorem RS.first(h:RS n s st fi W Rw T F C d a)(hs:0<s){u:LNt}(hu:(queue s W)[a]?=some u)(hF:F≠[])(h0:∀v∈W,wt n st fi la v=0):(∀w,(∀g∈w,g<s)->cd s w<cd s u->wt n st fi la w=0)/\u.length<n/\∀g∈u,g<s:=by
 refine⟨λw hg hw=>?_,?_,?_⟩
 ·rw[zkp];exact h.rc.before hs hu w hg hw la λv hv=>by rw[<-zkp];exact h0 v hv
 ·have k:=h.rc.keep hu
  have:=k.short hs W.length u (by rw[List.getElem?_append_right (Nat.le_refl _),Nat.sub_self];rfl);have f:=h.sp.few
  have:0<F.length:=List.length_pos_iff.mpr hF;have l1:=h.len;have l2:=h.lenT
  omega
 ·have k:=h.rc.keep hu;exact k.signs hs W.length u (by rw[List.getElem?_append_right (Nat.le_refl _),Nat.sub_self];rfl)
end
theorem zdZ(j:Nat):(sg j).natAbs=1:=by
 unfold sg;split<;>rfl
theorem zbq{n B:Nat}:∀(R:LZr)(S:LNt),(∀r∈R,∀x,x<n->(r x).natAbs<=B)->(∀x∈S,x<n)->S.length<=n->(det R S).natAbs<=(n*B) ^ R.length
 |[],S,_,_,_=>by
  show(1:Int).natAbs<=1
  decide
 |r::R,S,hR,hS,hl=>by
  show(yg S.length λj=>sg j*(r (S.getD j 0)*det R (S.eraseIdx j))).natAbs<=_
  have h:=Jm (f:=λj=>sg j*(r (S.getD j 0)*det R (S.eraseIdx j))) (B:=B*(n*B) ^ R.length) S.length λj hj=>by
   rw[Int.natAbs_mul,Int.natAbs_mul,zdZ,Nat.one_mul];refine Nat.mul_le_mul (hR r (.head _) _ (hS _ ?_)) (zbq R _ (λq hq=>hR q (.tail _ hq)) (λx hx=>hS x (List.mem_of_mem_eraseIdx hx)) ?_)
   ·rw[List.getD_eq_getElem?_getD,List.getElem?_eq_getElem hj];exact List.getElem_mem hj
   ·rw[List.length_eraseIdx_of_lt hj];omega
  refine Nat.le_trans h ?_;rw[List.length_cons,Nat.pow_succ,Nat.mul_comm ((n*B) ^ R.length),Nat.mul_assoc];exact Nat.mul_le_mul_right _ hl
theorem zjj{n B:Nat}(R:LZr)(S:LNt)(hR:∀r∈R,∀x,x<n->(r x).natAbs<=B)(hS:∀x∈S,x<n)(hl:S.length<=n)(x:Nat):(vec R S x).natAbs<=n*(n*B) ^ R.length:=by
 have h:=Jm (f:=λj=>if S.getD j 0=x then sg j*det R (S.eraseIdx j) else 0) (B:=(n*B) ^ R.length) S.length λj hj=>by
  split
  ·rw[Int.natAbs_mul,zdZ,Nat.one_mul];refine zbq R _ hR (λx hx=>hS x (List.mem_of_mem_eraseIdx hx)) ?_;rw[List.length_eraseIdx_of_lt hj];omega
  ·exact Nat.zero_le _
 exact Nat.le_trans h (Nat.mul_le_mul_right _ hl)
theorem zfC{e:Int}(h:e*e=1):e.natAbs=1:=by
 have:=congrArg Int.natAbs h;rw[Int.natAbs_mul] at this;have h1:e.natAbs*e.natAbs=1:=this;exact Nat.eq_one_of_mul_eq_one_left h1
section
variable{n B:Nat}{R:LZr}{T F:LNt}{C:LZr}{d:Int}
theorem Sp.zmX(h:Sp n R T F C d):∀x∈T,x<n:=λx hx=>(h.mem x).mp (List.mem_append.mpr (.inl hx))
theorem Sp.VT(h:Sp n R T F C d)(hT:T.length<=n)(hR:∀r∈R,∀x,x<n->(r x).natAbs<=B):d.natAbs<=(n*B) ^ R.length:=by
 have⟨e,e1,e2,_⟩:=h.ex;rw[e2,Int.natAbs_mul,zfC e1,Nat.one_mul];exact zbq R T hR h.zmX hT
theorem Sp.Wf(h:Sp n R T F C d)(hT:T.length+F.length=n)(hR:∀r∈R,∀x,x<n->(r x).natAbs<=B){i:Nat}{c:Z1x}(hc:C[i]?=some c):∀x,x<n->(c x).natAbs<=n*(n*B) ^ R.length:=λx hx=>by
 have⟨e,e1,e2,e3⟩:=h.ex;obtain⟨hi,_⟩:=List.getElem?_eq_some_iff.mp hc;rw[h.lenC] at hi;obtain⟨f,hf⟩:∃f,F[i]?=some f:=⟨_,List.getElem?_eq_getElem hi⟩;rw[e3 i c f hc hf x hx,Int.natAbs_mul,Int.natAbs_mul,zfC e1,zdZ,Nat.one_mul];refine zjj R _ hR (h.lt hf) ?_ x;rw[List.length_append];show T.length+1<=n
 omega
end
def el(b:Q1x)(k:Nat)(r:Q1x):Nat->Rat:=λy=>r y - r k / b k*b y
def pick(k:Nat):List (Nat->Rat)->Option ((Nat->Rat)×List (Nat->Rat))
 |[]=>none
 |q::Q=>if q k≠0 then some (q,Q) else (pick k Q).map λp=>(p.1,q::p.2)
def rk:Nat->Nat->List (Nat->Rat)->Nat
 |0,_,_=>0
 |m+1,k,Q=>match pick k Q with
  |none=>rk m (k+1) Q
  |some p=>1+rk m (k+1) (p.2.map (el p.1 k))
def InQ(n:Nat)(L:LQr)(x:Q1x):Prop:=∀w:Nat->Rat,(∀l∈L,dq n w l=0)->dq n w x=0
theorem uf{k:Nat}:∀{Q:LQr},pick k Q=none->∀q∈Q,q k=0
 |[],_,q,h=>by cases h
 |p::Q,e,q,h=>by
  unfold pick at e;split at e
  ·cases e
  ·rename_i hp;have e2:pick k Q=none:=by
    cases z:pick k Q with
    |none=>rfl
    |some y=>rw[z] at e;cases e
   rcases List.mem_cons.mp h with z|z
   ·rw[z];exact Classical.not_not.mp hp
   ·exact uf e2 q z
theorem ui{k:Nat}:∀{Q:LQr} {p:(Nat->Rat)×List (Nat->Rat)},pick k Q=some p->p.1 k≠0/\(p.1::p.2).Perm Q
 |[],p,e=>by cases e
 |q::Q,p,e=>by
  unfold pick at e;split at e
  ·rename_i hq;cases e;exact⟨hq,List.Perm.refl _⟩
  ·obtain⟨p',e1,e2⟩:∃p',pick k Q=some p'/\(p'.1,q::p'.2)=p:=by
    cases z:pick k Q with
    |none=>rw[z] at e;cases e
    |some y=>rw[z] at e;exact⟨y,rfl,by cases e;rfl⟩
   subst e2;have⟨h1,h2⟩:=ui e1;exact⟨h1,(List.Perm.swap q p'.1 p'.2).trans (h2.cons q)⟩
theorem Ua{k:Nat}{x:Q1x}:∀{Q:LQr} {p:(Nat->Rat)×List (Nat->Rat)},pick k Q=some p->pick k (Q++[x])=some (p.1,p.2++[x])
 |[],p,e=>by cases e
 |q::Q,p,e=>by
  unfold pick at e;show(if q k≠0 then some (q,Q++[x]) else (pick k (Q++[x])).map λp=>(p.1,q::p.2))=_
  by_cases hq:q k≠0
  ·rw[if_pos hq] at e ⊢;cases e;rfl
  ·rw[if_neg hq] at e ⊢;cases z:pick k Q with
   |none=>rw[z] at e;cases e
   |some y=>
    rw[z] at e;cases e;rw[Ua z];rfl
theorem Uh{k:Nat}{x:Q1x}:∀{Q:LQr},pick k Q=none->pick k (Q++[x])=if x k≠0 then some (x,Q) else none
 |[],_=>by
  show(if x k≠0 then some (x,[]) else (none:Option ((Nat->Rat)×List (Nat->Rat))).map _)=_
  by_cases h:x k≠0
  ·rw[if_pos h,if_pos h]
  ·rw[if_neg h,if_neg h];rfl
 |q::Q,e=>by
  have hq:¬q k≠0:=λz=>z (uf e q (.head _))
  unfold pick at e;rw[if_neg hq] at e;have e2:pick k Q=none:=by
   cases z:pick k Q with
   |none=>rfl
   |some y=>rw[z] at e;cases e
  show(if q k≠0 then some (q,Q++[x]) else (pick k (Q++[x])).map λp=>(p.1,q::p.2))=_
  rw[if_neg hq,Uh e2];by_cases h:x k≠0
  ·rw[if_pos h,if_pos h];rfl
  ·rw[if_neg h,if_neg h];rfl
theorem ze9{n:Nat}(w b r:Q1x)(k:Nat):dq n w (el b k r)=dq n w r - r k / b k*dq n w b:=by
 have h:=Y7 (n:=n) 1 (r k / b k) r b w;rw[zaX w r,zaX w b,zaX w (el b k r)];have e:dq n (el b k r) w=dq n (λx=>1*r x - r k / b k*b x) w:=zd n λx _=>by
  show(r x - r k / b k*b x)*w x=(1*r x - r k / b k*b x)*w x
  grind
 rw[e,h];grind
inductive Ech:Nat->List (Nat->Rat)->Prop
 |nil {k:Nat}:Ech k []
 |cons {k p:Nat} {b:Q1x} {P:LQr}:p<k->b p≠0->(∀y,y<p->b y=0)->Ech p P->Ech k (b::P)
theorem Ech.mono{k l:Nat}{P:LQr}(h:Ech k P)(hl:k<=l):Ech l P:=by
 cases h with
 |nil=>exact .nil
 |cons h1 h2 h3 h4=>exact .cons (by omega) h2 h3 h4
theorem Ech.solve{n:Nat}:∀{P:LQr} {k:Nat},Ech k P->k<=n->∀w:Nat->Rat,∃w':Nat->Rat,(∀y,k<=y->w' y=w y)/\∀b∈P,dq n w' b=0
 |[],_,_,_,w=>⟨w,λ_ _=>rfl,λb h=>by cases h⟩
 |b::P,k,h,hk,w=>by
  cases h with
  | @cons _ p _ _ h1 h2 h3 h4=>
   obtain⟨c,hc⟩:∃c:Rat,dq n (λy=>if y=p then c else w y) b=0:=by
    refine⟨w p - dq n w b / b p,?_⟩;have e:dq n (λy=>if y=p then w p - dq n w b / b p else w y) b=dq n w b+-(dq n w b / b p)*b p:=by
     generalize dq n w b / b p=t;show sumTo n (λy=>(if y=p then w p - t else w y)*b y)=sumTo n (λy=>w y*b y)+-t*b p
     have:∀m,p<m->sumTo m (λy=>(if y=p then w p - t else w y)*b y)=sumTo m (λy=>w y*b y)+-t*b p:=by
      intro m;induction m with
      |zero=>intro h;exact absurd h (Nat.not_lt_zero _)
      |succ m ih=>
       intro hm;show sumTo m (λy=>(if y=p then w p - t else w y)*b y)+(if m=p then w p - t else w m)*b m=(sumTo m (λy=>w y*b y)+w m*b m)+-t*b p
       by_cases q:m=p
       ·subst q;rw[if_pos rfl,zd m (g:=λy=>w y*b y) λy hy=>by rw[if_neg (by omega)]];grind
       ·rw[if_neg q,ih (by omega)];grind
     exact this n (by omega)
    rw[e]
    have:dq n w b / b p*b p=dq n w b:=Rat.div_mul_cancel h2;grind
   obtain⟨w',hw,hP⟩:=Ech.solve (n:=n) h4 (show p<=n by omega) λy=>if y=p then c else w y
   refine⟨w',λy hy=>?_,λq hq=>?_⟩
   ·rw[hw y (by omega),if_neg (show ¬y=p by omega)]
   ·rcases List.mem_cons.mp hq with z|z
    ·subst z;rw[<-hc];refine zd n λy _=>?_
     by_cases hy:y<p
     ·rw[h3 y hy,Rat.mul_zero,Rat.mul_zero]
     ·rw[hw y (by omega)]
    ·exact hP q z
structure El(n k:Nat)(L P Q:LQr):Prop where
 ech:Ech k P
 zero:∀q∈Q,∀y,y<k->q y=0
 span:∀w:Nat->Rat,(∀l∈L,dq n w l=0)↔(∀b∈P,dq n w b=0)/\∀q∈Q,dq n w q=0
theorem zlL{n:Nat}(L:LQr):El n 0 L [] L:=⟨.nil,λ_ _ y h=>absurd h (Nat.not_lt_zero y),λw=>⟨λh=>⟨λb hb=>(by cases hb),h⟩,λh=>h.2⟩⟩
theorem El.skip{n k:Nat}{L P Q:LQr}(h:El n k L P Q)(e:pick k Q=none):El n (k+1) L P Q:=⟨h.ech.mono (Nat.le_succ k),λq hq y hy=>by
 by_cases z:y=k
 ·rw[z];exact uf e q hq
 ·exact h.zero q hq y (by omega),h.span⟩
theorem zlJ{b r:Q1x}{k:Nat}(hb:b k≠0):el b k r k=0:=by
 show r k - r k / b k*b k=0
 rw[Rat.div_mul_cancel hb];grind
theorem zh9{b r:Q1x}{k y:Nat}(h1:r y=0)(h2:b y=0):el b k r y=0:=by
 show r y - r k / b k*b y=0
 rw[h1,h2];grind
theorem El.step{n k:Nat}{L P Q:LQr}(h:El n k L P Q){p:(Nat->Rat)×List (Nat->Rat)}(e:pick k Q=some p):El n (k+1) L (p.1::P) (p.2.map (el p.1 k)):=by
 have⟨h1,h2⟩:=ui e;have mb:p.1∈Q:=h2.mem_iff.mp (.head _);have mq:∀q∈p.2,q∈Q:=λq hq=>h2.mem_iff.mp (.tail _ hq)
 refine⟨.cons (Nat.lt_succ_self k) h1 (h.zero p.1 mb) h.ech,λq hq y hy=>?_,λw=>?_⟩
 ·obtain⟨r,hr,rfl⟩:=List.mem_map.mp hq;by_cases z:y=k
  ·rw[z];exact zlJ h1
  ·exact zh9 (h.zero r (mq r hr) y (by omega)) (h.zero p.1 mb y (by omega))
 ·rw[h.span w];constructor
  ·rintro⟨a1,a2⟩;refine⟨λb hb=>?_,λq hq=>?_⟩
   ·rcases List.mem_cons.mp hb with z|z
    ·rw[z];exact a2 _ mb
    ·exact a1 b z
   ·obtain⟨r,hr,rfl⟩:=List.mem_map.mp hq;rw[ze9,a2 r (mq r hr),a2 _ mb];grind
  ·rintro⟨a1,a2⟩;refine⟨λb hb=>a1 b (.tail _ hb),λq hq=>?_⟩;rcases List.mem_cons.mp (h2.mem_iff.mpr hq) with z|z
   ·rw[z];exact a1 _ (.head _)
   ·have:=a2 _ (List.mem_map.mpr ⟨q,z,rfl⟩);rw[ze9,a1 _ (.head _)] at this;grind
open Classical in
theorem zbC{n:Nat}{L:LQr}:∀(m k:Nat)(P Q:LQr)(x:Q1x),k+m=n->El n k L P Q->(∀y,y<k->x y=0)->rk m k (Q++[x])=rk m k Q+if InQ n L x then 0 else 1
 |0,k,P,Q,x,hm,h,hx=>by
  have:InQ n L x:=λw _=>by
   show sumTo n (λy=>w y*x y)=0
   rw[zd n (g:=λ_=>0) λy hy=>by rw[hx y (by omega)];exact Rat.mul_zero _,yJ]
  rw[if_pos this];rfl
 |m+1,k,P,Q,x,hm,h,hx=>by
  cases e:pick k Q with
  |some p=>
   have e':=Ua (x:=x) e;have⟨h1,h2⟩:=ui e
   have mb:p.1∈Q:=h2.mem_iff.mp (.head _);have l:rk (m+1) k (Q++[x])=1+rk m (k+1) ((p.2++[x]).map (el p.1 k)):=by
    show(match pick k (Q++[x]) with |none=>rk m (k+1) (Q++[x])|some p=>1+rk m (k+1) (p.2.map (el p.1 k)))=_
    rw[e']
   have r:rk (m+1) k Q=1+rk m (k+1) (p.2.map (el p.1 k)):=by
    show(match pick k Q with |none=>rk m (k+1) Q|some p=>1+rk m (k+1) (p.2.map (el p.1 k)))=_
    rw[e]
   have iff:InQ n L (el p.1 k x)↔InQ n L x:=by
    have q:∀w,(∀l∈L,dq n w l=0)->dq n w (el p.1 k x)=dq n w x:=λw hw=>by
     rw[ze9,((h.span w).mp hw).2 _ mb];grind
    exact⟨λz w hw=>by rw[<-q w hw];exact z w hw,λz w hw=>by rw[q w hw];exact z w hw⟩
   rw[l,r,List.map_append,List.map_cons,List.map_nil,zbC m (k+1) (p.1::P) (p.2.map (el p.1 k)) (el p.1 k x) (by omega) (h.step e) λy hy=>?_]
   ·by_cases z:InQ n L x
    ·rw[if_pos z,if_pos (iff.mpr z)];omega
    ·rw[if_neg z,if_neg λq=>z (iff.mp q)];omega
   ·by_cases z:y=k
    ·rw[z];exact zlJ h1
    ·exact zh9 (hx y (by omega)) (h.zero p.1 mb y (by omega))
  |none=>
   have e':=Uh (x:=x) e;have r:rk (m+1) k Q=rk m (k+1) Q:=by
    show(match pick k Q with |none=>rk m (k+1) Q|some p=>1+rk m (k+1) (p.2.map (el p.1 k)))=_
    rw[e]
   by_cases z:x k=0
   ·rw[if_neg λq=>q z] at e';have l:rk (m+1) k (Q++[x])=rk m (k+1) (Q++[x]):=by
     show(match pick k (Q++[x]) with |none=>rk m (k+1) (Q++[x])|some p=>1+rk m (k+1) (p.2.map (el p.1 k)))=_
     rw[e']
    rw[l,r];exact zbC m (k+1) P Q x (by omega) (h.skip e) λy hy=>by
     by_cases q:y=k
     ·rw[q];exact z
     ·exact hx y (by omega)
   ·rw[if_pos z] at e';have l:rk (m+1) k (Q++[x])=1+rk m (k+1) (Q.map (el x k)):=by
     show(match pick k (Q++[x]) with |none=>rk m (k+1) (Q++[x])|some p=>1+rk m (k+1) (p.2.map (el p.1 k)))=_
     rw[e']
    have same:Q.map (el x k)=Q:=by
     conv=>rhs;rw[<-List.map_id Q]
     refine List.map_congr_left λq hq=>?_
     funext y
     show q y - q k / x k*x y=q y
     rw[uf e q hq];grind
    have no:¬InQ n L x:=λhin=>by
     obtain⟨w',hw,hP⟩:=Ech.solve (n:=n) h.ech (show k<=n by omega) λy=>if y=k then 1 else 0
     have hq:∀q:Nat->Rat,(∀y,y<k->q y=0)->dq n w' q=q k:=λq h0=>by
      show sumTo n (λy=>w' y*q y)=q k
      rw[yR _ (j:=k) n (by omega) λy hy hne=>?_]
      ·rw[hw k (Nat.le_refl k),if_pos rfl];grind
      ·by_cases hlt:y<k
       ·rw[h0 y hlt,Rat.mul_zero]
       ·rw[hw y (by omega),if_neg hne,Rat.zero_mul]
     have:=hin w' ((h.span w').mpr ⟨hP,λq hm=>by rw[hq q (h.zero q hm)];exact uf e q hm⟩);rw[hq x hx] at this;exact z this
    rw[l,r,same,if_neg no];omega
open Classical in
theorem zgl{n:Nat}(L:LQr)(x:Q1x):rk n 0 (L++[x])=rk n 0 L+if InQ n L x then 0 else 1:=zbC n 0 [] L x (by omega) (zlL L) λy h=>absurd h (Nat.not_lt_zero y)
theorem zgp{n:Nat}(L:LQr)(x:Q1x):rk n 0 (L++[x])=rk n 0 L↔InQ n L x:=by
 classical
 rw[zgl];by_cases z:InQ n L x
 ·rw[if_pos z];exact⟨λ_=>z,λ_=>rfl⟩
 ·rw[if_neg z];exact⟨λq=>absurd q (by omega),λq=>absurd q z⟩
structure Eb(n B X:Nat)(Q:LQr)(R:LZr)(T F:LNt)(C:LZr)(d:Int):Prop where
 sp:Sp n R T F C d
 rb:∀r∈R,∀x,x<n->(r x).natAbs<=B
 lenT:R.length=T.length
 qs:∀q∈Q,∃(l:Z1x)(M:Nat),0<M/\M<=X/\(∀x,x<n->(l x).natAbs<=B)/\(∀t∈T,q t=0)/\∀w:Nat->Rat,(∀r∈R,dq n w (rt r)=0)->dq n w (rt l)=(M:Rat)*dq n w q
theorem zk2{n B X:Nat}{L:LQr}(h:∀q∈L,∃(l:Z1x)(M:Nat),0<M/\M<=X/\∀x,x<n->(l x).natAbs<=B/\(l x:Rat)=(M:Rat)*q x):Eb n B X L [] [] (List.range n) ((List.range n).map xc) 1 where
 sp:=zh6 n
 rb:=λr hr=>by cases hr
 lenT:=rfl
 qs:=λq hq=>by
  have⟨l,M,h1,h2,h3⟩:=h q hq;refine⟨l,M,h1,h2,λx hx=>(h3 x hx).1,λt ht=>(by cases ht),λw _=>?_⟩;show sumTo n (λx=>w x*(l x:Rat))=(M:Rat)*sumTo n λx=>w x*q x
  rw[zd n (g:=λx=>w x*q x*(M:Rat)) λx hx=>by rw[(h3 x hx).2];grind,zG];exact Rat.mul_comm _ _
section
variable{n B X:Nat}{Q:LQr}{R:LZr}{T F:LNt}{C:LZr}{d:Int}
theorem Eb.dot(h:Eb n B X Q R T F C d){q:Q1x}(hT:∀t∈T,q t=0){i f:Nat}{c:Z1x}(hc:C[i]?=some c)(hf:F[i]?=some f):dq n (rt c) q=(d:Rat)*q f:=by
 have⟨f1,f2⟩:=h.sp.free hf;show sumTo n (λx=>(c x:Rat)*q x)=_
 rw[yR _ n f1 λx hx hne=>?_,h.sp.at hc hf];by_cases ht:x∈T
 ·rw[hT x ht,Rat.mul_zero]
 ·rw[h.sp.out hc hf hx ht hne];exact Rat.zero_mul _
theorem Eb.zkK(h:Eb n B X Q R T F C d){i f:Nat}{c:Z1x}(hc:C[i]?=some c)(hf:F[i]?=some f):∀r∈R,dq n (rt c) (rt r)=0:=λr hr=>by
 rw[VE,h.sp.orth hc hf hr];rfl
theorem zl0{n K B:Nat}{c l:Z1x}(hc:∀x,x<n->(c x).natAbs<=K)(hl:∀x,x<n->(l x).natAbs<=B):(dt n c l).natAbs<=n*(K*B):=by
 have:∀m,m<=n->(dt m c l).natAbs<=m*(K*B):=by
  intro m;induction m with
  |zero=>intro _;exact Nat.zero_le _
  |succ m ih=>
   intro hm;show(dt m c l+c m*l m).natAbs<=_
   have h1:=ih (by omega);have h2:(c m*l m).natAbs<=K*B:=by
    rw[Int.natAbs_mul];exact Nat.mul_le_mul (hc m (by omega)) (hl m (by omega))
   rw[Nat.succ_mul];omega
 exact this n (Nat.le_refl n)
theorem Eb.num(h:Eb n B X Q R T F C d){q:Q1x}(hq:q∈Q):∃M:Nat,0<M/\M<=X/\∀x,x<n->∃S:Int,q x*((M:Rat)*(d:Rat))=(S:Rat)/\S.natAbs<=n*((n*(n*B) ^ R.length)*B):=by
 have⟨l,M,h1,h2,h3,h4,h5⟩:=h.qs q hq;refine⟨M,h1,h2,λx hx=>?_⟩;rcases List.mem_append.mp ((h.sp.mem x).mpr hx) with z|z
 ·exact⟨0,by rw[h4 x z];exact Rat.zero_mul _,Nat.zero_le _⟩
 ·obtain⟨i,hi⟩:=List.getElem?_of_mem z;have hi':i<C.length:=by rw[h.sp.lenC];exact(List.getElem?_eq_some_iff.mp hi).1
  have hc:C[i]?=some C[i]:=List.getElem?_eq_getElem hi';refine⟨dt n C[i] l,?_,zl0 (h.sp.Wf h.sp.few h.rb hc) h3⟩;have e1:=h5 (rt C[i]) (h.zkK hc hi)
  rw[h.dot h4 hc hi,VE] at e1;rw[e1];grind
theorem Eb.znf(h:Eb n B X Q R T F C d):R.length<=n:=by
 have:=h.sp.few
 have:=h.lenT;omega
theorem Eb.dabs(h:Eb n B X Q R T F C d):d.natAbs<=(n*B) ^ R.length:=h.sp.VT (by have:=h.sp.few;omega) h.rb
theorem Eb.step(h:Eb n B X Q R T F C d){k:Nat}(hk:k<n){p:(Nat->Rat)×List (Nat->Rat)}(e:pick k Q=some p):∃R' T' F' C' d',Eb n B X (p.2.map (el p.1 k)) R' T' F' C' d'/\R'.length=R.length+1:=by
 have⟨h1,h2⟩:=ui e;have mb:p.1∈Q:=h2.mem_iff.mp (.head _);have mq:∀q∈p.2,q∈Q:=λq hq=>h2.mem_iff.mp (.tail _ hq)
 have⟨l,M,M0,MX,lB,lT,lw⟩:=h.qs p.1 mb;have kF:k∈F:=(List.mem_append.mp ((h.sp.mem k).mpr hk)).resolve_left λz=>h1 (lT k z)
 obtain⟨i,hi⟩:=List.getElem?_of_mem kF;have hi':i<C.length:=by rw[h.sp.lenC];exact(List.getElem?_eq_some_iff.mp hi).1
 have hc:C[i]?=some C[i]:=List.getElem?_eq_getElem hi';have hM:(M:Rat)≠0:=xG M0
 have hd:(d:Rat)≠0:=λz=>h.sp.d0 (by exact_mod_cast z)
 have e1:=lw (rt C[i]) (h.zkK hc hi);rw[h.dot lT hc hi,VE] at e1;have hp:dt n C[i] l≠0:=λz=>by
  rw[z] at e1;rcases Rat.mul_eq_zero.mp (show(M:Rat)*((d:Rat)*p.1 k)=0 from e1.symm) with z|z
  ·exact hM z
  ·rcases Rat.mul_eq_zero.mp z with z|z
   ·exact hd z
   ·exact h1 z
 refine⟨_,_,_,_,_,⟨h.sp.take hc hi hp,λr hr x hx=>?_,by rw[List.length_cons,List.length_append,h.lenT];rfl,λq hq=>?_⟩,rfl⟩
 ·rcases List.mem_cons.mp hr with z|z
  ·rw[z];exact lB x hx
  ·exact h.rb r z x hx
 ·obtain⟨r,hr,rfl⟩:=List.mem_map.mp hq;obtain⟨l',M',a1,a2,a3,a4,a5⟩:=h.qs r (mq r hr);refine⟨l',M',a1,a2,a3,λt ht=>?_,λw hw=>?_⟩
  ·rcases List.mem_append.mp ht with z|z
   ·exact zh9 (a4 t z) (lT t z)
   ·rw[List.mem_singleton.mp z];exact zlJ h1
  ·have w1:=a5 w λr' hr'=>hw r' (.tail _ hr')
   have w2:=lw w λr' hr'=>hw r' (.tail _ hr')
   rw[hw l (.head _)] at w2;have w3:dq n w p.1=0:=(Rat.mul_eq_zero.mp w2.symm).resolve_left hM;rw[w1,ze9,w3];grind
end
def lsum(f:Q1x):List Nat->Rat
 |[]=>0
 |j::r=>f j+lsum f r
theorem zcr(f:Q1x):∀(A B:LNt),lsum f (A++B)=lsum f A+lsum f B
 |[],B=>by show lsum f B=0+lsum f B;grind
 |a::A,B=>by
  show f a+lsum f (A++B)=(f a+lsum f A)+lsum f B
  rw[zcr f A B];grind
theorem Zf{f g:Q1x}:∀{J:LNt},(∀j∈J,f j=g j)->lsum f J=lsum g J
 |[],_=>rfl
 |a::J,h=>by
  show f a+lsum f J=g a+lsum g J
  rw[h a (List.mem_cons_self ..),Zf λj hj=>h j (List.mem_cons_of_mem _ hj)]
def Jl(n:Nat)(st:Q3x)(la:Q1x):List Nat->Nat->Rat
 |[]=>la
 |g::v=>λa=>sumTo n λb=>st g a b*Jl n st la v b
theorem zbH(n:Nat)(st:Q3x)(la:Q1x):∀(v:LNt)(r:Q1x),sumTo n (λa=>zT n st r v a*la a)=sumTo n λa=>r a*Jl n st la v a
 |[],_=>rfl
 |g::v,r=>by
  show sumTo n (λa=>zT n st (led n r (st g)) v a*la a)=_
  rw[zbH n st la v];show sumTo n (λb=>sumTo n (λa=>r a*st g a b)*Jl n st la v b)=sumTo n λa=>r a*sumTo n λb=>st g a b*Jl n st la v b
  rw[zd n (g:=λb=>sumTo n λa=>r a*st g a b*Jl n st la v b) λb _=>(zG _ _ n).symm,xT];refine zd n λa _=>?_
  rw[Rat.mul_comm (r a),<-zG];exact zd n λb _=>by grind
theorem zib(n:Nat)(st:Q3x)(fi la:Q1x)(u v:LNt):wt n st fi la (u++v)=sumTo n λa=>zT n st fi u a*Jl n st la v a:=by
 show sumTo n (λa=>zT n st fi (u++v) a*la a)=_
 rw[wB,zbH]
structure Sh(n r:Nat)(P:Nat->Nat)(σ:Q2x)(V:(Nat->Rat)->Prop):Prop where
 lt:∀i,i<r->P i<n
 one:∀i j,i<r->j<r->σ i (P j)=if j=i then 1 else 0
 mem:∀i,i<r->V (σ i)
 all:∀x,V x->∀y,y<n->x y=sumTo r λi=>x (P i)*σ i y
def Vh(P:Nat->Nat)(fi:Q1x):Nat->Rat:=λi=>fi (P i)
def vz(n:Nat)(P:Nat->Nat)(σ:Q2x)(st:Q3x):Nat->Nat->Nat->Rat:=λg i j=>sumTo n λa=>σ i a*st g a (P j)
def uq(n:Nat)(σ:Q2x)(la:Q1x):Nat->Rat:=λi=>sumTo n λa=>σ i a*la a
section
variable{n r s:Nat}{P:Nat->Nat}{σ:Q2x}{V:(Nat->Rat)->Prop}{st:Q3x}{fi la:Q1x}
theorem Sh.dot(h:Sh n r P σ V){x:Q1x}(hx:V x)(u:Q1x):sumTo n (λa=>x a*u a)=sumTo r λi=>x (P i)*sumTo n λa=>σ i a*u a:=by
 rw[zd n (g:=λa=>sumTo r λi=>σ i a*u a*x (P i)) λa ha=>by
  rw[h.all x hx a ha,<-zG];exact zd r λi _=>by grind,xT]
 exact zd r λi _=>by rw[zG];exact Rat.mul_comm _ _
theorem Sh.row(h:Sh n r P σ V)(h0:V fi)(hs:∀g x,g<s->V x->V (led n x (st g))):∀w:List Nat,(∀g∈w,g<s)->∀x u:Nat->Rat,V x->(∀i,i<r->u i=x (P i))->V (zT n st x w)/\∀i,i<r->zT r (vz n P σ st) u w i=zT n st x w (P i)
 |[],_,x,u,hx,e=>⟨hx,e⟩
 |g::w,hw,x,u,hx,e=>by
  refine Sh.row h h0 hs w (λg' hg=>hw g' (List.mem_cons_of_mem _ hg)) (led n x (st g)) (led r u (vz n P σ st g)) (hs g x (hw g (List.mem_cons_self ..)) hx) λj hj=>?_
  show sumTo r (λi=>u i*sumTo n λa=>σ i a*st g a (P j))=sumTo n λa=>x a*st g a (P j)
  rw[h.dot hx];exact zd r λi hi=>by rw[e i hi]
theorem Sh.wt(h:Sh n r P σ V)(h0:V fi)(hs:∀g x,g<s->V x->V (led n x (st g)))(w:LNt)(hw:∀g∈w,g<s):wt r (vz n P σ st) (Vh P fi) (uq n σ la) w=wt n st fi la w:=by
 obtain⟨hV,e⟩:=h.row h0 hs w hw fi (Vh P fi) h0 λi _=>rfl
 show sumTo r (λi=>zT r (vz n P σ st) (Vh P fi) w i*sumTo n λa=>σ i a*la a)=sumTo n λa=>zT n st fi w a*la a
 rw[h.dot hV];exact zd r λi hi=>by rw[e i hi]
theorem Sh.col(h:Sh n r P σ V)(hs:∀g x,g<s->V x->V (led n x (st g))):∀v:List Nat,(∀g∈v,g<s)->∀i,i<r->Jl r (vz n P σ st) (uq n σ la) v i=sumTo n λa=>σ i a*Jl n st la v a
 |[],_,i,_=>rfl
 |g::v,hv,i,hi=>by
  have hg:=hv g (List.mem_cons_self ..);show sumTo r (λj=>sumTo n (λa=>σ i a*st g a (P j))*Jl r (vz n P σ st) (uq n σ la) v j)=sumTo n λa=>σ i a*sumTo n λb=>st g a b*Jl n st la v b
  rw[zd r (g:=λj=>led n (σ i) (st g) (P j)*sumTo n λa=>σ j a*Jl n st la v a) λj hj=>by
   rw[Sh.col h hs v (λg' hg=>hv g' (List.mem_cons_of_mem _ hg)) j hj];rfl,<-h.dot (hs g _ hg (h.mem i hi))]
  have:=zbH n st (Jl n st la v) [g] (σ i);exact this
theorem Sh.full(h:Sh n r P σ V)(hs:∀g x,g<s->V x->V (led n x (st g)))(hn:∀z:Nat->Rat,(∀v:List Nat,(∀g∈v,g<s)->sumTo n (λa=>z a*Jl n st la v a)=0)->∀a,a<n->z a=0):∀y:Nat->Rat,(∀v:List Nat,(∀g∈v,g<s)->sumTo r (λi=>y i*Jl r (vz n P σ st) (uq n σ la) v i)=0)->∀i,i<r->y i=0:=by
 intro y hy i hi;have key:=hn (λa=>sumTo r λi=>y i*σ i a) (λv hv=>by
  rw[<-hy v hv,zd n (g:=λa=>sumTo r λi=>y i*σ i a*Jl n st la v a) λa _=>(zG _ _ r).symm,xT];refine zd r λi hi=>?_
  rw[h.col hs v hv i hi,Rat.mul_comm (y i),<-zG];exact zd n λa _=>by grind) (P i) (h.lt i hi)
 rw[yR _ r hi λj hj hne=>by rw[h.one j i hj hi,if_neg (λq=>hne q.symm)];grind,h.one i i hi hi,if_pos rfl] at key;grind
end
theorem zhL(f:Q1x){a n:Nat}(h:a<n):sumTo n f=sumTo n (λx=>if x=a then 0 else f x)+f a:=by
 have e:∀x,f x=(if x=a then 0 else f x)+(if x=a then f x else 0):=λx=>by split<;>grind
 have:=vb (λx=>if x=a then 0 else f x) (λx=>if x=a then f x else 0) n;rw[<-zd n λx _=>e x,yR (λx=>if x=a then f x else 0) n h λi _ hne=>if_neg hne] at this;rw[this,if_pos rfl]
theorem zdm{n:Nat}:∀(l:LNt)(g:Q1x),l.Nodup->(∀x∈l,x<n)->(∀x,x<n->x∉l->g x=0)->sumTo n g=lsum g l
 |[],g,_,_,h=>by rw[zd n (g:=λ_=>0) λx hx=>h x hx (by simp)];exact yJ n
 |a::l,g,hd,hl,h=>by
  have⟨h1,h2⟩:=List.nodup_cons.mp hd;rw[zhL g (hl a (List.mem_cons_self ..)),zdm l (λx=>if x=a then 0 else g x) h2 (λx hx=>hl x (List.mem_cons_of_mem _ hx)) λx hx hn=>by
   by_cases e:x=a
   ·exact if_pos e
   ·rw[if_neg e];exact h x hx λq=>(List.mem_cons.mp q).elim e hn]
  have e2:lsum (λx=>if x=a then 0 else g x) l=lsum g l:=Zf λj hj=>if_neg λ(e:j=a)=>h1 (e▸hj)
  rw[e2];show lsum g l+g a=g a+lsum g l
  grind
theorem zb0(f:Q1x)(l:LNt):lsum f l=sumTo l.length λi=>f (l.getD i 0):=by
 have:∀l':List Nat,lsum f l'.reverse=sumTo l'.reverse.length λi=>f (l'.reverse.getD i 0):=by
  intro l';induction l' with
  |nil=>rfl
  |cons a t ih=>
   rw[List.reverse_cons,zcr,ih,List.length_append];show sumTo t.reverse.length _+(f a+0)=sumTo t.reverse.length _+f ((t.reverse++[a]).getD t.reverse.length 0)
   have e1:(t.reverse++[a]).getD t.reverse.length 0=a:=by simp[List.getD]
   rw[e1,zd t.reverse.length (g:=λi=>f ((t.reverse++[a]).getD i 0)) λi hi=>by
    have:(t.reverse++[a]).getD i 0=t.reverse.getD i 0:=by
     rw[List.getD_eq_getElem?_getD,List.getD_eq_getElem?_getD,List.getElem?_append_left hi]
    rw[this]]
   grind
 have h:=this l.reverse;rwa [List.reverse_reverse] at h
def sgm(F:LNt)(C:LZr)(d:Int)(p:Nat):Nat->Rat:=λx=>if x=p then 1 else match (F.zip C).find? (λq=>q.1==x) with
 |some q=>-(q.2 p:Rat) / (d:Rat)
 |none=>0
section
variable{n:Nat}{R:LZr}{T F:LNt}{C:LZr}{d:Int}
theorem ziK{F:LNt}{C:LZr}(hF:F.Nodup){i f:Nat}{c:Z1x}(hf:F[i]?=some f)(hc:C[i]?=some c):(F.zip C).find? (λq=>q.1==f)=some (f,c):=by
 induction F generalizing C i with
 |nil=>simp at hf
 |cons a F ih=>
  cases C with
  |nil=>simp at hc
  |cons b C=>
   have⟨h1,h2⟩:=List.nodup_cons.mp hF;cases i with
   |zero=>
    simp only [List.getElem?_cons_zero,Option.some.injEq] at hf hc;subst hf;subst hc;simp[List.zip_cons_cons]
   |succ i=>
    simp only [List.getElem?_cons_succ] at hf hc;have hne:(a==f)=false:=by
     rw[beq_eq_false_iff_ne];intro e;exact h1 (e▸List.mem_of_getElem? hf)
    rw[List.zip_cons_cons,List.find?_cons,hne];exact ih h2 hf hc
theorem zck{F:LNt}{C:LZr}{x:Nat}(h:x∉F):(F.zip C).find? (λq=>q.1==x)=none:=by
 rw[List.find?_eq_none];intro q hq e;exact h (by
  have:=(List.of_mem_zip hq).1;rwa [beq_iff_eq.mp e] at this)
theorem zbz{p x:Nat}(hx:x∉F):sgm F C d p x=if x=p then 1 else 0:=by
 unfold sgm;rw[zck hx]
theorem zcj(h:Sp n R T F C d){p i f:Nat}{c:Z1x}(hp:p∈T)(hf:F[i]?=some f)(hc:C[i]?=some c):sgm F C d p f=-(c p:Rat) / (d:Rat):=by
 unfold sgm;rw[ziK h.ndF hf hc,if_neg];intro e;exact(h.free hf).2 (e▸hp)
theorem Sp.sum(h:Sp n R T F C d){i f:Nat}{c:Z1x}(hc:C[i]?=some c)(hf:F[i]?=some f){Ts:LNt}(hT:Ts.Perm T)(x:Q1x):dq n (rt c) x=(d:Rat)*x f+lsum (λz=>(c z:Rat)*x z) Ts:=by
 have⟨f1,f2⟩:=h.free hf;have f3:f∉Ts:=λq=>f2 (hT.mem_iff.mp q)
 have ndT:Ts.Nodup:=hT.nodup_iff.mpr (List.nodup_append.mp h.nd).1;rw[show dq n (rt c) x=sumTo n λz=>(c z:Rat)*x z from rfl,zdm (f::Ts) _ (List.nodup_cons.mpr ⟨f3,ndT⟩) (λz hz=>by
  rcases List.mem_cons.mp hz with q|q
  ·rw[q];exact f1
  ·exact(h.mem z).mp (List.mem_append.mpr (.inl (hT.mem_iff.mp q)))) λz hz hn=>by
   have:=h.out hc hf hz (λq=>hn (List.mem_cons_of_mem _ (hT.mem_iff.mpr q))) λq=>hn (q▸List.mem_cons_self ..)
   rw[this];grind]
 show(c f:Rat)*x f+_=_
 rw[h.at hc hf]
theorem Sp.sh(h:Sp n R T F C d){Ts:LNt}(hT:Ts.Perm T):Sh n T.length (λi=>Ts.getD i 0) (λi=>sgm F C d (Ts.getD i 0)) (In n R):=by
 have dz:(d:Rat)≠0:=λz=>h.d0 (by exact_mod_cast z)
 have hl:Ts.length=T.length:=hT.length_eq;have ndT:Ts.Nodup:=hT.nodup_iff.mpr (List.nodup_append.mp h.nd).1
 have mT:∀i,i<T.length->Ts.getD i 0∈T:=λi hi=>by
  rw[List.getD_eq_getElem?_getD,List.getElem?_eq_getElem (by omega)];exact hT.mem_iff.mp (List.getElem_mem _)
 have nF:∀x,x∈T->x∉F:=λx hx hf=>(List.nodup_append.mp h.nd).2.2 x hx x hf rfl
 have inj:∀i j,i<T.length->j<T.length->Ts.getD j 0=Ts.getD i 0->j=i:=λi j hi hj e=>by
  have a1:Ts[j]?=some (Ts.getD j 0):=by rw[List.getD_eq_getElem?_getD,List.getElem?_eq_getElem (show j<Ts.length by omega)];rfl
  have a2:Ts[i]?=some (Ts.getD i 0):=by rw[List.getD_eq_getElem?_getD,List.getElem?_eq_getElem (show i<Ts.length by omega)];rfl
  exact Classical.byContradiction λq=>zcU ndT a1 a2 q e
 have one:∀i j,i<T.length->j<T.length->sgm F C d (Ts.getD i 0) (Ts.getD j 0)=if j=i then 1 else 0:=λi j hi hj=>by
  rw[zbz (nF _ (mT j hj))];by_cases q:j=i
  ·rw[if_pos (by rw[q]),if_pos q]
  ·rw[if_neg λe=>q (inj i j hi hj e),if_neg q]
 refine⟨λi hi=>(h.mem _).mp (List.mem_append.mpr (.inl (mT i hi))),one,λi hi=>(h.holds _).mp λc hc=>?_,λx hx y hy=>?_⟩
 ·obtain⟨k,hk⟩:=List.getElem?_of_mem hc;have hk':k<F.length:=by rw[<-h.lenC];exact(List.getElem?_eq_some_iff.mp hk).1
  have hf:F[k]?=some F[k]:=List.getElem?_eq_getElem hk';rw[h.sum hk hf hT,zcj h (mT i hi) hf hk,zb0,hl,yR _ _ hi λj hj hne=>by rw[one i j hi hj,if_neg hne];grind,one i i hi hi,if_pos rfl,Rat.div_def]
  have:=Rat.mul_inv_cancel _ dz;grind
 ·rcases List.mem_append.mp ((h.mem y).mpr hy) with q|q
  ·obtain⟨j,hj⟩:=List.getElem?_of_mem (hT.mem_iff.mpr q);have hj':j<T.length:=by rw[<-hl];exact(List.getElem?_eq_some_iff.mp hj).1
   have ey:y=Ts.getD j 0:=by rw[List.getD_eq_getElem?_getD,hj];rfl
   rw[ey,yR _ _ hj' λi hi hne=>by rw[one i j hi hj',if_neg (λq=>hne q.symm)];grind,one j j hj' hj',if_pos rfl];grind
  ·obtain⟨k,hk⟩:=List.getElem?_of_mem q;have hk':k<C.length:=by rw[h.lenC];exact(List.getElem?_eq_some_iff.mp hk).1
   have hc:C[k]?=some C[k]:=List.getElem?_eq_getElem hk';have e:=(h.holds x).mpr hx _ (List.getElem_mem hk')
   rw[h.sum hc hk hT,zb0,hl] at e;rw[zd T.length (g:=λi=>(C[k] (Ts.getD i 0):Rat)*x (Ts.getD i 0)*(-(1 / (d:Rat)))) λi hi=>by
    rw[zcj h (mT i hi) hk hc,Rat.div_def,Rat.div_def];grind,zG]
   have e2:sumTo T.length (λi=>(C[k] (Ts.getD i 0):Rat)*x (Ts.getD i 0))=-((d:Rat)*x y):=by grind
   rw[e2,Rat.div_def]
   have:=Rat.mul_inv_cancel _ dz;grind
end
section
variable{n s:Nat}{st:Q3x}{fi la:Q1x}{W:List (List Nat)}{Rw:LZr}{T F:LNt}{C:LZr}{d:Int}{a:Nat}
theorem RS.zet(h:RS n s st fi W Rw T F C d a)(x:Q1x):In n Rw.reverse x↔∀c:Nat->Rat,(∀v∈W,dq n c (zT n st fi v)=0)->dq n c x=0:=⟨λq c hc=>q c ((h.orth c).mp hc),λq c hc=>q c ((h.orth c).mpr hc)⟩
theorem RS.zhZ(h:RS n s st fi W Rw T F C d a)(hs:0<s)(hd:(queue s W).length<=a\/F=[])(w:LNt)(hg:∀g∈w,g<s):In n Rw.reverse (zT n st fi w):=(h.zet _).mpr λc hc=>h.none hs hd w hg c hc
theorem RS.zen(h:RS n s st fi W Rw T F C d a)(hs:0<s)(hd:(queue s W).length<=a\/F=[])(g:Nat)(x:Q1x)(hg:g<s)(hx:In n Rw.reverse x):In n Rw.reverse (led n x (st g)):=(h.zet _).mpr λc hc=>by
 rw[zbp];refine(h.zet x).mp hx _ λv hv=>?_
 obtain⟨i,hi⟩:=List.getElem?_of_mem hv;rw[<-zbp,<-vT];refine h.none hs hd _ (λg' hg'=>?_) c hc;rcases List.mem_append.mp hg' with q|q
 ·exact h.rc.signs hs i v hi g' q
 ·rw[List.mem_singleton.mp q];exact hg
theorem RS.mk0(h:RS n s st fi W Rw T F C d a)(hs:0<s)(hd:(queue s W).length<=a\/F=[]){Ts:LNt}(hT:Ts.Perm T):(∀w:List Nat,(∀g∈w,g<s)->wt T.length (vz n (λi=>Ts.getD i 0) (λi=>sgm F C d (Ts.getD i 0)) st) (Vh (λi=>Ts.getD i 0) fi) (uq n (λi=>sgm F C d (Ts.getD i 0)) la) w=wt n st fi la w)/\∃V:Nat->List Nat,(∀j,j<T.length->∀g∈V j,g<s)/\∀y:Nat->Rat,(∀j,j<T.length->sumTo T.length (λi=>y i*zT T.length (vz n (λi=>Ts.getD i 0) (λi=>sgm F C d (Ts.getD i 0)) st) (Vh (λi=>Ts.getD i 0) fi) (V j) i)=0)->∀i,i<T.length->y i=0:=by
 have S:=h.sp.sh hT;have h0:In n Rw.reverse fi:=h.zhZ hs hd [] λg hg=>by cases hg
 have hl:=λg x hg hx=>h.zen hs hd g x hg hx
 have lW:W.length=T.length:=h.len.trans h.lenT.symm;have gW:∀j,j<T.length->W[j]?=some (W.getD j []):=λj hj=>by rw[List.getD_eq_getElem?_getD,List.getElem?_eq_getElem (show j<W.length by omega)];rfl
 refine⟨λw hw=>S.wt h0 hl w hw,λj=>W.getD j [],λj hj=>h.rc.signs hs j _ (gW j hj),λy hy i hi=>?_⟩;have hl':Ts.length=T.length:=hT.length_eq;have mT:∀i,i<T.length->Ts.getD i 0∈T:=λi hi=>by
  rw[List.getD_eq_getElem?_getD,List.getElem?_eq_getElem (by omega)];exact hT.mem_iff.mp (List.getElem_mem _)
 have ndT:Ts.Nodup:=hT.nodup_iff.mpr (List.nodup_append.mp h.sp.nd).1;have inj:∀i j,i<T.length->j<T.length->Ts.getD j 0=Ts.getD i 0->j=i:=λi j hi hj e=>by
  have a1:Ts[j]?=some (Ts.getD j 0):=by rw[List.getD_eq_getElem?_getD,List.getElem?_eq_getElem (show j<Ts.length by omega)];rfl
  have a2:Ts[i]?=some (Ts.getD i 0):=by rw[List.getD_eq_getElem?_getD,List.getElem?_eq_getElem (show i<Ts.length by omega)];rfl
  exact Classical.byContradiction λq=>zcU ndT a1 a2 q e
 have key:=h.sp.ind (λx=>sumTo T.length λi=>if x=Ts.getD i 0 then y i else 0) (λx hx hn=>by
  show sumTo T.length (λi=>if x=Ts.getD i 0 then y i else 0)=0
  rw[zd T.length (g:=λ_=>0) λi hi=>if_neg λ(e:x=Ts.getD i 0)=>hn (e▸mT i hi)];exact yJ _) ((h.orth _).mp λv hv=>by
  obtain⟨j,hj⟩:=List.getElem?_of_mem hv;have hj':j<T.length:=by rw[<-lW];exact(List.getElem?_eq_some_iff.mp hj).1
  have ev:v=W.getD j []:=by rw[List.getD_eq_getElem?_getD,hj];rfl
  show sumTo n (λx=>sumTo T.length (λi=>if x=Ts.getD i 0 then y i else 0)*zT n st fi v x)=0
  rw[zd n (g:=λx=>sumTo T.length λi=>(if x=Ts.getD i 0 then y i else 0)*zT n st fi v x) λx _=>(zG _ _ _).symm,xT,<-hy j hj'];refine zd T.length λi hi=>?_
  rw[yR _ n (S.lt i hi) λx hx hne=>by rw[if_neg hne];grind,if_pos rfl];have er:=(S.row h0 hl (W.getD j []) (h.rc.signs hs j _ (gW j hj')) fi (Vh (λi=>Ts.getD i 0) fi) h0 λi _=>rfl).2 i hi;rw[er,ev]) (Ts.getD i 0) (S.lt i hi)
 have key':sumTo T.length (λj=>if Ts.getD i 0=Ts.getD j 0 then y j else 0)=0:=key;rw[yR _ _ hi λj hj hne=>if_neg λe=>hne (inj i j hi hj e.symm),if_pos rfl] at key';exact key'
end
section
variable{n s:Nat}{st:Q3x}{fi la:Q1x}
theorem uS(st:Q3x)(la:Q1x):∀v:List Nat,zT n (λg a b=>st g b a) la v.reverse=Jl n st la v
 |[]=>rfl
 |g::v=>by
  rw[List.reverse_cons,vT,uS st la v];funext a;exact zd n λb _=>Rat.mul_comm _ _
end
end WD.DT
namespace L2.Fu
open PySem PySem.Spec PyProof.Rows
def uo:RFx:=(sq (yr 1 (cst (.int 0)))
 (sq (vc (yt (gv 0)) (bN 2) (yr 1 (zh yG (aC (gv 2) (aC (gv 1) a0)))))
 (sq (ifS (zK (op2 ltI (gv 1) (cst (.int 2)))) (U0 (xU Uc (aC (gv 0) a0))) s0)
 (U0 (zR 1 [1] (yt (gv 0)) (bN 0) (op2 xq (gv 0) (gv 1)))))))
def yY:LLx:=fnL 3 1 uo
def WI:RFx:=(U0 (xU yY (aC (yu (xU yO (aC (gv 0) (aC (zh ye (aC (gv 0) a0)) a0)))) a0)))
def xZ:LLx:=fnL 1 1 WI
def Yj:RFx:=(sq (jR 2 (ziD (vw (aC (cst (.int 0)) a0)) (gv 1)))
 (sq (siS 2 (gv 0) (cst (.int 1)))
 (U0 (gk 2))))
def wa:LLx:=fnL 3 2 Yj
def ZW:RFx:=(U0 (zR 2 [1,3,4] (uB false false (aC (gv 0) (aC (gv 2) a0))) (b2 (bN 0) (bN 1)) (op2 xq (op2 Zm (op2 yE (gv 3) (gv 0)) (op2 yE (gv 2) (gv 1))) (gv 4))))
def uY:LLx:=fnL 5 5 ZW
def VI:RFx:=(sq (exS (zh xB (aC (gv 0) (aC (gv 1) a0))))
 (retS (zh Va (aC (gv 0) (aC (xp (aC (op2 ixD (gv 1) (cst (.int 0))) (aC (op2 ixD (gv 1) (cst (.int 1))) (aC (zh jK (aC (op2 ixD (gv 1) (cst (.int 2))) (aC (cst (.tuple [.int (-1),.int 1])) a0))) a0)))) a0)))))
def vM:LPx:=fnF 2 2 VI
inductive Fs where
 |pu (d:PdX)|ow (ds:LPd)|ob (C:AdX) (fs:List (Str×Fs))
mutual
inductive FOk(K:FRx)(H:Hp)(os:LAd):V->Fs->List Addr->Prop
 |pu {v:V} {d:PdX}:Rep K (offs H os) v d->FOk K H os v (.pu d) []
 |ow {a:AdX} {xs:List V} {ds:LPd}:H a=some (.lst xs)->Reps K (offs H os) xs ds->FOk K H os (.ref a) (.ow ds) [a]
 |ob {p C dx:AdX} {vs:List (Str×V)} {fs:List (Str×Fs)} {A:LAd}:H p=some (.ins C dx vs)->yT K H os vs fs A->FOk K H os (.ref p) (.ob C fs) (p::A)
inductive yT(K:FRx)(H:Hp)(os:LAd):List (Str×V)->List (Str×Fs)->List Addr->Prop
 |nil:yT K H os [] [] []
 |cons {x:Str} {v:V} {c:Fs} {vs:List (Str×V)} {fs:List (Str×Fs)} {A B:LAd}:FOk K H os v c A->yT K H os vs fs B->yT K H os ((x,v)::vs) ((x,c)::fs) (A++B)
end
section
variable{K:FRx}{H H':Hp}{os os':LAd}
mutual
theorem FOk.keep(s:Same (offs H os) (offs H' os')):∀{v:V} {c:Fs} {A:LAd},FOk K H os v c A->(∀a∈A,H' a=H a)->FOk K H' os' v c A
 |_,_,_,.pu r,_=>.pu (r.same s)
 |_,_,_,.ow h r,q=>.ow (by rw[q _ (.head _)];exact h) (r.same s)
 |_,_,_,.ob h r,q=>.ob (by rw[q _ (.head _)];exact h) (yT.keep s r λa ha=>q a (.tail _ ha))
theorem yT.keep(s:Same (offs H os) (offs H' os')):∀{vs:List (Str×V)} {fs:List (Str×Fs)} {A:LAd},yT K H os vs fs A->(∀a∈A,H' a=H a)->yT K H' os' vs fs A
 |_,_,_,.nil,_=>.nil
 |_,_,_,.cons h r,q=>.cons (FOk.keep s h λa ha=>q a (List.mem_append.mpr (.inl ha))) (yT.keep s r λa ha=>q a (List.mem_append.mpr (.inr ha)))
end
mutual
theorem FOk.has:∀{v:V} {c:Fs} {A:LAd},FOk K H os v c A->∀a∈A,∃o,H a=some o
 |_,_,_,.pu _,a,h=>by cases h
 |_,_,_,.ow h _,a,ha=>by rw[List.mem_singleton.mp ha];exact⟨_,h⟩
 |_,_,_,.ob h r,a,ha=>by
  rcases List.mem_cons.mp ha with z|z
  ·rw[z];exact⟨_,h⟩
  ·exact yT.has r a z
theorem yT.has:∀{vs:List (Str×V)} {fs:List (Str×Fs)} {A:LAd},yT K H os vs fs A->∀a∈A,∃o,H a=some o
 |_,_,_,.nil,a,h=>by cases h
 |_,_,_,.cons h r,a,ha=>by
  rcases List.mem_append.mp ha with z|z
  ·exact FOk.has h a z
  ·exact yT.has r a z
end
theorem FOk.same(e:Same H H'){v:V}{c:Fs}{A:LAd}(h:FOk K H os v c A):FOk K H' os v c A:=h.keep (zl e os) λa ha=>by
 have⟨o,q⟩:=h.has a ha;rw[q];exact e a o q
def fld(x:Str):List (Str×Fs)->Option Fs
 |[]=>none
 |(y,c)::fs=>if x=y then some c else fld x fs
theorem yT.look{x:Str}:∀{vs:List (Str×V)} {fs:List (Str×Fs)} {A:LAd} {c:Fs},yT K H os vs fs A->fld x fs=some c->∃v B,vs.lookup x=some v/\FOk K H os v c B/\∀a∈B,a∈A
 |_,_,_,_,.nil,q=>by cases q
 |_,_,_,c,@yT.cons _ _ _ y v c' vs fs A B h r,q=>by
  unfold fld at q;by_cases z:x=y
  ·rw[if_pos z] at q;cases q;refine⟨v,A,?_,h,λa ha=>List.mem_append.mpr (.inl ha)⟩;rw[List.lookup_cons,show(x==y)=true from beq_iff_eq.mpr z]
  ·rw[if_neg z] at q;have⟨v',B',h1,h2,h3⟩:=yT.look r q;refine⟨v',B',?_,h2,λa ha=>List.mem_append.mpr (.inr (h3 a ha))⟩;rw[List.lookup_cons,show(x==y)=false from beq_eq_false_iff_ne.mpr z];exact h1
theorem yT.nolook{x:Str}:∀{vs:List (Str×V)} {fs:List (Str×Fs)} {A:LAd},yT K H os vs fs A->fld x fs=none->vs.lookup x=none
 |_,_,_,.nil,_=>rfl
 |_,_,_,@yT.cons _ _ _ y v c' vs fs A B h r,q=>by
  unfold fld at q;by_cases z:x=y
  ·rw[if_pos z] at q;cases q
  ·rw[if_neg z] at q;rw[List.lookup_cons,show(x==y)=false from beq_eq_false_iff_ne.mpr z];exact yT.nolook r q
end
structure vC(K:FRx)(C:AdX)(ℓ:Nat)(H:Hp)(os:LAd)(σ:St)(ρ:Ro)(fs:List (Str×Fs)):Prop where
 rel:xo K H os σ ρ
 ob:∃p A,σ[ℓ]?=some (some (.ref p))/\FOk K H os (.ref p) (.ob C fs) A/\∀a∈A,a∈os
theorem vC.same{K:FRx}{C:AdX}{ℓ:Nat}{H H':Hp}{os:LAd}{σ:St}{ρ:Ro}{fs:List (Str×Fs)}(h:vC K C ℓ H os σ ρ fs)(e:Same H H'):vC K C ℓ H' os σ ρ fs:=by
 have⟨p,A,h1,h2,h3⟩:=h.ob;exact⟨h.rel.same e,p,A,h1,h2.same e,h3⟩
abbrev Ob:=List (Str×Fs)
abbrev OPx:=Ro->Ob->Option PyData
abbrev OLx:=Ro->Ob->Option (List PyData)
abbrev MFx:=Ob->List PyData->Option (PyData×Ob)
def GE(X:Cx)(C:AdX)(ℓ:Nat)(e:Expr)(f:Ro->Ob->Option PyData):Prop:=∃t:TE,PE X e t/\∀(σ:St)(H:Hp)(os:LAd)(ρ:Ro)(fs:Ob)(d:PdX)(Q:VK),vC X.K C ℓ H os σ ρ fs->f ρ fs=some d->(∀v H',Same H H'->Rep X.K (offs H' os) v d->Q v H')->t σ H Q
def GB(X:Cx)(C:AdX)(ℓ:Nat)(e:Expr)(f:OPx):Prop:=∃t:TE,PE X e t/\∀(σ:St)(H:Hp)(os:LAd)(ρ:Ro)(fs:Ob)(d:PdX)(Q:VK),vC X.K C ℓ H os σ ρ fs->f ρ fs=some d->(∀v H',Same H H'->jt X.K H' os v d->Q v H')->t σ H Q
def GL(X:Cx)(C:AdX)(ℓ:Nat)(e:Expr)(f:OLx):Prop:=∃t:TE,PE X e t/\∀(σ:St)(H:Hp)(os:LAd)(ρ:Ro)(fs:Ob)(ds:LPd)(Q:VK),vC X.K C ℓ H os σ ρ fs->f ρ fs=some ds->
  (∀a xs H',H a=none->Same H H'->H' a=some (.lst xs)->Reps X.K (offs H' (a::os)) xs ds->Q (.ref a) H')->t σ H Q
def GT(X:Cx)(C:AdX)(ℓ:Nat)(e:Expr)(f:Ro->Ob->Option Bool):Prop:=∃t:TT,PT X e t/\∀(σ:St)(H:Hp)(os:LAd)(ρ:Ro)(fs:Ob)(b:Bool)(Q:Bool->Hp->Prop),vC X.K C ℓ H os σ ρ fs->f ρ fs=some b->(∀H',Same H H'->Q b H')->t σ H Q
section
variable{X:Cx}{C:AdX}{ℓ:Nat}{e a b:Expr}{pos:Pos}
theorem FE.ge{f:RPx}(h:FE X e f):GE X C ℓ e (λρ _=>f ρ):=by
 have⟨t,p,q⟩:=h;exact⟨t,p,λσ H os ρ fs d Q R e k=>q σ H os ρ d Q R.rel e k⟩
theorem FB.gb{f:RPx}(h:FB X e f):GB X C ℓ e (λρ _=>f ρ):=by
 have⟨t,p,q⟩:=h;exact⟨t,p,λσ H os ρ fs d Q R e k=>q σ H os ρ d Q R.rel e k⟩
theorem FL.gl{f:RLx}(h:FL X e f):GL X C ℓ e (λρ _=>f ρ):=by
 have⟨t,p,q⟩:=h;exact⟨t,p,λσ H os ρ fs d Q R e k=>q σ H os ρ d Q R.rel e k⟩
theorem FT.gt{f:Ro->Option Bool}(h:FT X e f):GT X C ℓ e (λρ _=>f ρ):=by
 have⟨t,p,q⟩:=h;exact⟨t,p,λσ H os ρ fs d Q R e k=>q σ H os ρ d Q R.rel e k⟩
theorem GE.gb{f:OPx}(h:GE X C ℓ e f):GB X C ℓ e f:=by
 have⟨t,p,q⟩:=h;exact⟨t,p,λσ H os ρ fs d Q R e k=>q σ H os ρ fs d Q R e λv H' s r=>k v H' s (.inl r)⟩
def gf(x:Str):OPx:=λ_ fs=>match fld x fs with |some (.pu d)=>some d|_=>none
def gg(x:Str):OPx:=λ_ fs=>match fld x fs with |some (.pu d)=>some d|some (.ow ds)=>some (.list ds)|_=>none
theorem ZR{x f:Str}{p:Pos}(cl:Cls X.K C)(na:zH X.K C f)(hN:X.N[ℓ]?=some x:=by rfl)(hv:Vis X.env.scope x:=by trivial)(hd:NDx x:=by decide)(hcd:NCx x:=by decide)(hb:ABx X (.Name x p) f:=by rfl):GE X C ℓ (.Attribute (.Name x p) f pos) (gf f):=by
 refine⟨_,va (yl (i:=ℓ) hN hv hd hcd) hb,λσ H os ρ fs d Q R e k=>?_⟩;have⟨q,A,h1,h2,h3⟩:=R.ob;cases h2 with
 |ob hp r=>
  unfold gf at e;split at e
  ·rename_i d' ef;cases e;have⟨v,B,l,o,_⟩:=r.look ef;cases o with
   |pu rv=>exact⟨_,h1,_,_,_,_,_,rfl,hp,cl,na,l,k _ H (Same.refl H) rv⟩
  ·cases e
theorem jV{x f:Str}{p:Pos}(cl:Cls X.K C)(na:zH X.K C f)(hN:X.N[ℓ]?=some x:=by rfl)(hv:Vis X.env.scope x:=by trivial)(hd:NDx x:=by decide)(hcd:NCx x:=by decide)(hb:ABx X (.Name x p) f:=by rfl):GB X C ℓ (.Attribute (.Name x p) f pos) (gg f):=by
 refine⟨_,va (yl (i:=ℓ) hN hv hd hcd) hb,λσ H os ρ fs d Q R e k=>?_⟩;have⟨q,A,h1,h2,h3⟩:=R.ob;cases h2 with
 |ob hp r=>
  unfold gg at e;split at e
  ·rename_i d' ef;cases e;have⟨v,B,l,o,_⟩:=r.look ef;cases o with
   |pu rv=>exact⟨_,h1,_,_,_,_,_,rfl,hp,cl,na,l,k _ H (Same.refl H) (.inl rv)⟩
  ·rename_i ds ef;cases e;have⟨v,B,l,o,_⟩:=r.look ef;cases o with
   |ow ha rv=>exact⟨_,h1,_,_,_,_,_,rfl,hp,cl,na,l,k _ H (Same.refl H) (.inr ⟨_,_,_,rfl,rfl,ha,rv⟩)⟩
  ·cases e
end
structure MSt(K:FRx)(C:AdX)(ℓ:Nat)(H0:Hp)(os0:LAd)(p:AdX)(H:Hp)(os:LAd)(σ:St)(ρ:Ro)(fs:Ob):Prop where
 sr:SRo K H0 os0 H os σ ρ
 self:σ[ℓ]?=some (some (.ref p))
 ob:∃A,FOk K H os (.ref p) (.ob C fs) A/\A.Nodup/\(∀a∈A,a∈os/\H0 a=none)/\∀(j:Nat)(c:Sl),ρ[j]?=some c->isM c=true->∀a∈A,σ[j]?≠some (some (.ref a))
inductive Flo where
 |nx (ρ:Ro) (fs:Ob)|rt (d:PdX) (fs:Ob)|rf (d:PdX)
abbrev OFx:=Ro->Ob->Option Flo
structure zig(K:FRx)(C:AdX)(H0:Hp)(os0:LAd)(p:AdX)(H:Hp)(os:LAd)(fs:Ob):Prop where
 sm:Same H0 H
 sub:∀a∈os0,a∈os
 new:∀a∈os,a∈os0\/H0 a=none
 al:Al H os
 ob:∃A,FOk K H os (.ref p) (.ob C fs) A/\A.Nodup/\∀a∈A,a∈os/\H0 a=none
def zkM(K:FRx)(C:AdX)(ℓ:Nat)(H0:Hp)(os0:LAd)(p:AdX)(D:Ends):Flo->Prop
 | .nx ρ fs=>∀σ H os,MSt K C ℓ H0 os0 p H os σ ρ fs->D.nx σ H
 | .rt d fs=>∀v H os,zig K C H0 os0 p H os fs->Rep K (offs H os) v d->D.rt v H
 | .rf d=>∀v H,Same H0 H->Rep K (offs H os0) v d->D.rt v H
def OS(X:Cx)(C:AdX)(ℓ:Nat)(st:Stmt)(f:OFx):Prop:=∃t:TS,PS X st t/\∀(H0:Hp)(os0:LAd)(p:AdX)(D:Ends)(σ:St)(H:Hp)(os:LAd)(ρ:Ro)(fs:Ob)(r:Flo),MSt X.K C ℓ H0 os0 p H os σ ρ fs->f ρ fs=some r->zkM X.K C ℓ H0 os0 p D r->t D σ H
def OSs(X:Cx)(C:AdX)(ℓ:Nat)(sts:List Stmt)(f:OFx):Prop:=∃t:TS,PSs X sts t/\∀(H0:Hp)(os0:LAd)(p:AdX)(D:Ends)(σ:St)(H:Hp)(os:LAd)(ρ:Ro)(fs:Ob)(r:Flo),MSt X.K C ℓ H0 os0 p H os σ ρ fs->f ρ fs=some r->zkM X.K C ℓ H0 os0 p D r->t D σ H
section
variable{K:FRx}{C:AdX}{ℓ:Nat}{H0 H H':Hp}{os0 os:LAd}{p:AdX}{σ:St}{ρ:Ro}{fs:Ob}
theorem MSt.wN(h:MSt K C ℓ H0 os0 p H os σ ρ fs):vC K C ℓ H os σ ρ fs:=by
 have⟨A,h1,h2,h3,h4⟩:=h.ob;exact⟨h.sr.rel,p,A,h.self,h1,λa ha=>(h3 a ha).1⟩
theorem MSt.same(h:MSt K C ℓ H0 os0 p H os σ ρ fs)(e:Same H H'):MSt K C ℓ H0 os0 p H' os σ ρ fs:=by
 have⟨A,h1,h2,h3,h4⟩:=h.ob;exact⟨h.sr.same e,h.self,A,h1.same e,h2,h3,h4⟩
theorem MSt.end(h:MSt K C ℓ H0 os0 p H os σ ρ fs):zig K C H0 os0 p H os fs:=by
 have⟨A,h1,h2,h3,h4⟩:=h.ob;exact⟨h.sr.sm,h.sr.sub,h.sr.new,h.sr.rel.al,A,h1,h2,h3⟩
theorem MSt.set(h:MSt K C ℓ H0 os0 p H os σ ρ fs){i:Nat}{v:V}{d:PdX}(hi:i≠ℓ)(r:Rep K (offs H os) v d):MSt K C ℓ H0 os0 p H os (σ.set i (some v)) (ρ.set i (.pu d)) fs:=by
 have⟨A,h1,h2,h3,h4⟩:=h.ob;refine⟨h.sr.set r,by rw[List.getElem?_set_ne hi];exact h.self,A,h1,h2,h3,λj c q m a ha z=>?_⟩;have⟨hj,q⟩:=vn q m;rw[List.getElem?_set_ne hj] at z;exact h4 j c q m a ha z
theorem MSt.W5(h:MSt K C ℓ H0 os0 p H os σ ρ fs){i:Nat}{a:AdX}{xs:List V}{ds:LPd}(hi:i≠ℓ)(n:H a=none)(s:Same H H')(hx:H' a=some (.lst xs))(r:Reps K (offs H' (a::os)) xs ds):MSt K C ℓ H0 os0 p H' (a::os) (σ.set i (some (.ref a))) (ρ.set i (.ow ds)) fs:=by
 have⟨A,h1,h2,h3,h4⟩:=h.ob;have nA:a∉A:=λz=>by
  have⟨o,e⟩:=h1.has a z;rw[n] at e;cases e
 refine⟨h.sr.W5 n s hx r,by rw[List.getElem?_set_ne hi];exact h.self,A,h1.keep (jb n s) λb hb=>?_,h2,λb hb=>⟨List.mem_cons_of_mem _ (h3 b hb).1,(h3 b hb).2⟩,λj c q m b hb z=>?_⟩
 ·have⟨o,e⟩:=h1.has b hb;rw[e];exact s b o e
 ·rcases yf q with⟨rfl,hl,rfl⟩|⟨hj,q⟩
  ·rw[List.getElem?_set_self (by rw[h.sr.rel.len];exact hl)] at z;cases z;exact nA hb
  ·rw[List.getElem?_set_ne hj] at z;exact h4 j c q m b hb z
theorem MSt.chg(h:MSt K C ℓ H0 os0 p H os σ ρ fs){i:Nat}{a:AdX}{ys:List V}{ds es:LPd}(q:ρ[i]?=some (.ow ds))(e:σ[i]?=some (some (.ref a)))(r:Reps K (offs H os) ys es):MSt K C ℓ H0 os0 p (upd H a (.lst ys)) os σ (ρ.set i (.ow es)) fs:=by
 have⟨A,h1,h2,h3,h4⟩:=h.ob;have nA:a∉A:=λz=>h4 i _ q rfl a z e
 have⟨a',xs,e',ha,hx,_⟩:=h.sr.rel.ow i ds q;rw[e] at e';cases e';refine⟨h.sr.chg q e r,h.self,A,h1.keep (by rw[yF ha];exact Same.refl _) λb hb=>by rw[zO λz=>nA (by rw[<-z];exact hb)],h2,h3,λj c q' m b hb z=>?_⟩;rcases yf q' with⟨rfl,hl,rfl⟩|⟨hj,q'⟩
 ·rw[e] at z;cases z;exact nA hb
 ·exact h4 j c q' m b hb z
end
section
variable{X:Cx}{C:AdX}{ℓ:Nat}{st:Stmt}{rest:List Stmt}{f g:OFx}{e:Expr}{pos:Pos}
def osq(f g:OFx):OFx:=λρ fs=>match f ρ fs with |some (.nx ρ' fs')=>g ρ' fs'|r=>r
def os0:OFx:=λρ fs=>some (.nx ρ fs)
theorem Vm:OSs X C ℓ [] os0:=⟨_,zbW,λ_ _ _ _ _ _ _ _ _ _ R q k=>by cases q;exact k _ _ _ R⟩
theorem y4(h:OS X C ℓ st f):OSs X C ℓ [st] f:=by
 have⟨t,p,q⟩:=h;exact⟨t,zbj p,q⟩
theorem zI(h:OS X C ℓ st f)(h2:OSs X C ℓ rest g):OSs X C ℓ (st::rest) (osq f g):=by
 have⟨t,p,q⟩:=h;have⟨t2,p2,q2⟩:=h2;refine⟨_,wc p p2,λH0 os0 p D σ H os ρ fs r R e k=>?_⟩;unfold osq at e;split at e
 ·rename_i ρ' fs' e1;exact q H0 os0 p { D with nx:=t2 D } σ H os ρ fs _ R e1 λσ' H' os' R'=>q2 H0 os0 p D σ' H' os' ρ' fs' r R' e k
 ·cases r with
  |nx ρ' fs'=>rename_i hn;exact absurd e (hn ρ' fs')
  |rt d fs'=>exact q H0 os0 p { D with nx:=t2 D } σ H os ρ fs _ R e k
  |rf d=>exact q H0 os0 p { D with nx:=t2 D } σ H os ρ fs _ R e k
def oset(i:Nat)(f:OPx):OFx:=λρ fs=>(f ρ fs).bind λd=>some (.nx (ρ.set i (.pu d)) fs)
theorem US(i:Nat){x:Str}{pos':Pos}{f:OPx}(hN:X.N.Nodup)(he:GE X C ℓ e f)(h0:i≠ℓ:=by decide)(hi:X.N[i]?=some x:=by rfl)(hx:Loc X.env.scope x:=by trivial)(hs:swapsWith e (some (.Name x pos')) pos.line X.env=pure false:=by rfl)(hf:FNx X x:=by trivial):OS X C ℓ (.Assign [.Name x pos'] e pos) (oset i f):=by
 have⟨t,p,q⟩:=he;refine⟨_,w8 hN hi hx p hs hf,λH0 os0 p D σ H os ρ fs r R e k=>?_⟩;have⟨d,e1,e2⟩:=bind_some e;cases e2;exact q σ H os ρ fs d _ R.wN e1 λv H' s rv=>k _ _ _ ((R.same s).set h0 rv)
def WL(i:Nat)(f:OLx):OFx:=λρ fs=>(f ρ fs).bind λd=>some (.nx (ρ.set i (.ow d)) fs)
def oret(f:OPx):OFx:=λρ fs=>(f ρ fs).bind λd=>some (.rt d fs)
theorem wX{f:OPx}(h:GE X C ℓ e f):OS X C ℓ (.Return (some e) pos) (oret f):=by
 have⟨t,p,q⟩:=h;refine⟨_,UB p,λH0 os0 p D σ H os ρ fs r R e k=>?_⟩;have⟨d,e1,e2⟩:=bind_some e;cases e2;exact q σ H os ρ fs d _ R.wN e1 λv H' s rv=>k v H' os (R.same s).end rv
def oif(c:Ro->Ob->Option Bool)(f g:OFx):OFx:=λρ fs=>(c ρ fs).bind λb=>if b then f ρ fs else g ρ fs
theorem zhX{c:Expr}{a b:List Stmt}{fc:Ro->Ob->Option Bool}(hc:GT X C ℓ c fc)(ha:OSs X C ℓ a f)(hb:OSs X C ℓ b g):OS X C ℓ (.If c a b pos) (oif fc f g):=by
 have⟨tc,pc,qc⟩:=hc;have⟨ta,pa,qa⟩:=ha;have⟨tb,pb,qb⟩:=hb;refine⟨_,zhc pc pa pb,λH0 os0 p D σ H os ρ fs r R e k=>?_⟩;have⟨b,e1,e2⟩:=bind_some e;refine qc σ H os ρ fs b _ R.wN e1 λH' s=>?_
 cases b with
 |true=>rw[if_pos rfl] at e2 ⊢;exact qa H0 os0 p D σ H' os ρ fs r (R.same s) e2 k
 |false=>rw[if_neg Bool.false_ne_true] at e2 ⊢;exact qb H0 os0 p D σ H' os ρ fs r (R.same s) e2 k
end
def zJ(x:Str)(c:Fs):Ob->Ob
 |[]=>[(x,c)]
 |(y,d)::fs=>if y=x then (y,c)::fs else (y,d)::zJ x c fs
section
variable{K:FRx}{C:AdX}{ℓ:Nat}{H0 H H':Hp}{os0 os:LAd}{p:AdX}{σ:St}{ρ:Ro}{fs:Ob}
theorem yT.len:∀{vs:List (Str×V)} {fs:Ob} {A:LAd},yT K H os vs fs A->vs.length=fs.length
 |_,_,_,.nil=>rfl
 |_,_,_,.cons _ r=>congrArg (·+1) (yT.len r)
theorem zbI{A B:LAd}(h1:A.Nodup)(h2:B.Nodup)(h3:∀a∈A,a∉B):(A++B).Nodup:=List.nodup_append.mpr ⟨h1,h2,λa ha b hb e=>h3 a ha (by rw[e];exact hb)⟩
theorem zl2{A B:LAd}(h:(A++B).Nodup):A.Nodup:=(List.nodup_append.mp h).1
theorem zga{A B:LAd}(h:(A++B).Nodup):B.Nodup:=(List.nodup_append.mp h).2.1
theorem zfW{A B:LAd}(h:(A++B).Nodup):∀a∈A,a∉B:=λa ha hb=>(List.nodup_append.mp h).2.2 a ha a hb rfl
theorem yT.put{x:Str}{v:V}{c:Fs}{B:LAd}(hb:FOk K H os v c B)(ndB:B.Nodup):∀{vs:List (Str×V)} {fs:Ob} {A:LAd},yT K H os vs fs A->A.Nodup->(∀a∈B,a∉A)->∃A',yT K H os (uW x v vs) (zJ x c fs) A'/\A'.Nodup/\∀a∈A',a∈A\/a∈B
 |_,_,_,.nil,_,_=>⟨B++[],.cons hb .nil,by rw[List.append_nil];exact ndB,λa ha=>.inr (by rw[List.append_nil] at ha;exact ha)⟩
 |_,_,_,@yT.cons _ _ _ y u d vs fs A0 B0 h r,nd,dj=>by
  unfold uW zJ;by_cases z:y=x
  ·rw[if_pos z,if_pos z];refine⟨B++B0,.cons hb r,zbI ndB (zga nd) λa ha hb=>dj a ha (List.mem_append.mpr (.inr hb)),λa ha=>?_⟩;rcases List.mem_append.mp ha with q|q
   ·exact .inr q
   ·exact .inl (List.mem_append.mpr (.inr q))
  ·rw[if_neg z,if_neg z];obtain⟨A',h1,h2,h3⟩:=yT.put hb ndB r (zga nd) λa ha q=>dj a ha (List.mem_append.mpr (.inr q))
   refine⟨A0++A',.cons h h1,zbI (zl2 nd) h2 λa ha q=>?_,λa ha=>?_⟩
   ·rcases h3 a q with w|w
    ·exact zfW nd a ha w
    ·exact dj a w (List.mem_append.mpr (.inl ha))
   ·rcases List.mem_append.mp ha with q|q
    ·exact .inl (List.mem_append.mpr (.inl q))
    ·rcases h3 a q with w|w
     ·exact .inl (List.mem_append.mpr (.inr w))
     ·exact .inr w
theorem SRo.zmp(h:SRo K H0 os0 H os σ ρ){o:HO}(hp:p∈os)(h0:H0 p=none)(hs:∀(j:Nat)(c:Sl),ρ[j]?=some c->isM c=true->σ[j]?≠some (some (.ref p))):SRo K H0 os0 (upd H p o) os σ ρ:=by
 have eo:offs (upd H p o) os=offs H os:=yF hp;refine⟨⟨λi d q=>by rw[eo];exact h.rel.pu i d q,λi c q m=>?_,λb hb=>?_,h.rel.len⟩,λb o' z=>?_,h.sub,h.new,h.al0,h.own,h.ap⟩
 ·have⟨a,o',h1,h2,h3,h4⟩:=h.rel.mu i c q m;exact⟨a,o',h1,h2,by rw[zO λz=>hs i c q m (by rw[h1,z])];exact h3,by rw[eo];exact h4⟩
 ·by_cases q:b=p
  ·rw[q];exact⟨_,zE⟩
  ·rw[zO q];exact h.rel.al b hb
 ·rw[zO λw=>by rw[w,h0] at z;cases z];exact h.sm b o' z
theorem SRo.grow(h:SRo K H0 os0 H os σ ρ){a:AdX}{xs:List V}{ds:LPd}(n:H a=none)(s:Same H H')(hx:H' a=some (.lst xs))(r:Reps K (offs H' (a::os)) xs ds):SRo K H0 os0 H' (a::os) σ ρ:=by
 have:=h.W5 (i:=ρ.length) n s hx r;rw[List.set_eq_of_length_le (Nat.le_refl _),List.set_eq_of_length_le (by rw[h.rel.len];exact Nat.le_refl _)] at this;exact this
theorem SRo.drop(h:SRo K H0 os0 H os σ ρ)(i:Nat):SRo K H0 os0 H os σ (ρ.set i .no):=by
 have m:∀{j:Nat} {c:Sl},(ρ.set i .no)[j]?=some c->c≠ .no->i≠j/\ρ[j]?=some c:=λ{j c} q hc=>by
  rcases yf q with⟨_,_,z⟩|z
  ·exact absurd z.symm hc
  ·exact z
 refine⟨⟨λj d q=>h.rel.pu j d (m q (by intro z;cases z)).2,λj c q hm=>h.rel.mu j c (m q (by intro z;rw[z] at hm;cases hm)).2 hm,h.rel.al,by rw[List.length_set];exact h.rel.len⟩,h.sm,h.sub,h.new,h.al0,λj c q hm=>h.own j c (m q (by intro z;rw[z] at hm;cases hm)).2 hm,λj k c c' hjk q1 q2 m1 m2=>h.ap j k c c' hjk (m q1 (by intro z;rw[z] at m1;cases m1)).2 (m q2 (by intro z;rw[z] at m2;cases m2)).2 m1 m2⟩
theorem Yf{x:Str}{v:V}{c:Fs}{A B:LAd}{dx:AdX}{vs:List (Str×V)}(sr:SRo K H0 os0 H os σ ρ)(self:σ[ℓ]?=some (some (.ref p)))(hp:H p=some (.ins C dx vs))(hf:yT K H os vs fs A)(nd:(p::A).Nodup)(hA:∀a∈p::A,a∈os/\H0 a=none)(hs:∀(j:Nat)(c:Sl),ρ[j]?=some c->isM c=true->∀a∈p::A,σ[j]?≠some (some (.ref a)))(hb:FOk K H os v c B)(ndB:B.Nodup)(hB:∀a∈B,a∈os/\H0 a=none/\a∉p::A/\∀(j:Nat)(c:Sl),ρ[j]?=some c->isM c=true->σ[j]?≠some (some (.ref a))):MSt K C ℓ H0 os0 p (upd H p (.ins C dx (uW x v vs))) os σ ρ (zJ x c fs):=by
 have⟨pA,ndA⟩:=List.nodup_cons.mp nd;obtain⟨A',h1,h2,h3⟩:=yT.put (x:=x) hb ndB hf ndA λa ha q=>(hB a ha).2.2.1 (.tail _ q)
 obtain⟨hpo,hp0⟩:=hA p (.head _);have pA':p∉A':=λz=>by
  rcases h3 p z with q|q
  ·exact pA q
  ·exact(hB p q).2.2.1 (.head _)
 have all:∀a∈p::A',a∈p::A\/a∈B:=λa ha=>by
  rcases List.mem_cons.mp ha with q|q
  ·exact .inl (by rw[q];exact .head _)
  ·rcases h3 a q with w|w
   ·exact .inl (.tail _ w)
   ·exact .inr w
 refine⟨sr.zmp hpo hp0 λj c q m=>hs j c q m p (.head _),self,p::A',.ob zE (h1.keep (by rw[yF hpo];exact Same.refl _) λa ha=>zO λz=>pA' (by rw[<-z];exact ha)),List.nodup_cons.mpr ⟨pA',h2⟩,λa ha=>?_,λj c q m a ha=>?_⟩
 ·rcases all a ha with w|w
  ·exact hA a w
  ·exact⟨(hB a w).1,(hB a w).2.1⟩
 ·rcases all a ha with w|w
  ·exact hs j c q m a w
  ·exact(hB a w).2.2.2 j c q m
end
section
variable{X:Cx}{C:AdX}{ℓ:Nat}{e:Expr}{pos pos' p0:Pos}{x f:Str}
def ofl(x:Str)(g:OPx):OFx:=λρ fs=>(g ρ fs).bind λd=>if fs.length<1000 then some (.nx ρ (zJ x (.pu d) fs)) else none
theorem zbg{g:OPx}(cl:Cls X.K C)(na:zH X.K C f)(he:GE X C ℓ e g)(hN:X.N[ℓ]?=some x:=by rfl)(hv:Vis X.env.scope x:=by trivial)(hd:NDx x:=by decide)(hcd:NCx x:=by decide)(hs:swapsWith e (some (.Attribute (.Name x p0) f pos')) pos.line X.env=pure false:=by rfl):OS X C ℓ (.Assign [.Attribute (.Name x p0) f pos'] e pos) (ofl f g):=by
 have⟨t,pe,q⟩:=he;refine⟨_,zbB (yl (i:=ℓ) hN hv hd hcd) pe hs,λH0 os0 p D σ H os ρ fs r R e k=>?_⟩;have⟨d,e1,e2⟩:=bind_some e;split at e2
 ·rename_i hl;cases e2;refine q σ H os ρ fs d _ R.wN e1 λv H' s rv=>?_
  have R':=R.same s;have⟨A,h1,h2,h3,h4⟩:=R'.ob
  cases h1 with
  |ob hp r=>exact⟨_,R'.self,_,_,_,_,rfl,hp,cl,na,by rw[r.len];exact hl,k _ _ _ (Yf R'.sr R'.self hp r h2 h3 h4 (.pu rv) .nil λa ha=>by cases ha)⟩
 ·cases e2
def Z8(x:Str)(g:OLx):OFx:=λρ fs=>(g ρ fs).bind λd=>if fs.length<1000 then some (.nx ρ (zJ x (.ow d) fs)) else none
theorem u5{g:OLx}(cl:Cls X.K C)(na:zH X.K C f)(he:GL X C ℓ e g)(hN:X.N[ℓ]?=some x:=by rfl)(hv:Vis X.env.scope x:=by trivial)(hd:NDx x:=by decide)(hcd:NCx x:=by decide)(hs:swapsWith e (some (.Attribute (.Name x p0) f pos')) pos.line X.env=pure false:=by rfl):OS X C ℓ (.Assign [.Attribute (.Name x p0) f pos'] e pos) (Z8 f g):=by
 have⟨t,pe,q⟩:=he;refine⟨_,zbB (yl (i:=ℓ) hN hv hd hcd) pe hs,λH0 os0 p D σ H os ρ fs r R e k=>?_⟩;have⟨d,e1,e2⟩:=bind_some e;split at e2
 ·rename_i hl;cases e2;refine q σ H os ρ fs d _ R.wN e1 λa xs H' n s hx rv=>?_
  have⟨A,h1,h2,h3,h4⟩:=R.ob;have nA:a∉A:=λz=>by
   have⟨o,e⟩:=h1.has a z;rw[n] at e;cases e
  have na0:H0 a=none:=R.sr.sm.free n;have nos:a∉os:=R.sr.rel.al.new n
  have h1':=h1.keep (jb n s) λb hb=>by
   have⟨o,e⟩:=h1.has b hb;rw[e];exact s b o e
  cases h1' with
  |ob hp r=>exact⟨_,R.self,_,_,_,_,rfl,hp,cl,na,by rw[r.len];exact hl,k _ _ _ (Yf (R.sr.grow n s hx rv) R.self hp r h2 (λb hb=>⟨List.mem_cons_of_mem _ (h3 b hb).1,(h3 b hb).2⟩) h4 (.ow hx rv) (List.nodup_cons.mpr ⟨by simp,.nil⟩) λb hb=>by
    rw[List.mem_singleton.mp hb];refine⟨.head _,na0,nA,λj c q m z=>?_⟩;have⟨b',o,w1,w2,_⟩:=R.sr.rel.mu j c q m;rw[z] at w1;cases w1;exact nos w2)⟩
 ·cases e2
def ofm(x:Str)(i:Nat):OFx:=λρ fs=>match ρ[i]? with
 |some (.ow ds)=>if fs.length<1000 then some (.nx (ρ.set i .no) (zJ x (.ow ds) fs)) else none
 |_=>none
theorem zi0(i:Nat){y:Str}{p1:Pos}(cl:Cls X.K C)(na:zH X.K C f)(hN:X.N[ℓ]?=some x:=by rfl)(hv:Vis X.env.scope x:=by trivial)(hd:NDx x:=by decide)(hcd:NCx x:=by decide)(hN1:X.N[i]?=some y:=by rfl)(hv1:Vis X.env.scope y:=by trivial)(hd1:NDx y:=by decide)(hcd1:NCx y:=by decide)(hs:swapsWith (.Name y p1) (some (.Attribute (.Name x p0) f pos')) pos.line X.env=pure false:=by rfl):OS X C ℓ (.Assign [.Attribute (.Name x p0) f pos'] (.Name y p1) pos) (ofm f i):=by
 refine⟨_,zbB (yl (i:=ℓ) hN hv hd hcd) (yl (i:=i) hN1 hv1 hd1 hcd1) hs,λH0 os0 p D σ H os ρ fs r R e k=>?_⟩;unfold ofm at e;split at e
 ·rename_i ds ei;split at e
  ·rename_i hl;cases e;have⟨a,xs,w1,w2,w3,w4⟩:=R.sr.rel.ow i ds ei;have⟨A,h1,h2,h3,h4⟩:=R.ob;have nA:a∉A:=λz=>h4 i _ ei rfl a z w1
   have dr:∀{j:Nat} {c:Sl},(ρ.set i .no)[j]?=some c->isM c=true->i≠j/\ρ[j]?=some c:=λ{j c} q m=>by
    rcases yf q with⟨_,_,z⟩|z
    ·rw[<-z] at m;cases m
    ·exact z
   cases h1 with
   |ob hp r=>
    refine⟨_,w1,_,R.self,_,_,_,_,rfl,hp,cl,na,by rw[r.len];exact hl,k _ _ _ (Yf (R.sr.drop i) R.self hp r h2 h3 (λj c q m b hb=>h4 j c (dr q m).2 m b hb) (.ow w3 w4) (List.nodup_cons.mpr ⟨by simp,.nil⟩) λb hb=>?_)⟩;rw[List.mem_singleton.mp hb];exact⟨w2,R.sr.own i _ ei rfl a w1,nA,λj c q m z=>R.sr.ap i j _ c (dr q m).1 ei (dr q m).2 rfl m a w1 z⟩
  ·cases e
 ·cases e
end
section
variable{K:FRx}{C:AdX}{ℓ:Nat}{H0 H H':Hp}{os0 os:LAd}{p:AdX}{σ:St}{ρ:Ro}{fs:Ob}
theorem yT.chg{x:Str}{a:AdX}{ys:List V}{es:LPd}(ha:a∈os)(rs:Reps K (offs H os) ys es):∀{vs:List (Str×V)} {fs:Ob} {A:LAd} {ds:LPd},yT K H os vs fs A->A.Nodup->fld x fs=some (.ow ds)->vs.lookup x=some (.ref a)->
  yT K (upd H a (.lst ys)) os vs (zJ x (.ow es) fs) A/\a∈A
 |_,_,_,_,.nil,_,q,_=>by cases q
 |_,_,_,ds,@yT.cons _ _ _ y u d vs fs A0 B0 h r,nd,q,l=>by
  have so:Same (offs H os) (offs (upd H a (.lst ys)) os):=by rw[yF ha];exact Same.refl _
  unfold fld at q;unfold zJ;by_cases z:x=y
  ·rw[if_pos z] at q;rw[if_pos z.symm];cases q;rw[List.lookup_cons,show(x==y)=true from beq_iff_eq.mpr z] at l;cases l;cases h with
   |ow h1 h2=>exact⟨.cons (.ow zE (by rw[yF ha];exact rs)) (r.keep so λb hb=>zO λw=>zfW nd a (.head _) (by rw[<-w];exact hb)),.head _⟩
  ·rw[if_neg z] at q;rw[if_neg (Ne.symm z)];rw[List.lookup_cons,show(x==y)=false from beq_eq_false_iff_ne.mpr z] at l;obtain⟨h1,h2⟩:=yT.chg ha rs r (zga nd) q l;exact⟨.cons (h.keep so λb hb=>zO λw=>zfW nd b hb (by rw[w];exact h2)) h1,List.mem_append.mpr (.inr h2)⟩
theorem MSt.lst(h:MSt K C ℓ H0 os0 p H os σ ρ fs){x:Str}{ds:LPd}(q:fld x fs=some (.ow ds)):∃dx vs a xs,H p=some (.ins C dx vs)/\vs.lookup x=some (.ref a)/\H a=some (.lst xs)/\a∈os/\Reps K (offs H os) xs ds:=by
 have⟨A,h1,h2,h3,h4⟩:=h.ob;cases h1 with
 |ob hp r=>
  have⟨v,B,l,o,hB⟩:=r.look q;cases o with
  |ow ha rv=>exact⟨_,_,_,_,hp,l,ha,(h3 _ (.tail _ (hB _ (.head _)))).1,rv⟩
theorem MSt.ziX(h:MSt K C ℓ H0 os0 p H os σ ρ fs){x:Str}{ds es:LPd}{dx a:AdX}{vs:List (Str×V)}{ys:List V}(q:fld x fs=some (.ow ds))(hp:H p=some (.ins C dx vs))(l:vs.lookup x=some (.ref a))(rs:Reps K (offs H os) ys es):MSt K C ℓ H0 os0 p (upd H a (.lst ys)) os σ ρ (zJ x (.ow es) fs):=by
 have⟨A,h1,h2,h3,h4⟩:=h.ob;cases h1 with
 | @ob _ _ _ _ _ A hp' r=>
  rw[hp] at hp';cases hp';have⟨pA,nd⟩:=List.nodup_cons.mp h2;have⟨v,B,l',o,hB⟩:=r.look q;rw[l] at l';cases l';have aA:a∈A:=by
   cases o with
   |ow ha rv=>exact hB a (.head _)
  obtain⟨ao,a0⟩:=h3 a (.tail _ aA);have⟨r',_⟩:=r.chg ao rs nd q l;have pa:p≠a:=λz=>pA (by rw[z];exact aA)
  exact⟨h.sr.zmp ao a0 λj c q m=>h4 j c q m a (.tail _ aA),h.self,p::A,.ob (by rw[zO pa];exact hp) r',h2,h3,h4⟩
end
section
variable{X:Cx}{C:AdX}{ℓ:Nat}{e:Expr}{pos apos cpos p0 p1 p2:Pos}{x f:Str}
def oap(x:Str)(g:OPx):OFx:=λρ fs=>match fld x fs with
 |some (.ow ds)=>(g ρ fs).bind λd=>if ds.length<16777216 then some (.nx ρ (zJ x (.ow (ds++[d])) fs)) else none
 |_=>none
theorem ziu{g:OPx}(cl:Cls X.K C)(na:zH X.K C f)(he:GE X C ℓ e g)(hN:X.N[ℓ]?=some x:=by rfl)(hv:Vis X.env.scope x:=by trivial)(hd:NDx x:=by decide)(hcd:NCx x:=by decide)(hb:ABx X (.Name x p0) f:=by rfl)(hbase:ABx X (.Attribute (.Name x p0) f p1) "append":=by rfl)(hfew:FWx X cpos [e]:=by rfl)(hline:(apos.endLine==cpos.line)=true:=by rfl)(hs:SEx X e []:=by rfl)(hsw:swapsWith (.Call (.Attribute (.Attribute (.Name x p0) f p1) "append" apos) [e] [] cpos) none pos.line X.env=pure false:=by rfl):OS X C ℓ (.Expr (.Call (.Attribute (.Attribute (.Name x p0) f p1) "append" apos) [e] [] cpos) pos) (oap f g):=by
 have⟨t,pe,q⟩:=he;refine⟨_,u3 (U1 PySem.F.plainAttrs_list PySem.F.slot_list_append PySem.F.type_list_append uj (va (yl (i:=ℓ) hN hv hd hcd) hb) (yD pe xv hs) hbase hfew hline hs) hsw,λH0 os0 p D σ H os ρ fs r R e k=>?_⟩;unfold oap at e;split at e
 ·rename_i ds ef;have⟨d,e1,e2⟩:=bind_some e;split at e2
  ·rename_i hl;cases e2;have⟨dx,vs,a,xs,hp,l,ha,ao,rv⟩:=R.lst ef;refine⟨_,R.self,_,_,_,_,_,rfl,hp,cl,na,l,.inl ⟨rfl,_,SqL.of ha⟩,q σ H os ρ fs d _ R.wN e1 λv H' s rd=>?_⟩;exact⟨a,xs,v,rfl,rfl,s _ _ ha,by rw[rv.length];exact hl,k _ _ os ((R.same s).ziX ef (s _ _ hp) l ((rv.same (zl s os)).append (.cons rd .nil)))⟩
  ·cases e2
 ·cases e
def opo(i:Nat)(x:Str)(g:OPx):OFx:=λρ fs=>match fld x fs,g ρ fs with
 |some (.ow ds),some (.int n)=>if 0<=n/\n<ds.length/\ds.length<=16777216 then (ds[n.toNat]?).bind λd=>some (.nx (ρ.set i (.pu d)) (zJ x (.ow (ds.eraseIdx n.toNat)) fs)) else none
 |_,_=>none
theorem zjo(i:Nat){y:Str}{pos':Pos}{g:OPx}(hNd:X.N.Nodup)(cl:Cls X.K C)(na:zH X.K C f)(he:GE X C ℓ e g)(h0:i≠ℓ:=by decide)(hi:X.N[i]?=some y:=by rfl)(hx:Loc X.env.scope y:=by trivial)(hf:FNx X y:=by trivial)(hN:X.N[ℓ]?=some x:=by rfl)(hv:Vis X.env.scope x:=by trivial)(hd:NDx x:=by decide)(hcd:NCx x:=by decide)(hb:ABx X (.Name x p0) f:=by rfl)(hbase:ABx X (.Attribute (.Name x p0) f p1) "pop":=by rfl)(hfew:FWx X cpos [e]:=by rfl)(hline:(apos.endLine==cpos.line)=true:=by rfl)(hs:SEx X e []:=by rfl)(hsw:swapsWith (.Call (.Attribute (.Attribute (.Name x p0) f p1) "pop" apos) [e] [] cpos) (some (.Name y pos')) pos.line X.env=pure false:=by rfl):OS X C ℓ (.Assign [.Name y pos'] (.Call (.Attribute (.Attribute (.Name x p0) f p1) "pop" apos) [e] [] cpos) pos) (opo i f g):=by
 have⟨t,pe,q⟩:=he;refine⟨_,w8 hNd hi hx (U1 PySem.F.plainAttrs_list PySem.F.slot_list_pop PySem.F.type_list_pop Vz (va (yl (i:=ℓ) hN hv hd hcd) hb) (yD pe xv hs) hbase hfew hline hs) hsw hf,λH0 os0 p D σ H os ρ fs r R e k=>?_⟩;unfold opo at e;split at e
 ·rename_i ds n ef e1;split at e
  ·rename_i hl;have⟨hl1,hl2,hl3⟩:=hl;have⟨d,e2,e3⟩:=bind_some e;cases e3;have⟨dx,vs,a,xs,hp,l,ha,ao,rv⟩:=R.lst ef;have hlen:=rv.length;refine⟨_,R.self,_,_,_,_,_,rfl,hp,cl,na,l,.inl ⟨rfl,_,SqL.of ha⟩,q σ H os ρ fs _ _ R.wN e1 λv H' s rd=>?_⟩;cases rd;have hlt:n.toNat<xs.length:=by omega
   have⟨u,eu,ru⟩:=rv.getD e2;refine⟨a,xs,n,n.toNat,u,rfl,rfl,s _ _ ha,by omega,by omega,?_,eu,?_⟩
   ·unfold seqIndex?;dsimp only;rw[if_neg (by omega:¬n<0),if_pos (by rw[Bool.and_eq_true];exact⟨decide_eq_true hl1,decide_eq_true (by omega)⟩)]
   ·exact k _ _ os (((R.same s).ziX ef (s _ _ hp) l (we _ (rv.same (zl s os)))).set h0 (by rw[yF ao];exact ru.same (zl s os)))
  ·cases e
 ·cases e
def opl(i j:Nat)(g:OPx):OFx:=λρ fs=>match ρ[j]?,g ρ fs with
 |some (.ow ds),some (.int n)=>if 0<=n/\n<ds.length/\ds.length<=16777216 then (ds[n.toNat]?).bind λd=>some (.nx ((ρ.set j (.ow (ds.eraseIdx n.toNat))).set i (.pu d)) fs) else none
 |_,_=>none
theorem ziY(i j:Nat){y z:Str}{pos':Pos}{g:OPx}(hNd:X.N.Nodup)(he:GE X C ℓ e g)(h0:i≠ℓ:=by decide)(hi:X.N[i]?=some y:=by rfl)(hx:Loc X.env.scope y:=by trivial)(hf:FNx X y:=by trivial)(hN:X.N[j]?=some z:=by rfl)(hv:Vis X.env.scope z:=by trivial)(hd:NDx z:=by decide)(hcd:NCx z:=by decide)(hbase:ABx X (.Name z p1) "pop":=by rfl)(hfew:FWx X cpos [e]:=by rfl)(hline:(apos.endLine==cpos.line)=true:=by rfl)(hs:SEx X e []:=by rfl)(hsw:swapsWith (.Call (.Attribute (.Name z p1) "pop" apos) [e] [] cpos) (some (.Name y pos')) pos.line X.env=pure false:=by rfl):OS X C ℓ (.Assign [.Name y pos'] (.Call (.Attribute (.Name z p1) "pop" apos) [e] [] cpos) pos) (opl i j g):=by
 have⟨t,pe,q⟩:=he;refine⟨_,w8 hNd hi hx (U1 PySem.F.plainAttrs_list PySem.F.slot_list_pop PySem.F.type_list_pop Vz (yl hN hv hd hcd) (yD pe xv hs) hbase hfew hline hs) hsw hf,λH0 os0 p D σ H os ρ fs r R e k=>?_⟩;unfold opl at e;split at e
 ·rename_i ds n ef e1;split at e
  ·rename_i hl;have⟨hl1,hl2,hl3⟩:=hl;have⟨d,e2,e3⟩:=bind_some e;cases e3;have⟨a,xs,w1,ao,ha,rv⟩:=R.sr.rel.ow j ds ef;have hlen:=rv.length;refine⟨_,w1,.inl ⟨rfl,_,SqL.of ha⟩,q σ H os ρ fs _ _ R.wN e1 λv H' s rd=>?_⟩;cases rd;have hlt:n.toNat<xs.length:=by omega
   have⟨u,eu,ru⟩:=rv.getD e2;refine⟨a,xs,n,n.toNat,u,rfl,rfl,s _ _ ha,by omega,by omega,?_,eu,?_⟩
   ·unfold seqIndex?;dsimp only;rw[if_neg (by omega:¬n<0),if_pos (by rw[Bool.and_eq_true];exact⟨decide_eq_true hl1,decide_eq_true (by omega)⟩)]
   ·exact k _ _ os (((R.same s).chg ef w1 (we _ (rv.same (zl s os)))).set h0 (by rw[yF ao];exact ru.same (zl s os)))
  ·cases e
 ·cases e
end
def isort(ns:List Int):List Int:=ns.mergeSort (λa b=>decide (a<=b))
theorem zeA{ns' ns:List Int}(p:ns'.Perm ns)(h:ns'.Pairwise (·<=·)):ns'=isort ns:=by
 have h2:(isort ns).Pairwise (λa b=>decide (a<=b)=true):=List.pairwise_mergeSort (λa b c=>by simp only [decide_eq_true_eq];omega) (λa b=>by simp only [Bool.or_eq_true,decide_eq_true_eq];omega) ns;have h3:(isort ns).Pairwise (·<=·):=h2.imp λh=>by simpa using h
 exact List.Perm.eq_of_pairwise (λa b _ _ h1 h2=>Int.le_antisymm h1 h2) h h3 (p.trans (List.mergeSort_perm ns _).symm)
theorem UR(ns:List Int):(isort ns).Perm ns:=List.mergeSort_perm ns _
theorem zdz:∀{ns:List Int} {us:LVl},Vals (ns.map V.int) us->IntsAre us ns
 |[],_,h=>by cases h;exact .nil
 |n::ns,_,h=>by
  cases h with
  |cons h r=>
   have ih:=zdz r;obtain⟨t,rfl⟩:=h;exact .cons _ _ ih
theorem J8:∀{ns:List Int} {us:LVl},Vals (ns.map V.int) us->us.length=ns.length
 |[],_,h=>by cases h;rfl
 |n::ns,_,h=>by
  cases h with
  |cons h r=>simp only [List.length_cons,J8 r]
theorem zh1{ns:List Int}{us:LVl}(h:IntsAre us ns):Vals (ns.map V.int) us:=by
 induction h with
 |nil=>exact .nil
 |cons n t _ ih=>exact .cons ⟨t,rfl⟩ ih
section
variable{X:Cx}
theorem zgz:bootBuiltins "sorted"=some (.builtin "sorted"):=by decide+kernel
theorem zdj:wk X (.builtin "sorted") (λxs H Q=>∃(p:AdX)(ns:List Int),xs=[.ref p]/\SqL X.K H p (ns.map V.int)/\ns.length<64/\∀l,H l=none->Q (.ref l) (upd H l (.lst ((isort ns).map V.int)))):=by
 intro pins s σ H xs us Q I r h;obtain⟨p,ns,rfl,hS,h64,q⟩:=h;obtain⟨u,rfl,ru⟩:=vals1 r;cases ru;have⟨its,rv,pl,hz⟩:=I.list hS;have hL:=pl.isList;have hlen:its.length=ns.length:=J8 rv
 refine sorted_ints hL (zdz rv) (by omega) λout ns' a1 a2 a3=>?_
 have e:=zeA a2 a3;subst e;have⟨c',hc'⟩:=sortedAll_at s.heap its out
 refine⟨.ref (s.heap.objs.size+1),_,I.laid (o:=.lst ((isort ns).map V.int)) (t':=s.toks) (λb o e=>sortedAll_old e) (Nat.le_succ _) ⟨?_,out.toList,c',zh1 a1,?_⟩,rfl,q _ (I.hok.fresh (Nat.le_succ _))⟩
 ·rw[List.length_map,(UR ns).length_eq]
  have:=Wg;show ns.length<=16777216
  omega
 ·simpa using hc'
end
section
variable{X:Cx}{e:Expr}{pos apos cpos p1:Pos}
def zeB(i j:Nat)(g:RPx):RFx:=λρ=>match ρ[j]?,g ρ with
 |some (.ow ds),some (.int n)=>if 0<=n/\n<ds.length/\ds.length<=16777216 then (ds[n.toNat]?).bind λd=>some (.nx ((ρ.set j (.ow (ds.eraseIdx n.toNat))).set i (.pu d))) else none
 |_,_=>none
theorem zlw(i j:Nat){y z:Str}{pos':Pos}{g:RPx}(hNd:X.N.Nodup)(he:FE X e g)(hi:X.N[i]?=some y:=by rfl)(hx:Loc X.env.scope y:=by trivial)(hf:FNx X y:=by trivial)(hN:X.N[j]?=some z:=by rfl)(hv:Vis X.env.scope z:=by trivial)(hd:NDx z:=by decide)(hcd:NCx z:=by decide)(hbase:ABx X (.Name z p1) "pop":=by rfl)(hfew:FWx X cpos [e]:=by rfl)(hline:(apos.endLine==cpos.line)=true:=by rfl)(hs:SEx X e []:=by rfl)(hsw:swapsWith (.Call (.Attribute (.Name z p1) "pop" apos) [e] [] cpos) (some (.Name y pos')) pos.line X.env=pure false:=by rfl):FS X (.Assign [.Name y pos'] (.Call (.Attribute (.Name z p1) "pop" apos) [e] [] cpos) pos) (zeB i j g):=by
 have⟨t,pe,q⟩:=he;refine⟨_,w8 hNd hi hx (U1 PySem.F.plainAttrs_list PySem.F.slot_list_pop PySem.F.type_list_pop Vz (yl hN hv hd hcd) (yD pe xv hs) hbase hfew hline hs) hsw hf,λH0 os0 D σ H os ρ r R e k=>?_⟩;unfold zeB at e;split at e
 ·rename_i ds n ef e1;split at e
  ·rename_i hl;have⟨hl1,hl2,hl3⟩:=hl;have⟨d,e2,e3⟩:=bind_some e;cases e3;have⟨a,xs,w1,ao,ha,rv⟩:=R.rel.ow j ds ef;have hlen:=rv.length;refine⟨_,w1,.inl ⟨rfl,_,SqL.of ha⟩,q σ H os ρ _ _ R.rel e1 λv H' s rd=>?_⟩;cases rd;have⟨u,eu,ru⟩:=rv.getD e2
   refine⟨a,xs,n,n.toNat,u,rfl,rfl,s _ _ ha,by omega,by omega,?_,eu,?_⟩
   ·unfold seqIndex?;dsimp only;rw[if_neg (by omega:¬n<0),if_pos (by rw[Bool.and_eq_true];exact⟨decide_eq_true hl1,decide_eq_true (by omega)⟩)]
   ·refine k _ _ os (((R.same s).chg ef w1 (we _ (rv.same (zl s os)))).set (by rw[yF ao];exact ru.same (zl s os))) ?_;rw[yF ao];exact zl s os
  ·cases e
 ·cases e
end
def GIB(X:Cx)(C:AdX)(ℓ:Nat)(tg iter:Expr)(f:OLx):Prop:=∃wi:TI,PI X tg iter wi/\∀(σ:St)(H:Hp)(os:LAd)(ρ:Ro)(fs:Ob)(ds:LPd)(R:It->Hp->Prop),vC X.K C ℓ H os σ ρ fs->f ρ fs=some ds->
  (∀J H',Same H H'->Walks X.K H' (offs H' os) J ds->R J H')->wi σ H R
def GAB(X:Cx)(C:AdX)(ℓ:Nat)(es:List Expr)(f:OLx):Prop:=∃t:TA,PA X es t/\∀(σ:St)(H:Hp)(os:LAd)(ρ:Ro)(fs:Ob)(ds:LPd)(Q:List V->Hp->Prop),vC X.K C ℓ H os σ ρ fs->f ρ fs=some ds->
  (∀vs H',Same H H'->jS X.K H' os vs ds->Q vs H')->t σ H Q
def gA0:OLx:=λ_ _=>some []
def gAC(f:OPx)(g:OLx):OLx:=λρ fs=>(f ρ fs).bind λx=>(g ρ fs).map (x::·)
def gsq(g:OPx):OLx:=λρ fs=>match g ρ fs with
 |some (.list ds)=>some ds
 |some (.tuple ds)=>some ds
 |_=>none
def gzp(t1 t2:Bool)(g:OLx):OLx:=λρ fs=>match g ρ fs with
 |some [x,y]=>match kindOf x,kindOf y with
  |some (k1,xs),some (k2,ys)=>if k1=t1/\k2=t2 then some (Jk xs ys) else none
  |_,_=>none
 |_=>none
section
variable{X:Cx}{C:AdX}{ℓ:Nat}{tg iter l a b e:Expr}{es tes:List Expr}{f:OPx}{g:OLx}{p pos tp:Pos}
theorem FIB.gib{f:RLx}(h:FIB X tg iter f):GIB X C ℓ tg iter (λρ _=>f ρ):=by
 have⟨t,p,q⟩:=h;exact⟨t,p,λσ H os ρ fs d Q R e k=>q σ H os ρ d Q R.rel e k⟩
theorem ziS(hl:GB X C ℓ l f):GIB X C ℓ tg l (gsq f):=by
 have⟨t,pl,ql⟩:=hl;refine⟨_,zdU pl,λσ H os ρ fs ds R rel e k=>?_⟩;unfold gsq at e;split at e
 ·rename_i es e1;cases e;refine ql σ H os ρ fs _ _ rel e1 λv H' s r=>?_
  obtain⟨a,xs,rfl,hS,r⟩:=r.lst;exact⟨_,false,rfl,⟨_,hS⟩,k _ H' s (jZ (t:=false) hS r)⟩
 ·rename_i es e1;cases e;refine ql σ H os ρ fs _ _ rel e1 λv H' s r=>?_
  obtain⟨a,xs,rfl,hS,_,r⟩:=r.tup;exact⟨_,true,rfl,⟨_,hS⟩,k _ H' s (jZ (t:=true) hS r)⟩
 ·cases e
theorem Vu:GAB X C ℓ [] gA0:=⟨_,xv,λ_ H _ _ _ _ _ _ q k=>by cases q;exact k [] H (Same.refl H) .nil⟩
theorem uu(ha:GB X C ℓ e f)(hr:GAB X C ℓ es g)(hs:SEx X e es:=by rfl):GAB X C ℓ (e::es) (gAC f g):=by
 have⟨ta,pa,qa⟩:=ha;have⟨tb,pb,qb⟩:=hr;refine⟨_,yD pa pb hs,λσ H os ρ fs ds Q R q k=>?_⟩;have⟨d,e1,q⟩:=bind_some q;have⟨r,e2,e3⟩:=map_some q;subst e3;exact qa σ H os ρ fs d _ R e1 λx H1 s1 r1=>qb σ H1 os ρ fs r _ (R.same s1) e2 λxs H2 s2 r2=>k _ H2 (s1.trans s2) (.cons (r1.same s2) r2)
theorem zkh{kk:Nat}(t1 t2:Bool)(hg:Gl X "zip")(hm:X.mg "zip"=none)(ha:GAB X C ℓ [a,b] g)(hs:starEach [a,b] X.env=[(false,eval a X.env),(false,eval b X.env)]:=by rfl)(hs2:starEach [b] X.env=[(false,eval b X.env)]:=by rfl):GIB X C ℓ (.Tuple tes kk tp) (.Call (.Name "zip" p) [a,b] [] pos) (gzp t1 t2 g):=by
 have⟨t,pa,qa⟩:=ha;refine⟨_,zbG t1 t2 hg hm pa hs hs2,λσ H os ρ fs ds R rel e k=>?_⟩;unfold gzp at e;split at e
 ·rename_i x y e1;split at e
  ·rename_i k1 xs k2 ys e2 e3;split at e
   ·rename_i hc;cases e;obtain⟨rfl,rfl⟩:=hc;refine qa σ H os ρ fs _ _ rel e1 λvs H' s r=>?_
    obtain⟨v,u,rfl,r1,r2⟩:=r.two;obtain⟨a1,us,rfl,h1,q1⟩:=uw r1 e2;obtain⟨a2,ws,rfl,h2,q2⟩:=uw r2 e3;exact⟨a1,a2,rfl,⟨_,h1⟩,⟨_,h2⟩,k _ H' s (JM h1 h2 q1 q2)⟩
   ·cases e
  ·cases e
 ·cases e
end
def GJ(X:Cx)(C:AdX)(j:Nat)(e:Expr)(f:OPx):Prop:=∃t:TE,PE X e t/\∀(σ:St)(H:Hp)(os:LAd)(ρ:Ro)(fs:Ob)(p:AdX)(A:LAd)(d:PdX)(Q:VK),xo X.K H os σ ρ->σ[j]?=some (some (.ref p))->FOk X.K H os (.ref p) (.ob C fs) A->(∀a∈A,a∈os)->f ρ fs=some d->
  (∀v H',Same H H'->Rep X.K (offs H' os) v d->Q v H')->t σ H Q
def GJA(X:Cx)(C:AdX)(j:Nat)(es:List Expr)(f:OLx):Prop:=∃t:TA,PA X es t/\∀(σ:St)(H:Hp)(os:LAd)(ρ:Ro)(fs:Ob)(p:AdX)(A:LAd)(ds:LPd)(Q:List V->Hp->Prop),xo X.K H os σ ρ->σ[j]?=some (some (.ref p))->FOk X.K H os (.ref p) (.ob C fs) A->(∀a∈A,a∈os)->f ρ fs=some ds->
  (∀vs H',Same H H'->Reps X.K (offs H' os) vs ds->Q vs H')->t σ H Q
section
variable{X:Cx}{C:AdX}{ℓ:Nat}{j k k':Nat}{e:Expr}{es:List Expr}{f:OPx}{g:OLx}{p pos p0:Pos}{x:Str}{ps:LSr}
theorem FE.gj{f:RPx}(h:FE X e f):GJ X C j e (λρ _=>f ρ):=by
 have⟨t,p,q⟩:=h;exact⟨t,p,λσ H os ρ fs _ _ d Q R _ _ _ e k=>q σ H os ρ d Q R e k⟩
theorem zfE:GJA X C j [] gA0:=⟨_,xv,λ_ H _ _ _ _ _ _ _ _ _ _ _ q k=>by cases q;exact k [] H (Same.refl H) .nil⟩
theorem ux(ha:GJ X C j e f)(hr:GJA X C j es g)(hs:SEx X e es:=by rfl):GJA X C j (e::es) (gAC f g):=by
 have⟨ta,pa,qa⟩:=ha;have⟨tb,pb,qb⟩:=hr;refine⟨_,yD pa pb hs,λσ H os ρ fs p A ds Q R sj o oA q k=>?_⟩;have⟨d,e1,q⟩:=bind_some q;have⟨r,e2,e3⟩:=map_some q;subst e3;exact qa σ H os ρ fs p A d _ R sj o oA e1 λx H1 s1 r1=>qb σ H1 os ρ fs p A r _ (R.same s1) sj (o.same s1) oA e2 λxs H2 s2 r2=>k _ H2 (s1.trans s2) (.cons (r1.same (zl s2 os)) r2)
theorem zli{n:Str}(cl:Cls X.K C)(na:zH X.K C n)(hN:X.N[j]?=some x:=by rfl)(hv:Vis X.env.scope x:=by trivial)(hd:NDx x:=by decide)(hcd:NCx x:=by decide)(hb:ABx X (.Name x p0) n:=by rfl):GJ X C j (.Attribute (.Name x p0) n pos) (gf n):=by
 refine⟨_,va (yl (i:=j) hN hv hd hcd) hb,λσ H os ρ fs p A d Q R sj o oA e k=>?_⟩;cases o with
 |ob hp r=>
  unfold gf at e;split at e
  ·rename_i d' ef;cases e;have⟨v,B,l,o,_⟩:=r.look ef;cases o with
   |pu rv=>exact⟨_,sj,_,_,_,_,_,rfl,hp,cl,na,l,k _ H (Same.refl H) rv⟩
  ·cases e
def gcall(h:LPx)(g:OLx):OPx:=λρ fs=>(g ρ fs).bind h
theorem zjp{h:LPx}(D:yq X.prog X.w X.K X.mg X.base k x ps h)(hr:Room k' X.A)(hg:Gl X x)(ha:GJA X C j (e::es) g)(hk:k<=k':=by decide)(hdb:NDx x:=by decide)(he:SEx X e es:=by rfl)(hpl:PLx X pos es:=by rfl):GJ X C j (.Call (.Name x p) (e::es) [] pos) (gcall h g):=by
 have⟨t,pa,qa⟩:=ha;refine⟨_,Wv D hr hg Jg pa hk hdb he hpl,λσ H os ρ fs p A c Q R sj o oA q k=>?_⟩;have⟨ds,e1,e2⟩:=bind_some q;refine qa σ H os ρ fs p A ds _ R sj o oA e1 λvs H' s rv=>?_
 rw[List.append_nil];exact⟨os,ds,c,R.al.same s,rv,e2,λv H2 s2=>k v H2 (s.trans s2)⟩
end
def tJ(K:FRx)(C:AdX)(j:Nat)(f:OPx):TE:=λσ H Q=>∃fs os ρ d p A,xo K H os σ ρ/\σ[j]?=some (some (.ref p))/\FOk K H os (.ref p) (.ob C fs) A/\(∀a∈A,a∈os)/\f ρ fs=some d/\∀v H',Same H H'->Rep K (offs H' os) v d->Q v H'
theorem GJ.pe{X:Cx}{C:AdX}{j:Nat}{e:Expr}{f:OPx}(h:GJ X C j e f):PE X e (tJ X.K C j f):=by
 have⟨t,p,q⟩:=h;intro pins s σ H Q I z;have⟨fs,os,ρ,d,a,A,R,sj,o,oA,e1,k⟩:=z;exact p pins s σ H Q I (q σ H os ρ fs a A d Q R sj o oA e1 k)
theorem Zv{K:FRx}{T:Nat}{F:LNt}{b:PyData->Ro->Option Ro}{fe:OPx}{σ:St}{ρ:Ro}{H1:Hp}{os:LAd}{D:AdX}{is:LNt}{k:Addr->Hp->Prop}{J:It}{ds rs:LPd}{C:AdX}{fs:Ob}{j:Nat}{p:AdX}{A:LAd}(his:∀i∈is,i<T)(R:xo K H1 os σ ρ)(hj:(F[j]?).bind (λi=>(σ[i]?).join)=some (.ref p))(hO:FOk K H1 os (.ref p) (.ob C fs) A)(hOA:∀a∈A,a∈os)(hn:ds.length<=16777216)(hD:H1 D=none)(W:Walks K H1 (offs H1 os) J ds)(hm:Jj (λd=>(b d (compEnv T F ρ)).bind λρ'=>fe ρ' fs) ds=some rs)(fin:∀H' xs,Same H1 H'->H' D=some (.lst xs)->Reps K (offs H' (D::os)) xs rs->k D H'):zg7 T F (gF K is b) (tJ K C (T+j) fe) k σ H1 D J:=by
 have hlr:=YN hm;have so:∀H',Same H1 H'->Same (offs H1 os) (offs H' (D::os)):=λH' s c o z=>by
  by_cases hb:c∈os
  ·rw[xw hb] at z;cases z
  ·rw[zt hb] at z;rw[zt]
   ·exact s c o z
   ·intro w;rcases List.mem_cons.mp w with w|w
    ·rw[w,hD] at z;cases z
    ·exact hb w
 have al:∀H' xs,Same H1 H'->H' D=some (.lst xs)->Al H' (D::os):=λH' xs s hx a ha=>by
  rcases List.mem_cons.mp ha with z|z
  ·subst z;exact⟨_,hx⟩
  ·have⟨o,e⟩:=R.al a z;exact⟨o,s _ _ e⟩
 refine⟨λi m σ' H'=>m=ds.length - i/\i<=ds.length/\(∃ts:St,ts.length=T/\σ'=ts++F.map λj=>(σ[j]?).join)/\Same H1 H'/\∃xs,H' D=some (.lst xs)/\Reps K (offs H' (D::os)) xs (rs.take i),
  ⟨ds.length,rfl,Nat.zero_le _,⟨List.replicate T none,by simp,rfl⟩,zW hD _,[],zE,.nil⟩,?_⟩
 rintro i m σ' H' ⟨rfl,hi,⟨ts,hts,rfl⟩,sm,xs,hx,rp⟩;have hl:xs.length=i:=by
  have:=rp.length;rw[List.length_take,hlr] at this;omega
 obtain⟨w1,w2⟩:=W H' (D::os) (al H' xs sm hx) sm (so H' sm);by_cases hlt:i<ds.length
 ·obtain⟨d,hd⟩:∃d,ds[i]?=some d:=⟨_,List.getElem?_eq_getElem hlt⟩;have⟨g1,g2⟩:=w1 i d hd;have⟨r,hr,e⟩:=Y9 hm hd;have⟨ρ',e1,e2⟩:=bind_some e;refine .inr ⟨g1,λσ2 H2=>i+1<=ds.length/\(∃ts:St,ts.length=T/\σ2=ts++F.map λj=>(σ[j]?).join)/\Same H1 H2/\∃xs,H2 D=some (.lst xs)/\Reps K (offs H2 (D::os)) xs (rs.take (i+1)),?_,?_⟩
  ·rintro σ2 H2 ⟨h1,h2,h3,h4⟩;exact⟨ds.length - (i+1),by omega,rfl,h1,h2,h3,h4⟩
  ·intro x H2 hy;have⟨s2,rx⟩:=g2 x H2 hy;refine⟨D::os,d,compEnv T F ρ,ρ',rx,e1,λσ2 st=>?_⟩;have R2:xo K H2 (D::os) (ts++F.map λj=>(σ[j]?).join) (compEnv T F ρ):=ZG T F R hD (sm.trans s2) (s2 _ _ hx) hts;have hts2:∃ts':St,ts'.length=T/\σ2=ts'++F.map λj=>(σ[j]?).join:=st.tail his hts rfl
   have sj:σ2[T+j]?=some (some (.ref p)):=by
    have⟨ts',h1,h2⟩:=hts2;rw[h2,<-h1,List.getElem?_append_right (Nat.le_add_right _ _),Nat.add_sub_cancel_left,List.getElem?_map];cases hF:F[j]? with
    |none=>rw[hF] at hj;cases hj
    |some i=>
     rw[hF] at hj;exact congrArg some hj
   refine⟨fs,D::os,ρ',r,p,A,R2.sets st,sj,hO.keep (so H2 (sm.trans s2)) (λb hb=>by
    have⟨o,q⟩:=hO.has b hb;rw[q];exact(sm.trans s2) b o q),(λa ha=>List.mem_cons_of_mem _ (hOA a ha)),e2,λv H4 s4 rv=>?_⟩
   refine⟨xs,s4 _ _ (s2 _ _ hx),?_,hlt,hts2,((sm.trans s2).trans s4).V8 hD _,_,zE,?_⟩
   ·rw[hl];show i<16777216
    omega
   ·rw[je,List.take_add_one,hr];exact(rp.same (zl (s2.trans s4) _)).append (.cons rv .nil)
 ·have e:i=ds.length:=by omega
  subst e;refine .inl ⟨w2,fin H' xs sm hx ?_⟩;rw[<-hlr,List.take_length] at rp;exact rp
def ocomp(T:Nat)(F:LNt)(fi:OLx)(b:PyData->Ro->Option Ro)(fe:RPx):OLx:=λρ fs=>
 (fi ρ fs).bind λds=>if ds.length<=16777216 then Jj (λd=>(b d (compEnv T F ρ)).bind fe) ds else none
section
variable{X:Cx}{C:AdX}{ℓ:Nat}{elt tg iter:Expr}{scope:Scope}{pos pos' spos:Pos}{Ts:LSr}{F:LNt}{is:LNt}{fi:OLx}{b:PyData->Ro->Option Ro}{fe:RPx}{x:Str}
theorem zjl(i:Nat)(hN:X.N.Nodup)(hc:X.calm=true)(hi:GIB X C ℓ tg iter fi)(S:ya X scope)(hF:∀j∈F,∃x,X.N[j]?=some x/\scope.names.lookup x=some .free)(hg:∀cl C ex s H,FG (zV X (Ts++F.map λj=>X.N.getD j "") scope cl C ex s H) tg is b)(he:∀cl C ex s H,FE (zV X (Ts++F.map λj=>X.N.getD j "") scope cl C ex s H) elt fe)(his:∀i∈is,i<Ts.length:=by decide)(h0:i≠ℓ:=by decide)(hi':X.N[i]?=some x:=by rfl)(hx:X.env.scope.names.lookup x=some .local:=by rfl)(hsw:swapsWith (.ListComp elt [⟨tg,iter,[],0⟩] scope pos) (some (.Name x pos')) spos.line X.env=pure true:=by rfl)(hs:FSx X iter:=by exact λ_=>rfl):OS X C ℓ (.Assign [.Name x pos'] (.ListComp elt [⟨tg,iter,[],0⟩] scope pos) spos) (WL i (ocomp Ts.length F fi b fe)):=by
 have⟨wi,pi,qi⟩:=hi;refine⟨_,Up (Ts:=Ts) (F:=F) (g:=gF X.K is b) (te:=tF X.K fe) hN hi' hx hc pi S hF hg (λcl C ex s H=>(he cl C ex s H).pe) hsw hs,λH0 os0 p D σ H os ρ fs r R q k=>?_⟩;have⟨ds,e1,q⟩:=bind_some q;cases q;have⟨es,e1,q⟩:=bind_some e1;split at q
 ·rename_i hl;refine qi σ H os ρ fs es _ R.wN e1 λJ H' s W D hD=>?_
  exact u6 his (R.sr.rel.same s) hl hD W q λH2 xs s2 hx r=>k _ _ _ (R.W5 h0 (s.free hD) (s.trans s2) hx r)
 ·cases q
def Uo(T:Nat)(F:LNt)(fi:OLx)(b:PyData->Ro->Option Ro)(fe:OPx):OLx:=λρ fs=>
 (fi ρ fs).bind λds=>if ds.length<=16777216 then Jj (λd=>(b d (compEnv T F ρ)).bind λρ'=>fe ρ' fs) ds else none
theorem zhu(i j:Nat){fe:OPx}(hN:X.N.Nodup)(hc:X.calm=true)(hi:GIB X C ℓ tg iter fi)(S:ya X scope)(hF:∀j∈F,∃x,X.N[j]?=some x/\scope.names.lookup x=some .free)(hj:F[j]?=some ℓ)(hg:∀cl C ex s H,FG (zV X (Ts++F.map λj=>X.N.getD j "") scope cl C ex s H) tg is b)(he:∀cl C' ex s H,GJ (zV X (Ts++F.map λj=>X.N.getD j "") scope cl C' ex s H) C (Ts.length+j) elt fe)(his:∀i∈is,i<Ts.length:=by decide)(h0:i≠ℓ:=by decide)(hi':X.N[i]?=some x:=by rfl)(hx:X.env.scope.names.lookup x=some .local:=by rfl)(hsw:swapsWith (.ListComp elt [⟨tg,iter,[],0⟩] scope pos) (some (.Name x pos')) spos.line X.env=pure true:=by rfl)(hs:FSx X iter:=by exact λ_=>rfl):OS X C ℓ (.Assign [.Name x pos'] (.ListComp elt [⟨tg,iter,[],0⟩] scope pos) spos) (WL i (Uo Ts.length F fi b fe)):=by
 have⟨wi,pi,qi⟩:=hi;refine⟨_,Up (Ts:=Ts) (F:=F) (g:=gF X.K is b) (te:=tJ X.K C (Ts.length+j) fe) hN hi' hx hc pi S hF hg (λcl C ex s H=>(he cl C ex s H).pe) hsw hs,λH0 os0 p D σ H os ρ fs r R q k=>?_⟩;have⟨ds,e1,q⟩:=bind_some q;cases q;have⟨es,e1,q⟩:=bind_some e1;split at q
 ·rename_i hl;refine qi σ H os ρ fs es _ R.wN e1 λJ H' s W D hD=>?_
  have⟨A,h1,_,h3,_⟩:=R.ob;exact Zv his (R.sr.rel.same s) (by rw[hj];show(σ[ℓ]?).join=_;rw[R.self];rfl) (h1.same s) (λa ha=>(h3 a ha).1) hl hD W q λH2 xs s2 hx r=>k _ _ _ (R.W5 h0 (s.free hD) (s.trans s2) hx r)
 ·cases q
end
section
variable{X:Cx}{C:AdX}{ℓ:Nat}{e:Expr}{pos apos cpos p0 p1 q0 q1:Pos}{apos' cpos':Pos}{x f h:Str}
def ziI(x y:Str)(g:OPx):OFx:=λρ fs=>match fld y fs,g ρ fs with
 |some (.ow ds),some (.int n)=>if 0<=n/\n<ds.length/\ds.length<=16777216 then (ds[n.toNat]?).bind λd=>match fld x (zJ y (.ow (ds.eraseIdx n.toNat)) fs) with
  |some (.ow es)=>if es.length<16777216 then some (.nx ρ (zJ x (.ow (es++[d])) (zJ y (.ow (ds.eraseIdx n.toNat)) fs))) else none
  |_=>none else none
 |_,_=>none
theorem zlf{g:OPx}(cl:Cls X.K C)(na:zH X.K C f)(nh:zH X.K C h)(he:GE X C ℓ e g)(hfh:¬f=h:=by decide)(hN:X.N[ℓ]?=some x:=by rfl)(hv:Vis X.env.scope x:=by trivial)(hd:NDx x:=by decide)(hcd:NCx x:=by decide)(hb:ABx X (.Name x p0) f:=by rfl)(hb':ABx X (.Name x q0) h:=by rfl)(hbase:ABx X (.Attribute (.Name x p0) f p1) "append":=by rfl)(hbase':ABx X (.Attribute (.Name x q0) h q1) "pop":=by rfl)(hfew':FWx X cpos' [e]:=by rfl)(hline':(apos'.endLine==cpos'.line)=true:=by rfl)(hs':SEx X e []:=by rfl)(hfew:((backTo cpos (starEach [.Call (.Attribute (.Attribute (.Name x q0) h q1) "pop" apos') [e] [] cpos'] X.env)).all (λx=>!x.1)&&(backToKw cpos (keywordEach [] X.env)).all (λx=>x.1.isSome)
   &&decide ([(.Call (.Attribute (.Attribute (.Name x q0) h q1) "pop" apos') [e] [] cpos':Expr)].length+([]:List Keyword).length+(if ([]:List Keyword).isEmpty then 0 else 1)<30))=true:=by rfl)(hline:(apos.endLine==cpos.line)=true:=by rfl)(hs:starEach [.Call (.Attribute (.Attribute (.Name x q0) h q1) "pop" apos') [e] [] cpos'] X.env=(false,eval (.Call (.Attribute (.Attribute (.Name x q0) h q1) "pop" apos') [e] [] cpos') X.env)::starEach [] X.env:=by rfl)(hsw:swapsWith (.Call (.Attribute (.Attribute (.Name x p0) f p1) "append" apos) [.Call (.Attribute (.Attribute (.Name x q0) h q1) "pop" apos') [e] [] cpos'] [] cpos) none pos.line X.env=pure false:=by rfl):OS X C ℓ (.Expr (.Call (.Attribute (.Attribute (.Name x p0) f p1) "append" apos) [.Call (.Attribute (.Attribute (.Name x q0) h q1) "pop" apos') [e] [] cpos'] [] cpos) pos) (ziI f h g):=by
 have⟨t,pe,q⟩:=he;refine⟨_,u3 (U1 PySem.F.plainAttrs_list PySem.F.slot_list_append PySem.F.type_list_append uj (va (yl (i:=ℓ) hN hv hd hcd) hb)
  (yD (U1 PySem.F.plainAttrs_list PySem.F.slot_list_pop PySem.F.type_list_pop Vz (va (yl (i:=ℓ) hN hv hd hcd) hb') (yD pe xv hs') hbase' hfew' hline' hs') xv hs) hbase hfew hline hs) hsw,λH0 os0 p D σ H os ρ fs r R e k=>?_⟩
 unfold ziI at e;split at e
 ·rename_i ds n ef e1;split at e
  ·rename_i hl;have⟨hl1,hl2,hl3⟩:=hl;have⟨d,e2,e3⟩:=bind_some e;split at e3
   ·rename_i es ef2;split at e3
    ·rename_i hl4;cases e3;have ef2':fld f fs=some (.ow es):=by
      have:∀l:Ob,fld f (zJ h (.ow (ds.eraseIdx n.toNat)) l)=fld f l:=by
       intro l;induction l with
       |nil=>
        show(if f=h then _ else none)=none
        rw[if_neg hfh]
       |cons y l ih=>
        obtain⟨y,c⟩:=y;unfold zJ;by_cases z:y=h
        ·rw[if_pos z];show(if f=y then _ else fld f l)=if f=y then _ else fld f l
         rw[if_neg (by rw[z];exact hfh),if_neg (by rw[z];exact hfh)]
        ·rw[if_neg z];show(if f=y then some c else fld f (zJ h _ l))=if f=y then some c else fld f l
         rw[ih]
      rw[<-this fs];exact ef2
     have⟨dx,vs,a,xs,hp,l,ha,ao,rv⟩:=R.lst ef2';have⟨dx2,vs2,a2,xs2,hp2,l2,ha2,ao2,rv2⟩:=R.lst ef;rw[hp] at hp2;cases hp2;have hlen:=rv2.length;refine⟨_,R.self,_,_,_,_,_,rfl,hp,cl,na,l,.inl ⟨rfl,_,SqL.of ha⟩,_,R.self,_,_,_,_,_,rfl,hp,cl,nh,l2,.inl ⟨rfl,_,SqL.of ha2⟩,q σ H os ρ fs _ _ R.wN e1 λv H' s rd=>?_⟩;cases rd;have⟨u,eu,ru⟩:=rv2.getD e2
     have R1:=(R.same s).ziX ef (s _ _ hp) l2 (we n.toNat (rv2.same (zl s os)));have⟨dx3,vs3,a3,xs3,hp3,l3,ha3,ao3,rv3⟩:=R1.lst ef2
     have pa:p≠a2:=λz=>by
      have w1:=s _ _ hp;rw[z,s _ _ ha2] at w1;cases w1
     rw[zO pa,s _ _ hp] at hp3;cases hp3;rw[l] at l3;cases l3;refine⟨a2,xs2,n,n.toNat,u,rfl,rfl,s _ _ ha2,by omega,by omega,?_,eu,?_⟩
     ·unfold seqIndex?;dsimp only;rw[if_neg (by omega:¬n<0),if_pos (by rw[Bool.and_eq_true];exact⟨decide_eq_true hl1,decide_eq_true (by omega)⟩)]
     ·refine⟨a,xs3,u,rfl,rfl,ha3,by rw[rv3.length];exact hl4,k _ _ os (R1.ziX ef2 (by rw[zO pa];exact s _ _ hp) l (rv3.append (.cons ?_ .nil)))⟩;rw[yF ao2];exact ru.same (zl s os)
    ·cases e3
   ·cases e3
  ·cases e
 ·cases e
end
def spM(K:FRx)(C:AdX)(h:MFx):Sp:=λvs H Q _=>∃p us os ds fs d fs' A,vs=.ref p::us/\FOk K H os (.ref p) (.ob C fs) A/\A.Nodup/\(∀a∈A,a∈os)/\Al H os/\Reps K (offs H os) us ds/\h fs ds=some (d,fs')/\
 ∀v H' os' A',Same (offs H A) H'->Al H' os'->FOk K H' os' (.ref p) (.ob C fs') A'->A'.Nodup->(∀a∈A',a∈os'/\offs H A a=none)->(∀a∈os,a∈A\/a∈os')->(∀a∈os',a∈os\/offs H A a=none)->Rep K (offs H' os') v d->Q v H'
def fnM(n m:Nat)(b:OFx)(fs:Ob)(ds:LPd):Option (PyData×Ob):=if ds.length=m then (match b (.no::(ds.map Sl.pu++List.replicate (n - (m+1)) .no)) fs with
  |some (.rt d fs')=>some (d,fs')
  |some (.nx _ fs')=>some (.none,fs')
  |_=>none) else none
def vI(K:FRx)(C:AdX)(m qual:Str)(st:Stmt):Prop:=∃f fd,Fun K m qual st f fd/\Meth K C m f
def Met(P:Program)(w:World)(K:FRx)(mg:Str->Option Value)(base:Heap)(k:Nat)(C:AdX)(m:Str)(ps:LSr)(h:MFx):Prop:=∃f fd,wo P w K mg base CX0 k f fd ps (spM K C h)/\Binds K fd ps []/\Meth K C m f
section
variable{P:Program}{w:World}{K:FRx}{mg:Str->Option Value}{base:Heap}{C:AdX}{ℓ:Nat}
theorem zaH{N:LSr}{H:Hp}{os:LAd}{p:AdX}{us:List V}{ds:LPd}{fs:Ob}{A:LAd}(al:Al H os)(r:Reps K (offs H os) us ds)(o:FOk K H os (.ref p) (.ob C fs) A)(nd:A.Nodup)(hA:∀a∈A,a∈os)(m:Nat)(hm:ds.length=m)(hN:m<N.length):MSt K C 0 (offs H A) (os.filter λa=>a∉A) p H os (start N (.ref p::us)) (.no::(ds.map Sl.pu++List.replicate (N.length - (m+1)) .no)) fs:=by
 have hl:=r.length;have no:∀(i:Nat)(c:Sl),(Sl.no::(ds.map Sl.pu++List.replicate (N.length - (m+1)) .no))[i]?=some c->isM c=true->False:=λi c q m=>by
  cases i with
  |zero=>cases q;cases m
  |succ i=>
   rw[List.getElem?_cons_succ] at q;by_cases hi:i<ds.length
   ·rw[List.getElem?_append_left (by simpa using hi),List.getElem?_map] at q;have⟨d,_,e2⟩:=map_some q;subst e2;cases m
   ·rw[List.getElem?_append_right (by simpa using Nat.le_of_not_lt hi),List.getElem?_replicate] at q;split at q
    ·cases q;cases m
    ·cases q
 refine⟨⟨⟨λi d q=>?_,λi c q m=>(no i c q m).elim,al,?_⟩,xa H A,λa h=>(List.mem_filter.mp h).1,λa h=>?_,λa h=>?_,λi c q m=>(no i c q m).elim,λi j c c' _ q _ m=>(no i c q m).elim⟩,rfl,A,o,nd,λa ha=>⟨hA a ha,xw ha⟩,λj c q m=>(no j c q m).elim⟩
 ·cases i with
  |zero=>cases q
  |succ i=>
   rw[List.getElem?_cons_succ] at q;unfold start;by_cases hi:i<ds.length
   ·rw[List.getElem?_append_left (by simpa using hi),List.getElem?_map] at q;have⟨c,e1,e2⟩:=map_some q;cases e2;have⟨v,e3,e4⟩:=r.getD e1;refine⟨v,?_,e4⟩;rw[List.getElem?_append_left (by rw[List.length_map,List.length_cons,hl];omega),List.getElem?_map,List.getElem?_cons_succ,e3];rfl
   ·rw[List.getElem?_append_right (by simpa using Nat.le_of_not_lt hi),List.getElem?_replicate] at q;split at q<;>cases q
 ·unfold start;simp[hl,hm]
 ·by_cases z:a∈A
  ·exact .inr (xw z)
  ·exact .inl (List.mem_filter.mpr ⟨h,by simpa using z⟩)
 ·have⟨h1,h2⟩:=List.mem_filter.mp h;have z:a∉A:=by simpa using h2
  rw[zt z];exact al a h1
theorem Met.mk{x qual:Str}{st:Stmt}{N ps:LSr}{k m:Nat}{b:OFx}(h:vI K C x qual st)(S:zq N ps (zc st))(hb:∀(kV doc pm:Value)(an:Option Addr)(cdv ct:Value)(us:LVl),us.length=ps.length->bindArgs (W.fnOf x qual (x8 st) (yC st) (zc st) .none kV doc pm an cdv ct) ⟨us,[]⟩=pure (ps.zip us))(hm:ps.length=m+1)(hN:m<N.length)(hbody:∀(f:AdX)(cdv:Value)(A:Around)(outer:List Env)(s:ShX)(H:Hp)(E:XK),Room k (A.deeper (envOfC qual (zc st) s.heap.objs.size f cdv))->
   OSs (J1 CX0 P w K mg base N qual (zc st) f cdv A outer s H E).nox C 0 (yC st) b):Met P w K mg base (k+1) C x ps (fnM N.length m b):=by
 have⟨f,fd,F,M⟩:=h;refine⟨f,fd,F.ok S (λvs H Q E q=>?_) (λcdv A outer s H vs Q E hr q=>?_),F.binds hb,M⟩
 ·obtain⟨p,us,os,ds,fs,d,fs',A,rfl,_,_,_,_,r,e,_⟩:=q;unfold fnM at e;split at e
  ·rename_i hl;rw[List.length_cons,r.length,hl,hm]
  ·cases e
 ·have⟨t,pp,q'⟩:=hbody f cdv A outer s H E hr;obtain⟨p,us,os,ds,fs,d,fs',A,rfl,o,nd,hA,al,r,e,kk⟩:=q;unfold fnM at e;split at e
  ·rename_i hl;refine⟨t,pp,?_⟩;have R:=zaH (N:=N) al r o nd hA m hl hN;have go:∀v H' os',zig K C (offs H A) (os.filter λa=>a∉A) p H' os' fs'->Rep K (offs H' os') v d->Q v H':=λv H' os' M rv=>by
    have⟨A',o',nd',hA'⟩:=M.ob;refine kk v H' os' A' M.sm M.al o' nd' hA' (λa ha=>?_) (λa ha=>?_) rv
    ·by_cases z:a∈A
     ·exact .inl z
     ·exact .inr (M.sub a (List.mem_filter.mpr ⟨ha,by simpa using z⟩))
    ·rcases M.new a ha with z|z
     ·exact .inl (List.mem_filter.mp z).1
     ·exact .inr z
   split at e
   ·rename_i d' fs'' e1;cases e;exact q' _ _ _ _ _ H os _ _ _ R e1 λv H' os' M rv=>go v H' os' M rv
   ·rename_i ρ' fs'' e1;cases e;exact q' _ _ _ _ _ H os _ _ _ R e1 λσ' H' os' R'=>go _ H' os' R'.end .non
   ·cases e
  ·cases e
end
section
variable{X:Cx}{a:Expr}{p pos tp:Pos}{tes:List Expr}{kk:Nat}{ga:RLx}
theorem ziJ(t:Bool)(hg:Gl X "enumerate")(hm:X.mg "enumerate"=none)(ha:FAB X [a] ga)(hs:starEach [a] X.env=[(false,eval a X.env)]:=by rfl):FIB X (.Tuple tes kk tp) (.Call (.Name "enumerate" p) [a] [] pos) (zfg t ga):=by
 have⟨ta,pa,qa⟩:=ha;refine⟨_,zjU t hg hm pa hs,λσ H os ρ ds R rel e k=>?_⟩;unfold zfg at e;split at e
 ·rename_i x e1;split at e
  ·rename_i k1 xs e2;split at e
   ·rename_i hc;cases e;subst hc;refine qa σ H os ρ _ _ rel e1 λvs H' s r=>?_
    obtain⟨v,rfl,r1⟩:=r.one;obtain⟨a1,us,rfl,h1,q1⟩:=uw r1 e2;exact⟨a1,rfl,⟨_,h1⟩,k _ H' s (zdM h1 q1)⟩
   ·cases e
  ·cases e
 ·cases e
end
def Ya(T:Nat)(F:LNt)(fi:OLx)(b:PyData->Ro->Option Ro)(fc:Ro->Option Bool)(fe:RPx):OLx:=λρ fs=>
 (fi ρ fs).bind λds=>if ds.length<=16777216 then wu (λd=>(b d (compEnv T F ρ)).bind λρ1=>(fc ρ1).bind λok=>if ok then (fe ρ1).map some else some none) ds else none
section
variable{X:Cx}{C:AdX}{ℓ:Nat}{elt tg iter c:Expr}{scope:Scope}{pos pos' spos:Pos}{Ts:LSr}{F:LNt}{is:LNt}{fi:OLx}{b:PyData->Ro->Option Ro}{fc:Ro->Option Bool}{fe:RPx}{x:Str}
theorem zgI(i:Nat)(hN:X.N.Nodup)(hc:X.calm=true)(hi:GIB X C ℓ tg iter fi)(S:ya X scope)(hF:∀j∈F,∃x,X.N[j]?=some x/\scope.names.lookup x=some .free)(hg:∀cl C ex s H,FG (zV X (Ts++F.map λj=>X.N.getD j "") scope cl C ex s H) tg is b)(ht:∀cl C ex s H,FT (zV X (Ts++F.map λj=>X.N.getD j "") scope cl C ex s H) c fc)(he:∀cl C ex s H,FE (zV X (Ts++F.map λj=>X.N.getD j "") scope cl C ex s H) elt fe)(his:∀i∈is,i<Ts.length:=by decide)(h0:i≠ℓ:=by decide)(hi':X.N[i]?=some x:=by rfl)(hx:X.env.scope.names.lookup x=some .local:=by rfl)(hsw:swapsWith (.ListComp elt [⟨tg,iter,[c],0⟩] scope pos) (some (.Name x pos')) spos.line X.env=pure true:=by rfl)(hs:FSx X iter:=by exact λ_=>rfl):OS X C ℓ (.Assign [.Name x pos'] (.ListComp elt [⟨tg,iter,[c],0⟩] scope pos) spos) (WL i (Ya Ts.length F fi b fc fe)):=by
 have⟨wi,pi,qi⟩:=hi;refine⟨_,Ve (Ts:=Ts) (F:=F) (g:=gF X.K is b) (tc:=tFT X.K fc) (te:=tF X.K fe) hN hi' hx hc pi S hF hg (λcl C ex s H=>(he cl C ex s H).pe) (λcl C ex s H=>(ht cl C ex s H).pt) hsw hs,λH0 os0 p D σ H os ρ fs r R q k=>?_⟩;have⟨ds,e1,q⟩:=bind_some q;cases q;have⟨es,e1,q⟩:=bind_some e1;split at q
 ·rename_i hl;refine qi σ H os ρ fs es _ R.wN e1 λJ H' s W D hD=>?_
  exact JE his (R.sr.rel.same s) hl hD W q λH2 xs s2 hx r=>k _ _ _ (R.W5 h0 (s.free hD) (s.trans s2) hx r)
 ·cases q
end
section
variable{K:FRx}{C C2:AdX}{ℓ:Nat}{H0 H H':Hp}{os0 os os':LAd}{p q:AdX}{σ:St}{ρ:Ro}{fs:Ob}
structure Left(H:Hp)(os B:LAd)(H':Hp)(os':LAd):Prop where
 sm:Same (offs H B) H'
 al:Al H' os'
 sub:∀a∈os,a∈B\/a∈os'
 new:∀a∈os',a∈os\/offs H B a=none
theorem Left.data{B:LAd}(h:Left H os B H' os')(hB:∀a∈B,a∈os):Same (offs H os) (offs H' os'):=λb o z=>by
 by_cases hb:b∈os
 ·rw[xw hb] at z;cases z
 ·rw[zt hb] at z;have nB:b∉B:=λw=>hb (hB b w)
  have e:offs H B b=some o:=by rw[zt nB];exact z
  rw[zt]
  ·exact h.sm b o e
  ·intro w;rcases h.new b w with u|u
   ·exact hb u
   ·rw[e] at u;cases u
theorem Left.cell{B:LAd}(h:Left H os B H' os'){a:AdX}{o:HO}(hB:a∉B)(e:H a=some o):H' a=some o:=h.sm a o (by rw[zt hB];exact e)
theorem SRo.left(h:SRo K H0 os0 H os σ ρ){B:LAd}(l:Left H os B H' os')(hB:∀a∈B,a∈os/\H0 a=none)(hs:∀(j:Nat)(c:Sl),ρ[j]?=some c->isM c=true->∀a∈B,σ[j]?≠some (some (.ref a))):SRo K H0 os0 H' os' σ ρ:=by
 have sd:=l.data λa ha=>(hB a ha).1
 refine⟨⟨λi d q=>?_,λi c q m=>?_,l.al,h.rel.len⟩,λb o z=>?_,λa ha=>?_,λa ha=>?_,h.al0,h.own,h.ap⟩
 ·have⟨v,h1,h2⟩:=h.rel.pu i d q;exact⟨v,h1,h2.same sd⟩
 ·have⟨a,o,h1,h2,h3,h4⟩:=h.rel.mu i c q m;have nB:a∉B:=λw=>hs i c q m a w h1
  refine⟨a,o,h1,?_,l.cell nB h3,h4.same sd⟩;rcases l.sub a h2 with w|w
  ·exact absurd w nB
  ·exact w
 ·refine l.cell (λw=>?_) (h.sm b o z);rw[(hB b w).2] at z;cases z
 ·rcases l.sub a (h.sub a ha) with w|w
  ·have⟨o,e⟩:=h.al0 a ha;rw[(hB a w).2] at e;cases e
  ·exact w
 ·rcases l.new a ha with w|w
  ·exact h.new a w
  ·by_cases z:a∈B
   ·exact .inr (hB a z).2
   ·rw[zt z] at w;exact .inr (h.sm.free w)
theorem yT.nest{x:Str}{gs gs':Ob}{B B':LAd}(sd:Same (offs H os) (offs H' os'))(hc:∀a o,a∉B->H a=some o->H' a=some o)(o':FOk K H' os' (.ref q) (.ob C2 gs') B')(ndB':B'.Nodup):∀{vs:List (Str×V)} {fs:Ob} {A:LAd},yT K H os vs fs A->A.Nodup->(∀a∈A,a∉B->a∉B')->fld x fs=some (.ob C2 gs)->vs.lookup x=some (.ref q)->(∀{v:V} {D:LAd},FOk K H os v (.ob C2 gs) D->v=.ref q->D=B)->
   ∃A',yT K H' os' vs (zJ x (.ob C2 gs') fs) A'/\A'.Nodup/\∀a∈A',(a∈A/\a∉B)\/a∈B'
 |_,_,_,.nil,_,_,e,_,_=>by cases e
 |_,_,_,@yT.cons _ _ _ y u d vs fs A0 B0 h r,nd,dj,e,l,un=>by
  have kp:∀{A:LAd},(∀a∈A,a∉B)->(∀a∈A,∃o,H a=some o)->∀a∈A,H' a=H a:=λnB has a ha=>by
   have⟨o,w⟩:=has a ha;rw[w];exact hc a o (nB a ha) w
  unfold fld at e;unfold zJ;by_cases z:x=y
  ·rw[if_pos z] at e;rw[if_pos z.symm];cases e;rw[List.lookup_cons,show(x==y)=true from beq_iff_eq.mpr z] at l;cases l;have eB:A0=B:=un h rfl;subst eB;have nB:∀a∈B0,a∉A0:=λa ha w=>zfW nd a w ha
   refine⟨B'++B0,.cons o' (r.keep sd (kp nB r.has)),zbI ndB' (zga nd) λa ha w=>dj a (List.mem_append.mpr (.inr w)) (nB a w) ha,λa ha=>?_⟩;rcases List.mem_append.mp ha with w|w
   ·exact .inr w
   ·exact .inl ⟨List.mem_append.mpr (.inr w),nB a w⟩
  ·rw[if_neg z] at e;rw[if_neg (Ne.symm z)];rw[List.lookup_cons,show(x==y)=false from beq_eq_false_iff_ne.mpr z] at l;have l:vs.lookup x=some (.ref q):=l;have⟨v,D,l',o2,hD⟩:=r.look e
   rw[l] at l';cases l';have eB:D=B:=un o2 rfl;subst eB;have nB:∀a∈A0,a∉D:=λa ha w=>zfW nd a ha (hD a w)
   obtain⟨A',h1,h2,h3⟩:=yT.nest sd hc o' ndB' r (zga nd) (λa ha=>dj a (List.mem_append.mpr (.inr ha))) e l un;refine⟨A0++A',.cons (h.keep sd (kp nB h.has)) h1,zbI (zl2 nd) h2 λa ha w=>?_,λa ha=>?_⟩
   ·rcases h3 a w with u|u
    ·exact zfW nd a ha u.1
    ·exact dj a (List.mem_append.mpr (.inl ha)) (nB a ha) u
   ·rcases List.mem_append.mp ha with w|w
    ·exact .inl ⟨List.mem_append.mpr (.inl w),nB a w⟩
    ·rcases h3 a w with u|u
     ·exact .inl ⟨List.mem_append.mpr (.inr u.1),u.2⟩
     ·exact .inr u
mutual
theorem FOk.uniq:∀{v:V} {c:Fs} {A B:LAd},FOk K H os v c A->FOk K H os v c B->A=B
 |_,_,_,_,.pu _,.pu _=>rfl
 |_,_,_,_,.ow _ _,.ow _ _=>rfl
 |_,_,_,_,.ob h r,.ob h' r'=>by
  rw[h] at h';cases h';exact congrArg _ (yT.uniq r r')
theorem yT.uniq:∀{vs:List (Str×V)} {fs:Ob} {A B:LAd},yT K H os vs fs A->yT K H os vs fs B->A=B
 |_,_,_,_,.nil,.nil=>rfl
 |_,_,_,_,.cons h r,.cons h' r'=>by rw[FOk.uniq h h',yT.uniq r r']
end
theorem MSt.nest(h:MSt K C ℓ H0 os0 p H os σ ρ fs){x:Str}{gs gs':Ob}{B B':LAd}{dx:AdX}{vs:List (Str×V)}(e:fld x fs=some (.ob C2 gs))(hp:H p=some (.ins C dx vs))(l:vs.lookup x=some (.ref q))(o:FOk K H os (.ref q) (.ob C2 gs) B)(L:Left H os B H' os')(o':FOk K H' os' (.ref q) (.ob C2 gs') B')(nd':B'.Nodup)(hB':∀a∈B',a∈os'/\offs H B a=none):MSt K C ℓ H0 os0 p H' os' σ ρ (zJ x (.ob C2 gs') fs):=by
 have⟨A,h1,h2,h3,h4⟩:=h.ob;cases h1 with
 | @ob _ _ _ _ _ A hp' r=>
  rw[hp] at hp';cases hp';have⟨pA,nd⟩:=List.nodup_cons.mp h2;have⟨v,B0,l',o0,hB0⟩:=r.look e;rw[l] at l';cases l';have eB:=o0.uniq o;subst eB;have BA:∀a∈B0,a∈p::A:=λa ha=>.tail _ (hB0 a ha)
  have pB:p∉B0:=λw=>pA (hB0 p w)
  have sd:=L.data λa ha=>(h3 a (BA a ha)).1
  have dj:∀a∈p::A,a∉B0->a∉B':=λa ha nB w=>by
   have:=(hB' a w).2;rw[zt nB] at this;rcases List.mem_cons.mp ha with z|z
   ·rw[z,hp] at this;cases this
   ·have⟨o,e⟩:=r.has a z;rw[e] at this;cases this
  obtain⟨A',k1,k2,k3⟩:=yT.nest sd (λa o nB e=>L.cell nB e) o' nd' r nd (λa ha=>dj a (.tail _ ha)) e l λ{v D} w z=>by
   subst z;exact w.uniq o0
  have pA':p∉A':=λw=>by
   rcases k3 p w with u|u
   ·exact pA u.1
   ·exact dj p (.head _) pB u
  have nB':∀a∈B',H0 a=none:=λa ha=>by
   have:=(hB' a ha).2;by_cases z:a∈B0
   ·exact(h3 a (BA a z)).2
   ·rw[zt z] at this;exact h.sr.sm.free this
  have ins:∀a∈p::A,a∉B0->a∈os':=λa ha nB=>by
   rcases L.sub a (h3 a ha).1 with w|w
   ·exact absurd w nB
   ·exact w
  refine⟨h.sr.left L (λa ha=>h3 a (BA a ha)) λj c q m a ha=>h4 j c q m a (BA a ha),h.self,p::A',.ob (L.cell pB hp) k1,List.nodup_cons.mpr ⟨pA',k2⟩,λa ha=>?_,λj c q m a ha=>?_⟩
  ·rcases List.mem_cons.mp ha with z|z
   ·rw[z];exact⟨ins p (.head _) pB,(h3 p (.head _)).2⟩
   ·rcases k3 a z with u|u
    ·exact⟨ins a (.tail _ u.1) u.2,(h3 a (.tail _ u.1)).2⟩
    ·exact⟨(hB' a u).1,nB' a u⟩
  ·rcases List.mem_cons.mp ha with z|z
   ·rw[z];exact h4 j c q m p (.head _)
   ·rcases k3 a z with u|u
    ·exact h4 j c q m a (.tail _ u.1)
    ·intro w;have⟨b,o,w1,w2,w3,_⟩:=h.sr.rel.mu j c q m;rw[w] at w1;cases w1;by_cases y:a∈B0
     ·exact h4 j c q m a (BA a y) w
     ·have:=(hB' a u).2;rw[zt y,w3] at this;cases this
end
theorem yT.zfF{K:FRx}{H:Hp}{os:LAd}{x:Str}:∀{vs:List (Str×V)} {fs:Ob} {A:LAd} {c:Fs},yT K H os vs fs A->A.Nodup->fld x fs=some c->∃v B,vs.lookup x=some v/\FOk K H os v c B/\B.Nodup/\∀a∈B,a∈A
 |_,_,_,_,.nil,_,q=>by cases q
 |_,_,_,c,@yT.cons _ _ _ y v c' vs fs A B h r,nd,q=>by
  unfold fld at q;by_cases z:x=y
  ·rw[if_pos z] at q;cases q;refine⟨v,A,?_,h,zl2 nd,λa ha=>List.mem_append.mpr (.inl ha)⟩;rw[List.lookup_cons,show(x==y)=true from beq_iff_eq.mpr z]
  ·rw[if_neg z] at q;obtain⟨v',B',h1,h2,h3,h4⟩:=yT.zfF r (zga nd) q;refine⟨v',B',?_,h2,h3,λa ha=>List.mem_append.mpr (.inr (h4 a ha))⟩;rw[List.lookup_cons,show(x==y)=false from beq_eq_false_iff_ne.mpr z];exact h1
def GA(X:Cx)(C:AdX)(ℓ:Nat)(es:List Expr)(f:OLx):Prop:=∃t:TA,PA X es t/\∀(σ:St)(H:Hp)(os:LAd)(ρ:Ro)(fs:Ob)(ds:LPd)(Q:List V->Hp->Prop),vC X.K C ℓ H os σ ρ fs->f ρ fs=some ds->
  (∀vs H',Same H H'->Reps X.K (offs H' os) vs ds->Q vs H')->t σ H Q
def GM(X:Cx)(C:AdX)(ℓ:Nat)(e:Expr)(f:Ro->Ob->Option (PyData×Ob)):Prop:=∃t:TE,PE X e t/\∀(H0:Hp)(os0:LAd)(p:AdX)(σ:St)(H:Hp)(os:LAd)(ρ:Ro)(fs:Ob)(d:PdX)(fs':Ob)(Q:VK),MSt X.K C ℓ H0 os0 p H os σ ρ fs->f ρ fs=some (d,fs')->
  (∀v H' os',MSt X.K C ℓ H0 os0 p H' os' σ ρ fs'->Rep X.K (offs H' os') v d->Q v H')->t σ H Q
section
variable{X:Cx}{C C2:AdX}{ℓ:Nat}{e:Expr}{es:List Expr}{f:OPx}{g:OLx}{pos apos p0 p1:Pos}{x y m:Str}{k k':Nat}{ps:LSr}
theorem JC:GA X C ℓ [] gA0:=⟨_,xv,λ_ H _ _ _ _ _ _ q k=>by cases q;exact k [] H (Same.refl H) .nil⟩
theorem x5(ha:GE X C ℓ e f)(hr:GA X C ℓ es g)(hs:SEx X e es:=by rfl):GA X C ℓ (e::es) (gAC f g):=by
 have⟨ta,pa,qa⟩:=ha;have⟨tb,pb,qb⟩:=hr;refine⟨_,yD pa pb hs,λσ H os ρ fs ds Q R q k=>?_⟩;have⟨d,e1,q⟩:=bind_some q;have⟨r,e2,e3⟩:=map_some q;subst e3;exact qa σ H os ρ fs d _ R e1 λx H1 s1 r1=>qb σ H1 os ρ fs r _ (R.same s1) e2 λxs H2 s2 r2=>k _ H2 (s1.trans s2) (.cons (r1.same (zl s2 os)) r2)
def gmn(C2:AdX)(y m:Str)(h:MFx)(g:OLx):Ro->Ob->Option (PyData×Ob):=λρ fs=>match fld y fs with
 |some (.ob C' gs)=>if C'=C2/\(fld m gs).isNone=true then (g ρ fs).bind λds=>(h gs ds).map λr=>(r.1,zJ y (.ob C2 r.2) fs) else none
 |_=>none
theorem ziQ{pl:Sem Bool}{h:MFx}(cl:Cls X.K C)(na:zH X.K C y)(cl2:Cls X.K C2)(M:Met X.prog X.w X.K X.mg X.base k C2 m ps h)(hr:Room k' X.A)(ha:GA X C ℓ (e::es) g)(hk:k<=k':=by decide)(hN:X.N[ℓ]?=some x:=by rfl)(hv:Vis X.env.scope x:=by trivial)(hd:NDx x:=by decide)(hcd:NCx x:=by decide)(hb:ABx X (.Name x p0) y:=by rfl)(hst:SEx X e es:=by rfl)(hpl:PLx X pos es:=by rfl)(ht:eval (.Call (.Attribute (.Attribute (.Name x p0) y p1) m apos) (e::es) [] pos) X.env=(do
   let ov <-eval (.Attribute (.Name x p0) y p1) X.env
   standAt apos.atName
   let (f,first) <-holding [ov] (getMethod ov m pl)
   callWith pos f first (backTo pos (starEach (e::es) X.env)) (backToKw pos (keywordEach [] X.env))):=by rfl):GM X C ℓ (.Call (.Attribute (.Attribute (.Name x p0) y p1) m apos) (e::es) [] pos) (gmn C2 y m h g):=by
 have⟨fa,fd,F,B,mm⟩:=M;have⟨t,pa,qa⟩:=ha;refine⟨_,zby (pl:=pl) (va (yl (i:=ℓ) hN hv hd hcd) hb) cl2 mm F (hr.mono hk) B .nil Jg pa hst hpl ht,λH0 os0 p σ H os ρ fs d fs' Q R e kk=>?_⟩;unfold gmn at e;split at e
 ·rename_i C' gs ef;split at e
  ·rename_i hc;obtain⟨rfl,hm⟩:=hc;have⟨ds,e1,e2⟩:=bind_some e;have⟨r,e3,e4⟩:=map_some e2;cases e4;have⟨A,h1,h2,h3,h4⟩:=R.ob;cases h1 with
   |ob hp rr=>
    obtain⟨v,D,l,o,ndD,hD⟩:=rr.zfF (List.nodup_cons.mp h2).2 ef;cases o with
    | @ob q _ dx2 vs2 _ D' hq r2=>
     refine⟨_,R.self,_,_,_,_,_,rfl,hp,cl,na,l,q,_,_,rfl,hq,r2.nolook (Option.isNone_iff_eq_none.mp hm),qa σ H os ρ fs ds _ R.wN e1 λus H1 s1 ru=>?_⟩;rw[List.append_nil];have R1:=R.same s1;have o1:FOk X.K H1 os (.ref q) (.ob C' gs) (q::D'):=FOk.same s1 (.ob hq r2)
     refine⟨q,us,os,ds,gs,r.1,r.2,q::D',rfl,o1,ndD,λa ha=>(h3 a (.tail _ (hD a ha))).1,R1.sr.rel.al,ru,e3,λv H' os' B' sm al o' nd' hB' sub new rv=>?_⟩;exact kk v H' os' (R1.nest ef (s1 _ _ hp) l o1 ⟨sm,al,sub,new⟩ o' nd' hB') rv
  ·cases e
 ·cases e
end
section
variable{X:Cx}{C:AdX}{ℓ:Nat}{e:Expr}{pos:Pos}{f:Ro->Ob->Option (PyData×Ob)}
def oex(f:Ro->Ob->Option (PyData×Ob)):OFx:=λρ fs=>(f ρ fs).bind λr=>some (.nx ρ r.2)
theorem zmG(h:GM X C ℓ e f)(hs:swapsWith e none pos.line X.env=pure false:=by rfl):OS X C ℓ (.Expr e pos) (oex f):=by
 have⟨t,p,q⟩:=h;refine⟨_,u3 p hs,λH0 os0 p D σ H os ρ fs r R e k=>?_⟩;have⟨d,e1,e2⟩:=bind_some e;cases e2;exact q H0 os0 p σ H os ρ fs d.1 d.2 _ R e1 λv H' os' R' _=>k _ _ _ R'
def osm(i:Nat)(f:Ro->Ob->Option (PyData×Ob)):OFx:=λρ fs=>(f ρ fs).bind λr=>some (.nx (ρ.set i (.pu r.1)) r.2)
theorem zbe(i:Nat){x:Str}{pos':Pos}(hN:X.N.Nodup)(he:GM X C ℓ e f)(h0:i≠ℓ:=by decide)(hi:X.N[i]?=some x:=by rfl)(hx:Loc X.env.scope x:=by trivial)(hs:swapsWith e (some (.Name x pos')) pos.line X.env=pure false:=by rfl)(hf:FNx X x:=by trivial):OS X C ℓ (.Assign [.Name x pos'] e pos) (osm i f):=by
 have⟨t,p,q⟩:=he;refine⟨_,w8 hN hi hx p hs hf,λH0 os0 p D σ H os ρ fs r R e k=>?_⟩;have⟨d,e1,e2⟩:=bind_some e;cases e2;exact q H0 os0 p σ H os ρ fs d.1 d.2 _ R e1 λv H' os' R' rv=>k _ _ _ (R'.set h0 rv)
end
section
variable{X:Cx}{C C2:AdX}{ℓ:Nat}{e:Expr}{es:List Expr}{g:OLx}{pos apos p0 p1:Pos}{x y m:Str}{k k':Nat}{ps:LSr}
theorem zhI{pl:Sem Bool}{h:MFx}(cl:Cls X.K C)(na:zH X.K C y)(cl2:Cls X.K C2)(M:Met X.prog X.w X.K X.mg X.base k C2 m ps h)(hr:Room k' X.A)(hk:k<=k':=by decide)(hN:X.N[ℓ]?=some x:=by rfl)(hv:Vis X.env.scope x:=by trivial)(hd:NDx x:=by decide)(hcd:NCx x:=by decide)(hb:ABx X (.Name x p0) y:=by rfl)(ht:eval (.Call (.Attribute (.Attribute (.Name x p0) y p1) m apos) [] [] pos) X.env=(do
   let ov <-eval (.Attribute (.Name x p0) y p1) X.env
   standAt apos.atName
   let (f,first) <-holding [ov] (getMethod ov m pl)
   callWith pos f first (backTo pos (starEach [] X.env)) (backToKw pos (keywordEach [] X.env))):=by rfl):GM X C ℓ (.Call (.Attribute (.Attribute (.Name x p0) y p1) m apos) [] [] pos) (gmn C2 y m h gA0):=by
 have⟨fa,fd,F,B,mm⟩:=M;refine⟨_,zcI (pl:=pl) (va (yl (i:=ℓ) hN hv hd hcd) hb) cl2 mm F (hr.mono hk) B .nil Jg ht,λH0 os0 p σ H os ρ fs d fs' Q R e kk=>?_⟩;unfold gmn at e;split at e
 ·rename_i C' gs ef;split at e
  ·rename_i hc;obtain⟨rfl,hm⟩:=hc;have⟨ds,e1,e2⟩:=bind_some e;cases e1;have⟨r,e3,e4⟩:=map_some e2;cases e4;have⟨A,h1,h2,h3,h4⟩:=R.ob;cases h1 with
   |ob hp rr=>
    obtain⟨v,D,l,o,ndD,hD⟩:=rr.zfF (List.nodup_cons.mp h2).2 ef;cases o with
    | @ob q _ dx2 vs2 _ D' hq r2=>
     refine⟨_,R.self,_,_,_,_,_,rfl,hp,cl,na,l,q,_,_,rfl,hq,r2.nolook (Option.isNone_iff_eq_none.mp hm),?_⟩;have o1:FOk X.K H os (.ref q) (.ob C' gs) (q::D'):=.ob hq r2;refine⟨q,[],os,[],gs,r.1,r.2,q::D',rfl,o1,ndD,λa ha=>(h3 a (.tail _ (hD a ha))).1,R.sr.rel.al,.nil,e3,λv H' os' B' sm al o' nd' hB' sub new rv=>?_⟩;exact kk v H' os' (R.nest ef hp l o1 ⟨sm,al,sub,new⟩ o' nd' hB') rv
  ·cases e
 ·cases e
theorem MSt.own{K:FRx}{H0 H H':Hp}{os0 os os':LAd}{p:AdX}{σ:St}{ρ:Ro}{fs fs':Ob}{B B':LAd}(h:MSt K C ℓ H0 os0 p H os σ ρ fs)(o:FOk K H os (.ref p) (.ob C fs) B)(L:Left H os B H' os')(o':FOk K H' os' (.ref p) (.ob C fs') B')(nd':B'.Nodup)(hB':∀a∈B',a∈os'/\offs H B a=none):MSt K C ℓ H0 os0 p H' os' σ ρ fs':=by
 have⟨A,h1,h2,h3,h4⟩:=h.ob;have eB:=h1.uniq o;subst eB;refine⟨h.sr.left L h3 h4,h.self,B',o',nd',λa ha=>⟨(hB' a ha).1,?_⟩,λj c q m a ha w=>?_⟩
 ·have:=(hB' a ha).2;by_cases z:a∈A
  ·exact(h3 a z).2
  ·rw[zt z] at this;exact h.sr.sm.free this
 ·have⟨b,o,w1,w2,w3,_⟩:=h.sr.rel.mu j c q m;rw[w] at w1;cases w1;by_cases y:a∈A
  ·exact h4 j c q m a y w
  ·have:=(hB' a ha).2;rw[zt y,w3] at this;cases this
def gms(m:Str)(h:MFx)(g:OLx):Ro->Ob->Option (PyData×Ob):=λρ fs=>if (fld m fs).isNone=true then (g ρ fs).bind λds=>h fs ds else none
theorem zfu{pl:Sem Bool}{h:MFx}(cl:Cls X.K C)(M:Met X.prog X.w X.K X.mg X.base k C m ps h)(hr:Room k' X.A)(ha:GA X C ℓ (e::es) g)(hk:k<=k':=by decide)(hN:X.N[ℓ]?=some x:=by rfl)(hv:Vis X.env.scope x:=by trivial)(hd:NDx x:=by decide)(hcd:NCx x:=by decide)(hst:SEx X e es:=by rfl)(hpl:PLx X pos es:=by rfl)(ht:eval (.Call (.Attribute (.Name x p0) m apos) (e::es) [] pos) X.env=(do
   let ov <-eval (.Name x p0) X.env
   standAt apos.atName
   let (f,first) <-holding [ov] (getMethod ov m pl)
   callWith pos f first (backTo pos (starEach (e::es) X.env)) (backToKw pos (keywordEach [] X.env))):=by rfl):GM X C ℓ (.Call (.Attribute (.Name x p0) m apos) (e::es) [] pos) (gms m h g):=by
 have⟨fa,fd,F,B,mm⟩:=M;have⟨t,pa,qa⟩:=ha;refine⟨_,zby (pl:=pl) (yl (i:=ℓ) hN hv hd hcd) cl mm F (hr.mono hk) B .nil Jg pa hst hpl ht,λH0 os0 p σ H os ρ fs d fs' Q R e kk=>?_⟩;unfold gms at e;split at e
 ·rename_i hm;have⟨ds,e1,e2⟩:=bind_some e;have⟨A,h1,h2,h3,h4⟩:=R.ob;cases h1 with
  |ob hp rr=>
   refine⟨_,R.self,p,_,_,rfl,hp,rr.nolook (Option.isNone_iff_eq_none.mp hm),qa σ H os ρ fs ds _ R.wN e1 λus H1 s1 ru=>?_⟩;rw[List.append_nil];have R1:=R.same s1;have o1:=FOk.same s1 (FOk.ob hp rr)
   refine⟨p,us,os,ds,fs,d,fs',_,rfl,o1,h2,λa ha=>(h3 a ha).1,R1.sr.rel.al,ru,e2,λv H' os' B' sm al o' nd' hB' sub new rv=>?_⟩;exact kk v H' os' (R1.own o1 ⟨sm,al,sub,new⟩ o' nd' hB') rv
 ·cases e
end
def GTM(X:Cx)(C:AdX)(ℓ:Nat)(e:Expr)(f:Ro->Ob->Option (Bool×Ob)):Prop:=∃t:TT,PT X e t/\∀(H0:Hp)(os0:LAd)(p:AdX)(σ:St)(H:Hp)(os:LAd)(ρ:Ro)(fs:Ob)(b:Bool)(fs':Ob)(Q:Bool->Hp->Prop),MSt X.K C ℓ H0 os0 p H os σ ρ fs->f ρ fs=some (b,fs')->
  (∀H' os',MSt X.K C ℓ H0 os0 p H' os' σ ρ fs'->Q b H')->t σ H Q
def GWM(X:Cx)(C:AdX)(ℓ:Nat)(e:Expr)(f:Ro->Ob->Option (Bool×Ob)):Prop:=∃t:TT,PW X e t/\∀(H0:Hp)(os0:LAd)(p:AdX)(σ:St)(H:Hp)(os:LAd)(ρ:Ro)(fs:Ob)(b:Bool)(fs':Ob)(Q:Bool->Hp->Prop),MSt X.K C ℓ H0 os0 p H os σ ρ fs->f ρ fs=some (b,fs')->
  (∀H' os',MSt X.K C ℓ H0 os0 p H' os' σ ρ fs'->Q b H')->t σ H Q
section
variable{X:Cx}{C:AdX}{ℓ:Nat}{e a b:Expr}{pos:Pos}{rest:List Expr}
def gtF(f:Ro->Ob->Option Bool):Ro->Ob->Option (Bool×Ob):=λρ fs=>(f ρ fs).map λc=>(c,fs)
theorem GT.gtm{f:Ro->Ob->Option Bool}(h:GT X C ℓ e f):GTM X C ℓ e (gtF f):=by
 have⟨t,p,q⟩:=h;refine⟨t,p,λH0 os0 p σ H os ρ fs b fs' Q R e k=>?_⟩;have⟨c,e1,e2⟩:=map_some e;cases e2;exact q σ H os ρ fs _ Q R.wN e1 λH' s=>k H' os (R.same s)
def gvF(f:Ro->Ob->Option (PyData×Ob)):Ro->Ob->Option (Bool×Ob):=λρ fs=>match f ρ fs with |some (.bool c,fs')=>some (c,fs')|_=>none
theorem za1{f:Ro->Ob->Option (PyData×Ob)}(h:GM X C ℓ e f)(he:∀whole,isTrue e X.env whole=(do let v <-whole;standAt e.pos;holding [v] (truthy v)):=by intro _;rfl):GTM X C ℓ e (gvF f):=by
 have⟨t,p,q⟩:=h;refine⟨_,zhC p he,λH0 os0 p σ H os ρ fs b fs' Q R e k=>?_⟩;unfold gvF at e;split at e
 ·rename_i c fs2 e1;cases e;refine q H0 os0 p σ H os ρ fs _ _ _ R e1 λv H' os' R' rv=>?_
  cases rv;exact⟨_,rfl,k H' os' R'⟩
 ·cases e
def gnF(f:Ro->Ob->Option (Bool×Ob)):Ro->Ob->Option (Bool×Ob):=λρ fs=>(f ρ fs).map λr=>(!r.1,r.2)
theorem ziO{f:Ro->Ob->Option (Bool×Ob)}(h:GTM X C ℓ a f):GTM X C ℓ (.UnaryOp .Not a pos) (gnF f):=by
 have⟨t,p,q⟩:=h;refine⟨_,zhb p,λH0 os0 p σ H os ρ fs b fs' Q R e k=>?_⟩;have⟨r,e1,e2⟩:=map_some e;cases e2;exact q H0 os0 p σ H os ρ fs _ _ _ R e1 k
theorem GWM.gtm{f:Ro->Ob->Option (Bool×Ob)}(h:GWM X C ℓ e f):GTM X C ℓ e f:=by
 have⟨t,p,q⟩:=h;exact⟨t,p.pt,q⟩
theorem zie{f:Ro->Ob->Option (Bool×Ob)}(h:GTM X C ℓ a f):GWM X C ℓ (.BoolOp .And [a] pos) f:=by
 have⟨t,p,q⟩:=h;exact⟨t,pw_and1 p,q⟩
def gaF(f g:Ro->Ob->Option (Bool×Ob)):Ro->Ob->Option (Bool×Ob):=λρ fs=>(f ρ fs).bind λr=>if r.1 then g ρ r.2 else some (false,r.2)
theorem zki{f g:Ro->Ob->Option (Bool×Ob)}(ha:GTM X C ℓ a f)(hb:GWM X C ℓ (.BoolOp .And (b::rest) pos) g):GWM X C ℓ (.BoolOp .And (a::b::rest) pos) (gaF f g):=by
 have⟨ta,pa,qa⟩:=ha;have⟨tb,pb,qb⟩:=hb;refine⟨_,pw_and pa pb,λH0 os0 p σ H os ρ fs c fs' Q R q k=>?_⟩;have⟨⟨b,fs1⟩,e1,e2⟩:=bind_some q;refine qa H0 os0 p σ H os ρ fs b fs1 _ R e1 λH' os' R'=>?_
 cases b with
 |true=>rw[if_pos rfl] at e2 ⊢;exact qb H0 os0 p σ H' os' ρ fs1 c fs' Q R' e2 k
 |false=>rw[if_neg Bool.false_ne_true] at e2 ⊢;cases e2;exact k H' os' R'
def Z3(c:Ro->Ob->Option (Bool×Ob))(f g:OFx):OFx:=λρ fs=>(c ρ fs).bind λr=>if r.1 then f ρ r.2 else g ρ r.2
theorem zin{c:Expr}{a b:List Stmt}{f g:OFx}{fc:Ro->Ob->Option (Bool×Ob)}(hc:GTM X C ℓ c fc)(ha:OSs X C ℓ a f)(hb:OSs X C ℓ b g):OS X C ℓ (.If c a b pos) (Z3 fc f g):=by
 have⟨tc,pc,qc⟩:=hc;have⟨ta,pa,qa⟩:=ha;have⟨tb,pb,qb⟩:=hb;refine⟨_,zhc pc pa pb,λH0 os0 p D σ H os ρ fs r R e k=>?_⟩;have⟨⟨b,fs1⟩,e1,e2⟩:=bind_some e;refine qc H0 os0 p σ H os ρ fs b fs1 _ R e1 λH' os' R'=>?_
 cases b with
 |true=>rw[if_pos rfl] at e2 ⊢;exact qa H0 os0 p D σ H' os' ρ fs1 r R' e2 k
 |false=>rw[if_neg Bool.false_ne_true] at e2 ⊢;exact qb H0 os0 p D σ H' os' ρ fs1 r R' e2 k
end
def gop(h:PyData->PyData->Option PyData)(f g:OPx):OPx:=λρ fs=>(f ρ fs).bind λx=>(g ρ fs).bind λy=>h x y
def gbo(f:OPx):Ro->Ob->Option Bool:=λρ fs=>match f ρ fs with |some (.bool c)=>some c|_=>none
section
variable{X:Cx}{C:AdX}{ℓ:Nat}{a b e:Expr}{es:List Expr}{f g:OPx}{ga:OLx}{p pos:Pos}{x:Str}{id:String}{r:List V->Hp->VK->Prop}
theorem U6{h:PyData->PyData->Option PyData}{ρ:Ro}{fs:Ob}{c:PdX}(q:gop h f g ρ fs=some c):∃d e,f ρ fs=some d/\g ρ fs=some e/\h d e=some c:=by
 have⟨d,e1,q⟩:=bind_some q;have⟨e,e2,q⟩:=bind_some q;exact⟨d,e,e1,e2,q⟩
theorem zho{ρ:Ro}{fs:Ob}{c:Bool}(q:gbo f ρ fs=some c):f ρ fs=some (.bool c):=by
 unfold gbo at q;split at q
 ·rename_i e;cases q;exact e
 ·cases q
theorem zkJ{op:Operator}{r:R2}{h:PyData->PyData->Option PyData}(ho:OpR X (binaryOp op) r)(hr:R2F X.K r h)(ha:GB X C ℓ a f)(hb:GB X C ℓ b g):GE X C ℓ (.BinOp a op b pos) (gop h f g):=by
 have⟨ta,pa,qa⟩:=ha;have⟨tb,pb,qb⟩:=hb;refine⟨_,zaI ho pa pb,λσ H os ρ fs c Q R q k=>?_⟩;have⟨d,e,e1,e2,e3⟩:=U6 q;refine qa σ H os ρ fs d _ R e1 λx H1 s1 r1=>qb σ H1 os ρ fs e _ (R.same s1) e2 λy H' s2 r2=>?_
 exact hr x y H' os d e c Q (R.rel.al.same (s1.trans s2)) (r1.same s2) r2 e3 λv H2 s3=>k v H2 ((s1.trans s2).trans s3)
theorem zaF(ha:GB X C ℓ a f)(hb:GB X C ℓ b g)(hs:zaY b):GE X C ℓ (.Subscript a b pos) (gop ixD f g):=by
 have⟨ta,pa,qa⟩:=ha;have⟨tb,pb,qb⟩:=hb;refine⟨_,zkr ze0 pa pb hs,λσ H os ρ fs c Q R q k=>?_⟩;have⟨d,e,e1,e2,e3⟩:=U6 q;refine qa σ H os ρ fs d _ R e1 λx H1 s1 r1=>qb σ H1 os ρ fs e _ (R.same s1) e2 λy H' s2 r2=>?_
 exact zkL x y H' os d e c Q (R.rel.al.same (s1.trans s2)) (r1.same s2) r2 e3 λv H2 s3=>k v H2 ((s1.trans s2).trans s3)
theorem zlu{op:CmpOp}{r:R2}{h:PyData->PyData->Option PyData}(ho:OpR X (compareOp op) r)(hr:R2F X.K r h)(ha:GB X C ℓ a f)(hb:GB X C ℓ b g)(hm:behindInMarks op b=false):GT X C ℓ (.Compare a [op] [b] pos) (gbo (gop h f g)):=by
 have⟨ta,pa,qa⟩:=ha;have⟨tb,pb,qb⟩:=hb;refine⟨_,zbr ho pa pb hm,λσ H os ρ fs c Q R q k=>?_⟩;obtain⟨d,e,e1,e2,e3⟩:=U6 (zho q);refine qa σ H os ρ fs d _ R e1 λx H1 s1 r1=>qb σ H1 os ρ fs e _ (R.same s1) e2 λy H' s2 r2=>?_
 refine hr x y H' os d e (.bool c) _ (R.rel.al.same (s1.trans s2)) (r1.same s2) r2 e3 λv H2 s3 rv=>?_
 cases rv;exact⟨c,rfl,k H2 ((s1.trans s2).trans s3)⟩
theorem zlH{op:CmpOp}{r:R2}{h:PyData->PyData->Option PyData}(ho:OpR X (compareOp op) r)(hr:R2F X.K r h)(ha:GB X C ℓ a f)(hb:GB X C ℓ b g)(hm:behindInMarks op b=false:=by rfl):GE X C ℓ (.Compare a [op] [b] pos) (gop h f g):=by
 have⟨ta,pa,qa⟩:=ha;have⟨tb,pb,qb⟩:=hb;refine⟨_,zfn ho pa pb hm,λσ H os ρ fs c Q R q k=>?_⟩;have⟨d,e,e1,e2,e3⟩:=U6 q;refine qa σ H os ρ fs d _ R e1 λx H1 s1 r1=>qb σ H1 os ρ fs e _ (R.same s1) e2 λy H' s2 r2=>?_
 exact hr x y H' os d e c Q (R.rel.al.same (s1.trans s2)) (r1.same s2) r2 e3 λv H2 s3=>k v H2 ((s1.trans s2).trans s3)
theorem UW{h:LPx}(hc:wk X (.builtin id) r)(hr:CRF X.K r h)(hg:Gl X x)(hm:X.mg x=none)(hv:bootBuiltins x=some (.builtin id))(ha:GAB X C ℓ (e::es) ga)(hn:x≠"__name__":=by decide)(hdb:NDx x:=by decide)(he:SEx X e es:=by rfl)(hpl:PLx X pos es:=by rfl):GE X C ℓ (.Call (.Name x p) (e::es) [] pos) (gcall h ga):=by
 have⟨t,pa,qa⟩:=ha;refine⟨_,VQ hc hg hm hv pa hn hdb he hpl,λσ H os ρ fs c Q R q k=>?_⟩;have⟨ds,e1,e2⟩:=bind_some q;exact qa σ H os ρ fs ds _ R e1 λvs H' s rv=>hr vs H' os ds c Q (R.rel.al.same s) rv e2 λv H2 s2=>k v H2 (s.trans s2)
theorem zba{k k':Nat}{ps:LSr}{h:LPx}(D:yq X.prog X.w X.K X.mg X.base k x ps h)(hr:Room k' X.A)(hg:Gl X x)(ha:GA X C ℓ (e::es) ga)(hk:k<=k':=by decide)(hdb:NDx x:=by decide)(he:SEx X e es:=by rfl)(hpl:PLx X pos es:=by rfl):GE X C ℓ (.Call (.Name x p) (e::es) [] pos) (gcall h ga):=by
 have⟨t,pa,qa⟩:=ha;refine⟨_,Wv D hr hg Jg pa hk hdb he hpl,λσ H os ρ fs c Q R q k=>?_⟩;have⟨ds,e1,e2⟩:=bind_some q;refine qa σ H os ρ fs ds _ R e1 λvs H' s rv=>?_
 rw[List.append_nil];exact⟨os,ds,c,R.rel.al.same s,rv,e2,λv H2 s2=>k v H2 (s.trans s2)⟩
end
section
variable{X:Cx}{C:AdX}{ℓ:Nat}{pos:Pos}
def Jx(c:Ro->Ob->Option (Bool×Ob))(b:OFx):Nat->Ro->Ob->Option Flo
 |0,_,_=>none
 |n+1,ρ,fs=>(c ρ fs).bind λt=>if t.1 then (match b ρ t.2 with |some (.nx ρ' fs')=>Jx c b n ρ' fs'|r=>r) else some (.nx ρ t.2)
def owh(m:Ro->Ob->Nat)(c:Ro->Ob->Option (Bool×Ob))(b:OFx):OFx:=λρ fs=>Jx c b (m ρ fs) ρ fs
theorem Y0(m:Ro->Ob->Nat){c:Expr}{body:List Stmt}{fc:Ro->Ob->Option (Bool×Ob)}{fb:OFx}(hp:PassesOwn (model X.prog X.w) X.A X.env X.xe)(hc:GTM X C ℓ c fc)(hb:OSs X C ℓ body fb):OS X C ℓ (.While c body [] pos) (owh m fc fb):=by
 have⟨tc,pc,qc⟩:=hc;have⟨tb,pb,qb⟩:=hb;refine⟨_,zb2 hp pc pb,λH0 os0 p D σ H os ρ fs r R e k=>?_⟩;refine⟨λn σ' H'=>∃os' ρ' fs',MSt X.K C ℓ H0 os0 p H' os' σ' ρ' fs'/\Jx fc fb n ρ' fs'=some r,⟨m ρ fs,os,ρ,fs,R,e⟩,?_⟩;rintro n σ' H' ⟨os',ρ',fs',R',e'⟩;cases n with
 |zero=>cases e'
 |succ n=>
  have⟨⟨b,fs1⟩,e1,e2⟩:=bind_some e';refine qc H0 os0 p σ' H' os' ρ' fs' b fs1 _ R' e1 λH2 os2 R2=>?_
  cases b with
  |false=>rw[if_neg Bool.false_ne_true] at e2 ⊢;cases e2;exact k _ _ _ R2
  |true=>
   rw[if_pos rfl] at e2 ⊢;refine⟨λσ3 H3=>∃os' ρ' fs',MSt X.K C ℓ H0 os0 p H3 os' σ3 ρ' fs'/\Jx fc fb n ρ' fs'=some r,λσ3 H3 h=>⟨n,Nat.lt_succ_self n,h⟩,?_⟩;split at e2
   ·rename_i ρ2 fs2 e3;exact qb H0 os0 p _ σ' H2 os2 ρ' fs1 _ R2 e3 λσ3 H3 os3 R3=>⟨os3,ρ2,fs2,R3,e2⟩
   ·cases r with
    |nx ρ2 fs2=>rename_i hn;exact absurd e2 (hn ρ2 fs2)
    |rt d fs2=>exact qb H0 os0 p _ σ' H2 os2 ρ' fs1 _ R2 e2 k
    |rf d=>exact qb H0 os0 p _ σ' H2 os2 ρ' fs1 _ R2 e2 k
end
def GIR(X:Cx)(C:AdX)(ℓ:Nat)(tg iter:Expr)(f:OLx):Prop:=∃wi:TI,PI X tg iter wi/\∀(σ:St)(H:Hp)(os:LAd)(ρ:Ro)(fs:Ob)(ds:LPd)(R:It->Hp->Prop),vC X.K C ℓ H os σ ρ fs->f ρ fs=some ds->
  (∀J H',Same H H'->(∀G G0,Walks X.K G G0 J ds)->R J H')->wi σ H R
def grn(g:OLx):OLx:=λρ fs=>match g ρ fs with
 |some [.int j]=>if -(2 ^ 62)<=j/\j<2 ^ 62 then some (jB 0 j.toNat) else none
 |_=>none
section
variable{X:Cx}{C:AdX}{ℓ:Nat}{tg a:Expr}{p pos:Pos}{g:OLx}
theorem zdN(hg:Gl X "range")(hm:X.mg "range"=none)(ha:GA X C ℓ [a] g)(hs:starEach [a] X.env=[(false,eval a X.env)]:=by rfl):GIR X C ℓ tg (.Call (.Name "range" p) [a] [] pos) (grn g):=by
 have⟨t,pa,qa⟩:=ha;refine⟨_,zaM hg hm pa hs,λσ H os ρ fs ds R rel e k=>?_⟩;unfold grn at e;split at e
 ·rename_i j e1;split at e
  ·rename_i hc;cases e;refine qa σ H os ρ fs _ _ rel e1 λvs H' s r=>?_
   cases r with
   |cons h r=>cases r;cases h;exact⟨j,rfl,hc.1,hc.2,k _ H' s λG G0=>V5⟩
  ·cases e
 ·cases e
end
theorem MSt.sets{K:FRx}{C:AdX}{ℓ:Nat}{H0 H:Hp}{os0 os:LAd}{p:AdX}{is:LNt}{σ σ':St}{ρ ρ':Ro}{fs:Ob}(s:Sets K (offs H os) is σ ρ σ' ρ')(hi:∀i∈is,i≠ℓ)(h:MSt K C ℓ H0 os0 p H os σ ρ fs):MSt K C ℓ H0 os0 p H os σ' ρ' fs:=by
 induction s with
 |nil=>exact h
 |set r _ ih=>exact ih (λi hm=>hi i (.tail _ hm)) (h.set (hi _ (.head _)) r)
section
variable{X:Cx}{C:AdX}{ℓ:Nat}{pos:Pos}
def zaR(bd:PyData->Ro->Option Ro)(b:OFx):List PyData->Ro->Ob->Option Flo
 |[],ρ,fs=>some (.nx ρ fs)
 |d::ds,ρ,fs=>(bd d ρ).bind λρ1=>match b ρ1 fs with |some (.nx ρ2 fs2)=>zaR bd b ds ρ2 fs2|r=>r
def ofor(fi:OLx)(bd:PyData->Ro->Option Ro)(b:OFx):OFx:=λρ fs=>(fi ρ fs).bind λds=>zaR bd b ds ρ fs
theorem zk3{tg iter:Expr}{body:List Stmt}{fi:OLx}{is:LNt}{bd:PyData->Ro->Option Ro}{fb:OFx}(hp:PassesOwn (model X.prog X.w) X.A X.env X.xe)(hc:X.calm=true)(hi:GIR X C ℓ tg iter fi)(hg:FG X tg is bd)(hb:OSs X C ℓ body fb)(his:∀i∈is,i≠ℓ:=by decide)(hs:FSx X iter:=by exact λ_=>rfl):OS X C ℓ (.For tg iter body [] pos) (ofor fi bd fb):=by
 have⟨wi,pi,qi⟩:=hi;have⟨tb,pb,qb⟩:=hb;refine⟨_,zer hp hc pi hg pb hs,λH0 os0 p D σ H os ρ fs r R e k=>?_⟩;have⟨ds,e1,e2⟩:=bind_some e;refine qi σ H os ρ fs ds _ R.wN e1 λJ H1 s1 W=>?_
 refine⟨λi m σ' H'=>m=ds.length - i/\i<=ds.length/\∃os' ρ' fs',MSt X.K C ℓ H0 os0 p H' os' σ' ρ' fs'/\zaR bd fb (ds.drop i) ρ' fs'=some r,
  ⟨ds.length,rfl,Nat.zero_le _,os,ρ,fs,R.same s1,e2⟩,?_⟩
 rintro i m σ' H' ⟨rfl,hi,os',ρ',fs',R',e'⟩;obtain⟨w1,w2⟩:=W H' (offs H' os') H' os' R'.sr.rel.al (Same.refl _) (Same.refl _);by_cases hlt:i<ds.length
 ·obtain⟨d,hd⟩:∃d,ds[i]?=some d:=⟨_,List.getElem?_eq_getElem hlt⟩;have⟨g1,g2⟩:=w1 i d hd;have ed:ds.drop i=d::ds.drop (i+1):=by
   rw[List.drop_eq_getElem_cons hlt];rw[List.getElem?_eq_getElem hlt] at hd;cases hd;rfl
  rw[ed] at e';have⟨ρ1,e3,e4⟩:=bind_some e';refine .inr ⟨g1,λσ2 H2=>i+1<=ds.length/\∃os' ρ' fs',MSt X.K C ℓ H0 os0 p H2 os' σ2 ρ' fs'/\zaR bd fb (ds.drop (i+1)) ρ' fs'=some r,?_,?_⟩
  ·rintro σ2 H2 ⟨h1,h2⟩;exact⟨ds.length - (i+1),by omega,rfl,h1,h2⟩
  ·intro x H2 hy;have⟨s2,rx⟩:=g2 x H2 hy;refine⟨os',d,ρ',ρ1,rx,e3,λσ2 st=>?_⟩;have R2:MSt X.K C ℓ H0 os0 p H2 os' σ2 ρ1 fs':=MSt.sets st his (R'.same s2);split at e4
   ·rename_i ρ2 fs2 e5;exact qb H0 os0 p _ σ2 H2 os' ρ1 fs' _ R2 e5 λσ3 H3 os3 R3=>⟨hlt,os3,ρ2,fs2,R3,e4⟩
   ·cases r with
    |nx ρ2 fs2=>rename_i hn;exact absurd e4 (hn ρ2 fs2)
    |rt d fs2=>exact qb H0 os0 p _ σ2 H2 os' ρ1 fs' _ R2 e4 k
    |rf d=>exact qb H0 os0 p _ σ2 H2 os' ρ1 fs' _ R2 e4 k
 ·have e:i=ds.length:=by omega
  subst e;rw[List.drop_length] at e';cases e';exact .inl ⟨w2,k _ _ _ R'⟩
end
def Ini(P:Program)(w:World)(K:FRx)(mg:Str->Option Value)(base:Heap)(k:Nat)(C:AdX)(x:Str)(ps:LSr)(h:MFx):Prop:=∃f fd,Mk K C f/\wo P w K mg base CX0 k f fd ps (spM K C h)/\Binds K fd ps []/\mg x=some (.ref C)
def GN(X:Cx)(C:AdX)(ℓ:Nat)(C2:AdX)(e:Expr)(f:Ro->Ob->Option Ob):Prop:=∃t:TE,PE X e t/\∀(σ:St)(H:Hp)(os:LAd)(ρ:Ro)(fs gs:Ob)(Q:VK),vC X.K C ℓ H os σ ρ fs->f ρ fs=some gs->
  (∀q H' os' B,Left H os [] H' os'->FOk X.K H' os' (.ref q) (.ob C2 gs) B->B.Nodup->(∀a∈B,a∈os'/\H a=none)->Q (.ref q) H')->t σ H Q
def FN(X:Cx)(C2:AdX)(e:Expr)(f:Ro->Option Ob):Prop:=∃t:TE,PE X e t/\∀(σ:St)(H:Hp)(os:LAd)(ρ:Ro)(gs:Ob)(Q:VK),xo X.K H os σ ρ->f ρ=some gs->
  (∀q H' os' B,Left H os [] H' os'->FOk X.K H' os' (.ref q) (.ob C2 gs) B->B.Nodup->(∀a∈B,a∈os'/\H a=none)->Q (.ref q) H')->t σ H Q
section
variable{X:Cx}{C C2:AdX}{ℓ:Nat}{e:Expr}{es:List Expr}{ga:RLx}{p pos:Pos}{x:Str}{k k':Nat}{ps:LSr}
theorem FN.gn{f:Ro->Option Ob}(h:FN X C2 e f):GN X C ℓ C2 e (λρ _=>f ρ):=by
 have⟨t,p,q⟩:=h;exact⟨t,p,λσ H os ρ fs gs Q R e k=>q σ H os ρ gs Q R.rel e k⟩
def fnw(h:MFx)(ga:RLx):Ro->Option Ob:=λρ=>(ga ρ).bind λds=>match h [] ds with |some (.none,gs)=>some gs|_=>none
theorem za8{h:MFx}(I:Ini X.prog X.w X.K X.mg X.base k C2 x ps h)(hr:Room k' X.A)(hg:Gl X x)(ha:FA X (e::es) ga)(hk:k+1<=k':=by decide)(hdb:NDx x:=by decide)(he:SEx X e es:=by rfl)(hpl:PLx X pos es:=by rfl):FN X C2 (.Call (.Name x p) (e::es) [] pos) (fnw h ga):=by
 have⟨fa,fd,M,F,B,mx⟩:=I;have⟨t,pa,qa⟩:=ha;refine⟨_,zj0 M F (hr.mono hk) hg mx B .nil Jg pa hdb he hpl,λσ H os ρ gs Q R e kk=>?_⟩;have⟨ds,e1,e2⟩:=bind_some e;refine qa σ H os ρ ds _ R e1 λus H1 s1 ru q dx nq ndx dq=>?_
 split at e2
 ·rename_i gs' e3;cases e2;have al1:Al H1 os:=R.al.same s1;have nos:∀a,H1 a=none->a∉os:=λa n=>al1.new n
  have same:Same H1 (upd (upd H1 dx (.own q)) q (.ins C2 dx [])):=λb o z=>by
   rw[zO (λw=>by rw[w,nq] at z;cases z),zO (λw=>by rw[w,ndx] at z;cases z)];exact z
  have so:Same (offs H1 os) (offs (upd (upd H1 dx (.own q)) q (.ins C2 dx [])) (q::os)):=jb nq same;rw[List.append_nil];refine⟨q,us,q::os,ds,[],.none,gs,[q],rfl,.ob zE .nil,List.nodup_cons.mpr ⟨by simp,.nil⟩,λa ha=>by rw[List.mem_singleton.mp ha];exact .head _,λa ha=>?_,ru.same so,e3,λv H' os' A' sm al o' nd' hA' sub new rv=>?_⟩
  ·rcases List.mem_cons.mp ha with z|z
   ·rw[z];exact⟨_,zE⟩
   ·have⟨o,w⟩:=al1 a z;exact⟨o,same a o w⟩
  ·cases rv;have out:∀a,offs (upd (upd H1 dx (.own q)) q (.ins C2 dx [])) [q] a=none->H1 a=none:=λa z=>by
    by_cases w:a=q
    ·rw[w];exact nq
    ·rw[zt (by simpa using w)] at z;exact same.free z
   refine⟨rfl,kk q H' os' A' ⟨λb o z=>?_,al,λa ha=>.inr ?_,λa ha=>?_⟩ o' nd' λa ha=>⟨(hA' a ha).1,s1.free (out a (hA' a ha).2)⟩⟩
   ·have z1:=s1 b o z;refine sm b o ?_;rw[zt (λw=>by rw[List.mem_singleton.mp w,nq] at z1;cases z1)];exact same b o z1
   ·rcases sub a (.tail _ ha) with w|w
    ·exact absurd (by rw[List.mem_singleton.mp w] at ha;exact ha) (nos q nq)
    ·exact w
   ·rcases new a ha with w|w
    ·rcases List.mem_cons.mp w with u|u
     ·right
      rw[zt (by simp),u];exact s1.free nq
     ·exact .inl u
    ·right
     rw[zt (by simp)];exact s1.free (out a w)
 ·cases e2
end
section
variable{X:Cx}{C C2:AdX}{ℓ:Nat}{e:Expr}{pos pos' p0:Pos}{x f:Str}
theorem zac{H H':Hp}{os os':LAd}(L:Left H os [] H' os'):Same (offs H os) (offs H' os'):=L.data λa ha=>by cases ha
def zji(x:Str)(C2:AdX)(g:Ro->Ob->Option Ob):OFx:=λρ fs=>(g ρ fs).bind λgs=>if fs.length<1000 then some (.nx ρ (zJ x (.ob C2 gs) fs)) else none
theorem zjY{g:Ro->Ob->Option Ob}(cl:Cls X.K C)(na:zH X.K C f)(he:GN X C ℓ C2 e g)(hN:X.N[ℓ]?=some x:=by rfl)(hv:Vis X.env.scope x:=by trivial)(hd:NDx x:=by decide)(hcd:NCx x:=by decide)(hs:swapsWith e (some (.Attribute (.Name x p0) f pos')) pos.line X.env=pure false:=by rfl):OS X C ℓ (.Assign [.Attribute (.Name x p0) f pos'] e pos) (zji f C2 g):=by
 have⟨t,pe,q⟩:=he;refine⟨_,zbB (yl (i:=ℓ) hN hv hd hcd) pe hs,λH0 os0 p D σ H os ρ fs r R e k=>?_⟩;have⟨gs,e1,e2⟩:=bind_some e;split at e2
 ·rename_i hl;cases e2;refine q σ H os ρ fs gs _ R.wN e1 λq H' os' B L o nd hB=>?_
  have⟨A,h1,h2,h3,h4⟩:=R.ob;have cell:∀a∈A,H' a=H a:=λa ha=>by
   have⟨o,w⟩:=h1.has a ha;rw[w];exact L.cell (by simp) w
  have h1':=h1.keep (zac L) cell;have sr':=R.sr.left L (λa ha=>by cases ha) λj c q m a ha=>by cases ha
  have ins:∀a∈A,a∈os':=λa ha=>by
   rcases L.sub a (h3 a ha).1 with w|w
   ·cases w
   ·exact w
  cases h1' with
  |ob hp r=>
   refine⟨_,R.self,_,_,_,_,rfl,hp,cl,na,by rw[r.len];exact hl,k _ _ _ (Yf sr' R.self hp r h2 (λa ha=>⟨ins a ha,(h3 a ha).2⟩) h4 o nd λa ha=>⟨(hB a ha).1,R.sr.sm.free (hB a ha).2,λw=>?_,λj c q m w=>?_⟩)⟩
   ·have⟨o,z⟩:=h1.has a w;rw[(hB a ha).2] at z;cases z
   ·have⟨b,o,w1,w2,w3,_⟩:=R.sr.rel.mu j c q m;rw[w] at w1;cases w1;rw[(hB a ha).2] at w3;cases w3
 ·cases e2
end
theorem SRo.zhF{K:FRx}{H0 H:Hp}{os0 os:LAd}{σ:St}{ρ:Ro}(h:SRo K H0 os0 H os σ ρ)(i:Nat)(v:Option V):SRo K H0 os0 H os (σ.set i v) (ρ.set i .no):=by
 have m:∀{j:Nat} {c:Sl},(ρ.set i .no)[j]?=some c->c≠ .no->i≠j/\ρ[j]?=some c:=λ{j c} q hc=>by
  rcases yf q with⟨_,_,z⟩|z
  ·exact absurd z.symm hc
  ·exact z
 have nm:∀{c:Sl},isM c=true->c≠ .no:=λ{c} hm z=>by rw[z] at hm;cases hm
 refine⟨⟨λj d q=>?_,λj c q hm=>?_,h.rel.al,by rw[List.length_set,List.length_set];exact h.rel.len⟩,h.sm,h.sub,h.new,h.al0,λj c q hm a e=>?_,λj k c c' hjk q1 q2 m1 m2 a e1=>?_⟩
 ·obtain⟨hj,q⟩:=m q (by intro z;cases z);rw[List.getElem?_set_ne hj];exact h.rel.pu j d q
 ·obtain⟨hj,q⟩:=m q (nm hm);rw[List.getElem?_set_ne hj];exact h.rel.mu j c q hm
 ·obtain⟨hj,q⟩:=m q (nm hm);rw[List.getElem?_set_ne hj] at e;exact h.own j c q hm a e
 ·obtain⟨hj,q1⟩:=m q1 (nm m1);obtain⟨hk,q2⟩:=m q2 (nm m2);rw[List.getElem?_set_ne hj] at e1;rw[List.getElem?_set_ne hk];exact h.ap j k c c' hjk q1 q2 m1 m2 a e1
section
variable{X:Cx}{C:AdX}{e:Expr}{rest:List Stmt}{pos:Pos}{f:Ro->Option Ob}{g:OFx}
def zdH(i:Nat)(f:Ro->Option Ob)(g:OFx):RFx:=λρ=>(f ρ).bind λgs=>if i<ρ.length then (match g (ρ.set i .no) gs with |some (.rt d _)=>some (.rt d)|some (.rf d)=>some (.rt d)|_=>none) else none
theorem ze5(i:Nat){x:Str}{pos':Pos}(hN:X.N.Nodup)(he:FN X C e f)(hr:OSs X C i rest g)(hi:X.N[i]?=some x:=by rfl)(hx:Loc X.env.scope x:=by trivial)(hs:swapsWith e (some (.Name x pos')) pos.line X.env=pure false:=by rfl)(hf:FNx X x:=by trivial):FSs X (.Assign [.Name x pos'] e pos::rest) (zdH i f g):=by
 have⟨t,p,q⟩:=he;have⟨t2,p2,q2⟩:=hr;refine⟨_,wc (w8 hN hi hx p hs hf) p2,λH0 os0 D σ H os ρ r R e k=>?_⟩;have⟨gs,e1,e2⟩:=bind_some e;split at e2
 ·rename_i hl;split at e2
  ·rename_i d fs' e3;cases e2;refine q σ H os ρ gs _ R.rel e1 λa H' os' B L o nd hB=>?_
   have sr':=(R.left L (λb hb=>by cases hb) λj c q m b hb=>by cases hb).zhF i (some (.ref a));refine q2 H0 os0 a D _ H' os' _ gs _ ⟨sr',List.getElem?_set_self (by rw[R.rel.len];exact hl),B,o,nd,λb hb=>⟨(hB b hb).1,R.sm.free (hB b hb).2⟩,λj c q m b hb w=>?_⟩ e3 λv H2 os2 M rv=>k v H2 M.sm (rv.same (y3 M.sub))
   rcases yf q with⟨_,_,z⟩|⟨hj,q⟩
   ·rw[<-z] at m;cases m
   ·rw[List.getElem?_set_ne hj] at w;have⟨b',o',w1,w2,w3,_⟩:=R.rel.mu j c q m;rw[w] at w1;cases w1;rw[(hB b hb).2] at w3;cases w3
  ·rename_i d e3;cases e2;refine q σ H os ρ gs _ R.rel e1 λa H' os' B L o nd hB=>?_
   have sr':=(R.left L (λb hb=>by cases hb) λj c q m b hb=>by cases hb).zhF i (some (.ref a));refine q2 H0 os0 a D _ H' os' _ gs _ ⟨sr',List.getElem?_set_self (by rw[R.rel.len];exact hl),B,o,nd,λb hb=>⟨(hB b hb).1,R.sm.free (hB b hb).2⟩,λj c q m b hb w=>?_⟩ e3 λv H2 sm rv=>k v H2 sm rv
   rcases yf q with⟨_,_,z⟩|⟨hj,q⟩
   ·rw[<-z] at m;cases m
   ·rw[List.getElem?_set_ne hj] at w;have⟨b',o',w1,w2,w3,_⟩:=R.rel.mu j c q m;rw[w] at w1;cases w1;rw[(hB b hb).2] at w3;cases w3
  ·cases e2
 ·cases e2
end
section
variable{X:Cx}{C:AdX}{ℓ:Nat}{e:Expr}{es:List Expr}{f:OPx}{ga:OLx}{pos apos p0 p2:Pos}{x m:Str}{k k':Nat}{ps:LSr}{lo hi:Option Expr}{l h:Ro->Option (Option Int)}
def gtp(g:OLx):OPx:=λρ fs=>(g ρ fs).bind λds=>if ds.length<=16777216 then some (.tuple ds) else none
theorem zlR{x1}(h:GA X C ℓ es ga):GE X C ℓ (.Tuple es x1 pos) (gtp ga):=by
 have⟨t,p,q⟩:=h;refine⟨_,zem p,λσ H os ρ fs d Q R e k=>?_⟩;have⟨ds,e1,e2⟩:=bind_some e;by_cases hl:ds.length<=16777216
 ·rw[if_pos hl] at e2;cases e2;refine q σ H os ρ fs ds _ R e1 λvs H' s r=>⟨by rw[r.length];exact hl,λp hp=>k _ _ (s.trans (zW hp _)) (.tup (SqT.of ?_) (r.same (zl (zW hp _) os)))⟩
  rw[zt ((R.rel.al.same s).new hp)];exact zE
 ·rw[if_neg hl] at e2;cases e2
def glF(f:OLx):OPx:=λρ fs=>(f ρ fs).map .list
theorem GL.ge{f:OLx}(h:GL X C ℓ e f):GE X C ℓ e (glF f):=by
 have⟨t,h1,h2⟩:=h;refine⟨t,h1,λσ H os ρ fs d Q R q k=>?_⟩;have⟨ds,e1,e2⟩:=map_some q;subst e2;refine h2 σ H os ρ fs ds Q R e1 λa xs H' n s hx r=>k _ H' s (.lst (SqL.of ?_) (r.same (y3 λb hb=>List.mem_cons_of_mem _ hb)))
 rw[zt (R.rel.al.new n)];exact hx
def gsl(f:OPx)(l h:Ro->Option (Option Int)):OLx:=λρ fs=>match f ρ fs with
 |some (.list ds)=>(l ρ).bind λlo=>(h ρ).bind λhi=>some (cut ds lo hi)
 |_=>none
theorem zg1(ha:GB X C ℓ e f)(hl:FO X lo l)(hh:FO X hi h):GL X C ℓ (.Subscript e (.Slice lo hi none p2) pos) (gsl f l h):=by
 have⟨ta,pa,qa⟩:=ha;have⟨tl,pl,ql⟩:=hl;have⟨th,ph,qh⟩:=hh;refine⟨_,zda zeU pa pl ph,λσ H os ρ fs c Q R q k=>?_⟩;unfold gsl at q;split at q
 ·rename_i ds e1;have⟨a,e2,q⟩:=bind_some q;have⟨b,e3,q⟩:=bind_some q;cases q;refine qa σ H os ρ fs _ _ R e1 λv H1 s1 r1=>ql σ H1 os ρ a _ (R.rel.same s1) e2 λH2 s2=>qh σ H2 os ρ b _ (R.rel.same (s1.trans s2)) e3 λH3 s3=>?_
  obtain⟨p,xs,rfl,hS,r⟩:=(r1.same (s2.trans s3)).lst;exact⟨p,xs,rfl,hS,λq hq=>k q _ _ ((s1.trans s2).trans s3 |>.free hq) (((s1.trans s2).trans s3).trans (zW hq _)) zE (jQ hq (zb1 r a b))⟩
 ·cases q
theorem VA{pl:Sem Bool}{h:MFx}(cl:Cls X.K C)(M:Met X.prog X.w X.K X.mg X.base k C m ps h)(hr:Room k' X.A)(hk:k<=k':=by decide)(hN:X.N[ℓ]?=some x:=by rfl)(hv:Vis X.env.scope x:=by trivial)(hd:NDx x:=by decide)(hcd:NCx x:=by decide)(ht:eval (.Call (.Attribute (.Name x p0) m apos) [] [] pos) X.env=(do
   let ov <-eval (.Name x p0) X.env
   standAt apos.atName
   let (f,first) <-holding [ov] (getMethod ov m pl)
   callWith pos f first (backTo pos (starEach [] X.env)) (backToKw pos (keywordEach [] X.env))):=by rfl):GM X C ℓ (.Call (.Attribute (.Name x p0) m apos) [] [] pos) (gms m h gA0):=by
 have⟨fa,fd,F,B,mm⟩:=M;refine⟨_,zcI (pl:=pl) (yl (i:=ℓ) hN hv hd hcd) cl mm F (hr.mono hk) B .nil Jg ht,λH0 os0 p σ H os ρ fs d fs' Q R e kk=>?_⟩;unfold gms at e;split at e
 ·rename_i hm;have⟨ds,e1,e2⟩:=bind_some e;cases e1;have⟨A,h1,h2,h3,h4⟩:=R.ob;cases h1 with
  |ob hp rr=>
   refine⟨_,R.self,p,_,_,rfl,hp,rr.nolook (Option.isNone_iff_eq_none.mp hm),?_⟩;have o1:=FOk.ob hp rr;refine⟨p,[],os,[],fs,d,fs',_,rfl,o1,h2,λa ha=>(h3 a ha).1,R.sr.rel.al,.nil,e2,λv H' os' B' sm al o' nd' hB' sub new rv=>?_⟩;exact kk v H' os' (R.own o1 ⟨sm,al,sub,new⟩ o' nd' hB') rv
 ·cases e
end
structure zgm(K:FRx)(C:AdX)(ℓ:Nat)(H:Hp)(os:LAd)(σ:St)(ρ:Ro)(fs:Ob):Prop where
 rel:xo K H os σ ρ
 ob:∃p dx vs,σ[ℓ]?=some (some (.ref p))/\H p=some (.ins C dx vs)/\∀x d,gg x ρ fs=some d->∃v,vs.lookup x=some v/\Rep K (offs H os) v d
theorem zgm.same{K:FRx}{C:AdX}{ℓ:Nat}{H H':Hp}{os:LAd}{σ:St}{ρ:Ro}{fs:Ob}(h:zgm K C ℓ H os σ ρ fs)(e:Same H H'):zgm K C ℓ H' os σ ρ fs:=by
 have⟨p,dx,vs,h1,h2,h3⟩:=h.ob;exact⟨h.rel.same e,p,dx,vs,h1,e _ _ h2,λx d q=>by
  have⟨v,l,r⟩:=h3 x d q;exact⟨v,l,r.same (zl e os)⟩⟩
theorem MSt.zna{K:FRx}{C:AdX}{ℓ:Nat}{H0 H:Hp}{os0 os:LAd}{p:AdX}{σ:St}{ρ:Ro}{fs:Ob}(h:MSt K C ℓ H0 os0 p H os σ ρ fs):∃os',zgm K C ℓ H os' σ ρ fs/\(∀a∈os0,a∈os'):=by
 have⟨A,h1,h2,h3,h4⟩:=h.ob;have sub:∀b∈os.filter (λc=>c∉A),b∈os:=λb hb=>(List.mem_filter.mp hb).1
 have so:Same (offs H os) (offs H (os.filter λc=>c∉A)):=y3 sub;refine⟨os.filter λc=>c∉A,⟨⟨λi d q=>?_,λi c q m=>?_,λb hb=>h.sr.rel.al b (sub b hb),h.sr.rel.len⟩,?_⟩,λa ha=>List.mem_filter.mpr ⟨h.sr.sub a ha,?_⟩⟩
 ·have⟨v,w1,w2⟩:=h.sr.rel.pu i d q;exact⟨v,w1,w2.same so⟩
 ·have⟨a,o,w1,w2,w3,w4⟩:=h.sr.rel.mu i c q m;exact⟨a,o,w1,List.mem_filter.mpr ⟨w2,by simpa using λz=>h4 i c q m a z w1⟩,w3,w4.same so⟩
 ·cases h1 with
  |ob hp r=>
   refine⟨p,_,_,h.self,hp,λx d q=>?_⟩;unfold gg at q;split at q
   ·rename_i d' ef;cases q;have⟨v,B,l,o,_⟩:=r.look ef;cases o with
    |pu rv=>exact⟨_,l,rv.same so⟩
   ·rename_i ds ef;cases q;have⟨v,B,l,o,hB⟩:=r.look ef;cases o with
    | @ow a0 xs0 _ ha rv=>
     have na:a0∉os.filter λc=>c∉p::_:=λz=>by
      have w:=(List.mem_filter.mp z).2;simp at w;exact w.2 (hB a0 (.head _))
     exact⟨_,l,.lst (SqL.of (by rw[zt na];exact ha)) (rv.same so)⟩
   ·cases q
 ·have:a∉A:=λz=>by
   have⟨o,e⟩:=h.sr.al0 a ha;rw[(h3 a z).2] at e;cases e
  simpa using this
def GZ(X:Cx)(C:AdX)(ℓ:Nat)(e:Expr)(f:OPx):Prop:=∃t:TE,PE X e t/\∀(σ:St)(H:Hp)(os:LAd)(ρ:Ro)(fs:Ob)(d:PdX)(Q:VK),zgm X.K C ℓ H os σ ρ fs->f ρ fs=some d->(∀v H',Same H H'->Rep X.K (offs H' os) v d->Q v H')->t σ H Q
def GZA(X:Cx)(C:AdX)(ℓ:Nat)(es:List Expr)(f:OLx):Prop:=∃t:TA,PA X es t/\∀(σ:St)(H:Hp)(os:LAd)(ρ:Ro)(fs:Ob)(ds:LPd)(Q:List V->Hp->Prop),zgm X.K C ℓ H os σ ρ fs->f ρ fs=some ds->(∀vs H',Same H H'->Reps X.K (offs H' os) vs ds->Q vs H')->t σ H Q
section
variable{X:Cx}{C:AdX}{ℓ:Nat}{e:Expr}{es:List Expr}{f:OPx}{g:OLx}{pos p0:Pos}{x n:Str}
theorem FE.gz{f:RPx}(h:FE X e f):GZ X C ℓ e (λρ _=>f ρ):=by
 have⟨t,p,q⟩:=h;exact⟨t,p,λσ H os ρ fs d Q R e k=>q σ H os ρ d Q R.rel e k⟩
theorem zl9(cl:Cls X.K C)(na:zH X.K C n)(hN:X.N[ℓ]?=some x:=by rfl)(hv:Vis X.env.scope x:=by trivial)(hd:NDx x:=by decide)(hcd:NCx x:=by decide)(hb:ABx X (.Name x p0) n:=by rfl):GZ X C ℓ (.Attribute (.Name x p0) n pos) (gg n):=by
 refine⟨_,va (yl (i:=ℓ) hN hv hd hcd) hb,λσ H os ρ fs d Q R e k=>?_⟩;have⟨p,dx,vs,h1,h2,h3⟩:=R.ob;have⟨v,l,r⟩:=h3 n d e;exact⟨_,h1,_,_,_,_,_,rfl,h2,cl,na,l,k v H (Same.refl H) r⟩
theorem zj6:GZA X C ℓ [] gA0:=⟨_,xv,λ_ H _ _ _ _ _ _ q k=>by cases q;exact k [] H (Same.refl H) .nil⟩
theorem zdt(ha:GZ X C ℓ e f)(hr:GZA X C ℓ es g)(hs:SEx X e es:=by rfl):GZA X C ℓ (e::es) (gAC f g):=by
 have⟨ta,pa,qa⟩:=ha;have⟨tb,pb,qb⟩:=hr;refine⟨_,yD pa pb hs,λσ H os ρ fs ds Q R q k=>?_⟩;have⟨d,e1,q⟩:=bind_some q;have⟨r,e2,e3⟩:=map_some q;subst e3;exact qa σ H os ρ fs d _ R e1 λx H1 s1 r1=>qb σ H1 os ρ fs r _ (R.same s1) e2 λxs H2 s2 r2=>k _ H2 (s1.trans s2) (.cons (r1.same (zl s2 os)) r2)
theorem zkY{x1}(h:GZA X C ℓ es g):GZ X C ℓ (.Tuple es x1 pos) (gtp g):=by
 have⟨t,p,q⟩:=h;refine⟨_,zem p,λσ H os ρ fs d Q R e k=>?_⟩;have⟨ds,e1,e2⟩:=bind_some e;by_cases hl:ds.length<=16777216
 ·rw[if_pos hl] at e2;cases e2;refine q σ H os ρ fs ds _ R e1 λvs H' s r=>⟨by rw[r.length];exact hl,λp hp=>k _ _ (s.trans (zW hp _)) (.tup (SqT.of ?_) (r.same (zl (zW hp _) os)))⟩
  rw[zt ((R.rel.al.same s).new hp)];exact zE
 ·rw[if_neg hl] at e2;cases e2
def ZK(f:OPx):OFx:=λρ fs=>(f ρ fs).bind λd=>some (.rf d)
theorem zjf(h:GZ X C ℓ e f):OS X C ℓ (.Return (some e) pos) (ZK f):=by
 have⟨t,p,q⟩:=h;refine⟨_,UB p,λH0 os0 p D σ H os ρ fs r R e k=>?_⟩;have⟨d,e1,e2⟩:=bind_some e;cases e2;have⟨os',Z,sub⟩:=R.zna;exact q σ H os' ρ fs d _ Z e1 λv H' s rv=>k v H' (R.sr.sm.trans s) (rv.same (y3 sub))
end
def W9(K:FRx)(mg:Str->Option Value)(C:AdX)(y x qual:Str)(st:Stmt):Prop:=∃f fd,Fun K x qual st f fd/\Mk K C f/\mg y=some (.ref C)
section
variable{P:Program}{w:World}{K:FRx}{mg:Str->Option Value}{base:Heap}{C:AdX}
theorem Ini.mk{x y qual:Str}{st:Stmt}{N ps:LSr}{k m:Nat}{b:OFx}(h:W9 K mg C y x qual st)(S:zq N ps (zc st))(hb:∀(kV doc pm:Value)(an:Option Addr)(cdv ct:Value)(us:LVl),us.length=ps.length->bindArgs (W.fnOf x qual (x8 st) (yC st) (zc st) .none kV doc pm an cdv ct) ⟨us,[]⟩=pure (ps.zip us))(hm:ps.length=m+1)(hN:m<N.length)(hbody:∀(f:AdX)(cdv:Value)(A:Around)(outer:List Env)(s:ShX)(H:Hp)(E:XK),Room k (A.deeper (envOfC qual (zc st) s.heap.objs.size f cdv))->
   OSs (J1 CX0 P w K mg base N qual (zc st) f cdv A outer s H E).nox C 0 (yC st) b):Ini P w K mg base (k+1) C y ps (fnM N.length m b):=by
 have⟨f,fd,F,M,my⟩:=h;refine⟨f,fd,M,F.ok S (λvs H Q E q=>?_) (λcdv A outer s H vs Q E hr q=>?_),F.binds hb,my⟩
 ·obtain⟨p,us,os,ds,fs,d,fs',A,rfl,_,_,_,_,r,e,_⟩:=q;unfold fnM at e;split at e
  ·rename_i hl;rw[List.length_cons,r.length,hl,hm]
  ·cases e
 ·have⟨t,pp,q'⟩:=hbody f cdv A outer s H E hr;obtain⟨p,us,os,ds,fs,d,fs',A,rfl,o,nd,hA,al,r,e,kk⟩:=q;unfold fnM at e;split at e
  ·rename_i hl;refine⟨t,pp,?_⟩;have R:=zaH (N:=N) al r o nd hA m hl hN;have go:∀v H' os',zig K C (offs H A) (os.filter λa=>a∉A) p H' os' fs'->Rep K (offs H' os') v d->Q v H':=λv H' os' M rv=>by
    have⟨A',o',nd',hA'⟩:=M.ob;refine kk v H' os' A' M.sm M.al o' nd' hA' (λa ha=>?_) (λa ha=>?_) rv
    ·by_cases z:a∈A
     ·exact .inl z
     ·exact .inr (M.sub a (List.mem_filter.mpr ⟨ha,by simpa using z⟩))
    ·rcases M.new a ha with z|z
     ·exact .inl (List.mem_filter.mp z).1
     ·exact .inr z
   split at e
   ·rename_i d' fs'' e1;cases e;exact q' _ _ _ _ _ H os _ _ _ R e1 λv H' os' M rv=>go v H' os' M rv
   ·rename_i ρ' fs'' e1;cases e;exact q' _ _ _ _ _ H os _ _ _ R e1 λσ' H' os' R'=>go _ H' os' R'.end .non
   ·cases e
  ·cases e
end
theorem zai:∀(us:LVl)(k:Nat),(∀(i:Nat)(v:Value),us[i]?=some v->∃t,v=Value.int (0+((k+i:Nat):Int)) t)->Vals ((List.range' k us.length).map λi:Nat=>V.int (0+i)) us
 |[],_,_=>.nil
 |u::us,k,h=>by
  have⟨t,e⟩:=h 0 u rfl;exact .cons ⟨t,by rw[e];simp⟩ (zai us (k+1) λi v hv=>by
   obtain⟨t,e⟩:=h (i+1) v (by simpa using hv);exact⟨t,by rw[e,show k+(i+1)=k+1+i by omega]⟩)
theorem zh3{us:LVl}{n:Nat}(hn:us.length=n)(h:∀(i:Nat)(v:Value),us[i]?=some v->∃t,v=Value.int (0+(i:Int)) t):Vals ((List.range n).map λi:Nat=>V.int (0+i)) us:=by
 rw[<-hn,List.range_eq_range'];exact zai us 0 λi v hv=>by
  have⟨t,e⟩:=h i v hv;exact⟨t,by rw[e,Nat.zero_add]⟩
theorem zcz{K:FRx}{G:Hp}:∀l:List Nat,Reps K G (l.map λi:Nat=>V.int (0+i)) (l.map λi:Nat=>PyData.int (0+i))
 |[]=>.nil
 |_::l=>.cons (.int _) (zcz l)
section
variable{X:Cx}
theorem zhw:wk X (.type "range") (λxs H Q=>∃j:Int,xs=[.int j]/\∀l,H l=none->Q (.ref l) (upd H l (.rng 0 j))):=by
 intro pins s σ H xs us Q I r h;obtain⟨j,rfl,q⟩:=h;obtain⟨u,rfl,t,rfl⟩:=vals1 r;refine call_range_1 ⟨.ref s.heap.objs.size,_,I.laid (o:=.rng 0 j) (t':=s.toks+1+1) (λc o e=>Heap.get?_push_of_some _ e) (Nat.le_refl _) ⟨_,_,_,Heap.get?_push_size _ rfl⟩,rfl,q _ (I.hok.fresh (Nat.le_refl _))⟩
theorem zag(hc:X.calm=true):wk X (.type "list") (λxs H Q=>∃p,∃j:Int,xs=[.ref p]/\H p=some (.rng 0 j)/\-(2 ^ 62)<=j/\j<=16777216/\∀l,H l=none->Q (.ref l) (upd H l (.lst ((List.range j.toNat).map λi:Nat=>V.int (0+i))))):=by
 intro pins s σ H xs us Q I r h;obtain⟨p,j,rfl,hp,h1,h2,q⟩:=h;obtain⟨u,rfl,ru⟩:=vals1 r;cases ru;obtain⟨t,u,v,hR⟩:vo X.prog X.w H s.heap p (.rng 0 j):=I.hok p _ hp;refine call_list_range (I.ok.hd hc) hR (small_one (by omega) (by omega) h1 (by omega)) (n:=j.toNat) (by rw[rangeSize_one];split<;>omega) (by omega) λh' tk acc' c' hk hS' hacc=>?_
 refine⟨.ref s.heap.objs.size,_,I.laid (o:=.lst ((List.range j.toNat).map λi:Nat=>V.int (0+i))) (t':=tk) hk (Nat.le_refl _) ⟨?_,acc'.toList,c',?_,?_⟩,rfl,q _ (I.hok.fresh (Nat.le_refl _))⟩
 ·rw[List.length_map,List.length_range]
  have:=Wg;show j.toNat<=16777216
  omega
 ·exact zh3 (by rw[Array.length_toList];exact hacc.1) λi v hv=>by
   obtain⟨t,e⟩:=hacc.2 i v (by simpa using hv);exact⟨t,by rw[e];simp⟩
 ·simpa using hS'
def zjs(g:RLx):RLx:=λρ=>match g ρ with
 |some [.int j]=>if -(2 ^ 62)<=j/\j<=16777216 then some (jB 0 j.toNat) else none
 |_=>none
theorem zlg{a:Expr}{p p' pos pos':Pos}{g:RLx}(hc:X.calm=true)(hg:Gl X "range")(hm:X.mg "range"=none)(hg2:Gl X "list")(hm2:X.mg "list"=none)(ha:FA X [a] g)(hs:SEx X a []:=by rfl)(hp1:(backTo pos' (starEach [] X.env)).any (·.1)=false:=by rfl)(hs2:starEach [(.Call (.Name "range" p') [a] [] pos':Expr)] X.env=(false,eval (.Call (.Name "range" p') [a] [] pos') X.env)::starEach [] X.env:=by rfl)(hp2:(backTo pos (starEach [] X.env)).any (·.1)=false:=by rfl):FL X (.Call (.Name "list" p) [.Call (.Name "range" p') [a] [] pos'] [] pos) (zjs g):=by
 have⟨t,pa,qa⟩:=ha;refine⟨_,J0 (zag hc) hg2 hm2 JJ (yD (J0 zhw hg hm boot_range pa (by decide) (by decide) hs hp1) xv hs2) (by decide) (by decide) hs2 hp2,λσ H os ρ ds Q R e k=>?_⟩;unfold zjs at e;split at e
 ·rename_i j e1;split at e
  ·rename_i hj;cases e;refine qa σ H os ρ _ _ R e1 λvs H1 s1 rv=>?_
   cases rv with
   |cons h r=>
    cases r;cases h;refine⟨j,rfl,λl hl=>⟨l,j,rfl,zE,hj.1,hj.2,λl2 hl2=>?_⟩⟩;have s2:Same H1 (upd H1 l (.rng 0 j)):=zW hl _;have s3:=zW hl2 (.lst ((List.range j.toNat).map λi:Nat=>V.int (0+i)))
    exact k l2 _ _ (s1.free (s2.free hl2)) (s1.trans (s2.trans s3)) zE (zcz _)
  ·cases e
 ·cases e
end
def lF(h:LLx):LPx:=λds=>(h ds).map PyData.list
theorem jA.df{P:Program}{w:World}{K:FRx}{mg:Str->Option Value}{base:Heap}{k:Nat}{x:Str}{ps:LSr}{h:LLx}(D:jA P w K mg base k x ps h):yq P w K mg base k x ps (lF h):=by
 have⟨f,fd,F,r⟩:=D;refine⟨f,fd,F.imp λvs H Q E q=>?_,r⟩;have⟨os,ds,r,al,rv,e,kk⟩:=q;have⟨es,e1,e2⟩:=map_some e;subst e2;refine⟨os,ds,es,al,rv,e1,λa xs H' n s hx r=>kk _ H' s (.lst (SqL.of ?_) (r.same (y3 λb hb=>List.mem_cons_of_mem _ hb)))⟩;rw[zt (al.new n)];exact hx
def zj7(X:Cx)(C:AdX)(ℓ:Nat)(sts:List Stmt)(f:OFx):Prop:=∃t:TS,PSs X sts t/\∀(H0:Hp)(os0:LAd)(p:AdX)(D:Ends)(σ:St)(H:Hp)(os:LAd)(ρ:Ro)(fs:Ob)(ρ':Ro)(fs':Ob),MSt X.K C ℓ H0 os0 p H os σ ρ fs->f ρ fs=some (.nx ρ' fs')->(∀H' os',zig X.K C H0 os0 p H' os' fs'->D.rt (.ref p) H')->t D σ H
section
variable{X:Cx}{C:AdX}{ℓ:Nat}{st:Stmt}{rest:List Stmt}{f g:OFx}{pos p0:Pos}{x:Str}
theorem zia(hN:X.N[ℓ]?=some x:=by rfl)(hv:Vis X.env.scope x:=by trivial)(hd:NDx x:=by decide)(hcd:NCx x:=by decide):zj7 X C ℓ [.Return (some (.Name x p0)) pos] os0:=by
 refine⟨_,wc (UB (yl (i:=ℓ) hN hv hd hcd)) zbW,λH0 os0 p D σ H os ρ fs ρ' fs' R e k=>?_⟩;cases e;exact⟨_,R.self,k H os R.end⟩
theorem zgD(h:OS X C ℓ st f)(h2:zj7 X C ℓ rest g):zj7 X C ℓ (st::rest) (osq f g):=by
 have⟨t,p,q⟩:=h;have⟨t2,p2,q2⟩:=h2;refine⟨_,wc p p2,λH0 os0 p D σ H os ρ fs ρ' fs' R e k=>?_⟩;unfold osq at e;split at e
 ·rename_i ρ1 fs1 e1;exact q H0 os0 p { D with nx:=t2 D } σ H os ρ fs _ R e1 λσ' H' os' R'=>q2 H0 os0 p D σ' H' os' ρ1 fs1 ρ' fs' R' e k
 ·rename_i hn;exact absurd e (hn ρ' fs')
theorem zi9:OS X C ℓ (.Pass pos) os0:=⟨_,zje,λ_ _ _ _ _ _ _ _ _ _ R q k=>by cases q;exact k _ _ _ R⟩
end
def zic(f:Ro->Ob->Option (PyData×Ob)):Ro->Ob->Option (Bool×Ob):=λρ fs=>(f ρ fs).map λr=>(!isNone r.1,r.2)
section
variable{X:Cx}{C:AdX}{ℓ:Nat}{e:Expr}{pos cp:Pos}{j:_}
theorem zil{f:Ro->Ob->Option (PyData×Ob)}(h:GM X C ℓ e f)(hm:behindInMarks .IsNot (.Constant .none j cp)=false:=by rfl):GTM X C ℓ (.Compare e [.IsNot] [.Constant .none j cp] pos) (zic f):=by
 have⟨t,p,q⟩:=h;refine⟨_,zbr zbX p zh8 hm,λH0 os0 p σ H os ρ fs b fs' Q R e k=>?_⟩;have⟨r,e1,e2⟩:=map_some e;cases e2;refine q H0 os0 p σ H os ρ fs r.1 r.2 _ R e1 λv H' os' R' rv=>?_
 exact ZJ v .non H' os' r.1 .none (.bool (!isNone r.1)) (λx H'=>∃k,x=V.bl k/\Q k H') R'.sr.rel.al (.inl rv) (.inl .non) rfl λv2 H2 s2 r2=>by
  cases r2;exact⟨_,rfl,k H2 os' (R'.same s2)⟩
end
def spN(K:FRx)(C:AdX)(h:List PyData->Option Ob):Sp:=λvs H Q _=>∃os ds gs,Al H os/\Reps K (offs H os) vs ds/\h ds=some gs/\
 ∀q H' os' B,Left H os [] H' os'->FOk K H' os' (.ref q) (.ob C gs) B->B.Nodup->(∀a∈B,a∈os'/\H a=none)->Q (.ref q) H'
abbrev zf9(P:Program)(w:World)(K:FRx)(mg:Str->Option Value)(base:Heap)(k:Nat)(C:AdX)(x:Str)(ps:LSr)(f:List PyData->Option Ob):Prop:=Def P w K mg base CX0 k x ps (spN K C f)
def ziU(i:Nat)(f:Ro->Option Ob)(g:OFx):Ro->Option Ob:=λρ=>(f ρ).bind λgs=>if i<ρ.length then (match g (ρ.set i .no) gs with |some (.nx _ gs')=>some gs'|_=>none) else none
def fnN(n m:Nat)(b:Ro->Option Ob)(ds:LPd):Option Ob:=if ds.length=m then b (ds.map Sl.pu++List.replicate (n - m) .no) else none
section
variable{P:Program}{w:World}{K:FRx}{mg:Str->Option Value}{base:Heap}{C:AdX}
theorem zf9.mk{x y:Str}{st:Stmt}{N ps:LSr}{k m i:Nat}{e:Expr}{rest:List Stmt}{pos pos':Pos}{f:Ro->Option Ob}{g:OFx}(h:HasDef K mg x st)(S:zq N ps (zc st))(hb:∀(kV doc pm:Value)(an:Option Addr)(cdv ct:Value)(us:LVl),us.length=ps.length->bindArgs (W.fnOf x x (x8 st) (yC st) (zc st) .none kV doc pm an cdv ct) ⟨us,[]⟩=pure (ps.zip us))(hm:ps.length=m)(hbd:yC st=.Assign [.Name y pos'] e pos::rest)(hi:N[i]?=some y)(hx:Loc (zc st) y)(hbody:∀(f':AdX)(cdv:Value)(A:Around)(outer:List Env)(s:ShX)(H:Hp)(E:XK),Room k (A.deeper (envOfC x (zc st) s.heap.objs.size f' cdv))->
   FN (J1 CX0 P w K mg base N x (zc st) f' cdv A outer s H E).nox C e f/\zj7 (J1 CX0 P w K mg base N x (zc st) f' cdv A outer s H E).nox C i rest g/\swapsWith e (some (.Name y pos')) pos.line (J1 CX0 P w K mg base N x (zc st) f' cdv A outer s H E).env=pure false):zf9 P w K mg base (k+1) C x ps (fnN N.length m (ziU i f g)):=by
 refine Def.mk h S hb (λvs H Q E q=>?_) (λf' cdv A outer s H vs Q E hr q=>?_)
 ·have⟨os,ds,r,_,hr,e,_⟩:=q;unfold fnN at e;split at e
  ·rename_i hl;rw[hr.length,hl,hm]
  ·cases e
 ·have⟨⟨t,p,q1⟩,⟨t2,p2,q2⟩,hsw⟩:=hbody f' cdv A outer s H E hr;have⟨os,ds,r,al,hr,e,kk⟩:=q;unfold fnN at e;split at e
  ·rename_i hl;have R:=JU (N:=N) al hr m hl;rw[hbd];refine⟨_,wc (w8 S.nd hi hx p hsw (.inl rfl)) p2,?_⟩;have⟨gs,e1,e2⟩:=bind_some e
   split at e2
   ·rename_i hlt;split at e2
    ·rename_i ρ' gs' e3;cases e2;refine q1 _ H os _ gs _ R.rel e1 λa H' os' B L o nd hB=>?_
     have sr':=(R.left L (λb hb=>by cases hb) λj c q m b hb=>by cases hb).zhF i (some (.ref a));refine q2 H os a _ _ H' os' _ gs _ _ ⟨sr',List.getElem?_set_self (by rw[R.rel.len];exact hlt),B,o,nd,λb hb=>⟨(hB b hb).1,R.sm.free (hB b hb).2⟩,λj c q m b hb w=>?_⟩ e3 λH2 os2 M=>?_
     ·rcases yf q with⟨_,_,z⟩|⟨hj,q⟩
      ·rw[<-z] at m;cases m
      ·rw[List.getElem?_set_ne hj] at w;have⟨b',o',w1,w2,w3,_⟩:=R.rel.mu j c q m;rw[w] at w1;cases w1;rw[(hB b hb).2] at w3;cases w3
     ·have⟨A2,o2,nd2,hA2⟩:=M.ob;have on:∀b,offs H [] b=H b:=λb=>zt (by simp)
      exact kk a H2 os2 A2 ⟨λb o z=>M.sm b o (by rw[on] at z;exact z),M.al,λb hb=>.inr (M.sub b hb),λb hb=>by rw[on];exact M.new b hb⟩ o2 nd2 hA2
    ·cases e2
   ·cases e2
  ·cases e
end
section
variable{X:Cx}{C C2:AdX}{e:Expr}{es:List Expr}{ga:RLx}{p pos:Pos}{x y:Str}{k k':Nat}{ps:LSr}{f:Ro->Option Ob}
def zfI(h:List PyData->Option Ob)(ga:RLx):Ro->Option Ob:=λρ=>(ga ρ).bind h
theorem ziT{h:List PyData->Option Ob}(D:zf9 X.prog X.w X.K X.mg X.base k C x ps h)(hr:Room k' X.A)(hg:Gl X x)(ha:FA X (e::es) ga)(hk:k<=k':=by decide)(hdb:NDx x:=by decide)(he:SEx X e es:=by rfl)(hpl:PLx X pos es:=by rfl):FN X C (.Call (.Name x p) (e::es) [] pos) (zfI h ga):=by
 have⟨t,pa,qa⟩:=ha;refine⟨_,Wv D hr hg Jg pa hk hdb he hpl,λσ H os ρ gs Q R q kk=>?_⟩;have⟨ds,e1,e2⟩:=bind_some q;refine qa σ H os ρ ds _ R e1 λvs H' s rv=>?_
 rw[List.append_nil];have on:∀(H:Hp) b,offs H [] b=H b:=λH b=>zt (by simp)
 refine⟨os,ds,gs,R.al.same s,rv,e2,λq H2 os2 B L o nd hB=>kk q H2 os2 B ⟨λb o z=>L.sm b o ?_,L.al,L.sub,λb hb=>?_⟩ o nd λa ha=>⟨(hB a ha).1,s.free (hB a ha).2⟩⟩
 ·rw[on] at z ⊢;exact s b o z
 ·rcases L.new b hb with w|w
  ·exact .inl w
  ·rw[on] at w ⊢;exact .inr (s.free w)
def zhg(y:Str)(C2:AdX)(f:Ro->Option Ob):Ro->Option Ob:=λρ=>(f ρ).bind λgs=>match fld y gs with |some (.ob C' hs)=>if C'=C2 then some hs else none|_=>none
theorem zlS(cl:Cls X.K C)(na:zH X.K C y)(h:FN X C e f)(hb:attributeBase e y X.env (eval e X.env)=eval e X.env:=by rfl):FN X C2 (.Attribute e y pos) (zhg y C2 f):=by
 have⟨t,pe,q⟩:=h;refine⟨_,va pe hb,λσ H os ρ gs Q R e k=>?_⟩;have⟨hs,e1,e2⟩:=bind_some e;split at e2
 ·rename_i C' is ef;split at e2
  ·rename_i hC;subst hC;cases e2;refine q σ H os ρ hs _ R e1 λa H' os' B L o nd hB=>?_
   cases o with
   |ob hp r=>
    obtain⟨v,D,l,o2,ndD,hD⟩:=r.zfF (List.nodup_cons.mp nd).2 ef;cases o2 with
    |ob hp2 r2=>exact⟨_,_,_,_,_,rfl,hp,cl,na,l,k _ H' os' _ L (.ob hp2 r2) ndD λb hb=>hB b (.tail _ (hD b hb))⟩
  ·cases e2
 ·cases e2
end
def intsOf:List PyData->Option (List Int)
 |[]=>some []
 | .int i::r=>(intsOf r).map (i::·)
 |_=>none
theorem zah{K:FRx}{G:Hp}:∀{ds:LPd} {xs:List V} {ns:List Int},Reps K G xs ds->intsOf ds=some ns->xs=ns.map V.int
 |[],xs,ns,r,h=>by cases r;cases h;rfl
 | .int i::ds,xs,ns,r,h=>by
  cases r with
  |cons a b=>
   have⟨ns',e1,e2⟩:=map_some h;subst e2;cases a;rw[zah b e1];rfl
theorem VH{K:FRx}{G:Hp}:∀ns:List Int,Reps K G (ns.map V.int) (ns.map PyData.int)
 |[]=>.nil
 |_::l=>.cons (.int _) (VH l)
def gsrt(f:OPx):OLx:=λρ fs=>match f ρ fs with
 |some (.list ds)=>(intsOf ds).bind λns=>if ns.length<64 then some ((isort ns).map PyData.int) else none
 |_=>none
section
variable{X:Cx}{C:AdX}{ℓ:Nat}{e:Expr}{f:OPx}{p pos:Pos}
theorem zf7(hg:Gl X "sorted")(hm:X.mg "sorted"=none)(ha:GB X C ℓ e f)(he:SEx X e []:=by rfl)(hpl:(backTo pos (starEach [] X.env)).any (·.1)=false:=by rfl):GL X C ℓ (.Call (.Name "sorted" p) [e] [] pos) (gsrt f):=by
 have⟨t,pa,qa⟩:=ha;refine⟨_,VQ zdj hg hm zgz (yD pa xv he) (by decide) (by decide) he hpl,λσ H os ρ fs c Q R q k=>?_⟩;unfold gsrt at q;split at q
 ·rename_i ds e1;have⟨ns,e2,q⟩:=bind_some q;split at q
  ·rename_i hl;cases q;refine qa σ H os ρ fs _ _ R e1 λv H1 s1 r1=>?_
   obtain⟨a,xs,rfl,hS,r⟩:=r1.lst;have ex:=zah r e2;subst ex;exact⟨a,ns,rfl,hS,hl,λq hq=>k q _ _ (s1.free hq) (s1.trans (zW hq _)) zE (jQ hq (VH _))⟩
  ·cases q
 ·cases q
end
def zjK(f:RLx)(g:OPx):OLx:=λρ fs=>(f ρ).bind λx=>match g ρ fs with
 |some (.int k)=>if -(2 ^ 63)<=k/\k<2 ^ 63/\x.length*k.toNat<=16777216 then some (List.replicate k.toNat x).flatten else none
 |_=>none
section
variable{X:Cx}{C:AdX}{ℓ:Nat}{a b e:Expr}{p1 pos:Pos}
theorem zlQ{f:RLx}{g:OPx}(ha:FK X a f)(hb:GE X C ℓ b g):GL X C ℓ (.BinOp a .Mult b pos) (zjK f g):=by
 have⟨ta,pa,qa⟩:=ha;have⟨tb,pb,qb⟩:=hb;refine⟨_,zaI zgT pa pb,λσ H os ρ fs c Q R q k=>?_⟩;have⟨x,e1,q⟩:=bind_some q;split at q
 ·rename_i n e2;split at q
  ·rename_i hl;cases q;refine qa σ H os ρ x _ R.rel e1 λa xs H1 s1 h1 r1=>qb σ H1 os ρ fs _ _ (R.same s1) e2 λv H2 s2 r2=>?_
   cases r2;have l1:=r1.length;refine⟨a,n,xs,rfl,rfl,s2 _ _ h1,hl.1,hl.2.1,by rw[l1];exact hl.2.2,λp hp=>?_⟩;exact k p _ _ (s1.free (s2.free hp)) ((s1.trans s2).trans (zW hp _)) zE (jQ hp (Vp (r1.same (zl s2 os)) _))
  ·cases q
 ·cases q
end
def GIA(X:Cx)(C:AdX)(ℓ:Nat)(tg iter:Expr)(f:Ob->Option (List PyData)):Prop:=∃wi:TI,PI X tg iter wi/\∀(σ:St)(H:Hp)(os:LAd)(p:AdX)(A:LAd)(fs:Ob)(ds:LPd)(R:It->Hp->Prop),σ[ℓ]?=some (some (.ref p))->FOk X.K H os (.ref p) (.ob C fs) A->f fs=some ds->
  (∀J,Walks X.K (λb=>if b∈A then H b else none) (offs H os) J ds->R J H)->wi σ H R
def gzf(x y:Str):Ob->Option (List PyData):=λfs=>match fld x fs,fld y fs with
 |some (.ow xs),some (.ow ys)=>some (Jk xs ys)
 |_,_=>none
def zmU(i:Nat)(gi g:OPx):Ro->Ob->Option Ro:=λρ fs=>(gk i ρ).bind λds=>(g ρ fs).bind λd=>match gi ρ fs with
 |some (.int k)=>(ixN ds.length k).bind λj=>some (ρ.set i (.ow (ds.set j d)))
 |_=>none
section
variable{X:Cx}{C:AdX}{ℓ:Nat}{a b e:Expr}{p1 pos:Pos}
theorem zju{x f1 f2:Str}{q1 q2 p pos1 pos2 tp:Pos}{tes:List Expr}{kk:Nat}(cl:Cls X.K C)(na1:zH X.K C f1)(na2:zH X.K C f2)(hg:Gl X "zip")(hm:X.mg "zip"=none)(hN:X.N[ℓ]?=some x:=by rfl)(hv:Vis X.env.scope x:=by trivial)(hd:NDx x:=by decide)(hcd:NCx x:=by decide)(hb1:ABx X (.Name x q1) f1:=by rfl)(hb2:ABx X (.Name x q2) f2:=by rfl)(hs:starEach [.Attribute (.Name x q1) f1 pos1,.Attribute (.Name x q2) f2 pos2] X.env=[(false,eval (.Attribute (.Name x q1) f1 pos1) X.env),(false,eval (.Attribute (.Name x q2) f2 pos2) X.env)]:=by rfl)(hs2:starEach [.Attribute (.Name x q2) f2 pos2] X.env=[(false,eval (.Attribute (.Name x q2) f2 pos2) X.env)]:=by rfl)(hs1:starEach [.Attribute (.Name x q1) f1 pos1,.Attribute (.Name x q2) f2 pos2] X.env=(false,eval (.Attribute (.Name x q1) f1 pos1) X.env)::starEach [.Attribute (.Name x q2) f2 pos2] X.env:=by rfl)(hs3:starEach [.Attribute (.Name x q2) f2 pos2] X.env=(false,eval (.Attribute (.Name x q2) f2 pos2) X.env)::starEach [] X.env:=by rfl):GIA X C ℓ (.Tuple tes kk tp) (.Call (.Name "zip" p) [.Attribute (.Name x q1) f1 pos1,.Attribute (.Name x q2) f2 pos2] [] pos) (gzf f1 f2):=by
 refine⟨_,zbG false false hg hm (yD (va (yl (i:=ℓ) hN hv hd hcd) hb1) (yD (va (yl (i:=ℓ) hN hv hd hcd) hb2) xv hs3) hs1) hs hs2,λσ H os p A fs ds R h1 h2 e k=>?_⟩;unfold gzf at e;split at e
 ·rename_i xs ys ex ey;cases e;cases h2 with
  |ob hp r=>
   have⟨v,B,l,o,hB⟩:=r.look ex;have⟨v',B',l',o',hB'⟩:=r.look ey;cases o with
   |ow ha rv=>
    cases o' with
    |ow ha' rv'=>
     refine⟨_,h1,_,_,_,_,_,rfl,hp,cl,na1,l,_,h1,_,_,_,_,_,rfl,hp,cl,na2,l',_,_,rfl,⟨_,SqL.of ha⟩,⟨_,SqL.of ha'⟩,k _ ?_⟩;refine JM (SqL.of ?_) (SqL.of ?_) rv rv'
     ·rw[if_pos (.tail _ (hB _ (.head _)))];exact ha
     ·rw[if_pos (.tail _ (hB' _ (.head _)))];exact ha'
 ·cases e
end
structure RSt(K:FRx)(C:AdX)(ℓ:Nat)(H0:Hp)(os0:LAd)(p:AdX)(A:LAd)(fs:Ob)(H:Hp)(os:LAd)(σ:St)(ρ:Ro):Prop where
 sr:SRo K H0 os0 H os σ ρ
 self:σ[ℓ]?=some (some (.ref p))
 ob:FOk K H0 os0 (.ref p) (.ob C fs) A
 oA:∀a∈A,a∈os0
 gs:Same (offs H0 os0) (offs H os)
def zch(K:FRx)(C:AdX)(ℓ:Nat)(H0:Hp)(os0:LAd)(p:AdX)(A:LAd)(fs:Ob)(G:Hp)(D:Ends):Fl->Prop
 | .nx ρ'=>∀σ' H' os',RSt K C ℓ H0 os0 p A fs H' os' σ' ρ'->Same G (offs H' os')->D.nx σ' H'
 | .rt d=>∀v H',Same H0 H'->Rep K (offs H' os0) v d->D.rt v H'
 | .rl ds=>∀a xs H',H0 a=none->Same H0 H'->H' a=some (.lst xs)->Reps K (offs H' (a::os0)) xs ds->D.rt (.ref a) H'
theorem zch.mono{K:FRx}{C:AdX}{ℓ:Nat}{H0:Hp}{os0:LAd}{p:AdX}{A:LAd}{fs:Ob}{G G':Hp}{D:Ends}{r:Fl}(k:zch K C ℓ H0 os0 p A fs G D r)(s:Same G G'):zch K C ℓ H0 os0 p A fs G' D r:=by
 cases r with
 |nx ρ=>exact λσ' H' os' R z=>k σ' H' os' R (s.trans z)
 |rt d=>exact k
 |rl d=>exact k
def ORd(X:Cx)(C:AdX)(ℓ:Nat)(st:Stmt)(f:Ro->Ob->Option Fl):Prop:=∃t:TS,PS X st t/\∀(H0:Hp)(os0:LAd)(p:AdX)(A:LAd)(D:Ends)(σ:St)(H:Hp)(os:LAd)(ρ:Ro)(fs:Ob)(r:Fl),RSt X.K C ℓ H0 os0 p A fs H os σ ρ->f ρ fs=some r->zch X.K C ℓ H0 os0 p A fs (offs H os) D r->t D σ H
def ORs(X:Cx)(C:AdX)(ℓ:Nat)(sts:List Stmt)(f:Ro->Ob->Option Fl):Prop:=∃t:TS,PSs X sts t/\∀(H0:Hp)(os0:LAd)(p:AdX)(A:LAd)(D:Ends)(σ:St)(H:Hp)(os:LAd)(ρ:Ro)(fs:Ob)(r:Fl),RSt X.K C ℓ H0 os0 p A fs H os σ ρ->f ρ fs=some r->zch X.K C ℓ H0 os0 p A fs (offs H os) D r->t D σ H
section
variable{K:FRx}{C:AdX}{ℓ:Nat}{H0 H H':Hp}{os0 os:LAd}{p:AdX}{A:LAd}{σ:St}{ρ:Ro}{fs:Ob}
theorem RSt.stay(h:RSt K C ℓ H0 os0 p A fs H os σ ρ):∀a∈A,H a=H0 a:=λa ha=>by
 have⟨o,q⟩:=h.ob.has a ha;rw[q];exact h.sr.sm a o q
theorem RSt.obH(h:RSt K C ℓ H0 os0 p A fs H os σ ρ):FOk K H os (.ref p) (.ob C fs) A:=h.ob.keep h.gs h.stay
theorem RSt.wN(h:RSt K C ℓ H0 os0 p A fs H os σ ρ):vC K C ℓ H os σ ρ fs:=⟨h.sr.rel,p,A,h.self,h.obH,λa ha=>h.sr.sub a (h.oA a ha)⟩
theorem RSt.same(h:RSt K C ℓ H0 os0 p A fs H os σ ρ)(e:Same H H'):RSt K C ℓ H0 os0 p A fs H' os σ ρ:=⟨h.sr.same e,h.self,h.ob,h.oA,h.gs.trans (zl e os)⟩
theorem RSt.set(h:RSt K C ℓ H0 os0 p A fs H os σ ρ){i:Nat}{v:V}{d:PdX}(hi:i≠ℓ)(r:Rep K (offs H os) v d):RSt K C ℓ H0 os0 p A fs H os (σ.set i (some v)) (ρ.set i (.pu d)):=⟨h.sr.set r,by rw[List.getElem?_set_ne hi];exact h.self,h.ob,h.oA,h.gs⟩
theorem RSt.W5(h:RSt K C ℓ H0 os0 p A fs H os σ ρ){i:Nat}{a:AdX}{xs:List V}{ds:LPd}(hi:i≠ℓ)(n:H a=none)(s:Same H H')(hx:H' a=some (.lst xs))(r:Reps K (offs H' (a::os)) xs ds):RSt K C ℓ H0 os0 p A fs H' (a::os) (σ.set i (some (.ref a))) (ρ.set i (.ow ds)):=⟨h.sr.W5 n s hx r,by rw[List.getElem?_set_ne hi];exact h.self,h.ob,h.oA,h.gs.trans (jb n s)⟩
theorem RSt.chg(h:RSt K C ℓ H0 os0 p A fs H os σ ρ){i:Nat}{a:AdX}{ys:List V}{ds es:LPd}(q:ρ[i]?=some (.ow ds))(e:σ[i]?=some (some (.ref a)))(r:Reps K (offs H os) ys es):RSt K C ℓ H0 os0 p A fs (upd H a (.lst ys)) os σ (ρ.set i (.ow es)):=by
 have⟨a',xs,e',ha,hx,_⟩:=h.sr.rel.ow i ds q;rw[e] at e';cases e';exact⟨h.sr.chg q e r,h.self,h.ob,h.oA,by rw[yF ha];exact h.gs⟩
theorem RSt.sets{is:LNt}{σ':St}{ρ':Ro}(s:Sets K (offs H os) is σ ρ σ' ρ')(hi:∀i∈is,i≠ℓ)(h:RSt K C ℓ H0 os0 p A fs H os σ ρ):RSt K C ℓ H0 os0 p A fs H os σ' ρ':=by
 induction s with
 |nil=>exact h
 |set r _ ih=>exact ih (λi hm=>hi i (.tail _ hm)) (h.set (hi _ (.head _)) r)
end
section
variable{X:Cx}{C:AdX}{ℓ:Nat}{st:Stmt}{rest:List Stmt}{f g:Ro->Ob->Option Fl}{a b e:Expr}{p1 pos:Pos}
def rsq(f g:Ro->Ob->Option Fl):Ro->Ob->Option Fl:=λρ fs=>match f ρ fs with |some (.nx ρ')=>g ρ' fs|r=>r
theorem zfD(h:ORd X C ℓ st f):ORs X C ℓ [st] f:=by
 have⟨t,p,q⟩:=h;exact⟨t,zbj p,q⟩
theorem Zl(h:ORd X C ℓ st f)(h2:ORs X C ℓ rest g):ORs X C ℓ (st::rest) (rsq f g):=by
 have⟨t,p,q⟩:=h;have⟨t2,p2,q2⟩:=h2;refine⟨_,wc p p2,λH0 os0 p A D σ H os ρ fs r R e k=>?_⟩;unfold rsq at e;split at e
 ·rename_i ρ' e1;exact q H0 os0 p A { D with nx:=t2 D } σ H os ρ fs _ R e1 λσ' H' os' R' s=>q2 H0 os0 p A D σ' H' os' ρ' fs r R' e (k.mono s)
 ·cases r with
  |nx ρ'=>rename_i hn;exact absurd e (hn ρ')
  |rt d=>exact q H0 os0 p A { D with nx:=t2 D } σ H os ρ fs _ R e k
  |rl d=>exact q H0 os0 p A { D with nx:=t2 D } σ H os ρ fs _ R e k
def ze3(i:Nat)(f:OLx):Ro->Ob->Option Fl:=λρ fs=>(f ρ fs).bind λd=>some (.nx (ρ.set i (.ow d)))
theorem zjt(i:Nat){x:Str}{pos':Pos}{f:OLx}(hN:X.N.Nodup)(he:GL X C ℓ e f)(h0:i≠ℓ:=by decide)(hi:X.N[i]?=some x:=by rfl)(hx:Loc X.env.scope x:=by trivial)(hs:swapsWith e (some (.Name x pos')) pos.line X.env=pure false:=by rfl)(hf:FNx X x:=by trivial):ORd X C ℓ (.Assign [.Name x pos'] e pos) (ze3 i f):=by
 have⟨t,p,q⟩:=he;refine⟨_,w8 hN hi hx p hs hf,λH0 os0 p A D σ H os ρ fs r R e k=>?_⟩;have⟨d,e1,e2⟩:=bind_some e;cases e2;exact q σ H os ρ fs d _ R.wN e1 λa xs H' n s hx rv=>k _ _ _ (R.W5 h0 n s hx rv) (jb n s)
def rsi(i:Nat)(gi g:OPx):Ro->Ob->Option Fl:=λρ fs=>(zmU i gi g ρ fs).bind λρ'=>some (.nx ρ')
theorem zeO(i:Nat){x:Str}{ie:Expr}{gi g:OPx}{tpos:Pos}(hi:GE X C ℓ ie gi)(he:GE X C ℓ e g)(hN:X.N[i]?=some x:=by rfl)(hv:Vis X.env.scope x:=by trivial)(hd:NDx x:=by decide)(hcd:NCx x:=by decide)(ha:∀v,assign (.Subscript (.Name x p1) ie tpos) X.env v=(do
   let ov <-holding [v] (eval (.Name x p1) X.env)
   let iv <-holding [v,ov] (eval ie X.env)
   standAt tpos
   holding [v,ov,iv] (setItem ov iv v)
   release [v,ov,iv] []):=by intro _;rfl)(hs:swapsWithSole [.Subscript (.Name x p1) ie tpos] e pos.line X.env=pure false:=by rfl)(hw:swappedStores [.Subscript (.Name x p1) ie tpos] e X.env=pure none:=by rfl)(h1:(assignEach [.Subscript (.Name x p1) ie tpos] X.env).map (·.2)=[assign (.Subscript (.Name x p1) ie tpos) X.env]:=by rfl):ORd X C ℓ (.Assign [.Subscript (.Name x p1) ie tpos] e pos) (rsi i gi g):=by
 have⟨t,p,q⟩:=he;have⟨ti,pi,qi⟩:=hi;refine⟨_,zhB p (zht (yl hN hv hd hcd) pi set_list ha) hs hw h1,λH0 os0 p A D σ H os ρ fs r R e k=>?_⟩;have⟨ρ2,e',er⟩:=bind_some e;cases er;clear e;have⟨ds,e1,e⟩:=bind_some e';have⟨d,e2,e⟩:=bind_some e;split at e
 ·rename_i n e3;have⟨j,e4,e⟩:=bind_some e;cases e;have g:=wF e1;have⟨a,xs,h1,h2,h3,h4⟩:=R.sr.rel.ow i ds g
  refine q σ H os ρ fs d _ R.wN e2 λv H' s rv=>⟨_,h1,qi σ H' os ρ fs _ _ (R.wN.same s) e3 λu H2 s2 ru=>?_⟩
  cases ru;have s3:=s.trans s2;refine⟨a,xs,n,j,rfl,rfl,s3 _ _ h3,by rw[h4.length];exact e4,?_⟩;exact k _ _ os ((R.same s3).chg g h1 (Yw (rv.same (zl s2 os)) j (h4.same (zl s3 os)))) (by rw[yF h2];exact zl s3 os)
 ·cases e
theorem zjC(i:Nat){x:Str}(hN:X.N[i]?=some x:=by rfl)(hv:Vis X.env.scope x:=by trivial)(hd:NDx x:=by decide)(hcd:NCx x:=by decide):ORd X C ℓ (.Return (some (.Name x p1)) pos) (λρ _=>U0 (gk i) ρ):=by
 refine⟨_,UB (yl hN hv hd hcd),λH0 os0 p A D σ H os ρ fs r R e k=>?_⟩;have⟨ds,e1,e2⟩:=bind_some e;cases e2;have q:=wF e1;have⟨a,xs,e,ha,hx,r⟩:=R.sr.rel.ow i ds q
 refine⟨_,e,k a xs H (R.sr.own i _ q rfl a e) R.sr.sm hx (r.same (y3 λb hb=>?_))⟩;rcases List.mem_cons.mp hb with z|z
 ·exact z▸ha
 ·exact R.sr.sub b z
def rF(bd:PyData->Ro->Option Ro)(b:Ro->Ob->Option Fl)(fs:Ob):List PyData->Ro->Option Ro
 |[],ρ=>some ρ
 |d::ds,ρ=>(bd d ρ).bind λρ1=>match b ρ1 fs with |some (.nx ρ2)=>rF bd b fs ds ρ2|_=>none
def rfk(fi:Ob->Option (List PyData))(bd:PyData->Ro->Option Ro)(b:Ro->Ob->Option Fl):Ro->Ob->Option Fl:=λρ fs=>(fi fs).bind λds=>(rF bd b fs ds ρ).bind λρ'=>some (.nx ρ')
theorem zlk{tg iter:Expr}{sts:List Stmt}{fi:Ob->Option (List PyData)}{is:LNt}{bd:PyData->Ro->Option Ro}{fb:Ro->Ob->Option Fl}(hp:PassesOwn (model X.prog X.w) X.A X.env X.xe)(hc:X.calm=true)(hi:GIA X C ℓ tg iter fi)(hg:FG X tg is bd)(hb:ORs X C ℓ sts fb)(his:∀i∈is,i≠ℓ:=by decide)(hs:FSx X iter:=by exact λ_=>rfl):ORd X C ℓ (.For tg iter sts [] pos) (rfk fi bd fb):=by
 have⟨wi,pi,qi⟩:=hi;have⟨tb,pb,qb⟩:=hb;refine⟨_,zer hp hc pi hg pb hs,λH0 os0 p A D σ H os ρ fs r R e k=>?_⟩;have⟨ds,e1,e2⟩:=bind_some e;have⟨ρe,e6,e3⟩:=bind_some e2;cases e3;refine qi σ H os p A fs ds _ R.self R.obH e1 λJ W=>?_
 refine⟨λi m σ' H'=>m=ds.length - i/\i<=ds.length/\∃os' ρ',RSt X.K C ℓ H0 os0 p A fs H' os' σ' ρ'/\Same (offs H os) (offs H' os')/\rF bd fb fs (ds.drop i) ρ'=some ρe,
  ⟨ds.length,rfl,Nat.zero_le _,os,ρ,R,Same.refl _,e6⟩,?_⟩
 rintro i m σ' H' ⟨rfl,hi,os',ρ',R',hs',e'⟩;obtain⟨w1,w2⟩:=W H' os' R'.sr.rel.al (λb o q=>by
  dsimp only at q;split at q
  ·rename_i hb;rw[R'.stay b hb,<-R.stay b hb];exact q
  ·cases q) hs'
 by_cases hlt:i<ds.length
 ·obtain⟨d,hd⟩:∃d,ds[i]?=some d:=⟨_,List.getElem?_eq_getElem hlt⟩;have⟨g1,g2⟩:=w1 i d hd;have ed:ds.drop i=d::ds.drop (i+1):=by
   rw[List.drop_eq_getElem_cons hlt];rw[List.getElem?_eq_getElem hlt] at hd;cases hd;rfl
  rw[ed] at e';have⟨ρ1,e3,e4⟩:=bind_some e';split at e4
  ·rename_i ρ2 e5;refine .inr ⟨g1,λσ2 H2=>i+1<=ds.length/\∃os' ρ',RSt X.K C ℓ H0 os0 p A fs H2 os' σ2 ρ'/\Same (offs H os) (offs H2 os')/\rF bd fb fs (ds.drop (i+1)) ρ'=some ρe,?_,?_⟩
   ·rintro σ2 H2 ⟨h1,h2⟩;exact⟨ds.length - (i+1),by omega,rfl,h1,h2⟩
   ·intro x H2 hy;have⟨s2,rx⟩:=g2 x H2 hy;refine⟨os',d,ρ',ρ1,rx,e3,λσ2 st=>?_⟩;have R2:RSt X.K C ℓ H0 os0 p A fs H2 os' σ2 ρ1:=RSt.sets st his (R'.same s2);exact qb H0 os0 p A _ σ2 H2 os' ρ1 fs _ R2 e5 λσ3 H3 os3 R3 s4=>⟨hlt,os3,ρ2,R3,(hs'.trans (zl s2 os')).trans s4,e4⟩
  ·cases e4
 ·have e:i=ds.length:=by omega
  subst e;rw[List.drop_length] at e';cases e';exact .inl ⟨w2,k _ _ _ R' hs'⟩
end
def zm6(K:FRx)(C:AdX)(h:Ob->List PyData->Option PyData):Sp:=λvs H Q _=>∃p us os ds fs d A,vs=.ref p::us/\FOk K H os (.ref p) (.ob C fs) A/\(∀a∈A,a∈os)/\Al H os/\Reps K (offs H os) us ds/\h fs ds=some d/\
 ∀v H',Same H H'->Rep K (offs H' os) v d->Q v H'
def fnR(n m:Nat)(b:Ro->Ob->Option Fl)(fs:Ob)(ds:LPd):Option PyData:=if ds.length=m then (match b (.no::(ds.map Sl.pu++List.replicate (n - (m+1)) .no)) fs with
  |some (.rt d)=>some d
  |some (.rl es)=>some (.list es)
  |_=>none) else none
def zf1(P:Program)(w:World)(K:FRx)(mg:Str->Option Value)(base:Heap)(k:Nat)(C:AdX)(m:Str)(ps:LSr)(h:Ob->List PyData->Option PyData):Prop:=∃f fd,wo P w K mg base CX0 k f fd ps (zm6 K C h)/\Binds K fd ps []/\Meth K C m f
section
variable{P:Program}{w:World}{K:FRx}{mg:Str->Option Value}{base:Heap}{C:AdX}{ℓ:Nat}
theorem zgh{N:LSr}{H:Hp}{os:LAd}{p:AdX}{us:List V}{ds:LPd}{fs:Ob}{A:LAd}(al:Al H os)(r:Reps K (offs H os) us ds)(o:FOk K H os (.ref p) (.ob C fs) A)(hA:∀a∈A,a∈os)(m:Nat)(hm:ds.length=m)(hN:m<N.length):RSt K C 0 H os p A fs H os (start N (.ref p::us)) (.no::(ds.map Sl.pu++List.replicate (N.length - (m+1)) .no)):=by
 have hl:=r.length;have no:∀(i:Nat)(c:Sl),(Sl.no::(ds.map Sl.pu++List.replicate (N.length - (m+1)) .no))[i]?=some c->isM c=true->False:=λi c q m=>by
  cases i with
  |zero=>cases q;cases m
  |succ i=>
   rw[List.getElem?_cons_succ] at q;by_cases hi:i<ds.length
   ·rw[List.getElem?_append_left (by simpa using hi),List.getElem?_map] at q;have⟨d,_,e2⟩:=map_some q;subst e2;cases m
   ·rw[List.getElem?_append_right (by simpa using Nat.le_of_not_lt hi),List.getElem?_replicate] at q;split at q
    ·cases q;cases m
    ·cases q
 refine⟨⟨⟨λi d q=>?_,λi c q m=>(no i c q m).elim,al,?_⟩,Same.refl H,λa h=>h,λa h=>.inl h,al,λi c q m=>(no i c q m).elim,λi j c c' _ q _ m=>(no i c q m).elim⟩,rfl,o,hA,Same.refl _⟩
 ·cases i with
  |zero=>cases q
  |succ i=>
   rw[List.getElem?_cons_succ] at q;unfold start;by_cases hi:i<ds.length
   ·rw[List.getElem?_append_left (by simpa using hi),List.getElem?_map] at q;have⟨c,e1,e2⟩:=map_some q;cases e2;have⟨v,e3,e4⟩:=r.getD e1;refine⟨v,?_,e4⟩;rw[List.getElem?_append_left (by rw[List.length_map,List.length_cons,hl];omega),List.getElem?_map,List.getElem?_cons_succ,e3];rfl
   ·rw[List.getElem?_append_right (by simpa using Nat.le_of_not_lt hi),List.getElem?_replicate] at q;split at q<;>cases q
 ·unfold start;simp[hl,hm]
theorem zf1.mk{x qual:Str}{st:Stmt}{N ps:LSr}{k m:Nat}{b:Ro->Ob->Option Fl}(h:vI K C x qual st)(S:zq N ps (zc st))(hb:∀(kV doc pm:Value)(an:Option Addr)(cdv ct:Value)(us:LVl),us.length=ps.length->bindArgs (W.fnOf x qual (x8 st) (yC st) (zc st) .none kV doc pm an cdv ct) ⟨us,[]⟩=pure (ps.zip us))(hm:ps.length=m+1)(hN:m<N.length)(hbody:∀(f:AdX)(cdv:Value)(A:Around)(outer:List Env)(s:ShX)(H:Hp)(E:XK),Room k (A.deeper (envOfC qual (zc st) s.heap.objs.size f cdv))->
   ORs (J1 CX0 P w K mg base N qual (zc st) f cdv A outer s H E).nox C 0 (yC st) b):zf1 P w K mg base (k+1) C x ps (fnR N.length m b):=by
 have⟨f,fd,F,M⟩:=h;refine⟨f,fd,F.ok S (λvs H Q E q=>?_) (λcdv A outer s H vs Q E hr q=>?_),F.binds hb,M⟩
 ·obtain⟨p,us,os,ds,fs,d,A,rfl,_,_,_,r,e,_⟩:=q;unfold fnR at e;split at e
  ·rename_i hl;rw[List.length_cons,r.length,hl,hm]
  ·cases e
 ·have⟨t,pp,q'⟩:=hbody f cdv A outer s H E hr;obtain⟨p,us,os,ds,fs,d,A,rfl,o,hA,al,r,e,kk⟩:=q;unfold fnR at e;split at e
  ·rename_i hl;refine⟨t,pp,?_⟩;have R:=zgh (N:=N) al r o hA m hl hN;split at e
   ·rename_i d' e1;cases e;exact q' _ _ _ _ _ _ H os _ _ _ R e1 λv H' s rv=>kk v H' s rv
   ·rename_i es e1;cases e;refine q' _ _ _ _ _ _ H os _ _ _ R e1 λa xs H' n s hx r=>kk _ H' s (.lst (SqL.of ?_) (r.same (y3 λb hb=>List.mem_cons_of_mem _ hb)))
    rw[zt (al.new n)];exact hx
   ·cases e
  ·cases e
end
section
variable{X:Cx}{C:AdX}{j k k':Nat}{e:Expr}{es:List Expr}{g:OLx}{pos apos p0:Pos}{x m:Str}{ps:LSr}
def gjm(m:Str)(h:Ob->List PyData->Option PyData)(g:OLx):OPx:=λρ fs=>if (fld m fs).isNone=true then (g ρ fs).bind λds=>h fs ds else none
theorem zj8{pl:Sem Bool}{h:Ob->List PyData->Option PyData}(cl:Cls X.K C)(M:zf1 X.prog X.w X.K X.mg X.base k C m ps h)(hr:Room k' X.A)(ha:GJA X C j (e::es) g)(hk:k<=k':=by decide)(hN:X.N[j]?=some x:=by rfl)(hv:Vis X.env.scope x:=by trivial)(hd:NDx x:=by decide)(hcd:NCx x:=by decide)(hst:SEx X e es:=by rfl)(hpl:PLx X pos es:=by rfl)(ht:eval (.Call (.Attribute (.Name x p0) m apos) (e::es) [] pos) X.env=(do
   let ov <-eval (.Name x p0) X.env
   standAt apos.atName
   let (f,first) <-holding [ov] (getMethod ov m pl)
   callWith pos f first (backTo pos (starEach (e::es) X.env)) (backToKw pos (keywordEach [] X.env))):=by rfl):GJ X C j (.Call (.Attribute (.Name x p0) m apos) (e::es) [] pos) (gjm m h g):=by
 have⟨fa,fd,F,B,mm⟩:=M;have⟨t,pa,qa⟩:=ha;refine⟨_,zby (pl:=pl) (yl (i:=j) hN hv hd hcd) cl mm F (hr.mono hk) B .nil Jg pa hst hpl ht,λσ H os ρ fs p A d Q R sj o oA e kk=>?_⟩;unfold gjm at e;split at e
 ·rename_i hm;have⟨ds,e1,e2⟩:=bind_some e;have o0:=o;cases o with
  |ob hp rr=>
   refine⟨_,sj,p,_,_,rfl,hp,rr.nolook (Option.isNone_iff_eq_none.mp hm),qa σ H os ρ fs p _ ds _ R sj o0 oA e1 λus H1 s1 ru=>?_⟩;rw[List.append_nil];exact⟨p,us,os,ds,fs,d,_,rfl,o0.same s1,oA,R.al.same s1,ru,e2,λv H' s rv=>kk v H' (s1.trans s) rv⟩
 ·cases e
end
section
variable{X:Cx}{C:AdX}{ℓ:Nat}{elt tg iter:Expr}{scope:Scope}{pos pos' spos:Pos}{Ts:LSr}{F:LNt}{is:LNt}{fi:OLx}{b:PyData->Ro->Option Ro}{x:Str}
theorem zh0(j:Nat){fe:OPx}(hc:X.calm=true)(hi:GIB X C ℓ tg iter fi)(S:ya X scope)(hF:∀j∈F,∃x,X.N[j]?=some x/\scope.names.lookup x=some .free)(hj:F[j]?=some ℓ)(hg:∀cl C ex s H,FG (zV X (Ts++F.map λj=>X.N.getD j "") scope cl C ex s H) tg is b)(he:∀cl C' ex s H,GJ (zV X (Ts++F.map λj=>X.N.getD j "") scope cl C' ex s H) C (Ts.length+j) elt fe)(his:∀i∈is,i<Ts.length:=by decide)(hs:FSx X iter:=by exact λ_=>rfl):GL X C ℓ (.ListComp elt [⟨tg,iter,[],0⟩] scope pos) (Uo Ts.length F fi b fe):=by
 have⟨wi,pi,qi⟩:=hi;refine⟨_,zfm (Ts:=Ts) (F:=F) (g:=gF X.K is b) (te:=tJ X.K C (Ts.length+j) fe) hc pi S hF hg (λcl C ex s H=>(he cl C ex s H).pe) hs,λσ H os ρ fs rs Q R q k=>?_⟩;have⟨es,e1,q⟩:=bind_some q;split at q
 ·rename_i hl;refine qi σ H os ρ fs es _ R e1 λJ H' s W D hD=>?_
  have⟨p,A,h0,h1,h3⟩:=R.ob;exact Zv his (R.rel.same s) (by rw[hj];show(σ[ℓ]?).join=_;rw[h0];rfl) (h1.same s) h3 hl hD W q λH2 xs s2 hx r=>k D xs H2 (s.free hD) (s.trans s2) hx r
 ·cases q
end
end L2.Fu
namespace L2
open PySem PySem.Spec PyProof.Rows
theorem zcY{X:Cx}{scope sc:Scope}{x0:Str}(hsc:X.env.scope=sc)(kind:scope.kind=.function)(is:scope.names.lookup x0=some .cell)(only:∀y∈scope.names,y.2=.cell->y.1=x0)(cf:∀(n:Nat)(acc:LSA),cellsFrom n scope.names acc=(x0,n)::acc)(pc:∀h:Heap,pushCells h scope.names=h.push { cls:=.type "cell",data:=.cell none })(loc:∀y∈scope.names,y.2=.local->scope.names.lookup y.1=some .local)(free:∀y∈scope.names,y.2=.free->sc.names.lookup y.1=some .cell\/sc.names.lookup y.1=some .free):xu X scope (some x0):=⟨kind,λx h=>Option.some.inj h▸is,λy hy h=>congrArg some (only y hy h).symm,λn acc=>cf (n+1) acc,pc,loc,λy hy hf=>by
  show X.env.scope.names.lookup y.1=_\/X.env.scope.names.lookup y.1=_
  rw[hsc];exact free y hy hf⟩
end L2
namespace L2.Fu
open PySem PySem.Spec PyProof.Rows
section
variable{X:Cx}{x0:Str}{elt tg iter:Expr}{scope:Scope}{pos:Pos}{Ts:LSr}{F:LNt}{is:LNt}{fi:RLx}{b:PyData->Ro->Option Ro}{fe:RPx}
theorem zhz(hc:X.calm=true)(hi:FIB X tg iter fi)(S:xu X scope (some x0))(hF:∀j∈F,∃x,X.N[j]?=some x/\scope.names.lookup x=some .free)(hg:∀cl C ex s H,FG (xy X (some x0) (Ts++F.map λj=>X.N.getD j "") scope cl C ex s H) tg is b)(he:∀cl C ex s H,FE (xy X (some x0) (Ts++F.map λj=>X.N.getD j "") scope cl C ex s H) elt fe)(his:∀i∈is,i<Ts.length:=by decide)(hs:FSx X iter:=by exact λ_=>rfl):FL X (.ListComp elt [⟨tg,iter,[],0⟩] scope pos) (zR Ts.length F fi b fe):=by
 have⟨wi,pi,qi⟩:=hi;refine⟨_,zcM (Ts:=Ts) (F:=F) (g:=gF X.K is b) (te:=tF X.K fe) hc pi S hF hg (λcl C ex s H=>(he cl C ex s H).pe) hs,λσ H os ρ rs Q R q k=>?_⟩;have⟨ds,e1,q⟩:=bind_some q;split at q
 ·rename_i hl;refine qi σ H os ρ ds _ R e1 λJ H' s W D hD=>?_
  exact u6 his (R.same s) hl hD W q λH2 xs s2 hx r=>k D xs H2 (s.free hD) (s.trans s2) hx r
 ·cases q
end
theorem fgc{X:Cx}{Ts:LSr}{F:LNt}{scope:Scope}(i:Nat){x:Str}{pos:Pos}(hN:decide (Ts++F.map λj=>X.N.getD j "").Nodup=true:=by rfl)(hi:(Ts++F.map λj=>X.N.getD j "")[i]?=some x:=by rfl)(hx:∀cl C,Loc (compEnvC scope cl C X.env).scope x:=by exact λ_ _=>Or.inl rfl)(hf:∀cl C,(compEnvC scope cl C X.env).scope.names.lookup x=some .local:=by exact λ_ _=>rfl)(cl C ex s H):FG (zV X (Ts++F.map λj=>X.N.getD j "") scope cl C ex s H) (.Name x pos) [i] (bN i):=zU i (of_decide_eq_true hN) hi (hx _ C) (.inr (hf _ C))
abbrev UM(n:Nat)(p:Value->Value->Value->Option Addr->Value->Value->List Value->Prop):Prop:=∀a b c d e f us,us.length=n->p a b c d e f us
section
variable{p:Value->Value->Value->Option Addr->Value->Value->List Value->Prop}
theorem um1(h:∀a b c d e f x,p a b c d e f [x]):UM 1 p:=λa b c d e f us hl=>match us,hl with |[x],_=>h a b c d e f x
theorem um2(h:∀a b c d e f x y,p a b c d e f [x,y]):UM 2 p:=λa b c d e f us hl=>match us,hl with |[x,y],_=>h a b c d e f x y
theorem um3(h:∀a b c d e f x y z,p a b c d e f [x,y,z]):UM 3 p:=λa b c d e f us hl=>match us,hl with |[x,y,z],_=>h a b c d e f x y z
end
def ze2:OFx:=osq (Z8 "free" λρ x=>zjs (aC (gv 1) a0) ρ) (osq (Z8 "taken" λρ x=>vw a0 ρ) (osq (Z8 "checks" λρ x=>zR 1 [1] (xK (aC (gv 1) a0)) (bN 0) (yu (xU wa (aC (gv 0) (aC (gv 1) a0)))) ρ) (ofl "pivot" λρ x=>cst (PyData.int 1) ρ)))
def VB:MFx:=fnM 2 1 ze2
def zk0:OFx:=(osq (WL 2 (ocomp 1 [1] (gsq (gg "checks")) (bN 0) (zh yb (aC (gv 0) (aC (gv 1) a0))))) (osq (WL 3 (Ya 2 [] (λρ x=>zfg false (aC (gb 2) a0) ρ) (b2 (bN 0) (bN 1)) (zK (op2 neD (gv 1) (cst (PyData.int 0)))) (gv 0))) (osq (oif (λρ x=>zK (op2 eqD (gb 3) (yu (vw a0))) ρ) (oret λρ x=>cst (PyData.bool false) ρ) os0) (osq (oset 4 λρ x=>op2 ixD (gb 3) (cst (PyData.int 0)) ρ) (osq (opl 5 2 λρ x=>gv 4 ρ) (osq (opo 6 "checks" λρ x=>gv 4 ρ) (osq (WL 7 (Uo 2 [0,5,6] (gzp false false (gAC (gg "checks") (gAC (λρ x=>gb 2 ρ) gA0))) (b2 (bN 0) (bN 1)) (gcall (lF uY) (gAC (λρ x=>gv 0 ρ) (gAC (λρ x=>gv 1 ρ) (gAC (λρ x=>gv 4 ρ) (gAC (λρ x=>gv 3 ρ) (gAC (gf "pivot") gA0)))))))) (osq (ofm "checks" 7) (osq (ofl "pivot" λρ x=>gv 5 ρ) (osq (ziI "taken" "free" λρ x=>gv 4 ρ) (oret λρ x=>cst (PyData.bool true) ρ)))))))))))
def UL:MFx:=fnM 8 1 (zk0)
def zlz:OFx:=(oret (gop eqD (gg "free") λρ x=>yu (vw a0) ρ))
def Ut:MFx:=fnM 1 0 (zlz)
def zlA:OFx:=(osq (oif (λρ x=>zK (op2 eqD (gv 1) (xp a0)) ρ) (oret λρ x=>gv 2 ρ) os0) (oret (gcall (lF yY) (gAC (gcall (lF U8) (gAC (λρ x=>gv 2 ρ) (gAC (gop ixD (gg "steps") λρ x=>op2 ixD (gv 1) (op1 ZF (cst (PyData.int 1))) ρ) gA0))) gA0))))
def Uq:MFx:=fnM 3 2 (zlA)
def zkO:OFx:=(osq (oap "words" λρ x=>gv 1 ρ) (osq (oap "rows" λρ x=>gv 2 ρ) (ofor (grn (gAC (gcall yk (gAC (gg "steps") gA0)) gA0)) (bN 3) (oap "waiting" λρ x=>xp (aC (op2 uC (gv 1) (xp (aC (gv 3) a0))) (aC (gv 2) a0)) ρ))))
def Wd:MFx:=fnM 4 2 (zkO)
def zhv(CS:AdX):OFx:=(osq (owh (λx x_1=>1000000) (gaF (gtF (gbo (gop (zes λi j=>decide (i<j)) (gf "asked") (gcall yk (gAC (gg "waiting") gA0))))) (gnF (gvF (gmn CS "span" "full" Ut gA0)))) (osq (oset 1 (gop ixD (gop ixD (gg "waiting") (gf "asked")) λρ x=>cst (PyData.int 0) ρ)) (osq (osm 2 (gms "row_led_on" Uq (gAC (λρ x=>gv 1 ρ) (gAC (gop ixD (gop ixD (gg "waiting") (gf "asked")) λρ x=>cst (PyData.int 1) ρ) gA0)))) (osq (ofl "asked" (gop xP (gf "asked") λρ x=>cst (PyData.int 1) ρ)) (Z3 (gvF (gmn CS "span" "take" UL (gAC (λρ x=>gv 2 ρ) gA0))) (osq (oex (gms "keep" Wd (gAC (λρ x=>gv 1 ρ) (gAC (λρ x=>gv 2 ρ) gA0)))) (oret λρ x=>gv 2 ρ)) os0))))) (oret λρ x=>cst PyData.none ρ))
def xf(CS:AdX):MFx:=fnM 3 0 (zhv CS)
def zeY(CS:AdX):OFx:=(osq (Z8 "steps" λρ x=>zR 1 [] (yt (op2 ixD (gv 1) (cst (PyData.int 1)))) (bN 0) (op2 ixD (zh vG (aC (gv 0) a0)) (cst (PyData.int 0))) ρ) (osq (zji "span" CS λρ x=>fnw VB (aC (zh yk (aC (op2 ixD (gv 1) (cst (PyData.int 0))) a0)) a0) ρ) (osq (Z8 "words" λρ x=>vw a0 ρ) (osq (Z8 "rows" λρ x=>vw a0 ρ) (osq (Z8 "waiting" λρ x=>vw (aC (xp (aC (xp a0) (aC (zh (lF xZ) (aC (op2 ixD (gv 1) (cst (PyData.int 0))) a0)) a0))) a0) ρ) (ofl "asked" λρ x=>cst (PyData.int 0) ρ))))))
def vL(CS:AdX):MFx:=fnM 2 1 (zeY CS)
def zdR(CS:AdX):RFx:=(sq (yr 2 (zh vM (aC (gv 0) (aC (gv 1) a0)))) (sq (yr 3 (zh (lF xZ) (aC (op2 ixD (gv 2) (cst (PyData.int 2))) a0))) (zdH 4 (fnw (vL CS) (aC (gv 2) a0)) (osq (osm 5 (gms "onward" (xf CS) gA0)) (osq (owh (λx x_1=>1000) (gtF λρ x=>zK (op2 ZQ (gv 5) (cst PyData.none)) ρ) (osq (oif (λρ x=>zK (op2 neD (zh yb (aC (gv 5) (aC (gv 3) a0))) (cst (PyData.int 0))) ρ) (oret (gtp (gAC (gop ixD (gg "words") λρ x=>op1 ZF (cst (PyData.int 1)) ρ) (gAC (glF (gsl (gg "rows") o0 (oS (op1 ZF (cst (PyData.int 1)))))) gA0)))) os0) (osm 5 (gms "onward" (xf CS) gA0)))) (ZK (gtp (gAC (λρ x=>cst PyData.none ρ) (gAC (gg "rows") gA0)))))))))
def jq(CS:AdX):LPx:=fnF 6 2 (zdR CS)
def zaJ:Ro->Ob->Option Fl:=(rsq (ze3 2 (zjK (vw (aC (cst (.tuple [.int 0,.int 1])) a0)) (gop xP (gcall yk (gAC (gg "free") gA0)) (gcall yk (gAC (gg "taken") gA0)))))
 (rsq (rsi 2 (λρ x=>gv 1 ρ) λρ x=>cst (.tuple [.int 1,.int 1]) ρ)
 (rsq (rfk (gzf "free" "checks") (b2 (bN 3) (bN 4)) (rsi 2 (λρ x=>gv 3 ρ) (gcall ud (gAC (λρ x=>op1 ZF (op2 ixD (gv 4) (gv 1)) ρ) (gAC (gf "pivot") gA0)))))
 λρ x=>U0 (gk 2) ρ)))
def uD:Ob->List PyData->Option PyData:=fnR 5 1 zaJ
def xC(CS:AdX):List PyData->Option Ob:=fnN 2 1 (ziU 1 (fnw (vL CS) (aC (gv 0) a0)) (osq (owh (λ_ _=>1000) (zic (gms "onward" (xf CS) gA0)) os0) os0))
def Ui:RFx:=(sq (jR 3 (zR 1 [0] (yt (gv 1)) (bN 0) (zh JH (aC (gv 1) (aC (gv 0) a0)))))
 (retS (zh yn (aC (yu (zR 1 [3] (yt (gv 2)) (bN 0) (zh yn (aC (yu (zR 1 [0] (yt (gb 1)) (bN 0) (zh jv (aC (gv 1) (aC (gv 0) a0))))) a0)))) a0))))
def jg:LPx:=fnF 4 3 Ui
def zaN(CS:AdX):RFx:=(zdH 1 (zhg "span" CS (zfI (xC CS) (aC (gv 0) a0)))
 (osq (Z3 (gvF (gms "full" Ut gA0)) (oret λρ x=>gv 0 ρ) os0)
 (osq (oset 2 (glF (gsrt (gg "taken"))))
 (osq (oset 3 (glF (Uo 1 [1] (λρ x=>yt (gv 2) ρ) (bN 0) (gjm "settled_row" uD (gAC (λρ x=>gv 0 ρ) gA0)))))
 (osq (oset 4 λρ x=>zh yn (aC (yu (zR 1 [0] (yt (gv 2)) (bN 0) (op2 ixD (op2 ixD (gv 1) (cst (.int 0))) (gv 0)))) a0) ρ)
 (osq (oset 5 λρ x=>zh yn (aC (yu (zR 1 [2,3] (yt (op2 ixD (gv 0) (cst (.int 1)))) (bN 0) (zh jg (aC (gv 0) (aC (gv 1) (aC (gv 2) a0)))))) a0) ρ)
 (osq (oset 6 λρ x=>zh yn (aC (yu (zR 1 [0] (yt (gv 3)) (bN 0) (zh jv (aC (gv 0) (aC (op2 ixD (gv 1) (cst (.int 2))) a0))))) a0) ρ)
 (oret λρ x=>xp (aC (gv 4) (aC (gv 5) (aC (gv 6) a0))) ρ))))))))
def ub(CS:AdX):LPx:=fnF 7 1 (zaN CS)
def Y5(CS:AdX):RFx:=(retS (zh vY (aC (zh (ub CS) (aC (zh vY (aC (zh (ub CS) (aC (gv 0) a0)) a0)) a0)) a0)))
def uL(CS:AdX):LPx:=fnF 1 1 (Y5 CS)
def zgW(CS:AdX):RFx:=(retS (zh yk (aC (op2 ixD (zh (uL CS) (aC (gv 0) a0)) (cst (.int 0))) a0)))
def za9(CS:AdX):LPx:=fnF 1 1 (zgW CS)
def Y4(CS:AdX):RFx:=(sq (yr 2 (zh (jq CS) (aC (gv 0) (aC (gv 1) a0))))
 (sq (ifS (zK (op2 ZQ (op2 ixD (gv 2) (cst (.int 0))) (cst .none))) (retS (cst .none)) s0)
 (retS (yu (zR 1 [] (yt (op2 ixD (gv 2) (cst (.int 1)))) (bN 0) (yu (zR 1 [] (yt (gv 0)) (bN 0) (xp (aC (gv 0) (aC (cst (.int 1)) a0))))))))))
def j8(CS:AdX):LPx:=fnF 3 2 (Y4 CS)
end L2.Fu
namespace L2.Fu
open PySem WS WD WD.DT
open PySem.Builtin.Int (intBits)
theorem zeP{i:Nat}{fi f:RPx}{ρ:Ro}{ds:LPd}{d:PdX}{a:Nat}(h1:gk i ρ=some ds)(h2:f ρ=some d)(h3:fi ρ=some (.int (a:Int)))(h4:a<ds.length):siS i fi f ρ=some (.nx (ρ.set i (.ow (ds.set a d)))):=by
 unfold siS;rw[h1,Option.bind_some,h2,Option.bind_some,h3];show(ixN ds.length (a:Int)).bind _=_
 have e:ixN ds.length (a:Int)=some a:=by
  unfold ixN;rw[if_pos (by omega),if_pos (by omega)];simp
 rw[e];rfl
theorem zej{n:Nat}{f g:Z1x}(hn:n<=1000)(h:∀i,i<n->intBits (f i)<=1000000/\intBits (g i)<=1000000):yb [.list (y9 n f),.list (y9 n g)]=some (.int (yg n λi=>f i*g i)):=by
 have hl:(List.range n).length<=16777216:=by rw[List.length_range];omega
 have ec:zR 2 [] (uB false false (aC (gv 0) (aC (gv 1) a0))) (b2 (bN 0) (bN 1)) (op2 yE (gv 0) (gv 1)) [.pu (.list (y9 n f)),.pu (.list (y9 n g))]=some (y9 n λi=>f i*g i):=zP (xs:=List.range n) (e:=λi=>.tuple [.int (f i),.int (g i)]) (d:=λi=>.int (f i*g i)) (zfi _ rfl) hl λi hi=>by
   have hi:=List.mem_range.mp hi;exact JN.trans ((zf rfl rfl).trans (yK (xS (h i hi).1 (h i hi).2 (by omega))))
 have es:ziy [.list (y9 n λi=>f i*g i)]=some (.int (yg n λi=>f i*g i)):=by
  show(Jj zdl (y9 n λi=>f i*g i)).map (λns=>PyData.int ns.sum)=_
  rw[Y3,Option.map_some,Wh]
 exact zM rfl (zy ((zb (zk (zZ ec) rfl)).trans es))
theorem zgR{n:Nat}{t:Z1x}{c:Nat->Nat->Int}(hn:n<=1000)(ht:∀a,a<n->intBits (t a)<=1000000)(hc:∀a b,a<n->b<n->intBits (c a b)<=1000000):U8 [.list (y9 n t),.list ((List.range n).map λb=>.list (y9 n λa=>c a b))]=some (y9 n λb=>yg n λa=>t a*c a b):=by
 refine Jy rfl (wC ?_);exact zP (xs:=List.range n) (e:=λb=>.list (y9 n λa=>c a b)) (d:=λb=>.int (yg n λa=>t a*c a b)) (jc rfl) (by simpa using Nat.le_trans hn (by decide)) λb hb=>by
  have hb:=List.mem_range.mp hb;exact yy.trans ((zb rfl).trans (zej hn λa ha=>⟨ht a ha,hc a b ha hb⟩))
def gl(f:Z1x):Nat->Nat
 |0=>0
 |n+1=>Int.gcd (f n) (gl f n:Int)
theorem YZ{f g:Z1x}:∀n,(∀i,i<n->f i=g i)->gl f n=gl g n
 |0,_=>rfl
 |n+1,h=>by
  show Int.gcd (f n) _=Int.gcd (g n) _
  rw[h n (Nat.lt_succ_self n),YZ n λi hi=>h i (Nat.lt_succ_of_lt hi)]
theorem zdX(f:Z1x)(c:Nat):∀n,gl (λi=>(c:Int)*f i) n=c*gl f n
 |0=>rfl
 |n+1=>by
  show Int.gcd ((c:Int)*f n) _=c*Int.gcd (f n) _
  rw[zdX f c n,Int.natCast_mul,Int.gcd_mul_left,Int.natAbs_natCast]
theorem Zd(f:Z1x):∀n i,i<n->(gl f n:Int) ∣ f i
 |0,i,h=>absurd h (Nat.not_lt_zero _)
 |n+1,i,h=>by
  show((Int.gcd (f n) (gl f n:Int):Nat):Int) ∣ f i
  by_cases e:i=n
  ·rw[e];exact Int.gcd_dvd_left ..
  ·exact Int.dvd_trans (Int.gcd_dvd_right ..) (Zd f n i (by omega))
theorem zg3{a b:Int}{f:Z1x}:∀n,(∀i,i<n->a ∣ b*f i)->a ∣ b*(gl f n:Int)
 |0,_=>by
  show a ∣ b*((0:Nat):Int)
  simp
 |n+1,h=>by
  show a ∣ b*((Int.gcd (f n) (gl f n:Int):Nat):Int)
  have h1:=h n (Nat.lt_succ_self n);have h2:=zg3 n λi hi=>h i (Nat.lt_succ_of_lt hi)
  have h3:a ∣ ((Int.gcd (b*f n) (b*(gl f n:Int)):Nat):Int):=Int.dvd_coe_gcd h1 h2;rw[Int.gcd_mul_left] at h3;rw[<-Int.natAbs_dvd_natAbs] at h3 ⊢;rw[Int.natAbs_mul,Int.natAbs_natCast];rw[Int.natAbs_natCast] at h3;exact h3
def Prim(n:Nat)(r:Z1x):Prop:=(∀i,i<n->r i=0)\/gl r n=1
theorem Prim.le{n:Nat}{r z:Z1x}(h:Prim n r){a b:Int}(ha:a≠0)(hb:b≠0)(e:∀i,i<n->a*z i=b*r i):∀i,i<n->(r i).natAbs<=(z i).natAbs:=λi hi=>by
 rcases h with h|h
 ·rw[h i hi];exact Nat.zero_le _
 ·have h1:a ∣ b*(gl r n:Int):=zg3 n λi hi=>⟨z i,(e i hi).symm⟩
  rw[h] at h1;have⟨t,ht⟩:=h1;have e1:z i=t*r i:=by
   have h2:=e i hi;have h3:b=a*t:=by rw[<-ht];simp
   rw[h3,Int.mul_assoc] at h2;exact Int.eq_of_mul_eq_mul_left ha h2
  have ht0:t≠0:=λz=>by
   rw[z,Int.mul_zero] at ht
   have:b*((1:Nat):Int)=b:=by simp
   omega
  rw[e1,Int.natAbs_mul]
  have:1<=t.natAbs:=by omega
  exact Nat.le_mul_of_pos_left _ (by omega)
theorem zhd{n i:Nat}{f:Z1x}{d:PdX}(h:(y9 n f)[i]?=some d):d=.int (f i):=by
 unfold y9 at h;rw[List.getElem?_map] at h;have⟨j,e1,e2⟩:=map_some h;obtain⟨_,e3⟩:=List.getElem?_eq_some_iff.mp e1;rw[List.getElem_range] at e3;rw[<-e2,<-e3]
theorem wK{n:Nat}{f:Z1x}(hn:n<=1000)(hf:∀i,i<n->intBits (f i)<=8000):∃(r:Z1x)(g:Nat),yY [.list (y9 n f)]=some (y9 n r)/\0<g/\(∀i,i<n->f i=(g:Int)*r i)/\Prim n r:=by
 obtain⟨ρ1,e1,o,rfl⟩:=VX (ds:=y9 n f) (it:=yt (gv 0)) (bd:=bN 2) (b:=yr 1 (zh yG (aC (gv 2) (aC (gv 1) a0))))
  (ρ0:=[.pu (.list (y9 n f)),.pu (.int 0),.no]) (λi ρ=>∃o,ρ=[.pu (.list (y9 n f)),.pu (.int (gl f i:Int)),o]) rfl ⟨.no,rfl⟩
  (λi d ρ hd ⟨o,e⟩=>by
   subst e;have e:=zhd hd;subst e;exact⟨_,_,rfl,zQ ((zb rfl).trans (jM _ _)),.pu (.int (f i)),rfl⟩)
 have hl:(y9 n f).length=n:=by simp[y9]
 rw[hl] at e1;have et:zK (op2 ltI (gv 1) (cst (.int 2))) [.pu (.list (y9 n f)),.pu (.int (gl f n:Int)),o]=some (decide ((gl f n:Int)<2)):=zA rfl;by_cases h:gl f n<2
 ·refine⟨f,1,Jy rfl ((zx (zQ rfl)).trans ((zx e1).trans ((zmo (d:=y9 n f) ?_)))),by decide,λi _=>by simp,?_⟩
  ·exact(wD (et.trans (congrArg some (decide_eq_true (by omega))))).trans (wC ((jH rfl).trans rfl))
  ·by_cases z:gl f n=0
   ·left
    intro i hi
    have:=Zd f n i hi;rw[z] at this;simpa using this
   ·right
    omega
 ·have hp:(0:Int)<gl f n:=by omega
  refine⟨λi=>(f i).fdiv (gl f n:Int),gl f n,Jy rfl ((zx (zQ rfl)).trans ((zx e1).trans ((zx ((xH (et.trans (congrArg some (decide_eq_false (by omega))))).trans rfl)).trans (wC ?_)))),by omega,λi hi=>?_,?_⟩
  ·refine zP (xs:=List.range n) (e:=λi=>.int (f i)) (d:=λi=>.int ((f i).fdiv (gl f n:Int))) (jc rfl) (by simpa using Nat.le_trans hn (by decide)) λi hi=>?_
   have hi:=List.mem_range.mp hi;exact yy.trans ((zf rfl rfl).trans (xR (by omega) (by
    rw[Int.natAbs_natCast];have h1:∃j,j<n/\f j≠0:=by
     refine Classical.byContradiction λq=>?_
     have h0:∀j,j<n->f j=0:=λj hj=>Classical.byContradiction λz=>q ⟨j,hj,z⟩
     have:gl f n=0:=by
      have e:gl f n=gl (λi=>((0:Nat):Int)*f i) n:=YZ n λi hi=>by rw[h0 i hi];simp
      rw[e,zdX];simp
     omega
    have⟨j,hj,hz⟩:=h1;have h2:gl f n<=(f j).natAbs:=Nat.le_of_dvd (by omega) (by
     have:=Zd f n j hj;rw[<-Int.natAbs_dvd_natAbs] at this;simpa using this)
    have h3:(f j).natAbs<2 ^ 8000:=intBits_le_iff.mp (hf j hj);have h4:gl f n<2 ^ 8000:=Nat.lt_of_le_of_lt h2 h3
    have h5:(gl f n).log2<8000:=(Nat.log2_lt (by omega)).mpr h4;omega)))
  ·have⟨c,hc⟩:=Zd f n i hi;have e:(f i).fdiv (gl f n:Int)=c:=by
    rw[hc,Int.mul_fdiv_cancel_left _ (by omega)]
   show f i=(gl f n:Int)*(f i).fdiv (gl f n:Int)
   rw[e,<-hc]
  ·right
   have e:gl f n=gl (λi=>((gl f n:Nat):Int)*(f i).fdiv (gl f n:Int)) n:=YZ n λi hi=>by
    have⟨c,hc⟩:=Zd f n i hi;have e:(f i).fdiv (gl f n:Int)=c:=by
     rw[hc,Int.mul_fdiv_cancel_left _ (by omega)]
    rw[e,<-hc]
   rw[zdX] at e;exact Nat.eq_of_mul_eq_mul_left (show 0<gl f n by omega) (by rw[Nat.mul_one];exact e.symm)
section
variable{f g:OFx}{ρ ρ':Ro}{fs fs':Ob}{d:PdX}{ds:LPd}
theorem zY(h:f ρ fs=some (.nx ρ' fs')):osq f g ρ fs=g ρ' fs':=by unfold osq;rw[h]
theorem Wk(h:f ρ fs=some (.rt d fs')):osq f g ρ fs=some (.rt d fs'):=by unfold osq;rw[h]
theorem Jq{i:Nat}{h:OLx}(e:h ρ fs=some ds):WL i h ρ fs=some (.nx (ρ.set i (.ow ds)) fs):=by unfold WL;rw[e];rfl
theorem uF{i:Nat}{h:OPx}(e:h ρ fs=some d):oset i h ρ fs=some (.nx (ρ.set i (.pu d)) fs):=by unfold oset;rw[e];rfl
theorem ve{h:OPx}(e:h ρ fs=some d):oret h ρ fs=some (.rt d fs):=by unfold oret;rw[e];rfl
theorem zbf{x:Str}{h:OPx}(e:h ρ fs=some d)(hl:fs.length<1000):ofl x h ρ fs=some (.nx ρ (zJ x (.pu d) fs)):=by unfold ofl;rw[e,Option.bind_some,if_pos hl]
theorem u9{x:Str}{h:OLx}(e:h ρ fs=some ds)(hl:fs.length<1000):Z8 x h ρ fs=some (.nx ρ (zJ x (.ow ds) fs)):=by unfold Z8;rw[e,Option.bind_some,if_pos hl]
theorem zkj{x:Str}{C2:AdX}{h:Ro->Ob->Option Ob}{gs:Ob}(e:h ρ fs=some gs)(hl:fs.length<1000):zji x C2 h ρ fs=some (.nx ρ (zJ x (.ob C2 gs) fs)):=by unfold zji;rw[e,Option.bind_some,if_pos hl]
theorem zhT{c:Ro->Ob->Option Bool}(h:c ρ fs=some true):oif c f g ρ fs=f ρ fs:=by unfold oif;rw[h];rfl
theorem ziF{c:Ro->Ob->Option Bool}(h:c ρ fs=some false):oif c f g ρ fs=g ρ fs:=by unfold oif;rw[h];rfl
theorem zhk{c:Ro->Ob->Option (Bool×Ob)}(h:c ρ fs=some (true,fs')):Z3 c f g ρ fs=f ρ fs':=by unfold Z3;rw[h];rfl
theorem zhh{c:Ro->Ob->Option (Bool×Ob)}(h:c ρ fs=some (false,fs')):Z3 c f g ρ fs=g ρ fs':=by unfold Z3;rw[h];rfl
theorem zl6{h:Ro->Ob->Option (PyData×Ob)}(e:h ρ fs=some (d,fs')):oex h ρ fs=some (.nx ρ fs'):=by unfold oex;rw[e];rfl
theorem zbE{i:Nat}{h:Ro->Ob->Option (PyData×Ob)}(e:h ρ fs=some (d,fs')):osm i h ρ fs=some (.nx (ρ.set i (.pu d)) fs'):=by unfold osm;rw[e];rfl
theorem zec{x:Str}{h:OPx}(e1:fld x fs=some (.ow ds))(e:h ρ fs=some d)(hl:ds.length<16777216):oap x h ρ fs=some (.nx ρ (zJ x (.ow (ds++[d])) fs)):=by
 unfold oap;rw[e1];dsimp only;rw[e,Option.bind_some,if_pos hl]
theorem zlc{i j:Nat}{x:Str}{h:OPx}(e1:fld x fs=some (.ow ds))(e:h ρ fs=some (.int (j:Int)))(hl:ds.length<=16777216)(hd:ds[j]?=some d):opo i x h ρ fs=some (.nx (ρ.set i (.pu d)) (zJ x (.ow (ds.eraseIdx j)) fs)):=by
 obtain⟨hj,_⟩:=List.getElem?_eq_some_iff.mp hd;unfold opo;rw[e1,e];dsimp only;rw[if_pos ⟨by omega,by omega,hl⟩,Int.toNat_natCast,hd];rfl
theorem zlM{i k j:Nat}{h:OPx}(e1:ρ[k]?=some (.ow ds))(e:h ρ fs=some (.int (j:Int)))(hl:ds.length<=16777216)(hd:ds[j]?=some d):opl i k h ρ fs=some (.nx ((ρ.set k (.ow (ds.eraseIdx j))).set i (.pu d)) fs):=by
 obtain⟨hj,_⟩:=List.getElem?_eq_some_iff.mp hd;unfold opl;rw[e1,e];dsimp only;rw[if_pos ⟨by omega,by omega,hl⟩,Int.toNat_natCast,hd];rfl
theorem zk9{i:Nat}{x:Str}(e1:ρ[i]?=some (.ow ds))(hl:fs.length<1000):ofm x i ρ fs=some (.nx (ρ.set i .no) (zJ x (.ow ds) fs)):=by
 unfold ofm;rw[e1];dsimp only;rw[if_pos hl]
theorem zjH{j:Nat}{x y:Str}{es:LPd}{h:OPx}(e1:fld y fs=some (.ow ds))(e:h ρ fs=some (.int (j:Int)))(hl:ds.length<=16777216)(hd:ds[j]?=some d)(e2:fld x (zJ y (.ow (ds.eraseIdx j)) fs)=some (.ow es))(hl2:es.length<16777216):ziI x y h ρ fs=some (.nx ρ (zJ x (.ow (es++[d])) (zJ y (.ow (ds.eraseIdx j)) fs))):=by
 obtain⟨hj,_⟩:=List.getElem?_eq_some_iff.mp hd;unfold ziI;rw[e1,e];dsimp only;rw[if_pos ⟨by omega,by omega,hl⟩,Int.toNat_natCast,hd,Option.bind_some,e2];dsimp only;rw[if_pos hl2]
theorem zhx{T:Nat}{F:LNt}{fi:OLx}{b:PyData->Ro->Option Ro}{fe:RPx}{α:Type}{xs:List α}{e d:α->PyData}(h1:fi ρ fs=some (xs.map e))(hl:xs.length<=16777216)(h2:∀x∈xs,(b (e x) (compEnv T F ρ)).bind fe=some (d x)):ocomp T F fi b fe ρ fs=some (xs.map d):=by
 unfold ocomp;rw[h1,Option.bind_some,if_pos (by rw[List.length_map];exact hl),uc];exact Jn h2
theorem zay{T:Nat}{F:LNt}{fi:OLx}{b:PyData->Ro->Option Ro}{fe:OPx}{α:Type}{xs:List α}{e d:α->PyData}(h1:fi ρ fs=some (xs.map e))(hl:xs.length<=16777216)(h2:∀x∈xs,(b (e x) (compEnv T F ρ)).bind (λρ'=>fe ρ' fs)=some (d x)):Uo T F fi b fe ρ fs=some (xs.map d):=by
 unfold Uo;rw[h1,Option.bind_some,if_pos (by rw[List.length_map];exact hl),uc];exact Jn h2
theorem zdP{C2:AdX}{y m:Str}{h:MFx}{ga:OLx}{gs gs':Ob}(e1:fld y fs=some (.ob C2 gs))(e2:fld m gs=none)(e3:ga ρ fs=some ds)(e4:h gs ds=some (d,gs')):gmn C2 y m h ga ρ fs=some (d,zJ y (.ob C2 gs') fs):=by
 unfold gmn;rw[e1];dsimp only;rw[if_pos ⟨rfl,by rw[e2];rfl⟩,e3,Option.bind_some,e4];rfl
theorem wM{m:Str}{h:MFx}{ga:OLx}(e2:fld m fs=none)(e3:ga ρ fs=some ds)(e4:h fs ds=some (d,fs')):gms m h ga ρ fs=some (d,fs'):=by
 unfold gms;rw[if_pos (by rw[e2];rfl),e3];exact e4
theorem yI{h:OPx}{ga:OLx}(e1:h ρ fs=some d)(e2:ga ρ fs=some ds):gAC h ga ρ fs=some (d::ds):=by unfold gAC;rw[e1,Option.bind_some,e2];rfl
theorem u7{h:PyData->PyData->Option PyData}{a b:OPx}{x y:PdX}(e1:a ρ fs=some x)(e2:b ρ fs=some y):gop h a b ρ fs=h x y:=by unfold gop;rw[e1,Option.bind_some,e2];rfl
theorem vm{h:LPx}{ga:OLx}(e:ga ρ fs=some ds):gcall h ga ρ fs=h ds:=by unfold gcall;rw[e];rfl
theorem zc9{x:Str}(e:fld x fs=some (.pu d)):gf x ρ fs=some d:=by unfold gf;rw[e]
theorem uA{x:Str}(e:fld x fs=some (.ow ds)):gg x ρ fs=some (.list ds):=by unfold gg;rw[e]
theorem zly{h:OPx}{c:Bool}(e:h ρ fs=some (.bool c)):gbo h ρ fs=some c:=by unfold gbo;rw[e]
theorem za5{h:Ro->Ob->Option Bool}{c:Bool}(e:h ρ fs=some c):gtF h ρ fs=some (c,fs):=by unfold gtF;rw[e];rfl
theorem Zq{h:Ro->Ob->Option (PyData×Ob)}{c:Bool}(e:h ρ fs=some (.bool c,fs')):gvF h ρ fs=some (c,fs'):=by unfold gvF;rw[e]
theorem zkZ{h:Ro->Ob->Option (Bool×Ob)}{c:Bool}(e:h ρ fs=some (c,fs')):gnF h ρ fs=some (!c,fs'):=by unfold gnF;rw[e];rfl
theorem zmB{a b:Ro->Ob->Option (Bool×Ob)}(e:a ρ fs=some (true,fs')):gaF a b ρ fs=b ρ fs':=by unfold gaF;rw[e];rfl
theorem zmJ{a b:Ro->Ob->Option (Bool×Ob)}(e:a ρ fs=some (false,fs')):gaF a b ρ fs=some (false,fs'):=by unfold gaF;rw[e];rfl
theorem zmz{h:OPx}(e:h ρ fs=some (.list ds)):gsq h ρ fs=some ds:=by unfold gsq;rw[e]
theorem zlN{ga:OLx}{xs ys:LPd}(e:ga ρ fs=some [.list xs,.list ys]):gzp false false ga ρ fs=some (Jk xs ys):=by unfold gzp;rw[e];rfl
theorem UC{n m:Nat}{b:OFx}(hm:ds.length=m)(h:b (.no::(ds.map Sl.pu++List.replicate (n - (m+1)) .no)) fs=some (.rt d fs')):fnM n m b fs ds=some (d,fs'):=by unfold fnM;rw[if_pos hm,h]
theorem zeu{n m:Nat}{b:OFx}(hm:ds.length=m)(h:b (.no::(ds.map Sl.pu++List.replicate (n - (m+1)) .no)) fs=some (.nx ρ' fs')):fnM n m b fs ds=some (.none,fs'):=by unfold fnM;rw[if_pos hm,h]
theorem zcJ{h:LLx}{es:LPd}(e:h ds=some es):lF h ds=some (.list es):=by unfold lF;rw[e];rfl
end
def spR(fr tk ch:LPd)(pv:PdX):Ob:=[(Str.ofString "free",.ow fr),(Str.ofString "taken",.ow tk),(Str.ofString "checks",.ow ch),(Str.ofString "pivot",.pu pv)]
def reR(ss:LPd)(CS:AdX)(sp:Ob)(ws rs wt:LPd)(a:PdX):Ob:=[(Str.ofString "steps",.ow ss),(Str.ofString "span",.ob CS sp),(Str.ofString "words",.ow ws),(Str.ofString "rows",.ow rs),(Str.ofString "waiting",.ow wt),(Str.ofString "asked",.pu a)]
section
variable{fr tk ch fr':LPd}{pv pv':PdX}
theorem Yd:fld "free" (spR fr tk ch pv)=some (.ow fr):=rfl
theorem Zs:fld "taken" (spR fr tk ch pv)=some (.ow tk):=rfl
theorem JY:fld "checks" (spR fr tk ch pv)=some (.ow ch):=rfl
theorem zcv:fld "pivot" (spR fr tk ch pv)=some (.pu pv):=rfl
theorem zbk:fld "full" (spR fr tk ch pv)=none:=rfl
theorem zfG:fld "take" (spR fr tk ch pv)=none:=rfl
theorem zdD:zJ "free" (.ow fr') (spR fr tk ch pv)=spR fr' tk ch pv:=rfl
theorem zf6:zJ "taken" (.ow fr') (spR fr tk ch pv)=spR fr fr' ch pv:=rfl
theorem Yq:zJ "checks" (.ow fr') (spR fr tk ch pv)=spR fr tk fr' pv:=rfl
theorem zf5:zJ "pivot" (.pu pv') (spR fr tk ch pv)=spR fr tk ch pv':=rfl
theorem zmF{c d:LPd}{e:PdX}:zJ "pivot" (.pu e) (zJ "checks" (.ow d) (zJ "taken" (.ow c) (zJ "free" (.ow fr) [])))=spR fr c d e:=rfl
end
section
variable{ss ws rs wt xs:LPd}{CS:AdX}{sp sp':Ob}{a a':PdX}
theorem zdI:fld "steps" (reR ss CS sp ws rs wt a)=some (.ow ss):=rfl
theorem Ye:fld "span" (reR ss CS sp ws rs wt a)=some (.ob CS sp):=rfl
theorem zcZ:fld "words" (reR ss CS sp ws rs wt a)=some (.ow ws):=rfl
theorem zbc:fld "rows" (reR ss CS sp ws rs wt a)=some (.ow rs):=rfl
theorem UH:fld "waiting" (reR ss CS sp ws rs wt a)=some (.ow wt):=rfl
theorem Ys:fld "asked" (reR ss CS sp ws rs wt a)=some (.pu a):=rfl
theorem zl1:fld "row_led_on" (reR ss CS sp ws rs wt a)=none:=rfl
theorem zkn:fld "keep" (reR ss CS sp ws rs wt a)=none:=rfl
theorem vS:fld "onward" (reR ss CS sp ws rs wt a)=none:=rfl
theorem Yt:zJ "span" (.ob CS sp') (reR ss CS sp ws rs wt a)=reR ss CS sp' ws rs wt a:=rfl
theorem zfT:zJ "words" (.ow xs) (reR ss CS sp ws rs wt a)=reR ss CS sp xs rs wt a:=rfl
theorem zgV:zJ "rows" (.ow xs) (reR ss CS sp ws rs wt a)=reR ss CS sp ws xs wt a:=rfl
theorem zc0:zJ "waiting" (.ow xs) (reR ss CS sp ws rs wt a)=reR ss CS sp ws rs xs a:=rfl
theorem zgq:zJ "asked" (.pu a') (reR ss CS sp ws rs wt a)=reR ss CS sp ws rs wt a':=rfl
theorem zmf:zJ "asked" (.pu a) (zJ "waiting" (.ow wt) (zJ "rows" (.ow rs) (zJ "words" (.ow ws) (zJ "span" (.ob CS sp) (zJ "steps" (.ow ss) [])))))=reR ss CS sp ws rs wt a:=rfl
end
abbrev yd(n:Nat)(r:Z1x):PyData:=.list (y9 n r)
abbrev zD(i:Nat):PyData:=.int (i:Int)
theorem ziH{n M N:Nat}{f:Q1x}(hn:n<=42)(hM:0<M)(sM:Sz M)(sN:Sz N)(hf:∀i,i<n->InB M N (f i)):∃(r:Z1x)(c:Rat),xZ [z9 n f]=some (y9 n r)/\c≠0/\(∀i,i<n->(r i:Rat)=c*f i)/\Prim n r:=by
 have hd:∀q∈(List.range n).map f,q.den ∣ M:=λq hq=>by
  obtain⟨a,ha,rfl⟩:=List.mem_map.mp hq;exact(hf a (List.mem_range.mp ha)).den
 have hB0:0<xm ((List.range n).map f):=YF _;have hB1:xm ((List.range n).map f) ∣ M:=Vd _ hd
 have hB2:∀a,a<n->(f a).den ∣ xm ((List.range n).map f):=λa ha=>YJ _ _ (List.mem_map.mpr ⟨a,List.mem_range.mpr ha,rfl⟩)
 have eb:ye [z9 n f]=some (.int (xm ((List.range n).map f):Int)):=by
  rw[zg8];exact vA hM sM hd
 have et:yO [qd true n f,.int (xm ((List.range n).map f):Int)]=some (y9 n λi=>jj (f i) (xm ((List.range n).map f))):=uU (t:=true) (n:=n) (f:=f) (by omega) hB0 (Sz.mono (Nat.le_of_dvd hM hB1) sM) λa ha=>⟨hB2 a ha,((hf a ha).bq sM sN).n⟩
 have bt:∀a,a<n->intBits (jj (f a) (xm ((List.range n).map f)))<=8000:=λa ha=>Nat.le_trans (sN.bits (Zb (hf a ha) hB1 (jo (hB2 a ha)))) (by decide)
 obtain⟨r,g,e,hg,hr,hp⟩:=wK (n:=n) (f:=λi=>jj (f i) (xm ((List.range n).map f))) (by omega) bt;have hg':(g:Rat)≠0:=xG hg;have hB':((xm ((List.range n).map f):Nat):Rat)≠0:=xG hB0
 refine⟨r,(xm ((List.range n).map f):Nat) / (g:Rat),Jy rfl (wC ((jH (zk (zZ ((jH (zk rfl (zk ((zb rfl).trans eb) rfl))).trans et)) rfl)).trans e)),?_,λi hi=>?_,hp⟩
 ·intro z;have h1:(xm ((List.range n).map f):Nat) / (g:Rat)*(g:Rat)=((xm ((List.range n).map f):Nat):Rat):=Rat.div_mul_cancel hg';rw[z,Rat.zero_mul] at h1;exact hB' h1.symm
 ·have h1:((jj (f i) (xm ((List.range n).map f)):Int):Rat)=(g:Rat)*(r i:Rat):=by
   rw[hr i hi,Rat.intCast_mul,Rat.intCast_natCast]
  rw[jo (hB2 i hi)] at h1;grind
theorem zjn{n k:Nat}{f:Q1x}(hn:n<=42)(hk:k<=399)(hf:∀i,i<n->Sk k (f i)):∃(r:Z1x)(c:Rat),xZ [z9 n f]=some (y9 n r)/\c≠0/\(∀i,i<n->(r i:Rat)=c*f i)/\Prim n r:=ziH hn (yN k) (sz6 (by omega)) (Sz.Ji (by omega)) hf
theorem zc7{n i:Nat}(hn:n<=1000)(hi:i<n):wa [zD i,zD n]=some (y9 n (xc i)):=by
 refine Jy rfl ?_;refine(zx (xj (zfx (n:=n) (d:=.int 0) (JO rfl (by decide)) rfl hn))).trans ((zx (zeP (a:=i) (ds:=(List.range n).map λ_=>.int 0) rfl rfl rfl (by simpa using hi))).trans (wC ?_));show some (((List.range n).map λ_=>PyData.int 0).set i (.int 1))=some (y9 n (xc i))
 congr 1
 refine List.ext_getElem? λj=>?_
 unfold y9;rw[List.getElem?_set,List.getElem?_map,List.getElem?_map,List.length_map,List.length_range];by_cases h:i=j
 ·subst h;rw[if_pos rfl,if_pos hi,List.getElem?_range hi];simp[xc]
 ·rw[if_neg h];by_cases hj:j<n
  ·rw[List.getElem?_range hj];simp[xc,Ne.symm h]
  ·rw[List.getElem?_eq_none (by simpa using hj)];rfl
theorem zdu{n:Nat}{c g:Z1x}{p s d:Int}(hn:n<=1000)(hp:intBits p<=1000000)(hs:intBits s<=1000000)(hc:∀x,x<n->intBits (c x)<=1000000)(hg:∀x,x<n->intBits (g x)<=1000000)(hd:d≠0)(hd2:d.natAbs.log2<9000):uY [yd n c,.int s,yd n g,.int p,.int d]=some (y9 n (nar p d s g c)):=by
 refine Jy rfl (wC ?_);refine zP (xs:=List.range n) (e:=λi=>.tuple [.int (c i),.int (g i)]) (d:=λi=>.int (nar p d s g c i)) ((ze8 rfl).trans (congrArg some (uh _ _ n))) (by simpa using Nat.le_trans hn (by decide)) λi hi=>?_
 have hi:=List.mem_range.mp hi;exact JN.trans ((zf ((zf ((zf rfl rfl).trans (yK (xS hp (hc i hi) (by omega)))) ((zf rfl rfl).trans (yK (xS hs (hg i hi) (by omega))))).trans rfl) rfl).trans (xR hd hd2))
theorem zdo:∀ns:List Int,PyData.canLayAll0 (ns.map .int)=true/\PyData.depthAll (ns.map .int)=0
 |[]=>⟨rfl,rfl⟩
 |n::ns=>by
  have⟨a,b⟩:=zdo ns;constructor
  ·show(true&&PyData.canLayAll0 (ns.map .int))=true
   rw[a];rfl
  ·show max 0 (PyData.depthAll (ns.map .int))=0
   rw[b];rfl
theorem shaped_ints(ns:List Int):SeqAt.shaped (.list (ns.map .int))=true/\SeqAt.shaped (.tuple (ns.map .int))=true:=by
 have⟨a,b⟩:=zdo ns;have c:PyData.canLay0 (.list (ns.map .int))=true:=a;have c':PyData.canLay0 (.tuple (ns.map .int))=true:=a
 constructor
 ·unfold SeqAt.shaped;rw[c,Bool.true_and];refine decide_eq_true ?_;show PyData.depthAll (ns.map .int)+1<=64
  rw[b];decide
 ·unfold SeqAt.shaped;rw[c',Bool.true_and];refine decide_eq_true ?_;show PyData.depthAll (ns.map .int)+1<=64
  rw[b];decide
theorem JG:∀ns ms:List Int,PyData.eqvAll (ns.map PyData.int) (ms.map PyData.int)=decide (ns=ms)
 |[],[]=>rfl
 |[],_::_=>rfl
 |_::_,[]=>rfl
 |n::ns,m::ms=>by
  show(PyData.eqv (.int n) (.int m)&&PyData.eqvAll (ns.map .int) (ms.map .int))=_
  rw[JG ns ms];by_cases h:n=m
  ·by_cases h2:ns=ms<;>simp[PyData.eqv,h,h2]
  ·simp[PyData.eqv,h]
theorem zdh(ns ms:List Int):eqD (.list (ns.map .int)) (.list (ms.map .int))=some (.bool (decide (ns=ms))):=by
 unfold eqD;rw[if_pos ⟨(shaped_ints ns).1,(shaped_ints ms).1⟩];show some (PyData.bool (PyData.eqvAll (ns.map .int) (ms.map .int)))=_
 rw[JG]
theorem zf3(ns ms:List Int):eqD (.tuple (ns.map .int)) (.tuple (ms.map .int))=some (.bool (decide (ns=ms))):=by
 unfold eqD;rw[if_pos ⟨(shaped_ints ns).2,(shaped_ints ms).2⟩];show some (PyData.bool (PyData.eqvAll (ns.map .int) (ms.map .int)))=_
 rw[JG]
theorem zhy(l:LNt):l.map zD=(l.map λi:Nat=>(i:Int)).map PyData.int:=by rw[List.map_map];rfl
theorem vN(x:Str)(c:Fs):∀fs:Ob,(zJ x c fs).length<=fs.length+1
 |[]=>Nat.le_refl _
 |(y,d)::fs=>by
  unfold zJ;split
  ·exact Nat.le_succ _
  ·exact Nat.succ_le_succ (vN x c fs)
def spO(n:Nat)(T F:LNt)(C:LZr)(d:Int):Ob:=spR (F.map zD) (T.map zD) (C.map (yd n)) (.int d)
theorem ziw{n:Nat}(hn:n<=1000):VB [] [zD n]=some (.none,spO n [] (List.range n) ((List.range n).map xc) 1):=by
 refine zeu (ρ':=[.no,.pu (zD n)]) rfl ?_;show ze2 [.no,.pu (zD n)] []=_
 have e1:zjs (aC (gv 1) a0) [.no,.pu (zD n)]=some ((List.range n).map zD):=by
  show(if -(2 ^ 62)<=(n:Int)/\(n:Int)<=16777216 then some (jB 0 (n:Int).toNat) else none)=_
  rw[if_pos (by constructor<;>omega),Int.toNat_natCast];unfold jB;congr 1;exact List.map_congr_left λi _=>by rw[Int.zero_add]
 have e2:zR 1 [1] (xK (aC (gv 1) a0)) (bN 0) (yu (xU wa (aC (gv 0) (aC (gv 1) a0)))) [.no,.pu (zD n)]=some ((List.range n).map λi=>yd n (xc i)):=uk (n:=n) (d:=λi=>yd n (xc i)) rfl (by omega) λi hi=>yy.trans (zZ ((jH rfl).trans (zc7 hn hi)))
 have l1:=vN "free" (.ow ((List.range n).map zD)) [];have l2:=vN "taken" (.ow []) (zJ "free" (.ow ((List.range n).map zD)) [])
 have l3:=vN "checks" (.ow ((List.range n).map λi=>yd n (xc i))) (zJ "taken" (.ow []) (zJ "free" (.ow ((List.range n).map zD)) []));rw[List.length_nil] at l1;refine(zY (u9 e1 (by show 0<1000;omega))).trans ?_;refine(zY (u9 (ds:=[]) (JO rfl (by decide)) (by omega))).trans ?_;refine(zY (u9 (ds:=(List.range n).map λi=>yd n (xc i)) ?_ (by omega))).trans ?_
 ·exact e2
 refine(zbf (d:=.int 1) rfl (by omega)).trans ?_;rw[zmF];unfold spO;rw[List.map_map];rfl
theorem za4{n:Nat}{T F:LNt}{C:LZr}{d:Int}:Ut (spO n T F C d) []=some (.bool (decide (F=[])),spO n T F C d):=by
 refine UC rfl (ve ?_);refine(u7 (uA Yd) rfl).trans ?_;rw[zhy];refine(zdh _ []).trans ?_;congr 2;exact decide_eq_decide.mpr (by simp)
def nz:Nat->List Int->List Int
 |_,[]=>[]
 |k,x::xs=>if x=0 then nz (k+1) xs else (k:Int)::nz (k+1) xs
theorem zhN:∀(k:Nat)(xs:List Int),nz k xs=[]->∀x∈xs,x=0
 |_,[],_,x,h=>by cases h
 |k,y::xs,e,x,h=>by
  unfold nz at e;split at e
  ·rename_i hy;rcases List.mem_cons.mp h with z|z
   ·rw[z];exact hy
   ·exact zhN (k+1) xs e x z
  ·cases e
theorem zfv:∀(k:Nat)(xs:List Int),nz k xs≠[]->∃(i:Nat)(x:Int)(r:List Int),nz k xs=((k+i:Nat):Int)::r/\xs[i]?=some x/\x≠0
 |_,[],h=>absurd rfl h
 |k,y::xs,h=>by
  unfold nz at h ⊢;split
  ·rename_i hy;rw[if_pos hy] at h;obtain⟨i,x,r,e1,e2,e3⟩:=zfv (k+1) xs h;exact⟨i+1,x,r,by rw[e1,show k+(i+1)=k+1+i by omega],by simpa using e2,e3⟩
  ·rename_i hy;exact⟨0,y,nz (k+1) xs,rfl,rfl,hy⟩
theorem zkm{α β:Type}{h:α->Option (Option β)}{d:α}{r:List α}{y:β}{ys:List β}(e1:h d=some (some y))(e2:wu h r=some ys):wu h (d::r)=some (y::ys):=by
 unfold wu;rw[e1,Option.bind_some,e2];rfl
theorem ziV{α β:Type}{h:α->Option (Option β)}{d:α}{r:List α}{ys:List β}(e1:h d=some none)(e2:wu h r=some ys):wu h (d::r)=some ys:=by
 unfold wu;rw[e1,Option.bind_some,e2];rfl
theorem zi4{x:PdX}{r:LPd}:ixD (.list (x::r)) (.int 0)=some x:=by
 show(ixN (r.length+1) 0).bind _=_
 unfold ixN;rw[if_pos (by omega),if_pos (by omega)];rfl
theorem zdx{β:Type}{F:LNt}{ρ:Ro}{x y:PdX}{fe:Ro->Option β}:(b2 (bN 0) (bN 1) (.tuple [x,y]) (compEnv 2 F ρ)).bind fe=fe (.pu x::.pu y::F.map λj=>(ρ[j]?).getD .no):=rfl
theorem zeV{F:LNt}{ρ:Ro}:∀(k:Nat)(xs:List Int),wu (λd=>(b2 (bN 0) (bN 1) d (compEnv 2 F ρ)).bind λρ1=>(zK (op2 neD (gv 1) (cst (PyData.int 0))) ρ1).bind λok=>if ok then (gv 0 ρ1).map some else some none) ((xs.map PyData.int).mapIdx λi d=>.tuple [.int ((k+i:Nat):Int),d])=some ((nz k xs).map PyData.int)
 |_,[]=>rfl
 |k,x::xs=>by
  have ih:=zeV (F:=F) (ρ:=ρ) (k+1) xs;rw[List.map_cons,List.mapIdx_cons];rw[show(λ(i:Nat) (d:PdX)=>PyData.tuple [.int ((k+(i+1):Nat):Int),d])=λi d=>.tuple [.int ((k+1+i:Nat):Int),d] from funext λi=>funext λd=>by rw[show k+(i+1)=k+1+i by omega]];have e:zK (op2 neD (gv 1) (cst (PyData.int 0))) (.pu (.int ((k+0:Nat):Int))::.pu (.int x)::F.map λj=>(ρ[j]?).getD .no)=some (!decide (x=0)):=zA ((zf rfl rfl).trans (JW x 0))
  unfold nz;by_cases h:x=0
  ·rw[if_pos h];rw[decide_eq_true h] at e;refine ziV ?_ ih;refine zdx.trans ?_;rw[e];rfl
  ·rw[if_neg h];rw[decide_eq_false h] at e;refine zkm ?_ ih;refine zdx.trans ?_;rw[e];rfl
theorem vj{α β:Type}(f:α->β):∀(l:List α)(i:Nat),(l.map f).eraseIdx i=(l.eraseIdx i).map f
 |[],_=>by simp
 |_::_,0=>rfl
 |x::l,i+1=>by
  show f x::(l.map f).eraseIdx i=f x::(l.eraseIdx i).map f
  rw[vj f l i]
theorem zip_map{α:Type}(f g:α->PyData):∀l:List α,Jk (l.map f) (l.map g)=l.map λx=>.tuple [f x,g x]
 |[]=>rfl
 |x::l=>by
  show PyData.tuple [f x,g x]::Jk (l.map f) (l.map g)=_
  rw[zip_map f g l];rfl
theorem zjx{n:Nat}{c r:Z1x}(hn:n<=1000)(hc:∀x,x<n->intBits (c x)<=400000)(hr:∀x,x<n->intBits (r x)<=400000):intBits (dt n c r)<=1000000:=by
 have h:=Jm (f:=λx=>c x*r x) (B:=2 ^ 800000) n λx hx=>by
  rw[Int.natAbs_mul,show 800000=400000+400000 from rfl,Nat.pow_add];exact Nat.mul_le_mul (Nat.le_of_lt (intBits_le_iff.mp (hc x hx))) (Nat.le_of_lt (intBits_le_iff.mp (hr x hx)))
 refine intBits_le_iff.mpr (Nat.lt_of_le_of_lt h ?_);rw[show 1000000=10+(800000+199990) from rfl,Nat.pow_add,Nat.pow_add 2 800000];have h1:0<2 ^ 800000:=Nat.pow_pos (by decide);have h2:0<2 ^ 199990:=Nat.pow_pos (by decide)
 refine Nat.mul_lt_mul_of_lt_of_le (by omega) (Nat.le_mul_of_pos_right _ h2) (Nat.mul_pos h1 h2)
theorem zi7{n:Nat}{T F:LNt}{C:LZr}{d:Int}{r:Z1x}(hn:n<=1000)(hF:C.length=F.length)(hl:F.length<=1000)(hT:T.length<=1000)(hC:∀c∈C,∀x,x<n->intBits (c x)<=400000)(hr:∀x,x<n->intBits (r x)<=400000)(hd:d≠0)(hd2:d.natAbs.log2<9000):((∀c∈C,dt n c r=0)/\UL (spO n T F C d) [yd n r]=some (.bool false,spO n T F C d))\/
  ∃i cg g,C[i]?=some cg/\F[i]?=some g/\dt n cg r≠0/\UL (spO n T F C d) [yd n r]=some (.bool true,spO n (T++[g]) (F.eraseIdx i) ((C.eraseIdx i).map λc=>nar (dt n cg r) d (dt n c r) cg c) (dt n cg r)):=by
 have hlen:C.length<=16777216:=by omega
 have e1:ocomp 1 [1] (gsq (gg "checks")) (bN 0) (zh yb (aC (gv 0) (aC (gv 1) a0))) [.no,.pu (yd n r),.no,.no,.no,.no,.no,.no] (spO n T F C d)=some (C.map λc=>PyData.int (dt n c r)):=zhx (xs:=C) (e:=yd n) (d:=λc=>PyData.int (dt n c r)) (zmz (uA JY)) hlen λc hc=>yy.trans ((zb rfl).trans (zej hn λx hx=>⟨Nat.le_trans (hC c hc x hx) (by decide),Nat.le_trans (hr x hx) (by decide)⟩))
 have es:(C.map λc=>PyData.int (dt n c r))=(C.map λc=>dt n c r).map PyData.int:=by rw[List.map_map];rfl
 have e2:∀o3,Ya 2 [] (λρ x=>zfg false (aC (gb 2) a0) ρ) (b2 (bN 0) (bN 1)) (zK (op2 neD (gv 1) (cst (PyData.int 0)))) (gv 0) [.no,.pu (yd n r),.ow (C.map λc=>PyData.int (dt n c r)),o3,.no,.no,.no,.no] (spO n T F C d)=some ((nz 0 (C.map λc=>dt n c r)).map PyData.int):=λo3=>by
  unfold Ya;show((some (WV (C.map λc=>PyData.int (dt n c r)))).bind _)=_
  rw[Option.bind_some,if_pos (by unfold WV;rw[List.length_mapIdx,List.length_map];exact hlen),es];unfold WV
  have:=zeV (F:=[]) (ρ:=[.no,.pu (yd n r),.ow ((C.map λc=>dt n c r).map PyData.int),o3,.no,.no,.no,.no]) 0 (C.map λc=>dt n c r);rw[show(λ(i:Nat) (d:PdX)=>PyData.tuple [.int ((0+i:Nat):Int),d])=λi d=>.tuple [.int (i:Int),d] from funext λi=>funext λd=>by rw[Nat.zero_add]] at this;exact this
 have e3:zK (op2 eqD (gb 3) (yu (vw a0))) [.no,.pu (yd n r),.ow (C.map λc=>PyData.int (dt n c r)),.ow ((nz 0 (C.map λc=>dt n c r)).map PyData.int),.no,.no,.no,.no]=some (decide (nz 0 (C.map λc=>dt n c r)=[])):=zA ((zf rfl rfl).trans (zdh _ []));by_cases hz:nz 0 (C.map λc=>dt n c r)=[]
 ·refine .inl ⟨λc hc=>zhN 0 _ hz _ (List.mem_map.mpr ⟨c,hc,rfl⟩),?_⟩;rw[decide_eq_true hz] at e3;exact UC rfl ((zY (Jq e1)).trans ((zY (Jq (e2 .no))).trans (Wk ((zhT e3).trans (ve rfl)))))
 ·right
  have⟨i,x,rr,q1,q2,q3⟩:=zfv 0 _ hz;rw[Nat.zero_add] at q1;rw[List.getElem?_map] at q2;have⟨cg,q4,q5⟩:=map_some q2;obtain⟨hi,_⟩:=List.getElem?_eq_some_iff.mp q4;obtain⟨g,q6⟩:∃g,F[i]?=some g:=⟨_,List.getElem?_eq_getElem (by omega)⟩;rw[<-q5] at q3;refine⟨i,cg,g,q4,q6,q3,?_⟩;rw[decide_eq_false hz] at e3;have hcg:cg∈C:=List.mem_of_getElem? q4;have bd:∀c∈C,intBits (dt n c r)<=1000000:=λc hc=>zjx hn (hC c hc) hr
  refine UC rfl ((zY (Jq e1)).trans ((zY (Jq (e2 .no))).trans ((zY ((ziF e3).trans rfl)).trans ?_)));refine(zY (uF (d:=zD i) ((zf (show gb 3 _=some (PyData.list ((nz 0 (C.map λc=>dt n c r)).map PyData.int)) from rfl) rfl).trans ?_))).trans ?_
  ·rw[q1];exact zi4
  refine(zY (zlM (ds:=C.map λc=>PyData.int (dt n c r)) (j:=i) (d:=.int (dt n cg r)) rfl rfl (by rw[List.length_map];exact hlen) (by rw[List.getElem?_map,q4];rfl))).trans ?_;refine(zY (zlc (ds:=C.map (yd n)) (j:=i) (d:=yd n cg) JY rfl (by rw[List.length_map];exact hlen) (by rw[List.getElem?_map,q4];rfl))).trans ?_;rw[Yq,vj (yd n),vj (λc=>PyData.int (dt n c r))];have sub:∀c∈C.eraseIdx i,c∈C:=λc hc=>List.mem_of_mem_eraseIdx hc
  refine(zY (Jq (ds:=(C.eraseIdx i).map λc=>yd n (nar (dt n cg r) d (dt n c r) cg c)) (zay (xs:=C.eraseIdx i) (e:=λc=>.tuple [yd n c,.int (dt n c r)]) ((zlN (yI (uA JY) (yI rfl rfl))).trans (congrArg some (zip_map _ _ _))) (by rw[List.length_eraseIdx];split<;>omega) λc hc=>?_))).trans ?_
  ·refine JN.trans ((vm (ds:=[yd n c,.int (dt n c r),yd n cg,.int (dt n cg r),.int d]) (yI rfl (yI rfl (yI rfl (yI rfl (yI (zc9 zcv) rfl)))))).trans (zcJ (zdu hn (bd cg hcg) (bd c (sub c hc)) (λx hx=>Nat.le_trans (hC c (sub c hc) x hx) (by decide)) (λx hx=>Nat.le_trans (hC cg hcg x hx) (by decide)) hd hd2)))
  refine(zY (zk9 rfl (by show 4<1000;omega))).trans ?_;rw[Yq];refine(zY (zbf (d:=.int (dt n cg r)) rfl (by show 4<1000;omega))).trans ?_;rw[zf5];refine(zY (zjH (ds:=F.map zD) (j:=i) (d:=zD g) (es:=T.map zD) Yd rfl (by rw[List.length_map];omega) (by rw[List.getElem?_map,q6];rfl) (by rw[zdD];exact Zs) (by rw[List.length_map];omega))).trans ((ve rfl).trans ?_);rw[zdD,zf6,vj];unfold spO;rw[List.map_append,List.map_map];rfl
def zcN(n:Nat)(st:Q3x)(g:Nat):PyData:=.list ((List.range n).map λb=>.list (y9 n λa=>jj (st g a b) (xM n (st g))))
abbrev WR:=List (List Nat×(Nat->Int))
def QL(s:Nat)(r0:Z1x)(L:WR):WR:=([],r0)::L.flatMap λq=>(List.range s).map λg=>(q.1++[g],q.2)
def WW(n:Nat)(q:List Nat×(Nat->Int)):PyData:=.tuple [yZ q.1,yd n q.2]
def RO(CS:AdX)(n s:Nat)(st:Q3x)(r0:Z1x)(L:WR)(T F:LNt)(C:LZr)(d:Int)(a:Nat):Ob:=reR ((List.range s).map (zcN n st)) CS (spO n T F C d) (L.map λq=>yZ q.1) (L.map λq=>yd n q.2) ((QL s r0 L).map (WW n)) (zD a)
abbrev RSL(n s:Nat)(st:Q3x)(fi:Q1x)(L:WR)(T F:LNt)(C:LZr)(d:Int)(a:Nat):Prop:=WD.DT.RS n s st fi (L.map (·.1)) (L.map (·.2)) T F C d a
structure Bd(n s:Nat)(st:Q3x)(fi:Q1x)(k B m:Nat):Prop where
 hn:n<=42
 hs:s<=42
 hs0:0<s
 hst:∀g a b,g<s->a<n->b<n->InB k (2 ^ 3192) (st g a b)
 hk0:0<k
 hk:k<=2 ^ 3192
 hB:B<=2 ^ 4000
 hP:∀j,j<=m->(n*B) ^ j<2 ^ 9000
 hw:∀u:List Nat,(∀g∈u,g<s)->u.length<=n - 1->∃(M:Rat)(z:Z1x),M≠0/\∀x,x<n->(z x:Rat)=zT n st fi u x*M/\(z x).natAbs<=B
 hm:∀L T F C d a,RSL n s st fi L T F C d a->L.length<=m
theorem Sk.inb{k:Nat}{q:Rat}(h:Sk k q)(hk:k<=399):InB (6 ^ k) (2 ^ 3192) q:=InB.mono h (Nat.pow_le_pow_right (by decide) (by omega))
theorem zhQ{k:Nat}(hk:k<=399):6 ^ k<=2 ^ 3192:=by
 refine Nat.le_trans (Nat.pow_le_pow_left (show 6<=2 ^ 3 by decide) k) ?_;rw[<-Nat.pow_mul];exact Nat.pow_le_pow_right (by decide) (by omega)
theorem Wa{k:Nat}(hk:k<=2 ^ 3192):Sz k:=Sz.mono hk (Sz.Ji (by decide))
structure IV(n s:Nat)(st:Q3x)(fi:Q1x)(L:WR)(T F:LNt)(C:LZr)(d:Int)(a:Nat):Prop where
 rs:RSL n s st fi L T F C d a
 pr:∀q∈L,Prim n q.2
structure R0(n:Nat)(fi:Q1x)(r0:Z1x):Prop where
 ex:∃c:Rat,c≠0/\∀x,x<n->(r0 x:Rat)=c*fi x
 pr:Prim n r0
theorem zcK(s:Nat)(r0:Z1x)(L:WR):queue s (L.map (·.1))=(QL s r0 L).map (·.1):=by
 unfold queue QL;rw[List.map_cons,List.flatMap_map,List.map_flatMap];congr 2;funext q;rw[List.map_map];rfl
theorem zjR(s:Nat)(r0:Z1x)(L:WR)(q:List Nat×(Nat->Int)):QL s r0 (L++[q])=QL s r0 L++(List.range s).map λg=>(q.1++[g],q.2):=by
 unfold QL;rw[List.flatMap_append];simp
theorem zfj(c:Rat):(c.num:Rat)=c*(c.den:Rat):=by
 have e:=jo (q:=c) (B:=c.den) (Nat.dvd_refl _);rw[<-e];unfold jj;rw[Nat.div_self c.den_pos];simp
theorem ZH{n B:Nat}{r z:Z1x}{f:Q1x}{c M:Rat}(h:Prim n r)(hc:c≠0)(hr:∀x,x<n->(r x:Rat)=c*f x)(hM:M≠0)(hz:∀x,x<n->(z x:Rat)=f x*M/\(z x).natAbs<=B):∀x,x<n->(r x).natAbs<=B:=λx hx=>by
 refine Nat.le_trans (h.le (z:=z) (a:=c.num*(M.den:Int)) (b:=M.num*(c.den:Int)) ?_ ?_ (λi hi=>?_) x hx) (hz x hx).2
 ·have:=M.den_pos;exact Int.mul_ne_zero (λe=>hc (Rat.num_eq_zero.mp e)) (by omega)
 ·have:=c.den_pos;exact Int.mul_ne_zero (λe=>hM (Rat.num_eq_zero.mp e)) (by omega)
 ·have h1:=hr i hi;have h2:=(hz i hi).1
  have h3:=zfj c;have h4:=zfj M
  have h5:((c.num*(M.den:Int)*z i:Int):Rat)=((M.num*(c.den:Int)*r i:Int):Rat):=by
   rw[Rat.intCast_mul,Rat.intCast_mul,Rat.intCast_mul,Rat.intCast_mul,Rat.intCast_natCast,Rat.intCast_natCast,h1,h2,h3,h4];generalize (M.den:Rat)=y1;generalize (c.den:Rat)=y2;grind
  exact_mod_cast h5
section
variable{n s k B m:Nat}{st:Q3x}{fi:Q1x}{L:WR}{T F:LNt}{C:LZr}{d:Int}{a:Nat}{r0:Z1x}{CS:AdX}
theorem zjD{W:List (List Nat)}{Rw:LZr}(h:WD.DT.RS n s st fi W Rw T F C d a)(hs:0<s){u:LNt}(hu:(queue s W)[a]?=some u)(hF:F≠[]):u.length<n/\∀g∈u,g<s:=by
 have k:=h.rc.keep hu;refine⟨?_,k.signs hs W.length u (by rw[List.getElem?_append_right (Nat.le_refl _),Nat.sub_self];rfl)⟩
 have:=k.short hs W.length u (by rw[List.getElem?_append_right (Nat.le_refl _),Nat.sub_self];rfl);have f:=h.sp.few
 have:0<F.length:=List.length_pos_iff.mpr hF;have l1:=h.len;have l2:=h.lenT
 omega
theorem IV.wlen(h:IV n s st fi L T F C d a)(hs:0<s){q:List Nat×(Nat->Int)}(hq:q∈L):q.1.length<=n - 1/\∀g∈q.1,g<s:=by
 obtain⟨i,hi⟩:=List.getElem?_of_mem hq;obtain⟨hl,_⟩:=List.getElem?_eq_some_iff.mp hi;have e:(L.map (·.1))[i]?=some q.1:=by rw[List.getElem?_map,hi];rfl
 have h1:=h.rs.rc.short hs i q.1 e;have f:=h.rs.sp.few
 have l1:=h.rs.len;have l2:=h.rs.lenT
 rw[List.length_map,List.length_map] at l1;rw[List.length_map] at l2;exact⟨by omega,h.rs.rc.signs hs i q.1 e⟩
theorem IV.mult(h:IV n s st fi L T F C d a){q:List Nat×(Nat->Int)}(hq:q∈L):∃c:Rat,c≠0/\∀x,x<n->(q.2 x:Rat)=c*zT n st fi q.1 x:=by
 obtain⟨i,hi⟩:=List.getElem?_of_mem hq;exact h.rs.mult i q.1 q.2 (by rw[List.getElem?_map,hi];rfl) (by rw[List.getElem?_map,hi];rfl)
theorem IV.abs(h:IV n s st fi L T F C d a)(b:Bd n s st fi k B m){q:List Nat×(Nat->Int)}(hq:q∈L):∀x,x<n->(q.2 x).natAbs<=B:=by
 have⟨h1,h2⟩:=h.wlen b.hs0 hq;have⟨M,z,hM,hz⟩:=b.hw q.1 h2 h1;have⟨c,hc,hr⟩:=h.mult hq;exact ZH (h.pr q hq) hc hr hM hz
theorem Bd.bits(b:Bd n s st fi k B m){x:Int}(h:x.natAbs<=B):intBits x<=4001:=vh (Nat.lt_of_le_of_lt (Nat.le_trans h b.hB) (Nat.pow_lt_pow_right (by decide) (by decide)))
theorem Bd.pivot(b:Bd n s st fi k B m)(h:IV n s st fi L T F C d a):d.natAbs.log2<9000:=by
 have hd:=h.rs.sp.d0;refine(Nat.log2_lt (by omega)).mpr (Nat.lt_of_le_of_lt (h.rs.sp.VT (B:=B) ?_ ?_) (b.hP _ ?_))
 ·have:=h.rs.sp.few;omega
 ·intro r hr x hx;obtain⟨q,hq,rfl⟩:=List.mem_map.mp (List.mem_reverse.mp hr);exact h.abs b hq x hx
 ·rw[List.length_reverse,List.length_map];exact b.hm L T F C d a h.rs
theorem Bd.check(b:Bd n s st fi k B m)(h:IV n s st fi L T F C d a):∀c∈C,∀x,x<n->intBits (c x)<=400000:=λc hc x hx=>by
 obtain⟨i,hi⟩:=List.getElem?_of_mem hc;have h1:=h.rs.sp.Wf (B:=B) h.rs.sp.few (λr hr x hx=>by
  obtain⟨q,hq,rfl⟩:=List.mem_map.mp (List.mem_reverse.mp hr);exact h.abs b hq x hx) hi x hx
 have h2:(n*B) ^ (L.map (·.2)).reverse.length<2 ^ 9000:=b.hP _ (by rw[List.length_reverse,List.length_map];exact b.hm L T F C d a h.rs);refine vh (Nat.lt_of_le_of_lt h1 ?_);have h3:n*(n*B) ^ (L.map (·.2)).reverse.length<=2 ^ 6*2 ^ 9000:=Nat.mul_le_mul (Nat.le_trans b.hn (by decide)) (Nat.le_of_lt h2)
 rw[<-Nat.pow_add] at h3;exact Nat.lt_of_le_of_lt h3 (Nat.pow_lt_pow_right (by decide) (by decide))
theorem zj5(v:LNt)(g:Nat):ixD (yZ (v++[g])) (.int (-1))=some (zD g):=by
 unfold yZ;rw[List.map_append];show atI (v.map (λg:Nat=>PyData.int (g:Int))++[zD g]) (-1)=_
 unfold atI ixN;rw[if_neg (by omega),List.length_append,List.length_map,List.length_singleton,if_pos (by omega),Option.bind_some,show(-1+((v.length+1:Nat):Int)).toNat=v.length by omega,List.getElem?_append_right (by simp),List.length_map,Nat.sub_self];rfl
theorem zb8(u:LNt):eqD (yZ u) (.tuple [])=some (.bool (decide (u=[]))):=by
 have e:yZ u=.tuple ((u.map λg:Nat=>(g:Int)).map PyData.int):=by unfold yZ;rw[List.map_map];rfl
 rw[e];refine(zf3 _ []).trans ?_;congr 2;exact decide_eq_decide.mpr (by simp)
end
theorem zfd{bd:PyData->Ro->Option Ro}{b:OFx}:∀{ds:LPd} {ρ0:Ro} {fs0:Ob} (P:Nat->Ro->Ob->Prop),P 0 ρ0 fs0->
  (∀i d ρ fs,ds[i]?=some d->P i ρ fs->∃ρ1 ρ2 fs2,bd d ρ=some ρ1/\b ρ1 fs=some (.nx ρ2 fs2)/\P (i+1) ρ2 fs2)->∃ρ' fs',zaR bd b ds ρ0 fs0=some (.nx ρ' fs')/\P ds.length ρ' fs'
 |[],ρ0,fs0,P,h0,_=>⟨ρ0,fs0,rfl,h0⟩
 |d::r,ρ0,fs0,P,h0,h=>by
  have⟨ρ1,ρ2,fs2,e1,e2,p⟩:=h 0 d ρ0 fs0 rfl h0;obtain⟨ρ',fs',e3,p'⟩:=zfd (ds:=r) (ρ0:=ρ2) (fs0:=fs2) (λi=>P (i+1)) p λi d ρ fs e q=>h (i+1) d ρ fs (by simpa using e) q
  refine⟨ρ',fs',?_,p'⟩;unfold zaR;rw[e1,Option.bind_some,e2];exact e3
section
variable{n s k B m:Nat}{st:Q3x}{fi:Q1x}{L:WR}{T F:LNt}{C:LZr}{d:Int}{a:Nat}{r0:Z1x}{CS:AdX}
theorem zg5{fs:Ob}{x:PdX}:Uq fs [yZ [],x]=some (x,fs):=UC rfl (Wk ((zhT (zA ((zf rfl rfl).trans (zb8 [])))).trans (ve rfl)))
theorem zgA(b:Bd n s st fi k B m){v:LNt}{g:Nat}{p:Z1x}{c:Rat}(hg:g<s)(hb:∀x,x<n->(p x).natAbs<=B)(hc:c≠0)(hp:∀x,x<n->(p x:Rat)=c*zT n st fi v x):∃(r:Z1x)(c':Rat),Uq (RO CS n s st r0 L T F C d a) [yZ (v++[g]),yd n p]=some (yd n r,RO CS n s st r0 L T F C d a)/\c'≠0/\(∀x,x<n->(r x:Rat)=c'*zT n st fi (v++[g]) x)/\Prim n r:=by
 have hn:=b.hn;obtain⟨_,w1,w2,w3⟩:=Vl (n:=n) (M:=k) (f:=st g) b.hn b.hk0 (Wa b.hk) (Wa (Nat.le_refl _)) (λa' b'=>b.hst g a' b' hg);have ht:∀a' b',a'<n->b'<n->(jj (st g a' b') (xM n (st g))).natAbs<=2 ^ 3192:=λa' b' ha hb'=>Zb (b.hst g a' b' hg ha hb') w2 (jo (w3 a' b' ha hb'))
 have h8:(2:Nat) ^ 3192<=2 ^ 3192:=Nat.le_refl _;have e1:=zgR (n:=n) (t:=p) (c:=λa' b'=>jj (st g a' b') (xM n (st g))) (by omega) (λa' ha=>Nat.le_trans (b.bits (hb a' ha)) (by decide)) λa' b' ha hb'=>Nat.le_trans (vh (m:=3193) (Nat.lt_of_le_of_lt (Nat.le_trans (ht a' b' ha hb') h8) (Nat.pow_lt_pow_right (by decide) (by decide)))) (by decide)
 obtain⟨r,g',e2,hg',hr,hpr⟩:=wK (n:=n) (f:=λb'=>yg n λa'=>p a'*jj (st g a' b') (xM n (st g))) (by omega) λb' hb'=>by
  have h1:=Jm (f:=λa'=>p a'*jj (st g a' b') (xM n (st g))) (B:=2 ^ 4000*2 ^ 3192) n λa' ha=>by
   rw[Int.natAbs_mul];exact Nat.mul_le_mul (Nat.le_trans (hb a' ha) b.hB) (Nat.le_trans (ht a' b' ha hb') h8)
  refine vh (Nat.lt_of_le_of_lt (Nat.le_trans h1 (Nat.mul_le_mul_right _ (show n<=2 ^ 6 by omega))) ?_);rw[<-Nat.pow_add,<-Nat.pow_add];exact Nat.pow_lt_pow_right (by decide) (by decide)
 have hL:((xM n (st g):Nat):Rat)≠0:=xG w1;have hG:(g':Rat)≠0:=xG hg'
 refine⟨r,c*(xM n (st g):Nat) / (g':Rat),?_,?_,λx hx=>?_,hpr⟩
 ·refine UC rfl ((zY ((ziF (zA ((zf rfl rfl).trans ((zb8 _).trans ?_)))).trans rfl)).trans (ve ?_))
  ·rw[decide_eq_false (by simp)]
  ·refine(vm (yI (d:=.list (y9 n λb'=>yg n λa'=>p a'*jj (st g a' b') (xM n (st g)))) ((vm (yI rfl (yI (d:=zcN n st g) ((u7 (uA zdI) (y:=zD g) ((zf rfl rfl).trans (zj5 v g))).trans (JD hg)) rfl))).trans (zcJ e1)) rfl)).trans (zcJ e2)
 ·intro z;have h1:c*(xM n (st g):Nat) / (g':Rat)*(g':Rat)=c*((xM n (st g):Nat):Rat):=Rat.div_mul_cancel hG;rw[z,Rat.zero_mul] at h1;rcases Rat.mul_eq_zero.mp h1.symm with z|z
  ·exact hc z
  ·exact hL z
 ·have h1:((yg n (λa'=>p a'*jj (st g a' x) (xM n (st g))):Int):Rat)=led n (zT n st fi v) (st g) x*(c*(xM n (st g):Nat)):=by
   rw[JF];unfold led;rw[<-zG];exact zd n λa' ha=>by
    rw[Rat.intCast_mul,hp a' ha,jo (w3 a' x ha hx)];grind
  rw[hr x hx,Rat.intCast_mul,Rat.intCast_natCast] at h1;rw[vT];generalize led n (zT n st fi v) (st g) x=y at h1 ⊢;generalize ((r x:Int):Rat)=y2 at h1 ⊢;grind
theorem zh4(u:LNt)(g:Nat)(hu:u.length<=1000):uC (yZ u) (.tuple [zD g])=some (yZ (u++[g])):=by
 unfold yZ;show(if (u.map (λg:Nat=>PyData.int (g:Int))).length+[zD g].length<=16777216 then _ else _)=_
 rw[if_pos (by rw[List.length_map,List.length_singleton];omega),List.map_append];rfl
theorem zjz{ss ws rs wt:LPd}{sp:Ob}{x:PdX}{u:LNt}{r:Z1x}(hs:ss.length=s)(hs2:s<=1000)(hu:u.length<=1000)(hw:ws.length<=1000)(hr:rs.length<=1000)(hwt:wt.length<=1000000):Wd (reR ss CS sp ws rs wt x) [yZ u,yd n r]=some (.none,reR ss CS sp (ws++[yZ u]) (rs++[yd n r]) (wt++(List.range s).map λg=>WW n (u++[g],r)) x):=by
 obtain⟨ρ',fs',e,o,rfl,rfl⟩:=zfd (bd:=bN 3) (b:=oap "waiting" λρ x=>xp (aC (op2 uC (gv 1) (xp (aC (gv 3) a0))) (aC (gv 2) a0)) ρ) (ds:=jB 0 s) (ρ0:=[.no,.pu (yZ u),.pu (yd n r),.no]) (fs0:=reR ss CS sp (ws++[yZ u]) (rs++[yd n r]) wt x)
  (λi ρ fs=>∃o,ρ=[.no,.pu (yZ u),.pu (yd n r),o]/\fs=reR ss CS sp (ws++[yZ u]) (rs++[yd n r]) (wt++(List.range i).map λg=>WW n (u++[g],r)) x) ⟨.no,rfl,by simp⟩
  (λi dd ρ fs hd ⟨o,e1,e2⟩=>by
   subst e1 e2;obtain⟨hi,rfl⟩:=zfJ hd;refine⟨_,_,_,rfl,zec (d:=WW n (u++[i],r)) UH ?_ ?_,.pu (zD i),rfl,?_⟩
   ·refine(jL (zk ((zf rfl (jL rfl (by show 1<=16777216;omega))).trans (zh4 u i hu)) rfl) (by show 2<=16777216;omega))
   ·rw[List.length_append,List.length_map,List.length_range];omega
   ·rw[zc0,List.range_succ,List.map_append,List.append_assoc];rfl)
 rw[show(jB 0 s).length=s by simp[jB]] at e;refine zeu (ρ':=[.no,.pu (yZ u),.pu (yd n r),o]) rfl ((zY (zec zcZ rfl (by omega))).trans ?_);rw[zfT];refine(zY (zec zbc rfl (by omega))).trans ?_;rw[zgV];have e2:grn (gAC (gcall yk (gAC (gg "steps") gA0)) gA0) [.no,.pu (yZ u),.pu (yd n r),.no] (reR ss CS sp (ws++[yZ u]) (rs++[yd n r]) wt x)=some (jB 0 s):=by
  unfold grn;rw[yI (d:=.int (s:Int)) ((vm (yI (uA zdI) rfl)).trans (by rw[<-hs];rfl)) rfl];show(if -(2 ^ 62)<=(s:Int)/\(s:Int)<2 ^ 62 then some (jB 0 (s:Int).toNat) else none)=_
  rw[if_pos (by constructor<;>omega),Int.toNat_natCast]
 unfold ofor;show(grn (gAC (gcall yk (gAC (gg "steps") gA0)) gA0) [.no,.pu (yZ u),.pu (yd n r),.no] (reR ss CS sp (ws++[yZ u]) (rs++[yd n r]) wt x)).bind _=_
 rw[e2,Option.bind_some];exact e
theorem zdf{la:Q1x}{k0:Nat}(b:Bd n s st fi k B m)(hf:∀i,i<n->InB k0 (2 ^ 3192) (fi i))(hk0:0<k0)(hk:k0<=2 ^ 3192):∃r0,vL CS [] [zr n s fi st la]=some (.none,RO CS n s st r0 [] [] (List.range n) ((List.range n).map xc) 1 0)/\R0 n fi r0:=by
 have hn:=b.hn;have hs:=b.hs
 obtain⟨r0,c,e0,hc,hr,hp⟩:=ziH b.hn hk0 (Wa hk) (Wa (Nat.le_refl _)) hf;refine⟨r0,?_,⟨c,hc,hr⟩,hp⟩;refine zeu (ρ':=[.no,.pu (zr n s fi st la)]) rfl ?_;show zeY CS [.no,.pu (zr n s fi st la)] []=_
 have e1:zR 1 [] (yt (op2 ixD (gv 1) (cst (PyData.int 1)))) (bN 0) (op2 ixD (zh vG (aC (gv 0) a0)) (cst (PyData.int 0))) [.no,.pu (zr n s fi st la)]=some ((List.range s).map (zcN n st)):=by
  refine zP (xs:=List.range s) (e:=λg=>yv n (st g)) (d:=zcN n st) (wW ((zf rfl rfl).trans vE)) (by rw[List.length_range];omega) λg hg=>?_
  obtain⟨w0,_⟩:=Vl (n:=n) (M:=k) (f:=st g) b.hn b.hk0 (Wa b.hk) (Wa (Nat.le_refl _)) (λa' b'=>b.hst g a' b' (List.mem_range.mp hg));exact yy.trans ((zf ((zb rfl).trans w0) rfl).trans rfl)
 have e2:fnw VB (aC (zh yk (aC (op2 ixD (gv 1) (cst (PyData.int 0))) a0)) a0) [.no,.pu (zr n s fi st la)]=some (spO n [] (List.range n) ((List.range n).map xc) 1):=by
  unfold fnw;rw[show aC (zh yk (aC (op2 ixD (gv 1) (cst (PyData.int 0))) a0)) a0 [.no,.pu (zr n s fi st la)]=some [zD n] from zk ((zb (zk ((zf rfl rfl).trans xQ) rfl)).trans (xx n _)) rfl,Option.bind_some,ziw (by omega)]
 have l1:=vN "steps" (.ow ((List.range s).map (zcN n st))) [];rw[List.length_nil] at l1;refine(zY (u9 (ds:=(List.range s).map (zcN n st)) ?_ (by show 0<1000;omega))).trans ?_
 ·exact e1
 have l2:=vN "span" (.ob CS (spO n [] (List.range n) ((List.range n).map xc) 1)) (zJ "steps" (.ow ((List.range s).map (zcN n st))) []);refine(zY (zkj (gs:=spO n [] (List.range n) ((List.range n).map xc) 1) ?_ (by omega))).trans ?_
 ·exact e2
 generalize eF:zJ "span" (.ob CS (spO n [] (List.range n) ((List.range n).map xc) 1)) (zJ "steps" (.ow ((List.range s).map (zcN n st))) [])=fs1 at l2 ⊢;have l3:=vN "words" (.ow []) fs1;refine(zY (u9 (ds:=[]) (JO rfl (by decide)) (by omega))).trans ?_;have l4:=vN "rows" (.ow []) (zJ "words" (.ow []) fs1)
 refine(zY (u9 (ds:=[]) (JO rfl (by decide)) (by omega))).trans ?_;have l5:=vN "waiting" (.ow [WW n ([],r0)]) (zJ "rows" (.ow []) (zJ "words" (.ow []) fs1));refine(zY (u9 (ds:=[WW n ([],r0)]) (JO (zk (jL (zk (jL rfl (by show 0<=16777216;omega)) (zk ((zb (zk ((zf rfl rfl).trans xQ) rfl)).trans (zcJ e0)) rfl)) (by show 2<=16777216;omega)) rfl) (by show 1<=16777216;omega)) (by omega))).trans ?_;refine(zbf (d:=.int 0) rfl (by omega)).trans ?_;rw[<-eF,zmf];rfl
end
abbrev zkk(CS:AdX):Ro->Ob->Option (Bool×Ob):=(gaF (gtF (gbo (gop (zes λi j=>decide (i<j)) (gf "asked") (gcall yk (gAC (gg "waiting") gA0))))) (gnF (gvF (gmn CS "span" "full" Ut gA0))))
abbrev zkg(CS:AdX):OFx:=(osq (oset 1 (gop ixD (gop ixD (gg "waiting") (gf "asked")) λρ x=>cst (PyData.int 0) ρ)) (osq (osm 2 (gms "row_led_on" Uq (gAC (λρ x=>gv 1 ρ) (gAC (gop ixD (gop ixD (gg "waiting") (gf "asked")) λρ x=>cst (PyData.int 1) ρ) gA0)))) (osq (ofl "asked" (gop xP (gf "asked") λρ x=>cst (PyData.int 1) ρ)) (Z3 (gvF (gmn CS "span" "take" UL (gAC (λρ x=>gv 2 ρ) gA0))) (osq (oex (gms "keep" Wd (gAC (λρ x=>gv 1 ρ) (gAC (λρ x=>gv 2 ρ) gA0)))) (oret λρ x=>gv 2 ρ)) os0))))
abbrev zfO:Ro->Ob->Option (Bool×Ob):=(gtF λρ x=>zK (op2 ZQ (gv 5) (cst PyData.none)) ρ)
abbrev zgt(CS:AdX):OFx:=(osq (oif (λρ x=>zK (op2 neD (zh yb (aC (gv 5) (aC (gv 3) a0))) (cst (PyData.int 0))) ρ) (oret (gtp (gAC (gop ixD (gg "words") λρ x=>op1 ZF (cst (PyData.int 1)) ρ) (gAC (glF (gsl (gg "rows") o0 (oS (op1 ZF (cst (PyData.int 1)))))) gA0)))) os0) (osm 5 (gms "onward" (xf CS) gA0)))
section
variable{c:Ro->Ob->Option (Bool×Ob)}{b:OFx}{f:Nat}{ρ ρ2:Ro}{fs fs' fs2:Ob}{d:PdX}
theorem Ze{N:Nat}{mm:Ro->Ob->Nat}{r:Option Flo}(hN:mm ρ fs=N)(e:Jx c b N ρ fs=r):owh mm c b ρ fs=r:=by
 unfold owh;rw[hN];exact e
theorem UP(h:c ρ fs=some (false,fs')):Jx c b (f+1) ρ fs=some (.nx ρ fs'):=by unfold Jx;rw[h];rfl
theorem zbV(h:c ρ fs=some (true,fs'))(h2:b ρ fs'=some (.nx ρ2 fs2)):Jx c b (f+1) ρ fs=Jx c b f ρ2 fs2:=by
 rw[Jx,h,Option.bind_some,if_pos rfl,h2]
theorem zgX(h:c ρ fs=some (true,fs'))(h2:b ρ fs'=some (.rt d fs2)):Jx c b (f+1) ρ fs=some (.rt d fs2):=by
 rw[Jx,h,Option.bind_some,if_pos rfl,h2]
end
section
variable{n s k B m:Nat}{st:Q3x}{fi:Q1x}{L:WR}{T F:LNt}{C:LZr}{d:Int}{a:Nat}{r0:Z1x}{CS:AdX}
theorem IV.skip(h:IV n s st fi L T F C d a){u:LNt}{r:Z1x}{c:Rat}(hu:(queue s (L.map (·.1)))[a]?=some u)(hc:c≠0)(e:∀x,x<n->(r x:Rat)=c*zT n st fi u x)(hz:∀k∈C,dt n k r=0):IV n s st fi L T F C d (a+1):=⟨h.rs.skip hu hc e hz,h.pr⟩
theorem IV.keep(h:IV n s st fi L T F C d a){u:LNt}{r cg:Z1x}{c:Rat}{i g:Nat}(hu:(queue s (L.map (·.1)))[a]?=some u)(hc:c≠0)(e:∀x,x<n->(r x:Rat)=c*zT n st fi u x)(hr:Prim n r)(hi:C[i]?=some cg)(hg:F[i]?=some g)(hp:dt n cg r≠0):IV n s st fi (L++[(u,r)]) (T++[g]) (F.eraseIdx i) ((C.eraseIdx i).map λc=>nar (dt n cg r) d (dt n c r) cg c) (dt n cg r) (a+1):=by
 refine⟨?_,λq hq=>?_⟩
 ·have:=h.rs.keep hu hc e hi hg hp;unfold RSL;rw[List.map_append,List.map_append];exact this
 ·rcases List.mem_append.mp hq with z|z
  ·exact h.pr q z
  ·rw[List.mem_singleton.mp z];exact hr
theorem ziA:(QL s r0 L).length=1+L.length*s:=by
 unfold QL;rw[List.length_cons,List.length_flatMap]
 have:(L.map λq=>((List.range s).map λg=>(q.1++[g],q.2)).length)=List.replicate L.length s:=by
  rw[List.eq_replicate_iff];exact⟨by simp,λx hx=>by
   have⟨q,_,e⟩:=List.mem_map.mp hx;rw[<-e];simp⟩
 rw[this,List.sum_replicate_nat];omega
theorem IV.lens(h:IV n s st fi L T F C d a):L.length=T.length/\T.length+F.length=n/\C.length=F.length:=by
 have l1:=h.rs.len;have l2:=h.rs.lenT
 rw[List.length_map,List.length_map] at l1;rw[List.length_map] at l2;exact⟨l2.symm,h.rs.sp.few,h.rs.sp.lenC⟩
theorem U9{ρ:Ro}:zkk CS ρ (RO CS n s st r0 L T F C d a)=some (decide (a<(QL s r0 L).length)&&!decide (F=[]),RO CS n s st r0 L T F C d a):=by
 have e1:gtF (gbo (gop (zes λi j=>decide (i<j)) (gf "asked") (gcall yk (gAC (gg "waiting") gA0)))) ρ (RO CS n s st r0 L T F C d a)=some (decide (a<(QL s r0 L).length),RO CS n s st r0 L T F C d a):=by
  refine za5 (zly ((u7 (zc9 Ys) (y:=.int ((QL s r0 L).length:Int)) ((vm (yI (uA UH) rfl)).trans ?_)).trans ?_))
  ·show some (PyData.int (((QL s r0 L).map (WW n)).length:Int))=_
   rw[List.length_map]
  ·show some (PyData.bool (decide ((a:Int)<((QL s r0 L).length:Int))))=_
   congr 2
   exact decide_eq_decide.mpr (by omega)
 by_cases h:a<(QL s r0 L).length
 ·rw[decide_eq_true h] at e1 ⊢;refine(zmB e1).trans ((zkZ (Zq (zdP Ye zbk rfl za4))).trans ?_);rw[Bool.true_and];show some (_,zJ "span" (.ob CS (spO n T F C d)) (reR _ _ _ _ _ _ _))=_
  rw[Yt];rfl
 ·rw[decide_eq_false h] at e1 ⊢;exact zmJ e1
theorem zhE(b:Bd n s st fi k B m)(z:R0 n fi r0):∀(j fuel a:Nat)(o1 o2:Sl),j<fuel->(QL s r0 L).length - a<=j->IV n s st fi L T F C d a->
  (∃a' o1' o2',Jx (zkk CS) (zkg CS) fuel [.no,o1,o2] (RO CS n s st r0 L T F C d a)=some (.nx [.no,o1',o2'] (RO CS n s st r0 L T F C d a'))/\IV n s st fi L T F C d a'/\((queue s (L.map (·.1))).length<=a'\/F=[]))\/
  ∃(a':Nat)(u:LNt)(r:Z1x)(c:Rat)(i:Nat)(cg:Z1x)(g:Nat),IV n s st fi L T F C d a'/\(queue s (L.map (·.1)))[a']?=some u/\F≠[]/\c≠0/\(∀x,x<n->(r x:Rat)=c*zT n st fi u x)/\Prim n r/\
   IV n s st fi (L++[(u,r)]) (T++[g]) (F.eraseIdx i) ((C.eraseIdx i).map λc=>nar (dt n cg r) d (dt n c r) cg c) (dt n cg r) (a'+1)/\
   Jx (zkk CS) (zkg CS) fuel [.no,o1,o2] (RO CS n s st r0 L T F C d a)=some (.rt (yd n r) (RO CS n s st r0 (L++[(u,r)]) (T++[g]) (F.eraseIdx i) ((C.eraseIdx i).map λc=>nar (dt n cg r) d (dt n c r) cg c) (dt n cg r) (a'+1))):=by
 have eql:(queue s (L.map (·.1))).length=(QL s r0 L).length:=by rw[zcK s r0,List.length_map]
 intro j;induction j with
 |zero=>
  intro fuel a o1 o2 hf hj h;obtain⟨f,rfl⟩:∃f,fuel=f+1:=⟨fuel - 1,by omega⟩;refine .inl ⟨a,o1,o2,UP (U9.trans ?_),h,.inl (by omega)⟩;rw[decide_eq_false (by omega),Bool.false_and]
 |succ j ih=>
  intro fuel a o1 o2 hf hj h;obtain⟨f,rfl⟩:∃f,fuel=f+1:=⟨fuel - 1,by omega⟩;by_cases ha:a<(QL s r0 L).length
  ·by_cases hF:F=[]
   ·refine .inl ⟨a,o1,o2,UP (U9.trans ?_),h,.inr hF⟩;rw[decide_eq_true hF,Bool.not_true,Bool.and_false]
   ·have et:zkk CS [.no,o1,o2] (RO CS n s st r0 L T F C d a)=some (true,RO CS n s st r0 L T F C d a):=U9.trans (by rw[decide_eq_true ha,decide_eq_false hF];rfl);obtain⟨q,hq⟩:∃q,(QL s r0 L)[a]?=some q:=⟨_,List.getElem?_eq_getElem ha⟩;have hu:(queue s (L.map (·.1)))[a]?=some q.1:=by rw[zcK s r0,List.getElem?_map,hq];rfl
    have⟨l1,l2,l3⟩:=h.lens;have hn:=b.hn;have hs:=b.hs
    have⟨u1,u2⟩:=zjD h.rs b.hs0 hu hF;have hrow:∃(r:Z1x)(c:Rat),Uq (RO CS n s st r0 L T F C d a) [yZ q.1,yd n q.2]=some (yd n r,RO CS n s st r0 L T F C d a)/\c≠0/\(∀x,x<n->(r x:Rat)=c*zT n st fi q.1 x)/\Prim n r:=by
     have hm:q∈QL s r0 L:=List.mem_of_getElem? hq;unfold QL at hm;rcases List.mem_cons.mp hm with w|w
     ·subst w;have⟨c,hc,hr⟩:=z.ex;exact⟨r0,c,zg5,hc,hr,z.pr⟩
     ·have⟨q',hq',w⟩:=List.mem_flatMap.mp w;have⟨g,hg,w⟩:=List.mem_map.mp w;subst w;have⟨c,hc,hr⟩:=h.mult hq';exact zgA (v:=q'.1) (p:=q'.2) b (List.mem_range.mp hg) (λx hx=>h.abs b hq' x hx) hc hr
    have⟨r,c,er,hc,hr,hp⟩:=hrow;have hM:=b.hw q.1 u2 (Nat.le_sub_one_of_lt u1);have habs:∀x,x<n->(r x).natAbs<=B:=by
     obtain⟨M,zz,hM,hz⟩:=hM;exact ZH hp hc hr hM hz
    have ew:∀ρ:Ro,gop ixD (gg "waiting") (gf "asked") ρ (RO CS n s st r0 L T F C d a)=some (WW n q):=λρ=>(u7 (uA UH) (zc9 Ys)).trans (W8 (by rw[List.getElem?_map,hq];rfl))
    have s1:zkg CS [.no,o1,o2] (RO CS n s st r0 L T F C d a)=Z3 (gvF (gmn CS "span" "take" UL (gAC (λρ x=>gv 2 ρ) gA0))) (osq (oex (gms "keep" Wd (gAC (λρ x=>gv 1 ρ) (gAC (λρ x=>gv 2 ρ) gA0)))) (oret λρ x=>gv 2 ρ)) os0 [.no,.pu (yZ q.1),.pu (yd n r)] (RO CS n s st r0 L T F C d (a+1)):=by
     refine(zY (uF (d:=yZ q.1) ((u7 (ew _) rfl).trans rfl))).trans ?_;refine(zY (zbE (wM zl1 (yI rfl (yI ((u7 (ew _) rfl).trans rfl) rfl)) er))).trans ?_;refine(zY (zbf (d:=zD (a+1)) ((u7 (zc9 Ys) rfl).trans rfl) (by show 6<1000;omega))).trans ?_;show Z3 _ _ _ _ (zJ "asked" (.pu (zD (a+1))) (reR _ _ _ _ _ _ _))=_
     rw[zgq];rfl
    rcases zi7 (n:=n) (T:=T) (F:=F) (C:=C) (d:=d) (r:=r) (by omega) l3 (by omega) (by omega) (b.check h) (λx hx=>Nat.le_trans (b.bits (habs x hx)) (by decide)) h.rs.sp.d0 (b.pivot h) with⟨hz,e⟩|⟨i,cg,g,hi,hg,hnz,e⟩
    ·have s2:zkg CS [.no,o1,o2] (RO CS n s st r0 L T F C d a)=some (.nx [.no,.pu (yZ q.1),.pu (yd n r)] (RO CS n s st r0 L T F C d (a+1))):=by
      refine s1.trans ((zhh (Zq (zdP Ye zfG (yI rfl rfl) e))).trans ?_);show some (Flo.nx _ (zJ "span" (.ob CS (spO n T F C d)) (reR _ _ _ _ _ _ _)))=_
      rw[Yt];rfl
     rw[zbV et s2];exact ih f (a+1) _ _ (by omega) (by omega) (h.skip hu hc hr hz)
    ·right
     refine⟨a,q.1,r,c,i,cg,g,h,hu,hF,hc,hr,hp,h.keep hu hc hr hp hi hg hnz,zgX et (s1.trans ((zhk (Zq (zdP Ye zfG (yI rfl rfl) e))).trans ?_))⟩;show osq _ _ _ (zJ "span" (.ob CS (spO n _ _ _ _)) (reR _ _ _ _ _ _ _))=_
     rw[Yt];have hql:(QL s r0 L).length<=1000000:=by
      rw[ziA]
      have:L.length*s<=42*42:=Nat.mul_le_mul (by omega) hs;omega
     refine(zY (zl6 (wM zkn (yI rfl (yI rfl rfl)) (zjz (s:=s) (by simp) (by omega) (by omega) (by rw[List.length_map];omega) (by rw[List.length_map];omega) (by rw[List.length_map];exact hql))))).trans ((ve rfl).trans ?_);unfold RO;rw[zjR,List.map_append,List.map_append,List.map_append,List.map_map];rfl
  ·refine .inl ⟨a,o1,o2,UP (U9.trans ?_),h,.inl (by omega)⟩;rw[decide_eq_false ha,Bool.false_and]
theorem JX(b:Bd n s st fi k B m)(z:R0 n fi r0)(h:IV n s st fi L T F C d a):(∃a',xf CS (RO CS n s st r0 L T F C d a) []=some (.none,RO CS n s st r0 L T F C d a')/\IV n s st fi L T F C d a'/\((queue s (L.map (·.1))).length<=a'\/F=[]))\/
  ∃(a':Nat)(u:LNt)(r:Z1x)(c:Rat)(i:Nat)(cg:Z1x)(g:Nat),IV n s st fi L T F C d a'/\(queue s (L.map (·.1)))[a']?=some u/\F≠[]/\c≠0/\(∀x,x<n->(r x:Rat)=c*zT n st fi u x)/\Prim n r/\
   IV n s st fi (L++[(u,r)]) (T++[g]) (F.eraseIdx i) ((C.eraseIdx i).map λc=>nar (dt n cg r) d (dt n c r) cg c) (dt n cg r) (a'+1)/\
   xf CS (RO CS n s st r0 L T F C d a) []=some (yd n r,RO CS n s st r0 (L++[(u,r)]) (T++[g]) (F.eraseIdx i) ((C.eraseIdx i).map λc=>nar (dt n cg r) d (dt n c r) cg c) (dt n cg r) (a'+1)):=by
 have⟨l1,l2,l3⟩:=h.lens;have hn:=b.hn;have hql:(QL s r0 L).length<1000000:=by
  rw[ziA]
  have:L.length*s<=42*42:=Nat.mul_le_mul (by omega) b.hs;omega
 have key:=zhE (CS:=CS) b z (QL s r0 L).length 1000000 a .no .no hql (Nat.sub_le _ _) h;generalize hN:(1000000:Nat)=N at key;rcases key with⟨a',o1,o2,e,h',hd⟩|⟨a',u,r,c,i,cg,g,h1,h2,h3,h4,h5,h6,h7,e⟩
 ·exact .inl ⟨a',UC rfl ((zY (Ze hN e)).trans (ve rfl)),h',hd⟩
 ·exact .inr ⟨a',u,r,c,i,cg,g,h1,h2,h3,h4,h5,h6,h7,UC rfl (Wk (Ze hN e))⟩
end
theorem difference_eq{n m s k:Nat}{fi gi:Q1x}{st su:Q3x}{la lb:Q1x}(B:Mach m s gi su lb k)(hk:k<=400)(hn:n<=42)(hm:m<=42)(hs:s<=42):vM [zr n s fi st la,zr m s gi su lb]=some (zr (n+m) s (jn n fi gi) (xr n st su) (jn n la λi=>lb i*(-1))):=by
 refine zM rfl ((zx (Zx ((zb rfl).trans jY))).trans (zy ((zb (zk rfl (zk (WM ((zf rfl rfl).trans xQ) ((zf rfl rfl).trans vE) ((zb (zk ((zf rfl rfl).trans uv) rfl)).trans (wY (c:=-1) (by omega) (λi hi=>(B.la i hi).bq hk) ⟨by decide,by decide⟩))) rfl))).trans (zaP hn hm hs))))
theorem zii{ga:OLx}{ρ:Ro}{fs:Ob}{ds:LPd}(e:ga ρ fs=some ds)(hl:ds.length<=16777216):gtp ga ρ fs=some (.tuple ds):=by unfold gtp;rw[e,Option.bind_some,if_pos hl]
theorem zhV{h:OPx}{ρ:Ro}{fs:Ob}{d:PdX}(e:h ρ fs=some d):ZK h ρ fs=some (.rf d):=by unfold ZK;rw[e];rfl
theorem zlp{f:OPx}{l h:Ro->Option (Option Int)}{ρ:Ro}{fs:Ob}{ds:LPd}{lo hi:Option Int}(e:f ρ fs=some (.list ds))(e1:l ρ=some lo)(e2:h ρ=some hi):gsl f l h ρ fs=some (cut ds lo hi):=by unfold gsl;rw[e];dsimp only;rw[e1,Option.bind_some,e2];rfl
theorem zeg{f:OLx}{ρ:Ro}{fs:Ob}{ds:LPd}(e:f ρ fs=some ds):glF f ρ fs=some (.list ds):=by unfold glF;rw[e];rfl
theorem zjV(xs:LPd)(x:PdX):ixD (.list (xs++[x])) (.int (-1))=some x:=by
 show atI (xs++[x]) (-1)=_
 unfold atI ixN;rw[if_neg (by omega),List.length_append,List.length_singleton,if_pos (by omega),Option.bind_some,show(-1+((xs.length+1:Nat):Int)).toNat=xs.length by omega,List.getElem?_append_right (Nat.le_refl _),Nat.sub_self];rfl
theorem zhD(xs:LPd)(x:PdX):cut (xs++[x]) none (some (-1))=xs:=by
 unfold cut HT.sIx;dsimp only;rw[if_pos (by omega),List.length_append,List.length_singleton,show(-1+((xs.length+1:Nat):Int)).toNat=xs.length by omega,List.drop_zero,Nat.sub_zero,List.take_append_of_le_length (Nat.le_refl _),List.take_length]
section
variable{n s k B m:Nat}{st:Q3x}{fi la:Q1x}{L:WR}{T F:LNt}{C:LZr}{d:Int}{a:Nat}{r0 rl:Z1x}{CS:AdX}
def zcl(n s:Nat)(st:Q3x)(fi la:Q1x)(L:WR):Prop:=∃T F C d a,IV n s st fi L T F C d a/\((queue s (L.map (·.1))).length<=a\/F=[])/\∀q∈L,wt n st fi la q.1=0
def zjN(n s:Nat)(st:Q3x)(fi la:Q1x)(L:WR)(u:LNt):Prop:=∃T F C d a,IV n s st fi L T F C d a/\(queue s (L.map (·.1)))[a]?=some u/\F≠[]/\(∀q∈L,wt n st fi la q.1=0)/\wt n st fi la u≠0
theorem zhm(b:Bd n s st fi k B m)(z:R0 n fi r0){cl:Rat}(hcl:cl≠0)(hl:∀x,x<n->(rl x:Rat)=cl*la x)(hlb:∀x,x<n->intBits (rl x)<=4000){d0 d1 d2:PdX}:∀(j fuel:Nat)(L:WR)(T F:LNt)(C:LZr)(d:Int)(a:Nat)(o:Sl),F.length<=j->j+1<fuel->IV n s st fi L T F C d a->(∀q∈L,wt n st fi la q.1=0)->
  ∃ρ1 fs1,osm 5 (gms "onward" (xf CS) gA0) [.pu d0,.pu d1,.pu d2,.pu (yd n rl),.no,o] (RO CS n s st r0 L T F C d a)=some (.nx ρ1 fs1)/\
   ((∃(L':WR)(T' F':LNt)(C':LZr)(d':Int)(a':Nat)(ρ2:Ro),Jx zfO (zgt CS) fuel ρ1 fs1=some (.nx ρ2 (RO CS n s st r0 L' T' F' C' d' a'))/\zcl n s st fi la L')\/
    (∃(L':WR)(u:LNt)(fs2:Ob),Jx zfO (zgt CS) fuel ρ1 fs1=some (.rt (.tuple [yZ u,.list (L'.map λq=>yd n q.2)]) fs2)/\zjN n s st fi la L' u)):=by
 intro j;induction j with
 |zero=>
  intro fuel L T F C d a o hF hf h h0;have hF':F=[]:=List.length_eq_zero_iff.mp (by omega);obtain⟨f,rfl⟩:∃f,fuel=f+1:=⟨fuel - 1,by omega⟩;rcases JX (CS:=CS) b z h with⟨a',e,h',hd⟩|⟨a',u,r,c,i,cg,g,h1,h2,h3,_⟩
  ·exact⟨_,_,zbE (wM vS rfl e),.inl ⟨L,T,F,C,d,a',_,UP (za5 (zA rfl)),T,F,C,d,a',h',hd,h0⟩⟩
  ·exact absurd hF' h3
 |succ j ih=>
  intro fuel L T F C d a o hF hf h h0;obtain⟨f,rfl⟩:∃f,fuel=f+1:=⟨fuel - 1,by omega⟩;rcases JX (CS:=CS) b z h with⟨a',e,h',hd⟩|⟨a',u,r,c,i,cg,g,h1,h2,h3,h4,h5,h6,h7,e⟩
  ·exact⟨_,_,zbE (wM vS rfl e),.inl ⟨L,T,F,C,d,a',_,UP (za5 (zA rfl)),T,F,C,d,a',h',hd,h0⟩⟩
  ·refine⟨_,_,zbE (wM vS rfl e),?_⟩;have hn:=b.hn;have et:zfO [.pu d0,.pu d1,.pu d2,.pu (yd n rl),.no,.pu (yd n r)] (RO CS n s st r0 (L++[(u,r)]) (T++[g]) (F.eraseIdx i) ((C.eraseIdx i).map λc=>nar (dt n cg r) d (dt n c r) cg c) (dt n cg r) (a'+1))=some (true,RO CS n s st r0 (L++[(u,r)]) (T++[g]) (F.eraseIdx i) ((C.eraseIdx i).map λc=>nar (dt n cg r) d (dt n c r) cg c) (dt n cg r) (a'+1)):=za5 (zA rfl)
   have hb:∀x,x<n->(r x).natAbs<=B:=λx hx=>h7.abs b (q:=(u,r)) (List.mem_append.mpr (.inr (List.mem_singleton.mpr rfl))) x hx
   have ew:=zej (n:=n) (f:=r) (g:=rl) (by omega) λx hx=>⟨Nat.le_trans (b.bits (hb x hx)) (by decide),Nat.le_trans (hlb x hx) (by decide)⟩
   have hv:((dt n r rl:Int):Rat)=wt n st fi la u*(c*cl):=by
    show((yg n (λx=>r x*rl x):Int):Rat)=_
    rw[JF];unfold wt;rw[<-zG];exact zd n λx hx=>by
     rw[Rat.intCast_mul,h5 x hx,hl x hx];grind
   have ebl:zK (op2 neD (zh yb (aC (gv 5) (aC (gv 3) a0))) (cst (PyData.int 0))) [.pu d0,.pu d1,.pu d2,.pu (yd n rl),.no,.pu (yd n r)]=some (!decide (dt n r rl=0)):=zA ((zf ((zb rfl).trans ew) rfl).trans (JW _ 0));by_cases hz:dt n r rl=0
   ·rw[decide_eq_true hz] at ebl;have hw0:wt n st fi la u=0:=by
     rw[hz] at hv;rcases Rat.mul_eq_zero.mp (show wt n st fi la u*(c*cl)=0 from hv.symm) with q|q
     ·exact q
     ·rcases Rat.mul_eq_zero.mp q with q|q
      ·exact absurd q h4
      ·exact absurd q hcl
    obtain⟨hi,_⟩:i<F.length/\True:=by
     refine⟨?_,trivial⟩;refine Classical.byContradiction λq=>?_
     have hl1:=h7.lens;have hl2:=h1.lens
     rw[List.length_eraseIdx,if_neg q,List.length_append,List.length_singleton] at hl1;omega
    have hF1:(F.eraseIdx i).length<=j:=by rw[List.length_eraseIdx,if_pos hi];omega
    obtain⟨ρ1,fs1,e1,e2⟩:=ih f (L++[(u,r)]) (T++[g]) (F.eraseIdx i) _ _ (a'+1) (.pu (yd n r)) hF1 (by omega) h7 (λq hq=>by
     rcases List.mem_append.mp hq with w|w
     ·exact h0 q w
     ·rw[List.mem_singleton.mp w];exact hw0)
    have eb:zgt CS [.pu d0,.pu d1,.pu d2,.pu (yd n rl),.no,.pu (yd n r)] (RO CS n s st r0 (L++[(u,r)]) (T++[g]) (F.eraseIdx i) ((C.eraseIdx i).map λc=>nar (dt n cg r) d (dt n c r) cg c) (dt n cg r) (a'+1))=some (.nx ρ1 fs1):=(zY ((ziF ebl).trans rfl)).trans e1;rcases e2 with⟨L',T',F',C',d',a2,ρ2,e3,w⟩|⟨L',u',fs2,e3,w⟩
    ·exact .inl ⟨L',T',F',C',d',a2,ρ2,(zbV et eb).trans e3,w⟩
    ·exact .inr ⟨L',u',fs2,(zbV et eb).trans e3,w⟩
   ·rw[decide_eq_false hz] at ebl;refine .inr ⟨L,u,_,zgX et (Wk ((zhT ebl).trans (ve ?_))),T,F,C,d,a',h1,h2,h3,h0,λq=>?_⟩
    ·refine zii (yI (d:=yZ u) ((u7 (uA zcZ) rfl).trans ?_) (yI (d:=.list (L.map λq=>yd n q.2)) ?_ rfl)) (by show 2<=16777216;omega)
     ·rw[List.map_append];exact zjV _ _
     ·refine(zeg (zlp (lo:=none) (hi:=some (-1)) (uA zbc) rfl rfl)).trans ?_;rw[List.map_append];exact congrArg some (congrArg PyData.list (zhD _ _))
    ·rw[q,Rat.zero_mul] at hv;exact hz (by exact_mod_cast hv)
theorem zcG{x y:PdX}{k0 l0:Nat}(hd:vM [x,y]=some (zr n s fi st la))(b:Bd n s st fi k B m)(hf:∀i,i<n->Sk k0 (fi i))(hk0:k0<=399)(hla:∀i,i<n->Sk l0 (la i))(hl0:l0<=399):(∃L,jq CS [x,y]=some (.tuple [.none,.list (L.map λq=>yd n q.2)])/\zcl n s st fi la L)\/
  ∃L u,jq CS [x,y]=some (.tuple [yZ u,.list (L.map λq=>yd n q.2)])/\zjN n s st fi la L u:=by
 obtain⟨rl,cl,el,hcl,hl,hp⟩:=zjn (n:=n) (f:=la) b.hn hl0 hla;obtain⟨r0,e0,z⟩:=zdf (CS:=CS) (la:=la) b (λi hi=>(hf i hi).inb hk0) (yN k0) (zhQ hk0);have hlb:∀x,x<n->intBits (rl x)<=4000:=λx hx=>by
  have h6:0<6 ^ l0:=yN l0;refine vh (Nat.lt_of_le_of_lt (ZH (B:=2 ^ (8*l0)) (M:=((6 ^ l0:Nat):Rat)) (z:=λx=>jj (la x) (6 ^ l0)) hp hcl hl (xG h6) (λx hx=>⟨jo (hla x hx).den,Zb (hla x hx) (Nat.dvd_refl _) (jo (hla x hx).den)⟩) x hx) (Nat.pow_lt_pow_right (by decide) (by omega)))
 have h0:IV n s st fi [] [] (List.range n) ((List.range n).map xc) 1 0:=⟨ziz,λq hq=>by cases hq⟩;have hn:=b.hn
 obtain⟨ρ1,fs1,e1,e2⟩:=zhm (CS:=CS) b z hcl hl hlb (d0:=x) (d1:=y) (d2:=zr n s fi st la) n 1000 [] [] (List.range n) ((List.range n).map xc) 1 0 .no (by rw[List.length_range];omega) (by omega) h0 (λq hq=>by cases hq);have en:fnw (vL CS) (aC (gv 2) a0) [.pu x,.pu y,.pu (zr n s fi st la),.pu (yd n rl),.no,.no]=some (RO CS n s st r0 [] [] (List.range n) ((List.range n).map xc) 1 0):=by
  unfold fnw;show(some [zr n s fi st la]).bind _=_
  rw[Option.bind_some,e0]
 generalize hN:(1000:Nat)=N at e2;have start:∀res,zdH 4 (fnw (vL CS) (aC (gv 2) a0)) (osq (osm 5 (gms "onward" (xf CS) gA0)) (osq (owh (λx x_1=>1000) zfO (zgt CS)) (ZK (gtp (gAC (λρ x=>cst PyData.none ρ) (gAC (gg "rows") gA0)))))) [.pu x,.pu y,.pu (zr n s fi st la),.pu (yd n rl),.no,.no]=some (.rt res)->jq CS [x,y]=some res:=λres e=>
  zM rfl ((zx (zQ ((zb rfl).trans hd))).trans ((zx (zQ ((zb (zk ((zf rfl rfl).trans uv) rfl)).trans (zcJ el)))).trans e))
 rcases e2 with⟨L',T',F',C',d',a',ρ2,e3,w⟩|⟨L',u,fs2,e3,w⟩
 ·refine .inl ⟨L',start _ ?_,w⟩;unfold zdH;rw[en,Option.bind_some,if_pos (by show 4<6;omega)];have e4:osq (osm 5 (gms "onward" (xf CS) gA0)) (osq (owh (λx x_1=>1000) zfO (zgt CS)) (ZK (gtp (gAC (λρ x=>cst PyData.none ρ) (gAC (gg "rows") gA0))))) [.pu x,.pu y,.pu (zr n s fi st la),.pu (yd n rl),.no,.no] (RO CS n s st r0 [] [] (List.range n) ((List.range n).map xc) 1 0)=some (.rf (.tuple [.none,.list (L'.map λq=>yd n q.2)])):=by
   exact(zY e1).trans ((zY (Ze hN e3)).trans (zhV (zii (yI rfl (yI (uA zbc) rfl)) (by show 2<=16777216;omega))))
  show(match osq _ _ [.pu x,.pu y,.pu (zr n s fi st la),.pu (yd n rl),.no,.no] _ with |some (.rt d _)=>some (Fl.rt d)|some (.rf d)=>some (.rt d)|_=>none)=_
  rw[e4]
 ·refine .inr ⟨L',u,start _ ?_,w⟩;unfold zdH;rw[en,Option.bind_some,if_pos (by show 4<6;omega)];have e4:osq (osm 5 (gms "onward" (xf CS) gA0)) (osq (owh (λx x_1=>1000) zfO (zgt CS)) (ZK (gtp (gAC (λρ x=>cst PyData.none ρ) (gAC (gg "rows") gA0))))) [.pu x,.pu y,.pu (zr n s fi st la),.pu (yd n rl),.no,.no] (RO CS n s st r0 [] [] (List.range n) ((List.range n).map xc) 1 0)=some (.rt (.tuple [yZ u,.list (L'.map λq=>yd n q.2)]) fs2):=(zY e1).trans (Wk (Ze hN e3));show(match osq _ _ [.pu x,.pu y,.pu (zr n s fi st la),.pu (yd n rl),.no,.no] _ with |some (.rt d _)=>some (Fl.rt d)|some (.rf d)=>some (.rt d)|_=>none)=_
  rw[e4]
theorem zjN.first{u:LNt}(h:zjN n s st fi la L u)(hs:0<s):wt n st fi la u≠0/\u.length<n/\(∀g∈u,g<s)/\∀w,(∀g∈w,g<s)->cd s w<cd s u->wt n st fi la w=0:=by
 have⟨T,F,C,d,a,h1,h2,h3,h4,h5⟩:=h;obtain⟨w1,w2,w3⟩:=h1.rs.first (la:=la) hs h2 h3 λv hv=>by
  obtain⟨q,hq,rfl⟩:=List.mem_map.mp hv;exact h4 q hq
 exact⟨h5,w2,w3,w1⟩
end
section
variable{n s k B m:Nat}{st:Q3x}{fi la:Q1x}{r0:Z1x}{CS:AdX}
abbrev wrT(CS:AdX):Ro->Ob->Option (Bool×Ob):=zic (gms "onward" (xf CS) gA0)
theorem zfH{i:Nat}{f:Ro->Option Ob}{g:OFx}{ρ:Ro}{gs fs:Ob}{d:PdX}(h1:f ρ=some gs)(hi:i<ρ.length)(h2:g (ρ.set i .no) gs=some (.rt d fs)):zdH i f g ρ=some (.rt d):=by
 unfold zdH;rw[h1,Option.bind_some,if_pos hi,h2]
theorem zjq{y:Str}{C2:AdX}{f:Ro->Option Ob}{ρ:Ro}{gs hs:Ob}(h1:f ρ=some gs)(h2:fld y gs=some (.ob C2 hs)):zhg y C2 f ρ=some hs:=by
 unfold zhg;rw[h1,Option.bind_some,h2];exact if_pos rfl
theorem zbo{h:Ro->Ob->Option (PyData×Ob)}{ρ:Ro}{fs fs':Ob}{d:PdX}(e:h ρ fs=some (d,fs')):zic h ρ fs=some (!isNone d,fs'):=by unfold zic;rw[e];rfl
theorem zi6(b:Bd n s st fi k B m)(z:R0 n fi r0){ρ:Ro}:∀(j fuel:Nat)(L:WR)(T F:LNt)(C:LZr)(d:Int)(a:Nat),F.length<=j->j<fuel->IV n s st fi L T F C d a->
  ∃L' T' F' C' d' a',Jx (wrT CS) os0 fuel ρ (RO CS n s st r0 L T F C d a)=some (.nx ρ (RO CS n s st r0 L' T' F' C' d' a'))/\IV n s st fi L' T' F' C' d' a'/\((queue s (L'.map (·.1))).length<=a'\/F'=[]):=by
 intro j;induction j with
 |zero=>
  intro fuel L T F C d a hF hf h;have hF':F=[]:=List.length_eq_zero_iff.mp (by omega);obtain⟨f,rfl⟩:∃f,fuel=f+1:=⟨fuel - 1,by omega⟩;rcases JX (CS:=CS) b z h with⟨a',e,h',hd⟩|⟨a',u,r,c,i,cg,g,h1,h2,h3,_⟩
  ·exact⟨L,T,F,C,d,a',UP (zbo (wM vS rfl e)),h',hd⟩
  ·exact absurd hF' h3
 |succ j ih=>
  intro fuel L T F C d a hF hf h;obtain⟨f,rfl⟩:∃f,fuel=f+1:=⟨fuel - 1,by omega⟩;rcases JX (CS:=CS) b z h with⟨a',e,h',hd⟩|⟨a',u,r,c,i,cg,g,h1,h2,h3,h4,h5,h6,h7,e⟩
  ·exact⟨L,T,F,C,d,a',UP (zbo (wM vS rfl e)),h',hd⟩
  ·have hi:i<F.length:=by
    refine Classical.byContradiction λq=>?_
    have hl1:=h7.lens;have hl2:=h1.lens
    rw[List.length_eraseIdx,if_neg q,List.length_append,List.length_singleton] at hl1;omega
   have hF1:(F.eraseIdx i).length<=j:=by rw[List.length_eraseIdx,if_pos hi];omega
   obtain⟨L',T',F',C',d',a2,e2,w1,w2⟩:=ih f _ _ _ _ _ _ hF1 (by omega) h7;exact⟨L',T',F',C',d',a2,(zbV (ρ2:=ρ) (zbo (wM vS rfl e)) rfl).trans e2,w1,w2⟩
theorem YY{k0:Nat}(b:Bd n s st fi k B m)(hf:∀i,i<n->InB k0 (2 ^ 3192) (fi i))(hk0:0<k0)(hk:k0<=2 ^ 3192):∃r0 L T F C d a,xC CS [zr n s fi st la]=some (RO CS n s st r0 L T F C d a)/\IV n s st fi L T F C d a/\((queue s (L.map (·.1))).length<=a\/F=[]):=by
 obtain⟨r0,e0,z⟩:=zdf (CS:=CS) (la:=la) b hf hk0 hk;have h0:IV n s st fi [] [] (List.range n) ((List.range n).map xc) 1 0:=⟨ziz,λq hq=>by cases hq⟩;have hn:=b.hn
 obtain⟨L,T,F,C,d,a,e,h,hd⟩:=zi6 (CS:=CS) b z (ρ:=[.pu (zr n s fi st la),.no]) n 1000 [] [] (List.range n) ((List.range n).map xc) 1 0 (by rw[List.length_range];omega) (by omega) h0;refine⟨r0,L,T,F,C,d,a,?_,h,hd⟩;generalize hN:(1000:Nat)=N at e;have en:fnw (vL CS) (aC (gv 0) a0) [.pu (zr n s fi st la),.no]=some (RO CS n s st r0 [] [] (List.range n) ((List.range n).map xc) 1 0):=by
  unfold fnw;show(some [zr n s fi st la]).bind _=_
  rw[Option.bind_some,e0]
 have e4:osq (owh (λ_ _=>1000) (wrT CS) os0) os0 [.pu (zr n s fi st la),.no] (RO CS n s st r0 [] [] (List.range n) ((List.range n).map xc) 1 0)=some (.nx [.pu (zr n s fi st la),.no] (RO CS n s st r0 L T F C d a)):=(zY (Ze hN e)).trans rfl;show ziU 1 _ _ [.pu (zr n s fi st la),.no]=_
 unfold ziU;rw[en,Option.bind_some,if_pos (by show 1<2;omega)];show(match osq (owh (λ_ _=>1000) (wrT CS) os0) os0 [.pu (zr n s fi st la),.no] _ with |some (.nx _ gs')=>some gs'|_=>none)=_
 rw[e4]
end
theorem zmm{bd:PyData->Ro->Option Ro}{b:Ro->Ob->Option Fl}{fs:Ob}:∀{ds:LPd} {ρ0:Ro} (P:Nat->Ro->Prop),P 0 ρ0->
  (∀i d ρ,ds[i]?=some d->P i ρ->∃ρ1 ρ2,bd d ρ=some ρ1/\b ρ1 fs=some (.nx ρ2)/\P (i+1) ρ2)->∃ρ',rF bd b fs ds ρ0=some ρ'/\P ds.length ρ'
 |[],ρ0,P,h0,_=>⟨ρ0,rfl,h0⟩
 |d::r,ρ0,P,h0,h=>by
  have⟨ρ1,ρ2,e1,e2,p⟩:=h 0 d ρ0 rfl h0;obtain⟨ρ',e3,p'⟩:=zmm (ds:=r) (ρ0:=ρ2) (λi=>P (i+1)) p λi d ρ e q=>h (i+1) d ρ (by simpa using e) q
  refine⟨ρ',?_,p'⟩;unfold rF;rw[e1,Option.bind_some,e2];exact e3
section
variable{ρ ρ':Ro}{fs:Ob}{f g:Ro->Ob->Option Fl}{ds es:LPd}
theorem zeG(h:f ρ fs=some (.nx ρ')):rsq f g ρ fs=g ρ' fs:=by unfold rsq;rw[h]
theorem zhn{i:Nat}{h:OLx}(e:h ρ fs=some ds):ze3 i h ρ fs=some (.nx (ρ.set i (.ow ds))):=by unfold ze3;rw[e];rfl
theorem zir{i a:Nat}{gi h:OPx}{d:PdX}(h1:gk i ρ=some ds)(h2:h ρ fs=some d)(h3:gi ρ fs=some (.int (a:Int)))(h4:a<ds.length):rsi i gi h ρ fs=some (.nx (ρ.set i (.ow (ds.set a d)))):=by
 unfold rsi zmU;rw[h1,Option.bind_some,h2,Option.bind_some,h3];show((ixN ds.length (a:Int)).bind _).bind _=_
 unfold ixN;rw[if_pos (by omega),Int.toNat_natCast,if_pos (by omega)];rfl
theorem zlo{n m:Nat}{b:Ro->Ob->Option Fl}(hm:ds.length=m)(h:b (.no::(ds.map Sl.pu++List.replicate (n - (m+1)) .no)) fs=some (.rl es)):fnR n m b fs ds=some (.list es):=by
 unfold fnR;rw[if_pos hm,h]
theorem zlC{fi:Ob->Option (List PyData)}{bd:PyData->Ro->Option Ro}{b:Ro->Ob->Option Fl}(h1:fi fs=some ds)(h2:rF bd b fs ds ρ=some ρ'):rfk fi bd b ρ fs=some (.nx ρ'):=by
 unfold rfk;rw[h1,Option.bind_some,h2];rfl
end
theorem ZP{n t:Nat}{f g:Nat->PyData}(h:∀x,x<n->x≠t->g x=f x):((List.range n).map f).set t (g t)=(List.range n).map g:=by
 refine List.ext_getElem? λj=>?_
 rw[List.getElem?_set,List.getElem?_map,List.getElem?_map,List.length_map,List.length_range];by_cases hj:j<n
 ·rw[List.getElem?_range hj];by_cases e:t=j
  ·subst e;rw[if_pos rfl,if_pos hj];rfl
  ·rw[if_neg e];exact congrArg some (h j hj λq=>e q.symm).symm
 ·rw[List.getElem?_eq_none (by simpa using hj)];by_cases e:t=j
  ·subst e;rw[if_pos rfl,if_neg hj];rfl
  ·rw[if_neg e];rfl
theorem zhr{F:LNt}{C:LZr}{d:Int}{p f:Nat}{c:Z1x}(hl:F.length=C.length)(hf:f∉F)(hp:f≠p)(x:Nat):sgm (F++[f]) (C++[c]) d p x=if x=f then -(c p:Rat) / (d:Rat) else sgm F C d p x:=by
 unfold sgm;rw[List.zip_append hl,List.find?_append];by_cases e:x=f
 ·subst e;rw[if_pos rfl,if_neg hp,zck hf];simp
 ·rw[if_neg e]
  have:([f].zip [c]).find? (λq=>q.1==x)=none:=by simp;exact λq=>e q.symm
  rw[this,Option.or_none]
theorem zd5{fr tk ch:LPd}{pv:PdX}:fld "settled_row" (spR fr tk ch pv)=none:=rfl
theorem zel{n:Nat}{R:LZr}{T F:LNt}{C:LZr}{d:Int}(sp:WD.DT.Sp n R T F C d)(hn:n<=42)(hd:intBits d<=8999){t:Nat}(ht:t∈T):uD (spO n T F C d) [zD t]=some (yi n (sgm F C d t)):=by
 have htn:t<n:=(sp.mem t).mp (List.mem_append.mpr (.inl ht));have hfew:=sp.few
 have ndF:=sp.ndF;have hlC:=sp.lenC
 have e1:zjK (vw (aC (cst (.tuple [.int 0,.int 1])) a0)) (gop xP (gcall yk (gAC (gg "free") gA0)) (gcall yk (gAC (gg "taken") gA0))) [.no,.pu (zD t),.no,.no,.no] (spO n T F C d)=some ((List.range n).map λ_=>fr 0):=by
  have e:gop xP (gcall yk (gAC (gg "free") gA0)) (gcall yk (gAC (gg "taken") gA0)) [.no,.pu (zD t),.no,.no,.no] (spO n T F C d)=some (.int (n:Int)):=by
   refine(u7 (x:=.int (F.length:Int)) (y:=.int (T.length:Int)) ((vm (yI (uA Yd) rfl)).trans ?_) ((vm (yI (uA Zs) rfl)).trans ?_)).trans ?_
   ·show some (PyData.int ((F.map zD).length:Int))=_
    rw[List.length_map]
   ·show some (PyData.int ((T.map zD).length:Int))=_
    rw[List.length_map]
   ·show some (PyData.int ((F.length:Int)+(T.length:Int)))=_
    rw[<-hfew];congr 2;omega
  unfold zjK;rw[e];show(some [fr 0]).bind _=_
  rw[Option.bind_some];dsimp only;rw[if_pos ⟨by omega,by omega,by simp;omega⟩,Int.toNat_natCast,Vs]
 have e2:((List.range n).map λ_=>fr 0).set t (fr 1)=(List.range n).map λx=>fr (sgm [] [] d t x):=by
  have:=ZP (n:=n) (t:=t) (f:=λ_=>fr 0) (g:=λx=>fr (sgm [] [] d t x)) λx _ hx=>by
   show fr (if x=t then 1 else 0)=_
   rw[if_neg hx]
  rw[<-this,show sgm [] [] d t t=1 from if_pos rfl]
 have ez:gzf "free" "checks" (spO n T F C d)=some (Jk (F.map zD) (C.map (yd n))):=by
  unfold gzf;rw[show fld "free" (spO n T F C d)=some (.ow (F.map zD)) from Yd,show fld "checks" (spO n T F C d)=some (.ow (C.map (yd n))) from JY]
 obtain⟨ρ',er,o1,o2,rfl⟩:=zmm (bd:=b2 (bN 3) (bN 4)) (b:=rsi 2 (λρ x=>gv 3 ρ) (gcall ud (gAC (λρ x=>op1 ZF (op2 ixD (gv 4) (gv 1)) ρ) (gAC (gf "pivot") gA0)))) (fs:=spO n T F C d) (ds:=Jk (F.map zD) (C.map (yd n)))
  (ρ0:=[.no,.pu (zD t),.ow ((List.range n).map λx=>fr (sgm [] [] d t x)),.no,.no]) (λi ρ=>∃o1 o2,ρ=[.no,.pu (zD t),.ow ((List.range n).map λx=>fr (sgm (F.take i) (C.take i) d t x)),o1,o2]) ⟨.no,.no,rfl⟩
  (λi dd ρ hd' ⟨o1,o2,e⟩=>by
   subst e;obtain⟨x,y,hx,hy,rfl⟩:=zcQ hd';rw[List.getElem?_map] at hx hy;obtain⟨f,hf,rfl⟩:=map_some hx;obtain⟨c,hc,rfl⟩:=map_some hy;have⟨hfn,hfT⟩:=sp.free hf;have hi:i<F.length:=(List.getElem?_eq_some_iff.mp hf).1;have nf:f∉F.take i:=λq=>by
    obtain⟨j,hj⟩:=List.getElem?_of_mem q;have hji:j<i:=by
     have:=(List.getElem?_eq_some_iff.mp hj).1;rw[List.length_take] at this;omega
    rw[List.getElem?_take_of_lt hji] at hj;exact zcU ndF hj hf (by omega) rfl
   refine⟨_,_,rfl,zir (a:=f) (d:=fr (-(c t:Rat) / (d:Rat))) rfl ?_ rfl (by rw[List.length_map,List.length_range];exact hfn),.pu (zD f),.pu (yd n c),?_⟩
   ·refine(vm (yI (d:=.int (-(c t))) ((zlD (show op2 ixD (gv 4) (gv 1) [.no,.pu (zD t),.ow _,.pu (zD f),.pu (yd n c)]=some (.int (c t)) from(zf (x:=yd n c) (y:=zD t) rfl rfl).trans (JD (d:=λx=>.int (c x)) htn))).trans rfl) (yI (zc9 zcv) rfl))).trans ((Wc sp.d0 hd).trans (congrArg (λq=>some (fr q)) ?_));rw[Rat.divInt_eq_div,Rat.intCast_neg]
   ·have ht2:f≠t:=λq=>hfT (q▸ht)
    rw[List.take_add_one,List.take_add_one,hf,hc];have hs:=zhr (F:=F.take i) (C:=C.take i) (d:=d) (p:=t) (f:=f) (c:=c) (by rw[List.length_take,List.length_take,hlC]) nf ht2
    have:=ZP (n:=n) (t:=f) (f:=λx=>fr (sgm (F.take i) (C.take i) d t x)) (g:=λx=>fr (sgm (F.take i++[f]) (C.take i++[c]) d t x)) λx _ hx=>by
     show fr (sgm (F.take i++[f]) (C.take i++[c]) d t x)=_
     rw[hs x,if_neg hx]
    show[Sl.no,.pu (zD t),.ow (((List.range n).map λx=>fr (sgm (F.take i) (C.take i) d t x)).set f _),.pu (zD f),.pu (yd n c)]=_
    rw[show fr (-(c t:Rat) / (d:Rat))=fr (sgm (F.take i++[f]) (C.take i++[c]) d t f) by rw[hs f,if_pos rfl],this];rfl)
 rw[zcT,List.length_map,List.length_map,hlC,Nat.min_self,List.take_length,<-hlC,List.take_length] at er;refine zlo rfl ?_;refine(zeG (zhn e1)).trans ((zeG (zir (a:=t) (d:=fr 1) rfl rfl rfl (by rw[List.length_map,List.length_range];exact htn))).trans ?_);show rsq _ _ [.no,.pu (zD t),.ow (((List.range n).map λ_=>fr 0).set t (fr 1)),.no,.no] _=_
 rw[e2];exact(zeG (zlC ez er)).trans rfl
theorem VY{n:Nat}{f g:Q1x}(h:∀i,i<n->f i=g i):z9 n f=z9 n g:=by
 unfold z9;congr 1;exact List.map_congr_left λi hi=>by rw[h i (List.mem_range.mp hi)]
theorem zgC{n:Nat}{f g:Q2x}(h:∀a b,a<n->b<n->f a b=g a b):yv n f=yv n g:=by
 unfold yv;congr 1;exact List.map_congr_left λa ha=>VY λb hb=>h a b (List.mem_range.mp ha) hb
theorem zeF{n s:Nat}{fi fi' la la':Q1x}{st st':Q3x}(h1:∀i,i<n->fi i=fi' i)(h2:∀g a b,g<s->a<n->b<n->st g a b=st' g a b)(h3:∀i,i<n->la i=la' i):zr n s fi st la=zr n s fi' st' la':=by
 unfold zr V7;rw[VY h1,VY h3,List.map_congr_left λg hg=>zgC λa b ha hb=>h2 g a b (List.mem_range.mp hg) ha hb]
theorem zgv{α:Type}(f:Nat->α)(l:LNt):l.map f=(List.range l.length).map λi=>f (l.getD i 0):=by
 refine List.ext_getElem? λj=>?_
 rw[List.getElem?_map,List.getElem?_map];by_cases h:j<l.length
 ·rw[List.getElem?_range h,List.getElem?_eq_getElem h];show some (f l[j])=some (f (l.getD j 0))
  rw[List.getD_eq_getElem?_getD,List.getElem?_eq_getElem h];rfl
 ·rw[List.getElem?_eq_none (by omega),List.getElem?_eq_none (by rw[List.length_range];omega)];rfl
theorem zcD:∀T:List Nat,intsOf (T.map zD)=some (T.map λ(x:Nat)=>(x:Int))
 |[]=>rfl
 |x::T=>by
  show(intsOf (T.map zD)).map _=_
  rw[zcD T];rfl
theorem zey(T:LNt):(T.map λ(x:Nat)=>(x:Int)).map Int.toNat=T:=by
 rw[List.map_map];conv=>rhs;rw[<-List.map_id T]
 exact List.map_congr_left λx _=>Int.toNat_natCast x
def srt(T:LNt):List Nat:=(isort (T.map λ(x:Nat)=>(x:Int))).map Int.toNat
theorem ziC(T:LNt):(srt T).Perm T:=by
 have:=(UR (T.map λ(x:Nat)=>(x:Int))).map Int.toNat;rw[zey] at this;exact this
theorem zlV(T:LNt):(isort (T.map λ(x:Nat)=>(x:Int))).map PyData.int=(srt T).map zD:=by
 unfold srt;rw[List.map_map];refine List.map_congr_left λx hx=>?_
 obtain⟨y,_,e⟩:=List.mem_map.mp ((UR _).mem_iff.mp hx);subst e;show PyData.int (y:Int)=.int (((y:Int).toNat:Nat):Int)
 rw[Int.toNat_natCast]
theorem zjE{n:Nat}{R:LZr}{T F:LNt}{C:LZr}{d:Int}{N:Nat}(h:WD.DT.Sp n R T F C d)(h1:d.natAbs<=N)(h2:∀c∈C,∀x,x<n->(c x).natAbs<=N){p:Nat}(hp:p<n)(x:Nat):InB d.natAbs N (sgm F C d p x):=by
 have d0:=h.d0;have hpos:0<d.natAbs:=by omega
 unfold sgm;split
 ·exact⟨hpos,(d.natAbs:Int),by rw[Rat.one_mul,Rat.intCast_natCast],by simpa using h1⟩
 ·split
  ·rename_i q hq;have hm:=(List.of_mem_zip (List.mem_of_find?_eq_some hq)).2;have dz:(d:Rat)≠0:=λz=>d0 (by exact_mod_cast z)
   have hi:=Rat.mul_inv_cancel _ dz;by_cases hd:0<=d
   ·refine⟨hpos,-(q.2 p),?_,by rw[Int.natAbs_neg];exact h2 _ hm p hp⟩;have e:((d.natAbs:Nat):Rat)=(d:Rat):=by rw[<-Rat.intCast_natCast,Int.natAbs_of_nonneg hd]
    rw[e,Rat.intCast_neg,Rat.div_def];grind
   ·refine⟨hpos,q.2 p,?_,h2 _ hm p hp⟩;have e:((d.natAbs:Nat):Rat)=-(d:Rat):=by
     rw[<-Rat.intCast_natCast,<-Rat.intCast_neg];congr 1;omega
    rw[e,Rat.div_def];grind
  ·exact InB.zero hpos
theorem YU{n r:Nat}{f:Q2x}{P:Nat->Nat}{σ:Q2x}{M N M' N':Nat}(hn:n<=42)(hr:r<=42)(hP:∀i,i<r->P i<n)(hM:0<M)(sM:Sz M)(sN:Sz N)(hM':0<M')(sM':Sz M')(sN':Sz N')(hs:∀i a,i<r->InB M N (σ i a))(hf:∀a b,a<n->b<n->InB M' N' (f a b)):jg [yv n f,.list ((List.range r).map λi=>zD (P i)),.list ((List.range r).map λi=>yi n (σ i))]=some (yv r λi j=>sumTo n λa=>σ i a*f a (P j)):=by
 have hl:(List.range r).length<=16777216:=by rw[List.length_range];omega
 refine zM rfl ?_;refine(zx (xj (d:=(List.range r).map λj=>z9 n λa=>f a (P j)) ?_)).trans (zy ?_)
 ·exact zP (xs:=List.range r) (e:=λi=>zD (P i)) (jc rfl) hl λi hi=>yy.trans ((zb rfl).trans (VS (by omega) (hP i (List.mem_range.mp hi))))
 ·refine(zb (xs:=[.list ((List.range r).map λi=>z9 r λj=>sumTo n λa=>σ i a*f a (P j))]) (zk (zZ (zP (xs:=List.range r) (e:=λi=>yi n (σ i)) (jc rfl) hl λi hi=>?_)) rfl)).trans rfl;have hi:=List.mem_range.mp hi;refine yy.trans ((zb (xs:=[.list ((List.range r).map λj=>fr (sumTo n λa=>σ i a*f a (P j)))]) (zk (zZ (zP (xs:=List.range r) (e:=λj=>z9 n λa=>f a (P j)) (jc rfl) hl λj hj=>?_)) rfl)).trans rfl);have hj:=List.mem_range.mp hj
  exact yy.trans ((zb rfl).trans (UN (t:=false) (u:=true) hn hM sM sN hM' sM' sN' (λa _=>hs i a hi) λa ha=>hf a (P j) ha (hP j hj)))
theorem zlr{m:Str}{h:Ob->List PyData->Option PyData}{g:OLx}{ρ:Ro}{fs:Ob}{ds:LPd}(e2:fld m fs=none)(e3:g ρ fs=some ds):gjm m h g ρ fs=h fs ds:=by
 unfold gjm;rw[if_pos (by rw[e2];rfl),e3];rfl
abbrev pl(Ts:LNt):Nat->Nat:=λi=>Ts.getD i 0
abbrev sgs(F:LNt)(C:LZr)(d:Int)(Ts:LNt):Nat->Nat->Rat:=λi=>sgm F C d (Ts.getD i 0)
abbrev rcD(n s:Nat)(st:Q3x)(fi la:Q1x)(r:Nat)(P:Nat->Nat)(σ:Q2x):PyData:=zr r s (Vh P fi) (vz n P σ st) (uq n σ la)
section
variable{n s k B m:Nat}{st:Q3x}{fi la:Q1x}{CS:AdX}
theorem zgH{R:LZr}{T:LNt}{C:LZr}{d:Int}(sp:WD.DT.Sp n R T [] C d):(List.range n).Perm T/\T.length=n/\zr n s fi st la=rcD n s st fi la T.length (pl (List.range n)) (sgs [] C d (List.range n)):=by
 have hl:T.length=n:=by simpa using sp.few
 have hp:(List.range n).Perm T:=by
  have nd:=sp.nd;rw[List.append_nil] at nd;rw[List.perm_ext_iff_of_nodup List.nodup_range nd];intro x
  have:=sp.mem x;rw[List.append_nil] at this;rw[this,List.mem_range]
 have g:∀i,i<n->(List.range n).getD i 0=i:=λi hi=>by
  rw[List.getD_eq_getElem?_getD,List.getElem?_range hi];rfl
 refine⟨hp,hl,?_⟩;rw[hl];have pick:∀i (u:Q1x),i<n->sumTo n (λa=>sgm [] C d ((List.range n).getD i 0) a*u a)=u i:=λi u hi=>by
  rw[yR _ n hi λa _ hne=>by rw[zbz (by simp),g i hi,if_neg hne,Rat.zero_mul],zbz (by simp),g i hi,if_pos rfl,Rat.one_mul]
 refine zeF (λi hi=>?_) (λq a c hq ha hc=>?_) λi hi=>?_
 ·show fi i=fi ((List.range n).getD i 0)
  rw[g i hi]
 ·show st q a c=sumTo n λx=>sgm [] C d ((List.range n).getD a 0) x*st q x ((List.range n).getD c 0)
  rw[pick a (λx=>st q x ((List.range n).getD c 0)) ha,g c hc]
 ·exact(pick i la hi).symm
theorem zij{F:LNt}{ρ:Ro}{x:PdX}{fe:OPx}{fs:Ob}:(bN 0 x (compEnv 1 F ρ)).bind (λρ'=>fe ρ' fs)=fe (.pu x::F.map λj=>(ρ[j]?).getD .no) fs:=rfl
theorem zi2{L:WR}{T F:LNt}{C:LZr}{d:Int}{a:Nat}(b:Bd n s st fi k B m)(iv:IV n s st fi L T F C d a){E:Nat}(hE:(n+1)*(n*B) ^ T.length<=E):d.natAbs<=E/\∀c∈C,∀x,x<n->(c x).natAbs<=E:=by
 have hr:∀r∈(L.map (·.2)).reverse,∀x,x<n->(r x).natAbs<=B:=λr hr x hx=>by
  obtain⟨q,hq,rfl⟩:=List.mem_map.mp (List.mem_reverse.mp hr);exact iv.abs b hq x hx
 have hl:(L.map (·.2)).reverse.length=T.length:=by rw[List.length_reverse,List.length_map];exact iv.lens.1
 have hfew:=iv.rs.sp.few;have h1:=iv.rs.sp.VT (B:=B) (by omega) hr
 rw[hl] at h1;refine⟨Nat.le_trans h1 (Nat.le_trans ?_ hE),λc hc x hx=>?_⟩
 ·exact Nat.le_mul_of_pos_left _ (by omega)
 ·obtain⟨i,hi⟩:=List.getElem?_of_mem hc;have h2:=iv.rs.sp.Wf (B:=B) hfew hr hi x hx;rw[hl] at h2;exact Nat.le_trans h2 (Nat.le_trans (Nat.mul_le_mul_right _ (by omega)) hE)
theorem YK{k0 E Ns l0 Nl:Nat}(b:Bd n s st fi k B m)(hf:∀i,i<n->InB k0 (2 ^ 3192) (fi i))(hk0:0<k0)(hk1:k0<=2 ^ 3192)(hE:∀j,j<n->j<=m->(n+1)*(n*B) ^ j<=E)(sE:Sz E)(hst:∀g a b,g<s->a<n->b<n->InB k Ns (st g a b))(sNs:Sz Ns)(hla:∀i,i<n->InB l0 Nl (la i))(hl0:0<l0)(sl0:Sz l0)(sNl:Sz Nl):∃L T F C d a Ts,IV n s st fi L T F C d a/\((queue s (L.map (·.1))).length<=a\/F=[])/\Ts.Perm T/\ub CS [zr n s fi st la]=some (rcD n s st fi la T.length (pl Ts) (sgs F C d Ts))/\
   ((T.length=n/\∀i x,i<T.length->InB 1 1 (sgs F C d Ts i x))\/(T.length<n/\∃D,0<D/\D<=E/\∀i x,i<T.length->InB D E (sgs F C d Ts i x))):=by
 obtain⟨r0,L,T,F,C,d,a,e,iv,hd⟩:=YY (CS:=CS) (la:=la) b hf hk0 hk1;have hn:=b.hn;have hs:=b.hs
 have hfew:=iv.rs.sp.few;have en:zhg "span" CS (zfI (xC CS) (aC (gv 0) a0)) [.pu (zr n s fi st la),.no,.no,.no,.no,.no,.no]=some (spO n T F C d):=zjq (show zfI (xC CS) (aC (gv 0) a0) _=_ from e) Ye
 by_cases hF:F=[]
 ·subst hF;obtain⟨hp,hl,hD⟩:=zgH (s:=s) (st:=st) (fi:=fi) (la:=la) iv.rs.sp;refine⟨L,T,[],C,d,a,List.range n,iv,hd,hp,?_,.inl ⟨hl,λi x _=>?_⟩⟩
  ·rw[<-hD];refine zM (d:=zr n s fi st la) rfl ?_;exact zfH en (by show 1<7;omega) (Wk ((zhk (Zq ((wM zbk rfl za4).trans (by rw[decide_eq_true rfl])))).trans (ve rfl)))
  ·show InB 1 1 (sgm [] C d _ x)
   rw[zbz (by simp)];split
   ·exact⟨by decide,1,by rw[Rat.one_mul];rfl,by decide⟩
   ·exact InB.zero (by decide)
 ·have hTn:T.length<n:=by
   have:0<F.length:=List.length_pos_iff.mpr hF;omega
  have hTm:=b.hm L T F C d a iv.rs;rw[iv.lens.1] at hTm;obtain⟨z1,z2⟩:=zi2 b iv (hE _ hTn hTm);have hsp:=iv.rs.sp
  have d0:=hsp.d0;have hpm:=ziC T
  have hlen:(srt T).length=T.length:=hpm.length_eq;have mT:∀i,i<T.length->(srt T).getD i 0∈T:=λi hi=>by
   rw[List.getD_eq_getElem?_getD,List.getElem?_eq_getElem (by omega)];exact hpm.mem_iff.mp (List.getElem_mem _)
  have hP:∀i,i<T.length->(srt T).getD i 0<n:=λi hi=>(hsp.mem _).mp (List.mem_append.mpr (.inl (mT i hi)))
  have hσ:∀i x,i<T.length->InB d.natAbs E (sgs F C d (srt T) i x):=λi x hi=>zjE hsp z1 z2 (hP i hi) x
  have hD0:0<d.natAbs:=by omega
  have sD:Sz d.natAbs:=Sz.mono z1 sE;have bd:intBits d<=8999:=Nat.le_trans (sE.bits z1) (by decide)
  refine⟨L,T,F,C,d,a,srt T,iv,hd,hpm,?_,.inr ⟨hTn,d.natAbs,hD0,z1,hσ⟩⟩;have hl:(List.range T.length).length<=16777216:=by rw[List.length_range];omega
  have ePl:gsrt (gg "taken") [.pu (zr n s fi st la),.no,.no,.no,.no,.no,.no] (spO n T F C d)=some ((List.range T.length).map λi=>zD ((srt T).getD i 0)):=by
   unfold gsrt;rw[show gg "taken" [.pu (zr n s fi st la),.no,.no,.no,.no,.no,.no] (spO n T F C d)=some (.list (T.map zD)) from uA Zs];show(intsOf (T.map zD)).bind _=_
   rw[zcD,Option.bind_some,if_pos (by rw[List.length_map];omega),zlV,zgv zD (srt T),hlen]
  generalize hp1:PyData.list ((List.range T.length).map λi=>zD ((srt T).getD i 0))=pD;generalize hq1:PyData.list ((List.range T.length).map λi=>yi n (sgs F C d (srt T) i))=qD;have eSh:Uo 1 [1] (λρ x=>yt (gv 2) ρ) (bN 0) (gjm "settled_row" uD (gAC (λρ x=>gv 0 ρ) gA0)) [.pu (zr n s fi st la),.no,.pu pD,.no,.no,.no,.no] (spO n T F C d)=some ((List.range T.length).map λi=>yi n (sgs F C d (srt T) i)):=by
   refine zay (xs:=List.range T.length) (e:=λi=>zD ((srt T).getD i 0)) (jc (by rw[<-hp1];rfl)) hl λi hi=>?_
   refine zij.trans ((zlr (ds:=[zD ((srt T).getD i 0)]) zd5 ?_).trans (zel hsp hn bd (mT i (List.mem_range.mp hi))));rfl
  have eFi:zh yn (aC (yu (zR 1 [0] (yt (gv 2)) (bN 0) (op2 ixD (op2 ixD (gv 1) (cst (.int 0))) (gv 0)))) a0) [.pu (zr n s fi st la),.no,.pu pD,.pu qD,.no,.no,.no]=some (z9 T.length (Vh (pl (srt T)) fi)):=by
   refine(zb (xs:=[.list ((List.range T.length).map λi=>fr (fi ((srt T).getD i 0)))]) (zk (zZ (zP (xs:=List.range T.length) (e:=λi=>zD ((srt T).getD i 0)) (jc (by rw[<-hp1];rfl)) hl λi hi=>?_)) rfl)).trans rfl;exact yy.trans ((zf ((zf rfl rfl).trans xQ) rfl).trans (Ue (t:=true) (hP i (List.mem_range.mp hi))))
  have eSt:∀o,zh yn (aC (yu (zR 1 [2,3] (yt (op2 ixD (gv 0) (cst (.int 1)))) (bN 0) (zh jg (aC (gv 0) (aC (gv 1) (aC (gv 2) a0)))))) a0) [.pu (zr n s fi st la),.no,.pu pD,.pu qD,o,.no,.no]=some (V7 T.length s (vz n (pl (srt T)) (sgs F C d (srt T)) st)):=λo=>by
   refine(zb (xs:=[.list ((List.range s).map λg=>yv T.length (vz n (pl (srt T)) (sgs F C d (srt T)) st g))]) (zk (zZ (zP (xs:=List.range s) (e:=λg=>yv n (st g)) (wW ((zf rfl rfl).trans vE)) (by rw[List.length_range];omega) λg hg=>?_)) rfl)).trans rfl;refine yy.trans ((zb rfl).trans ?_);show jg [yv n (st g),pD,qD]=_
   rw[<-hp1,<-hq1];exact YU hn (by omega) hP hD0 sD sE b.hk0 (Wa b.hk) sNs hσ λx y hx hy=>hst g x y (List.mem_range.mp hg) hx hy
  have eLa:∀o o',zh yn (aC (yu (zR 1 [0] (yt (gv 3)) (bN 0) (zh jv (aC (gv 0) (aC (op2 ixD (gv 1) (cst (.int 2))) a0))))) a0) [.pu (zr n s fi st la),.no,.pu pD,.pu qD,o,o',.no]=some (z9 T.length (uq n (sgs F C d (srt T)) la)):=λo o'=>by
   refine(zb (xs:=[.list ((List.range T.length).map λi=>fr (uq n (sgs F C d (srt T)) la i))]) (zk (zZ (zP (xs:=List.range T.length) (e:=λi=>yi n (sgs F C d (srt T) i)) (jc (by rw[<-hq1];rfl)) hl λi hi=>?_)) rfl)).trans rfl;exact yy.trans ((zb (zk rfl (zk ((zf rfl rfl).trans uv) rfl))).trans (UN (t:=false) (u:=true) hn hD0 sD sE hl0 sl0 sNl (λx _=>hσ i x (List.mem_range.mp hi)) hla))
  refine zM rfl ?_;refine zfH (fs:=spO n T F C d) en (by show 1<7;omega) ?_;refine(zY ((zhh (Zq ((wM zbk rfl za4).trans (by rw[decide_eq_false hF])))).trans rfl)).trans ?_;refine(zY (uF (d:=pD) ((zeg ePl).trans (by rw[hp1])))).trans ?_;refine(zY (uF (d:=qD) ((zeg eSh).trans (by rw[hq1])))).trans ?_;refine(zY (uF eFi)).trans ((zY (uF (eSt _))).trans ((zY (uF (eLa _ _))).trans (ve ?_)));exact jL rfl (by show 3<=16777216;omega)
end
theorem Vk{M N:Nat}{q:Rat}(h:InB M N q):((jj q M:Int):Rat)=q*((M:Nat):Rat)/\(jj q M).natAbs<=N:=⟨jo h.den,Zb h (Nat.dvd_refl _) (jo h.den)⟩
structure Szs(n s m:Nat)(st:Q3x)(fi la:Q1x)(Ms Ns Mr Nr Mc Nc E E2:Nat):Prop where
 hn:n<=42
 hs:s<=42
 hs0:0<s
 hst:∀g a b,g<s->a<n->b<n->InB Ms Ns (st g a b)
 hrow:∀u:List Nat,(∀g∈u,g<s)->u.length<=n - 1->∀x,x<n->InB Mr Nr (zT n st fi u x)
 hcol:∀u:List Nat,(∀g∈u,g<s)->u.length<=n - 1->∀x,x<n->InB Mc Nc (Jl n st la u x)
 hm:∀L T F C d a,RSL n s st fi L T F C d a->L.length<=m
 p:0<Ms/\0<Mr/\0<Mc/\1<=E
 sMr:Mr<=2 ^ 3192
 sNr:Nr<=2 ^ 3192
 sMs:E*Ms<=2 ^ 3192
 sNs:n*(E*Ns)<=2 ^ 3192
 sMc:E*Mc<=2 ^ 3192
 sNc:n*(E*Nc)<=2 ^ 3192
 sN0:Ns<=2 ^ 3192
 sN1:Nc<=2 ^ 3192
 hP:∀j,j<=m->(n*Nr) ^ j<2 ^ 9000
 hE:∀j,j<n->j<=m->(n+1)*(n*Nr) ^ j<=E
 sE:Sz E
 two:∀r e,(r=n/\e=1)\/(r<n/\e=E)->r<=m->(∀j,j<=r->(r*(n*(e*Nc))) ^ j<2 ^ 9000)/\∀j,j<r->(r+1)*(r*(n*(e*Nc))) ^ j<=E2
 sE2:Sz E2
section
variable{n s m:Nat}{st:Q3x}{fi la:Q1x}{Ms Ns Mr Nr Mc Nc E E2:Nat}{CS:AdX}
theorem le3{x:Nat}(h:x<=2 ^ 3192):x<=2 ^ 4000:=Nat.le_trans h (Nat.pow_le_pow_right (by decide) (by decide))
theorem Szs.bd(h:Szs n s m st fi la Ms Ns Mr Nr Mc Nc E E2):Bd n s st fi Ms Nr m where
 hn:=h.hn
 hs:=h.hs
 hs0:=h.hs0
 hst:=λg a b hg ha hb=>(h.hst g a b hg ha hb).mono h.sN0
 hk0:=h.p.1
 hk:=Nat.le_trans (Nat.le_mul_of_pos_left _ h.p.2.2.2) h.sMs
 hB:=le3 h.sNr
 hP:=h.hP
 hw:=λu hg hu=>⟨((Mr:Nat):Rat),λx=>jj (zT n st fi u x) Mr,xG h.p.2.1,λx hx=>Vk (h.hrow u hg hu x hx)⟩
 hm:=h.hm
theorem Z9(h:Szs n s m st fi la Ms Ns Mr Nr Mc Nc E E2):∃L T F C d a Ts L' T' F' C' d' a' Ts',IV n s st fi L T F C d a/\((queue s (L.map (·.1))).length<=a\/F=[])/\Ts.Perm T/\
  IV T.length s (λg i j=>vz n (pl Ts) (sgs F C d Ts) st g j i) (uq n (sgs F C d Ts) la) L' T' F' C' d' a'/\((queue s (L'.map (·.1))).length<=a'\/F'=[])/\Ts'.Perm T'/\
  uL CS [zr n s fi st la]=some (zr T'.length s (uq T.length (sgs F' C' d' Ts') (Vh (pl Ts) fi)) (λg i j=>vz T.length (pl Ts') (sgs F' C' d' Ts') (λg i j=>vz n (pl Ts) (sgs F C d Ts) st g j i) g j i) (Vh (pl Ts') (uq n (sgs F C d Ts) la)))/\T'.length<=n:=by
 have⟨p1,p2,p3,p4⟩:=h.p;have hn:=h.hn;have hs:=h.hs
 have f0:∀i,i<n->InB Mr Nr (fi i):=λi hi=>h.hrow [] (λg hg=>by cases hg) (Nat.zero_le _) i hi
 have l0:∀i,i<n->InB Mc Nc (la i):=λi hi=>h.hcol [] (λg hg=>by cases hg) (Nat.zero_le _) i hi
 have hMc:Mc<=2 ^ 3192:=Nat.le_trans (Nat.le_mul_of_pos_left _ p4) h.sMc;obtain⟨L,T,F,C,d,a,Ts,iv,hd,hp,e1,hσ⟩:=YK (CS:=CS) (E:=E) (Ns:=Ns) h.bd (λi hi=>(f0 i hi).mono h.sNr) p2 h.sMr h.hE h.sE h.hst (Wa h.sN0) l0 p3 (Wa hMc) (Wa h.sN1);have hTn:T.length<=n:=by have:=iv.rs.sp.few;omega
 have hTm:=h.hm L T F C d a iv.rs;rw[iv.lens.1] at hTm;have S:=iv.rs.sp.sh hp
 have hl:=λg x hg hx=>iv.rs.zen h.hs0 hd g x hg hx
 obtain⟨D,e,hD0,he,he0,hDe,hx,heE⟩:∃D e,0<D/\((T.length=n/\e=1)\/(T.length<n/\e=E))/\1<=e/\D<=e/\(∀i x,i<T.length->InB D e (sgs F C d Ts i x))/\e<=E:=by
  rcases hσ with⟨q1,q2⟩|⟨q1,D,q2,q3,q4⟩
  ·exact⟨1,1,by decide,.inl ⟨q1,rfl⟩,Nat.le_refl _,Nat.le_refl _,q2,p4⟩
  ·exact⟨D,E,q2,.inr ⟨q1,rfl⟩,p4,q3,q4,Nat.le_refl _⟩
 have⟨t1,t2⟩:=h.two T.length e he hTm;have hDE:D<=E:=Nat.le_trans hDe heE;have up:∀x y z:Nat,x<=y->x*z<=y*z:=λx y z hxy=>Nat.mul_le_mul_right z hxy
 have kM:∀x:Nat,E*x<=2 ^ 3192->D*x<=2 ^ 3192:=λx hx=>Nat.le_trans (up _ _ _ hDE) hx
 have kN:∀x:Nat,n*(E*x)<=2 ^ 3192->n*(e*x)<=2 ^ 3192:=λx hx=>Nat.le_trans (Nat.mul_le_mul_left _ (up _ _ _ heE)) hx
 have st2:∀g i j,g<s->i<T.length->j<T.length->InB (D*Ms) (n*(e*Ns)) (vz n (pl Ts) (sgs F C d Ts) st g j i):=λg i j hg hi hj=>
  vQ (Nat.mul_pos hD0 p1) n λx hx'=>(hx j x hj).mul (h.hst g x _ hg hx' (S.lt i hi))
 have row2:∀u:List Nat,(∀g∈u,g<s)->u.length<=T.length - 1->∀i,i<T.length->InB (D*Mc) (n*(e*Nc)) (zT T.length (λg i j=>vz n (pl Ts) (sgs F C d Ts) st g j i) (uq n (sgs F C d Ts) la) u i):=λu hg hu i hi=>by
  have e:=uS (n:=T.length) (vz n (pl Ts) (sgs F C d Ts) st) (uq n (sgs F C d Ts) la) u.reverse;rw[List.reverse_reverse] at e;rw[e,S.col hl u.reverse (λg hg'=>hg g (List.mem_reverse.mp hg')) i hi];exact vQ (Nat.mul_pos hD0 p3) n λx hx'=>(hx i x hi).mul (h.hcol u.reverse (λg hg'=>hg g (List.mem_reverse.mp hg')) (by rw[List.length_reverse];omega) x hx')
 have b2:Bd T.length s (λg i j=>vz n (pl Ts) (sgs F C d Ts) st g j i) (uq n (sgs F C d Ts) la) (D*Ms) (n*(e*Nc)) T.length:={
  hn:=by omega
  hs:=hs
  hs0:=h.hs0
  hst:=λg i j hg hi hj=>(st2 g i j hg hi hj).mono (kN _ h.sNs)
  hk0:=Nat.mul_pos hD0 p1
  hk:=kM _ h.sMs
  hB:=le3 (kN _ h.sNc)
  hP:=t1
  hw:=λu hg hu=>⟨((D*Mc:Nat):Rat),λx=>jj (zT T.length (λg i j=>vz n (pl Ts) (sgs F C d Ts) st g j i) (uq n (sgs F C d Ts) la) u x) (D*Mc),xG (Nat.mul_pos hD0 p3),λx hx=>Vk (row2 u hg hu x hx)⟩
  hm:=λL' T' F' C' d' a' h'=>by
   have l1:=h'.lenT;have l2:=h'.sp.few
   rw[List.length_map] at l1;omega }
 obtain⟨L',T',F',C',d',a',Ts',iv',hd',hp',e3,_⟩:=YK (CS:=CS) (E:=E2) (Ns:=n*(e*Ns)) (la:=Vh (pl Ts) fi) b2 (λi hi=>(row2 [] (λg hg=>by cases hg) (Nat.zero_le _) i hi).mono (kN _ h.sNc)) (Nat.mul_pos hD0 p3) (kM _ h.sMc) (λj hj _=>t2 j hj) h.sE2 st2 (Wa (kN _ h.sNs)) (λi hi=>f0 _ (S.lt i hi)) p2 (Wa h.sMr) (Wa h.sNr);have hTn':T'.length<=T.length:=by have:=iv'.rs.sp.few;omega
 have e2:=ue (n:=T.length) (s:=s) (fi:=Vh (pl Ts) fi) (st:=vz n (pl Ts) (sgs F C d Ts) st) (la:=uq n (sgs F C d Ts) la) (by omega) (by omega);have e4:=ue (n:=T'.length) (s:=s) (fi:=Vh (pl Ts') (uq n (sgs F C d Ts) la)) (st:=vz T.length (pl Ts') (sgs F' C' d' Ts') λg i j=>vz n (pl Ts) (sgs F C d Ts) st g j i) (la:=uq T.length (sgs F' C' d' Ts') (Vh (pl Ts) fi)) (by omega) (by omega)
 exact⟨L,T,F,C,d,a,Ts,L',T',F',C',d',a',Ts',iv,hd,hp,iv',hd',hp',zM rfl (zy ((zb (zk ((zb (zk ((zb (zk ((zb rfl).trans e1) rfl)).trans e2) rfl)).trans e3) rfl)).trans e4)),by omega⟩
end
end L2.Fu
namespace L2.Fu
open PySem WS WD WD.DT
theorem vD{a b x y z:Nat}(h1:a<=2 ^ x)(h2:b<=2 ^ y)(h:x+y<=z):a*b<=2 ^ z:=Nat.le_trans (Nat.mul_le_mul h1 h2) (by rw[<-Nat.pow_add];exact Nat.pow_le_pow_right (by decide) h)
theorem Ji{a x j z:Nat}(h1:a<=2 ^ x)(h:x*j<=z):a ^ j<=2 ^ z:=Nat.le_trans (Nat.pow_le_pow_left h1 j) (by rw[<-Nat.pow_mul];exact Nat.pow_le_pow_right (by decide) h)
theorem zgG(k:Nat):6 ^ k<=2 ^ (3*k):=by rw[Nat.pow_mul];exact Nat.pow_le_pow_left (by decide) k
theorem lt9{x z:Nat}(h:x<=2 ^ z)(hz:z<9000):x<2 ^ 9000:=Nat.lt_of_le_of_lt h (Nat.pow_lt_pow_right (by decide) hz)
section
variable{n s k:Nat}{st:Q3x}{fi la:Q1x}
theorem zj4{k':Nat}(hn:n<=42)(hst:∀g a b,g<s->a<n->b<n->Sk k' (st g a b))(v:LNt)(hla:∀a,a<n->Sk k (la a))(hv:∀g∈v,g<s)(a:Nat)(ha:a<n):Sk (k+v.length*(k'+1)) (Jl n st la v a):=by
 rw[<-uS st la v,<-List.length_reverse];exact za3 (k:=0) hn (λg a b hg ha hb=>hst g b a hg hb ha) v.reverse k la hla (λg hg=>hv g (List.mem_reverse.mp hg)) a ha
theorem zlF{K N ε:Nat}(A:Mach n s fi st la k)(hn:n<=N+1)(hN:N<=6)(hs:s<=42)(hs0:0<s)(hK:k+N*(k+1)<=K)(hε:3+(3+8*K)*N=ε)(h1:(6+ε+8*K)*N<9000)(h2:3+(6+ε+8*K)*(N - 1)<=3990)(h3:3+(6+8*K)*N<=3990)(h4:(6+8*K)*(N+1)<9000)(h5:ε+8*K+3<=3192):Szs n s n st fi la (6 ^ k) (2 ^ (8*k)) (6 ^ K) (2 ^ (8*K)) (6 ^ K) (2 ^ (8*K)) (2 ^ ε) (2 ^ 3990):=by
 have hkK:k<=K:=by omega
 have n3:n<=2 ^ 3:=by omega
 have n4:n+1<=2 ^ 3:=by omega
 have hlen:∀l,l<=n - 1->k+l*(k+1)<=K:=λl hl=>Nat.le_trans (Nat.add_le_add_left (Nat.mul_le_mul_right _ (show l<=N by omega)) k) hK
 have le:∀x,x<=3192->(2:Nat) ^ x<=2 ^ 3192:=λx hx=>Nat.pow_le_pow_right (by decide) hx
 have b1:n*2 ^ (8*K)<=2 ^ (3+8*K):=vD n3 (Nat.le_refl _) (Nat.le_refl _);have mono:∀x j i:Nat,j<=i->x*j<=x*i:=λx j i h=>Nat.mul_le_mul_left x h
 refine⟨by omega,hs,hs0,A.st,λu hg hu x hx=>(za3 (k:=0) (by omega) A.st u k fi A.fi hg x hx).mono (hlen _ hu),λu hg hu x hx=>(zj4 (by omega) A.st u A.la hg x hx).mono (hlen _ hu),λL T F C d a h=>?_,
  ⟨yN k,yN K,yN K,Nat.one_le_two_pow⟩,zhQ (by omega),le _ (by omega),?_,?_,?_,?_,le _ (by omega),le _ (by omega),λj hj=>?_,λj hj _=>?_,Sz.Ji (by omega),λr e he _=>?_,Sz.Ji (by decide)⟩
 ·have l1:=h.lenT;have l2:=h.sp.few
  rw[List.length_map] at l1;omega
 ·exact vD (Nat.le_refl _) (zgG k) (by omega)
 ·exact vD n3 (vD (Nat.le_refl _) (Nat.le_refl _) (Nat.le_refl _)) (by omega)
 ·exact vD (Nat.le_refl _) (zgG K) (by omega)
 ·exact vD n3 (vD (Nat.le_refl _) (Nat.le_refl _) (Nat.le_refl _)) (by omega)
 ·refine lt9 (Ji b1 (Nat.le_refl _)) (Nat.lt_of_le_of_lt (mono _ _ (N+1) (by omega)) (Nat.lt_of_le_of_lt (Nat.mul_le_mul_right _ (by omega)) h4))
 ·exact vD n4 (Ji b1 (mono _ _ N (by omega))) (by omega)
 ·rcases he with⟨rfl,rfl⟩|⟨hr,rfl⟩
  ·have b2:r*(r*(1*2 ^ (8*K)))<=2 ^ (6+8*K):=by
    rw[Nat.one_mul];exact vD n3 b1 (by omega)
   refine⟨λj hj=>lt9 (Ji b2 (Nat.le_refl _)) (Nat.lt_of_le_of_lt (mono _ _ (N+1) (by omega)) h4),λj hj=>?_⟩;exact Nat.le_trans (vD n4 (Ji b2 (mono _ _ N (by omega))) (Nat.le_refl _)) (Nat.pow_le_pow_right (by decide) h3)
  ·have b2:r*(n*(2 ^ ε*2 ^ (8*K)))<=2 ^ (6+ε+8*K):=vD (show r<=2 ^ 3 by omega) (vD n3 (vD (Nat.le_refl _) (Nat.le_refl _) (Nat.le_refl _)) (Nat.le_refl _)) (by omega);refine⟨λj hj=>lt9 (Ji b2 (Nat.le_refl _)) (Nat.lt_of_le_of_lt (mono _ _ N (by omega)) h1),λj hj=>?_⟩;exact Nat.le_trans (vD (show r+1<=2 ^ 3 by omega) (Ji b2 (mono _ _ (N - 1) (by omega))) (Nat.le_refl _)) (Nat.pow_le_pow_right (by decide) h2)
theorem zmI(A:Mach n s fi st la 2)(hn:n<=6)(hs:s<=42)(hs0:0<s):Szs n s n st fi la (6 ^ 2) (2 ^ (8*2)) (6 ^ 17) (2 ^ (8*17)) (6 ^ 17) (2 ^ (8*17)) (2 ^ 698) (2 ^ 3990):=zlF (N:=5) A hn (by decide) hs hs0 (by decide) (by decide) (by decide) (by decide) (by decide) (by decide) (by decide)
end
theorem zgf{n s m:Nat}{st:Q3x}{fi la:Q1x}{Ms Ns Mr Nr Mc Nc E E2:Nat}{CS:AdX}(h:Szs n s m st fi la Ms Ns Mr Nr Mc Nc E E2)(hz:∀w:List Nat,(∀g∈w,g<s)->wt n st fi la w=0):za9 CS [zr n s fi st la]=some (.int 0):=by
 obtain⟨L,T,F,C,d,a,Ts,L',T',F',C',d',a',Ts',iv,hd,hp,iv',hd',hp',e,hn⟩:=Z9 (CS:=CS) h;obtain⟨m1,V,hV,kV⟩:=iv.rs.mk0 (la:=la) h.hs0 hd hp;have z:∀u:List Nat,(∀g∈u,g<s)->∀i,i<T.length->zT T.length (λg i j=>vz n (pl Ts) (sgs F C d Ts) st g j i) (uq n (sgs F C d Ts) la) u i=0:=λu hu=>by
  have er:=uS (n:=T.length) (vz n (pl Ts) (sgs F C d Ts) st) (uq n (sgs F C d Ts) la) u.reverse;rw[List.reverse_reverse] at er;rw[er];refine kV _ λj hj=>?_
  have hs':∀g∈V j++u.reverse,g<s:=λg hg=>by
   rcases List.mem_append.mp hg with q|q
   ·exact hV j hj g q
   ·exact hu g (List.mem_reverse.mp q)
  have e1:=m1 (V j++u.reverse) hs';rw[hz _ hs',zib] at e1;rw[<-e1];exact zd _ λi _=>Rat.mul_comm _ _
 have hT':T'=[]:=by
  refine Classical.byContradiction λhne=>?_
  have⟨t,ht⟩:=List.exists_mem_of_ne_nil T' hne;have htn:=(iv'.rs.sp.mem t).mp (List.mem_append.mpr (.inl ht))
  have:=iv'.rs.sp.ind (λx=>if x=t then 1 else 0) (λx _ hx=>if_neg λq=>hx (by rw[q];exact ht)) (λr hr=>by
   obtain⟨q,hq,rfl⟩:=List.mem_map.mp (List.mem_reverse.mp hr);have⟨c,_,hc⟩:=iv'.mult hq;have⟨_,hg⟩:=iv'.wlen h.hs0 hq;show sumTo T.length (λx=>(if x=t then (1:Rat) else 0)*(q.2 x:Rat))=0
   rw[zd T.length (g:=λ_=>0) λx hx=>by rw[hc x hx,z q.1 hg x hx,Rat.mul_zero,Rat.mul_zero]];exact yJ _) t htn
  rw[if_pos rfl] at this;exact absurd this (by decide)
 subst hT';exact zM rfl (zy ((zb (zk ((zf ((zb rfl).trans e) rfl).trans xQ) rfl)).trans (xx 0 _)))
end L2.Fu
namespace L2.Fu
open PySem PySem.Spec PyProof.Rows
def Y6:RFx:=(sq (ifS (zK (op2 ltI (op2 ixD (gv 0) (cst (.int 0))) (cst (.int 0)))) (retS (xp (aC (op2 Zm (cst (.int 0)) (op2 ixD (gv 0) (cst (.int 1)))) (aC (op2 Zm (cst (.int 0)) (op2 ixD (gv 0) (cst (.int 0)))) a0)))) s0)
 (retS (xp (aC (op2 ixD (gv 0) (cst (.int 1))) (aC (op2 ixD (gv 0) (cst (.int 0))) a0)))))
def vZ:LPx:=fnF 1 1 Y6
def Yk:RFx:=(sq (jR 1 (zR 1 [] (yt (gv 0)) (bN 0) (yu (xU Uc (aC (gv 0) a0)))))
 (sq (yr 2 (cst (.int 0)))
 (sq (vc (xK (aC (ifE (zK (op2 gtI (zh yk (aC (gb 1) a0)) (cst (.int 0)))) (zh yk (aC (op2 ixD (gb 1) (cst (.int 0))) a0)) (cst (.int 0))) a0)) (bN 3) (sq (jR 4 (u0 1 [1,3] (uy (aC (gv 2) (aC (zh yk (aC (gb 1) a0)) a0))) (bN 0) (zK (op2 neD (op2 ixD (op2 ixD (op2 ixD (gb 1) (gv 0)) (gv 2)) (cst (.int 0))) (cst (.int 0)))) (gv 0)))
 (ifS (zK (op2 gtI (zh yk (aC (gb 4) a0)) (cst (.int 0)))) (sq (zeB 5 1 (op2 ixD (gb 4) (cst (.int 0))))
 (sq (inS 1 (gv 2) (gv 5))
 (sq (vc (uy (aC (op2 xP (gv 2) (cst (.int 1))) (aC (zh yk (aC (gb 1) a0)) a0))) (bN 6) (ifS (zK (op2 neD (op2 ixD (op2 ixD (op2 ixD (gb 1) (gv 6)) (gv 3)) (cst (.int 0))) (cst (.int 0)))) (sq (yr 7 (zh yV (aC (op2 ixD (op2 ixD (gb 1) (gv 6)) (gv 3)) (aC (zh vZ (aC (op2 ixD (gv 5) (gv 3)) a0)) a0))))
 (sq (yr 8 (xp (aC (op2 Zm (cst (.int 0)) (op2 ixD (gv 7) (cst (.int 0)))) (aC (op2 ixD (gv 7) (cst (.int 1))) a0))))
 (siS 1 (gv 6) (yu (zR 1 [1,5,6,8] (xK (aC (zh yk (aC (gv 5) a0)) a0)) (bN 0) (zh ju (aC (op2 ixD (op2 ixD (gb 1) (gv 3)) (gv 0)) (aC (zh yV (aC (gv 4) (aC (op2 ixD (gv 2) (gv 0)) a0))) a0)))))))) s0))
 (yr 2 (op2 xP (gv 2) (cst (.int 1))))))) s0)))
 (retS (gv 2)))))
def Jd:LPx:=fnF 9 1 Yk
def J6:RFx:=(sq (ifS (zK (op2 eqD (zh yk (aC (gv 0) a0)) (cst (.int 0)))) (retS (op2 eqD (zh yk (aC (yu (u0 1 [] (yt (gv 1)) (bN 0) (zK (op2 neD (op2 ixD (gv 0) (cst (.int 0))) (cst (.int 0)))) (gv 0))) a0)) (cst (.int 0)))) s0)
 (retS (op2 eqD (zh Jd (aC (yu (zma zhM (gv 0) (yu (vw (aC (gv 1) a0))))) a0)) (zh Jd (aC (gv 0) a0)))))
def yL:LPx:=fnF 2 2 J6
def Za:RFx:=(sq (yr 2 (zh yn (aC (yu (zR 1 [] (yt (op2 ixD (gv 1) (cst (.int 2)))) (bN 0) (xp (aC (op2 Zm (cst (.int 0)) (op2 ixD (gv 0) (cst (.int 0)))) (aC (op2 ixD (gv 0) (cst (.int 1))) a0))))) a0)))
 (retS (zh uZ (aC (gv 0) (aC (xp (aC (op2 ixD (gv 1) (cst (.int 0))) (aC (op2 ixD (gv 1) (cst (.int 1))) (aC (gv 2) a0)))) a0)))))
def uQ:LPx:=fnF 3 2 Za
def WG:RFx:=(sq (yr 3 (zh uQ (aC (gv 0) (aC (gv 1) a0))))
 (sq (jR 4 (zR 1 [] (yt (gv 2)) (bN 0) (yu (xU Uc (aC (gv 0) a0)))))
 (sq (ifS (zab (zK (ZN yL (aC (gb 4) (aC (yu (xU Uc (aC (op2 ixD (gv 3) (cst (.int 0))) a0))) a0))))) (retS (cst (.bool false))) s0)
 (sq (frS 4 (vc (yt (gv 4)) (bN 5) (sq (ifS (zK (op2 neD (op2 ixD (zh jx (aC (gv 5) (aC (op2 ixD (gv 3) (cst (.int 2))) a0))) (cst (.int 0))) (cst (.int 0)))) (retS (cst (.bool false))) s0)
 (vc (yt (op2 ixD (gv 3) (cst (.int 1)))) (bN 6) (ifS (zab (zK (zh yL (aC (gv 4) (aC (yu (xU j9 (aC (gv 5) (aC (gv 6) a0)))) a0))))) (retS (cst (.bool false))) s0)))))
 (retS (cst (.bool true)))))))
def vk:LPx:=fnF 7 3 WG
end L2.Fu
namespace L2.Fu
open PySem WS WD WD.DT
open PySem.Builtin.Int (intBits)
theorem zme{a b:Nat}{q r:Rat}(hq:Bq a q)(hr:Bq b r):Bq (a+b) (q*r):=by
 have e:q*r=Rat.divInt (q.num*r.num) ((q.den:Int)*(r.den:Int)):=(UZ q r).symm;have hd:=zeE q r
 rw[e];exact⟨intBits_le_of_natAbs (zid _ _) (intBits_mul_le hq.n hr.n),intBits_le_of_natAbs (zld hd) (intBits_mul_le hq.d hr.d)⟩
theorem zeC{a b:Nat}{q r:Rat}(hq:Bq a q)(hr:Bq b r)(h:a+b<=8999):ju [fr q,fr r]=some (fr (q+r)):=by
 refine zM rfl (zy ?_);have e1:op2 yE (op2 ixD (gv 0) (cst (.int 0))) (op2 ixD (gv 1) (cst (.int 1))) [.pu (fr q),.pu (fr r)]=some (.int (q.num*(r.den:Int))):=(zf (ix0 q) (ix1 r)).trans (yK (xS hq.n hr.d (by omega)));have e2:op2 yE (op2 ixD (gv 1) (cst (.int 0))) (op2 ixD (gv 0) (cst (.int 1))) [.pu (fr q),.pu (fr r)]=some (.int (r.num*(q.den:Int))):=(zf (ix0 r) (ix1 q)).trans (yK (xS hr.n hq.d (by omega)))
 have e3:op2 yE (op2 ixD (gv 0) (cst (.int 1))) (op2 ixD (gv 1) (cst (.int 1))) [.pu (fr q),.pu (fr r)]=some (.int ((q.den:Int)*(r.den:Int))):=(zf (ix1 q) (ix1 r)).trans (yK (xS hq.d hr.d (by omega)));refine(zb (zk ((zf e1 e2).trans rfl) (zk e3 rfl))).trans ?_;rw[v5 (vp q r) (Nat.le_trans (intBits_mul_le hq.d hr.d) h),zcS]
theorem WX{a b:Nat}{q r:Rat}(hq:Bq a q)(hr:Bq b r)(h:a+b<=8999):yV [fr q,fr r]=some (fr (q*r)):=by
 refine zM rfl (zy ?_);have e1:op2 yE (op2 ixD (gv 0) (cst (.int 0))) (op2 ixD (gv 1) (cst (.int 0))) [.pu (fr q),.pu (fr r)]=some (.int (q.num*r.num)):=(zf (ix0 q) (ix0 r)).trans (yK (xS hq.n hr.n (by omega)));have e3:op2 yE (op2 ixD (gv 0) (cst (.int 1))) (op2 ixD (gv 1) (cst (.int 1))) [.pu (fr q),.pu (fr r)]=some (.int ((q.den:Int)*(r.den:Int))):=(zf (ix1 q) (ix1 r)).trans (yK (xS hq.d hr.d (by omega)))
 refine(zb (zk e1 (zk e3 rfl))).trans ?_;rw[v5 (vp q r) (Nat.le_trans (intBits_mul_le hq.d hr.d) h),UZ]
theorem zal{q:Rat}(h:q≠0):(q⁻¹).num=(if q.num<0 then -(q.den:Int) else (q.den:Int))/\(q⁻¹).den=q.num.natAbs:=by
 have h0:q.num≠0:=λe=>h (Rat.num_eq_zero.mp e)
 show(Rat.inv q).num=_/\(Rat.inv q).den=_
 unfold Rat.inv;by_cases z:q.num<0
 ·rw[dif_pos z,if_pos z];exact⟨rfl,rfl⟩
 ·rw[dif_neg z,dif_pos (by omega),if_neg z];exact⟨rfl,rfl⟩
theorem zl3{q:Rat}(h:q≠0):vZ [fr q]=some (fr q⁻¹):=by
 have⟨e1,e2⟩:=zal h;have h0:q.num≠0:=λe=>h (Rat.num_eq_zero.mp e)
 have e3:fr q⁻¹=.tuple [.int (if q.num<0 then -(q.den:Int) else (q.den:Int)),.int (q.num.natAbs:Int)]:=by unfold fr;rw[e1,e2]
 rw[e3];have et:zK (op2 ltI (op2 ixD (gv 0) (cst (.int 0))) (cst (.int 0))) [.pu (fr q)]=some (decide (q.num<0)):=zA ((zf (ix0 q) rfl).trans rfl);refine zM rfl ?_;by_cases z:q.num<0
 ·refine Uj ((wD (et.trans (by rw[decide_eq_true z]))).trans (zy ?_));refine(jL (zk ((zf rfl (ix1 q)).trans rfl) (zk ((zf rfl (ix0 q)).trans rfl) rfl)) (by show 2<=16777216;omega)).trans ?_;rw[if_pos z];congr 4
  ·omega
  ·congr 1;congr 1;omega
 ·refine(zx ((xH (et.trans (by rw[decide_eq_false z]))).trans rfl)).trans (zy ?_);refine(jL (zk (ix1 q) (zk (ix0 q) rfl)) (by show 2<=16777216;omega)).trans ?_;rw[if_neg z];congr 4;congr 1;omega
theorem zkE{a:Nat}{q:Rat}(hq:Bq a q)(h:q≠0):Bq a q⁻¹:=by
 have⟨e1,e2⟩:=zal h;refine⟨?_,?_⟩
 ·rw[e1];refine intBits_le_of_natAbs (y:=(q.den:Int)) ?_ hq.d;split<;>simp
 ·rw[e2];exact intBits_le_of_natAbs (y:=q.num) (by simp) hq.n
theorem zks{ρ:Ro}{i:Nat}{q:Rat}(h:gv i ρ=some (fr q)):xp (aC (op2 Zm (cst (.int 0)) (op2 ixD (gv i) (cst (.int 0)))) (aC (op2 ixD (gv i) (cst (.int 1))) a0)) ρ=some (fr (-q)):=by
 refine(jL (zk ((zf rfl ((zf h rfl).trans (ix0 q))).trans rfl) (zk ((zf h rfl).trans (ix1 q)) rfl)) (by show 2<=16777216;omega)).trans ?_;unfold fr;rw[Rat.neg_num,Rat.neg_den];congr 4;omega
theorem zkH{a:Nat}{q:Rat}(hq:Bq a q):Bq a (-q):=⟨by rw[Rat.neg_num];exact intBits_le_of_natAbs (y:=q.num) (by simp) hq.n,by rw[Rat.neg_den];exact hq.d⟩
theorem YO{α:Type}{h:PyData->Option (Option PyData)}{e:α->PyData}{p:α->Bool}:∀{xs:List α},(∀x∈xs,h (e x)=some (if p x then some (e x) else none))->wu h (xs.map e)=some ((xs.filter p).map e)
 |[],_=>rfl
 |x::xs,q=>by
  show(h (e x)).bind _=_
  rw[q x (.head _),Option.bind_some,YO λy hy=>q y (.tail _ hy),List.filter_cons];by_cases z:p x=true
  ·rw[if_pos z,if_pos z];rfl
  ·rw[if_neg z,if_neg z];rfl
theorem WN(k:Nat):∀Q:List (Nat->Rat),((List.range Q.length).filter (λi=>decide ((Q.getD i λ_=>0) k≠0))=[]/\pick k Q=none)\/∃i r q,(List.range Q.length).filter (λi=>decide ((Q.getD i λ_=>0) k≠0))=i::r/\Q[i]?=some q/\pick k Q=some (q,Q.eraseIdx i)
 |[]=>.inl ⟨rfl,rfl⟩
 |q::Q=>by
  have e:(List.range (q::Q).length).filter (λi=>decide (((q::Q).getD i λ_=>0) k≠0))=(if decide (q k≠0)=true then [0] else [])++((List.range Q.length).filter (λi=>decide ((Q.getD i λ_=>0) k≠0))).map Nat.succ:=by
   rw[List.length_cons,List.range_succ_eq_map,List.filter_cons,List.filter_map];by_cases z:q k≠0
   ·rw[if_pos (show decide (((q::Q).getD 0 λ_=>0) k≠0)=true from decide_eq_true z),if_pos (decide_eq_true z)];rfl
   ·rw[if_neg (show ¬decide (((q::Q).getD 0 λ_=>0) k≠0)=true from λw=>z (of_decide_eq_true w)),if_neg λw=>z (of_decide_eq_true w)];rfl
  rw[e];by_cases z:q k≠0
  ·refine .inr ⟨0,_,q,by rw[if_pos (decide_eq_true z)];rfl,rfl,?_⟩;unfold pick;rw[if_pos z];rfl
  ·rw[if_neg λw=>z (of_decide_eq_true w),List.nil_append];rcases WN k Q with⟨h1,h2⟩|⟨i,r,q',h1,h2,h3⟩
   ·refine .inl ⟨by rw[h1];rfl,?_⟩;unfold pick;rw[if_neg z,h2];rfl
   ·refine .inr ⟨i+1,r.map Nat.succ,q',by rw[h1];rfl,by simpa using h2,?_⟩;unfold pick;rw[if_neg z,h3];rfl
theorem zjy{i j a:Nat}{g:RPx}{ρ:Ro}{ds:LPd}{d:PdX}(h1:ρ[j]?=some (.ow ds))(h2:g ρ=some (.int (a:Int)))(h3:ds[a]?=some d)(h4:ds.length<=16777216):zeB i j g ρ=some (.nx ((ρ.set j (.ow (ds.eraseIdx a))).set i (.pu d))):=by
 have hl:=(List.getElem?_eq_some_iff.mp h3).1;unfold zeB;rw[h1,h2];show(if 0<=(a:Int)/\(a:Int)<ds.length/\ds.length<=16777216 then _ else none)=_
 rw[if_pos ⟨by omega,by omega,h4⟩,Int.toNat_natCast,h3];rfl
theorem zjZ{i k:Nat}{fi f:RPx}{ρ:Ro}{ds:LPd}{d:PdX}(h1:gk i ρ=some ds)(h2:fi ρ=some (.int (k:Int)))(h3:f ρ=some d)(hk:k<1000)(hl:ds.length<16777216):inS i fi f ρ=some (.nx (ρ.set i (.ow (ds.take k++d::ds.drop k)))):=by
 unfold inS;rw[h1,Option.bind_some,h2];show(f ρ).bind _=_
 rw[h3,Option.bind_some,if_pos ⟨by omega,by omega,hl⟩,Int.toNat_natCast]
theorem zdd{g:RLx}{ρ:Ro}{a b:Nat}(h:g ρ=some [.int (a:Int),.int (b:Int)])(ha:a<1000000)(hb:b<1000000):uy g ρ=some (jB a (b - a)):=by
 unfold uy;rw[h];show(if -(2 ^ 62)<=(a:Int)/\(a:Int)<2 ^ 62/\-(2 ^ 62)<=(b:Int)/\(b:Int)<2 ^ 62 then some (jB (a:Int) ((b:Int) - (a:Int)).toNat) else none)=_
 rw[if_pos ⟨by omega,by omega,by omega,by omega⟩,show((b:Int) - (a:Int)).toNat=b - a by omega]
abbrev zB(n:Nat)(Q:LQr):List PyData:=Q.map (yi n)
theorem zfe{n a i:Nat}{Dn:LPd}{Q:LQr}{q:Q1x}(hD:Dn.length=a)(h:Q[i]?=some q):(Dn++zB n Q)[a+i]?=some (yi n q):=by
 rw[List.getElem?_append_right (by omega),List.getElem?_map,show a+i - Dn.length=i by omega,h];rfl
theorem VL{ds:LPd}{a:Nat}{d:PdX}(h:ds[a]?=some d):ixD (.list ds) (.int (a:Int))=some d:=W8 h
theorem YG{α β:Type}(f:α->β):∀(l:List α)(i:Nat),(l.map f).eraseIdx i=(l.eraseIdx i).map f
 |[],_=>rfl
 |_::_,0=>rfl
 |a::l,i+1=>congrArg (f a::·) (YG f l i)
theorem erase_left{n a i:Nat}{Dn:LPd}{Q:LQr}(hD:Dn.length=a):(Dn++zB n Q).eraseIdx (a+i)=Dn++zB n (Q.eraseIdx i):=by
 rw[List.eraseIdx_append_of_length_le (by omega),show a+i - Dn.length=i by omega,YG]
abbrev lrB:RFx:=ifS (zK (op2 neD (op2 ixD (op2 ixD (op2 ixD (gb 1) (gv 6)) (gv 3)) (cst (.int 0))) (cst (.int 0)))) (sq (yr 7 (zh yV (aC (op2 ixD (op2 ixD (gb 1) (gv 6)) (gv 3)) (aC (zh vZ (aC (op2 ixD (gv 5) (gv 3)) a0)) a0))))
 (sq (yr 8 (xp (aC (op2 Zm (cst (.int 0)) (op2 ixD (gv 7) (cst (.int 0)))) (aC (op2 ixD (gv 7) (cst (.int 1))) a0))))
 (siS 1 (gv 6) (yu (zR 1 [1,5,6,8] (xK (aC (zh yk (aC (gv 5) a0)) a0)) (bN 0) (zh ju (aC (op2 ixD (op2 ixD (gb 1) (gv 3)) (gv 0)) (aC (zh yV (aC (gv 4) (aC (op2 ixD (gv 2) (gv 0)) a0))) a0)))))))) s0
theorem zj1{b q:Q1x}{k:Nat}(h:q k=0):el b k q=q:=by
 funext y
 show q y - q k / b k*b y=q y
 rw[h,Rat.div_def,Rat.zero_mul,Rat.zero_mul];grind
theorem Vc{ρ:Ro}{f:RPx}{q:Rat}(h:f ρ=some (fr q)):zK (op2 neD (op2 ixD f (cst (.int 0))) (cst (.int 0))) ρ=some (decide (q≠0)):=by
 refine zA ((zf ((zf h rfl).trans (ix0 q)) rfl).trans ((JW _ _).trans ?_));by_cases z:q=0
 ·subst z;rfl
 ·rw[decide_eq_false (λe=>z (Rat.num_eq_zero.mp e)),decide_eq_true z];rfl
theorem zd1{n k a s:Nat}{Dn:LPd}{b:Q1x}{Q:LQr}{x0 x4:Sl}(hn:n<=42)(hk:k<n)(hb:b k≠0)(hD:Dn.length=a)(hl:a+Q.length<1000)(hs:3*s<=8999)(hB:∀x,x<n->Bq s (b x))(hQ:∀q∈Q,∀x,x<n->Bq s (q x))(hT:∀q∈Q,∀x,x<n->Bq (2*s) (q k*(b k)⁻¹*b x))(y6 y7 y8:Sl):∃o6 o7 o8,vc (uy (aC (op2 xP (gv 2) (cst (.int 1))) (aC (zh yk (aC (gb 1) a0)) a0))) (bN 6) lrB [x0,.ow (Dn++yi n b::zB n Q),.pu (zD a),.pu (zD k),x4,.pu (yi n b),y6,y7,y8]
   =some (.nx [x0,.ow (Dn++yi n b::zB n (Q.map (el b k))),.pu (zD a),.pu (zD k),x4,.pu (yi n b),o6,o7,o8]):=by
 have hlen:(Dn++yi n b::zB n Q).length=a+1+Q.length:=by rw[List.length_append,List.length_cons,List.length_map,hD];omega
 have hit:uy (aC (op2 xP (gv 2) (cst (.int 1))) (aC (zh yk (aC (gb 1) a0)) a0)) [x0,.ow (Dn++yi n b::zB n Q),.pu (zD a),.pu (zD k),x4,.pu (yi n b),y6,y7,y8]=some (jB ((a+1:Nat):Int) Q.length):=by
  refine(zdd (a:=a+1) (b:=a+1+Q.length) (zk ((zf rfl rfl).trans rfl) (zk ((zb (zk rfl rfl)).trans ?_) rfl)) (by omega) (by omega)).trans ?_
  ·show some (PyData.int ((Dn++yi n b::zB n Q).length:Int))=_
   rw[hlen]
  ·rw[show a+1+Q.length - (a+1)=Q.length by omega]
 obtain⟨ρ',e,o6,o7,o8,rfl⟩:=VX (ds:=jB ((a+1:Nat):Int) Q.length) (it:=uy (aC (op2 xP (gv 2) (cst (.int 1))) (aC (zh yk (aC (gb 1) a0)) a0))) (bd:=bN 6) (b:=lrB)
  (ρ0:=[x0,.ow (Dn++yi n b::zB n Q),.pu (zD a),.pu (zD k),x4,.pu (yi n b),y6,y7,y8])
  (λj ρ=>∃o6 o7 o8,ρ=[x0,.ow (Dn++yi n b::(zB n ((Q.take j).map (el b k))++zB n (Q.drop j))),.pu (zD a),.pu (zD k),x4,.pu (yi n b),o6,o7,o8]) hit ⟨y6,y7,y8,by simp⟩
  (λj d ρ hd ⟨o6,o7,o8,e⟩=>by
   subst e;obtain⟨hj,rfl⟩:=VG hd;obtain⟨q,hq⟩:∃q,Q[j]?=some q:=⟨_,List.getElem?_eq_getElem hj⟩;have hqm:=List.mem_of_getElem? hq;have hdrop:Q.drop j=q::Q.drop (j+1):=by
    rw[List.drop_eq_getElem_cons hj];rw[List.getElem?_eq_getElem hj] at hq;cases hq;rfl
   have htake:(Q.take (j+1)).map (el b k)=(Q.take j).map (el b k)++[el b k q]:=by
    rw[List.take_add_one,hq,List.map_append];rfl
   generalize hL:Dn++yi n b::(zB n ((Q.take j).map (el b k))++zB n (Q.drop j))=left;have hix:left[a+1+j]?=some (yi n q):=by
    rw[<-hL,List.getElem?_append_right (by omega),show a+1+j - Dn.length=j+1 by omega,List.getElem?_cons_succ,List.getElem?_append_right (by rw[List.length_map,List.length_map,List.length_take];omega),hdrop,List.length_map,List.length_map,List.length_take,show j - min j Q.length=0 by omega];rfl
   have hset:left.set (a+1+j) (yi n (el b k q))=Dn++yi n b::(zB n ((Q.take (j+1)).map (el b k))++zB n (Q.drop (j+1))):=by
    rw[<-hL,List.set_append_right _ _ (by omega),show a+1+j - Dn.length=j+1 by omega,List.set_cons_succ,List.set_append_right _ _ (by rw[List.length_map,List.length_map,List.length_take];omega),List.length_map,List.length_map,List.length_take,show j - min j Q.length=0 by omega,hdrop,htake];show Dn++yi n b::(zB n ((Q.take j).map (el b k))++yi n (el b k q)::zB n (Q.drop (j+1)))=Dn++yi n b::((((Q.take j).map (el b k)++[el b k q]).map (yi n))++zB n (Q.drop (j+1)))
    rw[List.map_append,List.append_assoc];rfl
   have er:((a+1:Nat):Int)+(j:Int)=((a+1+j:Nat):Int):=by omega
   rw[er];have ex:∀z7 z8,op2 ixD (gb 1) (gv 6) [x0,.ow left,.pu (zD a),.pu (zD k),x4,.pu (yi n b),.pu (zD (a+1+j)),z7,z8]=some (yi n q):=λ_ _=>(zf rfl rfl).trans (VL hix)
   have exk:∀z7 z8,op2 ixD (op2 ixD (gb 1) (gv 6)) (gv 3) [x0,.ow left,.pu (zD a),.pu (zD k),x4,.pu (yi n b),.pu (zD (a+1+j)),z7,z8]=some (fr (q k)):=λz7 z8=>(zf (ex z7 z8) rfl).trans (Ue (t:=false) hk)
   suffices key:∃ρ2,lrB [x0,.ow left,.pu (zD a),.pu (zD k),x4,.pu (yi n b),.pu (zD (a+1+j)),o7,o8]=some (.nx ρ2)/\∃o6 o7 o8,ρ2=[x0,.ow (Dn++yi n b::(zB n ((Q.take (j+1)).map (el b k))++zB n (Q.drop (j+1)))),.pu (zD a),.pu (zD k),x4,.pu (yi n b),o6,o7,o8] by
    have⟨ρ2,k1,k2⟩:=key;exact⟨_,ρ2,rfl,k1,k2⟩
   by_cases z:q k=0
   ·refine⟨_,(xH ((Vc (exk o7 o8)).trans (by rw[decide_eq_false λw=>w z]))).trans rfl,.pu (zD (a+1+j)),o7,o8,?_⟩;have hself:left.set (a+1+j) (yi n q)=left:=by
     obtain⟨h,e⟩:=List.getElem?_eq_some_iff.mp hix;rw[<-e,List.set_getElem_self]
    rw[<-hset,zj1 z,hself]
   ·have b1:=hQ q hqm;have bp:=zme (b1 k hk) (zkE (hB k hk) hb)
    have e7:zh yV (aC (op2 ixD (op2 ixD (gb 1) (gv 6)) (gv 3)) (aC (zh vZ (aC (op2 ixD (gv 5) (gv 3)) a0)) a0)) [x0,.ow left,.pu (zD a),.pu (zD k),x4,.pu (yi n b),.pu (zD (a+1+j)),o7,o8]=some (fr (q k*(b k)⁻¹)):=(zb (zk (exk o7 o8) (zk ((zb (zk ((zf rfl rfl).trans (Ue (t:=false) hk)) rfl)).trans (zl3 hb)) rfl))).trans (WX (b1 k hk) (zkE (hB k hk) hb) (by omega));refine⟨_,(wD ((Vc (exk o7 o8)).trans (by rw[decide_eq_true z]))).trans ((zx (zQ e7)).trans ((zx (zQ (zks (q:=q k*(b k)⁻¹) rfl))).trans (zeP (a:=a+1+j) (ds:=left) (d:=yi n (el b k q)) rfl (zZ ?_) rfl (List.getElem?_eq_some_iff.mp hix).1))),.pu (zD (a+1+j)),.pu (fr (q k*(b k)⁻¹)),.pu (fr (-(q k*(b k)⁻¹))),?_⟩
    ·refine uk (n:=n) (zk ((zb rfl).trans (Zz false n b)) rfl) (by omega) λc hc=>?_
     refine(zb (zk ((zf ((zf (x:=.list left) (y:=zD (a+1+j)) rfl rfl).trans (VL hix)) rfl).trans (Ue (t:=false) hc)) (zk ((zb (zk (x:=fr (-(q k*(b k)⁻¹))) rfl (zk ((zf (x:=yi n b) (y:=zD c) rfl rfl).trans (Ue (t:=false) hc)) rfl))).trans (WX (zkH bp) (hB c hc) (by omega))) rfl))).trans ((zeC (b1 c hc) (by rw[show -(q k*(b k)⁻¹)*b c=-(q k*(b k)⁻¹*b c) by grind];exact zkH (hT q hqm c hc)) (by omega)).trans ?_);refine congrArg (λt=>some (fr t)) ?_;show q c+-(q k*(b k)⁻¹)*b c=q c - q k / b k*b c
     rw[Rat.div_def];grind
    ·rw[<-hset];rfl)
 refine⟨o6,o7,o8,e.trans ?_⟩;rw[show(jB ((a+1:Nat):Int) Q.length).length=Q.length by simp[jB],List.take_length,List.drop_length];simp
theorem zfh{t:Rat}{z w:Int}(hz:z≠0)(e:t*(z:Rat)=(w:Rat)):InB z.natAbs w.natAbs t:=by
 by_cases h:0<=z
 ·refine⟨by omega,w,?_,Nat.le_refl _⟩;rw[<-e,<-Rat.intCast_natCast,Int.natAbs_of_nonneg h]
 ·refine⟨by omega,-w,?_,by rw[Int.natAbs_neg];exact Nat.le_refl _⟩
  have:((z.natAbs:Nat):Rat)=-(z:Rat):=by
   rw[<-Rat.intCast_natCast,<-Rat.intCast_neg];congr 1;omega
  rw[Rat.intCast_neg,<-e,this];grind
theorem zmC{n B X s:Nat}{Q:LQr}{R:LZr}{T F:LNt}{C:LZr}{d:Int}(h:Eb n B X Q R T F C d)(h1:X*(n*B) ^ R.length<2 ^ s)(h2:n*((n*(n*B) ^ R.length)*B)<2 ^ s){q:Q1x}(hq:q∈Q)(x:Nat)(hx:x<n):Bq s (q x):=by
 have⟨M,M0,MX,hM⟩:=h.num hq;have⟨S,e,hS⟩:=hM x hx;have d0:=h.sp.d0;have hp:0<M*d.natAbs:=Nat.mul_pos M0 (by omega)
 have ib:InB (M*d.natAbs) S.natAbs (q x):=by
  have:=zfh (z:=(M:Int)*d) (w:=S) (t:=q x) (Int.mul_ne_zero (by omega) d0) (by rw[Rat.intCast_mul,Rat.intCast_natCast];exact e);rwa [Int.natAbs_mul,Int.natAbs_natCast] at this
 refine⟨vh (Nat.lt_of_le_of_lt (Nat.le_trans ib.num hS) h2),vh ?_⟩;have h3:(q x).den<=M*d.natAbs:=Nat.le_of_dvd hp ib.den;have h4:M*d.natAbs<=X*(n*B) ^ R.length:=Nat.mul_le_mul MX h.dabs
 show((q x).den:Int).natAbs<2 ^ s
 rw[Int.natAbs_natCast];omega
theorem zmu{n B X s k:Nat}{Q:LQr}{R:LZr}{T F:LNt}{C:LZr}{d:Int}(h:Eb n B X Q R T F C d)(h1:X*(n*B) ^ R.length<2 ^ s)(h2:n*((n*(n*B) ^ R.length)*B)<2 ^ s){q b:Q1x}(hq:q∈Q)(hb:b∈Q)(hk:k<n)(hbk:b k≠0)(x:Nat)(hx:x<n):Bq (2*s) (q k*(b k)⁻¹*b x):=by
 have⟨M1,p1,q1,hM1⟩:=h.num hq;have⟨M2,p2,q2,hM2⟩:=h.num hb;have⟨S1,e1,b1⟩:=hM1 k hk;have⟨S2,e2,b2⟩:=hM2 k hk;have⟨S3,e3,b3⟩:=hM2 x hx;have d0:=h.sp.d0;have hd:(d:Rat)≠0:=λz=>d0 (by exact_mod_cast z)
 have hS2:S2≠0:=λz=>by
  rw[z] at e2;rcases Rat.mul_eq_zero.mp (show b k*((M2:Rat)*(d:Rat))=0 from e2) with w|w
  ·exact hbk w
  ·rcases Rat.mul_eq_zero.mp w with w|w
   ·exact xG p2 w
   ·exact hd w
 have hi:=Rat.mul_inv_cancel _ hbk;have ib:=zfh (z:=(M1:Int)*d*S2) (w:=S1*S3) (t:=q k*(b k)⁻¹*b x) (Int.mul_ne_zero (Int.mul_ne_zero (by omega) d0) hS2) (by
  rw[Rat.intCast_mul,Rat.intCast_mul,Rat.intCast_mul,Rat.intCast_natCast,<-e1,<-e2,<-e3];generalize (M1:Rat)=m1;generalize (M2:Rat)=m2;generalize (d:Rat)=dd;grind)
 have hp:0<((M1:Int)*d*S2).natAbs:=ib.pos;have t2:2*s=s+s:=by omega
 refine⟨vh ?_,vh ?_⟩
 ·refine Nat.lt_of_le_of_lt ib.num ?_;rw[Int.natAbs_mul,t2,Nat.pow_add];exact Nat.mul_lt_mul'' (Nat.lt_of_le_of_lt b1 h2) (Nat.lt_of_le_of_lt b3 h2)
 ·rw[Int.natAbs_natCast];refine Nat.lt_of_le_of_lt (Nat.le_of_dvd hp ib.den) ?_;rw[Int.natAbs_mul,Int.natAbs_mul,Int.natAbs_natCast,t2,Nat.pow_add];exact Nat.mul_lt_mul'' (Nat.lt_of_le_of_lt (Nat.mul_le_mul q1 h.dabs) h1) (Nat.lt_of_le_of_lt b2 h2)
abbrev lrA:RFx:=sq (jR 4 (u0 1 [1,3] (uy (aC (gv 2) (aC (zh yk (aC (gb 1) a0)) a0))) (bN 0) (zK (op2 neD (op2 ixD (op2 ixD (op2 ixD (gb 1) (gv 0)) (gv 2)) (cst (.int 0))) (cst (.int 0)))) (gv 0)))
 (ifS (zK (op2 gtI (zh yk (aC (gb 4) a0)) (cst (.int 0)))) (sq (zeB 5 1 (op2 ixD (gb 4) (cst (.int 0))))
 (sq (inS 1 (gv 2) (gv 5))
 (sq (vc (uy (aC (op2 xP (gv 2) (cst (.int 1))) (aC (zh yk (aC (gb 1) a0)) a0))) (bN 6) lrB)
 (yr 2 (op2 xP (gv 2) (cst (.int 1))))))) s0)
def LS(n B X:Nat)(L:LQr)(x0:Sl)(k:Nat)(ρ:Ro):Prop:=∃(Dn:LPd)(Q:LQr)(R:LZr)(T F:LNt)(C:LZr)(d:Int)(o3 o4 o5 o6 o7 o8:Sl),ρ=[x0,.ow (Dn++zB n Q),.pu (zD Dn.length),o3,o4,o5,o6,o7,o8]/\Dn.length+Q.length=L.length/\Eb n B X Q R T F C d/\R.length=Dn.length/\rk (n - k) k Q+Dn.length=rk n 0 L
theorem zd2{n B X s k:Nat}{L:LQr}{x0:Sl}(hn:n<=42)(hk:k<n)(hl:L.length<500)(hs:3*s<=8999)(hz:∀j,j<=L.length->j<=n->X*(n*B) ^ j<2 ^ s/\n*((n*(n*B) ^ j)*B)<2 ^ s){ρ:Ro}(h:LS n B X L x0 k ρ):∃ρ2,lrA (ρ.set 3 (.pu (zD k)))=some (.nx ρ2)/\LS n B X L x0 (k+1) ρ2:=by
 obtain⟨Dn,Q,R,T,F,C,d,o3,o4,o5,o6,o7,o8,rfl,hlen,eb,hR,hrk⟩:=h;show ∃ρ2,lrA [x0,.ow (Dn++zB n Q),.pu (zD Dn.length),.pu (zD k),o4,o5,o6,o7,o8]=some (.nx ρ2)/\_
 have hzR:=hz R.length (by omega) eb.znf;have bq:∀q∈Q,∀x,x<n->Bq s (q x):=λq hq x hx=>zmC eb hzR.1 hzR.2 hq x hx
 have hleft:(Dn++zB n Q).length=Dn.length+Q.length:=by rw[List.length_append,List.length_map]
 have hat:u0 1 [1,3] (uy (aC (gv 2) (aC (zh yk (aC (gb 1) a0)) a0))) (bN 0) (zK (op2 neD (op2 ixD (op2 ixD (op2 ixD (gb 1) (gv 0)) (gv 2)) (cst (.int 0))) (cst (.int 0)))) (gv 0) [x0,.ow (Dn++zB n Q),.pu (zD Dn.length),.pu (zD k),o4,o5,o6,o7,o8]
   =some (((List.range Q.length).filter (λi=>decide ((Q.getD i λ_=>0) k≠0))).map λi:Nat=>PyData.int ((Dn.length:Int)+(i:Int))):=by
  have hr:uy (aC (gv 2) (aC (zh yk (aC (gb 1) a0)) a0)) [x0,.ow (Dn++zB n Q),.pu (zD Dn.length),.pu (zD k),o4,o5,o6,o7,o8]=some (jB (Dn.length:Int) Q.length):=by
   refine(zdd (a:=Dn.length) (b:=Dn.length+Q.length) (zk rfl (zk ((zb (zk rfl rfl)).trans ?_) rfl)) (by omega) (by omega)).trans (by rw[Nat.add_sub_cancel_left]);show some (PyData.int ((Dn++zB n Q).length:Int))=_
   rw[hleft]
  unfold u0;rw[hr,Option.bind_some,if_pos (by simp[jB];omega)];refine YO (e:=λi:Nat=>PyData.int ((Dn.length:Int)+(i:Int))) λi hi=>?_
  have hi:=List.mem_range.mp hi;obtain⟨q,hq⟩:∃q,Q[i]?=some q:=⟨_,List.getElem?_eq_getElem hi⟩;have hg:Q.getD i (λ_=>0)=q:=by rw[List.getD_eq_getElem?_getD,hq];rfl
  rw[show(Dn.length:Int)+(i:Int)=((Dn.length+i:Nat):Int) by omega];show((zK (op2 neD (op2 ixD (op2 ixD (op2 ixD (gb 1) (gv 0)) (gv 2)) (cst (.int 0))) (cst (.int 0)))) [.pu (zD (Dn.length+i)),.ow (Dn++zB n Q),.pu (zD k)]).bind _=_
  rw[Vc (q:=q k) ((zf ((zf rfl rfl).trans (VL (zfe rfl hq))) rfl).trans (Ue (t:=false) hk)),Option.bind_some,hg];by_cases z:decide (q k≠0)=true
  ·rw[if_pos z,if_pos z];rfl
  ·rw[if_neg z,if_neg z]
 have hkk:n - k=(n - (k+1))+1:=by omega
 rcases WN k Q with⟨h1,h2⟩|⟨i,rest,q,h1,h2,h3⟩
 ·refine⟨_,(zx (xj hat)).trans ((xH ?_).trans rfl),Dn,Q,R,T,F,C,d,.pu (zD k),.ow [],o5,o6,o7,o8,?_,hlen,eb,hR,?_⟩
  ·rw[h1];exact zA rfl
  ·rw[h1];rfl
  ·rw[<-hrk,hkk];show _=(match pick k Q with |none=>rk (n - (k+1)) (k+1) Q|some p=>1+rk (n - (k+1)) (k+1) (p.2.map (el p.1 k)))+_
   rw[h2]
 ·have hi:i<Q.length:=(List.getElem?_eq_some_iff.mp h2).1;have hqm:=List.mem_of_getElem? h2
  have⟨hb,_⟩:=ui h3;have⟨R',T',F',C',d',eb',hR'⟩:=eb.step hk h3;have hel:(Q.eraseIdx i).length=Q.length - 1:=by rw[List.length_eraseIdx,if_pos hi]
  have qs:∀q'∈Q.eraseIdx i,∀x,x<n->Bq s (q' x):=λq' hq'=>bq q' (List.mem_of_mem_eraseIdx hq')
  generalize hA:((List.range Q.length).filter (λi=>decide ((Q.getD i λ_=>0) k≠0))).map (λi:Nat=>PyData.int ((Dn.length:Int)+(i:Int)))=atD at hat;have hA0:atD=zD (Dn.length+i)::rest.map (λi:Nat=>PyData.int ((Dn.length:Int)+(i:Int))):=by
   rw[<-hA,h1];show PyData.int ((Dn.length:Int)+(i:Int))::_=_
   rw[show(Dn.length:Int)+(i:Int)=((Dn.length+i:Nat):Int) by omega]
  obtain⟨z6,z7,z8,el⟩:=zd1 (n:=n) (k:=k) (a:=Dn.length) (s:=s) (Dn:=Dn) (b:=q) (Q:=Q.eraseIdx i) (x0:=x0) (x4:=.ow atD) hn hk hb rfl (by omega) hs (bq q hqm) qs (λq' hq' x hx=>zmu eb hzR.1 hzR.2 (List.mem_of_mem_eraseIdx hq') hqm hk hb x hx) o6 o7 o8;have e1:zK (op2 gtI (zh yk (aC (gb 4) a0)) (cst (.int 0))) [x0,.ow (Dn++zB n Q),.pu (zD Dn.length),.pu (zD k),.ow atD,o5,o6,o7,o8]=some true:=by
   refine zA ((zf (x:=.int (atD.length:Int)) rfl rfl).trans ?_);show some (PyData.bool (decide ((0:Int)<(atD.length:Int))))=_
   rw[decide_eq_true (by rw[hA0,List.length_cons];omega)]
  have e2:zeB 5 1 (op2 ixD (gb 4) (cst (.int 0))) [x0,.ow (Dn++zB n Q),.pu (zD Dn.length),.pu (zD k),.ow atD,o5,o6,o7,o8]=some (.nx [x0,.ow (Dn++zB n (Q.eraseIdx i)),.pu (zD Dn.length),.pu (zD k),.ow atD,.pu (yi n q),o6,o7,o8]):=by
   refine(zjy (a:=Dn.length+i) (ds:=Dn++zB n Q) (d:=yi n q) rfl ?_ (zfe rfl h2) (by omega)).trans ?_
   ·refine(zf (x:=.list atD) rfl rfl).trans ?_;rw[hA0];exact VL (a:=0) rfl
   ·rw[erase_left rfl];rfl
  have e3:inS 1 (gv 2) (gv 5) [x0,.ow (Dn++zB n (Q.eraseIdx i)),.pu (zD Dn.length),.pu (zD k),.ow atD,.pu (yi n q),o6,o7,o8]=some (.nx [x0,.ow (Dn++yi n q::zB n (Q.eraseIdx i)),.pu (zD Dn.length),.pu (zD k),.ow atD,.pu (yi n q),o6,o7,o8]):=by
   refine(zjZ (k:=Dn.length) (ds:=Dn++zB n (Q.eraseIdx i)) (d:=yi n q) rfl rfl rfl (by omega) (by rw[List.length_append,List.length_map];omega)).trans ?_;rw[List.take_left' rfl,List.drop_left' rfl];rfl
  refine⟨[x0,.ow (Dn++yi n q::zB n ((Q.eraseIdx i).map (WD.DT.el q k))),.pu (zD (Dn.length+1)),.pu (zD k),.ow atD,.pu (yi n q),z6,z7,z8],(zx (xj hat)).trans ((wD e1).trans ((zx e2).trans ((zx e3).trans ((zx el).trans (zQ (d:=zD (Dn.length+1)) rfl))))),?_⟩
  ·refine⟨Dn++[yi n q],(Q.eraseIdx i).map (WD.DT.el q k),R',T',F',C',d',.pu (zD k),.ow atD,.pu (yi n q),z6,z7,z8,?_,?_,eb',?_,?_⟩
   ·rw[List.append_assoc,List.length_append];rfl
   ·rw[List.length_append,List.length_map,List.length_singleton];omega
   ·rw[hR',hR,List.length_append];rfl
   ·rw[<-hrk,hkk,List.length_append,List.length_singleton];show _=(match pick k Q with |none=>rk (n - (k+1)) (k+1) Q|some p=>1+rk (n - (k+1)) (k+1) (p.2.map (WD.DT.el p.1 k)))+_
    rw[h3];show _=1+rk (n - (k+1)) (k+1) ((Q.eraseIdx i).map (WD.DT.el q k))+_
    omega
theorem zhU:∀m k,rk m k []=0
 |0,_=>rfl
 |m+1,k=>zhU m (k+1)
structure Rb(n B X s:Nat)(L:LQr):Prop where
 ex:∀q∈L,∃(l:Z1x)(M:Nat),0<M/\M<=X/\∀x,x<n->(l x).natAbs<=B/\(l x:Rat)=(M:Rat)*q x
 hl:L.length<500
 hs:3*s<=8999
 hz:∀j,j<=L.length->j<=n->X*(n*B) ^ j<2 ^ s/\n*((n*(n*B) ^ j)*B)<2 ^ s
theorem WC{n B X s:Nat}{L:LQr}(hn:n<=42)(h:Rb n B X s L):Jd [.list (zB n L)]=some (zD (rk n 0 L)):=by
 have hl:=h.hl;have e1:zR 1 [] (yt (gv 0)) (bN 0) (yu (xU Uc (aC (gv 0) a0))) [.pu (.list (zB n L)),.no,.no,.no,.no,.no,.no,.no,.no]=some (zB n L):=zP (xs:=L) (e:=yi n) (jc rfl) (by omega) λq _=>yy.trans rfl
 have start:LS n B X L (.pu (.list (zB n L))) 0 [.pu (.list (zB n L)),.ow (zB n L),.pu (zD 0),.no,.no,.no,.no,.no,.no]:=⟨[],L,[],[],List.range n,(List.range n).map xc,1,.no,.no,.no,.no,.no,.no,rfl,by simp,zk2 h.ex,rfl,rfl⟩;have hit:∃w,(w=n\/L=[])/\xK (aC (ifE (zK (op2 gtI (zh yk (aC (gb 1) a0)) (cst (.int 0)))) (zh yk (aC (op2 ixD (gb 1) (cst (.int 0))) a0)) (cst (.int 0))) a0) [.pu (.list (zB n L)),.ow (zB n L),.pu (zD 0),.no,.no,.no,.no,.no,.no]=some (jB 0 w)/\w<=n:=by
  cases L with
  |nil=>exact⟨0,.inr rfl,Vj (n:=0) (zk ((zkC (zA rfl)).trans rfl) rfl) (by omega),Nat.zero_le _⟩
  |cons q L=>
   refine⟨n,.inl rfl,Vj (n:=n) (zk ((zkD (zA ((zf (x:=.int ((zB n (q::L)).length:Int)) rfl rfl).trans ?_))).trans ((zb (zk ((zf rfl rfl).trans (VL (a:=0) (d:=yi n q) rfl)) rfl)).trans (Zz false n q))) rfl) (by omega),Nat.le_refl _⟩;show some (PyData.bool (decide ((0:Int)<((zB n (q::L)).length:Int))))=_
   rw[decide_eq_true (by rw[List.length_map,List.length_cons];omega)]
 obtain⟨w,hw,hit,hwn⟩:=hit;obtain⟨ρ',e2,P⟩:=VX (ds:=jB 0 w) (it:=xK (aC (ifE (zK (op2 gtI (zh yk (aC (gb 1) a0)) (cst (.int 0)))) (zh yk (aC (op2 ixD (gb 1) (cst (.int 0))) a0)) (cst (.int 0))) a0)) (bd:=bN 3) (b:=lrA)
  (ρ0:=[.pu (.list (zB n L)),.ow (zB n L),.pu (zD 0),.no,.no,.no,.no,.no,.no]) (λk ρ=>LS n B X L (.pu (.list (zB n L))) k ρ) hit start λk d ρ hd hP=>by
   obtain⟨hk,rfl⟩:=VG hd;obtain⟨ρ2,a1,a2⟩:=zd2 hn (show k<n by omega) hl h.hs h.hz hP;refine⟨ρ.set 3 (.pu (zD k)),ρ2,?_,a1,a2⟩;rw[show(0:Int)+(k:Int)=(k:Int) by omega];rfl
 rw[show(jB 0 w).length=w by simp[jB]] at P;obtain⟨Dn,Q,R,T,F,C,d,o3,o4,o5,o6,o7,o8,rfl,hlen,_,_,hrk⟩:=P;have hfin:Dn.length=rk n 0 L:=by
  rcases hw with rfl|rfl
  ·rw[Nat.sub_self] at hrk;rw[<-hrk];show _=0+_
   omega
  ·rw[zhU]
   have:Dn.length+Q.length=0:=hlen;omega
 refine zM rfl ?_;refine(zx (xj e1)).trans ((zx (ρ':=[.pu (.list (zB n L)),.ow (zB n L),.pu (zD 0),.no,.no,.no,.no,.no,.no]) rfl).trans ((zx e2).trans (zy ?_)));rw[<-hfin];rfl
theorem zkb{n:Nat}{x:Q1x}:InQ n [] x↔∀y,y<n->x y=0:=by
 constructor
 ·intro h y hy
  have:=h (λz=>if z=y then 1 else 0) λl hl=>by cases hl
  have e:dq n (λz=>if z=y then 1 else 0) x=x y:=by
   show sumTo n (λz=>(if z=y then (1:Rat) else 0)*x z)=x y
   rw[yR _ n hy λz _ hne=>by rw[if_neg hne,Rat.zero_mul],if_pos rfl,Rat.one_mul]
  rw[e] at this;exact this
 ·intro h w _;show sumTo n (λz=>w z*x z)=0
  rw[zd n (g:=λ_=>0) λz hz=>by rw[h z hz,Rat.mul_zero],yJ]
theorem Jz{n B X s:Nat}{L:LQr}{x:Q1x}(hn:n<=42)(h:Rb n B X s (L++[x]))(h':Rb n B X s L):∃b:Bool,yL [.list (zB n L),yi n x]=some (.bool b)/\(b=true↔InQ n L x):=by
 have hl:=h'.hl;have et:zK (op2 eqD (zh yk (aC (gv 0) a0)) (cst (.int 0))) [.pu (.list (zB n L)),.pu (yi n x)]=some (decide (L=[])):=by
  refine zA ((zf (x:=.int ((zB n L).length:Int)) rfl rfl).trans ((UU _ _).trans ?_));rw[List.length_map];refine congrArg (λb=>some (PyData.bool b)) (decide_eq_decide.mpr ?_);constructor
  ·intro e;exact List.length_eq_zero_iff.mp (by omega)
  ·intro e;rw[e];rfl
 by_cases hL:L=[]
 ·subst hL;have hc:u0 1 [] (yt (gv 1)) (bN 0) (zK (op2 neD (op2 ixD (gv 0) (cst (.int 0))) (cst (.int 0)))) (gv 0) [.pu (.list (zB n [])),.pu (yi n x)]=some (((List.range n).filter λi=>decide (x i≠0)).map λi=>fr (x i)):=by
   unfold u0;rw[show yt (gv 1) [.pu (.list (zB n [])),.pu (yi n x)]=some ((List.range n).map λi=>fr (x i)) from jc rfl,Option.bind_some,if_pos (by rw[List.length_map,List.length_range];omega)];refine YO (e:=λi:Nat=>fr (x i)) λi _=>?_
   show((zK (op2 neD (op2 ixD (gv 0) (cst (.int 0))) (cst (.int 0)))) [.pu (fr (x i))]).bind (λok=>if ok=true then Option.map some (gv 0 [.pu (fr (x i))]) else some none)=_
   rw[Vc (q:=x i) rfl,Option.bind_some];by_cases z:decide (x i≠0)=true
   ·rw[if_pos z,if_pos z];rfl
   ·rw[if_neg z,if_neg z]
  refine⟨_,zM rfl (Uj ((wD (et.trans (by rw[decide_eq_true rfl]))).trans (zy ((zf ((zb (zk (zZ hc) rfl)).trans rfl) rfl).trans (UU _ _))))),?_⟩;rw[List.length_map,zkb,decide_eq_true_iff];constructor
  ·intro e y hy;have e2:(List.range n).filter (λi=>decide (x i≠0))=[]:=List.length_eq_zero_iff.mp (by omega)
   have:=List.filter_eq_nil_iff.mp e2 y (List.mem_range.mpr hy);exact Classical.not_not.mp λz=>this (decide_eq_true z)
  ·intro e;rw[List.filter_eq_nil_iff.mpr λy hy=>by rw[e y (List.mem_range.mp hy)];simp];rfl
 ·have ec:zma zhM (gv 0) (yu (vw (aC (gv 1) a0))) [.pu (.list (zB n L)),.pu (yi n x)]=some (zB n (L++[x])):=by
   show zhM (.list (zB n L)) (.list [yi n x])=_
   show(if (zB n L).length+[yi n x].length<=16777216 then some (zB n L++[yi n x]) else none)=_
   rw[if_pos (by rw[List.length_map,List.length_singleton];omega),show zB n (L++[x])=zB n L++[yi n x] from List.map_append]
  refine⟨_,zM rfl ((zx ((xH (et.trans (by rw[decide_eq_false hL]))).trans rfl)).trans (zy ((zf ((zb (zk (zZ ec) rfl)).trans (WC hn h)) ((zb rfl).trans (WC hn h'))).trans (UU _ _)))),?_⟩;rw[<-zgp (n:=n) L x,decide_eq_true_iff];omega
theorem zds{bd:PyData->Ro->Option Ro}{b:RFx}{d:PdX}(P:Ro->Prop):∀{ds:LPd} {ρ0:Ro} (p:Nat->Prop),P ρ0->
  (∀i dd ρ,ds[i]?=some dd->P ρ->∃ρ1,bd dd ρ=some ρ1/\((p i/\∃ρ2,b ρ1=some (.nx ρ2)/\P ρ2)\/(¬p i/\b ρ1=some (.rt d))))->
  ((∀i,i<ds.length->p i)/\∃ρ',YL bd b ds ρ0=some (.nx ρ')/\P ρ')\/((¬∀i,i<ds.length->p i)/\YL bd b ds ρ0=some (.rt d))
 |[],ρ0,p,h0,_=>.inl ⟨λi hi=>absurd hi (Nat.not_lt_zero i),ρ0,rfl,h0⟩
 |dd::r,ρ0,p,h0,h=>by
  have⟨ρ1,e1,q⟩:=h 0 dd ρ0 rfl h0;rcases q with⟨hp,ρ2,e2,hP⟩|⟨hp,e2⟩
  ·have st:YL bd b (dd::r) ρ0=YL bd b r ρ2:=by
    show(bd dd ρ0).bind _=_
    rw[e1,Option.bind_some,e2]
   rcases zds P (ds:=r) (ρ0:=ρ2) (λi=>p (i+1)) hP λi d' ρ e q=>h (i+1) d' ρ (by simpa using e) q with⟨a1,ρ',a2,a3⟩|⟨a1,a2⟩
   ·refine .inl ⟨λi hi=>?_,ρ',st.trans a2,a3⟩;cases i with
    |zero=>exact hp
    |succ i=>exact a1 i (by simpa using hi)
   ·exact .inr ⟨λz=>a1 λi hi=>z (i+1) (by simpa using hi),st.trans a2⟩
  ·refine .inr ⟨λz=>hp (z 0 (by simp)),?_⟩;show(bd dd ρ0).bind _=_
   rw[e1,Option.bind_some,e2]
theorem zb3{it:RLx}{bd:PyData->Ro->Option Ro}{b:RFx}{ds:LPd}{ρ0:Ro}{d:PdX}(P:Ro->Prop)(p:Nat->Prop)(hi:it ρ0=some ds)(h0:P ρ0)(h:∀i dd ρ,ds[i]?=some dd->P ρ->∃ρ1,bd dd ρ=some ρ1/\((p i/\∃ρ2,b ρ1=some (.nx ρ2)/\P ρ2)\/(¬p i/\b ρ1=some (.rt d)))):((∀i,i<ds.length->p i)/\∃ρ',vc it bd b ρ0=some (.nx ρ')/\P ρ')\/((¬∀i,i<ds.length->p i)/\vc it bd b ρ0=some (.rt d)):=by
 have e:vc it bd b ρ0=YL bd b ds ρ0:=by
  unfold vc;rw[hi];rfl
 rw[e];exact zds P p h0 h
section
variable{n m s:Nat}{fi gi la lb:Q1x}{st su:Q3x}
theorem zcq(hn:n<=42)(hm:m<=42)(hs:s<=42):uQ [zr n s fi st la,zr m s gi su lb]=some (zr (n+m) s (jn n fi gi) (xr n st su) (jn n la λi=>-(lb i))):=by
 refine zM rfl ((zx (zQ (d:=z9 m λi=>-(lb i)) ?_)).trans (zy ?_))
 ·refine(zb (xs:=[.list ((List.range m).map λi=>fr (-(lb i)))]) (zk (zZ (zP (xs:=List.range m) (e:=λi=>fr (lb i)) (wW ((zf rfl rfl).trans uv)) (by rw[List.length_range];omega) λi _=>yy.trans (zks (i:=0) rfl))) rfl)).trans rfl
 ·exact(zb (zk rfl (zk ((WM ((zf rfl rfl).trans xQ) ((zf rfl rfl).trans vE) rfl).trans rfl) rfl))).trans (ZY hn hm hs)
end
def Ex(n B X:Nat)(q:Q1x):Prop:=∃(l:Z1x)(M:Nat),0<M/\M<=X/\∀x,x<n->(l x).natAbs<=B/\(l x:Rat)=(M:Rat)*q x
structure Rz(n B X s len:Nat):Prop where
 hl:len+1<500
 hs:3*s<=8999
 hz:∀j,j<=len+1->j<=n->X*(n*B) ^ j<2 ^ s/\n*((n*(n*B) ^ j)*B)<2 ^ s
theorem Rz.rb{n B X s:Nat}{L:LQr}(h:Rz n B X s L.length)(hL:∀q∈L,Ex n B X q):Rb n B X s L:=⟨hL,by have:=h.hl;omega,h.hs,λj hj hn=>h.hz j (by omega) hn⟩
theorem Rz.rb1{n B X s:Nat}{L:LQr}{x:Q1x}(h:Rz n B X s L.length)(hL:∀q∈L,Ex n B X q)(hx:Ex n B X x):Rb n B X s (L++[x]):=⟨λq hq=>by
 rcases List.mem_append.mp hq with z|z
 ·exact hL q z
 ·rw[List.mem_singleton.mp z];exact hx,by rw[List.length_append];exact h.hl,h.hs,λj hj hn=>h.hz j (by rw[List.length_append] at hj;exact hj) hn⟩
def Sw(n s:Nat)(fi:Q1x)(st:Q3x)(la:Q1x)(K:LQr):Prop:=InQ n K fi/\∀r∈K,sumTo n (λi=>r i*la i)=0/\∀g,g<s->InQ n K (led n r (st g))
theorem zbn{n s B X z kr ks kl:Nat}{x y:PdX}{fi la:Q1x}{st:Q3x}{K:LQr}(hb:uQ [x,y]=some (zr n s fi st la))(hn:n<=42)(hs:s<=42)(hz:Rz n B X z K.length)(hK:∀q∈K,Ex n B X q)(hfi:Ex n B X fi)(hled:∀r∈K,∀g,g<s->Ex n B X (led n r (st g)))(hkr:∀r∈K,∀i,i<n->Sk kr (r i))(hks:∀g a b,g<s->a<n->b<n->Sk ks (st g a b))(hkl:∀i,i<n->Sk kl (la i))(k1:kr+ks<=398)(k2:kr+kl<=398):∃b:Bool,vk [x,y,.list (zB n K)]=some (.bool b)/\(b=true↔Sw n s fi st la K):=by
 have hl:=hz.hl;have rbK:=hz.rb hK
 obtain⟨b0,e0,i0⟩:=Jz hn (hz.rb1 hK hfi) rbK;have ek:zR 1 [] (yt (gv 2)) (bN 0) (yu (xU Uc (aC (gv 0) a0))) [.pu x,.pu y,.pu (.list (zB n K)),.pu (zr n s fi st la),.no,.no,.no]=some (zB n K):=zP (xs:=K) (e:=yi n) (jc rfl) (by omega) λq _=>yy.trans rfl
 have et:zab (zK (ZN yL (aC (gb 4) (aC (yu (xU Uc (aC (op2 ixD (gv 3) (cst (.int 0))) a0))) a0)))) [.pu x,.pu y,.pu (.list (zB n K)),.pu (zr n s fi st la),.ow (zB n K),.no,.no]=some (!b0):=zfy (zA (zhG (r:=.bool b0) (zk rfl (zk (zZ ((jH (zk ((zf rfl rfl).trans xQ) rfl)).trans rfl)) rfl)) e0 rfl));have head:∀r,sq (ifS (zab (zK (ZN yL (aC (gb 4) (aC (yu (xU Uc (aC (op2 ixD (gv 3) (cst (.int 0))) a0))) a0))))) (retS (cst (.bool false))) s0) r [.pu x,.pu y,.pu (.list (zB n K)),.pu (zr n s fi st la),.ow (zB n K),.no,.no]=if b0=true then r [.pu x,.pu y,.pu (.list (zB n K)),.pu (zr n s fi st la),.ow (zB n K),.no,.no] else some (.rt (.bool false)):=λr=>by
  cases b0 with
  |true=>rw[if_pos rfl];exact zx ((xH et).trans rfl)
  |false=>rw[if_neg Bool.false_ne_true];exact Uj ((wD et).trans (zy rfl))
 by_cases hb0:b0=true
 ·-- the rows one by one
  have loop:=zb3 (it:=yt (gv 4)) (bd:=bN 5) (ds:=zB n K) (d:=.bool false)
   (b:=sq (ifS (zK (op2 neD (op2 ixD (zh jx (aC (gv 5) (aC (op2 ixD (gv 3) (cst (.int 2))) a0))) (cst (.int 0))) (cst (.int 0)))) (retS (cst (.bool false))) s0)
 (vc (yt (op2 ixD (gv 3) (cst (.int 1)))) (bN 6) (ifS (zab (zK (zh yL (aC (gv 4) (aC (yu (xU j9 (aC (gv 5) (aC (gv 6) a0)))) a0))))) (retS (cst (.bool false))) s0)))
   (ρ0:=[.pu x,.pu y,.pu (.list (zB n K)),.pu (zr n s fi st la),.pu (.list (zB n K)),.no,.no]) (λρ=>∃o5 o6,ρ=[.pu x,.pu y,.pu (.list (zB n K)),.pu (zr n s fi st la),.pu (.list (zB n K)),o5,o6])
   (λi=>∀r,K[i]?=some r->sumTo n (λi=>r i*la i)=0/\∀g,g<s->InQ n K (led n r (st g))) (jc rfl) ⟨.no,.no,rfl⟩ (λi dd ρ hd ⟨o5,o6,e⟩=>by
    subst e;rw[List.getElem?_map] at hd;obtain⟨r,hr,rfl⟩:=map_some hd;have hrm:=List.mem_of_getElem? hr;refine⟨_,rfl,?_⟩;have ed:jx [yi n r,z9 n la]=some (fr (sumTo n λi=>r i*la i)):=YW (t:=false) (u:=true) (k:=kr+kl) hn (by omega) λi hi=>⟨(hkr r hrm i hi).bq (by omega),(hkl i hi).bq (by omega),(hkr r hrm i hi).mul (hkl i hi)⟩
    have eT:zK (op2 neD (op2 ixD (zh jx (aC (gv 5) (aC (op2 ixD (gv 3) (cst (.int 2))) a0))) (cst (.int 0))) (cst (.int 0))) [.pu x,.pu y,.pu (.list (zB n K)),.pu (zr n s fi st la),.pu (.list (zB n K)),.pu (yi n r),o6]=some (decide (sumTo n (λi=>r i*la i)≠0)):=Vc ((zb (zk rfl (zk ((zf rfl rfl).trans uv) rfl))).trans ed);by_cases hd0:sumTo n (λi=>r i*la i)=0
    ·have inner:=zb3 (it:=yt (op2 ixD (gv 3) (cst (.int 1)))) (bd:=bN 6) (ds:=(List.range s).map λg=>yv n (st g)) (d:=.bool false)
      (b:=ifS (zab (zK (zh yL (aC (gv 4) (aC (yu (xU j9 (aC (gv 5) (aC (gv 6) a0)))) a0))))) (retS (cst (.bool false))) s0)
      (ρ0:=[.pu x,.pu y,.pu (.list (zB n K)),.pu (zr n s fi st la),.pu (.list (zB n K)),.pu (yi n r),o6]) (λρ=>∃o6,ρ=[.pu x,.pu y,.pu (.list (zB n K)),.pu (zr n s fi st la),.pu (.list (zB n K)),.pu (yi n r),o6])
      (λg=>InQ n K (led n r (st g))) (wW ((zf rfl rfl).trans vE)) ⟨o6,rfl⟩ (λg dd ρ hd ⟨o6,e⟩=>by
       subst e;obtain⟨hg,rfl⟩:g<s/\dd=yv n (st g):=by
        rw[List.getElem?_map] at hd;obtain⟨g',hg',rfl⟩:=map_some hd;have hlt:=(List.getElem?_eq_some_iff.mp hg').1;rw[List.length_range] at hlt;rw[List.getElem?_range hlt] at hg';cases hg';exact⟨hlt,rfl⟩
       refine⟨_,rfl,?_⟩;obtain⟨b1,e1,i1⟩:=Jz hn (hz.rb1 hK (hled r hrm g hg)) rbK;have eg:zab (zK (zh yL (aC (gv 4) (aC (yu (xU j9 (aC (gv 5) (aC (gv 6) a0)))) a0)))) [.pu x,.pu y,.pu (.list (zB n K)),.pu (zr n s fi st la),.pu (.list (zB n K)),.pu (yi n r),.pu (yv n (st g))]=some (!b1):=zfy (zA ((zb (zk rfl (zk (zZ ((jH rfl).trans (zeo (t:=false) hn (hkr r hrm) (λa b ha hb=>hks g a b hg ha hb) (by omega)))) rfl))).trans e1));cases b1 with
       |true=>exact .inl ⟨i1.mp rfl,_,(xH eg).trans rfl,_,rfl⟩
       |false=>exact .inr ⟨λz=>(by have:=i1.mpr z;cases this),(wD eg).trans (zy rfl)⟩)
     rw[List.length_map,List.length_range] at inner;rcases inner with⟨a1,ρ',a2,o6',rfl⟩|⟨a1,a2⟩
     ·exact .inl ⟨λr' hr'=>by rw[hr] at hr';cases hr';exact⟨hd0,λg hg=>a1 g hg⟩,_,(zx ((xH (eT.trans (by rw[decide_eq_false λz=>z hd0]))).trans rfl)).trans a2,_,_,rfl⟩
     ·exact .inr ⟨λz=>a1 λg hg=>(z r hr).2 g hg,(zx ((xH (eT.trans (by rw[decide_eq_false λz=>z hd0]))).trans rfl)).trans a2⟩
    ·exact .inr ⟨λz=>hd0 (z r hr).1,Uj ((wD (eT.trans (by rw[decide_eq_true hd0]))).trans (zy rfl))⟩)
  rw[List.length_map] at loop;have hi0:=i0.mp hb0;rcases loop with⟨a1,ρ',a2,o5,o6,rfl⟩|⟨a1,a2⟩
  ·refine⟨true,zM rfl ((zx (zQ ((zb rfl).trans hb))).trans ((zx (xj ek)).trans ((head _).trans ?_))),λ_=>⟨hi0,λr hr=>?_⟩,λ_=>rfl⟩
   ·rw[if_pos hb0];exact(zx (show frS 4 _ _=_ from a2)).trans (zy rfl)
   ·obtain⟨i,hi⟩:=List.getElem?_of_mem hr;exact a1 i (List.getElem?_eq_some_iff.mp hi).1 r hi
  ·refine⟨false,zM rfl ((zx (zQ ((zb rfl).trans hb))).trans ((zx (xj ek)).trans ((head _).trans ?_))),λz=>(by cases z),λz=>absurd (λi _ r hr=>z.2 r (List.mem_of_getElem? hr)) a1⟩;rw[if_pos hb0];exact Uj (show frS 4 _ _=_ from a2)
 ·refine⟨false,zM rfl ((zx (zQ ((zb rfl).trans hb))).trans ((zx (xj ek)).trans ((head _).trans (if_neg hb0)))),λz=>(by cases z),λz=>absurd (i0.mpr z.1) hb0⟩
abbrev KL(L:WR):List (Nat->Rat):=L.map λq=>rt q.2
section
variable{n s k B m:Nat}{st:Q3x}{fi la:Q1x}{L:WR}{CS:AdX}
theorem zgE{x y:PdX}(h:jq CS [x,y]=some (.tuple [.none,.list (L.map λq=>yd n q.2)]))(hn:n<=42)(hl:L.length<=1000):j8 CS [x,y]=some (.list (zB n (KL L))):=by
 refine zM rfl ((zx (zQ ((zb rfl).trans h))).trans ((zx ((xH (zA ?_)).trans rfl)).trans (zy (zZ ?_))))
 ·rfl
 ·refine(zP (xs:=L) (e:=λq=>yd n q.2) (d:=λq=>yi n (rt q.2)) (jc rfl) (by omega) λq _=>?_).trans (congrArg some (show _=(L.map λq=>rt q.2).map (yi n) by rw[List.map_map];rfl));refine yy.trans (zZ ?_);exact zP (xs:=List.range n) (e:=λi=>.int (q.2 i)) (d:=λi=>fr (rt q.2 i)) (jc rfl) (by rw[List.length_range];omega) λi _=>yy.trans ((jL rfl (by show 2<=16777216;omega)).trans rfl)
theorem ze7{R:LZr}{x:Q1x}:In n R.reverse x↔InQ n (R.map rt) x:=by
 constructor
 ·intro h w hw;exact h w λr hr=>hw _ (List.mem_map.mpr ⟨r,List.mem_reverse.mp hr,rfl⟩)
 ·intro h w hw;refine h w λl hl=>?_
  obtain⟨r,hr,rfl⟩:=List.mem_map.mp hl;exact hw r (List.mem_reverse.mpr hr)
theorem zcl.sw(h:zcl n s st fi la L)(hs:0<s):Sw n s fi st la (KL L):=by
 have⟨T,F,C,d,a,h1,h2,h3⟩:=h;have e:KL L=(L.map (·.2)).map rt:=by rw[List.map_map];rfl
 rw[e];refine⟨ze7.mp (h1.rs.zhZ hs h2 [] λg hg=>by cases hg),λr hr=>?_⟩;rw[<-e] at hr;obtain⟨q,hq,rfl⟩:=List.mem_map.mp hr;refine⟨?_,λg hg=>ze7.mp (h1.rs.zen hs h2 g _ hg λw hw=>hw q.2 (List.mem_reverse.mpr (List.mem_map.mpr ⟨q,hq,rfl⟩)))⟩;have⟨c,hc,hr⟩:=h1.mult hq;have e2:sumTo n (λi=>rt q.2 i*la i)=wt n st fi la q.1*c:=by
  unfold wt;rw[<-zG];exact zd n λi hi=>by
   show(q.2 i:Rat)*la i=_
   rw[hr i hi];grind
 rw[e2,h3 q hq,Rat.zero_mul]
theorem zcl.len(h:zcl n s st fi la L):L.length<=n:=by
 have⟨T,F,C,d,a,h1,h2,h3⟩:=h;have l:=h1.lens;omega
theorem zcl.abs(h:zcl n s st fi la L)(b:Bd n s st fi k B m):∀q∈L,∀x,x<n->(q.2 x).natAbs<=B:=by
 have⟨T,F,C,d,a,h1,h2,h3⟩:=h;exact λq hq=>h1.abs b hq
end
theorem Ex.mono{n B X B' X':Nat}{q:Q1x}(h:Ex n B X q)(hB:B<=B')(hX:X<=X'):Ex n B' X' q:=by
 have⟨l,M,h1,h2,h3⟩:=h;exact⟨l,M,h1,Nat.le_trans h2 hX,λx hx=>⟨Nat.le_trans (h3 x hx).1 hB,(h3 x hx).2⟩⟩
theorem zim{n M N:Nat}{q:Q1x}(hM:0<M)(h:∀x,x<n->InB M N (q x)):Ex n N M q:=⟨λx=>jj (q x) M,M,hM,Nat.le_refl _,λx hx=>⟨(Vk (h x hx)).2,by rw[(Vk (h x hx)).1];exact Rat.mul_comm _ _⟩⟩
theorem zkU{n B:Nat}{r:Z1x}(h:∀x,x<n->(r x).natAbs<=B):Ex n B 1 (rt r):=⟨r,1,by decide,Nat.le_refl _,λx hx=>⟨h x hx,by show(r x:Rat)=((1:Nat):Rat)*(r x:Rat);rw[show((1:Nat):Rat)=1 from rfl,Rat.one_mul]⟩⟩
theorem zdg{B:Nat}{z:Int}(h:z.natAbs<=B):InB 1 B (z:Rat):=⟨by decide,z,by rw[show((1:Nat):Rat)=1 from rfl,Rat.mul_one],h⟩
theorem zlh{b k:Nat}{z:Int}(h:z.natAbs<=2 ^ b)(hk:b+3*k<=8*k):Sk k (z:Rat):=by
 have:=InB.up (zdg h) (c:=6 ^ k) (yN k);rw[Nat.one_mul] at this;exact this.mono (vD (Nat.le_refl _) (zgG k) hk)
end L2.Fu
namespace L2.Fu
open PySem WS WD WD.DT
def Tb(a b:Nat)(q:Rat):Prop:=InB (6 ^ a) (2 ^ b) q
theorem Tb.zero(a b:Nat):Tb a b 0:=InB.zero (yN a)
theorem Tb.mul{a b c d:Nat}{q r:Rat}(h:Tb a b q)(k:Tb c d r):Tb (a+c) (b+d) (q*r):=by
 have:=InB.mul h k;rw[<-Nat.pow_add,<-Nat.pow_add] at this;exact this
theorem Tb.up{a b c d:Nat}{q:Rat}(h:Tb a b q)(hc:a<=c)(hd:b+3*(c - a)<=d):Tb c d q:=by
 obtain⟨e,rfl⟩:=Nat.exists_eq_add_of_le hc
 have:=InB.up h (c:=6 ^ e) (yN e);rw[<-Nat.pow_add] at this;exact this.mono (vD (Nat.le_refl _) (zgG e) (by omega))
theorem Tb.mono{a b d:Nat}{q:Rat}(h:Tb a b q)(hd:b<=d):Tb a d q:=InB.mono h (Nat.pow_le_pow_right (by decide) hd)
theorem Tb.sum{n a b v:Nat}{f:Q1x}(hn:n<=2 ^ v)(h:∀i,i<n->Tb a b (f i)):Tb a (b+v) (sumTo n f):=(vQ (yN a) n h).mono (vD hn (Nat.le_refl _) (by omega))
theorem Tb.sk{a b k:Nat}{q:Rat}(h:Tb a b q)(hk:a<=k)(hb:b+3*(k - a)<=8*k):Sk k q:=Tb.up h hk hb
theorem Tb.neg{a b:Nat}{q:Rat}(h:Tb a b q):Tb a b (-q):=by
 have⟨x,e,hx⟩:=h.ex;exact⟨h.pos,-x,by rw[Rat.intCast_neg,<-e];grind,by rw[Int.natAbs_neg];exact hx⟩
theorem Fq.tb{q:Rat}(h:Fq q):Tb 1 5 q:=h
structure Wm(n s:Nat)(fi:Q1x)(st:Q3x)(p q:Nat)(α β:Nat->Nat):Prop where
 fi:∀x,x<n->Tb (α x) (β x) (fi x)
 st:∀g x y,g<s->x<n->y<n->st g x y=0\/(α x<=α y/\β x<=β y/\Tb (α y - α x+p) (β y - β x+q) (st g x y))
theorem Wm.row{n s p q v:Nat}{fi:Q1x}{st:Q3x}{α β:Nat->Nat}(h:Wm n s fi st p q α β)(hn:n<=2 ^ v):∀(l:Nat)(u:LNt),u.length=l->(∀g∈u,g<s)->∀y,y<n->Tb (α y+l*p) (β y+l*(q+v)) (zT n st fi u y)
 |0,u,hu,_,y,hy=>by
  have e:u=[]:=List.length_eq_zero_iff.mp hu;subst e;rw[Nat.zero_mul,Nat.zero_mul];exact h.fi y hy
 |l+1,u,hu,hg,y,hy=>by
  rcases zeW u with e|⟨w,g,e⟩
  ·rw[e] at hu;simp at hu
  subst e;have hw:w.length=l:=by simpa using hu
  have ih:=h.row hn l w hw λg' hg'=>hg g' (List.mem_append.mpr (.inl hg'))
  have hgs:g<s:=hg g (List.mem_append.mpr (.inr (List.mem_singleton.mpr rfl)));rw[vT]
  have:=Tb.sum (a:=α y+(l+1)*p) (b:=β y+l*(q+v)+q) (f:=λx=>zT n st fi w x*st g x y) hn λx hx=>by
   rcases h.st g x y hgs hx hy with z|⟨z1,z2,z3⟩
   ·rw[z,Rat.mul_zero];exact Tb.zero _ _
   ·have e1:α x+l*p+(α y - α x+p)=α y+(l+1)*p:=by rw[Nat.succ_mul];omega
    have e2:β x+l*(q+v)+(β y - β x+q)=β y+l*(q+v)+q:=by omega
    have:=(ih x hx).mul z3;rw[e1,e2] at this;exact this
  rw[show β y+(l+1)*(q+v)=β y+l*(q+v)+q+v by rw[Nat.succ_mul];omega];exact this
def jnN(n:Nat)(f g:Nat->Nat):Nat->Nat:=λx=>if x<n then f x else g (x - n)
theorem Wm.add{n m s p q:Nat}{fi gi:Q1x}{st su:Q3x}{α β α' β':Nat->Nat}(A:Wm n s fi st p q α β)(B:Wm m s gi su p q α' β'):Wm (n+m) s (jn n fi gi) (xr n st su) p q (jnN n α α') (jnN n β β') where
 fi:=λx hx=>by
  unfold jn jnN;by_cases z:x<n
  ·rw[if_pos z,if_pos z,if_pos z];exact A.fi x z
  ·rw[if_neg z,if_neg z,if_neg z];exact B.fi (x - n) (by omega)
 st:=λg x y hg hx hy=>by
  unfold xr jnM jn jnN;by_cases z:x<n
  ·rw[if_pos z];by_cases w:y<n
   ·rw[if_pos w,if_pos z,if_pos w,if_pos z,if_pos w];exact A.st g x y hg z w
   ·rw[if_neg w];exact .inl rfl
  ·rw[if_neg z];by_cases w:y<n
   ·rw[if_pos w];exact .inl rfl
   ·rw[if_neg w,if_neg z,if_neg w,if_neg z,if_neg w];exact B.st g (x - n) (y - n) hg (by omega) (by omega)
structure xl(n s:Nat)(fi:Q1x)(st:Q3x)(la:Q1x)(a b:Nat):Prop where
 fi:∀x,x<n->Tb a b (fi x)
 st:∀g x y,g<s->x<n->y<n->Tb a b (st g x y)
 la:∀x,x<n->Tb a b (la x)
section
variable{n m s a b:Nat}{fi gi la lb:Q1x}{st su:Q3x}
theorem zb5.tb(h:zb5 n s fi st la):xl n s fi st la 1 5:=⟨λx hx=>(h.fi x hx).tb,λg x y hg hx hy=>(h.st g x y hg hx hy).tb,λx hx=>(h.la x hx).tb⟩
theorem xl.up{c d:Nat}(h:xl n s fi st la a b)(hc:a<=c)(hd:b+3*(c - a)<=d):xl n s fi st la c d:=⟨λx hx=>(h.fi x hx).up hc hd,λg x y hg hx hy=>(h.st g x y hg hx hy).up hc hd,λx hx=>(h.la x hx).up hc hd⟩
theorem xl.wm(h:xl n s fi st la a b):Wm n s fi st a b (λ_=>a) λ_=>b:=⟨h.fi,λg x y hg hx hy=>.inr ⟨Nat.le_refl _,Nat.le_refl _,by rw[Nat.sub_self,Nat.sub_self,Nat.zero_add,Nat.zero_add];exact h.st g x y hg hx hy⟩⟩
theorem xl.turned(h:xl n s fi st la a b):xl n s la (λg x y=>st g y x) fi a b:=⟨h.la,λg x y hg hx hy=>h.st g y x hg hy hx,h.fi⟩
theorem UY{f g:Q1x}(hf:∀x,x<n->Tb a b (f x))(hg:∀x,x<m->Tb a b (g x))(x:Nat)(hx:x<n+m):Tb a b (jn n f g x):=by
 unfold jn;by_cases z:x<n
 ·rw[if_pos z];exact hf x z
 ·rw[if_neg z];exact hg (x - n) (by omega)
theorem xl.add(A:xl n s fi st la a b)(B:xl m s gi su lb a b):xl (n+m) s (jn n fi gi) (xr n st su) (jn n la lb) a b where
 fi:=UY A.fi B.fi
 st:=λg x y hg hx hy=>by
  unfold xr jnM;by_cases z:x<n
  ·rw[if_pos z];exact UY (λy hy=>A.st g x y hg z hy) (λy _=>Tb.zero _ _) y hy
  ·rw[if_neg z];exact UY (λy _=>Tb.zero _ _) (λy hy=>B.st g (x - n) y hg (by omega) hy) y hy
 la:=UY A.la B.la
theorem Vn{f:Q1x}(hn:n<=4)(hf:∀x,x<n->Tb 1 5 (f x))(hl:∀x,x<n->Tb 1 5 (la x)){c:Rat}(hc:Tb 1 5 c):Tb 3 17 (c*sumTo n λx=>f x*la x):=(hc.mul (Tb.sum (v:=2) (by omega) λx hx=>(hf x hx).mul (hl x hx))).mono (by decide)
theorem xl.chain(A:xl n s fi st la 1 5)(B:xl m s gi su lb 1 5)(hn:n<=4):xl (n+m) s (vv n fi la gi) (jC n st su la gi) (wq n lb) 3 17 where
 fi:=UY (λx hx=>(A.fi x hx).up (by decide) (by decide)) λx hx=>Vn hn A.fi A.la (B.fi x hx)
 st:=λg x y hg hx hy=>by
  unfold jC jnM;by_cases z:x<n
  ·rw[if_pos z];exact UY (λy hy=>(A.st g x y hg z hy).up (by decide) (by decide)) (λy hy=>Vn hn (λw hw=>A.st g x w hg z hw) A.la (B.fi y hy)) y hy
  ·rw[if_neg z];exact UY (λy _=>Tb.zero _ _) (λy hy=>(B.st g (x - n) y hg (by omega) hy).up (by decide) (by decide)) y hy
 la:=UY (λ_ _=>Tb.zero _ _) λx hx=>(B.la x hx).up (by decide) (by decide)
theorem Y2(A:xl n s fi st la 1 5)(B:xl m s gi su lb 1 5)(hn:n<=4):Wm (n+m) s (vv n fi la gi) (jC n st su la gi) 1 5 (jnN n (λ_=>1) λ_=>3) (jnN n (λ_=>5) λ_=>17) where
 fi:=λx hx=>by
  unfold vv jn jnN;by_cases z:x<n
  ·rw[if_pos z,if_pos z,if_pos z];exact A.fi x z
  ·rw[if_neg z,if_neg z,if_neg z];exact Vn hn A.fi A.la (B.fi (x - n) (by omega))
 st:=λg x y hg hx hy=>by
  unfold jC jnM jn jnN;by_cases z:x<n
  ·rw[if_pos z];by_cases w:y<n
   ·rw[if_pos w,if_pos z,if_pos w,if_pos z,if_pos w];exact .inr ⟨show 1<=1 by decide,show 5<=5 by decide,A.st g x y hg z w⟩
   ·rw[if_neg w,if_pos z,if_neg w,if_pos z,if_neg w];exact .inr ⟨show 1<=3 by decide,show 5<=17 by decide,Vn hn (λv hv=>A.st g x v hg z hv) A.la (B.fi (y - n) (by omega))⟩
  ·rw[if_neg z];by_cases w:y<n
   ·rw[if_pos w];exact .inl rfl
   ·rw[if_neg w,if_neg z,if_neg w,if_neg z,if_neg w];exact .inr ⟨show 3<=3 by decide,show 17<=17 by decide,B.st g (x - n) (y - n) hg (by omega) (by omega)⟩
end
end L2.Fu
namespace L2.Fu
open PySem WS WD WD.DT
open PySem.Builtin.Int (intBits)
section
variable{n m s β:Nat}{fi gi la lb:Q1x}{st su:Q3x}{CS:AdX}
theorem xl.mach{a b k:Nat}(h:xl n s fi st la a b)(hk:a<=k)(hb:b+3*(k - a)<=8*k):Mach n s fi st la k:=⟨λx hx=>(h.fi x hx).sk hk hb,λg x y hg hx hy=>(h.st g x y hg hx hy).sk hk hb,λx hx=>(h.la x hx).sk hk hb⟩
theorem zjS(w:LNt):wt (n+m) (xr n st su) (jn n fi gi) (jn n la λi=>lb i*(-1)) w=wt n st fi la w - wt m su gi lb w:=by
 rw[xX w (jn n fi gi) fi gi λ_ _=>rfl];have e:wt m su gi (λi=>lb i*(-1)) w=wt m su gi lb w*(-1):=by
  unfold wt;rw[<-zG];exact zd m λi _=>by grind
 rw[e];grind
theorem Y1(A:xl n s fi st la 3 17)(B:xl m s gi su lb 3 17)(hN:n+m<=14)(hs:s<=42)(hs0:0<s)(hrow:∀u:List Nat,(∀g∈u,g<s)->u.length<=n+m - 1->∃M,0<M/\∀x,x<n+m->InB M (2 ^ β) (zT (n+m) (xr n st su) (jn n fi gi) u x))(hβ:(β+25)*(n+m)+(β+29)<=2980)(hb1:β<=1900)(al:∀w:List Nat,(∀g∈w,g<s)->wt n st fi la w=wt m su gi lb w):∃K:List (Nat->Rat),j8 CS [zr n s fi st la,zr m s gi su lb]=some (.list (zB (n+m) K))/\vk [zr n s fi st la,zr m s gi su lb,.list (zB (n+m) K)]=some (.bool true):=by
 have D:=A.add B;have hβN:(β+4)*(n+m)<9000:=by
  have:(β+4)*(n+m)<=(β+25)*(n+m):=Nat.mul_le_mul_right _ (by omega);omega
 have hd:=difference_eq (fi:=fi) (st:=st) (la:=la) (B.mach (k:=3) (by decide) (by decide)) (by decide) (show n<=42 by omega) (show m<=42 by omega) hs;have bd:Bd (n+m) s (xr n st su) (jn n fi gi) (6 ^ 3) (2 ^ β) (n+m):={
  hn:=by omega
  hs:=hs
  hs0:=hs0
  hst:=λg x y hg hx hy=>InB.mono (D.st g x y hg hx hy) (Nat.pow_le_pow_right (by decide) (by decide))
  hk0:=by decide
  hk:=Nat.le_trans (zgG 3) (Nat.pow_le_pow_right (by decide) (by decide))
  hB:=Nat.pow_le_pow_right (by decide) (by omega)
  hP:=λj hj=>lt9 (Ji (vD (show n+m<=2 ^ 4 by omega) (Nat.le_refl _) (Nat.le_refl _)) (Nat.le_refl _)) (by
   have:(4+β)*j<=(4+β)*(n+m):=Nat.mul_le_mul_left _ hj;rw[Nat.add_comm 4 β] at this ⊢;omega)
  hw:=λu hg hu=>by
   have⟨M,hM,h⟩:=hrow u hg hu;exact⟨((M:Nat):Rat),λx=>jj (zT (n+m) (xr n st su) (jn n fi gi) u x) M,xG hM,λx hx=>Vk (h x hx)⟩
  hm:=λL T F C d a h=>by
   have l1:=h.lenT;have l2:=h.sp.few
   rw[List.length_map] at l1;omega }
 have hla:∀i,i<n+m->Sk 3 (jn n la (λi=>lb i*(-1)) i):=λi hi=>(UY A.la (λx hx=>by rw[show lb x*(-1)=-(lb x) by grind];exact(B.la x hx).neg) i hi).sk (by decide) (by decide)
 rcases zcG (CS:=CS) (k0:=3) (l0:=3) hd bd (λi hi=>(D.fi i hi).sk (by decide) (by decide)) (by decide) hla (by decide) with⟨L,e,w⟩|⟨L,u,e,w⟩
 ·have hL:=w.len;have habs:=w.abs bd
  have e2:=zgE (n:=n+m) e (by omega) (by omega);have hfn:(λi=>lb i*(-1))=λi=>-(lb i):=by funext i;grind
  have eb:=zcq (n:=n) (m:=m) (s:=s) (fi:=fi) (gi:=gi) (st:=st) (su:=su) (la:=la) (lb:=lb) (by omega) (by omega) hs;rw[<-hfn] at eb;have hKL:(KL L).length=L.length:=List.length_map _
  have z:Rz (n+m) (2 ^ (β+21)) (6 ^ 3) 2990 (KL L).length:=by
   refine⟨by rw[hKL];omega,by decide,λj hj hjn=>?_⟩;have b1:(n+m)*2 ^ (β+21)<=2 ^ (β+25):=vD (show n+m<=2 ^ 4 by omega) (Nat.le_refl _) (by omega);have b2:((n+m)*2 ^ (β+21)) ^ j<=2 ^ ((β+25)*(n+m)):=Ji b1 (Nat.mul_le_mul_left _ hjn)
   constructor
   ·refine Nat.lt_of_le_of_lt (vD (zgG 3) b2 (Nat.le_refl _)) (Nat.pow_lt_pow_right (by decide) (by omega))
   ·refine Nat.lt_of_le_of_lt (vD (show n+m<=2 ^ 4 by omega) (vD (vD (show n+m<=2 ^ 4 by omega) b2 (Nat.le_refl _)) (Nat.le_refl (2 ^ (β+21))) (Nat.le_refl _)) (Nat.le_refl _)) (Nat.pow_lt_pow_right (by decide) (by omega))
  have one6:1<=6 ^ 3:=by decide
  obtain⟨b,e3,i3⟩:=zbn (kr:=390) (ks:=3) (kl:=3) eb (by omega) hs z
   (λq hq=>by
    obtain⟨r,hr,rfl⟩:=List.mem_map.mp hq;exact(zkU (habs r hr)).mono (Nat.pow_le_pow_right (by decide) (by omega)) one6)
   ((zim (by decide) λx hx=>D.fi x hx).mono (Nat.pow_le_pow_right (by decide) (by omega)) (Nat.le_refl _))
   (λq hq g hg=>by
    obtain⟨r,hr,rfl⟩:=List.mem_map.mp hq;refine(zim (M:=1*6 ^ 3) (N:=(n+m)*(2 ^ β*2 ^ 17)) (by decide) λy hy=>vQ (by decide) (n+m) λx hx=>(zdg (habs r hr x hx)).mul (D.st g x y hg hx hy)).mono (vD (show n+m<=2 ^ 4 by omega) (vD (Nat.le_refl _) (Nat.le_refl _) (Nat.le_refl _)) (by omega)) (by decide))
   (λq hq i hi=>by
    obtain⟨r,hr,rfl⟩:=List.mem_map.mp hq;exact zlh (habs r hr i hi) (by omega))
   (λg x y hg hx hy=>(D.st g x y hg hx hy).sk (by decide) (by decide)) hla (by omega) (by omega)
  have hsw:=w.sw hs0;rw[i3.mpr hsw] at e3;exact⟨KL L,e2,e3⟩
 ·have⟨w1,w2,w3,_⟩:=w.first hs0
  exact absurd (by rw[zjS,al u w3];grind) w1
end
end L2.Fu
namespace K14
open PySem PySem.Spec PyProof.Rows L2 L2.Fu
def Zh(CS:AdX):RFx:=(sq (yr 2 (zh (j8 CS) (aC (gv 0) (aC (gv 1) a0))))
 (retS (zhK (op1 (zkc "list") (gv 2)) (zh vk (aC (gv 0) (aC (gv 1) (aC (gv 2) a0)))))))
def yH(CS:AdX):LPx:=fnF 3 2 (Zh CS)
def zkA(CS:AdX):RFx:=(sq (yr 1 (op2 xP (cst (.int 1)) (op2 wd (zh yw (aC (gv 0) (aC (cst (.int 0)) a0))) (cst (.int 2)))))
 (sq (yr 2 (zh ji (aC (zh yw (aC (gv 0) (aC (cst (.int 1)) a0))) (aC (op2 wd (op2 xq (zh yw (aC (gv 0) (aC (cst (.int 0)) a0))) (cst (.int 2))) (cst (.int 3))) (aC (gv 1) a0)))))
 (sq (yr 3 (zh ji (aC (zh yw (aC (gv 0) (aC (cst (.int 2)) a0))) (aC (op2 wd (op2 xq (zh yw (aC (gv 0) (aC (cst (.int 0)) a0))) (cst (.int 6))) (cst (.int 3))) (aC (gv 1) a0)))))
 (sq (yr 4 (zh ji (aC (zh yw (aC (gv 0) (aC (cst (.int 3)) a0))) (aC (op2 wd (op2 xq (zh yw (aC (gv 0) (aC (cst (.int 0)) a0))) (cst (.int 18))) (cst (.int 3))) (aC (gv 1) a0)))))
 (sq (yr 5 (op2 wd (zh yw (aC (gv 0) (aC (cst (.int 4)) a0))) (cst (.int 5))))
 (sq (ifS (zK (op2 eqD (gv 5) (cst (.int 0)))) (retS (zh (yH CS) (aC (zh jN (aC (gv 2) (aC (gv 3) a0))) (aC (zh jN (aC (gv 3) (aC (gv 2) a0))) a0)))) s0)
 (sq (ifS (zK (op2 eqD (gv 5) (cst (.int 1)))) (retS (zh (yH CS) (aC (zh jN (aC (zh jN (aC (gv 2) (aC (gv 3) a0))) (aC (gv 4) a0))) (aC (zh jN (aC (gv 2) (aC (zh jN (aC (gv 3) (aC (gv 4) a0))) a0))) a0)))) s0)
 (sq (ifS (zK (op2 eqD (gv 5) (cst (.int 2)))) (retS (zh (yH CS) (aC (zh j6 (aC (zh jN (aC (gv 2) (aC (gv 3) a0))) (aC (gv 4) a0))) (aC (zh jN (aC (zh j6 (aC (gv 2) (aC (gv 4) a0))) (aC (zh j6 (aC (gv 3) (aC (gv 4) a0))) a0))) a0)))) s0)
 (sq (ifS (zK (op2 eqD (gv 5) (cst (.int 3)))) (retS (zh (yH CS) (aC (zh vY (aC (zh j6 (aC (gv 2) (aC (gv 3) a0))) a0)) (aC (zh j6 (aC (zh vY (aC (gv 3) a0)) (aC (zh vY (aC (gv 2) a0)) a0))) a0)))) s0)
 (retS (op2 eqD (zh (za9 CS) (aC (zh jN (aC (gv 2) (aC (zh Zw (aC (gv 2) (aC (xp (aC (op1 ZF (cst (.int 1))) (aC (cst (.int 1)) a0))) a0))) a0))) a0)) (cst (.int 0)))))))))))))
def zku(CS:AdX):LPx:=fnF 6 1 (zkA CS)
end K14
namespace K14
open PySem WS WD WD.DT L2 L2.Fu
theorem zar(f:Q1x):∀n,sumTo (n+1) (λi=>f (n - i))=sumTo (n+1) f
 |0=>rfl
 |n+1=>by
  have e:=yz (λi=>f (n+1 - i)) 1 (n+1);rw[show 1+(n+1)=n+1+1 by omega] at e;rw[e];have e2:sumTo (n+1) (λj=>f (n+1 - (1+j)))=sumTo (n+1) f:=by
   rw[<-zar f n];exact zd _ λi _=>by rw[show n+1 - (1+i)=n - i by omega]
  rw[e2];show(0:Rat)+f (n+1 - 0)+sumTo (n+1) f=sumTo (n+1) f+f (n+1)
  rw[Nat.sub_zero];grind
section
variable{n m s:Nat}{fi gi la lb:Q1x}{st su:Q3x}{CS:AdX}
theorem zeQ{x y:PdX}{K:LPd}(h1:j8 CS [x,y]=some (.list K))(h2:vk [x,y,.list K]=some (.bool true)):yH CS [x,y]=some (.bool true):=zM rfl ((zx (zQ ((zb rfl).trans h1))).trans (zy (zlW rfl ((zb rfl).trans h2))))
theorem Ww{a b v:Nat}(hv:n+m<=2 ^ v)(A:xl n s fi st la a b)(B:xl m s gi su lb a b)(ha:a<=3)(hb:b+3*(3 - a)<=17)(hN:n+m<=14)(hs:s<=42)(hs0:0<s)(hβ:(b+(n+m - 1)*(b+v)+25)*(n+m)+(b+(n+m - 1)*(b+v)+29)<=2980)(hb1:b+(n+m - 1)*(b+v)<=1900)(al:∀w:List Nat,(∀g∈w,g<s)->wt n st fi la w=wt m su gi lb w):yH CS [zr n s fi st la,zr m s gi su lb]=some (.bool true):=by
 have W:=(A.add B).wm;obtain⟨K,e1,e2⟩:=Y1 (CS:=CS) (β:=b+(n+m - 1)*(b+v)) (A.up ha hb) (B.up ha hb) hN hs hs0 (λu hg hu=>⟨6 ^ (a+u.length*a),yN _,λx hx=>(W.row hv u.length u rfl hg x hx).mono (by
  have h2:u.length*(b+v)<=(n+m - 1)*(b+v):=Nat.mul_le_mul_right _ hu;omega)⟩) hβ hb1 al
 exact zeQ e1 e2
theorem zge{α β:Nat->Nat}(A:xl n s fi st la 3 17)(B:xl m s gi su lb 3 17)(W:Wm (n+m) s (jn n fi gi) (xr n st su) 1 5 α β)(hαβ:∀x,x<n+m->(α x=1/\β x=5)\/(α x=3/\β x=17))(hN:n+m<=14)(hs:s<=42)(hs0:0<s)(al:∀w:List Nat,(∀g∈w,g<s)->wt n st fi la w=wt m su gi lb w):yH CS [zr n s fi st la,zr m s gi su lb]=some (.bool true):=by
 obtain⟨K,e1,e2⟩:=Y1 (CS:=CS) (β:=134) A B hN hs hs0 (λu hg hu=>⟨6 ^ (3+u.length*1),yN _,λx hx=>by
  have h:=W.row (v:=4) (by omega) u.length u rfl hg x hx;have h2:u.length*(5+4)<=13*(5+4):=Nat.mul_le_mul_right _ (by omega)
  rcases hαβ x hx with⟨q1,q2⟩|⟨q1,q2⟩
  ·rw[q1,q2] at h;exact Tb.up h (by omega) (by omega)
  ·rw[q1,q2] at h;exact h.mono (by omega)⟩) (by omega) (by decide) al
 exact zeQ e1 e2
end
theorem zbJ{n n' m:Nat}{fi fi' gi la la' lb:Q1x}{st st' su:Q3x}(w:LNt):wt (n+n'+m) (jC (n+n') (xr n st st') su (jn n la la') gi) (vv (n+n') (jn n fi fi') (jn n la la') gi) (wq (n+n') lb) w=wt (n+m+(n'+m)) (xr (n+m) (jC n st su la gi) (jC n' st' su la' gi)) (jn (n+m) (vv n fi la gi) (vv n' fi' la' gi)) (jn (n+m) (wq n lb) (wq n' lb)) w:=by
 rw[xX w _ _ _ λ_ _=>rfl,v8,v8,v8,<-vb];exact zd _ λi _=>by rw[xX _ _ _ _ λ_ _=>rfl];grind
theorem Z7{n m:Nat}{fi gi la lb:Q1x}{st su:Q3x}(w:LNt):wt (n+m) (λg x y=>jC n st su la gi g y x) (wq n lb) (vv n fi la gi) w=wt (m+n) (jC m (λg x y=>su g y x) (λg x y=>st g y x) gi la) (vv m lb gi la) (wq m fi) w:=by
 have e:=Wr (n+m) (jC n st su la gi) (vv n fi la gi) (wq n lb) w;rw[e,v8,v8,List.length_reverse,<-zar];refine zd _ λi hi=>?_
 rw[Wr m su gi lb,Wr n st fi la,List.take_reverse,List.drop_reverse,show w.length - (w.length - i)=i by omega];exact Rat.mul_comm _ _
theorem zmc(CS:AdX)(ns:List Int):zku CS [.list (ns.map PyData.int)]=some (.bool true):=by
 have⟨c0,h0⟩:=vq ns 0;have⟨c1,h1⟩:=vq ns 1;have⟨c2,h2⟩:=vq ns 2;have⟨c3,h3⟩:=vq ns 3;have⟨c4,h4⟩:=vq ns 4;obtain⟨r,hr,er⟩:=v9 c0 (m:=2) (by decide);obtain⟨n,hn,en⟩:=v9 (c0.fdiv 2) (m:=3) (by decide);obtain⟨m,hm,em⟩:=v9 (c0.fdiv 6) (m:=3) (by decide);obtain⟨l,hl,el⟩:=v9 (c0.fdiv 18) (m:=3) (by decide);obtain⟨way,hway,ew⟩:=v9 c4 (m:=5) (by decide);obtain⟨fi,st,la,e1,A⟩:=wR c1 (n:=n) (s:=1+r) (by omega) (by omega);obtain⟨gi,su,lb,e2,B⟩:=wR c2 (n:=m) (s:=1+r) (by omega) (by omega);obtain⟨hi,sv,lc,e3,C⟩:=wR c3 (n:=l) (s:=1+r) (by omega) (by omega);have eab:=v7 (fi:=fi) (gi:=gi) (st:=st) (su:=su) (la:=la) (lb:=lb) (s:=1+r) (n:=n) (m:=m) (by omega) (by omega);have eba:=v7 (fi:=gi) (gi:=fi) (st:=su) (su:=st) (la:=lb) (lb:=la) (s:=1+r) (n:=m) (m:=n) (by omega) (by omega)
 have ebc:=v7 (fi:=gi) (gi:=hi) (st:=su) (su:=sv) (la:=lb) (lb:=lc) (s:=1+r) (n:=m) (m:=l) (by omega) (by omega);have eabc:=v7 (fi:=jn n fi gi) (gi:=hi) (st:=xr n st su) (su:=sv) (la:=jn n la lb) (lb:=lc) (s:=1+r) (n:=n+m) (m:=l) (by omega) (by omega)
 have eabc':=v7 (fi:=fi) (gi:=jn m gi hi) (st:=st) (su:=xr m su sv) (la:=la) (lb:=jn m lb lc) (s:=1+r) (n:=n) (m:=m+l) (by omega) (by omega);have A1:=A.mach
 have B1:=B.mach;have C1:=C.mach
 have eac:=wb A1 C1 (by decide) (by omega) (by omega) (by omega) (by omega);have ebc2:=wb B1 C1 (by decide) (by omega) (by omega) (by omega) (by omega)
 have eabc2:=wb (YC A1 B1) C1 (by decide) (by omega) (by omega) (by omega) (by omega);have esum:=v7 (fi:=vv n fi la hi) (gi:=vv m gi lb hi) (st:=jC n st sv la hi) (su:=jC m su sv lb hi) (la:=wq n lc) (lb:=wq m lc) (s:=1+r) (n:=n+l) (m:=m+l) (by omega) (by omega)
 have ech:=wb A1 B1 (by decide) (by omega) (by omega) (by omega) (by omega);have etc:=ue (n:=n+m) (s:=1+r) (fi:=vv n fi la gi) (st:=jC n st su la gi) (la:=wq n lb) (by omega) (by omega)
 have eta:=ue (n:=n) (s:=1+r) (fi:=fi) (st:=st) (la:=la) (by omega) (by omega);have etb:=ue (n:=m) (s:=1+r) (fi:=gi) (st:=su) (la:=lb) (by omega) (by omega)
 have ect:=wb (WQ B1) (WQ A1) (by decide) (by omega) (by omega) (by omega) (by omega);have esc:=zgi (c:=-1) (by omega) A1 (by decide) ⟨by decide,by decide⟩
 have eas:=v7 (fi:=fi) (gi:=λi=>fi i*(-1)) (st:=st) (su:=st) (la:=la) (lb:=la) (s:=1+r) (n:=n) (m:=n) (by omega) (by omega);have S:Mach n (1+r) (λi=>fi i*(-1)) st la 2:=⟨λi hi=>(A1.fi i hi).mul (show Sk 1 (-1) from⟨by decide,-6,by decide+kernel,by decide⟩),λg a b hg ha hb=>(A1.st g a b hg ha hb).mono (by decide),λi hi=>(A1.la i hi).mono (by decide)⟩
 have A2:Mach n (1+r) fi st la 2:=⟨λi hi=>(A1.fi i hi).mono (by decide),λg a b hg ha hb=>(A1.st g a b hg ha hb).mono (by decide),λi hi=>(A1.la i hi).mono (by decide)⟩;have kz:=zgf (CS:=CS) (zmI (YC A2 S) (by omega) (by omega) (by omega)) λw hw=>by
  rw[xX w _ fi (λi=>fi i*(-1)) λ_ _=>rfl,zgx];grind
 have At:=A.tb;have Bt:=B.tb
 have Ct:=C.tb;have s0:yH CS [zr (n+m) (1+r) (jn n fi gi) (xr n st su) (jn n la lb),zr (m+n) (1+r) (jn m gi fi) (xr m su st) (jn m lb la)]=some (.bool true):=Ww (v:=3) (by omega) (At.add Bt) (Bt.add At) (by decide) (by decide) (by omega) (by omega) (by omega) (by
   have:(n+m+(m+n) - 1)*(5+3)<=7*8:=Nat.mul_le_mul_right _ (by omega);have h2:(5+(n+m+(m+n) - 1)*(5+3)+25)*(n+m+(m+n))<=86*8:=Nat.mul_le_mul (by omega) (by omega);omega) (by
   have:(n+m+(m+n) - 1)*(5+3)<=7*8:=Nat.mul_le_mul_right _ (by omega);omega) λw _=>by rw[xX w _ _ _ λ_ _=>rfl,xX w _ _ _ λ_ _=>rfl];exact Rat.add_comm _ _
 have s1:yH CS [zr (n+m+l) (1+r) (jn (n+m) (jn n fi gi) hi) (xr (n+m) (xr n st su) sv) (jn (n+m) (jn n la lb) lc),zr (n+(m+l)) (1+r) (jn n fi (jn m gi hi)) (xr n st (xr m su sv)) (jn n la (jn m lb lc))]=some (.bool true):=Ww (v:=4) (by omega) ((At.add Bt).add Ct) (At.add (Bt.add Ct)) (by decide) (by decide) (by omega) (by omega) (by omega) (by
   have:(n+m+l+(n+(m+l)) - 1)*(5+4)<=11*9:=Nat.mul_le_mul_right _ (by omega);have h2:(5+(n+m+l+(n+(m+l)) - 1)*(5+4)+25)*(n+m+l+(n+(m+l)))<=129*12:=Nat.mul_le_mul (by omega) (by omega);omega) (by
   have:(n+m+l+(n+(m+l)) - 1)*(5+4)<=11*9:=Nat.mul_le_mul_right _ (by omega);omega) λw _=>by
    rw[xX w _ _ _ λ_ _=>rfl,xX w _ _ _ λ_ _=>rfl,xX w _ _ _ λ_ _=>rfl,xX w _ _ _ λ_ _=>rfl];exact Rat.add_assoc _ _ _
 have s2:yH CS [zr (n+m+l) (1+r) (vv (n+m) (jn n fi gi) (jn n la lb) hi) (jC (n+m) (xr n st su) sv (jn n la lb) hi) (wq (n+m) lc),zr (n+l+(m+l)) (1+r) (jn (n+l) (vv n fi la hi) (vv m gi lb hi)) (xr (n+l) (jC n st sv la hi) (jC m su sv lb hi)) (jn (n+l) (wq n lc) (wq m lc))]=some (.bool true):=zge ((At.add Bt).chain Ct (by omega)) ((At.chain Ct (by omega)).add (Bt.chain Ct (by omega))) ((Y2 (At.add Bt) Ct (by omega)).add ((Y2 At Ct (by omega)).add (Y2 Bt Ct (by omega)))) (λx _=>by
   unfold jnN;repeat' split
   all_goals first |exact .inl ⟨rfl,rfl⟩|exact .inr ⟨rfl,rfl⟩) (by omega) (by omega) (by omega) λw _=>zbJ w
 have s3:yH CS [zr (n+m) (1+r) (wq n lb) (λg x y=>jC n st su la gi g y x) (vv n fi la gi),zr (m+n) (1+r) (vv m lb gi la) (jC m (λg x y=>su g y x) (λg x y=>st g y x) gi la) (wq m fi)]=some (.bool true):=Ww (v:=3) (by omega) (At.chain Bt (by omega)).turned (Bt.turned.chain At.turned (by omega)) (by decide) (by decide) (by omega) (by omega) (by omega) (by
   have:(n+m+(m+n) - 1)*(17+3)<=7*20:=Nat.mul_le_mul_right _ (by omega);have h2:(17+(n+m+(m+n) - 1)*(17+3)+25)*(n+m+(m+n))<=182*8:=Nat.mul_le_mul (by omega) (by omega);omega) (by
   have:(n+m+(m+n) - 1)*(17+3)<=7*20:=Nat.mul_le_mul_right _ (by omega);omega) λw _=>Z7 w
 have es:(1:Int)+(r:Int)=((1+r:Nat):Int):=by omega
 refine zM rfl ?_;refine(zx (zQ (d:=.int ((1+r:Nat):Int)) ?_)).trans ?_
 ·refine(zf rfl ((zf ((zb rfl).trans h0) rfl).trans (jE (by decide)))).trans ?_;rw[<-es,<-er];rfl
 refine(zx (zQ (d:=zr n (1+r) fi st la) ?_)).trans ?_
 ·refine(zb (zk ((zb rfl).trans h1) (zk ((zf ((zf ((zb rfl).trans h0) rfl).trans (jz (j:=2) (by decide) (by decide))) rfl).trans (jE (by decide))) (zk rfl rfl)))).trans ?_;rw[<-e1,<-en];rfl
 refine(zx (zQ (d:=zr m (1+r) gi su lb) ?_)).trans ?_
 ·refine(zb (zk ((zb rfl).trans h2) (zk ((zf ((zf ((zb rfl).trans h0) rfl).trans (jz (j:=6) (by decide) (by decide))) rfl).trans (jE (by decide))) (zk rfl rfl)))).trans ?_;rw[<-e2,<-em];rfl
 refine(zx (zQ (d:=zr l (1+r) hi sv lc) ?_)).trans ?_
 ·refine(zb (zk ((zb rfl).trans h3) (zk ((zf ((zf ((zb rfl).trans h0) rfl).trans (jz (j:=18) (by decide) (by decide))) rfl).trans (jE (by decide))) (zk rfl rfl)))).trans ?_;rw[<-e3,<-el];rfl
 refine(zx (zQ (d:=.int (way:Int)) ?_)).trans ?_
 ·refine(zf ((zb rfl).trans h4) rfl).trans ((jE (by decide)).trans ?_);rw[<-ew];rfl
 have hw:way=0\/way=1\/way=2\/way=3\/way=4:=by omega
 rcases hw with rfl|rfl|rfl|rfl|rfl
 ·exact Uj ((wD (zA rfl)).trans (zy ((zb (zk ((zb rfl).trans eab) (zk ((zb rfl).trans eba) rfl))).trans s0)))
 ·refine(zx ((xH (zA rfl)).trans rfl)).trans ?_;exact Uj ((wD (zA rfl)).trans (zy ((zb (zk ((zb (zk ((zb rfl).trans eab) rfl)).trans eabc) (zk ((zb (zk rfl (zk ((zb rfl).trans ebc) rfl))).trans eabc') rfl))).trans s1)))
 ·refine(zx ((xH (zA rfl)).trans rfl)).trans ((zx ((xH (zA rfl)).trans rfl)).trans ?_);exact Uj ((wD (zA rfl)).trans (zy ((zb (zk ((zb (zk ((zb rfl).trans eab) rfl)).trans eabc2) (zk ((zb (zk ((zb rfl).trans eac) (zk ((zb rfl).trans ebc2) rfl))).trans esum) rfl))).trans s2)))
 ·refine(zx ((xH (zA rfl)).trans rfl)).trans ((zx ((xH (zA rfl)).trans rfl)).trans ((zx ((xH (zA rfl)).trans rfl)).trans ?_));exact Uj ((wD (zA rfl)).trans (zy ((zb (zk ((zb (zk ((zb rfl).trans ech) rfl)).trans etc) (zk ((zb (zk ((zb rfl).trans etb) (zk ((zb rfl).trans eta) rfl))).trans ect) rfl))).trans s3)))
 ·refine(zx ((xH (zA rfl)).trans rfl)).trans ((zx ((xH (zA rfl)).trans rfl)).trans ((zx ((xH (zA rfl)).trans rfl)).trans ((zx ((xH (zA rfl)).trans rfl)).trans (zy ?_))));refine(zf ((zb (zk ((zb (zk rfl (zk ((zb (zk rfl (zk ((zc2 rfl rfl).trans (show some (PyData.tuple [.int (-1),.int 1])=some (fr (-1)) from rfl)) rfl))).trans esc) rfl))).trans eas) rfl)).trans kz) rfl).trans ?_;exact UU _ _
end K14
namespace K14
open PySem PySem.Spec PyProof.Rows L2 L2.Fu
def top(i:Nat):Stmt:=PySem.Challenge.pw_wordscales_k14_whole_sums_of_differences.main.body.getD i (.Pass ⟨0,0,0,0⟩)
abbrev blts:List Str:=["len","abs","isinstance","tuple","list","range","zip","sum","max","enumerate","sorted"]
abbrev j0:Stmt:=top 4
theorem xI:zq ["one","other","rest"] ["one","other"] (zc j0):=scx
abbrev YM:Stmt:=top 5
theorem Wn:zq ["top","bottom","common"] ["top","bottom"] (zc YM):=scx
abbrev zbN:Stmt:=top 6
theorem zix:zq ["one","other"] ["one","other"] (zc zbN):=scx
abbrev vx:Stmt:=top 7
theorem x6:zq ["fractions","bottom","fraction"] ["fractions"] (zc vx):=scx
abbrev wz:Stmt:=top 8
theorem zbv:zq ["fractions","bottom"] ["fractions","bottom"] (zc wz):=scx
abbrev x3:Stmt:=top 9
theorem xO:zq ["tops","common","top"] ["tops"] (zc x3):=scx
abbrev x9:Stmt:=top 10
theorem Vb:zq ["ones","others"] ["ones","others"] (zc x9):=scx
abbrev UO:Stmt:=top 11
theorem wy:zq ["ones","others","ones_bottom","others_bottom","top"] ["ones","others"] (zc UO):=scx
abbrev Vr:Stmt:=top 18
theorem zgQ:zq ["tops","columns"] ["tops","columns"] (zc Vr):=scx
abbrev vH:Stmt:=top 19
theorem jd:zq ["step","numbers","row","bottom","columns"] ["step"] (zc vH):=scx
abbrev VP:Stmt:=top 20
theorem zfZ:zq ["step","room"] ["step","room"] (zc VP):=scx
abbrev zbl:Stmt:=top 22
theorem zg9:zq ["one","other"] ["one","other"] (zc zbl):=scx
abbrev U4:Stmt:=top 23
theorem zaj:zq ["one","other","steps"] ["one","other"] (zc U4):=scx
abbrev JP:Stmt:=top 24
theorem j5:zq ["one","other","first","steps","one_step","other_step","crossings"] ["one","other"] (zc JP):=scx
abbrev Y8:Stmt:=top 25
theorem zfX:zq ["machine","fraction"] ["machine","fraction"] (zc Y8):=scx
abbrev Vg:Stmt:=top 26
theorem zfP:zq ["machine"] ["machine"] (zc Vg):=scx
abbrev vB:Stmt:=top 27
theorem j3:zq ["one","other","one_signs","other_signs"] ["one","other"] (zc vB):=scx
abbrev jF:Stmt:=top 28
theorem Ur:zq ["rooms"] ["rooms"] (zc jF):=scx
abbrev Ws:Stmt:=top 29
theorem zeI:zq ["rooms"] ["rooms"] (zc Ws):=scx
abbrev vF:Stmt:=top 30
theorem Z4:zq ["row","fraction"] ["row","fraction"] (zc vF):=scx
abbrev uX:Stmt:=top 31
theorem J5:zq ["one_step","other_step","crossings"] ["one_step","other_step"] (zc uX):=scx
abbrev jf:Stmt:=top 32
theorem vW:zq ["one_step","crossings","other_step","one_rows","other_rows"] ["one_step","crossings","other_step"] (zc jf):=scx
abbrev UA:Stmt:=top 33
theorem zc6:zq ["row","one","other"] ["row","one","other"] (zc UA):=scx
abbrev vd:Stmt:=top 34
theorem YX:zq ["step"] ["step"] (zc vd):=scx
abbrev Jr:Stmt:=top 36
theorem zbZ:zq ["row"] ["row"] (zc Jr):=scx
abbrev Ul:Stmt:=top 37
theorem WZ:zq ["place","places","row"] ["place","places"] (zc Ul):=scx
abbrev uN:Stmt:=top 38
theorem zcd:zq ["check","number","gone","pivot","divisor"] ["check","number","gone","pivot","divisor"] (zc uN):=scx
abbrev wQ:Stmt:=top 41
theorem YI:zq ["machine","reach"] ["machine"] (zc wQ):=scx
abbrev uO:Stmt:=top 44
theorem WB:zq ["one","other","told"] ["one","other"] (zc uO):=scx
abbrev Jb:Stmt:=top 45
theorem zaa:zq ["one","other"] ["one","other"] (zc Jb):=scx
abbrev UI:Stmt:=top 46
theorem jy:zq ["one","other","machine","last","reach","row"] ["one","other"] (zc UI):=scx
abbrev Uy:Stmt:=top 48
theorem zdF:zq ["machine"] ["machine"] (zc Uy):=scx
abbrev zez:Stmt:=top 49
theorem zjI:zq ["machine"] ["machine"] (zc zez):=scx
abbrev jT:Stmt:=top 50
theorem jw:zq ["machine","span","places","shares","first","steps","last"] ["machine"] (zc jT):=scx
abbrev jh:Stmt:=top 51
theorem Jo:zq ["step","places","shares","columns"] ["step","places","shares"] (zc jh):=scx
abbrev wL:Stmt:=top 53
theorem ZO:zq ["script","k"] ["script","k"] (zc wL):=scx
abbrev VV:Stmt:=top 54
theorem jX:zq ["top","bottom","a","b","rest"] ["top","bottom"] (zc VV):=scx
abbrev Us:Stmt:=top 55
theorem zdi:zq ["one","other"] ["one","other"] (zc Us):=scx
abbrev JA:Stmt:=top 56
theorem zbS:zq ["one","other"] ["one","other"] (zc JA):=scx
abbrev Wq:Stmt:=top 57
theorem uH:zq ["one","other","total","k"] ["one","other"] (zc Wq):=scx
abbrev vV:Stmt:=top 58
theorem W6:zq ["cell"] ["cell"] (zc vV):=scx
abbrev wZ:Stmt:=top 59
theorem yx:zq ["cell","rooms","signs","out","k","steps","sign","rows","a","at"] ["cell","rooms","signs"] (zc wZ):=scx
abbrev JI:Stmt:=top 60
theorem UK:zq ["row","step","out","b"] ["row","step"] (zc JI):=scx
abbrev xt:Stmt:=top 63
theorem xD:zq ["one","other","left","right","steps","k","rows"] ["one","other"] (zc xt):=scx
abbrev jU:Stmt:=top 67
theorem yW:zq ["rows","left","done","k","at","base","r","part","less"] ["rows"] (zc jU):=scx
abbrev UJ:Stmt:=top 68
theorem zcB:zq ["part"] ["part"] (zc UJ):=scx
abbrev vg:Stmt:=top 69
theorem YB:zq ["rows","row"] ["rows","row"] (zc vg):=scx
abbrev Jc:Stmt:=top 70
theorem WE:zq ["one","other","less"] ["one","other"] (zc Jc):=scx
abbrev wI:Stmt:=top 71
theorem jJ:zq ["one","other","rows","both","known","row","step"] ["one","other","rows"] (zc wI):=scx
abbrev Um:Stmt:=top 72
theorem W2:zq ["one","other","rows"] ["one","other"] (zc Um):=scx
abbrev YA:Stmt:=top 73
theorem Wu:zq ["script","signs","a","b","c","way"] ["script"] (zc YA):=scx
abbrev V2:Stmt:=inClass (top 39) 3
theorem uI:zq ["self","row","sums","unmet","turn","pivot","gone","left"] ["self","row"] (zc V2):=scx
abbrev zd4:Stmt:=inClass (top 39) 1
theorem zka:zq ["self"] ["self"] (zc zd4):=scx
abbrev YH:Stmt:=inClass (top 40) 1
theorem Wb:zq ["self","word","row"] ["self"] (zc YH):=scx
abbrev zhp:Stmt:=inClass (top 40) 2
theorem zkQ:zq ["self","word","row"] ["self","word","row"] (zc zhp):=scx
abbrev zdY:Stmt:=inClass (top 40) 3
theorem zfa:zq ["self","word","row","sign"] ["self","word","row"] (zc zdY):=scx
abbrev Yb:Stmt:=inClass (top 40) 0
theorem zh7:zq ["self","machine"] ["self","machine"] (zc Yb):=scx
abbrev Yg:Stmt:=inClass (top 39) 0
theorem zif:zq ["self","places"] ["self","places"] (zc Yg):=scx
abbrev V0:Stmt:=inClass (top 39) 4
theorem uJ:zq ["self","place","row","spot","check"] ["self","place"] (zc V0):=scx
abbrev DX(k:Nat)(x:Str)(ps:List Str)(f:List PyData->Option PyData)(P:Program)(w:World)(K:PySem.W.Frag)(mg:Str->Option Value)(base:Heap):Prop:=yq P w K mg base k x ps f
abbrev xk:=DX 1 "whole_pair_sum" ["ones","others"] yb
abbrev U2:=DX 5 "difference" ["one","other"] vM
abbrev Vi:=DX 3 "whole_step" ["step"] vG
abbrev Vq:=DX 2 "lowest" ["top","bottom"] ud
abbrev Uk:=DX 1 "_law_cell_at" ["script","k"] yw
abbrev JZ:=DX 1 "_law_low" ["top","bottom"] uz
abbrev Js:=DX 2 "_law_fraction" ["cell"] xV
abbrev J2:=DX 3 "_law_machine" ["cell","rooms","signs"] ji
abbrev jm:=DX 1 "refuse_unlike" ["one","other"] xB
abbrev jO:=DX 1 "refuse_too_many" ["rooms"] xJ
abbrev JR:=DX 1 "noughts" ["rooms"] vO
abbrev wU:=DX 2 "joined_step" ["one_step","crossings","other_step"] jk
abbrev VJ:=DX 3 "added_step" ["one_step","other_step"] uT
abbrev YR:=DX 4 "beside" ["one","other"] Va
abbrev zfr:=DX 5 "added" ["one","other"] jN
abbrev ja:=DX 1 "common_divisor" ["one","other"] yG
abbrev zfp:=DX 3 "times" ["one","other"] zbw
abbrev vJ:=DX 4 "scaled_row" ["row","fraction"] jK
abbrev jl:=DX 2 "shared_bottom" ["fractions"] ye
abbrev UX:=DX 1 "column" ["step","room"] JH
abbrev U7:=DX 1 "_law_beside" ["one","other"] uZ
abbrev Zt:=DX 2 "_law_both" ["one","other"] uQ
abbrev Yy:=DX 1 "_law_over" ["part"] vZ
abbrev Jp:=DX 2 "_law_times" ["one","other"] yV
abbrev Ux:=DX 2 "_law_plus" ["one","other"] ju
abbrev Yo:=DX 3 "_law_rank" ["rows"] Jd
abbrev J3:=DX 4 "_law_in_span" ["rows","row"] yL
abbrev VU:=DX 3 "_law_dot" ["one","other"] jx
abbrev WA:=DX 5 "_law_shown" ["one","other","rows"] vk
abbrev uG:=DX 3 "pair_sum" ["ones","others"] jv
abbrev ZM:=DX 5 "crossing" ["row","one","other"] jW
abbrev zaQ:=DX 6 "chained" ["one","other"] j6
abbrev J4:=DX 2 "turned_step" ["step"] wO
abbrev ZD:=DX 3 "turned" ["machine"] vY
abbrev zdc:=DX 5 "scaled" ["machine","fraction"] Zw
abbrev Ub:=DX 4 "shared_step" ["step","places","shares"] jg
abbrev NBP(P:Program)(w:World)(base:Heap)(mg:Str->Option Value):Prop:=NoB mg blts
section
variable{P:Program}{w:World}{K:FRx}{mg:Str->Option Value}{base:Heap}{CS CR:AdX}
theorem w6{f:Str×NameKind->Str×NameKind}(h1:∀p,(f p).1=p.1)(h2:∀p,(p.2=.cell\/p.2=.free)->((f p).2=.cell\/(f p).2=.free)):∀{names:List (Str×NameKind)} {x:Str},(names.lookup x=some .cell\/names.lookup x=some .free)->
  ((names.map f).lookup x=some .cell\/(names.map f).lookup x=some .free)
 |[],_,h=>by simp at h
 |p::r,x,h=>by
  have ih:=@w6 f h1 h2 r x;have e:(f p)=(p.1,(f p).2):=Prod.ext (h1 p) rfl
  rw[List.map_cons,e];cases hb:x==p.1 with
  |false=>
   have h':r.lookup x=some .cell\/r.lookup x=some .free:=by simpa only [List.lookup,hb] using h
   simpa only [List.lookup,hb] using ih h'
  |true=>
   have h':some p.2=some .cell\/some p.2=some .free:=by simpa only [List.lookup,hb] using h
   have h3:=h2 p (h'.imp Option.some.inj Option.some.inj);simp only [List.lookup,hb];exact h3.imp (congrArg some) (congrArg some)
theorem zdE{X:Cx}{scope sc:Scope}{N:LSr}{cl C ex s H}(kind:scope.kind=.function)(nocell:∀y∈scope.names,y.2≠ .cell)(loc:∀y∈scope.names,y.2=.local->scope.names.lookup y.1=some .local)(free:∀y∈scope.names,y.2=.free->sc.names.lookup y.1=some .cell\/sc.names.lookup y.1=some .free):ya (zV X N sc cl C ex s H) scope:=Uz (sc:=PySem.relabel sc X.env) rfl kind nocell loc λy hy hf=>
 w6 (λp=>by dsimp only;split<;>rfl) (λp hp=>by dsimp only;split;exact Or.inl rfl;exact hp) (free y hy hf)
theorem zca{X:Cx}{x0:Str}{scope sc:Scope}{N:LSr}{cl C ex s H}(kind:scope.kind=.function)(nocell:∀y∈scope.names,y.2≠ .cell)(loc:∀y∈scope.names,y.2=.local->scope.names.lookup y.1=some .local)(free:∀y∈scope.names,y.2=.free->sc.names.lookup y.1=some .cell\/sc.names.lookup y.1=some .free):ya (xy X (some x0) N sc cl C ex s H) scope:=Uz (sc:=PySem.relabel sc X.env) rfl kind nocell loc λy hy hf=>
 w6 (λp=>by dsimp only;split<;>rfl) (λp hp=>by dsimp only;split;exact Or.inl rfl;exact hp) (free y hy hf)
theorem zlb(h:W9 K mg CS "Span" "__init__" "Span.__init__" Yg)(NB:NBP P w base mg)(cl:Cls K CS)(n1:zH K CS "free")(n2:zH K CS "taken")(n3:zH K CS "checks")(n4:zH K CS "pivot")(d_ur:jA P w K mg base 1 "unit_row" ["place","places"] wa):Ini P w K mg base 3 CS "Span" ["self","places"] VB:=(Ini.mk (N:=["self","places"]) (m:=1) h zif (um2 λ_ _ _ _ _ _ _ _=>rfl) rfl (by decide) (λf cdv A outer s H E hr=>
  (zI (u5 cl n1 (FL.gl (zlg rfl rfl (nbg NB) rfl (nbg NB) (za (ze 1) zg))))
  (zI (u5 cl n2 (FL.gl (xE zg)))
  (zI (u5 cl n3 (FL.gl (yo (Ts:=["place"]) (F:=[1]) rfl (FI.fib (xb rfl (nbg NB) (za (ze 1) zg))) (csx (sc:=zc Yg)) (xF rfl rfl xA) (fgc 0) (λ_ _ _ _ _=>(FL.fe (uR d_ur hr rfl (za (ze 0) (za (ze 1) zg))))))))
  (y4 (zbg cl n4 (FE.ge yc))))))))
theorem zl8(h:vI K CS "take" "Span.take" V2)(NB:NBP P w base mg)(cl:Cls K CS)(nF:zH K CS "free")(nT:zH K CS "taken")(nC:zH K CS "checks")(nP:zH K CS "pivot")(d_wps:xk P w K mg base)(d_nar:jA P w K mg base 1 "narrowed" ["check","number","gone","pivot","divisor"] uY):Met P w K mg base 4 CS "take" ["self","row"] UL:=(Met.mk (N:=["self","row","sums","unmet","turn","pivot","gone","left"]) (m:=1) h uI (um2 λ_ _ _ _ _ _ _ _=>rfl) rfl (by decide) (λf cdv A outer s H E hr=>
  (zI (zjl 2 (Ts:=["check"]) (F:=[1]) uI.nd rfl (ziS (jV cl nC)) (csx (sc:=zc V2)) (xF rfl rfl xA) (fgc 0) (λ_ _ _ _ _=>(zj d_wps hr rfl (za (ze 0) (za (ze 1) zg)))))
  (zI (zgI 3 (Ts:=["turn","number"]) (F:=[]) uI.nd rfl (FIB.gib (ziJ false rfl (nbg NB) (zm (yQ 2) zv))) (csx (sc:=zc V2)) xA (λ_ _ _ _ _=>(wH rfl (zU 0 (show(["turn","number"]:LSr).Nodup by decide+kernel)) (zU 1 (show(["turn","number"]:LSr).Nodup by decide+kernel)))) (λ_ _ _ _ _=>(yM (Jv hr.units) WT (qv 1) qi (nomark _))) (λ_ _ _ _ _=>(ze 0)))
  (zI (zhX (FT.gt (yM (vy hr.units) Jh (yQ 3) (FL.fb (xE zg)) (nomark _))) (y4 (wX (FE.ge zam))) Vm)
  (zI (US 4 uI.nd (FE.ge (zu (yQ 3) qi (λ_ _=>rfl))))
  (zI (ziY 5 2 uI.nd (FE.ge (ze 4)))
  (zI (zjo 6 uI.nd cl nC (FE.ge (ze 4)))
  (zI (zhu 7 0 (Ts:=["check","number"]) (F:=[0,5,6]) uI.nd rfl (zkh false false rfl (nbg NB) (uu (jV cl nC) (uu (FB.gb (yQ 2)) Vu))) (csx (sc:=zc V2)) (xF rfl rfl (xF rfl rfl (xF rfl rfl xA))) rfl (λ_ _ _ _ _=>(wH rfl (zU 0 (show(["check","number","self","pivot","gone"]:LSr).Nodup by decide+kernel)) (zU 1 (show(["check","number","self","pivot","gone"]:LSr).Nodup by decide+kernel)))) (λ_ _ _ _ _=>(zjp d_nar.df hr rfl (ux (FE.gj (ze 0)) (ux (FE.gj (ze 1)) (ux (FE.gj (ze 4)) (ux (FE.gj (ze 3)) (ux (zli (j:=2) cl nP) zfE))))))))
  (zI (zi0 7 cl nC)
  (zI (zbg cl nP (FE.ge (ze 5)))
  (zI (zlf cl nT nF (FE.ge (ze 4)) (by decide+kernel))
  (y4 (wX (FE.ge zam)))))))))))))))
theorem zk1(h:vI K CS "full" "Span.full" zd4)(cl:Cls K CS)(nF:zH K CS "free"):Met P w K mg base 1 CS "full" ["self"] Ut:=(Met.mk (N:=["self"]) (m:=0) h zka (um1 λ_ _ _ _ _ _ _=>rfl) rfl (by decide) (λf cdv A outer s H E hr=>
  (y4 (wX (zlH (vy hr.units) Jh (jV cl nF) (FB.gb (FL.fb (xE zg))) (nomark _))))))
theorem zmH(h:vI K CR "row_led_on" "Reach.row_led_on" zhp)(cl:Cls K CR)(nS:zH K CR "steps")(d_wc:jA P w K mg base 2 "without_common" ["tops"] yY)(d_lo:jA P w K mg base 2 "led_on" ["tops","columns"] U8):Met P w K mg base 4 CR "row_led_on" ["self","word","row"] Uq:=(Met.mk (N:=["self","word","row"]) (m:=2) h zkQ (um3 λ_ _ _ _ _ _ _ _ _=>rfl) rfl (by decide) (λf cdv A outer s H E hr=>
  (zI (zhX (FT.gt (yM (vy hr.units) Jh (qv 1) (FE.fb (yA zg)) (nomark _))) (y4 (wX (FE.ge (ze 2)))) Vm)
  (y4 (wX (zba d_wc.df hr rfl (x5 (zba d_lo.df hr rfl (x5 (FE.ge (ze 2)) (x5 (zaF (jV cl nS) (GE.gb (FE.ge (zu (qv 1) (FE.fb (V4 yc)) (λ_ _=>rfl)))) (λ_ _=>rfl)) JC))) JC)))))))
theorem zis(h:vI K CR "onward" "Reach.onward" YH)(NB:NBP P w base mg)(cl:Cls K CR)(cs:Cls K CS)(nA:zH K CR "asked")(nW:zH K CR "waiting")(nS:zH K CR "span")(mF:Met P w K mg base 1 CS "full" ["self"] Ut)(mT:Met P w K mg base 4 CS "take" ["self","row"] UL)(mK:Met P w K mg base 1 CR "keep" ["self","word","row"] Wd)(mL:Met P w K mg base 4 CR "row_led_on" ["self","word","row"] Uq):Met P w K mg base 5 CR "onward" ["self"] (xf CS):=(Met.mk (N:=["self","word","row"]) (m:=0) h Wb (um1 λ_ _ _ _ _ _ _=>rfl) rfl (by decide) (λf cdv A outer s H E hr=>
  (zI (Y0 (λ_ _=>1000000) PassesOwn.never (GWM.gtm (zki (GT.gtm (zlu zb9 uV (GE.gb (ZR cl nA)) (GE.gb (UW zw y0 rfl (nbg NB) yp (uu (jV cl nW) Vu))) (nomark _))) (zie (ziO (za1 (zhI cl nS cs mF hr))))))
   (zI (US 1 Wb.nd (zaF (GE.gb (zaF (jV cl nW) (GE.gb (ZR cl nA)) (λ_ _=>rfl))) (FB.gb qi) (λ_ _=>rfl)))
   (zI (zbe 2 Wb.nd (zfu cl mL hr (x5 (FE.ge (ze 1)) (x5 (zaF (GE.gb (zaF (jV cl nW) (GE.gb (ZR cl nA)) (λ_ _=>rfl))) (FB.gb qi) (λ_ _=>rfl)) JC))))
   (zI (zbg cl nA (zkJ j7 j4 (GE.gb (ZR cl nA)) (FB.gb qi)))
   (y4 (zin (za1 (ziQ cl nS cs mT hr (x5 (FE.ge (ze 2)) JC))) (zI (zmG (zfu cl mK hr (x5 (FE.ge (ze 1)) (x5 (FE.ge (ze 2)) JC)))) (y4 (wX (FE.ge (ze 2))))) Vm))))))
  (y4 (wX (FE.ge Yu))))))
theorem zll(h:vI K CR "keep" "Reach.keep" zdY)(NB:NBP P w base mg)(cl:Cls K CR)(nWd:zH K CR "words")(nR:zH K CR "rows")(nS:zH K CR "steps")(nW:zH K CR "waiting"):Met P w K mg base 1 CR "keep" ["self","word","row"] Wd:=(Met.mk (N:=["self","word","row","sign"]) (m:=2) h zfa (um3 λ_ _ _ _ _ _ _ _ _=>rfl) rfl (by decide) (λf cdv A outer s H E hr=>
  (zI (ziu cl nWd (FE.ge (ze 1)))
  (zI (ziu cl nR (FE.ge (ze 2)))
  (y4 (zk3 PassesOwn.never rfl (zdN rfl (nbg NB) (x5 (UW zw y0 rfl (nbg NB) yp (uu (jV cl nS) Vu)) JC)) (zU 3 zfa.nd)
   (y4 (ziu cl nW (FE.ge (yA (za (zF xW jG (qv 1) (FE.fb (yA (za (ze 3) zg)))) (za (ze 2) zg))))))))))))
theorem zdG(h:HasDef K mg "compared" UI)(d_difference:U2 P w K mg base)(d_whole_row:jA P w K mg base 3 "whole_row" ["row"] xZ)(d_wps:xk P w K mg base)(iR:Ini P w K mg base 5 CR "Reach" ["self","machine"] (vL CS))(mO:Met P w K mg base 5 CR "onward" ["self"] (xf CS))(cl:Cls K CR)(nWd:zH K CR "words")(nR:zH K CR "rows"):yq P w K mg base 8 "compared" ["one","other"] (jq CS):=(yq.mk (N:=["one","other","machine","last","reach","row"]) (m:=2) h jy (um2 λ_ _ _ _ _ _ _ _=>rfl) rfl (λf cdv A outer s H E hr=>
  (zi (zS 2 jy.nd (zj d_difference hr rfl (za (ze 0) (za (ze 1) zg))))
  (zi (zS 3 jy.nd (zj d_whole_row.df hr rfl (za (zu (qv 2) qi (λ_ _=>rfl)) zg)))
  (ze5 4 jy.nd (za8 iR hr rfl (za (ze 2) zg))
  (zI (zbe 5 jy.nd (VA cl mO hr))
  (zI (Y0 (λ_ _=>1000) PassesOwn.never (GT.gtm (FT.gt (yM zbX ZJ (qv 5) (FE.fb Yu) (nomark _))))
   (zI (zhX (FT.gt (yM (Jv hr.units) WT (FE.fb (zj d_wps hr rfl (za (ze 5) (za (ze 3) zg)))) qi (nomark _))) (y4 (wX (zlR (x5 (zaF (jV cl nWd) (FB.gb (FE.fb (V4 yc))) (λ_ _=>rfl)) (x5 (GL.ge (zg1 (jV cl nR) zfl (JQ (V4 yc)))) JC))))) Vm)
   (y4 (zbe 5 jy.nd (VA cl mO hr)))))
  (y4 (zjf (zkY (zdt (FE.gz Yu) (zdt (zl9 cl nR) zj6))))))))))))
theorem zjX(h:W9 K mg CR "Reach" "__init__" "Reach.__init__" Yb)(NB:NBP P w base mg)(cl:Cls K CR)(n1:zH K CR "steps")(n2:zH K CR "span")(n3:zH K CR "words")(n4:zH K CR "rows")(n5:zH K CR "waiting")(n6:zH K CR "asked")(d_ws:Vi P w K mg base)(d_wr:jA P w K mg base 3 "whole_row" ["row"] xZ)(iS:Ini P w K mg base 3 CS "Span" ["self","places"] VB):Ini P w K mg base 5 CR "Reach" ["self","machine"] (vL CS):=(Ini.mk (N:=["self","machine"]) (m:=1) h zh7 (um2 λ_ _ _ _ _ _ _ _=>rfl) rfl (by decide) (λf cdv A outer s H E hr=>
  (zI (u5 cl n1 (FL.gl (yo (Ts:=["step"]) (F:=[]) rfl (ym (FE.fb (zu (qv 1) qi (λ_ _=>rfl)))) (csx (sc:=zc Yb)) xA (fgc 0) (λ_ _ _ _ _=>(zu (FE.fb (zj d_ws hr rfl (za (ze 0) zg))) qi (λ_ _=>rfl))))))
  (zI (zjY cl n2 (FN.gn (za8 iS hr rfl (za (zN zw y0 rfl (nbg NB) yp (zm (FE.fb (zu (qv 1) qi (λ_ _=>rfl))) zv)) zg))))
  (zI (u5 cl n3 (FL.gl (xE zg)))
  (zI (u5 cl n4 (FL.gl (xE zg)))
  (zI (u5 cl n5 (FL.gl (xE (za (yA (za (yA zg) (za (zj d_wr.df hr rfl (za (zu (qv 1) qi (λ_ _=>rfl)) zg)) zg))) zg))))
  (y4 (zbg cl n6 (FE.ge yc))))))))))
theorem zfL(h:vI K CS "settled_row" "Span.settled_row" V0)(NB:NBP P w base mg)(cl:Cls K CS)(nF:zH K CS "free")(nT:zH K CS "taken")(nC:zH K CS "checks")(nP:zH K CS "pivot")(c_NOUGHT:GC K mg "NOUGHT" (.tuple [.int 0,.int 1]))(c_ONE:GC K mg "ONE" (.tuple [.int 1,.int 1]))(d_lowest:Vq P w K mg base):zf1 P w K mg base 4 CS "settled_row" ["self","place"] uD:=zf1.mk (k:=3) (N:=["self","place","row","spot","check"]) (m:=1) (b:=zaJ) h uJ (um2 λ_ _ _ _ _ _ _ _=>rfl) rfl (by decide) (λf cdv A outer s H E hr=>
  (Zl (zjt 2 uJ.nd (zlQ (FL.fk (xE (za (VN c_NOUGHT rfl) zg))) (zkJ j7 j4 (GE.gb (UW zw y0 rfl (nbg NB) yp (uu (jV cl nF) Vu))) (GE.gb (UW zw y0 rfl (nbg NB) yp (uu (jV cl nT) Vu))))))
  (Zl (zeO 2 (FE.ge (ze 1)) (FE.ge (VN c_ONE rfl)))
  (Zl (zlk PassesOwn.never rfl (zju cl nF nC rfl (nbg NB)) (wH rfl (zU 3 uJ.nd) (zU 4 uJ.nd)) (zfD (zeO 2 (FE.ge (ze 3)) (zba d_lowest hr rfl (x5 (FE.ge (V4 (zu (qv 4) (qv 1) (λ_ _=>rfl)))) (x5 (ZR cl nP) JC))))))
  (zfD (zjC 2))))))
theorem Yn(h:HasDef K mg "whole_reach" wQ)(iR:Ini P w K mg base 5 CR "Reach" ["self","machine"] (vL CS))(mO:Met P w K mg base 5 CR "onward" ["self"] (xf CS))(cl:Cls K CR):zf9 P w K mg base 8 CR "whole_reach" ["machine"] (xC CS):=zf9.mk (N:=["machine","reach"]) (m:=1) (i:=1) h YI (um1 λ_ _ _ _ _ _ _=>rfl) rfl rfl rfl (by first |exact Or.inl rfl|exact Or.inr rfl) (λf cdv A outer s H E hr=>
  ⟨za8 iR hr rfl (za (ze 0) zg),zgD (Y0 (λ_ _=>1000) PassesOwn.never (zil (VA cl mO hr)) (y4 zi9)) zia,rfl⟩)
theorem Yr(h:HasDef K mg "_law_cell_at" wL)(NB:NBP P w base mg):Uk P w K mg base:=yq.mk (N:=["script","k"]) (m:=2) (b:=Ug) h ZO (um2 λ_ _ _ _ _ _ _ _=>rfl) rfl (λf cdv A outer s H E hr=> 
  (zi (vt (yM zb9 uV (qv 1) (FE.fb (zN zw y0 rfl (nbg NB) yp (zm (qv 0) zv))) (nomark _)) (zo (zL (zu (qv 0) (qv 1)))) xi)
   (zo (zL yc))))
theorem zd9(h:HasDef K mg "_law_low" VV)(NB:NBP P w base mg):JZ P w K mg base:=yq.mk (N:=["top","bottom","a","b","rest"]) (m:=2) (b:=zax) h jX (um2 λ_ _ _ _ _ _ _ _=>rfl) rfl (λf cdv A outer s H E hr=> 
  (zi (zS 2 jX.nd (zN zcx zkt rfl (nbg NB) zg6 (zm (qv 0) zv)))
   (zi (zS 3 jX.nd (ze 1))
   (zi (zcw Yp PassesOwn.never (yM zfB uV (qv 3) qi (nomark _)) (zi (zS 4 jX.nd (zF jP v3 (qv 2) (qv 3)))
   (zi (zS 2 jX.nd (ze 3))
   (zo (zS 3 jX.nd (ze 4))))))
   (zo (zL (yA (za (zF xh xN (qv 0) (qv 2)) (za (zF xh xN (qv 1) (qv 2)) zg)))))))))
theorem W7(h:HasDef K mg "_law_fraction" vV)(NB:NBP P w base mg)(d_law_low:JZ P w K mg base):Js P w K mg base:=yq.mk (N:=["cell"]) (m:=1) (b:=Jw) h W6 (um1 λ_ _ _ _ _ _ _=>rfl) rfl (λf cdv A outer s H E hr=> 
  (zo (zL (zj d_law_low hr rfl (za (zF We Wt (FE.fb (zF jP v3 (qv 0) qi)) qi) (za (zu (FL.fb (xE (za yc (za yc (za yc (za yc (za yc zg))))))) (FE.fb (zF jP v3 (FE.fb (zF xh xN (qv 0) qi)) qi))) zg))))))
theorem Zi(h:HasDef K mg "_law_machine" wZ)(NB:NBP P w base mg)(d_law_fraction:Js P w K mg base):J2 P w K mg base:=yq.mk (N:=["cell","rooms","signs","out","k","steps","sign","rows","a","at"]) (m:=3) (b:=vf) h yx (um3 λ_ _ _ _ _ _ _ _ _=>rfl) rfl (λf cdv A outer s H E hr=> 
  (zi (jI 3 yx.nd (xE zg))
   (zi (jD PassesOwn.never rfl (xb rfl (nbg NB) (za (zF yP xn (qv 1) (FE.fb (zF j7 j4 qi (FE.fb (zF yP xn (qv 1) (qv 2)))))) zg)) (zU 4 yx.nd) (zi (zS 0 yx.nd (zF jP v3 (FE.fb (zF j7 j4 (FE.fb (zF yP xn (qv 0) qi)) qi)) qi))
   (zo (vU 3 (zcR (yM (vy hr.units) Jh (FE.fb (zF jP v3 (FE.fb (zF xh xN (qv 0) qi)) qi)) qi (nomark _)) (yA (za yc (za yc zg))) (zj d_law_fraction hr rfl (za (zF xh xN (qv 0) qi) zg)))))))
   (zi (jI 5 yx.nd (xE zg))
   (zi (jD PassesOwn.never rfl (xb rfl (nbg NB) (za (ze 2) zg)) (zU 6 yx.nd) (zi (jI 7 yx.nd (xE zg))
   (zi (jD PassesOwn.never rfl (xb rfl (nbg NB) (za (ze 1) zg)) (zU 8 yx.nd) (zi (zS 9 yx.nd (zF j7 j4 (FE.fb (zF yP xn qi (qv 1))) (FE.fb (zF yP xn (FE.fb (zF j7 j4 (FE.fb (zF yP xn (qv 6) (qv 1))) (qv 8))) (qv 1)))))
   (zo (vU 7 (zX zC yB rfl (nbg NB) yh (zm (FL.fb (YS (yQ 3) (JQ (ze 9)) (JQ (zF j7 j4 (qv 9) (qv 1))))) zv))))))
   (zo (vU 5 (zX zC yB rfl (nbg NB) yh (zm (yQ 7) zv)))))))
   (zo (zL (yA (za (zX zC yB rfl (nbg NB) yh (zm (FL.fb (YS (yQ 3) zfl (JQ (ze 1)))) zv)) (za (zX zC yB rfl (nbg NB) yh (zm (yQ 5) zv)) (za (zX zC yB rfl (nbg NB) yh (zm (FL.fb (YS (yQ 3) (JQ (ze 1)) (JQ (zF yP xn qi (qv 1))))) zv)) zg)))))))))))
theorem VR(h:HasDef K mg "refuse_unlike" vB)(NB:NBP P w base mg):jm P w K mg base:=yq.mk (N:=["one","other","one_signs","other_signs"]) (m:=2) (b:=Je) h j3 (um2 λ_ _ _ _ _ _ _ _=>rfl) rfl (λf cdv A outer s H E hr=> 
  (zi (zS 2 j3.nd (zN zw y0 rfl (nbg NB) yp (zm (FE.fb (zu (qv 0) qi)) zv)))
   (zi (zS 3 j3.nd (zN zw y0 rfl (nbg NB) yp (zm (FE.fb (zu (qv 1) qi)) zv)))
   (zo (vt (yM (Jv hr.units) WT (qv 2) (qv 3) (nomark _)) (zo zcA) xi)))))
theorem UQ(h:HasDef K mg "refuse_too_many" jF)(NB:NBP P w base mg)(c_MOST_ROOMS:GC K mg "MOST_ROOMS" (.int 24)):jO P w K mg base:=yq.mk (N:=["rooms"]) (m:=1) (b:=wJ) h Ur (um1 λ_ _ _ _ _ _ _=>rfl) rfl (λf cdv A outer s H E hr=> 
  (zo (vt (yM zfB uV (qv 0) (FE.fb (VN c_MOST_ROOMS rfl)) (nomark _)) (zo zcA) xi)))
theorem zd6(h:HasDef K mg "noughts" Ws)(NB:NBP P w base mg)(c_NOUGHT:GC K mg "NOUGHT" (.tuple [.int 0,.int 1])):JR P w K mg base:=yq.mk (N:=["rooms"]) (m:=1) (b:=zaz) h zeI (um1 λ_ _ _ _ _ _ _=>rfl) rfl (λf cdv A outer s H E hr=> 
  (zo (zL (zF zj9 zjL (FE.fb (yA (za (VN c_NOUGHT rfl) zg))) (qv 0)))))
theorem Zp(h:HasDef K mg "joined_step" jf)(NB:NBP P w base mg)(d_noughts:JR P w K mg base):wU P w K mg base:=yq.mk (N:=["one_step","crossings","other_step","one_rows","other_rows"]) (m:=3) (b:=J9) h vW (um3 λ_ _ _ _ _ _ _ _ _=>rfl) rfl (λf cdv A outer s H E hr=> 
  (zi (u4 3 (Ts:=["row","across"]) (F:=[]) vW.nd rfl (Yc true false rfl (nbg NB) (zm (qv 0) (zm (qv 1) zv))) (csx (sc:=zc jf)) xA (λ_ _ _ _ _=>(wH rfl (zU 0 (show(["row","across"]:LSr).Nodup by decide+kernel)) (zU 1 (show(["row","across"]:LSr).Nodup by decide+kernel)))) (λ_ _ _ _ _=>(zF xW jG (qv 0) (qv 1))))
   (zi (u4 4 (Ts:=["row"]) (F:=[0]) vW.nd rfl (ym (qv 2)) (csx (sc:=zc jf)) (xF rfl rfl xA) (fgc 0) (λ_ _ _ _ _=>(zF xW jG (FE.fb (zj d_noughts hr rfl (za (zN zw y0 rfl (nbg NB) yp (zm (qv 1) zv)) zg))) (qv 0))))
   (zo (zL (zX zC yB rfl (nbg NB) yh (zm (FL.fb (zhf (zei 3) (zei 4))) zv)))))))
theorem Z6(h:HasDef K mg "added_step" uX)(NB:NBP P w base mg)(d_noughts:JR P w K mg base)(d_joined_step:wU P w K mg base):VJ P w K mg base:=yq.mk (N:=["one_step","other_step","crossings"]) (m:=2) (b:=VD) h J5 (um2 λ_ _ _ _ _ _ _ _=>rfl) rfl (λf cdv A outer s H E hr=> 
  (zi (jI 2 J5.nd (zgZ (FL.fk (xE (za (zj d_noughts hr rfl (za (zN zw y0 rfl (nbg NB) yp (zm (qv 1) zv)) zg)) zg))) (zN zw y0 rfl (nbg NB) yp (zm (qv 0) zv))))
   (zo (FS.frz 2 (zL (zj d_joined_step hr rfl (za (ze 0) (za (ze 2) (za (ze 1) zg)))))))))
theorem zfU(h:HasDef K mg "beside" U4)(NB:NBP P w base mg)(d_added_step:VJ P w K mg base):YR P w K mg base:=yq.mk (N:=["one","other","steps"]) (m:=2) (b:=zcc) h zaj (um2 λ_ _ _ _ _ _ _ _=>rfl) rfl (λf cdv A outer s H E hr=> 
  (zi (u4 2 (Ts:=["one_step","other_step"]) (F:=[]) zaj.nd rfl (Yc true true rfl (nbg NB) (zm (FE.fb (zu (qv 0) qi)) (zm (FE.fb (zu (qv 1) qi)) zv))) (csx (sc:=zc U4)) xA (λ_ _ _ _ _=>(wH rfl (zU 0 (show(["one_step","other_step"]:LSr).Nodup by decide+kernel)) (zU 1 (show(["one_step","other_step"]:LSr).Nodup by decide+kernel)))) (λ_ _ _ _ _=>(zj d_added_step hr rfl (za (ze 0) (za (ze 1) zg)))))
   (zo (zL (yA (za (zF xW jG (FE.fb (zu (qv 0) qi)) (FE.fb (zu (qv 1) qi))) (za (zX zC yB rfl (nbg NB) yh (zm (yQ 2) zv)) (za (zF xW jG (FE.fb (zu (qv 0) qi)) (FE.fb (zu (qv 1) qi))) zg))))))))
theorem zik(h:HasDef K mg "added" zbl)(NB:NBP P w base mg)(d_refuse_unlike:jm P w K mg base)(d_refuse_too_many:jO P w K mg base)(d_beside:YR P w K mg base):zfr P w K mg base:=yq.mk (N:=["one","other"]) (m:=2) (b:=ze1) h zg9 (um2 λ_ _ _ _ _ _ _ _=>rfl) rfl (λf cdv A outer s H E hr=> 
  (zi (VF (zj d_refuse_unlike hr rfl (za (ze 0) (za (ze 1) zg))))
   (zi (VF (zj d_refuse_too_many hr rfl (za (zF j7 j4 (FE.fb (zN zw y0 rfl (nbg NB) yp (zm (FE.fb (zu (qv 0) qi)) zv))) (FE.fb (zN zw y0 rfl (nbg NB) yp (zm (FE.fb (zu (qv 1) qi)) zv)))) zg)))
   (zo (zL (zj d_beside hr rfl (za (ze 0) (za (ze 1) zg))))))))
theorem UT(h:HasDef K mg "common_divisor" j0)(NB:NBP P w base mg):ja P w K mg base:=yq.mk (N:=["one","other","rest"]) (m:=2) (b:=um) h xI (um2 λ_ _ _ _ _ _ _ _=>rfl) rfl (λf cdv A outer s H E hr=> 
  (zi (zcw wA PassesOwn.never (yM (Jv hr.units) WT (qv 1) qi (nomark _)) (zi (zS 2 xI.nd (zF jP v3 (qv 0) (qv 1)))
   (zi (zS 0 xI.nd (ze 1))
   (zo (zS 1 xI.nd (ze 2))))))
   (zo (zL (zN zcx zkt rfl (nbg NB) zg6 (zm (qv 0) zv))))))
theorem zf4(h:HasDef K mg "lowest" YM)(NB:NBP P w base mg)(d_common_divisor:ja P w K mg base):Vq P w K mg base:=yq.mk (N:=["top","bottom","common"]) (m:=2) (b:=zdy) h Wn (um2 λ_ _ _ _ _ _ _ _=>rfl) rfl (λf cdv A outer s H E hr=> 
  (zi (zS 2 Wn.nd (zj d_common_divisor hr rfl (za (ze 0) (za (ze 1) zg))))
   (zi (vt (yM zb9 uV (qv 1) qi (nomark _)) (zo (zS 2 Wn.nd (V4 (ze 2)))) xi)
   (zo (zL (yA (za (zF xh xN (qv 0) (qv 2)) (za (zF xh xN (qv 1) (qv 2)) zg))))))))
theorem zh5(h:HasDef K mg "times" zbN)(NB:NBP P w base mg)(d_lowest:Vq P w K mg base):zfp P w K mg base:=yq.mk (N:=["one","other"]) (m:=2) (b:=zft) h zix (um2 λ_ _ _ _ _ _ _ _=>rfl) rfl (λf cdv A outer s H E hr=> 
  (zo (zL (zj d_lowest hr rfl (za (zF yP xn (FE.fb (zu (qv 0) qi)) (FE.fb (zu (qv 1) qi))) (za (zF yP xn (FE.fb (zu (qv 0) qi)) (FE.fb (zu (qv 1) qi))) zg))))))
theorem Z2(h:HasDef K mg "scaled_row" vF)(NB:NBP P w base mg)(d_times:zfp P w K mg base):vJ P w K mg base:=yq.mk (N:=["row","fraction"]) (m:=2) (b:=Vf) h Z4 (um2 λ_ _ _ _ _ _ _ _=>rfl) rfl (λf cdv A outer s H E hr=> 
  (zo (zL (zX zC yB rfl (nbg NB) yh (zm (FL.fb (yo (Ts:=["number"]) (F:=[1]) rfl (ym (qv 0)) (csx (sc:=zc vF)) (xF rfl rfl xA) (fgc 0) (λ_ _ _ _ _=>(zj d_times hr rfl (za (ze 0) (za (ze 1) zg)))))) zv)))))
theorem zae(h:HasDef K mg "difference" Jb)(NB:NBP P w base mg)(c_MINUS_ONE:GC K mg "MINUS_ONE" (.tuple [.int (-1),.int 1]))(d_refuse_unlike:jm P w K mg base)(d_scaled_row:vJ P w K mg base)(d_beside:YR P w K mg base):U2 P w K mg base:=yq.mk (N:=["one","other"]) (m:=2) (b:=VI) h zaa (um2 λ_ _ _ _ _ _ _ _=>rfl) rfl (λf cdv A outer s H E hr=> 
  (zi (VF (zj d_refuse_unlike hr rfl (za (ze 0) (za (ze 1) zg))))
   (zo (zL (zj d_beside hr rfl (za (ze 0) (za (yA (za (zu (qv 1) qi) (za (zu (qv 1) qi) (za (zj d_scaled_row hr rfl (za (zu (qv 1) qi) (za (VN c_MINUS_ONE rfl) zg))) zg)))) zg)))))))
theorem V1(h:HasDef K mg "shared_bottom" vx)(NB:NBP P w base mg)(d_common_divisor:ja P w K mg base):jl P w K mg base:=yq.mk (N:=["fractions","bottom","fraction"]) (m:=1) (b:=Jf) h x6 (um1 λ_ _ _ _ _ _ _=>rfl) rfl (λf cdv A outer s H E hr=> 
  (zi (zS 1 x6.nd yc)
   (zi (jD PassesOwn.never rfl (ZL (ze 0)) (zU 2 x6.nd) (zo (zS 1 x6.nd (zF yP xn (qv 1) (FE.fb (zF xh xN (FE.fb (zu (qv 2) qi)) (FE.fb (zj d_common_divisor hr rfl (za (ze 1) (za (zu (qv 2) qi) zg))))))))))
   (zo (zL (ze 1))))))
theorem zbO(h:HasDef K mg "tops_over" wz)(NB:NBP P w base mg):jA P w K mg base 1 "tops_over" ["fractions","bottom"] yO:=jA.mk (N:=["fractions","bottom"]) (m:=2) (b:=WU) h zbv (um2 λ_ _ _ _ _ _ _ _=>rfl) rfl (λf cdv A outer s H E hr=> 
  (zo (JK (yo (Ts:=["fraction"]) (F:=[1]) rfl (ym (qv 0)) (csx (sc:=zc wz)) (xF rfl rfl xA) (fgc 0) (λ_ _ _ _ _=>(zF yP xn (FE.fb (zu (qv 0) qi)) (FE.fb (zF xh xN (qv 1) (FE.fb (zu (qv 0) qi))))))))))
theorem Vy(h:HasDef K mg "without_common" x3)(NB:NBP P w base mg)(d_common_divisor:ja P w K mg base):jA P w K mg base 2 "without_common" ["tops"] yY:=jA.mk (N:=["tops","common","top"]) (m:=1) (b:=uo) h xO (um1 λ_ _ _ _ _ _ _=>rfl) rfl (λf cdv A outer s H E hr=> 
  (zi (zS 1 xO.nd yc)
   (zi (jD PassesOwn.never rfl (ZL (ze 0)) (zU 2 xO.nd) (zo (zS 1 xO.nd (zj d_common_divisor hr rfl (za (ze 2) (za (ze 1) zg))))))
   (zi (vt (yM zb9 uV (qv 1) qi (nomark _)) (zo (JK (JT vK zbP rfl (nbg NB) JJ (zm (qv 0) zv)))) xi)
   (zo (JK (yo (Ts:=["top"]) (F:=[1]) rfl (ym (qv 0)) (csx (sc:=zc x3)) (xF rfl rfl xA) (fgc 0) (λ_ _ _ _ _=>(zF xh xN (qv 0) (qv 1))))))))))
theorem zbb(h:HasDef K mg "whole_row" Jr)(NB:NBP P w base mg)(d_shared_bottom:jl P w K mg base)(d_tops_over:jA P w K mg base 1 "tops_over" ["fractions","bottom"] yO)(d_without_common:jA P w K mg base 2 "without_common" ["tops"] yY):jA P w K mg base 3 "whole_row" ["row"] xZ:=jA.mk (N:=["row"]) (m:=1) (b:=WI) h zbZ (um1 λ_ _ _ _ _ _ _=>rfl) rfl (λf cdv A outer s H E hr=> 
  (zo (JK (uR d_without_common hr rfl (za (FL.fe (uR d_tops_over hr rfl (za (ze 0) (za (zj d_shared_bottom hr rfl (za (ze 0) zg)) zg)))) zg)))))
theorem Vv(h:HasDef K mg "whole_pair_sum" x9)(NB:NBP P w base mg):xk P w K mg base:=yq.mk (N:=["ones","others"]) (m:=2) (b:=ug) h Vb (um2 λ_ _ _ _ _ _ _ _=>rfl) rfl (λf cdv A outer s H E hr=> 
  (zo (zL (zN (zg0 rfl) zmP rfl (nbg NB) zlx (zm (FL.fb (yo (Ts:=["one","other"]) (F:=[]) rfl (Yc false false rfl (nbg NB) (zm (qv 0) (zm (qv 1) zv))) (csx (sc:=zc x9)) xA (λ_ _ _ _ _=>(wH rfl (zU 0 (show(["one","other"]:LSr).Nodup by decide+kernel)) (zU 1 (show(["one","other"]:LSr).Nodup by decide+kernel)))) (λ_ _ _ _ _=>(zF yP xn (qv 0) (qv 1))))) zv)))))
theorem zgy(h:HasDef K mg "column" VP)(NB:NBP P w base mg):UX P w K mg base:=yq.mk (N:=["step","room"]) (m:=2) (b:=zdp) h zfZ (um2 λ_ _ _ _ _ _ _ _=>rfl) rfl (λf cdv A outer s H E hr=> 
  (zo (zL (zX zC yB rfl (nbg NB) yh (zm (FL.fb (yo (Ts:=["row"]) (F:=[1]) rfl (ym (qv 0)) (csx (sc:=zc VP)) (xF rfl rfl xA) (fgc 0) (λ_ _ _ _ _=>(zu (qv 0) (qv 1))))) zv)))))
theorem Z0(h:HasDef K mg "whole_step" vH)(NB:NBP P w base mg)(d_shared_bottom:jl P w K mg base)(d_column:UX P w K mg base)(d_tops_over:jA P w K mg base 1 "tops_over" ["fractions","bottom"] yO):Vi P w K mg base:=yq.mk (N:=["step","numbers","row","bottom","columns"]) (m:=1) (b:=Vx) h jd (um1 λ_ _ _ _ _ _ _=>rfl) rfl (λf cdv A outer s H E hr=> 
  (zi (jI 1 jd.nd (xE zg))
   (zi (jD PassesOwn.never rfl (ZL (ze 0)) (zU 2 jd.nd) (zo (zef 1 (qv 2))))
   (zi (zS 3 jd.nd (zdr d_shared_bottom hr rfl (zm (yQ 1) zv)))
   (zi (u4 4 (Ts:=["room"]) (F:=[0,3]) jd.nd rfl (FI.fib (xb rfl (nbg NB) (za (zN zw y0 rfl (nbg NB) yp (zm (qv 0) zv)) zg))) (csx (sc:=zc vH)) (xF rfl rfl (xF rfl rfl xA)) (fgc 0) (λ_ _ _ _ _=>(FL.fe (uR d_tops_over hr rfl (za (zj d_column hr rfl (za (ze 1) (za (ze 0) zg))) (za (ze 2) zg))))))
   (zo (FS.frz 4 (zL (yA (za (ze 4) (za (ze 3) zg)))))))))))
theorem zb7(h:HasDef K mg "unit_row" Ul)(NB:NBP P w base mg):jA P w K mg base 1 "unit_row" ["place","places"] wa:=jA.mk (N:=["place","places","row"]) (m:=2) (b:=Yj) h WZ (um2 λ_ _ _ _ _ _ _ _=>rfl) rfl (λf cdv A outer s H E hr=> 
  (zi (jI 2 WZ.nd (zgZ (FL.fk (xE (za yc zg))) (ze 1)))
   (zi (zfK 2 (ze 0) yc)
   (zo (zfb 2)))))
theorem zdw(h:HasDef K mg "narrowed" uN)(NB:NBP P w base mg):jA P w K mg base 1 "narrowed" ["check","number","gone","pivot","divisor"] uY:=jA.mk (N:=["check","number","gone","pivot","divisor"]) (m:=5) (b:=ZW) h zcd (λ_ _ _ _ _ _ us hl=>match us,hl with |[_,_,_,_,_],_=>rfl) rfl (λf cdv A outer s H E hr=> 
  (zo (JK (yo (Ts:=["mine","theirs"]) (F:=[1,3,4]) rfl (Yc false false rfl (nbg NB) (zm (qv 0) (zm (qv 2) zv))) (csx (sc:=zc uN)) (xF rfl rfl (xF rfl rfl (xF rfl rfl xA))) (λ_ _ _ _ _=>(wH rfl (zU 0 (show(["mine","theirs","number","pivot","divisor"]:LSr).Nodup by decide+kernel)) (zU 1 (show(["mine","theirs","number","pivot","divisor"]:LSr).Nodup by decide+kernel)))) (λ_ _ _ _ _=>(zF xh xN (FE.fb (zF We Wt (FE.fb (zF yP xn (qv 3) (qv 0))) (FE.fb (zF yP xn (qv 2) (qv 1))))) (qv 4)))))))
theorem zgL(h:HasDef K mg "led_on" Vr)(NB:NBP P w base mg)(d_whole_pair_sum:xk P w K mg base):jA P w K mg base 2 "led_on" ["tops","columns"] U8:=jA.mk (N:=["tops","columns"]) (m:=2) (b:=zcX) h zgQ (um2 λ_ _ _ _ _ _ _ _=>rfl) rfl (λf cdv A outer s H E hr=> 
  (zo (JK (yo (Ts:=["entering"]) (F:=[0]) rfl (ym (qv 1)) (csx (sc:=zc Vr)) (xF rfl rfl xA) (fgc 0) (λ_ _ _ _ _=>(zj d_whole_pair_sum hr rfl (za (ze 1) (za (ze 0) zg))))))))
theorem zc4(h:HasDef K mg "rows_for" uO)(NB:NBP P w base mg)(d_compared:yq P w K mg base 8 "compared" ["one","other"] (jq CS)):yq P w K mg base 9 "rows_for" ["one","other"] (j8 CS):=yq.mk (N:=["one","other","told"]) (m:=2) (b:=Y4 CS) h WB (um2 λ_ _ _ _ _ _ _ _=>rfl) rfl (λf cdv A outer s H E hr=> 
  (zi (zS 2 WB.nd (zj d_compared hr rfl (za (ze 0) (za (ze 1) zg))))
   (zi (vt (yM zbX ZJ (FE.fb (zu (qv 2) qi)) (FE.fb Yu) (nomark _)) (zo (zL Yu)) xi)
   (zo (zL (FL.fe (yo (Ts:=["row"]) (F:=[]) rfl (ym (FE.fb (zu (qv 2) qi))) (csx (sc:=zc uO)) xA (fgc 0) (λ_ _ _ _ _=>(FL.fe (yo (Ts:=["top"]) (F:=[]) rfl (ym (qv 0)) (zdE rfl (by decide+kernel) (by decide+kernel) (by decide+kernel)) xA (fgc 0) (λ_ _ _ _ _=>(yA (za (ze 0) (za yc zg))))))))))))))
theorem ZX(h:HasDef K mg "_law_beside" xt)(NB:NBP P w base mg):U7 P w K mg base:=yq.mk (N:=["one","other","left","right","steps","k","rows"]) (m:=2) (b:=Vt) h xD (um2 λ_ _ _ _ _ _ _ _=>rfl) rfl (λf cdv A outer s H E hr=> 
  (zi (zS 2 xD.nd (zX zC yB rfl (nbg NB) yh (zm (FL.fb (yo (Ts:=["k"]) (F:=[]) rfl (ym (FE.fb (zu (qv 0) qi))) (csx (sc:=zc xt)) xA (fgc 0) (λ_ _ _ _ _=>(yA (za yc (za yc zg)))))) zv)))
   (zi (zS 3 xD.nd (zX zC yB rfl (nbg NB) yh (zm (FL.fb (yo (Ts:=["k"]) (F:=[]) rfl (ym (FE.fb (zu (qv 1) qi))) (csx (sc:=zc xt)) xA (fgc 0) (λ_ _ _ _ _=>(yA (za yc (za yc zg)))))) zv)))
   (zi (jI 4 xD.nd (xE zg))
   (zi (jD PassesOwn.never rfl (xb rfl (nbg NB) (za (zN zw y0 rfl (nbg NB) yp (zm (FE.fb (zu (qv 0) qi)) zv)) zg)) (zU 5 xD.nd) (zi (u4 6 (Ts:=["row"]) (F:=[3]) xD.nd rfl (ym (FE.fb (zu (FE.fb (zu (qv 0) qi)) (qv 5)))) (csx (sc:=zc xt)) (xF rfl rfl xA) (fgc 0) (λ_ _ _ _ _=>(zF xW jG (qv 0) (qv 1))))
   (zo (vU 4 (zX zC yB rfl (nbg NB) yh (zm (FL.fb (zhf (zei 6) (FL.fk (yo (Ts:=["row"]) (F:=[2]) rfl (ym (FE.fb (zu (FE.fb (zu (qv 1) qi)) (qv 5)))) (csx (sc:=zc xt)) (xF rfl rfl xA) (fgc 0) (λ_ _ _ _ _=>(zF xW jG (qv 1) (qv 0))))))) zv))))))
   (zo (zL (yA (za (zF xW jG (FE.fb (zu (qv 0) qi)) (FE.fb (zu (qv 1) qi))) (za (zX zC yB rfl (nbg NB) yh (zm (yQ 4) zv)) (za (zF xW jG (FE.fb (zu (qv 0) qi)) (FE.fb (zu (qv 1) qi))) zg)))))))))))
theorem zci(h:HasDef K mg "_law_both" Jc)(NB:NBP P w base mg)(d_law_beside:U7 P w K mg base):Zt P w K mg base:=yq.mk (N:=["one","other","less"]) (m:=2) (b:=Za) h WE (um2 λ_ _ _ _ _ _ _ _=>rfl) rfl (λf cdv A outer s H E hr=> 
  (zi (zS 2 WE.nd (zX zC yB rfl (nbg NB) yh (zm (FL.fb (yo (Ts:=["part"]) (F:=[]) rfl (ym (FE.fb (zu (qv 1) qi))) (csx (sc:=zc Jc)) xA (fgc 0) (λ_ _ _ _ _=>(yA (za (zF We Wt qi (FE.fb (zu (qv 0) qi))) (za (zu (qv 0) qi) zg)))))) zv)))
   (zo (zL (zj d_law_beside hr rfl (za (ze 0) (za (yA (za (zu (qv 1) qi) (za (zu (qv 1) qi) (za (ze 2) zg)))) zg)))))))
theorem zdB(h:HasDef K mg "_law_over" UJ)(NB:NBP P w base mg):Yy P w K mg base:=yq.mk (N:=["part"]) (m:=1) (b:=Y6) h zcB (um1 λ_ _ _ _ _ _ _=>rfl) rfl (λf cdv A outer s H E hr=> 
  (zi (vt (yM zb9 uV (FE.fb (zu (qv 0) qi)) qi (nomark _)) (zo (zL (yA (za (zF We Wt qi (FE.fb (zu (qv 0) qi))) (za (zF We Wt qi (FE.fb (zu (qv 0) qi))) zg))))) xi)
   (zo (zL (yA (za (zu (qv 0) qi) (za (zu (qv 0) qi) zg)))))))
theorem zaZ(h:HasDef K mg "_law_times" JA)(NB:NBP P w base mg)(d_law_low:JZ P w K mg base):Jp P w K mg base:=yq.mk (N:=["one","other"]) (m:=2) (b:=W0) h zbS (um2 λ_ _ _ _ _ _ _ _=>rfl) rfl (λf cdv A outer s H E hr=> 
  (zo (zL (zj d_law_low hr rfl (za (zF yP xn (FE.fb (zu (qv 0) qi)) (FE.fb (zu (qv 1) qi))) (za (zF yP xn (FE.fb (zu (qv 0) qi)) (FE.fb (zu (qv 1) qi))) zg))))))
theorem zcV(h:HasDef K mg "_law_plus" Us)(NB:NBP P w base mg)(d_law_low:JZ P w K mg base):Ux P w K mg base:=yq.mk (N:=["one","other"]) (m:=2) (b:=Yz) h zdi (um2 λ_ _ _ _ _ _ _ _=>rfl) rfl (λf cdv A outer s H E hr=> 
  (zo (zL (zj d_law_low hr rfl (za (zF j7 j4 (FE.fb (zF yP xn (FE.fb (zu (qv 0) qi)) (FE.fb (zu (qv 1) qi)))) (FE.fb (zF yP xn (FE.fb (zu (qv 1) qi)) (FE.fb (zu (qv 0) qi))))) (za (zF yP xn (FE.fb (zu (qv 0) qi)) (FE.fb (zu (qv 1) qi))) zg))))))
theorem zco(h:HasDef K mg "_law_rank" jU)(NB:NBP P w base mg)(d_law_over:Yy P w K mg base)(d_law_times:Jp P w K mg base)(d_law_plus:Ux P w K mg base):Yo P w K mg base:=yq.mk (N:=["rows","left","done","k","at","base","r","part","less"]) (m:=1) (b:=Yk) h yW (um1 λ_ _ _ _ _ _ _=>rfl) rfl (λf cdv A outer s H E hr=> 
  (zi (jI 1 yW.nd (yo (Ts:=["row"]) (F:=[]) rfl (ym (qv 0)) (csx (sc:=zc jU)) xA (fgc 0) (λ_ _ _ _ _=>(FL.fe (JT vK zbP rfl (nbg NB) JJ (zm (qv 0) zv))))))
   (zi (zS 2 yW.nd yc)
   (zi (jD PassesOwn.never rfl (xb rfl (nbg NB) (za (zcR (yM zfB uV (FE.fb (zN zw y0 rfl (nbg NB) yp (zm (yQ 1) zv))) qi (nomark _)) (zN zw y0 rfl (nbg NB) yp (zm (FE.fb (zu (yQ 1) qi)) zv)) yc) zg)) (zU 3 yW.nd) (zi (zgF 4 (Ts:=["r"]) (F:=[1,3]) yW.nd rfl (FI.fib (zaS rfl (nbg NB) (za (ze 2) (za (zN zw y0 rfl (nbg NB) yp (zm (yQ 1) zv)) zg)))) (csx (sc:=zc jU)) (xF rfl rfl (xF rfl rfl xA)) (fgc 0) (λ_ _ _ _ _=>(yM (Jv hr.units) WT (FE.fb (zu (FE.fb (zu (FE.fb (zu (yQ 1) (qv 0))) (qv 2))) qi)) qi (nomark _))) (λ_ _ _ _ _=>(ze 0)))
   (zo (vt (yM zfB uV (FE.fb (zN zw y0 rfl (nbg NB) yp (zm (yQ 4) zv))) qi (nomark _)) (zi (zlw 5 1 yW.nd (zu (yQ 4) qi))
   (zi (zgg 1 (ze 2) (ze 5))
   (zi (jD PassesOwn.never rfl (zaS rfl (nbg NB) (za (zF j7 j4 (qv 2) qi) (za (zN zw y0 rfl (nbg NB) yp (zm (yQ 1) zv)) zg))) (zU 6 yW.nd) (zo (vt (yM (Jv hr.units) WT (FE.fb (zu (FE.fb (zu (FE.fb (zu (yQ 1) (qv 6))) (qv 3))) qi)) qi (nomark _)) (zi (zS 7 yW.nd (zj d_law_times hr rfl (za (zu (FE.fb (zu (yQ 1) (qv 6))) (qv 3)) (za (zj d_law_over hr rfl (za (zu (qv 5) (qv 3)) zg)) zg))))
   (zi (zS 8 yW.nd (yA (za (zF We Wt qi (FE.fb (zu (qv 7) qi))) (za (zu (qv 7) qi) zg))))
   (zo (zfK 1 (ze 6) (FL.fe (yo (Ts:=["c"]) (F:=[1,5,6,8]) rfl (FI.fib (xb rfl (nbg NB) (za (zN zw y0 rfl (nbg NB) yp (zm (qv 5) zv)) zg))) (csx (sc:=zc jU)) (xF rfl rfl (xF rfl rfl (xF rfl rfl (xF rfl rfl xA)))) (fgc 0) (λ_ _ _ _ _=>(zj d_law_plus hr rfl (za (zu (FE.fb (zu (yQ 1) (qv 3))) (qv 0)) (za (zj d_law_times hr rfl (za (ze 4) (za (zu (qv 2) (qv 0)) zg))) zg)))))))))) xi)))
   (zo (zS 2 yW.nd (zF j7 j4 (qv 2) qi)))))) xi))))
   (zo (zL (ze 2)))))))
theorem YE(h:HasDef K mg "_law_in_span" vg)(NB:NBP P w base mg)(d_law_rank:Yo P w K mg base):J3 P w K mg base:=yq.mk (N:=["rows","row"]) (m:=2) (b:=J6) h YB (um2 λ_ _ _ _ _ _ _ _=>rfl) rfl (λf cdv A outer s H E hr=> 
  (zi (vt (yM (vy hr.units) Jh (FE.fb (zN zw y0 rfl (nbg NB) yp (zm (qv 0) zv))) qi (nomark _)) (zo (zL (zdV (vy hr.units) Jh (FE.fb (zN zw y0 rfl (nbg NB) yp (zm (FL.fb (zfS (Ts:=["part"]) (F:=[]) rfl (ym (qv 1)) (csx (sc:=zc vg)) xA (fgc 0) (λ_ _ _ _ _=>(yM (Jv hr.units) WT (FE.fb (zu (qv 0) qi)) qi (nomark _))) (λ_ _ _ _ _=>(ze 0)))) zv))) qi (nomark _)))) xi)
   (zo (zL (zdV (vy hr.units) Jh (FE.fb (zj d_law_rank hr rfl (za (FL.fe (zmk zj3 ziP (qv 0) (FL.fb (xE (za (ze 1) zg))))) zg))) (FE.fb (zj d_law_rank hr rfl (za (ze 0) zg))) (nomark _))))))
theorem zdW(h:HasDef K mg "_law_dot" Wq)(NB:NBP P w base mg)(d_law_times:Jp P w K mg base)(d_law_plus:Ux P w K mg base):VU P w K mg base:=yq.mk (N:=["one","other","total","k"]) (m:=2) (b:=zaT) h uH (um2 λ_ _ _ _ _ _ _ _=>rfl) rfl (λf cdv A outer s H E hr=> 
  (zi (zS 2 uH.nd (yA (za yc (za yc zg))))
   (zi (jD PassesOwn.never rfl (xb rfl (nbg NB) (za (zN zw y0 rfl (nbg NB) yp (zm (qv 0) zv)) zg)) (zU 3 uH.nd) (zo (zS 2 uH.nd (zj d_law_plus hr rfl (za (ze 2) (za (zj d_law_times hr rfl (za (zu (qv 0) (qv 3)) (za (zu (qv 1) (qv 3)) zg))) zg))))))
   (zo (zL (ze 2))))))
theorem zeq(h:HasDef K mg "_law_led" JI)(NB:NBP P w base mg)(d_law_dot:VU P w K mg base):jA P w K mg base 4 "_law_led" ["row","step"] j9:=jA.mk (N:=["row","step","out","b"]) (m:=2) (b:=zau) h UK (um2 λ_ _ _ _ _ _ _ _=>rfl) rfl (λf cdv A outer s H E hr=> 
  (zi (jI 2 UK.nd (xE zg))
   (zi (jD PassesOwn.never rfl (xb rfl (nbg NB) (za (zN zw y0 rfl (nbg NB) yp (zm (qv 0) zv)) zg)) (zU 3 UK.nd) (zo (vU 2 (zj d_law_dot hr rfl (za (ze 0) (za (FL.fe (yo (Ts:=["a"]) (F:=[1,3]) rfl (FI.fib (xb rfl (nbg NB) (za (zN zw y0 rfl (nbg NB) yp (zm (qv 0) zv)) zg))) (csx (sc:=zc JI)) (xF rfl rfl (xF rfl rfl xA)) (fgc 0) (λ_ _ _ _ _=>(zu (FE.fb (zu (qv 1) (qv 0))) (qv 2))))) zg))))))
   (zo (zfb 2)))))
theorem zbx(h:HasDef K mg "_law_shown" wI)(NB:NBP P w base mg)(d_law_both:Zt P w K mg base)(d_law_in_span:J3 P w K mg base)(d_law_dot:VU P w K mg base)(d_law_led:jA P w K mg base 4 "_law_led" ["row","step"] j9):WA P w K mg base:=yq.mk (N:=["one","other","rows","both","known","row","step"]) (m:=3) (b:=WG) h jJ (um3 λ_ _ _ _ _ _ _ _ _=>rfl) rfl (λf cdv A outer s H E hr=> 
  (zi (zS 3 jJ.nd (zj d_law_both hr rfl (za (ze 0) (za (ze 1) zg))))
   (zi (u4 4 (Ts:=["row"]) (F:=[]) jJ.nd rfl (ym (qv 2)) (csx (sc:=zc wI)) xA (fgc 0) (λ_ _ _ _ _=>(FL.fe (JT vK zbP rfl (nbg NB) JJ (zm (qv 0) zv)))))
   (zi (vt (zhR (zhJ (zdr d_law_in_span hr rfl (zm (yQ 4) (zm (FL.fb (JT vK zbP rfl (nbg NB) JJ (zm (FE.fb (zu (qv 3) qi)) zv))) zv))))) (zo (zL zam)) xi)
   (zi (FS.frz 4 (jD PassesOwn.never rfl (ZL (ze 4)) (zU 5 jJ.nd) (zi (vt (yM (Jv hr.units) WT (FE.fb (zu (FE.fb (zj d_law_dot hr rfl (za (ze 5) (za (zu (qv 3) qi) zg)))) qi)) qi (nomark _)) (zo (zL zam)) xi)
   (zo (jD PassesOwn.never rfl (ZL (zu (qv 3) qi)) (zU 6 jJ.nd) (zo (vt (zhR (zhJ (zj d_law_in_span hr rfl (za (ze 4) (za (FL.fe (uR d_law_led hr rfl (za (ze 5) (za (ze 6) zg)))) zg))))) (zo (zL zam)) xi)))))))
   (zo (zL zam)))))))
theorem zb4(h:HasDef K mg "_law_same" Um)(NB:NBP P w base mg)(d_rows_for:yq P w K mg base 9 "rows_for" ["one","other"] (j8 CS))(d_law_shown:WA P w K mg base):yq P w K mg base 10 "_law_same" ["one","other"] (yH CS):=yq.mk (N:=["one","other","rows"]) (m:=2) (b:=Zh CS) h W2 (um2 λ_ _ _ _ _ _ _ _=>rfl) rfl (λf cdv A outer s H E hr=> 
  (zi (zS 2 W2.nd (zj d_rows_for hr rfl (za (ze 0) (za (ze 1) zg))))
   (zo (zL (zl4 (zk7 (qv 2) rfl (nbg NB) rfl (nbg NB) JJ) (zkR (zj d_law_shown hr rfl (za (ze 0) (za (ze 1) (za (ze 2) zg))))))))))
theorem zdv(h:HasDef K mg "pair_sum" UO)(NB:NBP P w base mg)(d_shared_bottom:jl P w K mg base)(d_tops_over:jA P w K mg base 1 "tops_over" ["fractions","bottom"] yO)(d_whole_pair_sum:xk P w K mg base)(d_lowest:Vq P w K mg base):uG P w K mg base:=yq.mk (N:=["ones","others","ones_bottom","others_bottom","top"]) (m:=2) (b:=ZC) h wy (um2 λ_ _ _ _ _ _ _ _=>rfl) rfl (λf cdv A outer s H E hr=> 
  (zi (zS 2 wy.nd (zj d_shared_bottom hr rfl (za (ze 0) zg)))
   (zi (zS 3 wy.nd (zj d_shared_bottom hr rfl (za (ze 1) zg)))
   (zi (zS 4 wy.nd (zj d_whole_pair_sum hr rfl (za (FL.fe (uR d_tops_over hr rfl (za (ze 0) (za (ze 2) zg)))) (za (FL.fe (uR d_tops_over hr rfl (za (ze 1) (za (ze 3) zg)))) zg))))
   (zo (zL (zj d_lowest hr rfl (za (ze 4) (za (zF yP xn (qv 2) (qv 3)) zg)))))))))
theorem zcC(h:HasDef K mg "crossing" UA)(NB:NBP P w base mg)(d_pair_sum:uG P w K mg base)(d_scaled_row:vJ P w K mg base):ZM P w K mg base:=yq.mk (N:=["row","one","other"]) (m:=3) (b:=Zc) h zc6 (um3 λ_ _ _ _ _ _ _ _ _=>rfl) rfl (λf cdv A outer s H E hr=> 
  (zo (zL (zj d_scaled_row hr rfl (za (zu (qv 2) qi) (za (zj d_pair_sum hr rfl (za (ze 0) (za (zu (qv 1) qi) zg))) zg))))))
theorem zd8(h:HasDef K mg "chained" JP)(NB:NBP P w base mg)(d_refuse_unlike:jm P w K mg base)(d_refuse_too_many:jO P w K mg base)(d_crossing:ZM P w K mg base)(d_joined_step:wU P w K mg base)(d_noughts:JR P w K mg base):zaQ P w K mg base:=yq.mk (N:=["one","other","first","steps","one_step","other_step","crossings"]) (m:=2) (b:=zav) h j5 (um2 λ_ _ _ _ _ _ _ _=>rfl) rfl (λf cdv A outer s H E hr=> 
  (zi (VF (zj d_refuse_unlike hr rfl (za (ze 0) (za (ze 1) zg))))
   (zi (VF (zj d_refuse_too_many hr rfl (za (zF j7 j4 (FE.fb (zN zw y0 rfl (nbg NB) yp (zm (FE.fb (zu (qv 0) qi)) zv))) (FE.fb (zN zw y0 rfl (nbg NB) yp (zm (FE.fb (zu (qv 1) qi)) zv)))) zg)))
   (zi (zS 2 j5.nd (zF xW jG (FE.fb (zu (qv 0) qi)) (FE.fb (zj d_crossing hr rfl (za (zu (qv 0) qi) (za (ze 0) (za (ze 1) zg)))))))
   (zi (jI 3 j5.nd (xE zg))
   (zi (jD PassesOwn.never rfl (zlT true true rfl (nbg NB) (za (zu (qv 0) qi) (za (zu (qv 1) qi) zg))) (wH rfl (zU 4 j5.nd) (zU 5 j5.nd)) (zi (u4 6 (Ts:=["row"]) (F:=[0,1]) j5.nd rfl (ym (qv 4)) (csx (sc:=zc JP)) (xF rfl rfl (xF rfl rfl xA)) (fgc 0) (λ_ _ _ _ _=>(zj d_crossing hr rfl (za (ze 0) (za (ze 1) (za (ze 2) zg))))))
   (zo (FS.frz 6 (vU 3 (zj d_joined_step hr rfl (za (ze 4) (za (ze 6) (za (ze 5) zg)))))))))
   (zo (zL (yA (za (ze 2) (za (zX zC yB rfl (nbg NB) yh (zm (yQ 3) zv)) (za (zF xW jG (FE.fb (zj d_noughts hr rfl (za (zN zw y0 rfl (nbg NB) yp (zm (FE.fb (zu (qv 0) qi)) zv)) zg))) (FE.fb (zu (qv 1) qi))) zg))))))))))))
theorem Zn(h:HasDef K mg "turned_step" vd)(NB:NBP P w base mg)(d_column:UX P w K mg base):J4 P w K mg base:=yq.mk (N:=["step"]) (m:=1) (b:=Ud) h YX (um1 λ_ _ _ _ _ _ _=>rfl) rfl (λf cdv A outer s H E hr=> 
  (zo (zL (zX zC yB rfl (nbg NB) yh (zm (FL.fb (yo (Ts:=["room"]) (F:=[0]) rfl (FI.fib (xb rfl (nbg NB) (za (zN zw y0 rfl (nbg NB) yp (zm (qv 0) zv)) zg))) (csx (sc:=zc vd)) (xF rfl rfl xA) (fgc 0) (λ_ _ _ _ _=>(zj d_column hr rfl (za (ze 1) (za (ze 0) zg)))))) zv)))))
theorem zfY(h:HasDef K mg "turned" Vg)(NB:NBP P w base mg)(d_turned_step:J4 P w K mg base):ZD P w K mg base:=yq.mk (N:=["machine"]) (m:=1) (b:=zc3) h zfP (um1 λ_ _ _ _ _ _ _=>rfl) rfl (λf cdv A outer s H E hr=> 
  (zo (zL (yA (za (zu (qv 0) qi) (za (zX zC yB rfl (nbg NB) yh (zm (FL.fb (yo (Ts:=["step"]) (F:=[]) rfl (ym (FE.fb (zu (qv 0) qi))) (csx (sc:=zc Vg)) xA (fgc 0) (λ_ _ _ _ _=>(zj d_turned_step hr rfl (za (ze 0) zg))))) zv)) (za (zu (qv 0) qi) zg)))))))
theorem zf8(h:HasDef K mg "scaled" Y8)(NB:NBP P w base mg)(d_scaled_row:vJ P w K mg base):zdc P w K mg base:=yq.mk (N:=["machine","fraction"]) (m:=2) (b:=zcO) h zfX (um2 λ_ _ _ _ _ _ _ _=>rfl) rfl (λf cdv A outer s H E hr=> 
  (zo (zL (yA (za (zj d_scaled_row hr rfl (za (zu (qv 0) qi) (za (ze 1) zg))) (za (zu (qv 0) qi) (za (zu (qv 0) qi) zg)))))))
theorem Zg(h:HasDef K mg "shared_step" jh)(NB:NBP P w base mg)(d_column:UX P w K mg base)(d_pair_sum:uG P w K mg base):Ub P w K mg base:=yq.mk (N:=["step","places","shares","columns"]) (m:=3) (b:=Ui) h Jo (um3 λ_ _ _ _ _ _ _ _ _=>rfl) rfl (λf cdv A outer s H E hr=> 
  (zi (jI 3 Jo.nd (yo (Ts:=["place"]) (F:=[0]) rfl (ym (qv 1)) (csx (sc:=zc jh)) (xF rfl rfl xA) (fgc 0) (λ_ _ _ _ _=>(zj d_column hr rfl (za (ze 1) (za (ze 0) zg))))))
   (zo (zL (zX zC yB rfl (nbg NB) yh (zm (FL.fb (zhz (x0:="share") (Ts:=["share"]) (F:=[3]) rfl (ym (qv 2)) (zcY (sc:=zc jh) rfl rfl rfl (by decide+kernel) (λ_ _=>rfl) (λ_=>rfl) (by decide+kernel) (by decide+kernel)) (xF rfl rfl xA) (λ_ _ _ _ _=>(zU 0 (show(["share","columns"]:LSr).Nodup by decide+kernel))) (λ_ _ _ _ _=>(zX zC yB rfl (nbg NB) yh (zm (FL.fb (yo (Ts:=["entering"]) (F:=[0]) rfl (ym (yQ 1)) (zca rfl (by decide+kernel) (by decide+kernel) (by decide+kernel)) (xF rfl rfl xA) (fgc 0) (λ_ _ _ _ _=>(zj d_pair_sum hr rfl (za (ze 1) (za (ze 0) zg)))))) zv))))) zv))))))
theorem zdT(NB:NBP P w base mg)(h:HasDef K mg "reached" jT)(d_whole_reach:zf9 P w K mg base 8 CR "whole_reach" ["machine"] (xC CS))(mF:Met P w K mg base 1 CS "full" ["self"] Ut)(mS:zf1 P w K mg base 4 CS "settled_row" ["self","place"] uD)(d_shared_step:Ub P w K mg base)(d_pair_sum:uG P w K mg base)(clR:Cls K CR)(clS:Cls K CS)(nSp:zH K CR "span")(nT:zH K CS "taken"):yq P w K mg base 9 "reached" ["machine"] (ub CS):=yq.mk (k:=8) (N:=["machine","span","places","shares","first","steps","last"]) (m:=1) (b:=zaN CS) h jw (um1 λ_ _ _ _ _ _ _=>rfl) rfl (λf cdv A outer s H E hr=>
  (ze5 1 jw.nd (zlS clR nSp (ziT d_whole_reach hr rfl (za (ze 0) zg)))
   (zI (zin (za1 (VA clS mF hr)) (y4 (wX (FE.ge (ze 0)))) Vm)
   (zI (US 2 jw.nd (GL.ge (zf7 rfl (nbg NB) (jV clS nT))))
   (zI (US 3 jw.nd (GL.ge (zh0 0 (Ts:=["place"]) (F:=[1]) rfl (FIB.gib (ym (qv 2))) (csx (sc:=zc jT)) (xF rfl rfl xA) rfl (fgc 0) (λ_ _ _ _ _=>zj8 clS mS hr (ux (FE.gj (ze 0)) zfE)))))
   (zI (US 4 jw.nd (FE.ge (zX zC yB rfl (nbg NB) yh (zm (FL.fb (yo (Ts:=["place"]) (F:=[0]) rfl (ym (qv 2)) (csx (sc:=zc jT)) (xF rfl rfl xA) (fgc 0) (λ_ _ _ _ _=>(zu (FE.fb (zu (qv 1) qi (λ_ _=>rfl))) (qv 0) (λ_ _=>rfl))))) zv))))
   (zI (US 5 jw.nd (FE.ge (zX zC yB rfl (nbg NB) yh (zm (FL.fb (yo (Ts:=["step"]) (F:=[2,3]) rfl (ym (FE.fb (zu (qv 0) qi (λ_ _=>rfl)))) (csx (sc:=zc jT)) (xF rfl rfl (xF rfl rfl xA)) (fgc 0) (λ_ _ _ _ _=>(zj d_shared_step hr rfl (za (ze 0) (za (ze 1) (za (ze 2) zg))))))) zv))))
   (zI (US 6 jw.nd (FE.ge (zX zC yB rfl (nbg NB) yh (zm (FL.fb (yo (Ts:=["share"]) (F:=[0]) rfl (ym (qv 3)) (csx (sc:=zc jT)) (xF rfl rfl xA) (fgc 0) (λ_ _ _ _ _=>(zj d_pair_sum hr rfl (za (ze 0) (za (zu (qv 1) qi (λ_ _=>rfl)) zg)))))) zv))))
   (y4 (wX (FE.ge (yA (za (ze 4) (za (ze 5) (za (ze 6) zg)))))))))))))))
theorem zcW(h:HasDef K mg "smallest" Uy)(NB:NBP P w base mg)(d_reached:yq P w K mg base 9 "reached" ["machine"] (ub CS))(d_turned:ZD P w K mg base):yq P w K mg base 10 "smallest" ["machine"] (uL CS):=yq.mk (N:=["machine"]) (m:=1) (b:=Y5 CS) h zdF (um1 λ_ _ _ _ _ _ _=>rfl) rfl (λf cdv A outer s H E hr=> 
  (zo (zL (zj d_turned hr rfl (za (zj d_reached hr rfl (za (zj d_turned hr rfl (za (zj d_reached hr rfl (za (ze 0) zg)) zg)) zg)) zg)))))
theorem zjG(h:HasDef K mg "rank" zez)(NB:NBP P w base mg)(d_smallest:yq P w K mg base 10 "smallest" ["machine"] (uL CS)):yq P w K mg base 11 "rank" ["machine"] (za9 CS):=yq.mk (N:=["machine"]) (m:=1) (b:=zgW CS) h zjI (um1 λ_ _ _ _ _ _ _=>rfl) rfl (λf cdv A outer s H E hr=> 
  (zo (zL (zN zw y0 rfl (nbg NB) yp (zm (FE.fb (zu (FE.fb (zj d_smallest hr rfl (za (ze 0) zg))) qi)) zv)))))
theorem zln{f:AdX}{fd:FuncData}(F:Fun K "law" "law" YA f fd)(NB:NBP P w base mg)(d_law_cell_at:Uk P w K mg base)(d_law_machine:J2 P w K mg base)(d_added:zfr P w K mg base)(d_law_same:yq P w K mg base 10 "_law_same" ["one","other"] (yH CS))(d_chained:zaQ P w K mg base)(d_turned:ZD P w K mg base)(d_scaled:zdc P w K mg base)(d_rank:yq P w K mg base 11 "rank" ["machine"] (za9 CS)):wo P w K mg base CX0 12 f fd ["script"] (spF K (zku CS)):=FnF.mk (N:=["script","signs","a","b","c","way"]) (m:=1) (b:=zkA CS) F Wu rfl (λcdv A outer s H E hr=> 
  (zi (zS 1 Wu.nd (zF j7 j4 qi (FE.fb (zF jP v3 (FE.fb (zj d_law_cell_at hr rfl (za (ze 0) (za yc zg)))) qi))))
   (zi (zS 2 Wu.nd (zj d_law_machine hr rfl (za (zj d_law_cell_at hr rfl (za (ze 0) (za yc zg))) (za (zF jP v3 (FE.fb (zF xh xN (FE.fb (zj d_law_cell_at hr rfl (za (ze 0) (za yc zg)))) qi)) qi) (za (ze 1) zg)))))
   (zi (zS 3 Wu.nd (zj d_law_machine hr rfl (za (zj d_law_cell_at hr rfl (za (ze 0) (za yc zg))) (za (zF jP v3 (FE.fb (zF xh xN (FE.fb (zj d_law_cell_at hr rfl (za (ze 0) (za yc zg)))) qi)) qi) (za (ze 1) zg)))))
   (zi (zS 4 Wu.nd (zj d_law_machine hr rfl (za (zj d_law_cell_at hr rfl (za (ze 0) (za yc zg))) (za (zF jP v3 (FE.fb (zF xh xN (FE.fb (zj d_law_cell_at hr rfl (za (ze 0) (za yc zg)))) qi)) qi) (za (ze 1) zg)))))
   (zi (zS 5 Wu.nd (zF jP v3 (FE.fb (zj d_law_cell_at hr rfl (za (ze 0) (za yc zg)))) qi))
   (zi (vt (yM (vy hr.units) Jh (qv 5) qi (nomark _)) (zo (zL (zj d_law_same hr rfl (za (zj d_added hr rfl (za (ze 2) (za (ze 3) zg))) (za (zj d_added hr rfl (za (ze 3) (za (ze 2) zg))) zg))))) xi)
   (zi (vt (yM (vy hr.units) Jh (qv 5) qi (nomark _)) (zo (zL (zj d_law_same hr rfl (za (zj d_added hr rfl (za (zj d_added hr rfl (za (ze 2) (za (ze 3) zg))) (za (ze 4) zg))) (za (zj d_added hr rfl (za (ze 2) (za (zj d_added hr rfl (za (ze 3) (za (ze 4) zg))) zg))) zg))))) xi)
   (zi (vt (yM (vy hr.units) Jh (qv 5) qi (nomark _)) (zo (zL (zj d_law_same hr rfl (za (zj d_chained hr rfl (za (zj d_added hr rfl (za (ze 2) (za (ze 3) zg))) (za (ze 4) zg))) (za (zj d_added hr rfl (za (zj d_chained hr rfl (za (ze 2) (za (ze 4) zg))) (za (zj d_chained hr rfl (za (ze 3) (za (ze 4) zg))) zg))) zg))))) xi)
   (zi (vt (yM (vy hr.units) Jh (qv 5) qi (nomark _)) (zo (zL (zj d_law_same hr rfl (za (zj d_turned hr rfl (za (zj d_chained hr rfl (za (ze 2) (za (ze 3) zg))) zg)) (za (zj d_chained hr rfl (za (zj d_turned hr rfl (za (ze 3) zg)) (za (zj d_turned hr rfl (za (ze 2) zg)) zg))) zg))))) xi)
   (zo (zL (zdV (vy hr.units) Jh (FE.fb (zj d_rank hr rfl (za (zj d_added hr rfl (za (ze 2) (za (zj d_scaled hr rfl (za (ze 2) (za (yA (za (V4 yc) (za yc zg))) zg))) zg))) zg))) qi (nomark _))))))))))))))
end
end K14
namespace K14
open PySem L2 L2.Fu
abbrev NI(K:FRx)(x:Str)(f:AdX):Prop:=W.nsIn K mainGlobals x=some (some (.ref f))
abbrev LK(K:FRx)(f:AdX)(x q:Str)(st:Stmt)(oc:Value)(od:Option Addr)(kV dc pm:Value)(an:Option Addr)(cd ct:Value)(sl:Array (Option Value)):Prop:=K.lookup f=some ⟨oc,od,.func (W.fnOf x q (x8 st) (yC st) (zc st) .none kV dc pm an cd ct),sl⟩
abbrev CI(K:FRx)(c:Value)(x:Str):Prop:=W.codeIn K c x=true
abbrev KI(K:FRx)(f:AdX):Prop:=W.keepIn K (.ref f)=true
abbrev FI0(K:FRx)(C:AdX)(x:Str):Prop:=W.findIn K (.ref C) x=some none
abbrev HD(K:FRx)(x:Str)(st:Stmt):Prop:=∃f oc od kV dc pm an cd ct sl,NI K x f/\LK K f x x st oc od kV dc pm an cd ct sl/\CI K cd x/\KI K f
abbrev MD(K:FRx)(C:AdX)(m q:Str)(st:Stmt):Prop:=∃f oc od kV dc pm an cd ct sl,W.findIn K (.ref C) m=some (some (.ref f))/\W.isFn K (.ref f)=true/\LK K f m q st oc od kV dc pm an cd ct sl/\CI K cd q/\KI K f
theorem hdef{K:FRx}{h:Heap}{mg:Str->Option Value}{x:Str}{st:Stmt}(X:K.In h)(G:h.Ns mainGlobals mg)(a:HD K x st):HasDef K mg x st:=by
 obtain⟨_,_,_,_,_,_,_,_,_,_,a,l,c,k⟩:=a;exact⟨_,_,za0 (st:=st) l c k,W.mg_of X G a⟩
theorem hmeth{K:FRx}{C:AdX}{m q:Str}{st:Stmt}(a:MD K C m q st):vI K C m q st:=by
 obtain⟨_,_,_,_,_,_,_,_,_,_,a,i,l,c,k⟩:=a;exact⟨_,_,za0 (st:=st) l c k,⟨a,i,k⟩⟩
theorem hini{K:FRx}{h:Heap}{mg:Str->Option Value}{C:AdX}{n q:Str}{st:Stmt}(X:K.In h)(G:h.Ns mainGlobals mg)(a:MD K C "__init__" q st)(aC:W.nsIn K mainGlobals n=some (some (.ref C)))(mk:W.makesIn K C=true)(kc:W.keepIn K (.ref C)=true):W9 K mg C n "__init__" q st:=by
 obtain⟨_,_,_,_,_,_,_,_,_,_,a,i,l,c,k⟩:=a;exact⟨_,_,za0 (st:=st) l c k,⟨mk,a,i,kc⟩,W.mg_of X G aC⟩
theorem zmg{K:FRx}{x:Str}{st:Stmt}{f:AdX}{oc kV dc pm cd ct:Value}{od an:Option Addr}{sl:Array (Option Value)}(a:NI K x f)(l:LK K f x x st oc od kV dc pm an cd ct sl)(c:CI K cd x)(k:KI K f):HD K x st:=⟨f,oc,od,kV,dc,pm,an,cd,ct,sl,a,l,c,k⟩
theorem zmh{K:FRx}{C:AdX}{m q:Str}{st:Stmt}{f:AdX}{oc kV dc pm cd ct:Value}{od an:Option Addr}{sl:Array (Option Value)}(a:W.findIn K (.ref C) m=some (some (.ref f)))(i:W.isFn K (.ref f)=true)(l:LK K f m q st oc od kV dc pm an cd ct sl)(c:CI K cd q)(k:KI K f):MD K C m q st:=⟨f,oc,od,kV,dc,pm,an,cd,ct,sl,a,i,l,c,k⟩
def zkd(K:FRx)(l:LSr):Prop:=∀x∈l,W.nsIn K mainGlobals x=some none
theorem ziG{K:FRx}:zkd K []:=λ_ h=>by cases h
theorem zfQ{K:FRx}{x:Str}{l:LSr}(h:W.nsIn K mainGlobals x=some none)(r:zkd K l):zkd K (x::l):=λy hy=>by
 rcases List.mem_cons.mp hy with rfl|hy
 ·exact h
 ·exact r y hy
theorem all_mk{l:W.OpenLaw}{w:World}{K:FRx}{h:Heap}{mg:Str->Option Value}{fa CS CR:AdX}(X:K.In h)(G:h.Ns mainGlobals mg)(hfa:mg "law"=some (.ref fa))(a1:HD K "_law_cell_at" wL)(a2:HD K "_law_low" VV)(a3:HD K "_law_fraction" vV)(a4:HD K "_law_machine" wZ)(a5:HD K "refuse_unlike" vB)(a6:HD K "refuse_too_many" jF)(a7:HD K "noughts" Ws)(a8:HD K "joined_step" jf)(a9:HD K "added_step" uX)(a10:HD K "beside" U4)(a11:HD K "added" zbl)(a12:HD K "common_divisor" j0)(a13:HD K "lowest" YM)(a14:HD K "times" zbN)(a15:HD K "scaled_row" vF)(a16:HD K "difference" Jb)(a17:HD K "shared_bottom" vx)(a18:HD K "tops_over" wz)(a19:HD K "without_common" x3)(a20:HD K "whole_row" Jr)(a21:HD K "whole_pair_sum" x9)(a22:HD K "column" VP)(a23:HD K "whole_step" vH)(a24:HD K "unit_row" Ul)(a25:HD K "narrowed" uN)(a26:HD K "led_on" Vr)(a27:HD K "compared" UI)(a28:HD K "rows_for" uO)(a29:HD K "_law_beside" xt)(a30:HD K "_law_both" Jc)(a31:HD K "_law_over" UJ)(a32:HD K "_law_times" JA)(a33:HD K "_law_plus" Us)(a34:HD K "_law_rank" jU)(a35:HD K "_law_in_span" vg)(a36:HD K "_law_dot" Wq)(a37:HD K "_law_led" JI)(a38:HD K "_law_shown" wI)(a39:HD K "_law_same" Um)(a40:HD K "pair_sum" UO)(a41:HD K "crossing" UA)(a42:HD K "chained" JP)(a43:HD K "turned_step" vd)(a44:HD K "turned" Vg)(a45:HD K "scaled" Y8)(a46:HD K "shared_step" jh)(a47:HD K "reached" jT)(a48:HD K "smallest" Uy)(a49:HD K "rank" zez)(a50:HD K "whole_reach" wQ)(a51:HD K "law" YA)(aCS:W.nsIn K mainGlobals "Span"=some (some (.ref CS)))(pgS:W.plainGet K CS Str.empty=true)(hdS:W.hasDictIn K CS=true)(poS:W.plainOver K CS=true)(saS:W.findIn K (.ref CS) "__setattr__"=some (some (.builtin "object.__setattr__")))(mkS:W.makesIn K CS=true)(kcS:W.keepIn K (.ref CS)=true)(nS_free:FI0 K CS "free")(nS_taken:FI0 K CS "taken")(nS_checks:FI0 K CS "checks")(nS_pivot:FI0 K CS "pivot")(aCR:W.nsIn K mainGlobals "Reach"=some (some (.ref CR)))(pgR:W.plainGet K CR Str.empty=true)(hdR:W.hasDictIn K CR=true)(poR:W.plainOver K CR=true)(saR:W.findIn K (.ref CR) "__setattr__"=some (some (.builtin "object.__setattr__")))(mkR:W.makesIn K CR=true)(kcR:W.keepIn K (.ref CR)=true)(nR_steps:FI0 K CR "steps")(nR_span:FI0 K CR "span")(nR_words:FI0 K CR "words")(nR_rows:FI0 K CR "rows")(nR_waiting:FI0 K CR "waiting")(nR_asked:FI0 K CR "asked")(m1:MD K CS "__init__" "Span.__init__" Yg)(m2:MD K CS "full" "Span.full" zd4)(m3:MD K CS "take" "Span.take" V2)(m4:MD K CR "__init__" "Reach.__init__" Yb)(m5:MD K CR "onward" "Reach.onward" YH)(m6:MD K CR "row_led_on" "Reach.row_led_on" zhp)(m7:MD K CR "keep" "Reach.keep" zdY)(m8:MD K CS "settled_row" "Span.settled_row" V0)(zs:zkd K blts){gt1:Tok}(g_1:W.nsIn K mainGlobals "MOST_ROOMS"=some (some (.int 24 gt1))){gt2_0 gt2_1:Tok}{ga2:AdX}{gd2:Option Addr}{gn2:Nat}{gs2:Array (Option Value)}(g_2:W.nsIn K mainGlobals "NOUGHT"=some (some (.ref ga2)))(gl2:K.lookup ga2=some ⟨.type "tuple",gd2,.seq #[.int 0 gt2_0,.int 1 gt2_1] gn2,gs2⟩){gt3_0 gt3_1:Tok}{ga3:AdX}{gd3:Option Addr}{gn3:Nat}{gs3:Array (Option Value)}(g_3:W.nsIn K mainGlobals "MINUS_ONE"=some (some (.ref ga3)))(gl3:K.lookup ga3=some ⟨.type "tuple",gd3,.seq #[.int (-1) gt3_0,.int 1 gt3_1] gn3,gs3⟩){gt4_0 gt4_1:Tok}{ga4:AdX}{gd4:Option Addr}{gn4:Nat}{gs4:Array (Option Value)}(g_4:W.nsIn K mainGlobals "ONE"=some (some (.ref ga4)))(gl4:K.lookup ga4=some ⟨.type "tuple",gd4,.seq #[.int 1 gt4_0,.int 1 gt4_1] gn4,gs4⟩)
  :∃fd:FuncData,(∀(s:ShX)(v:Value),BindsTo s fd ⟨[v],[]⟩ [("script",v)])/\∀base:Heap,K.In base->base.Ns mainGlobals mg->wo l.prog w K mg base CX0 12 fa fd ["script"] (zfw K):=by
 have⟨_,_,_,kV,dc,pm,an,cd,ct,_,aL,lL,cL,kL⟩:=a51;have e:=hfa.symm.trans (W.mg_of X G aL);cases e;have c_MOST_ROOMS:GC K mg "MOST_ROOMS" (.int 24):=zkV (W.mg_of X G g_1)
 have c_NOUGHT:GC K mg "NOUGHT" (.tuple [.int 0,.int 1]):=za7 (W.mg_of X G g_2) gl2;have c_MINUS_ONE:GC K mg "MINUS_ONE" (.tuple [.int (-1),.int 1]):=za7 (W.mg_of X G g_3) gl3
 have c_ONE:GC K mg "ONE" (.tuple [.int 1,.int 1]):=za7 (W.mg_of X G g_4) gl4;have clS:Cls K CS:=⟨pgS,hdS,poS,saS⟩
 have clR:Cls K CR:=⟨pgR,hdR,poR,saR⟩;refine⟨W.fnOf "law" "law" (x8 YA) (yC YA) (zc YA) .none kV dc pm an cd ct,λs v=>.of_eq rfl,λbase _ _=>?_⟩;have NB:NBP l.prog w base mg:=λx hx=>W.mg_none_of X G (zs x hx)
 have d_law_cell_at:=Yr (hdef X G a1) NB ;have d_law_low:=zd9 (hdef X G a2) NB
 have d_law_fraction:=W7 (hdef X G a3) NB d_law_low;have d_law_machine:=Zi (hdef X G a4) NB d_law_fraction
 have d_refuse_unlike:=VR (hdef X G a5) NB ;have d_refuse_too_many:=UQ (hdef X G a6) NB c_MOST_ROOMS
 have d_noughts:=zd6 (hdef X G a7) NB c_NOUGHT;have d_joined_step:=Zp (hdef X G a8) NB d_noughts
 have d_added_step:=Z6 (hdef X G a9) NB d_noughts d_joined_step;have d_beside:=zfU (hdef X G a10) NB d_added_step
 have d_added:=zik (hdef X G a11) NB d_refuse_unlike d_refuse_too_many d_beside;have d_common_divisor:=UT (hdef X G a12) NB
 have d_lowest:=zf4 (hdef X G a13) NB d_common_divisor;have d_times:=zh5 (hdef X G a14) NB d_lowest
 have d_scaled_row:=Z2 (hdef X G a15) NB d_times;have d_difference:=zae (hdef X G a16) NB c_MINUS_ONE d_refuse_unlike d_scaled_row d_beside
 have d_shared_bottom:=V1 (hdef X G a17) NB d_common_divisor;have d_tops_over:=zbO (hdef X G a18) NB
 have d_without_common:=Vy (hdef X G a19) NB d_common_divisor;have d_whole_row:=zbb (hdef X G a20) NB d_shared_bottom d_tops_over d_without_common
 have d_whole_pair_sum:=Vv (hdef X G a21) NB ;have d_column:=zgy (hdef X G a22) NB
 have d_whole_step:=Z0 (hdef X G a23) NB d_shared_bottom d_column d_tops_over;have d_unit_row:=zb7 (hdef X G a24) NB
 have d_narrowed:=zdw (hdef X G a25) NB ;have d_led_on:=zgL (hdef X G a26) NB d_whole_pair_sum
 have iS:=zlb (hini X G m1 aCS mkS kcS) NB clS nS_free nS_taken nS_checks nS_pivot d_unit_row;have mF:=zk1 (P:=l.prog) (w:=w) (base:=base) (mg:=mg) (hmeth m2) clS nS_free
 have mT:=zl8 (hmeth m3) NB clS nS_free nS_taken nS_checks nS_pivot d_whole_pair_sum d_narrowed;have mL:=zmH (hmeth m6) clR nR_steps d_without_common d_led_on
 have mK:=zll (hmeth m7) NB clR nR_words nR_rows nR_steps nR_waiting;have mO:=zis (hmeth m5) NB clR clS nR_asked nR_waiting nR_span mF mT mK mL
 have iR:=zjX (hini X G m4 aCR mkR kcR) NB clR nR_steps nR_span nR_words nR_rows nR_waiting nR_asked d_whole_step d_whole_row iS;have d_compared:=zdG (hdef X G a27) d_difference d_whole_row d_whole_pair_sum iR mO clR nR_words nR_rows
 have d_rows_for:=zc4 (hdef X G a28) NB d_compared;have d_law_beside:=ZX (hdef X G a29) NB
 have d_law_both:=zci (hdef X G a30) NB d_law_beside;have d_law_over:=zdB (hdef X G a31) NB
 have d_law_times:=zaZ (hdef X G a32) NB d_law_low;have d_law_plus:=zcV (hdef X G a33) NB d_law_low
 have d_law_rank:=zco (hdef X G a34) NB d_law_over d_law_times d_law_plus;have d_law_in_span:=YE (hdef X G a35) NB d_law_rank
 have d_law_dot:=zdW (hdef X G a36) NB d_law_times d_law_plus;have d_law_led:=zeq (hdef X G a37) NB d_law_dot
 have d_law_shown:=zbx (hdef X G a38) NB d_law_both d_law_in_span d_law_dot d_law_led;have d_law_same:=zb4 (hdef X G a39) NB d_rows_for d_law_shown
 have d_pair_sum:=zdv (hdef X G a40) NB d_shared_bottom d_tops_over d_whole_pair_sum d_lowest;have d_crossing:=zcC (hdef X G a41) NB d_pair_sum d_scaled_row
 have d_chained:=zd8 (hdef X G a42) NB d_refuse_unlike d_refuse_too_many d_crossing d_joined_step d_noughts;have d_turned_step:=Zn (hdef X G a43) NB d_column
 have d_turned:=zfY (hdef X G a44) NB d_turned_step;have d_scaled:=zf8 (hdef X G a45) NB d_scaled_row
 have d_shared_step:=Zg (hdef X G a46) NB d_column d_pair_sum;have mS:=zfL (hmeth m8) NB clS nS_free nS_taken nS_checks nS_pivot c_NOUGHT c_ONE d_lowest
 have d_whole_reach:=Yn (hdef X G a50) iR mO clR;have d_reached:=zdT NB (hdef X G a47) d_whole_reach mF mS d_shared_step d_pair_sum clR clS nR_span nS_taken
 have d_smallest:=zcW (hdef X G a48) NB d_reached d_turned;have d_rank:=zjG (hdef X G a49) NB d_smallest
 exact zjg (λns _=>zmc _ ns) (zln (za0 (st:=YA) lL cL kL) NB d_law_cell_at d_law_machine d_added d_law_same d_chained d_turned d_scaled d_rank)
theorem walk{l:W.OpenLaw}{q:Program}{loose:LSr}{XP:(Str->Option Value)->Heap->Prop}{YP:World->Heap->Prop}{d:DefRec}{K:Params->W.Frag}(hn:l.most=some 63)(hdf:d.params.defaults=[])(hY:∀(w:World)(h:Heap),YP w h->(K w.params).In h)(F:∀(w:World)(mg:Str->Option Value)(fa:AdX)(h:Heap),(K w.params).In h->h.Ns mainGlobals mg->mg d.name=some (.ref fa)->
   ∃fd:FuncData,(∀(s:ShX)(u:Value),BindsTo s fd ⟨[u],[]⟩ [("script",u)])/\∀base:Heap,(K w.params).In base->base.Ns mainGlobals mg->wo l.prog w (K w.params) mg base CX0 12 fa fd ["script"] (zfw (K w.params))):W.WalkO q loose XP YP l.row.toRowW d [] (λf vs=>PySem.call f vs):=L2.zjF (n:=63) (k:=12) (x:="script") (CX:=λ_=>CX0) (sp:=λw=>zfw (K w.params)) hn (by decide) hdf ⟨rfl,by decide,by decide⟩ hY F (λ_ _ a ns hl _ hS=>⟨a,ns,rfl,hS,hl,λ_=>rfl⟩) λ_ _ _ _ _ z=>z
end K14
open PySem PySem.W PyProof.Rows
namespace PySem.W.Fast
def tw12378830117780313680:=0
def tw17159917192324977112:=0
def tw5084992775235688804:=0
def tw13613983990175640160:=0
def tw10869844129791690341:=0
def tw12618702319457013591:=0
def tw3541055405483578664:=0
def tw9954589902690908673:=0
def tw3465935225799605890:=0
def tw17620352224106652411:=0
def tw11515200496649855162:=0
def tw15746054119162508705:=0
def tw2660691815675444524:=0
def tw13328828769005448108:=0
def tw17689492834077948817:=0
def tw16624268641385827877:=0
def tw12158630749321480211:=0
def tw2553906266744463418:=0
def tw12602867641286522940:=0
def tw9713619199301970194:=0
def tw17378605691589222111:=0
def tw9300866610801818441:=0
def tw17755778384540935147:=0
def tw1534273088580877510:=0
end PySem.W.Fast
set_option maxRecDepth 100000 in
set_option maxHeartbeats 0 in
theorem PySem.Challenge.cw_wordscales_k14_whole_sums_of_differences_holds : PySem.Challenge.rw_wordscales_k14_whole_sums_of_differences.Holds := by
 w_on;o_law;k_head;(case hw=>w_witness2)
 k_fill
 refine K14.walk (l:=PySem.Challenge.rw_wordscales_k14_whole_sums_of_differences) rfl rfl (λw h Y=>PySem.W.kIn_of Y) ?F;case F=>
  intro w mg fa h KX G hmg;refine' K14.all_mk KX G hmg ?a1 ?a2 ?a3 ?a4 ?a5 ?a6 ?a7 ?a8 ?a9 ?a10 ?a11 ?a12 ?a13 ?a14 ?a15 ?a16 ?a17 ?a18 ?a19 ?a20 ?a21 ?a22 ?a23 ?a24 ?a25 ?a26 ?a27 ?a28 ?a29 ?a30 ?a31 ?a32 ?a33 ?a34 ?a35 ?a36 ?a37 ?a38 ?a39 ?a40 ?a41 ?a42 ?a43 ?a44 ?a45 ?a46 ?a47 ?a48 ?a49 ?a50 ?a51 ?aCS ?pgS ?hdS ?poS ?saS ?mkS ?kcS ?nS_free ?nS_taken ?nS_checks ?nS_pivot ?aCR ?pgR ?hdR ?poR ?saR ?mkR ?kcR ?nR_steps ?nR_span ?nR_words ?nR_rows ?nR_waiting ?nR_asked ?m1 ?m2 ?m3 ?m4 ?m5 ?m6 ?m7 ?m8 ?zs ?g_1 ?g_2 ?gl2 ?g_3 ?gl3 ?g_4 ?gl4;case a1|a2|a3|a4|a5|a6|a7|a8|a9|a10|a11|a12|a13|a14|a15|a16|a17|a18|a19|a20|a21|a22|a23|a24|a25|a26|a27|a28|a29|a30|a31|a32|a33|a34|a35|a36|a37|a38|a39|a40|a41|a42|a43|a44|a45|a46|a47|a48|a49|a50|a51=>
   refine' K14.zmg ?a ?l ?c ?k;case a=>delta K14.NI;k_is
   case l=>delta K14.LK;k_is
   case c=>delta K14.CI;k_is
   case k=>delta K14.KI;k_is
  case aCS|pgS|hdS|poS|saS|mkS|kcS|aCR|pgR|hdR|poR|saR|mkR|kcR|g_1|g_2|gl2|g_3|gl3|g_4|gl4=>k_is
  case nS_free|nS_taken|nS_checks|nS_pivot|nR_steps|nR_span|nR_words|nR_rows|nR_waiting|nR_asked=>delta K14.FI0;k_is
  case m1|m2|m3|m4|m5|m6|m7|m8=>
   refine' K14.zmh ?a ?i ?l ?c ?k;case a=>k_is
   case i=>k_is
   case l=>delta K14.LK;k_is
   case c=>delta K14.CI;k_is
   case k=>delta K14.KI;k_is
  case zs=>
   repeat (refine K14.zfQ (by k_is) ?_)
   exact K14.ziG
#print axioms PySem.Challenge.cw_wordscales_k14_whole_sums_of_differences_holds
