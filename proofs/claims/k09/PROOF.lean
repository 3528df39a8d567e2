import PyProof.Rows.All
import Wide.All
import OpenK.AllK
import Wide.FinOn
import Lean
import PyProof.EqAt
import PyProof.EqKinds
import PyProof.TupleCall
import PySem.Challenge.RW_wordscales_k09_whole_alike_or_parted
abbrev LPd:=List PySem.PyData
abbrev LAd:=List PySem.Addr
abbrev LNt:=List Nat
abbrev LZr:=List (Nat->Int)
abbrev LQr:=List (Nat->Rat)
abbrev LSr:=List PySem.Str
abbrev LVl:=List PySem.Value
abbrev LSA:=List (PySem.Str×PySem.Addr)
abbrev ShX:=PySem.Shared
abbrev AdX:=PySem.Addr
abbrev PdX:=PySem.PyData
local macro_rules| `(tactic|trivial)=>`(tactic|first |exact .inl rfl|exact .inr rfl|assumption)
local macro_rules|`(tactic|trivial)=>`(tactic|first |exact Or.inl rfl|exact Or.inr (Or.inl rfl)|exact Or.inr (Or.inr rfl))
noncomputable section
abbrev NDx(x:PySem.Str):Prop:=(x==("__debug__":PySem.Str))=false
abbrev NCx(x:PySem.Str):Prop:=(x==("__classdict__":PySem.Str))=false
abbrev VSx:=PySem.Value->PySem.Shared->Prop
abbrev PNx:=List (PySem.Addr×PySem.Obj)
abbrev FRx:=PySem.W.Frag
abbrev Q1x:=Nat->Rat
abbrev Q2x:=Nat->Nat->Rat
abbrev Q3x:=Nat->Nat->Nat->Rat
abbrev Z1x:=Nat->Int
set_option Elab.async false
set_option linter.all false
set_option maxRecDepth 100000
def qe:=@List.length_map
def qf:=@List.getElem?_eq_some_iff
def qg:=@if_pos
def qj:=@PySem.Heap.get?_push_of_some
def qk:=@Nat.le_refl
def qm:=@if_neg
def qo:=@List.getElem?_eq_getElem
def qp:=@List.getElem?_map
def qq:=@PySem.wpAny_bind
def qr:=@Option.bind_some
def qt:=@List.mem_append
def qu:=@List.length_range
def qw:=@List.mem_cons
def qx:=@List.length_append
def qy:=@decide_eq_true
def qz:=@List.getElem?_append_right
def qA:=@List.size_toArray
def qB:=@Nat.le_trans
def qD:=@List.mem_cons_of_mem
def qE:=@Bool.false_ne_true
def qF:=@decide_eq_false
def qG:=@congrArg
def qH:=@List.mem_of_getElem?
def qI:=@PySem.Heap.get?_push_size
def qJ:=@List.getElem?_set_ne
def qK:=@List.mem_range
def qL:=@List.getD_eq_getElem?_getD
def qM:=@PySem.Heap.lt_size
def qN:=@Nat.lt_of_lt_of_le
def qO:=@List.mem_singleton
def qP:=@List.mem_append_right
def qQ:=@PySem.wpAny_pure
def qR:=@PySem.PassesOwn.never
def qS:=@List.map_append
def qT:=@List.getElem?_append_left
def qU:=@List.length_cons
def qW:=@Nat.lt_of_le_of_lt
def qX:=@List.getElem?_of_mem
def qY:=@List.mem_map
def qZ:=@Option.some.inj
def q9:=@Int.natAbs_mul
def ka:=@List.getElem?_range
def kb:=@List.lookup_cons
def kd:=@Rat.intCast_mul
def ke:=@List.mem_filter
def kf:=@List.append_nil
def kg:=@Rat.zero_mul
def kh:=@Nat.le_of_not_lt
def ki:=@List.mem_cons_self
def kj:=@Rat.intCast_natCast
def km:=@Nat.mul_le_mul
def kn:=@Rat.mul_eq_zero
def kq:=@Int.toNat_natCast
def ku:=@List.getElem?_set_self
def kv:=@beq_eq_false_iff_ne
def kx:=@PySem.mem_of_lookup
def ky:=@List.nodup_cons
def kz:=@PySem.F.plainAttrs_list
def kA:=@Nat.lt_succ_self
def kB:=@List.length_take
def kC:=@PySem.wpAny_loadPart'
def kD:=@Nat.pow_le_pow_right
def kE:=@Int.natAbs_natCast
def kG:=@List.length_singleton
def kH:=@List.getElem?_eq_none
def kI:=@List.append_assoc
def kJ:=@List.getElem?_replicate
def kK:=@Nat.zero_le
def kM:=@Nat.pow_lt_pow_right
def kN:=@Nat.not_lt_zero
def kO:=@List.not_mem_nil
def kP:=@List.map_map
def kQ:=@List.drop_eq_getElem_cons
def kR:=@Rat.mul_zero
def kS:=@Nat.ne_of_lt
def kT:=@List.length_set
def kU:=@beq_iff_eq
def kW:=@Nat.mul_le_mul_right
def kX:=@Nat.lt_irrefl
def kY:=@PySem.intBits_le_of_natAbs
def kZ:=@Nat.sub_self
def k4:=@List.pairwise_iff_getElem
def k5:=@PySem.wpAny_mono
def k6:=@PySem.Heap.size_push
def k7:=@decide_eq_decide
def k8:=@Rat.mul_comm
def k9:=@List.replicate_succ
def gc:=@List.map_congr_left
def gh:=@PyProof.Rows.callWith_type1
def gm:=@Nat.succ_mul
def gp:=@List.map_cons
def gq:=@List.mem_reverse
def gr:=@List.length_eraseIdx_of_lt
def gu:=@PySem.wpAny_field
def gw:=@Ne.symm
def gx:=@Nat.pow_add
def gy:=@List.getElem?_set
def gA:=@Nat.le_of_dvd
def gB:=@List.mem_of_mem_eraseIdx
def gC:=@Nat.pow_le_pow_left
def gD:=@List.length_eq_zero_iff
def gE:=@PySem.wpAny_seqItems
def gG:=@Option.map_some
def gH:=@List.range_succ
def gI:=@of_decide_eq_true
def gJ:=@List.nodup_append
def gK:=@List.flatten_cons
def gL:=@List.ext_getElem?
def gM:=@Int.fdiv_eq_of_eq_mul_right
def gN:=@Int.ediv_eq_of_eq_mul_right
def gO:=@PySem.wpAny_setField_rec
def gP:=@PySem.call_meets
def gQ:=@PySem.wpAny_passesOwn
def gR:=@Nat.mul_comm
def gS:=@Nat.le_add_right
def gT:=@List.take_length
def gU:=@Int.mul_zero
def gW:=@Bool.and_eq_true
def gX:=@Option.isNone_iff_eq_none
def gY:=@PySem.F.slot_tuple_iterator_next
def gZ:=@Int.mul_ne_zero
def g0:=@Rat.num_divInt_den
def g6:=@Rat.div_mul_cancel
def g9:=@Nat.one_mul
def hJ:=@Nat.le_mul_of_pos_right
def hU:=@List.getElem?_cons_succ
def me:=@PySem.F.slot_tuple_mul
def mf:=@or_false
def mh:=@PySem.wpAny_comprehension_free
def mi:=@Nat.zero_add
def mj:=@Nat.lt_succ_of_lt
def ml:=@List.take_add_one
def mr:=@Int.fmod_nonneg_of_pos
def mv:=@PySem.wpAny_callSpecial?_slot
def mw:=@PySem.F.type_list_pop
def mz:=@PySem.F.slot_list_pop
def mB:=@List.length_replicate
def mC:=@List.length_drop
def mD:=@List.getElem_mem
def mE:=@PySem.wpAny_truthy_bool
def mG:=@PySem.intBits_le_iff
def mH:=@List.length_eraseIdx
def mI:=@Rat.num_eq_zero
def mJ:=@Rat.natCast_mul
def mM:=@Nat.min_eq_left
def mN:=@List.forIn_cons
def mP:=@Int.natCast_mul
def mQ:=@Nat.mul_le_mul_left
def mR:=@List.length_reverse
def mS:=@PySem.AutoSeq1.idx_int
def mU:=@Nat.ne_of_gt
def mV:=@Nat.le_of_lt
def mW:=@decide_eq_true_iff
def mX:=@Classical.byContradiction
def mY:=@PySem.F.type_list_append
def mZ:=@PySem.F.slot_list_append
def m8:=@PySem.F.args_tuple_add_2
def m9:=@Int.mul_fdiv_cancel_left
def nc:=@PySem.wpAny_Call_Name_kw
def ng:=@PySem.intBits_mul_le
def ni:=@PySem.F.entry_tuple_add
def nj:=@Nat.succ_le_succ
def nk:=@List.drop_length
def nr:=@PySem.F.slot_tuple_add
def nt:=@Nat.le_of_eq
def nu:=@List.take_of_length_le
def nv:=@List.drop_of_length_le
def ny:=@PySem.wpAny_newObj_type
def nD:=@PySem.wpAny_standAt
def nE:=@PySem.AutoSeq1.sub_tuple_tuple
def nG:=@PySem.wpAny_call_entry
def nH:=@Nat.mul_add
def nI:=@Nat.le_succ
def nJ:=@List.forIn_nil
def nK:=@Int.natAbs_neg
def nL:=@List.flatMap_append
def nM:=@List.filterMap_cons
def nN:=@Array.length_toList
def nO:=@PySem.wpAny_execs_nil
def nQ:=@PySem.F.slot_zip_next
def nU:=@PySem.F.slot_int_rmul
def nV:=@Int.fmod_lt_of_pos
def nX:=@List.eraseIdx_append_of_length_le
def nY:=@if_true
def nZ:=@Rat.divInt_eq_div
def n8:=@PySem.wpAny_updateSeq_pair
def pd:=@Nat.lt_trichotomy
def pf:=@Nat.lt_trans
def pj:=@Nat.le_succ_of_le
def pk:=@Nat.dvd_refl
def pq:=@Nat.add_comm
def pw:=@List.mem_flatMap
def px:=@PySem.wpAny_onRaise
def pz:=@Nat.pow_mul
def pC:=@Nat.mul_pos
def pD:=@Nat.log2_lt
def pE:=@Rat.intCast_neg
def pF:=@PySem.typeIs_int
def pG:=@PySem.F.args_tuple_mul_2
def pH:=@List.of_mem_zip
def pI:=@List.nil_append
def pJ:=@List.length_nil
def pK:=@Int.natCast_add
def pL:=@PySem.wpAny_assign_Name
def pM:=@PySem.concat_meets
def pN:=@PySem.codeAny_mono
def pO:=@PySem.F.entry_tuple_mul
def pP:=@Int.fdiv_eq_ediv_of_nonneg
def pQ:=@Bool.false_and
def pR:=@Bool.and_false
def pS:=@List.extract_eq_take_drop
def pU:=@PySem.noFill_tuple_add
def pV:=@List.set_eq_of_length_le
def pW:=@Bool.true_and
def pX:=@PySem.F.slot_tuple_rmul
def pY:=@Nat.exists_eq_add_of_le
def pZ:=@Nat.add_sub_cancel_left
namespace L2
open PySem PySem.Spec PyProof.Rows
abbrev Key:=Sum Int Str
def zjt:Key->Value->Bool
 | .inl k,v=>Value.isInt k v
 | .inr x,v=>Value.isStrOf x v
def zmH(w:World):Key->Int
 | .inl k=>hashInt k
 | .inr x=>hashStr w x
theorem xC:∀{k:Key} {v:Value},zjt k v=true->(∃i t,k=Sum.inl i/\v=Value.int i t)\/(∃x t,k=Sum.inr x/\v=Value.str x t)
 | .inl i,v,h=>by
  obtain⟨t,e⟩:=Value.isInt_shape (k:=i) (v:=v) h;exact .inl ⟨i,t,rfl,e⟩
 | .inr x,v,h=>by
  obtain⟨t,e⟩:=Value.isStrOf_shape (x:=x) (v:=v) h;exact .inr ⟨x,t,rfl,e⟩
def zjV(a b:Int):decide ((Sum.inl a:Key)=Sum.inl b)=(a==b):=by
 by_cases e:a=b
 ·subst e;simp
 ·have h:¬(Sum.inl a:Key)=Sum.inl b:=λq=>e (Sum.inl.inj q)
  rw[qF h];exact(kv.mpr e).symm
def zlo(a b:Str):decide ((Sum.inr a:Key)=Sum.inr b)=decide (a=b):=by
 by_cases e:a=b
 ·subst e;simp
 ·have h:¬(Sum.inr a:Key)=Sum.inr b:=λq=>e (Sum.inr.inj q)
  rw[qF h,qF e]
def zk8(a:Int)(b:Str):decide ((Sum.inl a:Key)=Sum.inr b)=false:=qF (λq=>nomatch q)
def zkQ(a:Str)(b:Int):decide ((Sum.inr a:Key)=Sum.inl b)=false:=qF (λq=>nomatch q)
def ze5(prog:Program)(w:World):PySem.KeyKind prog w Key where
 is:=zjt
 hash:=zmH w
 inj:=λv a b ha hb=>by
  rcases xC ha with⟨i,t,rfl,rfl⟩|⟨x,t,rfl,rfl⟩
  ·rcases xC hb with⟨j,u,rfl,e⟩|⟨y,u,rfl,e⟩
   ·injection e with e1 _;rw[e1]
   ·exact nomatch e
  ·rcases xC hb with⟨j,u,rfl,e⟩|⟨y,u,rfl,e⟩
   ·exact nomatch e
   ·injection e with e1 _;rw[e1]
 byValue:=λk v h=>by
  rcases xC h with⟨i,t,rfl,rfl⟩|⟨x,t,rfl,rfl⟩<;>rfl
 pyHash:=λhv h=>by
  rcases xC hv with⟨i,t,rfl,rfl⟩|⟨x,t,rfl,rfl⟩
  ·exact wpAny_pyHash_int h
  ·exact wpAny_pyHash_str h
 eqBool:=λhu hv h=>by
  rcases xC hu with⟨i,t,rfl,rfl⟩|⟨x,t,rfl,rfl⟩
  ·rcases xC hv with⟨j,u,rfl,rfl⟩|⟨y,u,rfl,rfl⟩
   ·rw[zjV] at h;exact wpAny_eqBool_int h
   ·rw[zk8] at h;exact SeqAt.EqAt.int_str i t y u _ _ _ _ h
  ·rcases xC hv with⟨j,u,rfl,rfl⟩|⟨y,u,rfl,rfl⟩
   ·rw[zkQ] at h;exact SeqAt.EqAt.str_int x t j u _ _ _ _ h
   ·rw[zlo] at h;exact wpAny_eqBool_str h
 «strs»:=λk x t v h=>by
  rcases xC h with⟨i,u,rfl,e⟩|⟨y,u,rfl,e⟩
  ·exact nomatch e
  ·injection e with e1 _
   subst e1;cases v<;>rfl
inductive V where
 |non|bl (b:Bool)|int (i:Int)|str (x:Str)|byt (b:Array UInt8)|flt (b:UInt64)|ref (a:AdX)|ty (n:String)
 deriving DecidableEq
def RelV:V->Value->Prop
 | .non,u=>u=Value.none
 | .bl b,u=>u=Value.bool b
 | .int i,u=>∃t,u=Value.int i t
 | .str x,u=>∃t,u=Value.str x t
 | .byt b,u=>∃t,u=Value.bytes b t
 | .flt b,u=>∃t,u=Value.float b t
 | .ref a,u=>u=Value.ref a
 | .ty n,u=>u=Value.type n
abbrev Vals:List V->List Value->Prop:=Paired RelV
def Vals.length{xs:List V}{us:LVl}(r:Vals xs us):xs.length=us.length:=Paired.length r
theorem Vals.get:∀{xs:List V} {us:LVl} {i:Nat} {x:V},Vals xs us->xs[i]?=some x->∃u,us[i]?=some u/\RelV x u
 |_,_,_,_,.nil,e=>by simp at e
 |_,_,0,_,.cons r _,e=>by simp at e;subst e;exact⟨_,rfl,r⟩
 |_,_,i+1,x,.cons _ t,e=>by
  obtain⟨u,h1,h2⟩:=Vals.get (i:=i) (x:=x) t (by simpa using e);exact⟨u,by simpa using h1,h2⟩
theorem Vals.set{x:V}{u:Value}(r:RelV x u):∀{xs:List V} {us:LVl} (i:Nat),Vals xs us->Vals (xs.set i x) (us.set i u)
 |_,_,_,.nil=>.nil
 |_,_,0,.cons _ t=>.cons r t
 |_,_,i+1,.cons q t=>.cons q (Vals.set r i t)
theorem Vals.append:∀{xs ys:List V} {us ws:LVl},Vals xs us->Vals ys ws->Vals (xs++ys) (us++ws)
 |_,_,_,_,.nil,s=>s
 |_,_,_,_,.cons r t,s=>.cons r (Vals.append t s)
theorem Vals.take:∀{xs:List V} {us:LVl} (n:Nat),Vals xs us->Vals (xs.take n) (us.take n)
 |_,_,0,_=>.nil
 |_,_,_+1,.nil=>.nil
 |_,_,n+1,.cons r t=>.cons r (Vals.take n t)
theorem Vals.drop:∀{xs:List V} {us:LVl} (n:Nat),Vals xs us->Vals (xs.drop n) (us.drop n)
 |_,_,0,r=>r
 |_,_,_+1,.nil=>.nil
 |_,_,n+1,.cons _ t=>Vals.drop n t
def vO:Option V->Option Value->Prop
 |some v,some u=>RelV v u
 |none,none=>True
 |_,_=>False
def KV{κ:Type}:List (κ×V)->List (κ×Value)->Prop:=Paired λ(p:κ×V) (q:κ×Value)=>p.1=q.1/\RelV p.2 q.2
def kV:Key->V
 | .inl i=>.int i
 | .inr x=>.str x
inductive HO where
  |lst (xs:List V)
  |tup (xs:List V)
  |dK (kvs:List (Key×V))|dT (kvs:List (List Key×V))
  |set (S:Int->Bool) (n:Nat)
  |ins (C dx:AdX) (fs:List (Str×V))
  |own (x:AdX)
  |xd (fs:List (Str×V))
  |met (f x:AdX)
  |rng (lo hi:Int)
  |frz (o:Obj) (u:HO)
  |tbl (ps:Array Value)
  |ext (φ:Heap->Prop)
abbrev Hp:=Addr->Option HO
def upd(H:Hp)(a:AdX)(o:HO):Hp:=λb=>if b=a then some o else H b
def zL{H:Hp}{a:AdX}{o:HO}:upd H a o a=some o:=by unfold upd;rw[qg rfl]
def zR{H:Hp}{a b:AdX}{o:HO}(h:b≠a):upd H a o b=H b:=by unfold upd;rw[qm h]
def jF{H:Hp}{a b:AdX}{o:HO}(h:H a=some o)(h':H b=none):a≠b:=by
 intro e;subst e;rw[h] at h';cases h'
section
variable(P:Program)(w:World)
def vB(H:Hp)(h:Heap)(a:AdX):HO->Prop
 | .lst xs=>xs.length<=sizeLine/\∃(its:LVl)(n:Nat),Vals xs its/\h.get? a=some { cls:=.type "list",data:=.seq its.toArray n }
 | .tup xs=>xs.length<=sizeLine/\∃its:List Value,Vals xs its/\IsTup h a its.toArray
 | .dK kvs=>kvs.length<=sizeLine/\(a==sysModules)=false/\∃vs,KV kvs vs/\h.DictOf (ze5 P w) a vs
 | .dT kvs=>kvs.length<=sizeLine/\(a==sysModules)=false/\∃xs:List (List Key×Addr×Value),
   Paired (λ(p:List Key×V) (q:List Key×Addr×Value)=>p.1=q.1/\H q.2.1=some (.tup (p.1.map kV))/\RelV p.2 q.2.2) kvs xs/\
   ∃o es ep,h.get? a=some o/\o.ExactDict/\o.data=.dict es ep/\es.toList=xs.map (entryOfKey (tupleKind (ze5 P w)))/\(xs.map (·.1)).Nodup
 | .set S n=>h.SetOf (intKind P w) a S n
 | .ins C dx fs=>H dx=some (.own a)/\fs.length<=1000/\dx≠a/\h.get? a=some (W.instObj C dx)/\
   ∃mA,h.Ns1 dx mA/\(∀f,vO (fs.lookup f) (mA f))/\PySem.Within mA (fs.map (·.1))
 | .own _=>∃o,h.get? a=some o
 | .xd fs=>∃mA,h.Ns1 a mA/\∀f,vO (fs.lookup f) (mA f)
 | .rng lo hi=>∃t u v,h.get? a=some { cls:=.type "range",data:=.fields #[.int lo t,.int hi u,.int 1 v] }
 | .frz o u=>h.get? a=some o/\vB H h a u
 | .tbl ps=>h.get? a=some { cls:=.none,data:=.fields ps }
 | .met f x=>h.get? a=some (W.methodObj (.ref f) (.ref x))
 | .ext φ=>φ h/\(∃o,h.get? a=some o)/\∀h1 h2:Heap,φ h1->(∀o,h1.get? a=some o->h2.get? a=some o)->φ h2
def HOk(H:Hp)(h:Heap):Prop:=∀a o,H a=some o->vB P w H h a o
end
section
variable{P:Program}{w:World}{H H':Hp}{h h':Heap}{a:AdX}{o:HO}
def vB.lt(x:vB P w H h a o):a<h.objs.size:=by
 cases o with
 |lst xs=>have⟨_,_,_,_,e⟩:=x;exact qM e
 |tup xs=>have⟨_,_,_,p⟩:=x;exact p.lt
 |dK kvs=>have⟨_,_,_,_,o,_,_,e,_⟩:=x;exact qM e
 |dT kvs=>have⟨_,_,_,_,o,_,_,e,_⟩:=x;exact qM e
 |set S n=>have⟨o,_,_,_,e,_⟩:=x;exact qM e
 |ins C dx fs=>have⟨_,_,_,e,_⟩:=x;exact qM e
 |own y=>have⟨_,e⟩:=x;exact qM e
 |xd fs=>have⟨_,⟨_,_,_,e,_⟩,_⟩:=x;exact qM e
 |rng lo hi=>have⟨_,_,_,e⟩:=x;exact qM e
 |frz ob u=>have⟨e,_⟩:=x;exact qM e
 |tbl ps=>exact qM (show h.get? a=some _ from x)
 |met f y=>exact qM (show h.get? a=some _ from x)
 |ext φ=>have⟨_,⟨_,e⟩,_⟩:=x;exact qM e
theorem Paired.zlJ{α β:Type}{F G:α->β->Prop}:∀{l₁:List α} {l₂:List β},Paired F l₁ l₂->(∀a b,F a b->G a b)->Paired G l₁ l₂
 |_,_,.nil,_=>.nil
 |_,_,.cons r t,f=>.cons (f _ _ r) (Paired.zlJ t f)
def vB.stay(x:vB P w H h a o)(k:∀b u,(b=a\/H b=some (.own a))->h.get? b=some u->h'.get? b=some u)(ho:∀b,H b=some (.own a)->H' b=some (.own a))(ht:∀b xs,H b=some (.tup xs)->H' b=some (.tup xs)):vB P w H' h' a o:=by
 induction o with
 |lst xs=>have⟨z,its,n,r,e⟩:=x;exact⟨z,its,n,r,k _ _ (.inl rfl) e⟩
 |tup xs=>have⟨z,its,r,ob,e,c⟩:=x;exact⟨z,its,r,ob,k _ _ (.inl rfl) e,c⟩
 |dK kvs=>have⟨z,y,vs,r,ob,es,ep,e,c⟩:=x;exact⟨z,y,vs,r,ob,es,ep,k _ _ (.inl rfl) e,c⟩
 |dT kvs=>
  have⟨z,y,xs,r,ob,es,ep,e,c⟩:=x;exact⟨z,y,xs,Paired.zlJ r λp q z=>⟨z.1,ht _ _ z.2.1,z.2.2⟩,ob,es,ep,k _ _ (.inl rfl) e,c⟩
 |set S n=>have⟨ob,es,ep,t,e,c⟩:=x;exact⟨ob,es,ep,t,k _ _ (.inl rfl) e,c⟩
 |ins C dx fs=>
  have⟨d,z,ne,e,mA,⟨od,es,ep,e2,c⟩,r⟩:=x;exact⟨ho _ d,z,ne,k _ _ (.inl rfl) e,mA,⟨od,es,ep,k _ _ (.inr d) e2,c⟩,r⟩
 |own y=>have⟨ob,e⟩:=x;exact⟨ob,k _ _ (.inl rfl) e⟩
 |xd fs=>have⟨mA,⟨od,es,ep,e,c⟩,r⟩:=x;exact⟨mA,⟨od,es,ep,k _ _ (.inl rfl) e,c⟩,r⟩
 |rng lo hi=>have⟨t,u,v,e⟩:=x;exact⟨t,u,v,k _ _ (.inl rfl) e⟩
 |frz ob u ih=>have⟨e,q⟩:=x;exact⟨k _ _ (.inl rfl) e,ih q⟩
 |tbl ps=>
  have e:h.get? a=some { cls:=.none,data:=.fields ps }:=x;show h'.get? a=some { cls:=.none,data:=.fields ps }
  exact k a _ (.inl rfl) e
 |met f y=>
  have e:h.get? a=some (W.methodObj (.ref f) (.ref y)):=x;show h'.get? a=some (W.methodObj (.ref f) (.ref y))
  exact k a _ (.inl rfl) e
 |ext φ=>have⟨p,⟨o,e⟩,st⟩:=x;exact⟨st _ _ p λo q=>k _ _ (.inl rfl) q,⟨o,k _ _ (.inl rfl) e⟩,st⟩
def HOk.lt(x:HOk P w H h)(e:H a=some o):a<h.objs.size:=(x a o e).lt
def HOk.fresh(x:HOk P w H h)(e:h.objs.size<=a):H a=none:=by
 cases q:H a with
 |none=>rfl
 |some u=>exact absurd (qN (x.lt q) e) (kX _)
def HOk.kept(x:HOk P w H h)(k:∀b u,h.get? b=some u->h'.get? b=some u):HOk P w H h':=λa o e=>
 (x a o e).stay (λb u _ q=>k b u q) (λ_ q=>q) λ_ _ q=>q
def HOk.laid(x:HOk P w H h)(k:∀b u,h.get? b=some u->h'.get? b=some u)(hp:h.objs.size<=a)(new:vB P w (upd H a o) h' a o):HOk P w (upd H a o) h':=λb u e=>by
 have hn:=x.fresh hp;by_cases hb:b=a
 ·subst hb;rw[zL] at e;cases e;exact new
 ·rw[zR hb] at e;exact(x b u e).stay (λc v _ q=>k c v q) (λc q=>by rw[zR (jF q hn)];exact q) λc xs q=>by rw[zR (jF q hn)];exact q
end
def Rd(H:Hp)(a:AdX)(u:HO):Prop:=H a=some u\/∃o,H a=some (.frz o u)
def Rd.ok{P:Program}{w:World}{H:Hp}{h:Heap}{a:AdX}{u:HO}(r:Rd H a u)(x:HOk P w H h):vB P w H h a u:=by
 rcases r with r|⟨o,r⟩
 ·exact x a u r
 ·have⟨_,q⟩:=x a _ r;exact q
def Mut:Option HO->Prop
 |some (.lst _)=>True
 |some (.dK _)=>True
 |some (.dT _)=>True
 |some (.set _ _)=>True
 |some (.ins _ _ _)=>True
 |some (.ext _)=>True
 |_=>False
section
variable{P:Program}{w:World}{H:Hp}{h h':Heap}{x e:AdX}{o':HO}
def HOk.write(ok:HOk P w H h)(mu:Mut (H x))(he:e=x\/H e=some (.own x))(k:∀b u,b≠e->h.get? b=some u->h'.get? b=some u)(heo:∃u,h'.get? e=some u)(new:vB P w (upd H x o') h' x o'):HOk P w (upd H x o') h':=λb u q=>by
 have nown:∀c y,H c=some (.own y)->c≠x:=λc y r z=>by subst z;rw[r] at mu;exact mu
 have ntup:∀c xs,H c=some (.tup xs)->c≠x:=λc xs r z=>by subst z;rw[r] at mu;exact mu
 by_cases hb:b=x
 ·subst hb;rw[zL] at q;cases q;exact new
 ·rw[zR hb] at q;by_cases hbe:b=e
  ·have q':H b=some (.own x):=by
    rcases he with z|z
    ·exact absurd (hbe.trans z) hb
    ·rw[hbe];exact z
   rw[q] at q';cases q';have⟨v,hv⟩:=heo;exact⟨v,by rw[hbe];exact hv⟩
  ·refine(ok b u q).stay (λc v hc r=>k c v ?_ r) (λc r=>by rw[zR (nown c b r)];exact r) λc xs r=>by rw[zR (ntup c xs r)];exact r
   rcases hc with rfl|hc
   ·exact hbe
   ·rintro rfl;rcases he with z|z
    ·exact nown c b hc z
    ·rw[hc] at z;cases z;exact hb rfl
end
structure Un(fs ex:LAd)(H H':Hp)(h h':Heap):Prop where
 keep:∀b o,h.get? b=some o->H b=none->b∉fs->b∉ex->h'.get? b=some o
 slot:∀b o,h.get? b=some o->H b=none->b∈fs->b∉ex->∃sl,h'.get? b=some { o with slots:=sl }
 free:∀b o,h.get? b=some o->H b=none->b∉ex->H' b=none
 there:∀b o,h.get? b=some o->b∉ex->∃o',h'.get? b=some o'
 tups:∀b xs,H b=some (.tup xs)->H' b=some (.tup xs)
 frzs:∀b o u,H b=some (.frz o u)->H' b=some (.frz o u)
 tbls:∀b ps,H b=some (.tbl ps)->∃more,H' b=some (.tbl (ps++more))
section
variable{fs fs' ex ex':LAd}{H H1 H2:Hp}{h h1 h2 h':Heap}{a x e:AdX}{o:HO}
def Un.any(u:Un fs ex H H1 h h1){b:AdX}{ob:Obj}(q:h.get? b=some ob)(n:H b=none)(hx:b∉ex):∃sl,h1.get? b=some { ob with slots:=sl }:=by
 by_cases hb:b∈fs
 ·exact u.slot b ob q n hb hx
 ·exact⟨ob.slots,u.keep b ob q n hb hx⟩
def Un.kept(k:∀b u,h.get? b=some u->h'.get? b=some u):Un fs ex H H h h':=⟨λb ob q _ _ _=>k b ob q,λb ob q _ _ _=>⟨ob.slots,k b ob q⟩,λ_ _ _ n _=>n,λb ob q _=>⟨ob,k b ob q⟩,λ_ _ q=>q,λ_ _ _ q=>q,λ_ ps q=>⟨#[],by rw[q];simp⟩⟩
def Un.refl:Un fs ex H H h h:=Un.kept λ_ _ q=>q
def Un.laid(k:∀b u,h.get? b=some u->h'.get? b=some u)(hp:h.objs.size<=a)(hn:H a=none):Un fs ex H (upd H a o) h h' where
 keep:=λb u q _ _ _=>k b u q
 slot:=λb u q _ _ _=>⟨u.slots,k b u q⟩
 free:=λb u q n _=>by rw[zR (kS (qN (qM q) hp))];exact n
 there:=λb u q _=>⟨u,k b u q⟩
 tups:=λb xs q=>by rw[zR (jF q hn)];exact q
 frzs:=λb u xs q=>by rw[zR (jF q hn)];exact q
 tbls:=λb ps q=>⟨#[],by rw[zR (jF q hn),q];simp⟩
def Un.write(mu:Mut (H x))(he:e=x\/H e=some (.own x))(k:∀b u,b≠e->h.get? b=some u->h'.get? b=some u)(heo:∃u,h'.get? e=some u):Un fs ex H (upd H x o) h h':=by
 have hx:∀b,H b=none->b≠x:=λb n z=>by subst z;rw[n] at mu;exact mu
 have hb:∀b,H b=none->b≠e:=λb n z=>by
  subst z;rcases he with r|r
  ·exact hx b n r
  ·rw[n] at r;cases r
 have hm:∀b u,H b=some u->¬Mut (some u)->b≠x:=λb u q nm z=>by subst z;rw[q] at mu;exact nm mu
 refine⟨λb u q n _ _=>k b u (hb b n) q,λb u q n _ _=>⟨u.slots,k b u (hb b n) q⟩,λb u q n _=>by rw[zR (hx b n)];exact n,λb u q _=>?_,
  λb xs q=>by rw[zR (hm b _ q λz=>z)];exact q,λb u xs q=>by rw[zR (hm b _ q λz=>z)];exact q,λb ps q=>⟨#[],by rw[zR (hm b _ q λz=>z),q];simp⟩⟩
 by_cases hbe:b=e
 ·subst hbe;exact heo
 ·exact⟨u,k b u hbe q⟩
end
def trk(h:Heap)(H:Hp):List Addr:=(List.range h.objs.size).filter λa=>(H a).isSome
def zbd(h:Heap)(H:Hp):Heap:=W.hideAll h (trk h H)
def zfr(h:Heap)(H:Hp):(zbd h H).objs.size=h.objs.size:=W.hideAll_size _ _
def zhI{h:Heap}{H:Hp}{b:AdX}{o:Obj}(e:h.get? b=some o)(n:H b=none):(zbd h H).get? b=some o:=W.hideAll_get _ e λhm=>by
  have q:(H b).isSome=true:=(ke.mp hm).2;rw[n] at q;simp at q
def zjf{h:Heap}{H:Hp}{b:AdX}{o:Obj}(e:(zbd h H).get? b=some o):h.get? b=some o/\H b=none:=by
 have e':h.get? b=some o:=W.of_hideAll (trk h H) e;refine⟨e',?_⟩;cases q:H b with
 |none=>rfl
 |some x=>
  have hm:b∈trk h H:=ke.mpr ⟨qK.mpr (qM e'),by simp[q]⟩;have z:(zbd h H).get? b=none:=W.hideAll_none (trk h H) hm
  rw[z] at e;cases e
structure Mod(K:FRx)(mg:Str->Option Value)(base:Heap):Prop where
 kin:K.In base
 glob:base.Ns mainGlobals mg
 blt:∃mb,base.Ns builtinsNs mb/\∀x:Str,x≠"__name__"->mb x=bootBuiltins x
 nolimit:base.NoLimit
structure Cx where
 prog:Program
 w:World
 K:W.Frag
 mg:Str->Option Value
 base:Heap
 A:Around
 N:List Str
 s₀:Shared
 H₀:Hp
 env:Env
 outer:List Env
 stack:List Env
 ex:List Addr
 fn:Str->Bool
 calm:Bool
 pn:List (Addr×Obj)
 xe:Value->Shared->Prop
abbrev SEx(X:Cx)(e:Expr)(es:List Expr):Prop:=starEach (e::es) X.env=(false,eval e X.env)::starEach es X.env
abbrev ABx(X:Cx)(e:Expr)(f:Str):Prop:=attributeBase e f X.env (eval e X.env)=eval e X.env
abbrev FNx(X:Cx)(x:Str):Prop:=X.fn x=true\/X.env.scope.names.lookup x=some .local
abbrev FWx(X:Cx)(cpos:Pos)(es:List Expr):Prop:=((backTo cpos (starEach es X.env)).all (λx=>!x.1)&&(backToKw cpos (keywordEach [] X.env)).all (λx=>x.1.isSome)&&decide (es.length+([]:List Keyword).length+(if ([]:List Keyword).isEmpty then 0 else 1)<30))=true
abbrev PLx(X:Cx)(pos:Pos)(es:List Expr):Prop:=(backTo pos (starEach es X.env)).any (·.1)=false
abbrev FSx(X:Cx)(iter:Expr):Prop:=∀x,foldedSetIterable iter X.env x=pure x
def frs(l:List Env):List Addr:=l.filterMap (·.frame)
abbrev Cx.fs(X:Cx):List Addr:=frs X.outer
def Vis(sc:Scope)(x:Str):Prop:=sc.names.lookup x=some .local\/sc.names.lookup x=some .cell\/sc.names.lookup x=some .free
def Loc(sc:Scope)(x:Str):Prop:=sc.names.lookup x=some .local\/sc.names.lookup x=some .cell
def Look(env:Env)(h:Heap)(m:Str->Option Value)(x:Str)(u:Value):Prop:=(env.kindOf x=some .local/\m x=some u)\/((env.kindOf x=some .cell\/env.kindOf x=some .free)/\∃c,env.cells.lookup x=some c/\h.IsCell c (some u))
structure Cx.Ok(X:Cx):Prop where
 mod:Mod X.K X.mg X.base
 kind:X.env.scope.kind=.function
 glob:X.env.globals=mainGlobals
 blt:X.env.builtins=builtinsNs
 above:X.s₀.heap.objs.size<=X.env.locals
 inj:∀x y c,X.env.cells.lookup x=some c->X.env.cells.lookup y=some c->x=y
 has:∀x,(X.env.kindOf x=some .cell\/X.env.kindOf x=some .free)->∃c,X.env.cells.lookup x=some c
 cab:∀x c,X.fn x=true->X.env.cells.lookup x=some c->X.s₀.heap.objs.size<=c
 hd:X.calm=true->X.A.handled=none
 frames:X.A.frames=some X.stack
 stk:X.stack=X.outer\/(X.stack=X.env::X.outer/\X.env.frame=some X.env.locals)
 exf:∀b∈X.ex,b≠X.env.locals/\∀x c,X.env.cells.lookup x=some c->c≠b
 bs:∀b o,X.base.get? b=some o->X.s₀.heap.get? b=some o/\X.H₀ b=none
 bsz:X.base.objs.size<=X.s₀.heap.objs.size
 noex:∀b o,X.base.get? b=some o->b∉X.ex
 exfs:∀b∈X.ex,b∉X.fs
 funs:X.s₀.heap.FunFrames X.base X.outer
 frf:∀b∈X.fs,X.H₀ b=none
structure Inv(X:Cx)(pins:PNx)(σ:List (Option V))(H:Hp)(s:ShX):Prop where
 ok:X.Ok
 os:s.os=X.s₀.os
 bare:AllBare s.gens
 base:Un X.fs X.ex X.H₀ H X.s₀.heap s.heap
 loc:∃m,s.heap.Ns X.env.locals m/\∀(i:Nat)(x:Str)(v:V),X.N[i]?=some x->σ[i]?=some (some v)->Vis X.env.scope x->∃u,RelV v u/\Look X.env s.heap m x u
 cell:∀x c,X.env.cells.lookup x=some c->∃v,s.heap.IsCell c v
 free:H X.env.locals=none
 freeC:∀x c,X.env.cells.lookup x=some c->H c=none
 pin:∀p∈X.pn++pins,s.heap.get? p.1=some p.2/\H p.1=none/\p.1≠X.env.locals/\p.1∉X.fs/\∀v,p.2.data≠ .cell v
 hok:HOk X.prog X.w H s.heap
 len:σ.length=X.N.length
section
variable{X:Cx}{pins:PNx}{σ:List (Option V)}{H H':Hp}{s:ShX}{h':Heap}
def Cx.Ok.nofr(ok:X.Ok){b:AdX}{o:Obj}(e:X.base.get? b=some o):b∉X.fs:=λhb=>by
 have:=(ok.funs.mem hb).1;rw[e] at this;cases this
def Inv.bs(I:Inv X pins σ H s):∀b o,X.base.get? b=some o->s.heap.get? b=some o/\H b=none:=λb o e=>
 ⟨I.base.keep b o (I.ok.bs b o e).1 (I.ok.bs b o e).2 (I.ok.nofr e) (I.ok.noex b o e),I.base.free b o (I.ok.bs b o e).1 (I.ok.bs b o e).2 (I.ok.noex b o e)⟩
def Inv.bk(I:Inv X pins σ H s):∀b o,X.base.get? b=some o->s.heap.get? b=some o:=λb o e=>(I.bs b o e).1
def Inv.mod(I:Inv X pins σ H s):Mod X.K X.mg X.base:=I.ok.mod
def Inv.kIn(I:Inv X pins σ H s):X.K.In s.heap:=I.ok.mod.kin.keeps I.bk
def Inv.nolimit(I:Inv X pins σ H s):s.heap.NoLimit:=I.ok.mod.nolimit.keeps I.bk
def Inv.lt(I:Inv X pins σ H s):X.env.locals<s.heap.objs.size:=let ⟨_,hn,_⟩:=I.loc;hn.lt
def Inv.sz(I:Inv X pins σ H s):X.s₀.heap.objs.size<=s.heap.objs.size:=qB I.ok.above (mV I.lt)
def Inv.nofs(I:Inv X pins σ H s){a:AdX}(h:s.heap.objs.size<=a):a∉X.fs:=λhb=>by
 have⟨_,o,ho,_⟩:=I.ok.funs.mem hb;exact absurd (qN (qM ho) (qB I.sz h)) (kX _)
def Inv.cne(I:Inv X pins σ H s):∀x c,X.env.cells.lookup x=some c->c≠X.env.locals:=λx c e z=>by
 have⟨v,o,ho,hd⟩:=I.cell x c e;have⟨m,⟨o',es,ep,ho',hd',_⟩,_⟩:=I.loc;rw[z,ho'] at ho;cases ho;rw[hd'] at hd;cases hd
def Inv.funs(I:Inv X pins σ H s):s.heap.FunFrames X.base X.outer:=by
 have all:∀(l:List Env),(∀b∈frs l,b∈X.fs)->X.s₀.heap.FunFrames X.base l->s.heap.FunFrames X.base l:=by
  intro l;induction l with
  |nil=>intro _ _;trivial
  |cons env r ih=>
   intro hs hl;have⟨hk,⟨L,o,hf,hn,ho,hd⟩,hr⟩:=hl;have hL:L∈X.fs:=hs L (by unfold frs;rw[nM,hf];exact ki);obtain⟨sl,e⟩:=I.base.slot L o ho (I.ok.frf L hL) hL λz=>I.ok.exfs L z hL
   exact⟨hk,⟨L,_,hf,hn,e,hd⟩,ih (λb hb=>hs b (by unfold frs;rw[nM,hf];exact qD _ hb)) hr⟩
 exact all X.outer (λ_ hb=>hb) I.ok.funs
def Inv.stack(I:Inv X pins σ H s):s.heap.FunFrames X.base X.stack:=by
 rcases I.ok.stk with e|⟨e,hf⟩
 ·rw[e];exact I.funs
 ·rw[e];have⟨m,hn,_⟩:=I.loc;refine .cons (by rw[I.ok.kind];decide) hf hn ?_ I.funs;exact Heap.get?_none_of_le (qB I.ok.bsz I.ok.above)
def Inv.zdu(I:Inv X pins σ H s):∀b∈frs X.stack,b∈X.env.locals::X.fs:=λb hb=>by
 rcases I.ok.stk with e|⟨e,hf⟩
 ·rw[e] at hb;exact qD _ hb
 ·rw[e] at hb;unfold frs at hb;rw[nM,hf] at hb;exact hb
def Inv.zeS(I:Inv X pins σ H s):∀b∈frs X.stack,H b=none:=λb hb=>by
 rcases qw.mp (I.zdu b hb) with e|hb
 ·rw[e];exact I.free
 ·have⟨_,o,ho,_⟩:=I.ok.funs.mem hb;exact I.base.free b o ho (I.ok.frf b hb) λz=>I.ok.exfs b z hb
def Inv.step{g':Array GenState}{t':Nat}{d':Drawn}{ch:LAd}(I:Inv X pins σ H s)(hch:∀b∈ch,(b∈X.ex\/X.s₀.heap.objs.size<=b)/\b≠X.env.locals/\(∀x c,X.env.cells.lookup x=some c->c≠b)/\∀p∈X.pn++pins,p.1≠b)(keep:∀b o,b≠X.env.locals->b∉X.fs->b∉ch->s.heap.get? b=some o->H b=none->h'.get? b=some o)(slot:∀b o,b≠X.env.locals->b∈X.fs->b∉ch->s.heap.get? b=some o->H b=none->∃sl,h'.get? b=some { o with slots:=sl })(free:∀b o,b∉ch->s.heap.get? b=some o->H b=none->H' b=none)(there:∀b o,b∉ch->s.heap.get? b=some o->∃o',h'.get? b=some o')(tups:∀b xs,H b=some (.tup xs)->H' b=some (.tup xs))(frzs:∀b o u,H b=some (.frz o u)->H' b=some (.frz o u))(tbls:∀b ps,H b=some (.tbl ps)->∃more,H' b=some (.tbl (ps++more)))(ns:∀m,s.heap.Ns X.env.locals m->h'.Ns X.env.locals m)(hok:HOk X.prog X.w H' h')(hg:AllBare g'):Inv X pins σ H' { s with heap:=h',gens:=g',drawn:=d',toks:=t' }:=by
 have neL:∀b o,X.s₀.heap.get? b=some o->b≠X.env.locals:=λb o e=>kS (qN (qM e) I.ok.above)
 have neC:∀b o,X.s₀.heap.get? b=some o->b∉X.ex->b∉ch:=λb o e hx hb=>by
  rcases(hch b hb).1 with z|z
  ·exact hx z
  ·exact absurd (qN (qM e) z) (kX _)
 have cellK:∀x c,X.env.cells.lookup x=some c->∀v,s.heap.IsCell c v->h'.IsCell c v:=λx c e v ⟨o,ho,hd⟩=>by
  have nch:c∉ch:=λz=>(hch c z).2.2.1 x c e rfl
  by_cases hc:c∈X.fs
  ·obtain⟨sl,q⟩:=slot c o (I.cne x c e) hc nch ho (I.freeC x c e);exact⟨_,q,hd⟩
  ·exact⟨o,keep c o (I.cne x c e) hc nch ho (I.freeC x c e),hd⟩
 refine⟨I.ok,I.os,hg,⟨λb o e n hb hx=>?_,λb o e n hb hx=>?_,λb o e n hx=>?_,λb o e hx=>?_,λb xs e=>tups b xs (I.base.tups b xs e),λb o xs e=>frzs b o xs (I.base.frzs b o xs e),λb ps e=>?_⟩,?_,λx c e=>?_,?_,λx c e=>?_,λp hp=>?_,hok,I.len⟩
 ·exact keep b o (neL b o e) hb (neC b o e hx) (I.base.keep b o e n hb hx) (I.base.free b o e n hx)
 ·have⟨sl,e1⟩:=I.base.slot b o e n hb hx;obtain⟨sl',e2⟩:=slot b _ (neL b o e) hb (neC b o e hx) e1 (I.base.free b o e n hx);exact⟨sl',e2⟩
 ·have⟨o',e1⟩:=I.base.there b o e hx;exact free b o' (neC b o e hx) e1 (I.base.free b o e n hx)
 ·have⟨o',e1⟩:=I.base.there b o e hx;exact there b o' (neC b o e hx) e1
 ·have⟨m1,e1⟩:=I.base.tbls b ps e;have⟨m2,e2⟩:=tbls b _ e1;exact⟨m1++m2,by rw[e2,Array.append_assoc]⟩
 ·have⟨m,hn,hl⟩:=I.loc;refine⟨m,ns m hn,λi x v e1 e2 e3=>?_⟩;have⟨u,r,l⟩:=hl i x v e1 e2 e3;refine⟨u,r,?_⟩;rcases l with l|⟨k,c,e,z⟩
  ·exact .inl l
  ·exact .inr ⟨k,c,e,cellK x c e _ z⟩
 ·have⟨v,z⟩:=I.cell x c e;exact⟨v,cellK x c e v z⟩
 ·have⟨m,⟨o,_,_,ho,_⟩,_⟩:=I.loc;exact free _ o (λz=>(hch _ z).2.1 rfl) ho I.free
 ·have⟨v,o,ho,hd⟩:=I.cell x c e;exact free c o (λz=>(hch c z).2.2.1 x c e rfl) ho (I.freeC x c e)
 ·have⟨e,n,ne,nf,d⟩:=I.pin p hp;have nch:p.1∉ch:=λz=>(hch p.1 z).2.2.2 p hp rfl
  exact⟨keep p.1 p.2 ne nf nch e n,free p.1 p.2 nch e n,ne,nf,d⟩
def Inv.un{t':Nat}(I:Inv X pins σ H s)(u:Un X.fs [] H H' s.heap h')(hok:HOk X.prog X.w H' h'):Inv X pins σ H' { s with heap:=h',toks:=t' }:=by
 have⟨m,⟨o,es,ep,ho,r⟩,_⟩:=id I.loc;obtain⟨sl,hL⟩:=u.any ho I.free (by simp);exact I.step (g':=s.gens) (d':=s.drawn) (ch:=[]) (λ_ z=>nomatch z) (λb o _ hb _ e n=>u.keep b o e n hb (by simp)) (λb o _ hb _ e n=>u.slot b o e n hb (by simp)) (λb o _ e n=>u.free b o e n (by simp)) (λb o _ e=>u.there b o e (by simp)) u.tups u.frzs u.tbls (λm' hm=>by
  have⟨o',es',ep',ho',r'⟩:=hm;rw[ho] at ho';cases ho';exact⟨_,es',ep',hL,r'⟩) hok I.bare
def Inv.call{g':Array GenState}{t':Nat}{d':Drawn}{ch:LAd}(I:Inv X pins σ H s)(u:Un (frs X.stack) ch H H' s.heap h')(hok:HOk X.prog X.w H' h')(hg:AllBare g')(hch:∀b∈ch,(b∈X.ex\/X.s₀.heap.objs.size<=b)/\b≠X.env.locals/\(∀x c,X.env.cells.lookup x=some c->c≠b)/\∀p∈X.pn++pins,p.1≠b):Inv X pins σ H' { s with heap:=h',gens:=g',drawn:=d',toks:=t' }:=by
 have⟨m,⟨o,es,ep,ho,r⟩,_⟩:=id I.loc;obtain⟨sl,hL⟩:=u.any ho I.free λz=>(hch _ z).2.1 rfl
 exact I.step (ch:=ch) hch (λb o hL hb hc e n=>u.keep b o e n (λz=>(qw.mp (I.zdu b z)).elim hL hb) hc) (λb o _ _ hc e n=>u.any e n hc) (λb o hc e n=>u.free b o e n hc) (λb o hc e=>u.there b o e hc) u.tups u.frzs u.tbls (λm' hm=>by
  have⟨o',es',ep',ho',r'⟩:=hm;rw[ho] at ho';cases ho';exact⟨_,es',ep',hL,r'⟩) hok hg
def Inv.turned{t':Nat}{it:AdX}(I:Inv X pins σ H s)(k:∀b o,b≠it->s.heap.get? b=some o->h'.get? b=some o)(hn:H it=none)(hL:it≠X.env.locals)(h1:it∈X.ex\/X.s₀.heap.objs.size<=it)(h2:∀x c,X.env.cells.lookup x=some c->c≠it)(h3:∀p∈X.pn++pins,p.1≠it):Inv X pins σ H { s with heap:=h',toks:=t' }:=by
 have nit:∀b u,H b=some u->b≠it:=λb u e z=>by rw[z,hn] at e;cases e
 refine I.step (g':=s.gens) (d':=s.drawn) (ch:=[it]) (λb hb=>?_) (λb o _ _ hc e _=>k b o (λz=>hc (by simp[z])) e) (λb o _ _ hc e _=>⟨o.slots,k b o (λz=>hc (by simp[z])) e⟩) (λ_ _ _ _ n=>n)
  (λb o hc e=>⟨o,k b o (λz=>hc (by simp[z])) e⟩) (λ_ _ e=>e) (λ_ _ _ e=>e) (λb ps e=>⟨#[],by rw[e];simp⟩) (λm hm=>?_) (λb u e=>?_) I.bare
 ·have e:b=it:=by simpa using hb
  subst e;exact⟨h1,hL,h2,h3⟩
 ·have⟨o,es,ep,ho,r⟩:=hm;exact⟨o,es,ep,k _ o (gw hL) ho,r⟩
 ·refine(I.hok b u e).stay (λc v hc q=>k c v ?_ q) (λ_ q=>q) λ_ _ q=>q
  rcases hc with z|z
  ·rw[z];exact nit b u e
  ·exact nit c _ z
def Inv.tok(I:Inv X pins σ H s)(t:Nat):Inv X pins σ H { s with toks:=t }:=I.un (h':=s.heap) (t':=t) Un.refl I.hok
def Inv.kept{t':Nat}(I:Inv X pins σ H s)(k:∀b u,s.heap.get? b=some u->h'.get? b=some u):Inv X pins σ H { s with heap:=h',toks:=t' }:=I.un (Un.kept k) (I.hok.kept k)
def Inv.laid{a:AdX}{o:HO}{t':Nat}(I:Inv X pins σ H s)(k:∀b u,s.heap.get? b=some u->h'.get? b=some u)(hp:s.heap.objs.size<=a)(new:vB X.prog X.w (upd H a o) h' a o):Inv X pins σ (upd H a o) { s with heap:=h',toks:=t' }:=I.un (Un.laid k hp (I.hok.fresh hp)) (I.hok.laid k hp new)
def Inv.write{x e:AdX}{o:HO}{t':Nat}(I:Inv X pins σ H s)(mu:Mut (H x))(he:e=x\/H e=some (.own x))(k:∀b u,b≠e->s.heap.get? b=some u->h'.get? b=some u)(heo:∃u,h'.get? e=some u)(new:vB X.prog X.w (upd H x o) h' x o):Inv X pins σ (upd H x o) { s with heap:=h',toks:=t' }:=I.un (Un.write mu he k heo) (I.hok.write mu he k heo new)
def Inv.zeq{pins':PNx}(I:Inv X pins σ H s)(h:∀p∈pins',s.heap.get? p.1=some p.2/\H p.1=none/\p.1≠X.env.locals/\p.1∉X.fs/\∀v,p.2.data≠ .cell v):Inv X pins' σ H s:=⟨I.ok,I.os,I.bare,I.base,I.loc,I.cell,I.free,I.freeC,λp hp=>(qt.mp hp).elim (λz=>I.pin p (List.mem_append_left _ z)) (h p),I.hok,I.len⟩
def zcJ{N:LSr}(hN:N.Nodup){i j:Nat}{x:Str}(a:N[i]?=some x)(b:N[j]?=some x):i=j:=by
 obtain⟨h1,e1⟩:=qf.mp a;obtain⟨h2,e2⟩:=qf.mp b;exact(List.getElem_inj hN).mp (e1.trans e2.symm)
def VS{M:Model}{A:Around}{E:VSx}{i:Nat}{x:Str}{v:V}{u:Value}{Q:Unit->Shared->Prop}(I:Inv X pins σ H s)(hN:X.N.Nodup)(hi:X.N[i]?=some x)(hx:Loc X.env.scope x)(r:RelV v u)(h:∀s',Inv X pins (σ.set i (some v)) H s'->(∃a,Heap.SameBut a s.heap s'.heap/\(a=X.env.locals\/X.env.cells.lookup x=some a))->Q () s')(hf:FNx X x:=by trivial):wpAny M A (storeName X.env x u) Q E s:=by
 have⟨m,hn,hl⟩:=id I.loc;have hcls:(X.env.scope.kind== .class || (X.env.scope.kind== .module&&X.env.locals != X.env.globals))=false:=by rw[I.ok.kind];rfl
 have hiσ:i<σ.length:=by rw[I.len];exact(qf.mp hi).1
 have cne:=I.cne;have tracked:∀{a:AdX} {h':Heap},(∃o,s.heap.get? a=some o/\H a=none)->Heap.SameBut a s.heap h'->HOk X.prog X.w H h':=λ{a h'} ha hs b ob e=>by
  have⟨_,_,hfree⟩:=ha;refine(I.hok b ob e).stay (λc w' hc q=>(hs.2 c ?_).trans q) (λ_ q=>q) λ_ _ q=>q
  rintro rfl;rcases hc with rfl|hc
  ·rw[hfree] at e;cases e
  ·rw[hfree] at hc;cases hc
 rcases hx with hk|hk
 ·refine wpAny_storeName_local hk hn (λh' hn' hs=>?_) hcls;have⟨oL,_,_,hoL,_⟩:=id hn;refine h _ ⟨I.ok,I.os,I.bare,⟨λb o e n hb hx=>?_,λb o e n hb hx=>?_,I.base.free,λb o e hx=>?_,I.base.tups,I.base.frzs,I.base.tbls⟩,⟨_,hn',λj y v' e1 e2 e3=>?_⟩,λy c e=>?_,I.free,I.freeC,λp hp=>?_,tracked ⟨oL,hoL,I.free⟩ hs,by simpa using I.len⟩ ⟨_,hs,.inl rfl⟩
  ·exact(hs.2 b (kS (qN (qM e) I.ok.above))).trans (I.base.keep b o e n hb hx)
  ·have⟨sl,e1⟩:=I.base.slot b o e n hb hx;exact⟨sl,(hs.2 b (kS (qN (qM e) I.ok.above))).trans e1⟩
  ·have⟨o',e1⟩:=I.base.there b o e hx;exact⟨o',(hs.2 b (kS (qN (qM e) I.ok.above))).trans e1⟩
  ·by_cases hj:j=i
   ·subst hj;rw[hi] at e1;cases e1;rw[ku hiσ] at e2;cases e2;exact⟨u,r,.inl ⟨hk,by simp⟩⟩
   ·rw[qJ (gw hj)] at e2;have⟨u',r',q⟩:=hl j y v' e1 e2 e3;refine⟨u',r',?_⟩;rcases q with⟨k,e⟩|⟨k,c,e,z⟩
    ·refine .inl ⟨k,?_⟩
     have:y≠x:=λe=>hj (zcJ hN e1 (e▸hi))
     simp[this,e]
    ·exact .inr ⟨k,c,e,z.sameBut hs (cne y c e)⟩
  ·have⟨w',z⟩:=I.cell y c e;exact⟨w',z.sameBut hs (cne y c e)⟩
  ·have⟨e,n,ne,nf,d⟩:=I.pin p hp;exact⟨(hs.2 p.1 ne).trans e,n,ne,nf,d⟩
 ·have hfn:X.fn x=true:=by
   rcases hf with z|z
   ·exact z
   ·rw[z] at hk;cases hk
  obtain⟨c,hc⟩:=I.ok.has x (.inl hk);have⟨w',z⟩:=I.cell x c hc;refine wpAny_storeName_cell I.ok.kind hk hc z (λh' hc' hs=>?_);have⟨oc,hoc,hocd⟩:=id z;refine h { s with heap:=h' } ⟨I.ok,I.os,I.bare,⟨λb o e n hb hx=>?_,λb o e n hb hx=>?_,I.base.free,λb o e hx=>?_,I.base.tups,I.base.frzs,I.base.tbls⟩,⟨m,hn.sameBut hs (gw (cne x c hc)),λj y v' e1 e2 e3=>?_⟩,λy c' e=>?_,I.free,I.freeC,λp hp=>?_,tracked ⟨oc,hoc,I.freeC x c hc⟩ hs,by simpa using I.len⟩ ⟨c,hs,.inr hc⟩
  ·exact(hs.2 b (kS (qN (qM e) (I.ok.cab x c hfn hc)))).trans (I.base.keep b o e n hb hx)
  ·have⟨sl,e1⟩:=I.base.slot b o e n hb hx;exact⟨sl,(hs.2 b (kS (qN (qM e) (I.ok.cab x c hfn hc)))).trans e1⟩
  ·have⟨o',e1⟩:=I.base.there b o e hx;exact⟨o',(hs.2 b (kS (qN (qM e) (I.ok.cab x c hfn hc)))).trans e1⟩
  ·by_cases hj:j=i
   ·subst hj;rw[hi] at e1;cases e1;rw[ku hiσ] at e2;cases e2;exact⟨u,r,.inr ⟨.inl hk,c,hc,hc'⟩⟩
   ·rw[qJ (gw hj)] at e2;have⟨u',r',q⟩:=hl j y v' e1 e2 e3;refine⟨u',r',?_⟩;rcases q with q|⟨k,c',e,z'⟩
    ·exact .inl q
    ·refine .inr ⟨k,c',e,z'.sameBut hs ?_⟩;rintro rfl;exact hj (zcJ hN e1 (I.ok.inj _ _ _ e hc▸hi))
  ·by_cases hcc:c'=c
   ·subst hcc;exact⟨_,hc'⟩
   ·have⟨w2,z2⟩:=I.cell y c' e;exact⟨w2,z2.sameBut hs hcc⟩
  ·have⟨e,n,ne,nf,d⟩:=I.pin p hp;refine⟨(hs.2 p.1 ?_).trans e,n,ne,nf,d⟩;intro q;rw[q,hoc] at e;have q':oc=p.2:=qZ e;exact d w' (by rw[<-q'];exact hocd)
def zcv{M:Model}{A:Around}{E:VSx}{i:Nat}{x:Str}{v:V}{u:Value}{Q:Unit->Shared->Prop}(I:Inv X pins σ H s)(hN:X.N.Nodup)(hi:X.N[i]?=some x)(hx:Loc X.env.scope x)(r:RelV v u)(h:∀s',Inv X pins (σ.set i (some v)) H s'->Q () s')(hf:FNx X x:=by trivial):wpAny M A (storeName X.env x u) Q E s:=VS I hN hi hx r (λs' I' _=>h s' I') hf
end
abbrev XK:=Value->Option Addr->Hp->Prop
abbrev St:=List (Option V)
abbrev VK:=V->Hp->Prop
abbrev TE:=St->Hp->VK->Prop
abbrev TT:=St->Hp->(Bool->Hp->Prop)->Prop
abbrev TA:=St->Hp->(List V->Hp->Prop)->Prop
structure Ends where
 nx:St->Hp->Prop
 rt:VK
 bk:St->Hp->Prop:=λ_ _=>False
 ct:St->Hp->Prop:=λ_ _=>False
abbrev TS:=Ends->St->Hp->Prop
def EP(X:Cx)(pins:PNx)(σ:St)(Q:VK)(u:Value)(s':ShX):Prop:=∃v H',Inv X pins σ H' s'/\RelV v u/\Q v H'
def TP(X:Cx)(pins:PNx)(σ:St)(Q:Bool->Hp->Prop)(b:Bool)(s':ShX):Prop:=∃H',Inv X pins σ H' s'/\Q b H'
def AP(X:Cx)(pins:PNx)(σ:St)(Q:List V->Hp->Prop)(us:LVl)(s':ShX):Prop:=∃vs H',Inv X pins σ H' s'/\Vals vs us/\Q vs H'
def SP(X:Cx)(pins:PNx)(D:Ends)(f:Flow)(s':ShX):Prop:=match f with
 | .next=>∃σ' H',Inv X pins σ' H' s'/\D.nx σ' H'
 | .brk=>∃σ' H',Inv X pins σ' H' s'/\D.bk σ' H'
 | .cont=>∃σ' H',Inv X pins σ' H' s'/\D.ct σ' H'
 | .ret u=>∃v σ' H',Inv X pins σ' H' s'/\RelV v u/\D.rt v H'
def PE(X:Cx)(e:Expr)(t:TE):Prop:=∀(pins:PNx)(s:ShX)(σ:St)(H:Hp)(Q:VK),Inv X pins σ H s->t σ H Q->wpAny (model X.prog X.w) X.A (eval e X.env) (EP X pins σ Q) X.xe s
def PT(X:Cx)(e:Expr)(t:TT):Prop:=∀(pins:PNx)(s:ShX)(σ:St)(H:Hp)(Q:Bool->Hp->Prop),Inv X pins σ H s->t σ H Q->wpAny (model X.prog X.w) X.A (isTrue e X.env (eval e X.env)) (TP X pins σ Q) X.xe s
def PW(X:Cx)(e:Expr)(t:TT):Prop:=∀(whole:Sem Value)(pins:PNx)(s:ShX)(σ:St)(H:Hp)(Q:Bool->Hp->Prop),Inv X pins σ H s->t σ H Q->wpAny (model X.prog X.w) X.A (isTrue e X.env whole) (TP X pins σ Q) X.xe s
def PW.pt{X:Cx}{e:Expr}{t:TT}(h:PW X e t):PT X e t:=h _
def PA(X:Cx)(es:List Expr)(t:TA):Prop:=∀(pos:Pos)(pins:PNx)(s:ShX)(σ:St)(H:Hp)(Q:List V->Hp->Prop),Inv X pins σ H s->t σ H Q->wpAny (model X.prog X.w) X.A (spliced (backTo pos (starEach es X.env))) (AP X pins σ Q) X.xe s
def PS(X:Cx)(st:Stmt)(t:TS):Prop:=∀(pins:PNx)(s:ShX)(σ:St)(H:Hp)(D:Ends),Inv X pins σ H s->t D σ H->wpAny (model X.prog X.w) X.A (exec st X.env) (SP X pins D) X.xe s
def PSs(X:Cx)(st:List Stmt)(t:TS):Prop:=∀(pins:PNx)(s:ShX)(σ:St)(H:Hp)(D:Ends),Inv X pins σ H s->t D σ H->wpAny (model X.prog X.w) X.A (execs st X.env) (SP X pins D) X.xe s
def thn{α:Type}{t:Sem α}{Q Q':α->Shared->Prop}{M:Model}{A:Around}{E:VSx}{s:ShX}(h:wpAny M A t Q E s)(hQ:∀a s,Q a s->Q' a s):wpAny M A t Q' E s:=k5 h hQ λ_ _ x=>x
section
variable{X:Cx}
def bin{a b:Expr}{ta tb:TE}(ha:PE X a ta)(hb:PE X b tb){pins:PNx}{s:ShX}{σ:St}{H:Hp}{R:V->V->Hp->Prop}(I:Inv X pins σ H s)(h:ta σ H λx H1=>tb σ H1 λy H2=>R x y H2){α:Type}{Q:α->Shared->Prop}{f:Value->Value->Sem α}(hf:∀v u s2 x y H2,Inv X pins σ H2 s2->RelV x v->RelV y u->R x y H2->wpAny (model X.prog X.w) X.A (f v u) Q X.xe s2):wpAny (model X.prog X.w) X.A (eval a X.env) (λv s₁=>wpAny (model X.prog X.w) X.A (eval b X.env) (λu s₂=>wpAny (model X.prog X.w) X.A (f v u) Q X.xe s₂) X.xe s₁) X.xe s:=by
 refine thn (ha pins s σ H _ I h) λv s1 ⟨x,H1,I1,r1,q1⟩=>?_
 refine thn (hb pins s1 σ H1 _ I1 q1) λu s2 ⟨y,H2,I2,r2,q2⟩=>?_
 exact hf v u s2 x y H2 I2 r1 r2 q2
def zmw(i:Nat):TE:=λσ H Q=>∃v,σ[i]?=some (some v)/\Q v H
def tC(v:V):TE:=λ_ H Q=>Q v H
def yU{i:Nat}{x:Str}{pos:Pos}(hN:X.N[i]?=some x)(hv:Vis X.env.scope x)(hd:NDx x:=by decide)(hcd:NCx x:=by decide):PE X (.Name x pos) (zmw i):=by
 intro pins s σ H Q I h;obtain⟨v,e,h⟩:=h;have⟨m,hn,hl⟩:=I.loc;have⟨u,r,l⟩:=hl i x v hN e hv;have fin:EP X pins σ Q u s:=⟨v,H,I,r,h⟩;rcases l with⟨hk,hm⟩|⟨hk,c,hc,hcell⟩
 ·exact wpAny_Name (wpAny_loadName_local I.ok.kind hk hn hm fin) hd
 ·rcases hk with hk|hk
  ·exact wpAny_Name (wpAny_loadName_cell I.ok.kind hk hc hcell fin) hd
  ·exact wpAny_Name (wpAny_loadName_free I.ok.kind hk hc hcell fin hcd) hd
def zjX{i j pos}:PE X (.Constant (.int i) j pos) (tC (.int i)):=λ_ _ _ H _ I h=>wpAny_Constant_int ⟨.int i,H,I.tok _,⟨_,rfl⟩,h⟩
def zlP{b j pos}:PE X (.Constant (.bool b) j pos) (tC (.bl b)):=λ_ _ _ H _ I h=>Constant_bool ⟨.bl b,H,I,rfl,h⟩
def zkE{j pos}:PE X (.Constant .none j pos) (tC .non):=λ_ _ _ H _ I h=>Constant_none ⟨.non,H,I,rfl,h⟩
def Gl(X:Cx)(x:Str):Prop:=X.env.kindOf x=some .globalImplicit
def zbv{E:VSx}{pins:PNx}{s:ShX}{σ:St}{H:Hp}{x:Str}{u:Value}{pos:Pos}{Q:VSx}(I:Inv X pins σ H s)(hg:Gl X x)(hm:X.mg x=some u)(h:Q u s)(hd:NDx x:=by decide):wpAny (model X.prog X.w) X.A (eval (.Name x pos) X.env) Q E s:=Calls.Name_function_global I.ok.kind hg (Calls.loadGlobal_global (by rw[I.ok.glob];exact I.mod.glob.keeps I.bk) hm h) hd
def Uw{E:VSx}{pins:PNx}{s:ShX}{σ:St}{H:Hp}{x:Str}{u:Value}{pos:Pos}{Q:VSx}(I:Inv X pins σ H s)(hg:Gl X x)(hm:X.mg x=none)(hv:bootBuiltins x=some u)(h:Q u s)(hn:x≠"__name__":=by decide)(hd:NDx x:=by decide):wpAny (model X.prog X.w) X.A (eval (.Name x pos) X.env) Q E s:=by
 have⟨mb,h1,h2⟩:=I.mod.blt;exact Calls.Name_function_global I.ok.kind hg (Calls.loadGlobal_builtin (by rw[I.ok.glob];exact I.mod.glob.keeps I.bk) hm (by rw[I.ok.blt];exact h1.keeps I.bk) ((h2 x hn).trans hv) h) hd
def zjm{x:Str}{v:V}{u:Value}{pos:Pos}(hg:Gl X x)(hm:X.mg x=some u)(r:RelV v u)(hd:NDx x:=by decide):PE X (.Name x pos) (tC v):=λ_ _ _ H _ I h=>zbv I hg hm ⟨v,H,I,r,h⟩ hd
def zjr{x:Str}{v:V}{u:Value}{pos:Pos}(hg:Gl X x)(hm:X.mg x=none)(hv:bootBuiltins x=some u)(r:RelV v u)(hn:x≠"__name__":=by decide)(hd:NDx x:=by decide):PE X (.Name x pos) (tC v):=λ_ _ _ H _ I h=>Uw I hg hm hv ⟨v,H,I,r,h⟩ hn hd
variable{a b:Expr}{ta tb:TE}{pos:Pos}
def PC(X:Cx)(op:CmpOp)(a b:Expr)(t:TE):Prop:=∀(pins:PNx)(s:ShX)(σ:St)(H:Hp)(Q:VK),Inv X pins σ H s->t σ H Q->
  wpAny (model X.prog X.w) X.A (eval a X.env) (λv s₁=>wpAny (model X.prog X.w) X.A (eval b X.env) (λu s₂=>wpAny (model X.prog X.w) X.A (compareOp op v u) (EP X pins σ Q) X.xe s₂) X.xe s₁) X.xe s
def zhp(b:Expr){op:CmpOp}(h:op≠ .In)(h2:op≠ .NotIn):behindInMarks op b=false:=by
 have e1:(op==CmpOp.In)=false:=by cases op<;>first |rfl|exact absurd rfl h
 have e2:(op==CmpOp.NotIn)=false:=by cases op<;>first |rfl|exact absurd rfl h2
 cases b<;>simp[behindInMarks,e1,e2]
def tB(t:TE):TT:=λσ H Q=>t σ H λx H1=>∃c,x=.bl c/\Q c H1
def zmG{op:CmpOp}{t:TE}(h:PC X op a b t)(h1:behindInMarks op b=false:=by first |exact zhp _ (by decide) (by decide)|rfl):PT X (.Compare a [op] [b] pos) (tB t):=by
 intro pins s σ H Q I hw;refine wpAny_isTrue_Compare1 (thn (h pins s σ H _ I hw) λv s1 h1=>thn h1 λu s2 h2=>thn h2 λc s3 ⟨x,H1,I1,r1,q1⟩=>?_) h1;obtain⟨d,rfl,q⟩:=q1;cases r1;exact mE ⟨H1,I1,q⟩
def zhM{e:Expr}{t:TE}(h:PE X e t)(he:∀whole,isTrue e X.env whole=(do let v <-whole;standAt e.pos;holding [v] (truthy v)):=by intro _;rfl):PT X e (tB t):=by
 intro pins s σ H Q I hw;refine isTrue_plain (thn (h pins s σ H _ I hw) λv s1 ⟨x,H1,I1,r1,q1⟩=>?_) (he _);obtain⟨d,rfl,q⟩:=q1;cases r1;exact mE ⟨H1,I1,q⟩
variable{tA tB':TT}{rest:List Expr}
def zmL(t u:TT):TT:=λσ H Q=>t σ H λc H1=>if c=true then u σ H1 Q else Q false H1
def tOr(t u:TT):TT:=λσ H Q=>t σ H λc H1=>if c=true then Q true H1 else u σ H1 Q
def zmD(t:TT):TT:=λσ H Q=>t σ H λc H1=>Q (!c) H1
def pw_and1(ha:PT X a tA):PW X (.BoolOp .And [a] pos) tA:=by
 intro wh pins s σ H Q I h;refine isTrue_and (thn (ha pins s σ H Q I h) λc s1 e=>?_);cases c with
 |true=>exact isTrue_and_nil e
 |false=>exact e
def pw_or1(ha:PT X a tA):PW X (.BoolOp .Or [a] pos) tA:=by
 intro wh pins s σ H Q I h;refine isTrue_or (thn (ha pins s σ H Q I h) λc s1 e=>?_);cases c with
 |false=>exact isTrue_or_nil e
 |true=>exact e
def pw_and(ha:PT X a tA)(hb:PW X (.BoolOp .And (b::rest) pos) tB'):PW X (.BoolOp .And (a::b::rest) pos) (zmL tA tB'):=by
 intro wh pins s σ H Q I h;refine isTrue_and (thn (ha pins s σ H _ I h) λc s1 ⟨H1,I1,q1⟩=>?_);cases c with
 |true=>exact hb wh pins s1 σ H1 Q I1 q1
 |false=>exact⟨H1,I1,q1⟩
def pw_or(ha:PT X a tA)(hb:PW X (.BoolOp .Or (b::rest) pos) tB'):PW X (.BoolOp .Or (a::b::rest) pos) (tOr tA tB'):=by
 intro wh pins s σ H Q I h;refine isTrue_or (thn (ha pins s σ H _ I h) λc s1 ⟨H1,I1,q1⟩=>?_);cases c with
 |true=>exact⟨H1,I1,q1⟩
 |false=>exact hb wh pins s1 σ H1 Q I1 q1
def zgE(ha:PT X a tA):PT X (.UnaryOp .Not a pos) (zmD tA):=by
 intro pins s σ H Q I h;exact isTrue_not (ha pins s σ H (λc H1=>Q (!c) H1) I h)
def zlV(ta tb:TE):TE:=λσ H Q=>ta σ H λx H1=>∃c,x=.bl c/\if c=true then tb σ H1 Q else Q (.bl false) H1
def zlE(ta:TE):TE:=λσ H Q=>ta σ H λx H1=>∃c,x=.bl c/\Q (.bl (!c)) H1
def zlv{op}{t:TE}(h:PE X a t):PE X (.BoolOp op [a] pos) t:=λpins s σ H Q I hw=>BoolOp_one (h pins s σ H Q I hw)
def zkC(ha:PE X a ta)(hb:PE X (.BoolOp .And (b::rest) pos) tb):PE X (.BoolOp .And (a::b::rest) pos) (zlV ta tb):=by
 intro pins s σ H Q I h;refine BoolOp_and (thn (ha pins s σ H _ I h) λv s1 ⟨x,H1,I1,r1,q1⟩=>?_);obtain⟨c,rfl,q1⟩:=q1;cases r1;refine mE ?_;cases c with
 |true=>exact hb pins s1 σ H1 Q I1 q1
 |false=>exact⟨.bl false,H1,I1,rfl,q1⟩
def zjQ(ha:PE X a ta):PE X (.UnaryOp .Not a pos) (zlE ta):=by
 intro pins s σ H Q I h;refine UnaryOp_ (thn (ha pins s σ H _ I h) λv s1 ⟨x,H1,I1,r1,q1⟩=>?_);obtain⟨c,rfl,q1⟩:=q1;cases r1;exact not_of (mE ⟨.bl (!c),H1,I1,rfl,q1⟩)
def tIf(t:TT)(ta tb:TE):TE:=λσ H Q=>t σ H λc H1=>if c=true then ta σ H1 Q else tb σ H1 Q
def zgN{c:Expr}(hc:PT X c tA)(ha:PE X a ta)(hb:PE X b tb):PE X (.IfExp c a b pos) (tIf tA ta tb):=by
 intro pins s σ H Q I h;refine wpAny_IfExp (thn (hc pins s σ H _ I h) λd s1 ⟨H1,I1,q1⟩=>?_);cases d with
 |true=>exact ha pins s1 σ H1 Q I1 q1
 |false=>exact hb pins s1 σ H1 Q I1 q1
end
def SqL(K:FRx)(H:Hp)(a:AdX)(xs:List V):Prop:=Rd H a (.lst xs)\/
  ∃(o:Obj)(its:Array Value)(n:Nat),K.lookup a=some o/\o.cls=.type "list"/\o.dict=none/\o.data=.seq its n/\its.size<=sizeLine/\Vals xs its.toList
def SqT(K:FRx)(H:Hp)(a:AdX)(xs:List V):Prop:=Rd H a (.tup xs)\/
  ∃(o:Obj)(its:Array Value)(n:Nat),K.lookup a=some o/\o.cls=.type "tuple"/\o.data=.seq its n/\its.size<=sizeLine/\Vals xs its.toList
def zmq:Value->Option V
 | .none=>some .non
 | .bool b=>some (.bl b)
 | .int i _=>some (.int i)
 | .str x _=>some (.str x)
 | .bytes b _=>some (.byt b)
 | .float b _=>some (.flt b)
 | .ref a=>some (.ref a)
 | .type n=>some (.ty n)
 |_=>none
def RelV.abs{x:V}{u:Value}(r:RelV x u):zmq u=some x:=by
 cases x with
 |non=>cases r;rfl
 |bl _=>cases r;rfl
 |int _=>obtain⟨t,rfl⟩:=r;rfl
 |str _=>obtain⟨t,rfl⟩:=r;rfl
 |byt _=>obtain⟨t,rfl⟩:=r;rfl
 |flt _=>obtain⟨t,rfl⟩:=r;rfl
 |ref _=>cases r;rfl
 |ty _=>cases r;rfl
def RelV.inj{x y:V}{u:Value}(r:RelV x u)(q:RelV y u):x=y:=qZ (r.abs.symm.trans q.abs)
theorem Vals.inj:∀{xs ys:List V} {us:LVl},Vals xs us->Vals ys us->xs=ys
 |_,_,_,.nil,.nil=>rfl
 |_,_,_,.cons r t,.cons r' t'=>by rw[r.inj r',Vals.inj t t']
section
variable{X:Cx}{pins:PNx}{σ:St}{H:Hp}{s:ShX}{a:AdX}{xs ys:List V}
def SqL.of{K:FRx}(h:H a=some (.lst xs)):SqL K H a xs:=.inl (.inl h)
def SqT.of{K:FRx}(h:H a=some (.tup xs)):SqT K H a xs:=.inl (.inl h)
def Inv.list(I:Inv X pins σ H s)(h:SqL X.K H a xs):∃its:List Value,Vals xs its/\PlainL s.heap a its.toArray/\xs.length<=sizeLine:=by
 rcases h with h|⟨o,its,n,hk,hc,hd,hs,hz,r⟩
 ·have⟨z,its,n,r,e⟩:=h.ok I.hok;exact⟨its,r,⟨_,n,e,rfl,rfl,rfl⟩,z⟩
 ·refine⟨its.toList,r,⟨o,n,I.kIn a o hk,hc,hd,by simpa using hs⟩,?_⟩;have e:=r.length;simp only [nN] at e;omega
def Inv.tuple(I:Inv X pins σ H s)(h:SqT X.K H a xs):∃its:List Value,Vals xs its/\IsTup s.heap a its.toArray/\xs.length<=sizeLine:=by
 rcases h with h|⟨o,its,n,hk,hc,hs,hz,r⟩
 ·have⟨z,its,r,p⟩:=h.ok I.hok;exact⟨its,r,p,z⟩
 ·refine⟨its.toList,r,⟨o,I.kIn a o hk,hc,n,by simpa using hs⟩,?_⟩;have e:=r.length;simp only [nN] at e;omega
def Inv.zcR(I:Inv X pins σ H s)(h:SqL X.K H a xs)(h':SqL X.K H a ys):xs=ys:=by
 have⟨its,r,⟨o,n,e,_,_,d⟩,_⟩:=I.list h;have⟨its',r',⟨o',n',e',_,_,d'⟩,_⟩:=I.list h';rw[e] at e';cases e';rw[d] at d';injection d' with d1 _
 have:its=its':=by simpa using qG Array.toList d1
 subst this;exact r.inj r'
def Inv.VU(I:Inv X pins σ H s)(h:SqT X.K H a xs)(h':SqT X.K H a ys):xs=ys:=by
 have⟨its,r,⟨o,e,_,n,d⟩,_⟩:=I.tuple h;have⟨its',r',⟨o',e',_,n',d'⟩,_⟩:=I.tuple h';rw[e] at e';cases e';rw[d] at d';injection d' with d1 _
 have:its=its':=by simpa using qG Array.toList d1
 subst this;exact r.inj r'
end
abbrev Cx.wish(X:Cx)(E:VSx):Cx:={ X with xe:=E }
abbrev Cx.nox(X:Cx):Cx:=X.wish λ_ _=>False
def Cx.Ok.wish{X:Cx}(ok:X.Ok)(E:VSx):(X.wish E).Ok:=⟨ok.mod,ok.kind,ok.glob,ok.blt,ok.above,ok.inj,ok.has,ok.cab,ok.hd,ok.frames,ok.stk,ok.exf,ok.bs,ok.bsz,ok.noex,ok.exfs,ok.funs,ok.frf⟩
def Cx.Ok.unwish{X:Cx}{E:VSx}(ok:(X.wish E).Ok):X.Ok:=⟨ok.mod,ok.kind,ok.glob,ok.blt,ok.above,ok.inj,ok.has,ok.cab,ok.hd,ok.frames,ok.stk,ok.exf,ok.bs,ok.bsz,ok.noex,ok.exfs,ok.funs,ok.frf⟩
section
variable{X:Cx}{pins:PNx}{σ:St}{H:Hp}{s:ShX}{E:VSx}
def Inv.wish(I:Inv X pins σ H s)(E:VSx):Inv (X.wish E) pins σ H s:=⟨I.ok.wish E,I.os,I.bare,I.base,I.loc,I.cell,I.free,I.freeC,I.pin,I.hok,I.len⟩
def Inv.unwish(I:Inv (X.wish E) pins σ H s):Inv X pins σ H s:=⟨I.ok.unwish,I.os,I.bare,I.base,I.loc,I.cell,I.free,I.freeC,I.pin,I.hok,I.len⟩
def SP.unwish{D:Ends}{f:Flow}{s':ShX}(h:SP (X.wish E) pins D f s'):SP X pins D f s':=by
 cases f with
 |next=>have⟨σ',H',I,q⟩:=h;exact⟨σ',H',I.unwish,q⟩
 |brk=>have⟨σ',H',I,q⟩:=h;exact⟨σ',H',I.unwish,q⟩
 |cont=>have⟨σ',H',I,q⟩:=h;exact⟨σ',H',I.unwish,q⟩
 |ret u=>have⟨v,σ',H',I,r,q⟩:=h;exact⟨v,σ',H',I.unwish,r,q⟩
def PSs.nox{st:List Stmt}{t:TS}(h:PSs X.nox st t):PSs X st t:=λpins s σ H D I hw=>
 k5 (h pins s σ H D (I.wish _) hw) (λ_ _ q=>q.unwish) λ_ _ z=>False.elim z
end
section
variable{X:Cx}{st:Stmt}{rest:List Stmt}{t u:TS}{e:Expr}{te:TE}{pos:Pos}
def zlU:TS:=λD σ H=>D.nx σ H
def zmv(t u:TS):TS:=λD σ H=>t { D with nx:=u D } σ H
def zes:PSs X [] zlU:=λ_ _ σ H _ I h=>nO ⟨σ,H,I,h⟩
def Y1(h1:PS X st t)(h2:PSs X rest u):PSs X (st::rest) (zmv t u):=by
 intro pins s σ H D I h;refine wpAny_execs_cons (thn (h1 pins s σ H { D with nx:=u D } I h) λf s1 q=>?_);cases f with
 |next=>
  obtain⟨σ',H',I',q⟩:=q;exact h2 pins s1 σ' H' D I' q
 |ret v=>exact q
 |brk=>exact q
 |cont=>exact q
def zex(h1:PS X st t):PSs X [st] t:=by
 intro pins s σ H D I h;refine wpAny_execs_cons (thn (h1 pins s σ H D I h) λf s1 q=>?_);cases f with
 |next=>exact nO q
 |ret v=>exact q
 |brk=>exact q
 |cont=>exact q
def Inv.quiet{pins:PNx}{σ:St}{H:Hp}{s:ShX}(I:Inv X pins σ H s):interactive X.env=false:=by simp[interactive,I.ok.kind]
def zly(te:TE):TS:=λD σ H=>te σ H λ_ H1=>D.nx σ H1
def uM(he:PE X e te)(hs:swapsWith e none pos.line X.env=pure false:=by rfl):PS X (.Expr e pos) (zly te):=by
 intro pins s σ H D I h;exact wpAny_Expr_any (thn (he pins s σ H _ I h) λv s1 ⟨x,H1,I1,r1,q1⟩=>⟨σ,H1,I1,q1⟩) I.quiet hs
def zmB(te:TE):TS:=λD σ H=>te σ H D.rt
def Yt(he:PE X e te):PS X (.Return (some e) pos) (zmB te):=by
 intro pins s σ H D I h;exact wpAny_Return_some (thn (he pins s σ H _ I h) λv s1 ⟨x,H1,I1,r1,q1⟩=>⟨x,σ,H1,I1,r1,q1⟩)
def zmJ(c:TT)(t u:TS):TS:=λD σ H=>c σ H λb H1=>if b=true then t D σ H1 else u D σ H1
def zgH{c:Expr}{a b:List Stmt}{tc:TT}(hc:PT X c tc)(ha:PSs X a t)(hb:PSs X b u):PS X (.If c a b pos) (zmJ tc t u):=by
 intro pins s σ H D I h;refine wpAny_If (thn (hc pins s σ H _ I h) λd s1 ⟨H1,I1,q1⟩=>?_);cases d with
 |true=>exact ha pins s1 σ H1 D I1 q1
 |false=>exact hb pins s1 σ H1 D I1 q1
def zj8:TS:=λ_ _ _=>False
def zgj:PS X st zj8:=λ_ _ _ _ _ _ h=>h.elim
end
abbrev TG:=V->St->Hp->(St->Hp->Prop)->Prop
abbrev TGs:=List V->St->Hp->(St->Hp->Prop)->Prop
def PG(X:Cx)(target:Expr)(t:TG):Prop:=∀(pins:PNx)(s:ShX)(σ:St)(H:Hp)(v:V)(u:Value)(Q:St->Hp->Prop),Inv X pins σ H s->RelV v u->t v σ H Q->
  wpAny (model X.prog X.w) X.A (assign target X.env u) (λ_ s'=>∃σ' H',Inv X pins σ' H' s'/\Q σ' H') X.xe s
def PGs(X:Cx)(ts:List Expr)(t:TGs):Prop:=∀(pins:PNx)(s:ShX)(σ:St)(H:Hp)(vs:List V)(us:LVl)(Q:St->Hp->Prop),Inv X pins σ H s->Vals vs us->t vs σ H Q->
  wpAny (model X.prog X.w) X.A (assignInOrder ((assignEach ts X.env).map (·.2)) us) (λ_ s'=>∃σ' H',Inv X pins σ' H' s'/\Q σ' H') X.xe s
abbrev zj6:=V->V->V->Hp->(Hp->Prop)->Prop
def zlB(X:Cx)(t:zj6):Prop:=∀(pins:PNx)(s:ShX)(σ:St)(H:Hp)(o i v:V)(ov iv u:Value)(Q:Hp->Prop),Inv X pins σ H s->RelV o ov->RelV i iv->RelV v u->t o i v H Q->
  wpAny (model X.prog X.w) X.A (setItem ov iv u) (λ_ s'=>∃H',Inv X pins σ H' s'/\Q H') X.xe s
section
variable{X:Cx}{pos:Pos}
def zjO(i:Nat):TG:=λv σ H Q=>Q (σ.set i (some v)) H
def zi3{i:Nat}{x:Str}(hN:X.N.Nodup)(hi:X.N[i]?=some x)(hx:Loc X.env.scope x)(hf:FNx X x:=by trivial):PG X (.Name x pos) (zjO i):=by
 intro pins s σ H v u Q I r h;exact pL (zcv I hN hi hx r (λs' I'=>⟨_,H,I',h⟩) hf)
def zmp:TGs:=λvs σ H Q=>vs=[]/\Q σ H
def zl0(t:TG)(u:TGs):TGs:=λvs σ H Q=>∃v r,vs=v::r/\t v σ H λσ' H'=>u r σ' H' Q
def zim:PGs X [] zmp:=by
 intro pins s σ H vs us Q I r h;obtain⟨e,h⟩:=h;subst e;cases r;exact assignInOrder_nil ⟨σ,H,I,h⟩
def zc5{e:Expr}{es:List Expr}{t:TG}{u:TGs}(h1:PG X e t)(h2:PGs X es u)(hs:(assignEach (e::es) X.env).map (·.2)=assign e X.env::(assignEach es X.env).map (·.2):=by rfl):PGs X (e::es) (zl0 t u):=by
 intro pins s σ H vs us Q I r h;obtain⟨v,vr,e1,h⟩:=h;subst e1;cases r with
 |cons r rr=>
  rw[hs];refine assignInOrder_cons (thn (h1 pins s σ H _ _ _ I r h) λ_ s1 ⟨σ1,H1,I1,q1⟩=>?_);exact h2 pins s1 σ1 H1 _ _ Q I1 rr q1
def zmK(K:FRx)(n:Nat)(t:TGs):TG:=λv σ H Q=>∃a xs,v=.ref a/\SqT K H a xs/\xs.length=n/\t xs σ H Q
def zlg{es:List Expr}{k:Nat}{t:TGs}{n:Nat}(hc:X.calm=true)(h:PGs X es t)(hn:(assignEach es X.env).length=n:=by rfl)(hst:(assignEach es X.env).findIdx? (·.1)=none:=by rfl):PG X (.Tuple es k pos) (zmK X.K n t):=by
 intro pins s σ H v u Q I r hw;obtain⟨a,xs,e1,hq,hl,hw⟩:=hw;subst e1;cases r;have⟨its,rv,ht,hz⟩:=I.tuple hq;refine assign_Tuple_tuple (I.ok.hd hc) ht (by simp[hn,<-hl,rv.length]) hst λh' hx=>?_
 have I1:Inv X pins σ H { s with heap:=h' }:=I.kept (t':=s.toks) λb o e=>hx b o (kS (qM e)) e
 exact h pins _ σ H xs _ Q I1 (by simpa using rv) hw
def zmy(to ti:TE)(t:zj6):TG:=λv σ H Q=>to σ H λo H1=>ti σ H1 λi H2=>t o i v H2 λH3=>Q σ H3
def zj0{o i:Expr}{to ti:TE}{t:zj6}(ho:PE X o to)(hi:PE X i ti)(hs:zlB X t)(ha:∀v,assign (.Subscript o i pos) X.env v=(do
   let ov <-holding [v] (eval o X.env)
   let iv <-holding [v,ov] (eval i X.env)
   standAt pos
   holding [v,ov,iv] (setItem ov iv v)
   release [v,ov,iv] []):=by intro _;rfl):PG X (.Subscript o i pos) (zmy to ti t):=by
 intro pins s σ H v u Q I r h;rw[ha];refine qq (wpAny_holding (thn (ho pins s σ H _ I h) λov s1 ⟨x,H1,I1,r1,q1⟩=>?_));refine qq (wpAny_holding (thn (hi pins s1 σ H1 _ I1 q1) λiv s2 ⟨y,H2,I2,r2,q2⟩=>?_));refine qq (nD (qq (wpAny_holding (thn (hs pins s2 σ H2 x y v ov iv u _ I2 r1 r2 r q2) λ_ s3 ⟨H3,I3,q3⟩=>?_))));exact wpAny_release ⟨σ,H3,I3,q3⟩
def zlT(te:TE)(g:TG):TS:=λD σ H=>te σ H λx H1=>g x σ H1 D.nx
def zgT{tg e:Expr}{te:TE}{g:TG}(he:PE X e te)(hg:PG X tg g)(hs:swapsWithSole [tg] e pos.line X.env=pure false:=by rfl)(hw:swappedStores [tg] e X.env=pure none:=by rfl)(h1:(assignEach [tg] X.env).map (·.2)=[assign tg X.env]:=by rfl):PS X (.Assign [tg] e pos) (zlT te g):=by
 intro pins s σ H D I h;refine wpAny_Assign_stores (thn (he pins s σ H _ I h) λv s1 ⟨x,H1,I1,r1,q1⟩=>?_) hs hw;rw[h1];exact thn (hg pins s1 σ H1 x v _ I1 r1 q1) λ_ s2 q=>q
def uW{i:Nat}{x:Str}{e:Expr}{te:TE}{pos':Pos}(hN:X.N.Nodup)(hi:X.N[i]?=some x)(hx:Loc X.env.scope x)(he:PE X e te)(hs:swapsWith e (some (.Name x pos')) pos.line X.env=pure false:=by rfl)(hf:FNx X x:=by trivial):PS X (.Assign [.Name x pos'] e pos) (zlT te (zjO i)):=by
 intro pins s σ H D I h;refine wpAny_Assign_Name (thn (he pins s σ H _ I h) λv s1 ⟨y,H1,I1,r1,q1⟩=>?_) hs;exact zcv I1 hN hi hx r1 (λs2 I2=>⟨_,H1,I2,q1⟩) hf
end
section
variable{X:Cx}{pos:Pos}
def zkN(c:TT)(tb:TS):TS:=λD σ H=>∃W:Nat->St->Hp->Prop,(∃m,W m σ H)/\∀m σ H,W m σ H->
 c σ H λb H1=>if b=true then ∃N:St->Hp->Prop,(∀σ' H',N σ' H'->∃m',m'<m/\W m' σ' H')/\tb { D with nx:=N,ct:=N,bk:=D.nx } σ H1 else D.nx σ H1
def zcE{c:Expr}{body:List Stmt}{tc:TT}{tb:TS}(hp:PassesOwn (model X.prog X.w) X.A X.env X.xe)(hc:PT X c tc)(hb:PSs X body tb):PS X (.While c body [] pos) (zkN tc tb):=by
 intro pins s σ H D I h;have⟨W,⟨m0,w0⟩,turn⟩:=h;refine wpAny_While (codeAny_whileLoop (λn s'=>∃σ' H',Inv X pins σ' H' s'/\W n σ' H') ?_ m0 ⟨σ,H,I,w0⟩);rintro n s1 ⟨σ1,H1,I1,w1⟩;refine gQ hp (thn (hc pins s1 σ1 H1 _ I1 (turn n σ1 H1 w1)) λb s2 ⟨H2,I2,q2⟩=>?_);cases b with
 |true=>
  obtain⟨N,hN,q2⟩:=q2;rw[qg rfl];refine gQ hp (thn (hb pins s2 σ1 H2 _ I2 q2) λf s3 q3=>?_);cases f with
  |next=>
   have⟨σ3,H3,I3,n3⟩:=q3;have⟨m',hm,w3⟩:=hN σ3 H3 n3;exact⟨m',hm,σ3,H3,I3,w3⟩
  |cont=>
   have⟨σ3,H3,I3,n3⟩:=q3;have⟨m',hm,w3⟩:=hN σ3 H3 n3;exact⟨m',hm,σ3,H3,I3,w3⟩
  |brk=>exact q3
  |ret v=>exact q3
 |false=>
  rw[qm qE];exact nO ⟨σ1,H2,I2,q2⟩
end
structure It where
 go:Nat->Hp->Prop
 yld:Nat->Hp->V->Hp->Prop
 stop:Nat->Hp->Prop
def u0(X:Cx)(pins:PNx)(H:Hp)(b:AdX):Prop:=H b=none/\b≠X.env.locals/\b∉X.fs/\(b∈X.ex\/X.s₀.heap.objs.size<=b)/\(∀x c,X.env.cells.lookup x=some c->c≠b)/\∀p∈X.pn++pins,p.1≠b
def Inv.zbC{X:Cx}{pins:PNx}{σ:St}{H H':Hp}{s:ShX}{b:AdX}(I:Inv X pins σ H s)(hb:s.heap.objs.size<=b)(hn:H' b=none):u0 X pins H' b:=by
 refine⟨hn,mU (qN I.lt hb),I.nofs hb,.inr (qB I.sz hb),λx c e z=>?_,λp hp z=>?_⟩
 ·have⟨v,q⟩:=I.cell x c e;exact absurd (qN q.lt (by rw[z];exact hb)) (kX _)
 ·exact absurd (qN (qM (I.pin p hp).1) (by rw[z];exact hb)) (kX _)
structure Turn(P:Program)(w:World)(K:FRx)(tg:Expr)(J:It)(fp:LAd)(it:AdX)(tn:Nat->Heap->Prop):Prop where
 mem:it∈fp
 obj:∀i h,tn i h->∀b∈fp,∃o,h.get? b=some o/\∀v,o.data≠ .cell v
 keep:∀i h h',tn i h->(∀b∈fp,∀o,h.get? b=some o->h'.get? b=some o)->tn i h'
 item:∀(X:Cx),X.prog=P->X.w=w->X.K=K->X.calm=true->∀(i:Nat)(pins:PNx)(s:ShX)(σ:St)(H:Hp)(E:VSx),Inv X pins σ H s->(∀b∈fp,u0 X pins H b)->tn i s.heap->J.go i H->
  wpAny (model P w) X.A (pyNext (.ref it)) (λr s1=>∃u,r=some u/\
   wpAny (model P w) X.A (letOwnedTupleGo tg (.ref it) u) (λ_ s2=>∃x H',Inv X pins σ H' s2/\RelV x u/\J.yld i H x H'/\tn (i+1) s2.heap/\∀b∈fp,H' b=none) E s1) E s
 done:∀(X:Cx),X.prog=P->X.w=w->X.K=K->X.calm=true->∀(i:Nat)(pins:PNx)(s:ShX)(σ:St)(H:Hp)(E:VSx),Inv X pins σ H s->(∀b∈fp,u0 X pins H b)->tn i s.heap->J.stop i H->
  wpAny (model P w) X.A (pyNext (.ref it)) (λr s1=>r=none/\Inv X pins σ H s1) E s
 self:∀(A:Around)(i:Nat)(s:ShX)(Q:VSx)(E:VSx),tn i s.heap->Q (.ref it) s->wpAny (model P w) A (pyIter (.ref it)) Q E s
abbrev TI:=St->Hp->(It->Hp->Prop)->Prop
def PIE(X:Cx)(pins:PNx)(σ:St)(tg:Expr)(R:It->Hp->Prop)(itv:Value)(s2:ShX):Prop:=∃(it:AdX)(fp:LAd)(tn:Nat->Heap->Prop)(J:It)(H':Hp),itv=.ref it/\Inv X pins σ H' s2/\Turn X.prog X.w X.K tg J fp it tn/\tn 0 s2.heap/\(∀b∈fp,u0 X pins H' b)/\R J H'
def PI(X:Cx)(tg iter:Expr)(wi:TI):Prop:=∀(pins:PNx)(s:ShX)(σ:St)(H:Hp)(R:It->Hp->Prop),Inv X pins σ H s->wi σ H R->
  wpAny (model X.prog X.w) X.A (eval iter X.env) (λv s1=>wpAny (model X.prog X.w) X.A (pyIter v) (PIE X pins σ tg R) X.xe s1) X.xe s
def zgQ{M:Model}{A:Around}{E:VSx}{s:ShX}{tg:Expr}{it:AdX}{u:Value}{o:Obj}{n:String}{vs:Array Value}{Q:Unit->Shared->Prop}(ho:s.heap.get? it=some o)(hc:o.cls=.type n)(hd:o.data=.fields vs)(hn:["enumerate","zip","dict_itemiterator","dict_reverseitemiterator","odict_iterator","itertools.zip_longest","itertools.pairwise"].contains n=false)(hQ:Q () s):wpAny M A (letOwnedTupleGo tg (.ref it) u) Q E s:=by
 unfold letOwnedTupleGo;cases tg<;>first
  |exact qQ hQ
  |(cases u<;>first
    |exact qQ hQ
    |(refine qq (wpAny_load ho ?_)
      rw[hc,hd];show wpAny M A (if (["enumerate","zip","dict_itemiterator","dict_reverseitemiterator","odict_iterator","itertools.zip_longest","itertools.pairwise"].contains n&&vs[0]?==some (rawInt _))=true then _ else _) Q E s
      rw[qm (by intro h;rw[hn,pQ] at h;cases h)];exact qQ hQ))
def Itl(K:FRx)(a:AdX):It:=⟨λi H=>∃xs x,SqL K H a xs/\xs[i]?=some x,λi H x H'=>H'=H/\∀xs,SqL K H a xs->xs[i]?=some x,λi H=>∃xs,SqL K H a xs/\xs.length<=i⟩
def Itt(K:FRx)(a:AdX):It:=⟨λi H=>∃xs x,SqT K H a xs/\xs[i]?=some x,λi H x H'=>H'=H/\∀xs,SqT K H a xs->xs[i]?=some x,λi H=>∃xs,SqT K H a xs/\xs.length<=i⟩
def Itr(lo:Int)(n:Nat):It:=⟨λi _=>i<n,λi H x H'=>H'=H/\x=.int (lo+i),λi _=>n<=i⟩
def zfS{P:Program}{w:World}{K:FRx}{tg:Expr}(a it:AdX):Turn P w K tg (Itl K a) [it] it (λi h=>h.IsListIter it a i) where
 mem:=by simp
 obj:=λi h st b hb=>by
  have e:b=it:=by simpa using hb
  subst e;have⟨o,e,c,d⟩:=st;exact⟨o,e,λv z=>by rw[d] at z;cases z⟩
 keep:=λi h h' st k=>st.at λo e=>k it (by simp) o e
 item:=by
  intro X hP hw hK hc i pins s σ H E I hf st hg;subst hP hw hK;have⟨xs,x,hq,hx⟩:=hg;have⟨its,rv,p,hz⟩:=I.list hq;have⟨u,hu,ru⟩:=rv.get hx;obtain⟨f0,f1,f2,f3,f4,f5⟩:=hf it (by simp);refine wpAny_pyNext_list_item st p.isList (x:=u) (by simpa using hu) λh' st' sb=>?_
  have I1:Inv X pins σ H { s with heap:=h' }:=I.turned (t':=s.toks) (λb o hb e=>(sb.2 b hb).trans e) f0 f1 f3 f4 f5;have⟨o,e,c,d⟩:=id st'
  exact⟨u,rfl,zgQ (s:={ s with heap:=h' }) e c d (by decide) ⟨x,H,I1,ru,⟨rfl,λys hy=>by rw[I.zcR hy hq];exact hx⟩,st',λb hb=>(hf b hb).1⟩⟩
 done:=by
  intro X hP hw hK hc i pins s σ H E I hf st hg;subst hP hw hK;have⟨xs,hq,hx⟩:=hg;have⟨its,rv,p,hz⟩:=I.list hq;obtain⟨f0,f1,f2,f3,f4,f5⟩:=hf it (by simp);have hl:=rv.length;exact wpAny_pyNext_list_end (I.ok.hd hc) st p.isList (by simp;omega) λh' eb=>⟨rfl,I.turned (t':=s.toks) (λb o hb e=>eb b o hb e) f0 f1 f3 f4 f5⟩
 self:=λ_ _ _ _ _ st h=>wpAny_pyIter_listiter st h
def zdD{P:Program}{w:World}{K:FRx}{tg:Expr}(a it:AdX):Turn P w K tg (Itt K a) [it] it (λi h=>h.IsTupleIter it a i) where
 mem:=by simp
 obj:=λi h st b hb=>by
  have e:b=it:=by simpa using hb
  subst e;have⟨o,e,c,d⟩:=st;exact⟨o,e,λv z=>by rw[d] at z;cases z⟩
 keep:=λi h h' st k=>st.at λo e=>k it (by simp) o e
 item:=by
  intro X hP hw hK hc i pins s σ H E I hf st hg;subst hP hw hK;have⟨xs,x,hq,hx⟩:=hg;have⟨its,rv,p,hz⟩:=I.tuple hq;have⟨u,hu,ru⟩:=rv.get hx;obtain⟨f0,f1,f2,f3,f4,f5⟩:=hf it (by simp);refine wpAny_pyNext_tuple_item st (show s.heap.IsTuple a its.toArray from p) (x:=u) (by simpa using hu) λh' st' sb=>?_
  have I1:Inv X pins σ H { s with heap:=h' }:=I.turned (t':=s.toks) (λb o hb e=>(sb.2 b hb).trans e) f0 f1 f3 f4 f5;have⟨o,e,c,d⟩:=id st'
  exact⟨u,rfl,zgQ (s:={ s with heap:=h' }) e c d (by decide) ⟨x,H,I1,ru,⟨rfl,λys hy=>by rw[I.VU hy hq];exact hx⟩,st',λb hb=>(hf b hb).1⟩⟩
 done:=by
  intro X hP hw hK hc i pins s σ H E I hf st hg;subst hP hw hK;have⟨xs,hq,hx⟩:=hg;have⟨its,rv,p,hz⟩:=I.tuple hq;obtain⟨f0,f1,f2,f3,f4,f5⟩:=hf it (by simp);have hl:=rv.length;exact wpAny_pyNext_tuple_end (I.ok.hd hc) st (show s.heap.IsTuple a its.toArray from p) (by simp;omega) λh' eb=>⟨rfl,I.turned (t':=s.toks) (λb o hb e=>eb b o hb e) f0 f1 f3 f4 f5⟩
 self:=λ_ _ _ _ _ st h=>wpAny_pyIter_tupleiter st h
def zdP{P:Program}{w:World}{K:FRx}{tg:Expr}(it:AdX)(lo:Int)(n:Nat):Turn P w K tg (Itr lo n) [it] it (λi h=>IsRangeIter h it (lo+(i:Nat)*1) ((n:Int) - (i:Nat)) 1) where
 mem:=by simp
 obj:=λi h st b hb=>by
  have e:b=it:=by simpa using hb
  subst e;exact⟨_,st,λv z=>by
   have z':Data.fields _=Data.cell v:=z;cases z'⟩
 keep:=λi h h' st k=>k it (by simp) _ st
 item:=by
  intro X hP hw hK hc i pins s σ H E I hf st hg;subst hP hw hK;obtain⟨f0,f1,f2,f3,f4,f5⟩:=hf it (by simp);have W:=Walks.range (prog:=X.prog) (w:=X.w) (I.ok.hd hc) it lo 1 n;refine W.item i s _ _ hg st λv h' tk hv st' kk=>?_
  obtain⟨t,rfl⟩:=hv;have I1:Inv X pins σ H { s with heap:=h',toks:=tk }:=I.turned (λb o hb e=>kk b o (by simpa using hb) e) f0 f1 f3 f4 f5;refine⟨_,rfl,zgQ (s:={ s with heap:=h',toks:=tk }) (n:="range_iterator") st' rfl rfl (by decide) ⟨.int (lo+i),H,I1,⟨t,?_⟩,⟨rfl,rfl⟩,st',λb hb=>(hf b hb).1⟩⟩;rw[Int.mul_one]
 done:=by
  intro X hP hw hK hc i pins s σ H E I hf st hg;subst hP hw hK;obtain⟨f0,f1,f2,f3,f4,f5⟩:=hf it (by simp);exact wpAny_pyNext_range_end (I.ok.hd hc) st (by have:n<=i:=hg;omega) λh' eb=>⟨rfl,I.turned (t':=s.toks) (λb o hb e=>eb b o hb e) f0 f1 f3 f4 f5⟩
 self:=λ_ _ _ _ _ st h=>wpAny_pyIter_rangeiter st h
section
variable{X:Cx}{tg:Expr}
def zcS{pins:PNx}{σ:St}{H:Hp}{s:ShX}{R:It->Hp->Prop}{E:VSx}{lo hi:Int}{t u v:Tok}{tk:Nat}(I:Inv X pins σ H s)(h1:-(2 ^ 62)<=lo)(h2:lo<2 ^ 62)(h3:-(2 ^ 62)<=hi)(h4:hi<2 ^ 62)(q:R (Itr lo (hi - lo).toNat) H):wpAny (model X.prog X.w) X.A (pyIter (.ref s.heap.objs.size)) (PIE X pins σ tg R) E { s with heap:=s.heap.push { cls:=.type "range",data:=.fields #[.int lo t,.int hi u,.int 1 v] },toks:=tk }:=by
 refine wpAny_pyIter_range (IsRange.new ..) (small_one h1 h2 h3 h4) ?_;have I1:Inv X pins σ H { s with heap:=s.heap.push { cls:=.type "range",data:=.fields #[.int lo t,.int hi u,.int 1 v] },toks:=tk }:=I.kept λb o e=>qj _ e
 refine⟨(s.heap.push { cls:=.type "range",data:=.fields #[.int lo t,.int hi u,.int 1 v] }).objs.size,[(s.heap.push { cls:=.type "range",data:=.fields #[.int lo t,.int hi u,.int 1 v] }).objs.size],_,_,H,rfl,
  I1.kept (t':=tk) λb o e=>qj _ e,zdP _ lo (hi - lo).toNat,?_,λb hb=>?_,q⟩
 ·have e1:lo+((0:Nat):Int)*1=lo:=by simp
  have e2:(((hi - lo).toNat:Nat):Int) - ((0:Nat):Int)=Builtin.Range.rangeSize lo hi 1:=by rw[rangeSize_one];split<;>omega
  show IsRangeIter _ _ (lo+((0:Nat):Int)*1) ((((hi - lo).toNat:Nat):Int) - ((0:Nat):Int)) 1
  rw[e1,e2];exact qI _ rfl
 ·have e:b=(s.heap.push { cls:=.type "range",data:=.fields #[.int lo t,.int hi u,.int 1 v] }).objs.size:=by simpa using hb
  subst e;exact I1.zbC (qk _) (I1.hok.fresh (qk _))
def zlO(ta:TA):TI:=λσ H R=>ta σ H λvs H1=>∃j:Int,vs=[.int j]/\-(2 ^ 62)<=j/\j<2 ^ 62/\R (Itr 0 j.toNat) H1
def zlY(ta:TA):TI:=λσ H R=>ta σ H λvs H1=>∃i j:Int,vs=[.int i,.int j]/\(-(2 ^ 62)<=i/\i<2 ^ 62/\-(2 ^ 62)<=j/\j<2 ^ 62)/\R (Itr i (j - i).toNat) H1
def zar{a:Expr}{ta:TA}{p pos:Pos}(hg:Gl X "range")(hm:X.mg "range"=none)(ha:PA X [a] ta)(hs:starEach [a] X.env=[(false,eval a X.env)]:=by rfl):PI X tg (.Call (.Name "range" p) [a] [] pos) (zlO ta):=by
 intro pins s σ H R I h;refine Call_ (Uw I hg hm boot_range (gh (thn (ha pos pins s σ H _ I h) λus s1 ⟨vs,H1,I1,r1,q1⟩=>?_) hs rfl));obtain⟨j,e,q1,q2,q⟩:=q1;subst e;cases r1 with
 |cons r rr=>
  cases rr;obtain⟨t,rfl⟩:=r;exact call_range_1 (zcS I1 (by omega) (by omega) q1 q2 (by simpa using q))
def zfE{a b:Expr}{ta:TA}{p pos:Pos}(hg:Gl X "range")(hm:X.mg "range"=none)(ha:PA X [a,b] ta)(hs:starEach [a,b] X.env=[(false,eval a X.env),(false,eval b X.env)]:=by rfl)(hs2:starEach [b] X.env=[(false,eval b X.env)]:=by rfl):PI X tg (.Call (.Name "range" p) [a,b] [] pos) (zlY ta):=by
 intro pins s σ H R I h;refine Call_ (Uw I hg hm boot_range (gh (thn (ha pos pins s σ H _ I h) λus s1 ⟨vs,H1,I1,r1,q1⟩=>?_) (by rw[hs,hs2]) (by rw[hs2];rfl)));obtain⟨i,j,e,⟨q1,q2,q3,q4⟩,q⟩:=q1;subst e;cases r1 with
 |cons r rr=>
  cases rr with
  |cons r' rr=>
   cases rr;obtain⟨t,rfl⟩:=r;obtain⟨t',rfl⟩:=r';exact call_range_2 (zcS I1 q1 q2 q3 q4 q)
def zmk(wi:TI)(g:TG)(tb:TS):TS:=λD σ H=>wi σ H λJ H1=>∃W:Nat->Nat->St->Hp->Prop,(∃m,W 0 m σ H1)/\∀i m σ H,W i m σ H->
 (J.stop i H/\D.nx σ H)\/(J.go i H/\∃N:St->Hp->Prop,(∀σ' H',N σ' H'->∃m',m'<m/\W (i+1) m' σ' H')/\∀x H',J.yld i H x H'->g x σ H' λσ2 H2=>tb { D with nx:=N,ct:=N,bk:=D.nx } σ2 H2)
def zaK(fp:LAd)(h:Heap):List (Addr×Obj):=fp.filterMap λb=>(h.get? b).map λo=>(b,o)
def jc{fp:LAd}{h:Heap}{b:AdX}{o:Obj}(hb:b∈fp)(e:h.get? b=some o):(b,o)∈zaK fp h:=List.mem_filterMap.mpr ⟨b,hb,by rw[e];rfl⟩
def zfK{fp:LAd}{h:Heap}{p:Addr×Obj}(hp:p∈zaK fp h):p.1∈fp/\h.get? p.1=some p.2:=by
 have⟨b,hb,e⟩:=List.mem_filterMap.mp hp;cases q:h.get? b with
 |none=>rw[q] at e;cases e
 |some o=>
  rw[q] at e;have e':(b,o)=p:=qZ e;subst e';exact⟨hb,q⟩
def Inv.pinned{pins:PNx}{σ:St}{H:Hp}{s:ShX}{fp:LAd}(I:Inv X pins σ H s)(hf:∀b∈fp,u0 X pins H b)(ho:∀b∈fp,∃o,s.heap.get? b=some o/\∀v,o.data≠ .cell v):Inv X (pins++zaK fp s.heap) σ H s:=I.zeq λp hp=>(qt.mp hp).elim (λz=>I.pin p (qP _ z)) λz=>by
  have⟨hb,e⟩:=zfK z;have⟨f0,f1,f2,_⟩:=hf p.1 hb;have⟨o,e',d⟩:=ho p.1 hb;rw[e] at e';cases e';exact⟨e,f0,f1,f2,d⟩
def Inv.uk{pins pl:PNx}{σ:St}{H:Hp}{s:ShX}(I:Inv X (pins++pl) σ H s):Inv X pins σ H s:=I.zeq λp hp=>I.pin p (qP _ (List.mem_append_left _ hp))
def zhj{iter:Expr}{body:List Stmt}{wi:TI}{g:TG}{tb:TS}{pos:Pos}(hp:PassesOwn (model X.prog X.w) X.A X.env X.xe)(hc:X.calm=true)(hi:PI X tg iter wi)(hg:PG X tg g)(hb:PSs X body tb)(hs:FSx X iter:=by exact λ_=>rfl):PS X (.For tg iter body [] pos) (zmk wi g tb):=by
 intro pins s σ H D I h;refine wpAny_For (thn (hi pins s σ H _ I h) λv s1 h1=>thn h1 λitv s2 h2=>?_) hs;have⟨it,fp,tn,J,H2,e,I2,T,st2,f2,W,⟨m0,w0⟩,turn⟩:=h2;subst e;have stat:∀{H':Hp},(∀b∈fp,H' b=none)->∀b∈fp,u0 X pins H' b:=λhn b hb=>⟨hn b hb,(f2 b hb).2⟩
 refine codeAny_forLoop_any (λn s'=>∃i σ' H',Inv X pins σ' H' s'/\tn i s'.heap/\(∀b∈fp,H' b=none)/\W i n σ' H') ?_ m0 ⟨0,σ,H2,I2,st2,λb hb=>(f2 b hb).1,w0⟩;rintro n s3 ⟨i,σ3,H3,I3,st3,fr3,w3⟩;rcases turn i n σ3 H3 w3 with⟨stop,qn⟩|⟨go,N,hN,step⟩
 ·refine gQ hp (thn (T.done X rfl rfl rfl hc i pins s3 σ3 H3 X.xe I3 (stat fr3) st3 stop) λr s4 ⟨hr,I4⟩=>?_);subst hr;exact nO ⟨σ3,H3,I4,qn⟩
 ·refine gQ hp (thn (T.item X rfl rfl rfl hc i pins s3 σ3 H3 X.xe I3 (stat fr3) st3 go) λr s4 ⟨u,hr,h4⟩=>?_);subst hr;refine gQ hp (thn h4 λ_ s5 ⟨x,H5,I5,r5,y5,st5,fr5⟩=>?_);have I5':=I5.pinned (stat fr5) (T.obj _ _ st5);refine gQ hp (thn (hg _ s5 σ3 H5 x u _ I5' r5 (step x H5 y5)) λ_ s6 ⟨σ6,H6,I6,q6⟩=>?_);refine gQ hp (thn (hb _ s6 σ6 H6 _ I6 q6) λf s7 q7=>?_);have again:∀{σ7:St} {H7:Hp},Inv X (pins++zaK fp s5.heap) σ7 H7 s7->N σ7 H7->∃m,m<n/\∃i σ' H',Inv X pins σ' H' s7/\tn i s7.heap/\(∀b∈fp,H' b=none)/\W i m σ' H':=λ{σ7 H7} I7 n7=>by
   have⟨m',hm,w7⟩:=hN σ7 H7 n7;refine⟨m',hm,i+1,σ7,H7,I7.uk,T.keep _ _ _ st5 λb hb o e=>(I7.pin (b,o) (qP _ (qP _ (jc hb e)))).1,λb hb=>?_,w7⟩;have⟨o,e,d⟩:=T.obj _ _ st5 b hb;exact(I7.pin (b,o) (qP _ (qP _ (jc hb e)))).2.1
  cases f with
  |next=>have⟨σ7,H7,I7,n7⟩:=q7;exact again I7 n7
  |cont=>have⟨σ7,H7,I7,n7⟩:=q7;exact again I7 n7
  |brk=>obtain⟨σ7,H7,I7,q7⟩:=q7;exact⟨σ7,H7,I7.uk,q7⟩
  |ret v=>obtain⟨x7,σ7,H7,I7,r7,q7⟩:=q7;exact⟨x7,σ7,H7,I7.uk,r7,q7⟩
end
abbrev R2:=V->V->Hp->VK->Prop
def OpR(X:Cx)(f:Value->Value->Sem Value)(r:R2):Prop:=∀(pins:PNx)(s:ShX)(σ:St)(H:Hp)(x y:V)(v u:Value)(Q:VK),Inv X pins σ H s->RelV x v->RelV y u->r x y H Q->
  wpAny (model X.prog X.w) X.A (f v u) (EP X pins σ Q) X.xe s
def UnR(X:Cx)(f:Value->Sem Value)(r:V->Hp->VK->Prop):Prop:=∀(pins:PNx)(s:ShX)(σ:St)(H:Hp)(x:V)(v:Value)(Q:VK),Inv X pins σ H s->RelV x v->r x H Q->
  wpAny (model X.prog X.w) X.A (f v) (EP X pins σ Q) X.xe s
def we(X:Cx)(f:Value)(r:List V->Hp->VK->Prop):Prop:=∀(pins:PNx)(s:ShX)(σ:St)(H:Hp)(xs:List V)(us:LVl)(Q:VK),Inv X pins σ H s->Vals xs us->r xs H Q->
  wpAny (model X.prog X.w) X.A (call f us) (EP X pins σ Q) X.xe s
def tOp(r:R2)(ta tb:TE):TE:=λσ H Q=>ta σ H λx H1=>tb σ H1 λy H2=>r x y H2 Q
def tUn(r:V->Hp->VK->Prop)(ta:TE):TE:=λσ H Q=>ta σ H λx H1=>r x H1 Q
def rI(C:Int->Int->Prop)(g:Int->Int->V):R2:=λx y H Q=>∃i j,x=.int i/\y=.int j/\C i j/\Q (g i j) H
def rI0(g:Int->Int->V):R2:=λx y H Q=>∃i j,x=.int i/\y=.int j/\Q (g i j) H
def rU(g:Int->V):V->Hp->VK->Prop:=λx H Q=>∃i,x=.int i/\Q (g i) H
section
variable{X:Cx}{a b c:Expr}{ta tb tc:TE}{pos:Pos}
def zkd(ha:PE X a ta)(hb:PE X b tb){pins:PNx}{s:ShX}{σ:St}{H:Hp}{R:V->V->Hp->Prop}(I:Inv X pins σ H s)(h:ta σ H λx H1=>tb σ H1 λy H2=>R x y H2){Q:VSx}{f:Value->Value->Sem Value}(hf:∀v u s2 x y H2,Inv X pins σ H2 s2->RelV x v->RelV y u->R x y H2->wpAny (model X.prog X.w) X.A (f v u) Q X.xe s2):wpAny (model X.prog X.w) X.A (eval a X.env) (λv s₁=>wpAny (model X.prog X.w) X.A (eval b X.env) (λu s₂=>wpAny (model X.prog X.w) X.A (f v u) Q X.xe s₂) X.xe s₁) X.xe s:=by
 refine thn (ha pins s σ H _ I h) λv s1 ⟨x,H1,I1,r1,q1⟩=>?_
 refine thn (hb pins s1 σ H1 _ I1 q1) λu s2 ⟨y,H2,I2,r2,q2⟩=>?_
 exact hf v u s2 x y H2 I2 r1 r2 q2
def zcm{op:Operator}{r:R2}(ho:OpR X (binaryOp op) r)(ha:PE X a ta)(hb:PE X b tb):PE X (.BinOp a op b pos) (tOp r ta tb):=by
 intro pins s σ H Q I h;exact wpAny_BinOp (zkd ha hb I h λv u s2 x y H2 I2 rx ry q=>ho pins s2 σ H2 x y v u Q I2 rx ry q)
def zlS{op:UnaryOp}{r:V->Hp->VK->Prop}(ho:UnR X (unaryOp op) r)(ha:PE X a ta):PE X (.UnaryOp op a pos) (tUn r ta):=by
 intro pins s σ H Q I h;exact UnaryOp_ (thn (ha pins s σ H _ I h) λv s1 ⟨x,H1,I1,r1,q1⟩=>ho pins s1 σ H1 x v Q I1 r1 q1)
def opI{f:Value->Value->Sem Value}{C:Int->Int->Prop}{g:Int->Int->Int}(rule:∀(i j:Int)(t u:Tok)(s:ShX)(Q:VSx)(E:VSx),C i j->Q (.int (g i j) s.toks) { s with toks:=s.toks+1 }->wpAny (model X.prog X.w) X.A (f (.int i t) (.int j u)) Q E s):OpR X f (rI C λi j=>.int (g i j)):=by
 intro pins s σ H x y v u Q I rx ry h;obtain⟨i,j,rfl,rfl,hc,q⟩:=h;obtain⟨t,rfl⟩:=rx;obtain⟨t',rfl⟩:=ry;exact rule i j t t' s _ _ hc ⟨.int (g i j),H,I.tok _,⟨_,rfl⟩,q⟩
def zmh{f:Value->Value->Sem Value}{g:Int->Int->Int}(rule:∀(i j:Int)(t u:Tok)(s:ShX)(Q:VSx)(E:VSx),Q (.int (g i j) s.toks) { s with toks:=s.toks+1 }->wpAny (model X.prog X.w) X.A (f (.int i t) (.int j u)) Q E s):OpR X f (rI0 λi j=>.int (g i j)):=by
 intro pins s σ H x y v u Q I rx ry h;obtain⟨i,j,rfl,rfl,q⟩:=h;obtain⟨t,rfl⟩:=rx;obtain⟨t',rfl⟩:=ry;exact rule i j t t' s _ _ ⟨.int (g i j),H,I.tok _,⟨_,rfl⟩,q⟩
def zlH{f:Value->Value->Sem Value}{g:Int->Int->Bool}(rule:∀(i j:Int)(t u:Tok)(s:ShX)(Q:VSx)(E:VSx),Q (.bool (g i j)) s->wpAny (model X.prog X.w) X.A (f (.int i t) (.int j u)) Q E s):OpR X f (rI0 λi j=>.bl (g i j)):=by
 intro pins s σ H x y v u Q I rx ry h;obtain⟨i,j,rfl,rfl,q⟩:=h;obtain⟨t,rfl⟩:=rx;obtain⟨t',rfl⟩:=ry;exact rule i j t t' s _ _ ⟨.bl (g i j),H,I,rfl,q⟩
def zlW(i j:Int):Prop:=0<=j/\j<=1000000/\i.natAbs<2 ^ 64
def xJ:OpR X (binaryOp .Add) (rI0 λi j=>.int (i+j)):=zmh λ_ _ _ _ _ _ _ q=>add_int q
def Ju:OpR X (binaryOp .Sub) (rI0 λi j=>.int (i - j)):=zmh λ_ _ _ _ _ _ _ q=>sub_int q
def yk:OpR X (binaryOp .Mod) (rI (λ_ j=>j≠0) λi j=>.int (i.fmod j)):=opI λ_ _ _ _ _ _ _ hc q=>mod_int' hc q
def zhG:OpR X (binaryOp .Pow) (rI zlW λi j=>.int (i ^ j.toNat)):=opI λ_ _ _ _ _ _ _ hc q=>pow_int_small hc.1 hc.2.1 hc.2.2 q
def unI{f:Value->Sem Value}{g:Int->Int}(rule:∀(i:Int)(t:Tok)(s:ShX)(Q:VSx)(E:VSx),Q (.int (g i) s.toks) { s with toks:=s.toks+1 }->wpAny (model X.prog X.w) X.A (f (.int i t)) Q E s):UnR X f (rU λi=>.int (g i)):=by
 intro pins s σ H x v Q I rx h;obtain⟨i,rfl,q⟩:=h;obtain⟨t,rfl⟩:=rx;exact rule i t s _ _ ⟨.int (g i),H,I.tok _,⟨_,rfl⟩,q⟩
def zjP:UnR X (unaryOp .USub) (rU λi=>.int (-i)):=unI λ_ _ _ _ _ q=>neg_int q
end
section
variable{X:Cx}{a b c:Expr}{ta tb tc:TE}{pos:Pos}
def zhs{pins:PNx}{σ:St}{H:Hp}{s:ShX}{Q:VK}{k k':Bool}(I:Inv X pins σ H s)(q:Q (.bl k) H)(e:k=k'):EP X pins σ Q (.bool k') s:=by
 subst e;exact⟨.bl k,H,I,rfl,q⟩
def Z7:OpR X (compareOp .Lt) (rI0 λi j=>.bl (decide (i<j))):=zlH λ_ _ _ _ _ _ _ q=>lt_int q
def Za:OpR X (compareOp .Gt) (rI0 λi j=>.bl (decide (j<i))):=zlH λ_ _ _ _ _ _ _ q=>gt_int q
def zk1:OpR X (compareOp .Is) (λx y H Q=>y=.non/\Q (.bl (decide (x=.non))) H):=by
 intro pins s σ H x y v u Q I rx ry h;obtain⟨rfl,q⟩:=h;cases ry;refine is_none_gen (zhs I q ?_);cases x<;>first
  |(cases rx;rfl)
  |(obtain⟨t,rfl⟩:=rx;rfl)
def W6:OpR X (compareOp .IsNot) (λx y H Q=>y=.non/\Q (.bl (!decide (x=.non))) H):=by
 intro pins s σ H x y v u Q I rx ry h;obtain⟨rfl,q⟩:=h;cases ry;refine isnot_none_gen (zhs I q ?_);cases x<;>first
  |(cases rx;rfl)
  |(obtain⟨t,rfl⟩:=rx;rfl)
def nomark(b:Expr){op:CmpOp}(h:op≠ .In:=by decide)(h2:op≠ .NotIn:=by decide):behindInMarks op b=false:=by
 have e1:(op==CmpOp.In)=false:=by cases op<;>first |rfl|exact absurd rfl h
 have e2:(op==CmpOp.NotIn)=false:=by cases op<;>first |rfl|exact absurd rfl h2
 cases b<;>simp[behindInMarks,e1,e2]
def zem{op:CmpOp}{r:R2}(ho:OpR X (compareOp op) r)(ha:PE X a ta)(hb:PE X b tb)(hm:behindInMarks op b=false):PE X (.Compare a [op] [b] pos) (tOp r ta tb):=by
 intro pins s σ H Q I h;exact wpAny_Compare1 (zkd ha hb I h λv u s2 x y H2 I2 rx ry q=>ho pins s2 σ H2 x y v u Q I2 rx ry q) hm
def zl7(t:TE):TT:=λσ H Q=>t σ H λx H'=>∃k,x=.bl k/\Q k H'
def zeW{op:CmpOp}{r:R2}(ho:OpR X (compareOp op) r)(ha:PE X a ta)(hb:PE X b tb)(hm:behindInMarks op b=false):PT X (.Compare a [op] [b] pos) (zl7 (tOp r ta tb)):=by
 intro pins s σ H Q I h;refine wpAny_isTrue_Compare1 (thn (ha pins s σ H _ I h) λv s1 ⟨x,H1,I1,r1,q1⟩=>thn (hb pins s1 σ H1 _ I1 q1) λu s2 ⟨y,H2,I2,r2,q2⟩=>
  thn (ho pins s2 σ H2 x y v u _ I2 r1 r2 q2) λc s3 ⟨z,H3,I3,r3,k,e,q3⟩=>?_) hm
 subst e;cases r3;exact mE ⟨H3,I3,q3⟩
def YD:(sizeLine:Nat)<2 ^ 63:=by rw[sizeLine_eq];decide
def vals1{x:V}{us:LVl}(r:Vals [x] us):∃u,us=[u]/\RelV x u:=by
 cases r with
 |cons r1 r2=>cases r2;exact⟨_,rfl,r1⟩
def vals2{x y:V}{us:LVl}(r:Vals [x,y] us):∃u w',us=[u,w']/\RelV x u/\RelV y w':=by
 cases r with
 |cons r1 r2=>
  cases r2 with
  |cons r3 r4=>cases r4;exact⟨_,_,rfl,r1,r3⟩
def zcz:we X (.builtin "abs") (λxs H Q=>∃i,xs=[.int i]/\Q (.int (if i<0 then -i else i)) H):=by
 intro pins s σ H xs us Q I r h;obtain⟨i,rfl,q⟩:=h;obtain⟨u,rfl,t,rfl⟩:=vals1 r;exact call_abs_int λu tk=>⟨.int (if i<0 then -i else i),H,I.tok _,⟨_,rfl⟩,q⟩
def Wi(hc:X.calm=true):we X (.builtin "max") (λxs H Q=>∃i j,xs=[.int i,.int j]/\Q (.int (if j>i then j else i)) H):=by
 intro pins s σ H xs us Q I r h;obtain⟨i,j,rfl,q⟩:=h;obtain⟨u,w',rfl,⟨t,rfl⟩,⟨t',rfl⟩⟩:=vals2 r;refine max_two_ints (I.ok.hd hc) λh' tk k=>⟨_,H,I.kept k,?_,q⟩
 by_cases hj:j>i
 ·rw[qg hj,qg hj];exact⟨_,rfl⟩
 ·rw[qm hj,qm hj];exact⟨_,rfl⟩
end
structure zdv(h:Heap)(x dx C:AdX)(mA:Str->Option Value):Prop where
 obj:h.get? x=some (W.instObj C dx)
 ns:h.Ns1 dx mA
 ne:dx≠x
def zfv{h:Heap}{dx:AdX}{mA:Str->Option Value}(n:h.Ns1 dx mA):∃od,h.get? dx=some od/\∀name,W.lookIn name od=some (mA name):=by
 have⟨o,es,ep,ho,hd,hk,_,hm⟩:=n;refine⟨o,ho,λname=>?_⟩;have e:=hm name;unfold nsFind findBy at e;rw[<-Array.find?_toList] at e;unfold W.lookIn;rw[hd];dsimp only;split
 ·rename_i y q;rw[q] at e;exact qG some e
 ·rename_i q;rw[q] at e;have a:es.toList.any (·.refKey)=false:=by
   rw[List.any_eq_false];intro y hy;obtain⟨z,t,hkey⟩:=hk y (Array.mem_toList_iff.mp hy);simp[DictEntry.refKey,hkey]
  have a':¬es.toList.any (·.refKey)=true:=by rw[a];exact qE
  rw[qm a'];exact qG some e
def zdv.look{h:Heap}{x dx C:AdX}{mA:Str->Option Value}(I:zdv h x dx C mA):∃od,W.InstAt h x (W.instObj C dx) C (some od)/\∀name,W.lookIn name od=some (mA name):=let ⟨od,ho,hl⟩:=zfv I.ns
 ⟨od,⟨I.obj,rfl,rfl,ho⟩,hl⟩
section
variable{prog:Program}{w:World}{A:Around}{E:VSx}{s:ShX}{K:FRx}{x dx C f:AdX}{mA:Str->Option Value}{name:Str}{v:Value}
def get_map{expr:Bool}{Q:VSx}(X:K.In s.heap)(I:zdv s.heap x dx C mA)(hg:W.plainGet K C name=true)(hh:W.hasDictIn K C=true)(ha:W.findIn K (.ref C) name=some none)(hv:mA name=some v)(hv':W.handedIn v=true)(h:Q v { s with toks:=s.toks+1 }):wpAny (model prog w) A (getAttr (.ref x) name expr) Q E s:=by
 have⟨od,J,hl⟩:=I.look;exact W.get_value X J (W.plainGet_of hg).1 (W.findObj_own hh ha rfl (by rw[hl,hv])) hv' h
def zhi{pl:Sem Bool}{Q:Value×List Value->Shared->Prop}(X:K.In s.heap)(I:zdv s.heap x dx C mA)(hg:W.plainGet K C name=true)(hf:W.findIn K (.ref C) name=some (some (.ref f)))(ht:W.isFn K (.ref f)=true)(hv:mA name=none)(h:Q (.ref f,[.ref x]) s):wpAny (model prog w) A (getMethod (.ref x) name pl) Q E s:=by
 have⟨od,J,hl⟩:=I.look;exact W.method_fn X J (W.plainGet_of hg).1 (W.plainGet_of hg).2 hf (kU.mp ht) (by show(W.lookIn name od).map (·.isSome)=some false;rw[hl,hv];rfl) h
def zir{ns:LSr}{Q:Unit->Shared->Prop}(X:K.In s.heap)(I:zdv s.heap x dx C mA)(hs:W.findIn K (.ref C) "__setattr__"=some (some (.builtin "object.__setattr__")))(hp:W.plainOver K C=true)(ht:W.takerIn K C name=some none)(hh:W.hasDictIn K C=true)(hw:PySem.Within mA ns)(hsz:ns.length<=sizeLine)(h:∀h',zdv h' x dx C (λy=>if y=name then some v else mA y)->Heap.SameBut dx s.heap h'->Q () { s with heap:=h',toks:=s.toks+2 }):wpAny (model prog w) A (setAttr (.ref x) name v) Q E s:=by
 have⟨od,J,hl⟩:=I.look;refine W.set_plain X J hs (W.osa_open (s:={ s with toks:=s.toks+1 }) (r:=none) X J hp ht λb=>?_);have⟨cd,hc,hd'⟩:=W.any_some hh;have hx:s.heap.get? x=some ⟨.ref C,some dx,.plain,#[]⟩:=I.obj;refine qq (qQ (qq (qq (wpAny_loadPart hx (qq (W.Looks.here (s:={ s with toks:=s.toks+1 }) (W.looks_clsIn X hc) ?_))))));rw[hd'];refine qQ (a:=some dx) (qq (qQ (qq ?_)));refine wpAny_nsSet1 (s:={ s with toks:=s.toks+1 }) I.ns λh' hn2 hs2=>?_
 obtain⟨oD,esD,epD,hoD,hdD,hcD⟩:=hn2.count (PySem.Within.cons name v hw);refine qq (wpAny_lookBehind hoD (by rw[hdD];exact pastItsLine_dict (qB hcD (by rw[qU];omega))) ?_);exact qQ (h _ ⟨(hs2.2 _ (gw I.ne)).trans I.obj,hn2,I.ne⟩ hs2)
def zhv{R:Result->Shared->Prop}{vs:LVl}{kw:List (Str×Value)}(X:K.In s.heap)(hm:W.makesIn K C=true)(hi:W.findIn K (.ref C) "__init__"=some (some (.ref f)))(hf:W.typeIn K (.ref f)=some (.type "function"))(h:codeAny (model prog w) (A.under (.builtin "type.__call__" ⟨.ref C::vs,kw⟩)) (.call (.ref f) ⟨.ref (s.heap.objs.size+1)::vs,kw⟩) (W.InitBack (s.heap.objs.size+1) R)
   { s with heap:=(s.heap.push W.emptyDict).push (W.instObj C s.heap.objs.size) }):codeAny (model prog w) A (.call (.ref C) ⟨vs,kw⟩) R s:=by
 have⟨hh,g,d,t,os⟩:=s;exact W.make_core (W.makes_of X hm) (W.looks_findIn X hi) (λself=>W.bind_fn X self hf) (.inl rfl) h
end
def Jd(f:Str)(v:V):List (Str×V)->List (Str×V)
 |[]=>[(f,v)]
 |(g,x)::r=>if g=f then (g,v)::r else (g,x)::Jd f v r
theorem WM(f g:Str)(v:V):∀fs:List (Str×V),(Jd f v fs).lookup g=if g=f then some v else fs.lookup g
 |[]=>by
  show List.lookup g [(f,v)]=_
  by_cases h:g=f
  ·have hb:(g==f)=true:=kU.mpr h;simp only [List.lookup,hb,qg h]
  ·have hb:(g==f)=false:=kv.mpr h;simp only [List.lookup,hb,qm h]
 |(k,x)::r=>by
  have ih:=WM f g v r;rw[show Jd f v ((k,x)::r)=(if k=f then (k,v)::r else (k,x)::Jd f v r) from rfl];by_cases hk:k=f
  ·rw[qg hk];by_cases h:g=k
   ·have hb:(g==k)=true:=kU.mpr h;simp only [List.lookup,hb,qg (h.trans hk)]
   ·have hb:(g==k)=false:=kv.mpr h;simp only [List.lookup,hb,qm (λe:g=f=>h (e.trans hk.symm))]
  ·rw[qm hk];by_cases h:g=k
   ·have hb:(g==k)=true:=kU.mpr h;simp only [List.lookup,hb,qm (λe:g=f=>hk (h.symm.trans e))]
   ·have hb:(g==k)=false:=kv.mpr h;simp only [List.lookup,hb];exact ih
theorem Wd(f:Str)(v:V):∀fs:List (Str×V),f∈(Jd f v fs).map (·.1)/\∀g,g∈fs.map (·.1)->g∈(Jd f v fs).map (·.1)
 |[]=>⟨by simp[Jd],λg h=>by simp at h⟩
 |(k,x)::r=>by
  have⟨i1,i2⟩:=Wd f v r;rw[show Jd f v ((k,x)::r)=(if k=f then (k,v)::r else (k,x)::Jd f v r) from rfl];by_cases hk:k=f
  ·rw[qg hk];subst hk;exact⟨by simp,λg h=>by simpa using h⟩
  ·rw[qm hk];refine⟨?_,λg h=>?_⟩
   ·rw[gp];exact qD _ i1
   ·rw[gp] at h ⊢;rcases qw.mp h with e|e
    ·exact List.mem_cons.mpr (.inl e)
    ·exact qD _ (i2 g e)
theorem WV(f:Str)(v:V):∀fs:List (Str×V),(Jd f v fs).length<=fs.length+1
 |[]=>by simp[Jd]
 |(k,x)::r=>by
  have ih:=WV f v r;rw[show Jd f v ((k,x)::r)=(if k=f then (k,v)::r else (k,x)::Jd f v r) from rfl];by_cases hk:k=f
  ·rw[qg hk,qU,qU];omega
  ·rw[qm hk,qU,qU];omega
def vO.some_of{v:V}{o:Option Value}(r:vO (some v) o):∃u,o=some u/\RelV v u:=by
 cases o with
 |none=>exact(show False from r).elim
 |some u=>exact⟨u,rfl,r⟩
def vO.none_of{o:Option Value}(r:vO none o):o=none:=by
 cases o with
 |none=>rfl
 |some u=>exact(show False from r).elim
def zfx{v:V}{u:Value}(r:RelV v u):W.handedIn u=true:=by
 cases v with
 |non=>cases (show u=Value.none from r);rfl
 |bl b=>cases (show u=Value.bool b from r);rfl
 |int i=>obtain⟨t,e⟩:=(show ∃t,u=Value.int i t from r);cases e;rfl
 |str x=>obtain⟨t,e⟩:=(show ∃t,u=Value.str x t from r);cases e;rfl
 |byt b=>obtain⟨t,e⟩:=(show ∃t,u=Value.bytes b t from r);cases e;rfl
 |flt b=>obtain⟨t,e⟩:=(show ∃t,u=Value.float b t from r);cases e;rfl
 |ref a=>cases (show u=Value.ref a from r);rfl
 |ty n=>cases (show u=Value.type n from r);rfl
section
variable{P:Program}{w:World}{H H':Hp}{h h':Heap}{a C dx:AdX}{fs fs':List (Str×V)}
def zbk(hok:HOk P w H h)(e:H a=some (.ins C dx fs)):∃mA,zdv h a dx C mA/\(∀f,vO (fs.lookup f) (mA f))/\PySem.Within mA (fs.map (·.1))/\fs.length<=1000/\H dx=some (.own a):=by
 obtain⟨d,z,ne,ob,mA,n,r,q⟩:=(show vB P w H h a (.ins C dx fs) from hok a _ e);exact⟨mA,⟨ob,n,ne⟩,r,q,z,d⟩
end
structure Cls(K:FRx)(C:AdX):Prop where
 pg:W.plainGet K C Str.empty=true
 hd:W.hasDictIn K C=true
 po:W.plainOver K C=true
 sa:W.findIn K (.ref C) "__setattr__"=some (some (.builtin "object.__setattr__"))
def Cls.get{K:FRx}{C:AdX}(c:Cls K C)(f:Str):W.plainGet K C f=true:=c.pg
def zS(K:FRx)(C:AdX)(f:Str):Prop:=W.findIn K (.ref C) f=some none
def zS.taker{K:FRx}{C:AdX}{f:Str}(n:zS K C f):W.takerIn K C f=some none:=by
 unfold W.takerIn;rw[show W.findIn K (.ref C) f=some none from n];rfl
structure Meth(K:FRx)(C:AdX)(m:Str)(f:AdX):Prop where
 at_:W.findIn K (.ref C) m=some (some (.ref f))
 fn:W.isFn K (.ref f)=true
 kp:W.keepIn K (.ref f)=true
section
variable{X:Cx}{pins:PNx}{σ:St}{H:Hp}{s:ShX}{a C dx:AdX}{fs:List (Str×V)}{f:Str}{v:V}{A:Around}{E:VSx}
def zeb{b:Bool}{Q:VSx}(I:Inv X pins σ H s)(e:H a=some (.ins C dx fs))(c:Cls X.K C)(n:zS X.K C f)(l:fs.lookup f=some v)(h:∀u s',Inv X pins σ H s'->RelV v u->Q u s'):wpAny (model X.prog X.w) A (getAttr (.ref a) f b) Q E s:=by
 have⟨mA,O,r,_,_,_⟩:=zbk I.hok e;obtain⟨u,hu,ru⟩:=vO.some_of (v:=v) (o:=mA f) (by rw[<-l];exact r f);exact get_map I.kIn O (c.get f) c.hd n hu (zfx ru) (h u _ (I.tok _) ru)
def Uy{m:Str}{g:AdX}{pl:Sem Bool}{Q:Value×List Value->Shared->Prop}(I:Inv X pins σ H s)(e:H a=some (.ins C dx fs))(c:Cls X.K C)(k:Meth X.K C m g)(l:fs.lookup m=none)(h:Q (.ref g,[.ref a]) s):wpAny (model X.prog X.w) A (getMethod (.ref a) m pl) Q E s:=by
 have⟨mA,O,r,_,_,_⟩:=zbk I.hok e;have hn:mA m=none:=vO.none_of (by rw[<-l];exact r m);exact zhi I.kIn O (c.get m) k.at_ k.fn hn h
def zdS{y:V}{u:Value}{Q:Unit->Shared->Prop}(I:Inv X pins σ H s)(e:H a=some (.ins C dx fs))(c:Cls X.K C)(n:zS X.K C f)(hl:fs.length<1000)(ry:RelV y u)(h:∀s',Inv X pins σ (upd H a (.ins C dx (Jd f y fs))) s'->Q () s'):wpAny (model X.prog X.w) A (setAttr (.ref a) f u) Q E s:=by
 have⟨mA,O,r,wi,_,ho⟩:=zbk I.hok e;have hz:(fs.map (·.1)).length<=sizeLine:=by rw[qe,sizeLine_eq];omega
 refine zir I.kIn O c.sa c.po n.taker c.hd wi hz λh' O' sb=>h _ ?_
 have hd:∃o,h'.get? dx=some o:=let ⟨o,_,_,e',_⟩:=O'.ns;⟨o,e'⟩
 refine I.write (x:=a) (e:=dx) (by rw[e];exact True.intro) (.inr ho) (λb q hb z=>(sb.2 b hb).trans z) hd ?_;refine⟨by rw[zR O.ne];exact ho,?_,O.ne,O'.obj,_,O'.ns,λg=>?_,λg hg=>?_⟩
 ·have:=WV f y fs;omega
 ·show vO ((Jd f y fs).lookup g) (if g=f then some u else mA g)
  rw[WM];by_cases q:g=f
  ·rw[qg q,qg q];exact ry
  ·rw[qm q,qm q];exact r g
 ·by_cases q:g=f
  ·rw[q];exact(Wd f y fs).1
  ·refine(Wd f y fs).2 g (wi g λz=>hg ?_);show(if g=f then some u else mA g)=none
   rw[qm q];exact z
def Inv.made(I:Inv X pins σ H s):Inv X pins σ (upd (upd H s.heap.objs.size (.own (s.heap.objs.size+1))) (s.heap.objs.size+1) (.ins C s.heap.objs.size []))
  { s with heap:=(s.heap.push W.emptyDict).push (W.instObj C s.heap.objs.size) }:=by
 have e1:(s.heap.push W.emptyDict).get? s.heap.objs.size=some W.emptyDict:=qI s.heap rfl;have e2:((s.heap.push W.emptyDict).push (W.instObj C s.heap.objs.size)).get? (s.heap.objs.size+1)=some (W.instObj C s.heap.objs.size):=by
  have:=qI (s.heap.push W.emptyDict) (o:=W.instObj C s.heap.objs.size) rfl;rwa [k6] at this
 have e3:(s.heap.push W.emptyDict).Ns s.heap.objs.size (λ_=>none):=⟨W.emptyDict,#[],_,e1,rfl,(λe he=>absurd he (by simp)),λ_=>rfl⟩;have I1:=I.laid (a:=s.heap.objs.size) (o:=.own (s.heap.objs.size+1)) (h':=s.heap.push W.emptyDict) (t':=s.toks) (λb u q=>qj _ q) (qk _) ⟨_,e1⟩
 refine I1.laid (a:=s.heap.objs.size+1) (o:=.ins C s.heap.objs.size []) (t':=s.toks) (λb u q=>qj _ q) (nt (k6 _ _)) ?_;have ne:s.heap.objs.size≠s.heap.objs.size+1:=kS (kA _);refine⟨by rw[zR ne,zL],kK _,ne,e2,λ_=>none,(Heap.Ns1.of_empty e3).at λo q=>qj _ q,λ_=>True.intro,λy hy=>absurd rfl hy⟩
def zje{prog:Program}{w:World}{env:Env}{e:Expr}{f:Str}{pos:Pos}{s:ShX}{Q:VSx}(hb:attributeBase e f env (eval e env)=eval e env)(h:wpAny (model prog w) A (eval e env) (λo s₁=>wpAny (model prog w) A (getAttr o f true) Q E s₁) E s):wpAny (model prog w) A (eval (.Attribute e f pos) env) Q E s:=Attribute_any_ h (by rw[arm_eval_Attribute,hb])
end
def zmC(K:FRx)(ta:TE)(f:Str):TE:=λσ H Q=>ta σ H λx H1=>∃a C dx fs v,x=.ref a/\H1 a=some (.ins C dx fs)/\Cls K C/\zS K C f/\fs.lookup f=some v/\Q v H1
def zmm(K:FRx)(ta tv:TE)(f:Str):TS:=λD σ H=>tv σ H λy H1=>ta σ H1 λx H2=>∃a C dx fs,x=.ref a/\H2 a=some (.ins C dx fs)/\Cls K C/\zS K C f/\fs.length<1000/\
 D.nx σ (upd H2 a (.ins C dx (Jd f y fs)))
section
variable{X:Cx}{o e value:Expr}{f:Str}{pos pos' tpos:Pos}{ta tv:TE}
def w6(he:PE X e ta)(hb:attributeBase e f X.env (eval e X.env)=eval e X.env):PE X (.Attribute e f pos) (zmC X.K ta f):=by
 intro pins s σ H Q I h;refine zje hb (thn (he pins s σ H _ I h) λu s1 ⟨x,H1,I1,rx,a,C,dx,fs,v,ex,ea,c,n,l,q⟩=>?_);subst ex;obtain rfl:u=Value.ref a:=rx;exact zeb I1 ea c n l λu' s2 I2 ru=>⟨v,H1,I2,ru,q⟩
def zbG(ha:PE X o ta)(hv:PE X value tv)(hs:swapsWith value (some (.Attribute o f pos')) pos.line X.env=pure false):PS X (.Assign [.Attribute o f pos'] value pos) (zmm X.K ta tv f):=by
 intro pins s σ H D I h;refine plainObj_wpAny_Assign_Attribute (thn (hv pins s σ H _ I h) λu s1 ⟨y,H1,I1,ry,q⟩=>thn (ha pins s1 σ H1 _ I1 q) λov s2 ⟨x,H2,I2,rx,a,C,dx,fs,ex,ea,c,n,l,q2⟩=>?_) hs;subst ex;obtain rfl:ov=Value.ref a:=rx;exact zdS I2 ea c n l ry λs3 I3=>⟨σ,_,I3,q2⟩
def zjM{pl:Sem Bool}{m:Str}{apos:Pos}{args:List Expr}{pins:PNx}{s:ShX}{σ:St}{H:Hp}{Q:VSx}{te:TE}(he:PE X e te)(I:Inv X pins σ H s)(h:te σ H λx H1=>∃a C dx fs g,x=.ref a/\H1 a=some (.ins C dx fs)/\Cls X.K C/\Meth X.K C m g/\fs.lookup m=none/\
   ∀s1,Inv X pins σ H1 s1->wpAny (model X.prog X.w) X.A (callWith pos (.ref g) [.ref a] (backTo pos (starEach args X.env)) (backToKw pos (keywordEach [] X.env))) Q X.xe s1)(ht:eval (.Call (.Attribute e m apos) args [] pos) X.env=(do
   let ov <-eval e X.env
   standAt apos.atName
   let (f,first) <-holding [ov] (getMethod ov m pl)
   callWith pos f first (backTo pos (starEach args X.env)) (backToKw pos (keywordEach [] X.env)))):wpAny (model X.prog X.w) X.A (eval (.Call (.Attribute e m apos) args [] pos) X.env) Q X.xe s:=by
 refine W.methodCall_KW (pl:=pl) (thn (he pins s σ H _ I h) λu s1 ⟨x,H1,I1,rx,a,C,dx,fs,g,ex,ea,c,k,l,q⟩=>?_) ht;subst ex;obtain rfl:u=Value.ref a:=rx;exact Uy I1 ea c k l (q s1 I1)
end
structure Room(k:Nat)(A:Around):Prop where
 hd:A.handled=none
 dp:A.depth+3*k+5<recursionLimit
 un:A.units+16*k+200<cLine
def Room.mono{j k:Nat}{A:Around}(r:Room k A)(h:j<=k):Room j A:=⟨r.hd,by have:=r.dp;omega,by have:=r.un;omega⟩
def Room.deeper{k:Nat}{A:Around}(r:Room (k+1) A)(env:Env):Room k (A.deeper env):=⟨r.hd,by have:=r.dp;show A.depth+1+3*k+5<_;omega,by have:=r.un;show A.units+3+16*k+200<_;omega⟩
def zd6{A:Around}{C:AdX}{us:LVl}{kw:List (Str×Value)}:(A.under (.builtin "type.__call__" ⟨.ref C::us,kw⟩)).depth=A.depth+1:=by
 first |rfl|simp[Around.under,Code.weight,Code.isCreation,Code.isGuard,Code.isCaller,Code.frames,Code.isFrame,guardIds]
def zdG{A:Around}{C:AdX}{us:LVl}{kw:List (Str×Value)}:(A.under (.builtin "type.__call__" ⟨.ref C::us,kw⟩)).units=A.units+1:=by
 first |rfl|simp[Around.under,Code.cUnits,Code.frames,Code.isFrame]
def Room.make{k:Nat}{A:Around}(r:Room (k+1) A)(C:AdX)(us:LVl)(kw:List (Str×Value)):Room k (A.under (.builtin "type.__call__" ⟨.ref C::us,kw⟩)):=⟨r.hd,by have:=r.dp;rw[zd6];omega,by have:=r.un;rw[zdG];omega⟩
def Room.depth{k:Nat}{A:Around}(r:Room k A):A.depth<recursionLimit:=by have:=r.dp;omega
def Room.units{k:Nat}{A:Around}(r:Room k A):A.units+64<cLine:=by have:=r.un;omega
def zlA:TA:=λ_ H Q=>Q [] H
def zme(ta:TE)(tr:TA):TA:=λσ H Q=>ta σ H λx H1=>tr σ H1 λxs H2=>Q (x::xs) H2
section
variable{X:Cx}{e:Expr}{es:List Expr}{te:TE}{t:TA}{pos:Pos}
def jf:PA X [] zlA:=λ_ _ _ _ H Q I h=>Calls.spliced_nil ⟨[],H,I,.nil,h⟩
def xn(ha:PE X e te)(hr:PA X es t)(hs:SEx X e es:=by rfl):PA X (e::es) (zme te t):=by
 intro pos pins s σ H Q I h;rw[hs];show wpAny _ _ (spliced ((false,eval e X.env)::backTo pos (starEach es X.env))) _ _ s
 refine Calls.spliced_cons (thn (ha pins s σ H _ I h) λu s1 ⟨x,H1,I1,r1,q1⟩=>?_);exact thn (hr pos pins s1 σ H1 _ I1 q1) λus s2 ⟨xs,H2,I2,r2,q2⟩=>⟨x::xs,H2,I2,.cons r1 r2,q2⟩
def zmx(t:TA):TE:=λσ H Q=>t σ H λxs H1=>xs.length<=sizeLine/\∀p,H1 p=none->Q (.ref p) (upd H1 p (.tup xs))
def zmz(t:TA):TE:=λσ H Q=>t σ H λxs H1=>xs.length<=sizeLine/\∀p,H1 p=none->Q (.ref p) (upd H1 p (.lst xs))
def zdd{x1}(h:PA X es t):PE X (.Tuple es x1 pos) (zmx t):=by
 intro pins s σ H Q I hq;refine wpAny_Tuple_spliced (thn (h pos pins s σ H _ I hq) λus s1 ⟨xs,H1,I1,r,z,q⟩=>⟨by rw[<-r.length];exact z,?_⟩);have hf:H1 s1.heap.objs.size=none:=I1.hok.fresh (qk _);refine⟨.ref s1.heap.objs.size,upd H1 s1.heap.objs.size (.tup xs),I1.laid (t':=s1.toks) (λb u e=>qj _ e) (qk _) ?_,rfl,q _ hf⟩;exact⟨z,us,r,⟨_,qI _ rfl,rfl,_,rfl⟩⟩
def zjW(h:PA X es t):PE X (.List es pos) (zmz t):=by
 intro pins s σ H Q I hq;refine wpAny_List_spliced (thn (h pos pins s σ H _ I hq) λus s1 ⟨xs,H1,I1,r,z,q⟩=>⟨by rw[<-r.length];exact z,?_⟩);have hf:H1 s1.heap.objs.size=none:=I1.hok.fresh (qk _);refine⟨.ref s1.heap.objs.size,upd H1 s1.heap.objs.size (.lst xs),I1.laid (t':=s1.toks) (λb u e=>qj _ e) (qk _) ?_,rfl,q _ hf⟩;exact⟨z,us,0,r,qI _ rfl⟩
end
abbrev Sp:=List V->Hp->VK->XK->Prop
abbrev CXT:=List Env->Hp->Shared->XK->Value->Shared->Prop
structure zds(P:Program)(w:World)(K:FRx)(mg:Str->Option Value)(base:Heap)(A:Around)(outer:List Env)(s:ShX)(H:Hp):Prop where
 frames:A.frames=some outer
 mod:Mod K mg base
 bs:∀b o,base.get? b=some o->s.heap.get? b=some o/\H b=none
 bsz:base.objs.size<=s.heap.objs.size
 funs:s.heap.FunFrames base outer
 frf:∀b∈frs outer,H b=none
 hok:HOk P w H s.heap
 bare:AllBare s.gens
def CE(outer:List Env)(P:Program)(w:World)(H:Hp)(s:ShX)(Q:VK)(u:Value)(s':ShX):Prop:=∃v H',s'.os=s.os/\AllBare s'.gens/\Un (frs outer) [] H H' s.heap s'.heap/\HOk P w H' s'.heap/\RelV v u/\Q v H'
def CR(CX:CXT)(outer:List Env)(P:Program)(w:World)(H:Hp)(s:ShX)(Q:VK)(E:XK)(r:Result)(s':ShX):Prop:=match r with
 | .ok (.ret u)=>CE outer P w H s Q u s'
 | .ok _=>False
 | .error e=>CX outer H s E e s'
structure wy(P:Program)(w:World)(K:FRx)(mg:Str->Option Value)(base:Heap)(CX:CXT)(k:Nat)(f:AdX)(fd:FuncData)(ps:LSr)(sp:Sp):Prop where
 len:∀vs H Q E,sp vs H Q E->vs.length=ps.length
 run:∀(A:Around)(outer:List Env)(s:ShX)(H:Hp)(args:Args)(us:LVl)(vs:List V)(Q:VK)(E:XK),Room k A->zds P w K mg base A outer s H->BindsTo s fd args (ps.zip us)->Vals vs us->sp vs H Q E->
  codeAny (model P w) A (.call (.ref f) args) (CR CX outer P w H s Q E) s
def wy.imp{P:Program}{w:World}{K:FRx}{mg:Str->Option Value}{base:Heap}{CX:CXT}{k:Nat}{f:AdX}{fd:FuncData}{ps:LSr}{sp sp':Sp}(F:wy P w K mg base CX k f fd ps sp)(h:∀vs H Q E,sp' vs H Q E->sp vs H Q E):wy P w K mg base CX k f fd ps sp':=⟨λvs H Q E q=>F.len vs H Q E (h _ _ _ _ q),λA outer s H args us vs Q E hr he hb hv hs=>F.run A outer s H args us vs Q E hr he hb hv (h _ _ _ _ hs)⟩
def zds.make{P:Program}{w:World}{K:FRx}{mg:Str->Option Value}{base:Heap}{A:Around}{outer:List Env}{s:ShX}{H:Hp}(e:zds P w K mg base A outer s H)(C:AdX)(us:LVl)(kw:List (Str×Value)):zds P w K mg base (A.under (.builtin "type.__call__" ⟨.ref C::us,kw⟩)) outer s H:=⟨by first |exact e.frames|(simpa [Around.under,Code.envs,Code.isFrame,pushEnvs] using e.frames),e.mod,e.bs,e.bsz,e.funs,e.frf,e.hok,e.bare⟩
section
variable{X:Cx}{pins:PNx}{σ:St}{H:Hp}{s s':ShX}
def Inv.zlz(I:Inv X pins σ H s):zds X.prog X.w X.K X.mg X.base X.A X.stack s H:=⟨I.ok.frames,I.ok.mod,I.bs,qB I.ok.bsz I.sz,I.stack,I.zeS,I.hok,I.bare⟩
def Inv.after{Q:VK}{u:Value}(I:Inv X pins σ H s)(h:CE X.stack X.prog X.w H s Q u s'):EP X pins σ Q u s':=by
 have⟨v,H',os,bare,un,hok,r,q⟩:=h;have⟨hh,g,d,t,os'⟩:=s';obtain rfl:os'=s.os:=os;exact⟨v,H',I.call (h':=hh) (g':=g) (d':=d) (t':=t) (ch:=[]) un hok bare (λb z=>absurd z (by simp)),r,q⟩
end
def zjK(sp:Sp)(dvs:List V)(E:XK)(t:TA):TE:=λσ H Q=>t σ H λvs H1=>sp (vs++dvs) H1 Q E
def zjJ(C:AdX)(m:Str)(sp:Sp)(dvs:List V)(E:XK)(ta:TE)(t:TA):TE:=λσ H Q=>ta σ H λx H1=>∃a dx fs,x=.ref a/\H1 a=some (.ins C dx fs)/\fs.lookup m=none/\
 t σ H1 λvs H2=>sp (x::(vs++dvs)) H2 Q E
def zlC(C:AdX)(sp:Sp)(dvs:List V)(E:XK)(t:TA):TE:=λσ H Q=>t σ H λvs H1=>∀x dx,H1 x=none->H1 dx=none->dx≠x->
 sp (.ref x::(vs++dvs)) (upd (upd H1 dx (.own x)) x (.ins C dx [])) (λv H2=>v=.non/\Q (.ref x) H2) E
def Binds(K:FRx)(fd:FuncData)(ps:LSr)(ds:LVl):Prop:=∀(s:ShX)(us:LVl),K.In s.heap->(us++ds).length=ps.length->BindsTo s fd ⟨us,[]⟩ (ps.zip (us++ds))
def Binds.all{K:FRx}{fd:FuncData}{ps:LSr}(h:∀us:List Value,us.length=ps.length->bindArgs fd ⟨us,[]⟩=pure (ps.zip us)):Binds K fd ps []:=λs us _ hl=>by
 rw[kf] at hl ⊢;exact .of_eq (h us hl)
def Passes(CX:CXT)(X:Cx)(E:XK):Prop:=∀(pins:PNx)(σ:St)(H:Hp)(s:ShX)(e:Value)(s':ShX),Inv X pins σ H s->CX X.stack H s E e s'->X.xe e s'
section
variable{X:Cx}{CX:CXT}{k:Nat}{f C:AdX}{fd:FuncData}{ps:LSr}{sp:Sp}{dvs:List V}{ds:LVl}{E:XK}{x m:Str}{p pos apos:Pos}{e o:Expr}{es:List Expr}{ta:TE}{t:TA}
def zdQ{pins:PNx}{σ:St}{H:Hp}{s:ShX}{Q:VK}{us:LVl}{vs:List V}(F:wy X.prog X.w X.K X.mg X.base CX k f fd ps sp)(hr:Room k X.A)(hb:Binds X.K fd ps ds)(hd:Vals dvs ds)(hx:Passes CX X E)(I:Inv X pins σ H s)(r:Vals vs us)(h:sp (vs++dvs) H Q E):wpAny (model X.prog X.w) X.A (call (.ref f) us) (EP X pins σ Q) X.xe s:=by
 have r2:Vals (vs++dvs) (us++ds):=r.append hd;have hl:(us++ds).length=ps.length:=by rw[<-r2.length];exact F.len _ _ _ _ h
 refine wpAny_call (pN (F.run X.A X.stack s H ⟨us,[]⟩ (us++ds) (vs++dvs) Q E hr I.zlz (hb s us I.kIn hl) r2 h) λr s' hq=>?_);cases r with
 |error e=>exact hx pins σ H s e s' I hq
 |ok fl=>
  cases fl with
  |ret u=>exact I.after hq
  |next=>exact False.elim hq
  |brk=>exact False.elim hq
  |cont=>exact False.elim hq
def zh8(F:wy X.prog X.w X.K X.mg X.base CX k f fd ps sp)(hr:Room k X.A)(hg:Gl X x)(hm:X.mg x=some (.ref f))(hk:W.keepIn X.K (.ref f)=true)(hb:Binds X.K fd ps ds)(hd:Vals dvs ds)(hx:Passes CX X E)(ha:PA X (e::es) t)(hdb:NDx x:=by decide)(he:SEx X e es:=by rfl)(hpl:PLx X pos es:=by rfl):PE X (.Call (.Name x p) (e::es) [] pos) (zjK sp dvs E t):=by
 intro pins s σ H Q I h;refine nc (zbv I hg hm ?_ hdb);refine W.callWith_K (h₀:=X.base) I.ok.mod.kin hk (thn (ha pos pins s σ H _ I h) λus s1 ⟨vs,H1,I1,r,q⟩=>⟨I1.kIn,?_⟩) he hpl;exact zdQ F hr hb hd hx I1 r q
def zeU{pl:Sem Bool}(he:PE X o ta)(c:Cls X.K C)(hm:Meth X.K C m f)(F:wy X.prog X.w X.K X.mg X.base CX k f fd ps sp)(hr:Room k X.A)(hb:Binds X.K fd ps ds)(hd:Vals dvs ds)(hx:Passes CX X E)(ha:PA X (e::es) t)(hst:SEx X e es:=by rfl)(hpl:PLx X pos es:=by rfl)(ht:eval (.Call (.Attribute o m apos) (e::es) [] pos) X.env=(do
   let ov <-eval o X.env
   standAt apos.atName
   let (f,first) <-holding [ov] (getMethod ov m pl)
   callWith pos f first (backTo pos (starEach (e::es) X.env)) (backToKw pos (keywordEach [] X.env))):=by rfl):PE X (.Call (.Attribute o m apos) (e::es) [] pos) (zjJ C m sp dvs E ta t):=by
 intro pins s σ H Q I h;refine W.methodCall_KW (pl:=pl) (thn (he pins s σ H _ I h) λu s1 ⟨x,H1,I1,rx,a,dx,fs,ex,ea,l,q⟩=>?_) ht;subst ex;obtain rfl:u=Value.ref a:=rx;refine Uy I1 ea c hm l ?_;refine W.callWith_K (first:=[.ref a]) (h₀:=X.base) I.ok.mod.kin hm.kp (thn (ha pos pins s1 σ H1 _ I1 q) λus s2 ⟨vs,H2,I2,r,q2⟩=>⟨I2.kIn,?_⟩) hst hpl;exact zdQ (us:=.ref a::us) (vs:=.ref a::vs) F hr hb hd hx I2 (.cons rfl r) q2
def zbO{pl:Sem Bool}(he:PE X o ta)(c:Cls X.K C)(hm:Meth X.K C m f)(F:wy X.prog X.w X.K X.mg X.base CX k f fd ps sp)(hr:Room k X.A)(hb:Binds X.K fd ps ds)(hd:Vals dvs ds)(hx:Passes CX X E)(ht:eval (.Call (.Attribute o m apos) [] [] pos) X.env=(do
   let ov <-eval o X.env
   standAt apos.atName
   let (f,first) <-holding [ov] (getMethod ov m pl)
   callWith pos f first (backTo pos (starEach [] X.env)) (backToKw pos (keywordEach [] X.env))):=by rfl):PE X (.Call (.Attribute o m apos) [] [] pos) (zjJ C m sp dvs E ta zlA):=by
 intro pins s σ H Q I h;refine W.methodCall_KW (pl:=pl) (thn (he pins s σ H _ I h) λu s1 ⟨x,H1,I1,rx,a,dx,fs,ex,ea,l,q⟩=>?_) ht;subst ex;obtain rfl:u=Value.ref a:=rx;refine Uy I1 ea c hm l ?_;exact W.callWith_K0 (first:=[.ref a]) I1.kIn hm.kp (zdQ (us:=[.ref a]) (vs:=[.ref a]) F hr hb hd hx I1 (.cons rfl .nil) q)
structure Mk(K:FRx)(C f:AdX):Prop where
 makes:W.makesIn K C=true
 init:W.findIn K (.ref C) "__init__"=some (some (.ref f))
 fn:W.isFn K (.ref f)=true
 kp:W.keepIn K (.ref C)=true
def zg7{pins:PNx}{σ:St}{H:Hp}{s:ShX}{Q:VK}{us:LVl}{vs:List V}(M:Mk X.K C f)(F:wy X.prog X.w X.K X.mg X.base CX k f fd ps sp)(hr:Room (k+1) X.A)(hb:Binds X.K fd ps ds)(hd:Vals dvs ds)(hx:Passes CX X E)(I:Inv X pins σ H s)(r:Vals vs us)(h:∀x dx,H x=none->H dx=none->dx≠x->sp (.ref x::(vs++dvs)) (upd (upd H dx (.own x)) x (.ins C dx [])) (λv H2=>v=.non/\Q (.ref x) H2) E):wpAny (model X.prog X.w) X.A (call (.ref C) us) (EP X pins σ Q) X.xe s:=by
 have hq:=h (s.heap.objs.size+1) s.heap.objs.size (I.hok.fresh (nI _)) (I.hok.fresh (qk _)) (kS (kA _));have I2:=Inv.made (C:=C) I
 have r2:Vals (V.ref (s.heap.objs.size+1)::(vs++dvs)) (Value.ref (s.heap.objs.size+1)::(us++ds)):=.cons rfl (r.append hd);have hl:(Value.ref (s.heap.objs.size+1)::us++ds).length=ps.length:=by
  have e:=r2.length;rw[F.len _ _ _ _ hq] at e;exact e.symm
 refine wpAny_call (zhv (f:=f) I.kIn M.makes M.init (kU.mp M.fn) (pN (F.run _ X.stack _ _ ⟨Value.ref (s.heap.objs.size+1)::us,[]⟩ (Value.ref (s.heap.objs.size+1)::(us++ds)) _ _ E (hr.make C us [])
  (I2.zlz.make C us []) (hb _ (Value.ref (s.heap.objs.size+1)::us) I2.kIn hl) r2 hq) λr s' hq'=>?_))
 cases r with
 |error e=>exact hx pins σ _ _ e s' I2 hq'
 |ok fl=>
  cases fl with
  |ret u=>
   have⟨v,H',I3,rv,ev,q3⟩:=I2.after hq';subst ev;exact⟨rv,⟨V.ref (s.heap.objs.size+1),H',I3,rfl,q3⟩⟩
  |next=>exact False.elim hq'
  |brk=>exact False.elim hq'
  |cont=>exact False.elim hq'
def ziS(M:Mk X.K C f)(F:wy X.prog X.w X.K X.mg X.base CX k f fd ps sp)(hr:Room (k+1) X.A)(hg:Gl X x)(hm:X.mg x=some (.ref C))(hb:Binds X.K fd ps ds)(hd:Vals dvs ds)(hx:Passes CX X E)(ha:PA X (e::es) t)(hdb:NDx x:=by decide)(he:SEx X e es:=by rfl)(hpl:PLx X pos es:=by rfl):PE X (.Call (.Name x p) (e::es) [] pos) (zlC C sp dvs E t):=by
 intro pins s σ H Q I h;refine nc (zbv I hg hm ?_ hdb);refine W.callWith_K (h₀:=X.base) I.ok.mod.kin M.kp (thn (ha pos pins s σ H _ I h) λus s1 ⟨vs,H1,I1,r,q⟩=>⟨I1.kIn,?_⟩) he hpl;exact zg7 M F hr hb hd hx I1 r q
end
structure zx(N P:LSr)(sc:Scope):Prop where
 kind:sc.kind=.function
 co:sc.isCoroutine=false
 gen:sc.isGenerator=false
 nd:N.Nodup
 pre:N.take P.length=P
 par:∀x∈P,sc.names.lookup x=some .local\/sc.names.lookup x=some .cell
 nofree:∀y∈sc.names,y.2≠ .free
def scx{N P:LSr}{sc:Scope}(a:sc.kind=.function:=by rfl)(c:sc.isCoroutine=false:=by rfl)(g:sc.isGenerator=false:=by rfl)(p:N.take P.length=P:=by rfl)(h:N.Nodup/\(∀x∈P,sc.names.lookup x=some .local\/sc.names.lookup x=some .cell)/\∀y∈sc.names,y.2≠ .free:=by decide+kernel):zx N P sc:=⟨a,c,g,h.1,p,h.2.1,h.2.2⟩
theorem zaH{kindOf:Str->Option NameKind}{x:Str}:∀{binds:List (Str×Value)} {m:Str->Option Value},(∀v,(x,v)∉binds)->bindL kindOf binds m x=m x
 |[],_,_=>rfl
 |(n,v)::r,m,h=>by
  unfold bindL;rw[zaH λw hw=>h w (qD _ hw)];split
  ·have:x≠n:=by rintro rfl;exact h v ki
   simp[this]
  ·rfl
theorem zaw{kindOf:Str->Option NameKind}{x:Str}:∀{binds:List (Str×Value)} {m:Str->Option Value},(∀v,(x,v)∉binds)->bindC kindOf binds m x=m x
 |[],_,_=>rfl
 |(n,v)::r,m,h=>by
  unfold bindC;rw[zaw λw hw=>h w (qD _ hw)];split
  ·rfl
  ·have:x≠n:=by rintro rfl;exact h v ki
   simp[this]
theorem zac{kindOf:Str->Option NameKind}{x:Str}{v:Value}:∀{P:LSr} {vs:LVl} {i:Nat} {m:Str->Option Value},P.Nodup->P[i]?=some x->vs[i]?=some v->kindOf x=some .local->
  bindL kindOf (P.zip vs) m x=some v
 |[],_,_,_,_,h,_,_=>by simp at h
 |_::_,[],_,_,_,_,h,_=>by simp at h
 |p::P,w::vs,0,m,nd,h1,h2,hk=>by
  simp at h1 h2;subst h1;subst h2
  show bindL kindOf ((p,w)::P.zip vs) m p=_
  unfold bindL;rw[zaH λv hv=>(ky.mp nd).1 (pH hv).1,qg hk];simp
 |p::P,w::vs,i+1,m,nd,h1,h2,hk=>by
  show bindL kindOf ((p,w)::P.zip vs) m x=_
  unfold bindL;exact zac (i:=i) (ky.mp nd).2 (by simpa using h1) (by simpa using h2) hk
theorem zau{kindOf:Str->Option NameKind}{x:Str}{v:Value}:∀{P:LSr} {vs:LVl} {i:Nat} {m:Str->Option Value},P.Nodup->P[i]?=some x->vs[i]?=some v->kindOf x≠some .local->
  bindC kindOf (P.zip vs) m x=some v
 |[],_,_,_,_,h,_,_=>by simp at h
 |_::_,[],_,_,_,_,h,_=>by simp at h
 |p::P,w::vs,0,m,nd,h1,h2,hk=>by
  simp at h1 h2;subst h1;subst h2
  show bindC kindOf ((p,w)::P.zip vs) m p=_
  unfold bindC;rw[zaw λv hv=>(ky.mp nd).1 (pH hv).1,qm hk];simp
 |p::P,w::vs,i+1,m,nd,h1,h2,hk=>by
  show bindC kindOf ((p,w)::P.zip vs) m x=_
  unfold bindC;exact zau (i:=i) (ky.mp nd).2 (by simpa using h1) (by simpa using h2) hk
def start(N:LSr)(vs:List V):St:=vs.map some++List.replicate (N.length - vs.length) none
def Wj(CX:CXT)(P:Program)(w:World)(K:FRx)(mg:Str->Option Value)(base:Heap)(N:LSr)(qual:Str)(scope:Scope)(f:AdX)(cd:Value)(A:Around)(outer:List Env)(s:ShX)(H:Hp)(E:XK):Cx where
 prog:=P
 w:=w
 K:=K
 mg:=mg
 base:=base
 A:=A.deeper (envOfC qual scope s.heap.objs.size f cd)
 N:=N
 s₀:=s
 H₀:=H
 env:=envOfC qual scope s.heap.objs.size f cd
 outer:=outer
 stack:=envOfC qual scope s.heap.objs.size f cd::outer
 ex:=[]
 calm:=true
 fn:=λ_=>true
 pn:=[]
 xe:=λe s'=>wpAny (model P w) (A.deeper (envOfC qual scope s.heap.objs.size f cd)) (leaving (envOfC qual scope s.heap.objs.size f cd) e) (λ_ s''=>CX outer H s E e s'') (λe' s''=>CX outer H s E e' s'') s'
def zcg{sc:Scope}{n:Nat}{x:Str}(h:sc.names.lookup x=some .cell):∃c,(cellsFrom n sc.names []).lookup x=some c:=by
 have q:=W.cellsFrom_some sc.names n [] (.inl h);exact Option.isSome_iff_exists.mp q
def zfg{CX:CXT}{P:Program}{w:World}{K:FRx}{mg:Str->Option Value}{base:Heap}{N ps:LSr}{qual:Str}{scope:Scope}{f:AdX}{cd:Value}{A:Around}{outer:List Env}{s s1:ShX}{H:Hp}{E:XK}{us:LVl}{vs:List V}(S:zx N ps scope)(hd:A.handled=none)(e0:zds P w K mg base A outer s H)(hl:vs.length=ps.length)(r:Vals vs us)(x:InCallC s s.heap.objs.size (bindL (envOfC qual scope s.heap.objs.size f cd).kindOf (ps.zip us) λ_=>none) (cellsFrom (s.heap.objs.size+1) scope.names []) (bindC (envOfC qual scope s.heap.objs.size f cd).kindOf (ps.zip us) λ_=>none) s1):Inv (Wj CX P w K mg base N qual scope f cd A outer s H E) [] (start N vs) H s1:=by
 have hpl:ps.length<=N.length:=by have:=qG List.length S.pre;rw[kB] at this;omega
 obtain⟨h1,tk,rfl,hk⟩:=x.done;have noA:∀b:Addr,b∉(Wj CX P w K mg base N qual scope f cd A outer s H E).ex:=λb z=>absurd (show b∈([]:LAd) from z) (by simp)
 refine⟨⟨e0.mod,S.kind,rfl,rfl,qk _,λy z c h1 h2=>?_,λy hy=>?_,λy c _ h=>?_,λ_=>hd,Around.frames_deeper e0.frames,.inr ⟨rfl,rfl⟩,λb z=>absurd z (noA b),e0.bs,e0.bsz,λb _ _=>noA b,λb z=>absurd z (noA b),e0.funs,e0.frf⟩,
  rfl,e0.bare,Un.kept hk,⟨_,x.toInCall.ns,λi y v h1 h2 h3=>?_⟩,λy c h=>⟨_,x.cell y c h⟩,e0.hok.fresh (qk _),λy c h=>?_,λp hp=>absurd (show p∈([]:PNx) from hp) (by simp),e0.hok.kept hk,?_⟩
 ·exact name_of_addr x.apart (kx h1) (kx h2)
 ·have hy:scope.names.lookup y=some .cell\/scope.names.lookup y=some .free:=hy;rcases hy with hy|hy
  ·exact zcg hy
  ·exact absurd rfl (S.nofree _ (kx hy))
 ·exact mV (x.above y c (kx h))
 ·have hi:i<vs.length:=by
   unfold start at h2;by_cases hi:i<vs.length
   ·exact hi
   ·rw[qz (by simpa using hi)] at h2;rw[kJ] at h2;split at h2<;>cases h2
  have ha:vs[i]?=some v:=by
   unfold start at h2;rw[qT (by simpa using hi),qp] at h2;cases e:vs[i]? with
   |none=>rw[e] at h2;cases h2
   |some a=>rw[e] at h2;cases h2;rfl
  have⟨u,hu,rv⟩:=r.get ha;have hp:ps[i]?=some y:=by
   rw[<-S.pre,List.getElem?_take_of_lt (by omega)];exact h1
  have ndP:ps.Nodup:=by rw[<-S.pre];exact S.nd.sublist (List.take_sublist _ _)
  refine⟨u,rv,?_⟩;rcases S.par y (qH hp) with k|k
  ·exact .inl ⟨k,zac ndP hp hu k⟩
  ·obtain⟨c,e⟩:=zcg (n:=s.heap.objs.size+1) k;refine .inr ⟨.inl k,c,e,?_⟩;have q:=x.cell y c e;rw[zau ndP hp hu (by show scope.names.lookup y≠_;rw[k];decide)] at q;exact q
 ·exact e0.hok.fresh (mV (x.above y c (kx h)))
 ·unfold start;show _=N.length
  rw[qx,qe,mB];omega
def zl5{CX:CXT}{P:Program}{w:World}{K:FRx}{mg:Str->Option Value}{base:Heap}{k:Nat}{f:AdX}{name qual:Str}{params:Arguments}{body:List Stmt}{scope:Scope}{dV kV doc pm cdv ct oc:Value}{an od:Option Addr}{osl:Array (Option Value)}{N ps:LSr}{sp:Sp}(lk:K.lookup f=some ⟨oc,od,.func (W.fnOf name qual params body scope dV kV doc pm an cdv ct),osl⟩)(hcd:W.codeIn K cdv qual=true)(S:zx N ps scope)(len:∀vs H Q E,sp vs H Q E->vs.length=ps.length)(hbody:∀(A:Around)(outer:List Env)(s:ShX)(H:Hp)(vs:List V)(Q:VK)(E:XK),Room k (A.deeper (envOfC qual scope s.heap.objs.size f cdv))->sp vs H Q E->
   ∃t,PSs (Wj CX P w K mg base N qual scope f cdv A outer s H E) body t/\t { nx:=λ_ H'=>Q .non H',rt:=Q } (start N vs) H):wy P w K mg base CX (k+1) f (W.fnOf name qual params body scope dV kV doc pm an cdv ct) ps sp:=by
 refine⟨len,λA outer s H args us vs Q E hr e0 hb r hsp=>?_⟩;have hl:=len _ _ _ _ hsp;have KX:K.In s.heap:=e0.mod.kin.keeps λb o e=>(e0.bs b o e).1
 have lim:s.heap.NoLimit:=e0.mod.nolimit.keeps λb o e=>(e0.bs b o e).1
 have hkind:∀y∈ps.zip us,scope.names.lookup y.1=some .local\/(scope.names.lookup y.1=some .cell/\((cellsFrom (s.heap.objs.size+1) scope.names []).lookup y.1).isSome=true):=λ⟨n,v⟩ hy=>by
  rcases S.par n (pH hy).1 with q|q
  ·exact .inl q
  ·exact .inr ⟨q,W.cellsFrom_some _ _ _ (.inl q)⟩
 refine codeAny_call_function hr.depth (KX _ _ lk) rfl S.co S.gen rfl (W.codeRec_of KX hcd) (hb _ _ _ _ ?_);refine wpAny_newFunctionEnv_cells S.kind hkind λenv he s1 x=>?_
 subst he;refine⟨lim.keeps x.toInCall.keep,codeAny_func ?_⟩;obtain⟨t,ht,hq⟩:=hbody A outer s H vs Q E (hr.deeper _) hsp;have I:Inv (Wj CX P w K mg base N qual scope f cdv A outer s H E) [] (start N vs) H s1:=zfg S hr.hd e0 hl r x;refine k5 (ht [] s1 (start N vs) H _ I hq) (λfl s' hs=>?_) λe s' hs=>hs
 have fin:∀{σ':St} {H':Hp} {v:V} {u:Value},Inv (Wj CX P w K mg base N qual scope f cdv A outer s H E) [] σ' H' s'->RelV v u->Q v H'->CE outer P w H s Q u s':=λ{σ' H' v u} J rv q=>⟨v,H',J.os,J.bare,J.base,J.hok,rv,q⟩
 cases fl with
 |ret u=>
  have⟨v,σ',H',J,rv,q⟩:=hs;exact fin J rv q
 |next=>
  have⟨σ',H',J,q⟩:=hs;exact fin (v:=V.non) (u:=Value.none) J rfl q
 |brk=>
  have⟨_,_,_,q⟩:=hs;exact False.elim q
 |cont=>
  have⟨_,_,_,q⟩:=hs;exact False.elim q
section
variable{X:Cx}{x:Str}{p pos:Pos}{e:Expr}{es:List Expr}{t:TA}{id T:String}{r:List V->Hp->VK->Prop}
def tCB(r:List V->Hp->VK->Prop)(t:TA):TE:=λσ H Q=>t σ H λvs H1=>r vs H1 Q
def Yi(hc:we X (.builtin id) r)(hg:Gl X x)(hm:X.mg x=none)(hv:bootBuiltins x=some (.builtin id))(ha:PA X (e::es) t)(hn:x≠"__name__":=by decide)(hdb:NDx x:=by decide)(he:SEx X e es:=by rfl)(hpl:PLx X pos es:=by rfl):PE X (.Call (.Name x p) (e::es) [] pos) (tCB r t):=by
 intro pins s σ H Q I h;refine nc (Uw I hg hm hv ?_ hn hdb);exact PyProof.Rows.callWith_builtin1 (thn (ha pos pins s σ H _ I h) λus s1 ⟨vs,H1,I1,r1,q1⟩=>hc pins s1 σ H1 vs us Q I1 r1 q1) he hpl
def JU(hc:we X (.type T) r)(hg:Gl X x)(hm:X.mg x=none)(hv:bootBuiltins x=some (.type T))(ha:PA X (e::es) t)(hn:x≠"__name__":=by decide)(hdb:NDx x:=by decide)(he:SEx X e es:=by rfl)(hpl:PLx X pos es:=by rfl):PE X (.Call (.Name x p) (e::es) [] pos) (tCB r t):=by
 intro pins s σ H Q I h;refine nc (Uw I hg hm hv ?_ hn hdb);exact gh (thn (ha pos pins s σ H _ I h) λus s1 ⟨vs,H1,I1,r1,q1⟩=>hc pins s1 σ H1 vs us Q I1 r1 q1) he hpl
end
end L2
namespace HT
open PySem PyProof.Rows
section
open PySem.SeqAt
open PySem.AutoSeq1 (wpAny_loadPart')
open PySem.MeetsSeq PySem.MeetsSeq2 PySem.MeetsSeq3
end
section
variable{prog:Program}{w:World}{A:Around}{E:VSx}{s:ShX}
def zjh{t b:AdX}{vs ws:LVl}{Q:VSx}(ht:IsTup s.heap t vs.toArray)(hb:IsTup s.heap b ws.toArray)(hv:vs≠[])(h1:ws=[]->Q (.ref t) s)(h2:ws≠[]->Q (.ref s.heap.objs.size) { s with heap:=s.heap.push { cls:=.type "tuple",data:=.seq (vs++ws).toArray } })(hsz:vs.length+ws.length<=sizeLine):wpAny (model prog w) A (binaryOp .Add (.ref t) (.ref b)) Q E s:=by
 have⟨⟨cls,dd,data,sl⟩,ho,hc,n,hd⟩:=id ht;have⟨⟨cls2,dd2,data2,sl2⟩,ho2,hc2,n2,hd2⟩:=id hb;simp only at hc hd hc2 hd2;subst hc hd hc2 hd2;have e:vs.toArray++ws.toArray=(vs++ws).toArray:=by simp
 by_cases hw:ws=[]
 ·exact pM ⟨_,ho,rfl⟩ ⟨_,ho2,rfl⟩ pU seq_tuple_add nr ni (m8 _ _)
   (tuple_addW1 t b vs.toArray ws.toArray n n2 dd dd2 sl sl2 (by simpa using hv) (by simp[hw])) ⟨ho,ho2,h1 hw⟩
 ·refine pM ⟨_,ho,rfl⟩ ⟨_,ho2,rfl⟩ pU seq_tuple_add nr ni (m8 _ _)
   (tuple_addW2 t b vs.toArray ws.toArray n n2 dd dd2 sl sl2 (by simpa using hv) (by simpa using hw) (by rw[qA,qA];exact hsz)) ⟨ho,ho2,?_⟩
  rw[e];exact h2 hw
def sIx(n d:Nat):Option Int->Nat
 |none=>d
 |some v=>if v<0 then (v+(n:Int)).toNat else min v.toNat n
def zf8(n d:Nat):sIx n d none=d:=rfl
def za9(n d k:Nat):sIx n d (some (k:Int))=min k n:=by
 show(if (k:Int)<0 then ((k:Int)+(n:Int)).toNat else min (k:Int).toNat n)=min k n
 rw[qm (by omega),kq]
end
end HT
namespace L2
open PySem PySem.Spec PyProof.Rows
abbrev TO:=St->Hp->(Option Int->Hp->Prop)->Prop
def PO(X:Cx)(e:Option Expr)(t:TO):Prop:=∀(pins:PNx)(s:ShX)(σ:St)(H:Hp)(Q:Option Int->Hp->Prop),Inv X pins σ H s->t σ H Q->
  wpAny (model X.prog X.w) X.A (evalPart e X.env) (λu s'=>∃o H',Inv X pins σ H' s'/\IsPart u o/\Q o H') X.xe s
def ziO:TO:=λ_ H Q=>Q none H
def zlQ(t:TE):TO:=λσ H Q=>t σ H λx H1=>∃i,x=.int i/\Q (some i) H1
def intsAre_of{ns:List Int}:∀{us:LVl},Vals (ns.map V.int) us->IntsAre us ns:=by
 induction ns with
 |nil=>intro us r;rw[List.map_nil] at r;cases r;exact .nil
 |cons n ns ih=>
  intro us r;rw[gp] at r;cases r with
  |cons r1 r2=>
   have⟨t,e⟩:=r1;subst e;exact .cons n t (ih r2)
section
variable{X:Cx}{e:Expr}{te:TE}{lo hi:Option Expr}{tl th:TO}{pos p2:Pos}
def zi6:PO X none ziO:=by
 intro pins s σ H Q I h;rw[evalPart_none];exact qQ ⟨none,H,I,.none,h⟩
def zh5(h:PE X e te):PO X (some e) (zlQ te):=by
 intro pins s σ H Q I hw;rw[evalPart_some];refine thn (h pins s σ H _ I hw) λu s1 ⟨x,H1,I1,r1,q1⟩=>?_
 obtain⟨i,rfl,q⟩:=q1;obtain⟨t,rfl⟩:=r1;exact⟨some i,H1,I1,.int i t,q⟩
def SlR(X:Cx)(r:V->Option Int->Option Int->Hp->VK->Prop):Prop:=∀(pins:PNx)(s:ShX)(σ:St)(H:Hp)(x:V)(v vl vu:Value)(lo hi:Option Int)(sl:AdX)(Q:VK),Inv X pins σ H s->RelV x v->s.heap.IsSliceOf sl vl vu .none->IsPart vl lo->IsPart vu hi->r x lo hi H Q->
  ∃T id,typeLookup (.type T) "__getitem__"=pure (some (.builtin id))/\s.TypeIs v T/\wpAny (model X.prog X.w) X.A (getItem v (.ref sl)) (EP X pins σ Q) X.xe s
def tSl(r:V->Option Int->Option Int->Hp->VK->Prop)(te:TE)(tl th:TO):TE:=λσ H Q=>te σ H λx H1=>tl σ H1 λl H2=>th σ H2 λu H3=>r x l u H3 Q
def zc7{r:V->Option Int->Option Int->Hp->VK->Prop}(hr:SlR X r)(he:PE X e te)(hl:PO X lo tl)(hu:PO X hi th):PE X (.Subscript e (.Slice lo hi none p2) pos) (tSl r te tl th):=by
 intro pins s σ H Q I h;refine Subscript_ (thn (he pins s σ H _ I h) λv s1 ⟨x,H1,I1,r1,q1⟩=>?_);refine wpAny_Slice (thn (hl pins s1 σ H1 _ I1 q1) λvl s2 ⟨l,H2,I2,pl,q2⟩=>thn (hu pins s2 σ H2 _ I2 q2) λvu s3 ⟨u,H3,I3,pu,q3⟩=>?_);rw[evalPart_none];refine qQ ?_;have I4:Inv X pins σ H3 { s3 with heap:=s3.heap.push { cls:=.type "slice",data:=.fields #[vl,vu,.none] } }:=I3.kept (t':=s3.toks) λb ob q=>qj _ q
 obtain⟨T,id,hT,ht,hg⟩:=hr pins { s3 with heap:=s3.heap.push { cls:=.type "slice",data:=.fields #[vl,vu,.none] } } σ H3 x v vl vu l u s3.heap.objs.size Q I4 r1 (Heap.IsSliceOf.new ..) pl pu q3;show wpAny (model X.prog X.w) X.A (subscriptTail e (.Slice lo hi none p2) v (.ref s3.heap.objs.size)) (EP X pins σ Q) X.xe { s3 with heap:=s3.heap.push { cls:=.type "slice",data:=.fields #[vl,vu,.none] } }
 exact tail_any (ops:=[.ref s3.heap.objs.size,v]) ht hT hg (by with_unfolding_all rfl)
def zfn(xs:List V)(lo hi:Option Int):List V:=(xs.drop (HT.sIx xs.length 0 lo)).take (HT.sIx xs.length xs.length hi - HT.sIx xs.length 0 lo)
def zcI(xs:List V)(lo hi:Option Int):(zfn xs lo hi).length<=xs.length:=by
 unfold zfn;rw[kB,mC];omega
def Vals.W5{xs:List V}{us:LVl}(r:Vals xs us):us=[]↔xs=[]:=by
 cases r with
 |nil=>simp
 |cons _ _=>simp
end
def ixN(n:Nat)(i:Int):Option Nat:=if 0<=i then (if i<n then some i.toNat else none) else if -(n:Int)<=i then some (i+n).toNat else none
def atI{α:Type}(xs:List α)(i:Int):Option α:=(ixN xs.length i).bind λj=>xs[j]?
def zep{n:Nat}{i:Int}{j:Nat}(h:ixN n i=some j):seqIndex? i n=some j/\j<n/\-(n:Int)<=i/\i<n:=by
 unfold ixN at h;by_cases h0:0<=i
 ·rw[qg h0] at h;by_cases h1:i<n
  ·rw[qg h1] at h;have e:i.toNat=j:=qZ h;exact⟨by rw[seqIndex_of h0 h1,e],by omega,by omega,h1⟩
  ·rw[qm h1] at h;cases h
 ·rw[qm h0] at h;by_cases h1:-(n:Int)<=i
  ·rw[qg h1] at h;have e:(i+n).toNat=j:=qZ h;exact⟨by rw[seqIndex_neg (by omega) h1,e],by omega,h1,by omega⟩
  ·rw[qm h1] at h;cases h
def ze3{α:Type}{xs:List α}{i:Int}{v:α}(h:atI xs i=some v):∃j,seqIndex? i xs.length=some j/\xs[j]?=some v/\j<xs.length/\-(xs.length:Int)<=i/\i<xs.length:=by
 unfold atI at h;cases e:ixN xs.length i with
 |none=>rw[e] at h;cases h
 |some j=>
  rw[e] at h;have⟨h1,h2,h3,h4⟩:=zep e;exact⟨j,h1,h,h2,h3,h4⟩
def UZ{α:Type}{xs:List α}{j:Nat}{v:α}(h:xs[j]?=some v):atI xs (j:Int)=some v:=by
 have hj:j<xs.length:=(qf.mp h).1;have e:ixN xs.length (j:Int)=some j:=by
  unfold ixN;rw[qg (by omega),qg (by omega)];simp
 unfold atI;rw[e];exact h
def zbL(b:Expr):Prop:=∀o i,subscripted b false o i=operate [o,i] (getItem o i)
def IxR(X:Cx)(r:R2):Prop:=∀(value slice:Expr)(pins:PNx)(s:ShX)(σ:St)(H:Hp)(x y:V)(v u:Value)(Q:VK),Inv X pins σ H s->RelV x v->RelV y u->r x y H Q->
  subscripted slice false v u=operate [v,u] (getItem v u)->wpAny (model X.prog X.w) X.A (subscriptTail value slice v u) (EP X pins σ Q) X.xe s
def MtR(X:Cx)(id:String)(r:V->List V->Hp->VK->Prop):Prop:=∀(pins:PNx)(s:ShX)(σ:St)(H:Hp)(x:V)(xs:List V)(v:Value)(us:LVl)(Q:VK),Inv X pins σ H s->RelV x v->Vals xs us->r x xs H Q->
  wpAny (model X.prog X.w) X.A (call (.builtin id) (v::us)) (EP X pins σ Q) X.xe s
section
variable{X:Cx}{a b:Expr}{ta tb:TE}{pos:Pos}
def IxR.or{r r':R2}(h:IxR X r)(h':IxR X r'):IxR X (λx y H Q=>r x y H Q\/r' x y H Q):=by
 intro value slice pins s σ H x y v u Q I rx ry q hs;rcases q with q|q
 ·exact h value slice pins s σ H x y v u Q I rx ry q hs
 ·exact h' value slice pins s σ H x y v u Q I rx ry q hs
def zjD{r:R2}(hr:IxR X r)(ha:PE X a ta)(hb:PE X b tb)(hs:zbL b):PE X (.Subscript a b pos) (tOp r ta tb):=by
 intro pins s σ H Q I h;exact Subscript_ (zkd ha hb I h λv u s2 x y H2 I2 rx ry q=>hr a b pins s2 σ H2 x y v u Q I2 rx ry q (hs _ _))
def zlI(K:FRx):R2:=λx y H Q=>∃p xs i v,x=.ref p/\y=.int i/\SqL K H p xs/\atI xs i=some v/\Q v H
def zlD(K:FRx):R2:=λx y H Q=>∃p xs i v,x=.ref p/\y=.int i/\SqT K H p xs/\atI xs i=some v/\Q v H
def zih:IxR X (zlI X.K):=by
 intro value slice pins s σ H x y v u Q I rx ry h hs;obtain⟨p,xs,i,z,rfl,rfl,hq,he,q⟩:=h;cases rx;obtain⟨t,rfl⟩:=ry;have⟨its,r,pl,hz⟩:=I.list hq;have⟨j,h1,h2,h3,h4,h5⟩:=ze3 he;have⟨w,ew,rw'⟩:=r.get h2;have hl:=r.length;have hn:=YD
 have fin:EP X pins σ Q w s:=⟨z,H,I,rw',q⟩;by_cases h0:0<=i
 ·have hj:i.toNat=j:=by
   rw[seqIndex_of h0 h5] at h1;exact qZ h1
  exact item_listR pl.isList h0 (by omega) (by rw[hj];simpa using ew) fin hs
 ·have hj:(i+(its.toArray.size:Int)).toNat=j:=by
   rw[seqIndex_neg (by omega) h4] at h1;rw[qA,<-hl];exact qZ h1
  exact subscriptTail_builtinR (x:=w) pl.isList.typeIs slot_list_getitem.lookup
   (wpAny_getItem_list_neg (Q:=λr s'=>r=w/\EP X pins σ Q r s') pl.isList (by omega) (by rw[qA]<;>omega) (by omega) (by rw[hj];simpa using ew) ⟨rfl,fin⟩) hs
def zjZ:IxR X (zlD X.K):=by
 intro value slice pins s σ H x y v u Q I rx ry h hs;obtain⟨p,xs,i,z,rfl,rfl,hq,he,q⟩:=h;cases rx;obtain⟨t,rfl⟩:=ry;have⟨its,r,pl,hz⟩:=I.tuple hq;have⟨j,h1,h2,h3,h4,h5⟩:=ze3 he;have⟨w,ew,rw'⟩:=r.get h2;have hl:=r.length;have hn:=YD
 have fin:EP X pins σ Q w s:=⟨z,H,I,rw',q⟩;exact subscriptTail_builtinR (x:=w) pl.typeIs slot_tuple_getitem.lookup
  (getItem_tuple (j:=j) (Q:=λr s'=>r=w/\EP X pins σ Q r s') pl (by omega) (by omega) (by rw[qA,<-hl];exact h1) (by simpa using ew) ⟨rfl,fin⟩) hs
def zdr(its:LVl)(n j:Nat)(u:Value):Obj.mapSeq (·.setIfInBounds j u) { cls:=.type "list",data:=.seq its.toArray n }={ cls:=.type "list",data:=.seq (its.set j u).toArray n }:=by
 simp[Obj.mapSeq]
def Inv.lst{pins:PNx}{σ:St}{H:Hp}{s:ShX}{p:AdX}{xs:List V}(I:Inv X pins σ H s)(h:H p=some (.lst xs)):∃(its:LVl)(n:Nat),Vals xs its/\s.heap.get? p=some { cls:=.type "list",data:=.seq its.toArray n }/\xs.length<=sizeLine:=by
 have⟨z,its,n,r,e⟩:=I.hok p _ h;exact⟨its,n,r,e,z⟩
def Inv.zk6{pins:PNx}{σ:St}{H:Hp}{s:ShX}{p:AdX}{xs ys:List V}{its its':LVl}{n n':Nat}{f:Obj->Obj}(I:Inv X pins σ H s)(h:H p=some (.lst xs))(ho:s.heap.get? p=some { cls:=.type "list",data:=.seq its.toArray n })(hf:f { cls:=.type "list",data:=.seq its.toArray n }={ cls:=.type "list",data:=.seq its'.toArray n' })(r:Vals ys its')(hz:ys.length<=sizeLine)(t:Nat):Inv X pins σ (upd H p (.lst ys)) { s with heap:=s.heap.update p f,toks:=t }:=by
 have e:(s.heap.update p f).get? p=some { cls:=.type "list",data:=.seq its'.toArray n' }:=by
  rw[Heap.get?_update_self f ho (by rw[hf]<;>rfl),hf]
 refine I.write (x:=p) (e:=p) (by rw[h];trivial) (.inl rfl) (λb u hb q=>(Heap.get?_update_other _ _ (gw hb)).trans q) ⟨_,e⟩ ?_;exact⟨hz,its',n',r,e⟩
def zma:V->V->V->Hp->(Hp->Prop)->Prop:=λo i v H Q=>∃p xs k j,o=.ref p/\i=.int k/\H p=some (.lst xs)/\ixN xs.length k=some j/\Q (upd H p (.lst (xs.set j v)))
def set_list:zlB X zma:=by
 intro pins s σ H o i v ov iv u Q I ro ri rv h;obtain⟨p,xs,k,j,rfl,rfl,hp,hj,q⟩:=h;cases ro;obtain⟨t,rfl⟩:=ri;have⟨its,n,r,ho,hz⟩:=I.lst hp;have⟨h1,h2,h3,h4⟩:=zep hj;have hl:=r.length;have hn:=YD
 have I':Inv X pins σ (upd H p (.lst (xs.set j v))) { s with heap:=s.heap.update p (Obj.mapSeq (·.setIfInBounds j u)) }:=I.zk6 hp ho (zdr its n j u) (r.set rv j) (by rw[kT];exact hz) s.toks;by_cases h0:0<=k
 ·have hk:k.toNat=j:=by
   rw[seqIndex_of h0 h4] at h1;exact qZ h1
  exact W.ki_setAt ho h0 (by omega) (by rw[qA,<-hl];exact h4) (by rw[hk];exact⟨_,I',q⟩)
 ·have hk:(k+(its.toArray.size:Int)).toNat=j:=by
   rw[seqIndex_neg (by omega) h3] at h1;rw[qA,<-hl];exact qZ h1
  exact W.ki_setBack ho (by omega) (by rw[qA,<-hl];exact h3) (by omega) (by rw[hk];exact⟨_,I',q⟩)
def za6(lo hi:Option Int)(n:Nat):(sliceBounds lo hi none n).1=((HT.sIx n 0 lo:Nat):Int)/\(sliceBounds lo hi none n).2.1=((HT.sIx n n hi:Nat):Int)/\(sliceBounds lo hi none n).2.2=1:=by
 refine⟨?_,?_,rfl⟩
 ·cases lo with
  |none=>simp[sliceBounds,HT.sIx]
  |some i=>
   simp only [sliceBounds,HT.sIx,Option.getD_none,show(1:Int)>0 by decide,nY];by_cases h:i<0
   ·simp only [h,nY]<;>omega
   ·simp only [h,if_false]<;>omega
 ·cases hi with
  |none=>simp[sliceBounds,HT.sIx]
  |some i=>
   simp only [sliceBounds,HT.sIx,Option.getD_none,show(1:Int)>0 by decide,nY];by_cases h:i<0
   ·simp only [h,nY]<;>omega
   ·simp only [h,if_false]<;>omega
def ZT(its:LVl)(lo hi:Option Int):slicePick its.toArray lo hi none=((its.drop (HT.sIx its.length 0 lo)).take (HT.sIx its.length its.length hi - HT.sIx its.length 0 lo)).toArray:=by
 have⟨h1,h2,h3⟩:=za6 lo hi its.toArray.size;unfold slicePick;rw[h1,h2,h3];simp only [sliceRange_one,pick_run,qA]<;>rfl
def zmr(K:FRx):V->Option Int->Option Int->Hp->VK->Prop:=λx lo hi H Q=>∃a xs,x=.ref a/\SqL K H a xs/\∀p,H p=none->Q (.ref p) (upd H p (.lst (zfn xs lo hi)))
def zek:SlR X (zmr X.K):=by
 intro pins s σ H x v vl vu lo hi sl Q I rx hs pl pu h;obtain⟨a,xs,rfl,hx,q⟩:=h;cases rx;have⟨its,r,ht,hz⟩:=I.list hx;have hlen:=r.length;refine⟨"list",_,slot_list_getitem.lookup,ht.isList.typeIs,?_⟩;refine wpAny_getItem_list_slice ht.isList hs pl pu .none (by simp) ?_ (by rw[qA]<;>omega);rw[ZT,<-hlen];refine⟨.ref s.heap.objs.size,_,I.laid (t':=s.toks) (o:=.lst (zfn xs lo hi)) (λb ob q=>qj _ q) (qk _) ?_,rfl,q _ (I.hok.fresh (qk _))⟩;exact⟨qB (zcI xs lo hi) hz,_,0,(r.drop (HT.sIx xs.length 0 lo)).take (HT.sIx xs.length xs.length hi - HT.sIx xs.length 0 lo),qI _ rfl⟩
def zv:we X (.builtin "len") (λxs H Q=>∃p ys,xs=[.ref p]/\(SqL X.K H p ys\/SqT X.K H p ys)/\Q (.int ys.length) H):=by
 intro pins s σ H xs us Q I r h;obtain⟨p,ys,rfl,hq,q⟩:=h;obtain⟨u,rfl,rx⟩:=vals1 r;cases rx;have hn:=YD;rcases hq with hq|hq
 ·have⟨its,r',pl,hz⟩:=I.list hq;have hlen:=r'.length;exact Calls.call_len_list pl.isList (by simp only [qA]<;>omega) ⟨.int ys.length,H,I.tok _,⟨s.toks+1,by rw[qA,hlen]⟩,q⟩
 ·have⟨its,r',pl,hz⟩:=I.tuple hq;have hlen:=r'.length;exact len_tuple pl (by simp only [qA]<;>omega) ⟨.int ys.length,H,I.tok _,⟨s.toks+1,by rw[qA,hlen]⟩,q⟩
def xB:we X (.type "list") (λxs H Q=>∃p ys,xs=[.ref p]/\(SqL X.K H p ys\/SqT X.K H p ys)/\∀l,H l=none->Q (.ref l) (upd H l (.lst ys))):=by
 intro pins s σ H xs us Q I r h;obtain⟨p,ys,rfl,hq,q⟩:=h;obtain⟨u,rfl,rx⟩:=vals1 r;cases rx;have fin:∀(its:LVl),Vals ys its->ys.length<=sizeLine->∀(h':Heap)(c':Nat),(∀b o',s.heap.get? b=some o'->h'.get? b=some o')->
   h'.get? s.heap.objs.size=some { cls:=.type "list",dict:=none,data:=.seq its.toArray c',slots:=#[] }->EP X pins σ Q (.ref s.heap.objs.size) { s with heap:=h' }:=λits r' hz h' c' kp e=>
  ⟨.ref s.heap.objs.size,_,I.laid (t':=s.toks) kp (qk _) (show vB X.prog X.w _ h' _ (.lst ys) from⟨hz,its,c',r',e⟩),rfl,q _ (I.hok.fresh (qk _))⟩
 rcases hq with hq|hq
 ·have⟨its,r',pl,hz⟩:=I.list hq;have hlen:=r'.length;have⟨o,ho,hc,n,hd⟩:=pl.isList
  exact call_list_seq p (.inl rfl) ho hc hd (λh' c' kp e=>fin its r' hz h' c' kp e) (by simp only [qA]<;>omega)
 ·have⟨its,r',pl,hz⟩:=I.tuple hq;have hlen:=r'.length;have⟨o,ho,hc,n,hd⟩:=pl
  exact call_list_seq p (.inr rfl) ho hc hd (λh' c' kp e=>fin its r' hz h' c' kp e) (by simp only [qA]<;>omega)
def zE:we X (.type "tuple") (λxs H Q=>∃p ys,xs=[.ref p]/\((SqL X.K H p ys/\∀l,H l=none->Q (.ref l) (upd H l (.tup ys)))\/(SqT X.K H p ys/\Q (.ref p) H))):=by
 intro pins s σ H xs us Q I r h;obtain⟨p,ys,rfl,h⟩:=h;obtain⟨u,rfl,rx⟩:=vals1 r;cases rx;rcases h with⟨hq,q⟩|⟨hq,q⟩
 ·have⟨its,r',pl,hz⟩:=I.list hq;have hlen:=r'.length;refine call_tuple_list pl.isList (λh' kp=>?_) (by simp only [qA]<;>omega);have I1:Inv X pins σ H { s with heap:=h' }:=I.kept (t':=s.toks) kp
  have I2:Inv X pins σ (upd H h'.objs.size (.tup ys)) { s with heap:=h'.push { cls:=.type "tuple",data:=.seq its.toArray } }:=I1.laid (t':=s.toks) (λb o e=>qj _ e) (qk _) (show vB X.prog X.w _ _ _ (.tup ys) from⟨hz,its,r',IsTup.new _ _⟩);exact⟨.ref h'.objs.size,_,I2,rfl,q _ (I1.hok.fresh (qk _))⟩
 ·have⟨its,r',pl,hz⟩:=I.tuple hq;exact call_tuple_same pl ⟨.ref p,H,I,rfl,q⟩
def tyV(K:FRx)(T:String)(x:V)(H:Hp):Prop:=match x with
 | .str _=>T="str"
 | .int _=>T="int"
 | .ref p=>(T="list"/\∃xs,SqL K H p xs)\/(T="tuple"/\∃o,K.lookup p=some o/\o.cls=.type "tuple"/\o.dict=none)\/
   (T="dict"/\((∃kvs,H p=some (.dK kvs))\/∃kvs,H p=some (.dT kvs)))\/(T="set"/\∃S n,H p=some (.set S n))
 |_=>False
def zkt{pins:PNx}{σ:St}{H:Hp}{s:ShX}{T:String}{x:V}{v:Value}(I:Inv X pins σ H s)(r:RelV x v)(ty:tyV X.K T x H):s.TypeIs v T/\∀a,v=.ref a->∃ob,s.heap.get? a=some ob/\ob.dict=none:=by
 cases x with
 |str z=>
  obtain⟨t,rfl⟩:=r;cases (show T="str" from ty);exact⟨typeIs_str s z t,λ_ e=>nomatch e⟩
 |int i=>
  obtain⟨t,rfl⟩:=r;cases (show T="int" from ty);exact⟨pF s i t,λ_ e=>nomatch e⟩
 |ref p=>
  cases r;rcases ty with⟨rfl,xs,hq⟩|⟨rfl,o,hk,hc,hd⟩|⟨rfl,hk⟩|⟨rfl,S,n,hk⟩
  ·have⟨its,_,pl,_⟩:=I.list hq;refine⟨pl.isList.typeIs,λa e=>?_⟩;cases e;have⟨o,n,e,c,hd,_⟩:=pl;exact⟨o,e,hd⟩
  ·refine⟨⟨o,I.kIn p o hk,hc⟩,λa e=>?_⟩;cases e;exact⟨o,I.kIn _ o hk,hd⟩
  ·have z:∃o,s.heap.get? p=some o/\o.ExactDict:=by
    rcases hk with⟨kvs,hk⟩|⟨kvs,hk⟩
    ·have⟨_,_,_,_,o,_,_,e,ex,_⟩:=I.hok p _ hk;exact⟨o,e,ex⟩
    ·have⟨_,_,_,_,o,_,_,e,ex,_⟩:=I.hok p _ hk;exact⟨o,e,ex⟩
   have⟨o,e,ex⟩:=z;refine⟨⟨o,e,ex.1⟩,λa e2=>?_⟩;cases e2;exact⟨o,e,ex.2.1⟩
  ·have⟨o,_,_,_,e,ex,_⟩:=I.hok p _ hk;refine⟨⟨o,e,ex.1⟩,λa e2=>?_⟩;cases e2;exact⟨o,e,ex.2.1⟩
 |_=>exact False.elim ty
def tBM(K:FRx)(T:String)(r:V->List V->Hp->VK->Prop)(to:TE)(t:TA):TE:=λσ H Q=>to σ H λx H1=>tyV K T x H1/\t σ H1 λxs H2=>r x xs H2 Q
variable{o e:Expr}{es:List Expr}{to:TE}{t:TA}{name:Str}{apos cpos:Pos}{T id:String}{r:V->List V->Hp->VK->Prop}
def VG(pa:PlainAttrs T)(slot:Slot T name id)(hty:typeOf (.builtin id)=pure (.type "method_descriptor"))(hm:MtR X id r)(ho:PE X o to)(ha:PA X (e::es) t)(hbase:attributeBase o name X.env (eval o X.env)=eval o X.env:=by rfl)(hfew:((backTo cpos (starEach (e::es) X.env)).all (λx=>!x.1)&&(backToKw cpos (keywordEach [] X.env)).all (λx=>x.1.isSome)
   &&decide ((e::es).length+([]:List Keyword).length+(if ([]:List Keyword).isEmpty then 0 else 1)<30))=true:=by rfl)(hline:(apos.endLine==cpos.line)=true:=by rfl)(hs:SEx X e es:=by rfl)(hplain:(backTo cpos (starEach es X.env)).any (·.1)=false:=by rfl):PE X (.Call (.Attribute o name apos) (e::es) [] cpos) (tBM X.K T r to t):=by
 intro pins s σ H Q I h;refine wpAny_Call_method_late hbase hfew hline rfl (thn (ho pins s σ H _ I h) λv s1 ⟨x,H1,I1,r1,ty,q1⟩=>?_);have⟨h1,h2⟩:=zkt I1 r1 ty;refine⟨T,id,pa,slot,hty,h1,h2,?_⟩;have hA:=ha cpos pins s1 σ H1 _ I1 q1;rw[hs] at hA ⊢;refine Calls.callWith_builtin (by show(false || (backTo cpos (starEach es X.env)).any (·.1))=false;rw[hplain]<;>rfl) (Calls.evalArgs_plain ?_);exact thn hA λus s2 ⟨vs,H2,I2,r2,q2⟩=>hm pins s2 σ H2 x vs v us Q I2 r1 r2 q2
end
def MtM(X:Cx)(id:String)(r:V->List V->Hp->VK->Prop):Prop:=∀(pins:PNx)(s:ShX)(σ:St)(H:Hp)(x:V)(xs:List V)(v:Value)(us:LVl)(Q:VK),Inv X pins σ H s->RelV x v->Vals xs us->r x xs H Q->
  wpAny (model X.prog X.w) X.A (call (.builtin id) (v::us)) (EP X pins σ Q) X.xe s
theorem Vals.one:∀{x:V} {us:LVl},Vals [x] us->∃u,us=[u]/\RelV x u
 |_,_,.cons r .nil=>⟨_,rfl,r⟩
theorem Vals.two:∀{x y:V} {us:LVl},Vals [x,y] us->∃u v,us=[u,v]/\RelV x u/\RelV y v
 |_,_,_,.cons r (.cons q .nil)=>⟨_,_,rfl,r,q⟩
theorem Vals.eraseIdx:∀{xs:List V} {us:LVl} (i:Nat),Vals xs us->Vals (xs.eraseIdx i) (us.eraseIdx i)
 |_,_,_,.nil=>.nil
 |_,_,0,.cons _ t=>t
 |_,_,i+1,.cons r t=>.cons r (Vals.eraseIdx i t)
theorem Vals.rep{xs:List V}{us:LVl}(h:Vals xs us):∀k:Nat,Vals (List.replicate k xs).flatten (List.replicate k us).flatten
 |0=>.nil
 |k+1=>by
  rw[k9,k9,gK,gK];exact Vals.append h (Vals.rep h k)
theorem zaB{α:Type}:∀(l:List α)(i:Nat),(l.eraseIdx i).length<=l.length
 |[],_=>qk _
 |_::_,0=>nI _
 |_::r,i+1=>nj (zaB r i)
theorem foldl_rep(its:LVl):∀(k:Nat)(acc:LVl),
  List.foldl (λx1 x2=>x1++x2) acc.toArray (List.replicate k its.toArray)=(acc++(List.replicate k its).flatten).toArray
 |0,acc=>by simp
 |k+1,acc=>by
  have e:acc.toArray++its.toArray=(acc++its).toArray:=by simp
  have e2:(acc++its)++(List.replicate k its).flatten=acc++(List.replicate (k+1) its).flatten:=by
   rw[k9,gK,kI]
  rw[<-e2,<-foldl_rep its k (acc++its),<-e,k9,List.foldl_cons]
section
variable{X:Cx}{pins:PNx}{σ:St}{H:Hp}{s:ShX}{l b:AdX}{xs ys zs:List V}
def Inv.lset{its its':LVl}{n:Nat}{f:Array Value->Array Value}{t':Nat}(I:Inv X pins σ H s)(hH:H l=some (.lst xs))(e:s.heap.get? l=some { cls:=.type "list",data:=.seq its.toArray n })(hf:f its.toArray=its'.toArray)(hv:Vals ys its')(hz:ys.length<=sizeLine):Inv X pins σ (upd H l (.lst ys)) { s with heap:=s.heap.update l (Obj.mapSeq f),toks:=t' }:=by
 have q:=PySem.IsL.update e f;rw[hf] at q;refine I.write (x:=l) (e:=l) (by rw[hH];exact trivial) (.inl rfl) (λb' u hb hu=>(Heap.get?_update_other s.heap (Obj.mapSeq f) (gw hb)).trans hu) ⟨_,q⟩ ?_;exact⟨hz,its',_,hv,q⟩
def Inv.lnew{its:LVl}{t':Nat}(I:Inv X pins σ H s)(hv:Vals ys its)(hz:ys.length<=sizeLine):Inv X pins σ (upd H s.heap.objs.size (.lst ys)) { s with heap:=s.heap.push { cls:=.type "list",data:=.seq its.toArray },toks:=t' }:=I.laid (λ_ _ q=>qj _ q) (qk _) ⟨hz,its,0,hv,qI _ rfl⟩
def Inv.fresh(I:Inv X pins σ H s):H s.heap.objs.size=none:=I.hok.fresh (qk _)
def Inv.zbr(I:Inv X pins σ H s)(hH:H l=some (.lst xs)):xs.length<=sizeLine/\∃(its:LVl)(n:Nat),Vals xs its/\xs.length=its.length/\s.heap.get? l=some { cls:=.type "list",data:=.seq its.toArray n }:=by
 have⟨z,its,n,r,e⟩:=I.hok l _ hH;exact⟨z,its,n,r,r.length,e⟩
def YK{n:Nat}(h:n<=sizeLine):Builtin.List.listTooLong n=false:=by
 unfold Builtin.List.listTooLong;exact qF (by omega)
end
section
variable{X:Cx}
def zhV:V->List V->Hp->VK->Prop:=λx vs H Q=>∃l xs y,x=.ref l/\vs=[y]/\H l=some (.lst xs)/\xs.length<sizeLine/\Q .non (upd H l (.lst (xs++[y])))
def ux:MtM X "list.append" zhV:=by
 intro pins s σ H x vs v us Q I rx rv h;obtain⟨l,xs,y,rfl,rfl,hH,hz,q⟩:=h;cases rx;obtain⟨u,rfl,ru⟩:=rv.one;have⟨z,its,n,r,hl,e⟩:=I.zbr hH;refine gP F.slot_list_append ⟨_,e,rfl⟩ F.entry_list_append (F.args_list_append_2 _ _) (PySem.list_append l its.toArray n u (by rw[qA];omega)) ⟨e,?_⟩;refine⟨.non,_,I.lset (its':=its++[u]) hH e (by simp) (r.append (.cons ru .nil)) ?_,rfl,q⟩;rw[qx,kG];omega
def ziX:V->List V->Hp->VK->Prop:=λx vs H Q=>∃l b xs zs,x=.ref l/\vs=[.ref b]/\H l=some (.lst xs)/\H b=some (.lst zs)/\xs.length+zs.length<=sizeLine/\Q .non (upd H l (.lst (xs++zs)))
def zlx:MtM X "list.extend" ziX:=by
 intro pins s σ H x vs v us Q I rx rv h;obtain⟨l,b,xs,zs,rfl,rfl,hH,hB,hz,q⟩:=h;cases rx;obtain⟨u,rfl,ru⟩:=rv.one;cases ru;have⟨z,its,n,r,hl,e⟩:=I.zbr hH;have⟨z2,its2,n2,r2,hl2,e2⟩:=I.zbr hB;have hsz:its.toArray.size+its2.toArray.size<=sizeLine:=by rw[qA,qA];omega
 have hlong:¬(!its.toArray.isEmpty&&Builtin.List.listTooLong (its.toArray.size+its2.toArray.size))=true:=by
  rw[YK hsz,pR];exact qE
 refine gP F.slot_list_extend ⟨_,e,rfl⟩ F.entry_list_extend (F.args_list_extend_2 _ _)
  (AutoSeq1.list_extend_list_list_0 l its.toArray n b its2.toArray n2 hlong (by rw[qA];omega) (by omega)) ⟨e,e2,?_⟩
 refine⟨.non,_,I.lset (its':=its++its2) hH e (by simp) (r.append r2) ?_,rfl,q⟩;rw[qx];omega
def zka:V->List V->Hp->VK->Prop:=λx vs H Q=>∃l xs i k y,x=.ref l/\vs=[.int i]/\H l=some (.lst xs)/\-(2 ^ 63)<=i/\i<2 ^ 63/\seqIndex? i xs.length=some k/\xs[k]?=some y/\Q y (upd H l (.lst (xs.eraseIdx k)))
def Vv:MtM X "list.pop" zka:=by
 intro pins s σ H x vs v us Q I rx rv h;obtain⟨l,xs,i,k,y,rfl,rfl,hH,h1,h2,hk,hy,q⟩:=h;cases rx;obtain⟨u,rfl,ru⟩:=rv.one;obtain⟨t,rfl⟩:=ru;have⟨z,its,n,r,hl,e⟩:=I.zbr hH;have⟨w,hw,rw'⟩:=r.get hy;refine gP F.slot_list_pop ⟨_,e,rfl⟩ F.entry_list_pop (F.args_list_pop_2 _ _)
  (MeetsSeq.list_pop_at l its.toArray n i t k w (fitsIndex_both h1 h2) (by rw[qA,<-hl];exact hk) (by rw[<-Array.getElem?_toList];exact hw) (by rw[qA];omega)) ⟨e,?_⟩
 refine⟨y,_,I.lset (its':=its.eraseIdx k) hH e ?_ (r.eraseIdx k) ?_,rw',q⟩
 ·show its.toArray.eraseIdxIfInBounds k=(its.eraseIdx k).toArray
  rw[List.eraseIdxIfInBounds_toArray]
 ·have:=zaB xs k;omega
def zmE:R2:=λx y H Q=>∃l b xs zs,x=.ref l/\y=.ref b/\H l=some (.lst xs)/\H b=some (.lst zs)/\xs.length+zs.length<=sizeLine/\∀p,H p=none->Q (.ref p) (upd H p (.lst (xs++zs)))
def zlu:OpR X (binaryOp .Add) zmE:=by
 intro pins s σ H x y v u Q I rx ry h;obtain⟨l,b,xs,zs,rfl,rfl,hH,hB,hz,q⟩:=h;cases rx;cases ry;have⟨z,its,n,r,hl,e⟩:=I.zbr hH;have⟨z2,its2,n2,r2,hl2,e2⟩:=I.zbr hB;refine PySem.P.add_list e e2 ?_ (by rw[qA,qA];omega);have ea:its.toArray++its2.toArray=(its++its2).toArray:=by simp
 rw[ea];exact⟨.ref _,_,I.lnew (t':=s.toks) (r.append r2) (by rw[qx];omega),rfl,q _ I.fresh⟩
def zmF:R2:=λx y H Q=>∃l k xs,x=.ref l/\y=.int k/\H l=some (.lst xs)/\-(2 ^ 63)<=k/\k<2 ^ 63/\xs.length*k.toNat<=sizeLine/\
 ∀p,H p=none->Q (.ref p) (upd H p (.lst (List.replicate k.toNat xs).flatten))
def len_rep{α:Type}(xs:List α)(k:Nat):(List.replicate k xs).flatten.length=k*xs.length:=by
 induction k with
 |zero=>simp
 |succ k ih=>rw[k9,gK,qx,ih,gm,pq]
def zku:OpR X (binaryOp .Mult) zmF:=by
 intro pins s σ H x y v u Q I rx ry h;obtain⟨l,k,xs,rfl,rfl,hH,h1,h2,hz,q⟩:=h;cases rx;obtain⟨t,rfl⟩:=ry;have⟨z,its,n,r,hl,e⟩:=I.zbr hH;have hlen:its.toArray.size*k.toNat<=sizeLine:=by rw[qA,<-hl];exact hz
 have hcap:¬its.toArray.size*k.toNat>(2 ^ 63 - 1) / 8:=by
  have:(sizeLine:Nat)<=(2 ^ 63 - 1) / 8:=by decide
  omega
 have hfit:¬(!Builtin.List.listFitsIndex k)=true:=by
  rw[fitsIndex_both h1 h2];exact qE
 have hlong:¬Builtin.List.listTooLong (its.toArray.size*k.toNat)=true:=by
  rw[YK hlen];exact qE
 have hnew:List.foldl (λx1 x2=>x1++x2) #[] (List.replicate (if its.toArray.isEmpty=true then 0 else k.toNat) its.toArray)=(List.replicate k.toNat its).flatten.toArray:=by
  have f0:∀m:Nat,List.foldl (λx1 x2=>x1++x2) #[] (List.replicate m its.toArray)=(List.replicate m its).flatten.toArray:=λm=>by
   have:=foldl_rep its m [];rw[pI] at this;exact this
  rw[f0];cases its with
  |nil=>simp
  |cons a r'=>rw[qm (by simp)]
 refine wpAny_binaryOp_repeat_ref (T:="list") (U:="int") (by decide) ⟨_,e,rfl⟩ (λs'=>pF s' k t) noFill_list_mul F.fills_int_mul nU repeat_list F.slot_int_index.lookup
  (gP nU (pF s k t) F.entry_int_rmul (F.args_int_rmul_2 _ _) (int___rmul___int_list k t l its.toArray n)
   ⟨e,rfl,⟨_,e,rfl⟩,gP F.slot_list_mul ⟨_,e,rfl⟩ F.entry_list_mul (F.args_list_mul_2 _ _) (AutoListH.list___mul___list_int_3 l its.toArray n k t hfit hcap hlong) ⟨e,?_⟩⟩)
 rw[hnew];exact⟨.ref _,_,I.lnew (t':=s.toks) (r.rep k.toNat) (by rw[len_rep,gR];exact hz),rfl,q _ I.fresh⟩
end
end L2
namespace Att
open PySem PySem.W PySem.Calls PyProof.Rows
def WW{P:Params}{h:Heap}:∀(ns:List Int)(vs:LVl),WellAll P h vs (ns.map WData.int)->IntsAre vs ns:=by
 intro ns;induction ns with
 |nil=>
  intro vs w;rw[List.map_nil] at w;cases w;exact .nil
 |cons n ns ih=>
  intro vs w;rw[gp] at w;cases w with
  |cons a b=>
   cases a;exact .cons _ _ (ih _ b)
def zfD{l:OpenLaw}{n:Nat}(hn:l.most=some n){P:Params}{h:Heap}{args:List WData}{vals:LVl}(hpre:l.row.toRowW.claim.pre args=true)(hwl:WellAll P h vals args):∃a vs ns,vals=[Value.ref a]/\args=[WData.list (ns.map WData.int)]/\h.get? a=some { cls:=.type "list",data:=.seq vs.toArray }/\IntsAre vs ns/\ns.length<=n:=by
 have hsh:WShape.hasAll [] args [.list .int]=true:=(pre_splitW hpre).1;have hc:l.pre.holds [] { args:=args }=true:=(pre_splitW hpre).2
 obtain⟨d,r,rfl,h1,h2⟩:=hasAllW_cons hsh;obtain rfl:=hasAllW_nil h2;obtain⟨xs,rfl,h3⟩:=hasW_list h1;obtain⟨ns,rfl⟩:=items_int h3;have hlen:ns.length<=n:=by
  unfold OpenLaw.pre at hc;have h4:(WTm.not (.lt (.lit (.int (n:Int))) (.len (.arg 0)))).holds [] { args:=[.list (ns.map .int)] }=true:=by
   have h4:=(holds_andW hc).1;rw[hn] at h4;exact h4
  have h5:=condW_of h4 (w_not (w_lt w_lit (w_len_list (w_arg rfl))));rw[qe] at h5;refine kh λq=>?_
  have q':(n:Int)<((ns.length:Nat):Int):=by omega
  first
   |(rw[qy q'] at h5;exact absurd h5 (by decide))
   |(simp at h5;omega)
 cases hwl with
 |cons w1 w2=>
  cases w2;cases w1 with
  |list ho hall=>exact⟨_,_,ns,rfl,rfl,ho,WW ns _ hall,hlen⟩
def zfI(l:OpenLaw)(args:List WData):l.row.toRowW.claim.post args (.bool true) args=true:=postW_of (r:=l.row.toRowW) (X:=(true==true))
  (show WShape.has [] (.bool true) .bool=true by first |rfl|decide|simp[WShape.has,WShape.arms,WShape.armsAll])
  (show(WTm.eq .res (.lit (.bool true))).value [] { args:=args,res:=some (.bool true),after:=args }=some (.bool (true==true)) from w_eq_bool (w_res rfl) w_lit) rfl
def zcu{l:OpenLaw}{n:Nat}{q:Program}{loose:LSr}{XP:(Str->Option Value)->Heap->Prop}{YP:World->Heap->Prop}{d:DefRec}(hn:l.most=some n)(hdf:d.params.defaults=[])(call:∀(w:World)(s₀ s₁:ShX)(mg mb:Str->Option Value)(fa:AdX)(o:Obj)(pm cd doc:Value)(a:AdX)(vs:LVl)(ns:List Int),
   Ground q loose [] XP w s₀ mg mb s₁.heap->YP w s₁.heap->
   s₁.heap.get? fa=some o->o.data=.func (docDef d.name d.params d.body d.scope pm cd doc)->s₁.heap.CodeRec cd d.name->mg d.name=some (.ref fa)->
   s₁.heap.get? a=some { cls:=.type "list",data:=.seq vs.toArray }->IntsAre vs ns->ns.length<=n->s₁.gens=#[]->
   codeAny (model l.prog w) callerA (.call (.ref fa) ⟨[.ref a],[]⟩) (λr s'=>r=.ok (.ret (.bool true))/\OldK s₁.heap s'.heap/\s'.os=s₁.os/\AllBare s'.gens) s₁):WalkO q loose XP YP l.row.toRowW d [] (λf vs=>PySem.call f vs):=by
 intro w s₀ s₁ mg mb G Y fa o pm cd doc dV kV ho hd hcd hD hmg hg args vals as hpre hlay hrd hwl hlo;obtain rfl:dV=.none:=Dflts.none hD hdf;obtain rfl:kV=.none:=Dflts.noKw hD;obtain⟨a,vs,ns,rfl,rfl,hobj,hints,hlen⟩:=zfD hn hpre hwl;refine enter_call (pN (call w s₀ s₁ mg mb fa o pm cd doc a vs ns G Y ho (fd_plain hd) hcd hmg hobj hints hlen hg) λr s' hq=>?_);obtain⟨rfl,h2,h3,h4⟩:=hq;exact⟨.inl ⟨.bool true,.bool true,[],rfl,λ_=>rfl,.bool true,zfI l _,λ_=>⟨List.Pairwise.nil,λ_ hm=>(nomatch hm)⟩⟩,h2,h3,h4⟩
end Att
namespace L2
open PySem PySem.Spec PyProof.Rows
theorem vY:∀{vs:LVl} {ns:List Int},IntsAre vs ns->Vals (ns.map V.int) vs
 |_,_,.nil=>.nil
 |_,_,.cons n t h=>.cons ⟨t,rfl⟩ (vY h)
def Only(H:Hp):Prop:=∀b,H b=none\/∃o xs,H b=some (.frz o (.lst xs))
def zgR{P:Program}{w:World}{K:FRx}{mg mb:Str->Option Value}{CX:CXT}{k:Nat}{fa a:AdX}{fd:FuncData}{x:Str}{sp:Sp}{s₁:ShX}{vs:LVl}{ns:List Int}(KX:K.In s₁.heap)(hns:s₁.heap.Ns mainGlobals mg)(hb:s₁.heap.Ns builtinsNs mb)(hbb:∀x:Str,x≠"__name__"->mb x=bootBuiltins x)(hlim:s₁.heap.NoLimit)(hg:s₁.gens=#[])(ha:s₁.heap.get? a=some { cls:=.type "list",data:=.seq vs.toArray })(hi:IntsAre vs ns)(hl:ns.length<=sizeLine)(hr:Room k callerA)(F:∀base:Heap,K.In base->base.Ns mainGlobals mg->wy P w K mg base CX k fa fd [x] sp)(hbind:∀(s:ShX)(u:Value),BindsTo s fd ⟨[u],[]⟩ [(x,u)])(hsp:∀H:Hp,Only H->SqL K H a (ns.map V.int)->sp [.ref a] H (λv _=>v=.bl true) λ_ _ _=>False)(hCX:∀H e s',CX [] H s₁ (λ_ _ _=>False) e s'->False):codeAny (model P w) callerA (.call (.ref fa) ⟨[.ref a],[]⟩) (λr s'=>r=.ok (.ret (.bool true))/\OldK s₁.heap s'.heap/\s'.os=s₁.os/\AllBare s'.gens) s₁:=by
 have rv:=vY hi;have lenV:=hi.length
 have core:∀H:Hp,Only H->SqL K H a (ns.map V.int)->HOk P w H s₁.heap->(∀b,H b≠none->b=a)->(H a≠none->K.lookup a=none)->
   codeAny (model P w) callerA (.call (.ref fa) ⟨[.ref a],[]⟩) (λr s'=>r=.ok (.ret (.bool true))/\OldK s₁.heap s'.heap/\s'.os=s₁.os/\AllBare s'.gens) s₁:=by
  intro H hO hS hok hA hK;have base_of:∀{b:AdX} {o:Obj},s₁.heap.get? b=some o->H b=none->(zbd s₁.heap H).get? b=some o:=λe n=>zhI e n
  have noA:∀{b:AdX} {o:Obj} {es:Array DictEntry} {ep:Nat},s₁.heap.get? b=some o->o.data=.dict es ep->H b=none:=λ{b o es ep} e d=>by
   cases q:H b with
   |none=>rfl
   |some u=>
    have e':b=a:=hA b (by rw[q];simp);subst e';rw[ha] at e;cases e;have d':Data.seq vs.toArray _=Data.dict es ep:=d
    cases d'
  have nsK:∀{b:AdX} {m:Str->Option Value},s₁.heap.Ns b m->(zbd s₁.heap H).Ns b m:=λ{b m} ⟨o,es,ep,e,d,r⟩=>⟨o,es,ep,base_of e (noA e d),d,r⟩
  have hKb:K.In (zbd s₁.heap H):=λb o e=>base_of (KX b o e) (by
   cases q:H b with
   |none=>rfl
   |some u=>
    have e':b=a:=hA b (by rw[q];simp);subst e';rw[hK (by rw[q];simp)] at e;cases e)
  have hM:Mod K mg (zbd s₁.heap H):=⟨hKb,nsK hns,⟨mb,nsK hb,hbb⟩,let ⟨mc,h1,h2⟩:=hlim;⟨mc,nsK h1,h2⟩⟩;have e0:zds P w K mg (zbd s₁.heap H) callerA [] s₁ H:=⟨rfl,hM,λb o e=>zjf e,nt (zfr _ _),trivial,λb hb=>absurd (show b∈([]:LAd) from hb) (by simp),hok,.of_eq hg⟩
  refine pN ((F _ hKb (nsK hns)).run callerA [] s₁ H ⟨[.ref a],[]⟩ [.ref a] [.ref a] _ _ hr e0 (hbind s₁ (.ref a)) (.cons rfl .nil) (hsp H hO hS)) λr s' h=>?_
  cases r with
  |error e=>exact(hCX H e s' h).elim
  |ok fl=>
   cases fl with
   |next=>exact False.elim h
   |brk=>exact False.elim h
   |cont=>exact False.elim h
   |ret u=>
    have⟨v,H',os,bare,un,hok',r',q⟩:=h;have q':v=.bl true:=q;subst q';obtain rfl:u=Value.bool true:=r';refine⟨rfl,OldK.of_keep λb o e=>?_,os,bare⟩;cases q:H b with
    |none=>exact un.keep b o e q (by intro z;exact absurd (show b∈([]:LAd) from z) (by simp)) (by simp)
    |some u=>
     rcases hO b with z|⟨ob,xs,z⟩
     ·rw[q] at z;cases z
     ·have z2:=un.frzs b ob _ z;have⟨e1,_⟩:=hok b _ z
      have⟨e2,_⟩:=hok' b _ z2;rw[e] at e1;cases e1;exact e2
 cases hk:K.lookup a with
 |some o=>
  have e:=KX a o hk;rw[ha] at e;cases e;refine core (λ_=>none) (λ_=>.inl rfl) (.inr ⟨_,vs.toArray,_,hk,rfl,rfl,rfl,by rw[qA,lenV];exact hl,by simpa using rv⟩) (λb u z=>by have z':(none:Option HO)=some u:=z;cases z') (λb z=>absurd rfl z) λz=>absurd rfl z
 |none=>
  refine core (λb=>if b=a then some (.frz { cls:=.type "list",data:=.seq vs.toArray } (.lst (ns.map V.int))) else none) (λb=>?_) (.inl (.inr ⟨{ cls:=.type "list",data:=.seq vs.toArray },qg rfl⟩)) (λb u z=>?_) (λb z=>?_) λ_=>hk
  ·by_cases hb:b=a
   ·exact .inr ⟨_,_,qg hb⟩
   ·exact .inl (qm hb)
  ·by_cases hb:b=a
   ·have z':=(qg hb).symm.trans z;cases z';subst hb;exact⟨ha,by rw[qe];exact hl,vs,_,rv,ha⟩
   ·have z':=(qm hb).symm.trans z;cases z'
  ·by_cases hb:b=a
   ·exact hb
   ·exact absurd (qm hb) z
def zjo{l:W.OpenLaw}{n k:Nat}{q:Program}{loose:LSr}{XP:(Str->Option Value)->Heap->Prop}{YP:World->Heap->Prop}{d:DefRec}{K:Params->W.Frag}{CX:World->CXT}{sp:World->Sp}{x:Str}(hn:l.most=some n)(hn2:n<=sizeLine)(hdf:d.params.defaults=[])(hr:Room k callerA)(hY:∀(w:World)(h:Heap),YP w h->(K w.params).In h)(F:∀(w:World)(mg:Str->Option Value)(fa:AdX)(h:Heap),(K w.params).In h->h.Ns mainGlobals mg->mg d.name=some (.ref fa)->
   ∃fd:FuncData,(∀(s:ShX)(u:Value),BindsTo s fd ⟨[u],[]⟩ [(x,u)])/\
    ∀base:Heap,(K w.params).In base->base.Ns mainGlobals mg->wy l.prog w (K w.params) mg base (CX w) k fa fd [x] (sp w))(hsp:∀(w:World)(H:Hp)(a:AdX)(ns:List Int),ns.length<=n->Only H->SqL (K w.params) H a (ns.map V.int)->sp w [.ref a] H (λv _=>v=.bl true) λ_ _ _=>False)(hCX:∀(w:World)(H:Hp)(s:ShX)(e:Value)(s':ShX),CX w [] H s (λ_ _ _=>False) e s'->False):W.WalkO q loose XP YP l.row.toRowW d [] (λf vs=>PySem.call f vs):=by
 refine Att.zcu hn hdf λw s₀ s₁ mg mb fa o pm cd doc a vs ns G Y ho hd hcd hmg hobj hints hlen hg=>?_
 have KX:=hY w _ Y;have⟨fd,hb,hF⟩:=F w mg fa _ KX G.T.g hmg
 exact zgR KX G.T.g G.T.b G.T.builtins G.T.nolimit hg hobj hints (qB hlen hn2) hr hF hb (λH hO hS=>hsp w H a ns hlen hO hS) λH e s'=>hCX w H s₁ e s'
def inClass(s:Stmt)(j:Nat):Stmt:=match s with
 | .ClassDef _ _ _ body _ _ _ _ _ _ _=>body.getD j (.Pass ⟨0,0,0,0⟩)
 |_=>.Pass ⟨0,0,0,0⟩
def jB(s:Stmt):Arguments:=match s with
 | .FunctionDef _ a _ _ _ _ _ _ _ _=>a
 |_=>{ posonlyargs:=[],args:=[],vararg:=none,kwonlyargs:=[],kw_defaults:=[],kwarg:=none,defaults:=[] }
def xg(s:Stmt):List Stmt:=match s with
 | .FunctionDef _ _ b _ _ _ _ _ _ _=>b
 |_=>[]
def ze(s:Stmt):Scope:=match s with
 | .FunctionDef _ _ _ _ _ _ sc _ _ _=>sc
 |_=>{ kind:=.function,names:=[],isGenerator:=false,isCoroutine:=false }
abbrev CX0:CXT:=λ_ _ _ _ _ _=>False
abbrev E0:XK:=λ_ _ _=>False
def JD{X:Cx}:Passes CX0 X E0:=λ_ _ _ _ _ _ _ h=>h.elim
structure Fun(K:FRx)(x qual:Str)(st:Stmt)(f:AdX)(fd:FuncData):Prop where
 ex:∃(oc:Value) (od:Option Addr) (kV doc pm:Value) (an:Option Addr) (cdv ct:Value) (osl:Array (Option Value)),
  fd=W.fnOf x qual (jB st) (xg st) (ze st) .none kV doc pm an cdv ct/\K.lookup f=some ⟨oc,od,.func fd,osl⟩/\W.codeIn K cdv qual=true
 kp:W.keepIn K (.ref f)=true
section
variable{P:Program}{w:World}{K:FRx}{mg:Str->Option Value}{base:Heap}
def Fun.ok{x qual:Str}{st:Stmt}{f:AdX}{fd:FuncData}{N ps:LSr}{k:Nat}{sp:Sp}(F:Fun K x qual st f fd)(S:zx N ps (ze st))(len:∀vs H Q E,sp vs H Q E->vs.length=ps.length)(hbody:∀(cdv:Value)(A:Around)(outer:List Env)(s:ShX)(H:Hp)(vs:List V)(Q:VK)(E:XK),Room k (A.deeper (envOfC qual (ze st) s.heap.objs.size f cdv))->sp vs H Q E->
   ∃t,PSs (Wj CX0 P w K mg base N qual (ze st) f cdv A outer s H E).nox (xg st) t/\t { nx:=λ_ H'=>Q .non H',rt:=Q } (start N vs) H):wy P w K mg base CX0 (k+1) f fd ps sp:=by
 obtain⟨oc,od,kV,doc,pm,an,cdv,ct,osl,rfl,lk,hcd⟩:=F.ex;refine zl5 lk hcd S len λA outer s H vs Q E hr hsp=>?_
 have⟨t,h,q⟩:=hbody cdv A outer s H vs Q E hr hsp;exact⟨t,h.nox,q⟩
def Fun.binds{x qual:Str}{st:Stmt}{f:AdX}{fd:FuncData}{ps:LSr}(F:Fun K x qual st f fd)(h:∀(kV doc pm:Value)(an:Option Addr)(cdv ct:Value)(us:LVl),us.length=ps.length->bindArgs (W.fnOf x qual (jB st) (xg st) (ze st) .none kV doc pm an cdv ct) ⟨us,[]⟩=pure (ps.zip us)):Binds K fd ps []:=by
 obtain⟨oc,od,kV,doc,pm,an,cdv,ct,osl,rfl,lk,hcd⟩:=F.ex;exact .all (h kV doc pm an cdv ct)
def zbm{x qual:Str}{st:Stmt}{f:AdX}{oc:Value}{od an:Option Addr}{osl:Array (Option Value)}{kV doc pm cdv ct:Value}(l:K.lookup f=some ⟨oc,od,.func (W.fnOf x qual (jB st) (xg st) (ze st) .none kV doc pm an cdv ct),osl⟩)(c:W.codeIn K cdv qual=true)(k:W.keepIn K (.ref f)=true):Fun K x qual st f (W.fnOf x qual (jB st) (xg st) (ze st) .none kV doc pm an cdv ct):=⟨⟨oc,od,kV,doc,pm,an,cdv,ct,osl,rfl,l,c⟩,k⟩
end
def Same(H H':Hp):Prop:=∀b o,H b=some o->H' b=some o
def Same.refl(H:Hp):Same H H:=λ_ _ h=>h
def Same.trans{H H1 H2:Hp}(a:Same H H1)(b:Same H1 H2):Same H H2:=λc o h=>b c o (a c o h)
def Same.free{H H':Hp}(e:Same H H'){l:AdX}(h:H' l=Option.none):H l=Option.none:=by
 cases q:H l with
 |none=>rfl
 |some o=>
  rw[e l o q] at h;cases h
def Same.seq{K:FRx}{H H':Hp}{a:AdX}{xs:List V}(e:Same H H')(h:SqL K H a xs):SqL K H' a xs:=by
 rcases h with(h|⟨o,h⟩)|h
 ·exact .inl (.inl (e _ _ h))
 ·exact .inl (.inr ⟨o,e _ _ h⟩)
 ·exact .inr h
end L2
set_option maxHeartbeats 4000000
namespace L2
open PySem PySem.Spec PyProof.Rows
mutual
inductive Rep(K:FRx)(H:Hp):V->PyData->Prop
 |non:Rep K H .non .none
 |bl (b:Bool):Rep K H (.bl b) (.bool b)
 |int (i:Int):Rep K H (.int i) (.int i)
 |str (x:Str):Rep K H (.str x) (.str x)
 |tup {a:AdX} {xs:List V} {ds:LPd}:SqT K H a xs->Reps K H xs ds->Rep K H (.ref a) (.tuple ds)
 |lst {a:AdX} {xs:List V} {ds:LPd}:SqL K H a xs->Reps K H xs ds->Rep K H (.ref a) (.list ds)
inductive Reps(K:FRx)(H:Hp):List V->List PyData->Prop
 |nil:Reps K H [] []
 |cons {v:V} {d:PdX} {vs:List V} {ds:LPd}:Rep K H v d->Reps K H vs ds->Reps K H (v::vs) (d::ds)
end
def Same.tup{K:FRx}{H H':Hp}{a:AdX}{xs:List V}(e:Same H H')(h:SqT K H a xs):SqT K H' a xs:=by
 rcases h with(h|⟨o,h⟩)|h
 ·exact .inl (.inl (e _ _ h))
 ·exact .inl (.inr ⟨o,e _ _ h⟩)
 ·exact .inr h
mutual
theorem Rep.same{K:FRx}{H H':Hp}(e:Same H H'):∀{v:V} {d:PdX},Rep K H v d->Rep K H' v d
 |_,_,.non=>.non
 |_,_,.bl b=>.bl b
 |_,_,.int i=>.int i
 |_,_,.str x=>.str x
 |_,_,.tup h r=>.tup (e.tup h) (Reps.same e r)
 |_,_,.lst h r=>.lst (e.seq h) (Reps.same e r)
theorem Reps.same{K:FRx}{H H':Hp}(e:Same H H'):∀{vs:List V} {ds:LPd},Reps K H vs ds->Reps K H' vs ds
 |_,_,.nil=>.nil
 |_,_,.cons h r=>.cons (Rep.same e h) (Reps.same e r)
end
theorem Reps.length{K:FRx}{H:Hp}:∀{vs:List V} {ds:LPd},Reps K H vs ds->vs.length=ds.length
 |_,_,.nil=>rfl
 |_,_,.cons _ r=>by simp[Reps.length r]
theorem Reps.getD{K:FRx}{H:Hp}:∀{vs:List V} {ds:LPd} {i:Nat} {d:PdX},Reps K H vs ds->ds[i]?=some d->∃v,vs[i]?=some v/\Rep K H v d
 |_,_,_,_,.nil,e=>by simp at e
 |_,_,0,_,.cons h _,e=>by simp at e;subst e;exact⟨_,rfl,h⟩
 |_,_,i+1,_,.cons _ r,e=>by
  obtain⟨d,h1,h2⟩:=Reps.getD (i:=i) r (by simpa using e);exact⟨d,by simpa using h1,h2⟩
theorem Reps.append{K:FRx}{H:Hp}:∀{vs ws:List V} {ds es:LPd},Reps K H vs ds->Reps K H ws es->Reps K H (vs++ws) (ds++es)
 |_,_,_,_,.nil,s=>s
 |_,_,_,_,.cons h r,s=>.cons h (Reps.append r s)
theorem Reps.take{K:FRx}{H:Hp}:∀{vs:List V} {ds:LPd} (n:Nat),Reps K H vs ds->Reps K H (vs.take n) (ds.take n)
 |_,_,0,_=>.nil
 |_,_,_+1,.nil=>.nil
 |_,_,n+1,.cons h r=>.cons h (Reps.take n r)
theorem Reps.drop{K:FRx}{H:Hp}:∀{vs:List V} {ds:LPd} (n:Nat),Reps K H vs ds->Reps K H (vs.drop n) (ds.drop n)
 |_,_,0,r=>r
 |_,_,_+1,.nil=>.nil
 |_,_,n+1,.cons _ r=>Reps.drop n r
theorem Reps.ints{K:FRx}{H:Hp}:∀ns:List Int,Reps K H (ns.map V.int) (ns.map PyData.int)
 |[]=>.nil
 |n::r=>.cons (.int n) (Reps.ints r)
section
variable{X:Cx}{pins:PNx}{σ:St}{H:Hp}{s:ShX}
mutual
theorem Inv.reads(I:Inv X pins σ H s):∀{v:V} {d:PdX} {u:Value},Rep X.K H v d->RelV v u->∃as,Reads s.heap u d as
 |_,_,_,.non,r=>by cases (show _=Value.none from r);exact⟨_,.none⟩
 |_,_,_,.bl b,r=>by cases (show _=Value.bool b from r);exact⟨_,.bool b⟩
 |_,_,_,.int i,r=>by obtain⟨t,rfl⟩:=r;exact⟨_,.int i t⟩
 |_,_,_,.str x,r=>by obtain⟨t,rfl⟩:=r;exact⟨_,.str x t⟩
 |_,_,_,.tup h q,r=>by
  cases (show _=Value.ref _ from r);have⟨its,rv,⟨o,ho,hc,n,hd⟩,_⟩:=I.tuple h;have⟨as,ra⟩:=Inv.readsAll I q rv;exact⟨as,.tuple ho hc hd ra⟩
 |_,_,_,.lst h q,r=>by
  cases (show _=Value.ref _ from r);have⟨its,rv,⟨o,n,ho,hc,_,hd⟩,_⟩:=I.list h;have⟨as,ra⟩:=Inv.readsAll I q rv;exact⟨_,.list ho hc hd ra⟩
theorem Inv.readsAll(I:Inv X pins σ H s):∀{vs:List V} {ds:LPd} {us:LVl},Reps X.K H vs ds->Vals vs us->∃as,ReadsAll s.heap us ds as
 |_,_,_,.nil,.nil=>⟨_,.nil⟩
 |_,_,_,.cons h q,.cons r1 r2=>by
  have⟨as,a⟩:=Inv.reads I h r1;have⟨bs,b⟩:=Inv.readsAll I q r2;exact⟨_,.cons a b⟩
end
end
section
variable{X:Cx}
def yK:OpR X (binaryOp .Mult) (rI IntMulOk λi j=>.int (i*j)):=opI λ_ _ _ _ _ _ _ hc q=>mul_int q hc
def zjG(_ j:Int):Prop:=j≠0/\j.natAbs.log2<9000
def yf:OpR X (binaryOp .FloorDiv) (rI zjG λi j=>.int (i.fdiv j)):=opI λ_ _ _ _ _ _ _ hc q=>floordiv_int hc.1 q (.inl (PyProof.noPylong_of_log2 hc.2))
def zlK(K:FRx):R2:=λx y H Q=>∃d e,Rep K H x d/\Rep K H y e/\SeqAt.shaped d=true/\SeqAt.shaped e=true/\Q (.bl (PyData.eqv d e)) H
def zlF(K:FRx):R2:=λx y H Q=>∃d e,Rep K H x d/\Rep K H y e/\SeqAt.shaped d=true/\SeqAt.shaped e=true/\Q (.bl (!PyData.eqv d e)) H
def vd(hu:X.A.units+64<cLine):OpR X (compareOp .Eq) (zlK X.K):=by
 intro pins s σ H x y v u Q I rx ry h;have⟨d,e,hd,he,sd,se,q⟩:=h;have⟨as,ra⟩:=I.reads hd rx;have⟨bs,rb⟩:=I.reads he ry;exact eq_dataH ra rb sd se hu ⟨.bl _,H,I,rfl,q⟩
def vI(hu:X.A.units+64<cLine):OpR X (compareOp .NotEq) (zlF X.K):=by
 intro pins s σ H x y v u Q I rx ry h;have⟨d,e,hd,he,sd,se,q⟩:=h;have⟨as,ra⟩:=I.reads hd rx;have⟨bs,rb⟩:=I.reads he ry;exact ne_dataH ra rb sd se hu ⟨.bl _,H,I,rfl,q⟩
inductive IsI(K:FRx)(H:Hp):V->String->Bool->Prop
 |int_int (i:Int):IsI K H (.int i) "int" true
 |int_bool (i:Int):IsI K H (.int i) "bool" false
 |int_tup (i:Int):IsI K H (.int i) "tuple" false
 |bl_int (b:Bool):IsI K H (.bl b) "int" true
 |bl_bool (b:Bool):IsI K H (.bl b) "bool" true
 |tup_tup {a:AdX} {xs:List V}:SqT K H a xs->IsI K H (.ref a) "tuple" true
 |tup_lst {a:AdX} {xs:List V}:SqT K H a xs->IsI K H (.ref a) "list" false
 |tup_int {a:AdX} {xs:List V}:SqT K H a xs->IsI K H (.ref a) "int" false
 |lst_lst {a:AdX} {xs:List V}:SqL K H a xs->IsI K H (.ref a) "list" true
 |lst_tup {a:AdX} {xs:List V}:SqL K H a xs->IsI K H (.ref a) "tuple" false
 |lst_int {a:AdX} {xs:List V}:SqL K H a xs->IsI K H (.ref a) "int" false
def zms(K:FRx):List V->Hp->VK->Prop:=λxs H Q=>∃x T b,xs=[x,.ty T]/\IsI K H x T b/\Q (.bl b) H
def zgr:we X (.builtin "isinstance") (zms X.K):=by
 intro pins s σ H xs us Q I r h;obtain⟨x,T,b,rfl,hi,q⟩:=h;obtain⟨u,w',rfl,rx,rT⟩:=vals2 r;cases (show w'=Value.type T from rT);have fin:∀tk,EP X pins σ Q (.bool b) { s with toks:=tk }:=λtk=>⟨.bl b,H,I.tok tk,rfl,q⟩
 have fin0:EP X pins σ Q (.bool b) s:=⟨.bl b,H,I,rfl,q⟩;cases hi with
 |int_int i=>obtain⟨t,rfl⟩:=rx;exact IsiPair.int_int fin0
 |int_bool i=>obtain⟨t,rfl⟩:=rx;exact IsiPair.int_bool (fin _)
 |int_tup i=>obtain⟨t,rfl⟩:=rx;exact IsiPair.int_tuple (fin _)
 |bl_int i=>cases (show u=Value.bool i from rx);exact IsiPair.bool_int fin0
 |bl_bool i=>cases (show u=Value.bool i from rx);exact IsiPair.bool_bool fin0
 |tup_tup h=>cases (show u=Value.ref _ from rx);have⟨its,rv,⟨o,ho,hc,n,hd⟩,_⟩:=I.tuple h;exact IsiPair.tuple_tuple ho hc fin0
 |tup_lst h=>cases (show u=Value.ref _ from rx);have⟨its,rv,⟨o,ho,hc,n,hd⟩,_⟩:=I.tuple h;exact IsiPair.tuple_list ho hc (fin _)
 |tup_int h=>cases (show u=Value.ref _ from rx);have⟨its,rv,⟨o,ho,hc,n,hd⟩,_⟩:=I.tuple h;exact IsiPair.tuple_int ho hc (fin _)
 |lst_lst h=>cases (show u=Value.ref _ from rx);have⟨its,rv,⟨o,n,ho,hc,_,hd⟩,_⟩:=I.list h;exact IsiPair.list_list ho hc fin0
 |lst_tup h=>cases (show u=Value.ref _ from rx);have⟨its,rv,⟨o,n,ho,hc,_,hd⟩,_⟩:=I.list h;exact IsiPair.list_tuple ho hc (fin _)
 |lst_int h=>cases (show u=Value.ref _ from rx);have⟨its,rv,⟨o,n,ho,hc,_,hd⟩,_⟩:=I.list h;exact IsiPair.list_int ho hc (fin _)
end
def yo:bootBuiltins "len"=some (.builtin "len"):=by decide+kernel
def zgC:bootBuiltins "abs"=some (.builtin "abs"):=by decide+kernel
def zkZ:bootBuiltins "sum"=some (.builtin "sum"):=by decide+kernel
def ZO:bootBuiltins "isinstance"=some (.builtin "isinstance"):=by decide+kernel
def zk4:bootBuiltins "int"=some (.type "int"):=by decide+kernel
def ziB:bootBuiltins "bool"=some (.type "bool"):=by decide+kernel
def zY:bootBuiltins "tuple"=some (.type "tuple"):=by decide+kernel
def j0:bootBuiltins "list"=some (.type "list"):=by decide+kernel
def NoB(mg:Str->Option Value)(l:LSr):Prop:=∀x∈l,mg x=none
def nbg{mg:Str->Option Value}{bs:LSr}{x:Str}(h:NoB mg bs)(m:x∈bs:=by decide):mg x=none:=h x m
def HasDef(K:FRx)(mg:Str->Option Value)(x:Str)(st:Stmt):Prop:=∃f fd,Fun K x x st f fd/\mg x=some (.ref f)
def Def(P:Program)(w:World)(K:FRx)(mg:Str->Option Value)(base:Heap)(CX:CXT)(k:Nat)(x:Str)(ps:LSr)(sp:Sp):Prop:=∃f fd,wy P w K mg base CX k f fd ps sp/\Binds K fd ps []/\W.keepIn K (.ref f)=true/\mg x=some (.ref f)
section
variable{P:Program}{w:World}{K:FRx}{mg:Str->Option Value}{base:Heap}
def Def.mk{x:Str}{st:Stmt}{N ps:LSr}{k:Nat}{sp:Sp}(h:HasDef K mg x st)(S:zx N ps (ze st))(hb:∀(kV doc pm:Value)(an:Option Addr)(cdv ct:Value)(us:LVl),us.length=ps.length->bindArgs (W.fnOf x x (jB st) (xg st) (ze st) .none kV doc pm an cdv ct) ⟨us,[]⟩=pure (ps.zip us))(len:∀vs H Q E,sp vs H Q E->vs.length=ps.length)(hbody:∀(f:AdX)(cdv:Value)(A:Around)(outer:List Env)(s:ShX)(H:Hp)(vs:List V)(Q:VK)(E:XK),Room k (A.deeper (envOfC x (ze st) s.heap.objs.size f cdv))->sp vs H Q E->
   ∃t,PSs (Wj CX0 P w K mg base N x (ze st) f cdv A outer s H E).nox (xg st) t/\t { nx:=λ_ H'=>Q .non H',rt:=Q } (start N vs) H):Def P w K mg base CX0 (k+1) x ps sp:=by
 have⟨f,fd,F,hm⟩:=h;exact⟨f,fd,F.ok S len (λcdv A outer s H vs Q E hr hs=>hbody f cdv A outer s H vs Q E hr hs),F.binds hb,F.kp,hm⟩
end
section
variable{X:Cx}{CX:CXT}{E:XK}{k k':Nat}{x:Str}{ps:LSr}{sp:Sp}{p pos:Pos}{e:Expr}{es:List Expr}{t:TA}
def Wg(D:Def X.prog X.w X.K X.mg X.base CX k x ps sp)(hr:Room k' X.A)(hg:Gl X x)(hx:Passes CX X E)(ha:PA X (e::es) t)(hk:k<=k':=by decide)(hdb:NDx x:=by decide)(he:SEx X e es:=by rfl)(hpl:PLx X pos es:=by rfl):PE X (.Call (.Name x p) (e::es) [] pos) (zjK sp [] E t):=by
 have⟨f,fd,F,B,kp,m⟩:=D;exact zh8 F (hr.mono hk) hg m kp B .nil hx ha hdb he hpl
end
def yh{H:Hp}{p:AdX}(h:H p=none)(o:HO):Same H (upd H p o):=λb u q=>by rw[zR (jF q h)];exact q
theorem YS{env:Env}:∀(l:List (Str×NameKind)) (cs:LSA),(∀x∈l,x.2=.free->∃c,env.cells.lookup x.1=some c)->
  ∃cl,(forIn l cs λ(x:Str×NameKind) (cs:LSA)=>if (x.2==NameKind.free)=true then (do let c <-cellOf env x.1;pure (ForInStep.yield ((x.1,c)::cs)):Sem (ForInStep (List (Str×Addr)))) else pure (ForInStep.yield cs))=(pure cl:Sem (List (Str×Addr)))
   /\(∀p∈cl,p∈cs\/env.cells.lookup p.1=some p.2)/\(∀p∈cs,p∈cl)/\∀n,(n,NameKind.free)∈l->∃c,(n,c)∈cl
 |[],cs,_=>⟨cs,rfl,λp hp=>.inl hp,λp hp=>hp,λn hn=>absurd hn (by simp)⟩
 |(n,k)::r,cs,h=>by
  by_cases hk:k=.free
  ·subst hk;obtain⟨c,hc⟩:=h (n,.free) ki rfl;obtain⟨cl,e,h1,h2,h3⟩:=YS r ((n,c)::cs) λx hx=>h x (qD _ hx)
   have ec:cellOf env n=pure c:=by
    unfold cellOf;rw[hc]
   refine⟨cl,?_,λp hp=>?_,λp hp=>h2 p (qD _ hp),λm hm=>?_⟩
   ·rw[mN];show((do let c <-cellOf env n;pure (ForInStep.yield ((n,c)::cs)):Sem (ForInStep (List (Str×Addr)))) >>= _)=_
    rw[ec,pure_bind,pure_bind];exact e
   ·rcases h1 p hp with z|z
    ·rcases qw.mp z with z|z
     ·subst z;exact .inr hc
     ·exact .inl z
    ·exact .inr z
   ·rcases qw.mp hm with z|z
    ·cases z;exact⟨c,h2 _ ki⟩
    ·exact h3 m z
  ·obtain⟨cl,e,h1,h2,h3⟩:=YS r cs λx hx=>h x (qD _ hx)
   have hb:(k==NameKind.free)=false:=by simpa using hk
   refine⟨cl,?_,h1,h2,λm hm=>?_⟩
   ·rw[mN];show((if (k==NameKind.free)=true then _ else pure (ForInStep.yield cs):Sem (ForInStep (List (Str×Addr)))) >>= _)=_
    rw[hb,qm qE,pure_bind];exact e
   ·rcases qw.mp hm with z|z
    ·cases z;exact absurd rfl hk
    ·exact h3 m z
structure Uj(scope:Scope)(env:Env)(cl:LSA):Prop where
 from_:∀p∈cl,env.cells.lookup p.1=some p.2
 all:∀n,(n,NameKind.free)∈scope.names->∃c,(n,c)∈cl
def Jc{scope:Scope}{env:Env}(h:∀x∈scope.names,x.2=.free->∃c,env.cells.lookup x.1=some c):∃cl,closureFor scope env=pure cl/\Uj scope env cl:=by
 obtain⟨cl,e,h1,_,h3⟩:=YS (env:=env) scope.names [] h;refine⟨cl,?_,λp hp=>(h1 p hp).resolve_left (by simp),h3⟩;have e2:closureFor scope env=(forIn scope.names [] λ(x:Str×NameKind) (cs:LSA)=>if (x.2==NameKind.free)=true then (do let c <-cellOf env x.1;pure (ForInStep.yield ((x.1,c)::cs)):Sem (ForInStep (List (Str×Addr)))) else pure (ForInStep.yield cs)) >>= pure:=by rfl
 rw[e2,e];exact pure_bind _ _
def ZM{cl:LSA}{n:Str}{c:AdX}(h:(n,c)∈cl):∃c',cl.lookup n=some c':=by
 induction cl with
 |nil=>cases h
 |cons p r ih=>
  have⟨m,d⟩:=p;rw[kb];by_cases e:n=m
  ·subst e;exact⟨d,by simp⟩
  ·have hb:(n==m)=false:=by simpa using e
   rw[hb];rcases qw.mp h with z|z
   ·cases z;exact absurd rfl e
   ·exact ih z
def Uj.look{scope:Scope}{env:Env}{cl:LSA}(k:Uj scope env cl){x:Str}{c:AdX}(h:cl.lookup x=some c):env.cells.lookup x=some c:=k.from_ _ (kx h)
def Uj.has{scope:Scope}{env:Env}{cl:LSA}(k:Uj scope env cl){x:Str}(h:(x,NameKind.free)∈scope.names):∃c,cl.lookup x=some c/\env.cells.lookup x=some c:=by
 have⟨c,hc⟩:=k.all x h;have⟨c',e⟩:=ZM hc;exact⟨c',e,k.look e⟩
def U3{scope:Scope}{env:Env}{x:Str}:∀{k:NameKind},(relabel scope env).names.lookup x=some k->scope.names.lookup x=some k\/(k=.cell/\scope.names.lookup x=some .free):=by
 unfold relabel;dsimp only;generalize scope.names=l;induction l with
 |nil=>intro k h;cases h
 |cons p r ih=>
  intro k h;have⟨n,j⟩:=p;rw[gp,kb] at h;rw[kb];by_cases hc:(j==NameKind.free&&env.scope.kind==ScopeKind.function&&env.kindOf n==some NameKind.cell)=true
  ·rw[qg hc] at h;dsimp only at h;cases e:x==n with
   |true=>
    rw[e] at h;dsimp only at h;cases h;have hj:j=.free:=by
     simp only [gW,kU] at hc;exact hc.1.1
    subst hj;exact .inr ⟨rfl,rfl⟩
   |false=>
    rw[e] at h;exact ih h
  ·rw[qm hc] at h;dsimp only at h;cases e:x==n with
   |true=>
    rw[e] at h;exact .inl h
   |false=>
    rw[e] at h;exact ih h
def za2{scope:Scope}{env:Env}{x:Str}(h:scope.names.lookup x=some .free):(relabel scope env).names.lookup x=some .cell\/(relabel scope env).names.lookup x=some .free:=by
 revert h
 unfold relabel;dsimp only;generalize scope.names=l;induction l with
 |nil=>intro h;cases h
 |cons p r ih=>
  intro h;have⟨n,j⟩:=p;rw[kb] at h;rw[gp,kb];by_cases hc:(j==NameKind.free&&env.scope.kind==ScopeKind.function&&env.kindOf n==some NameKind.cell)=true
  ·rw[qg hc];dsimp only;cases e:x==n with
   |true=>exact .inl rfl
   |false=>rw[e] at h;exact ih h
  ·rw[qm hc];dsimp only;cases e:x==n with
   |true=>rw[e] at h;exact .inr h
   |false=>rw[e] at h;exact ih h
def zdt(o:Option Str)(C:AdX):List (Str×Addr):=match o with |some x=>[(x,C+1)]|none=>[]
def jC(X:Cx)(o:Option Str)(N:LSr)(scope:Scope)(cl:LSA)(C:AdX)(ex:LAd)(s:ShX)(H:Hp):Cx:={ X with N:=N,s₀:=s,H₀:=H,env:=compEnvC scope (zdt o C++cl) C X.env,outer:=X.stack,ex:=ex,fn:=λy=>o==some y,pn:=[],xe:=λ_ _=>False }
abbrev yc(X:Cx)(N:LSr)(scope:Scope)(cl:LSA)(C:AdX)(ex:LAd)(s:ShX)(H:Hp):Cx:=jC X none N scope cl C ex s H
structure jD(X:Cx)(scope:Scope)(o:Option Str):Prop where
 kind:scope.kind=.function
 is:∀x,o=some x->scope.names.lookup x=some .cell
 only:∀y∈scope.names,y.2=.cell->o=some y.1
 cf:∀(n:Nat)(acc:LSA),cellsFrom (n+1) scope.names acc=zdt o n++acc
 pc:∀h:Heap,pushCells h scope.names=match o with |some _=>h.push { cls:=.type "cell",data:=.cell none }|none=>h
 loc:∀y∈scope.names,y.2=.local->scope.names.lookup y.1=some .local
 free:∀y∈scope.names,y.2=.free->X.env.kindOf y.1=some .cell\/X.env.kindOf y.1=some .free
structure yq(X:Cx)(scope:Scope):Prop where
 kind:scope.kind=.function
 nocell:∀y∈scope.names,y.2≠ .cell
 loc:∀y∈scope.names,y.2=.local->scope.names.lookup y.1=some .local
 free:∀y∈scope.names,y.2=.free->X.env.kindOf y.1=some .cell\/X.env.kindOf y.1=some .free
theorem nocells:∀names:List (Str×NameKind),(∀y∈names,y.2≠ .cell)->(∀n acc,cellsFrom n names acc=acc)/\∀h,pushCells h names=h
 |[],_=>⟨λ_ _=>rfl,λ_=>rfl⟩
 |(x,k)::r,h=>by
  have hk:¬(k==NameKind.cell)=true:=λe=>h _ (.head _) (kU.mp e)
  obtain⟨h1,h2⟩:=nocells r λy hy=>h y (.tail _ hy)
  refine⟨λn acc=>?_,λhh=>?_⟩
  ·unfold cellsFrom;rw[qm hk];exact h1 n acc
  ·unfold pushCells;rw[qm hk];exact h2 hh
def yq.o{X:Cx}{scope:Scope}(S:yq X scope):jD X scope none:=⟨S.kind,λx h=>(by cases h),λy hy h=>absurd h (S.nocell y hy),λn acc=>(nocells _ S.nocell).1 (n+1) acc,λh=>(nocells _ S.nocell).2 h,S.loc,S.free⟩
def uw{o:Option Str}{C c:AdX}{cl:LSA}{y:Str}(h:(zdt o C++cl).lookup y=some c):(o=some y/\C+1=c)\/(o≠some y/\cl.lookup y=some c):=by
 cases o with
 |none=>exact .inr ⟨by simp,h⟩
 |some x=>
  have h:((x,C+1)::cl).lookup y=some c:=h;rw[kb] at h;cases e:y==x with
  |true=>rw[e] at h;cases h;exact .inl ⟨by rw[kU.mp e],rfl⟩
  |false=>rw[e] at h;exact .inr ⟨λz=>beq_eq_false_iff_ne.mp e (qZ z).symm,h⟩
def zgn{o:Option Str}{C:AdX}{cl:LSA}{y:Str}(h:¬o=some y):(zdt o C++cl).lookup y=cl.lookup y:=by
 cases o with
 |none=>rfl
 |some x=>
  show((x,C+1)::cl).lookup y=_
  rw[kb,kv.mpr λz=>h (by rw[z])]
def zki{o:Option Str}{C:AdX}{cl:LSA}{y:Str}(h:o=some y):(zdt o C++cl).lookup y=some (C+1):=by
 subst h;show((y,C+1)::cl).lookup y=_
 rw[kb,beq_self_eq_true]
def UB(T:Nat)(F:LNt)(σ:St):St:=List.replicate T none++F.map λj=>(σ[j]?).join
section
variable{X:Cx}{o:Option Str}{pins:PNx}{σ:St}{H:Hp}{s:ShX}
def Wn(I:Inv X pins σ H s){scope:Scope}(S:jD X scope o):∀x∈scope.names,x.2=.free->∃c,X.env.cells.lookup x.1=some c:=λx hx hf=>I.ok.has x.1 (S.free x hx hf)
def UE(I:Inv X pins σ H s){scope:Scope}(S:yq X scope):∀x∈scope.names,x.2=.free->∃c,X.env.cells.lookup x.1=some c:=Wn I S.o
def zf4(I:Inv X pins σ H s){scope:Scope}(S:jD X scope o){cl:LSA}(k:Uj scope X.env cl){N:LSr}{C:AdX}{ex:LAd}(hC:s.heap.objs.size<=C)(hex:∀b∈ex,u0 X pins H b)(hexo:∀b∈ex,∃o,s.heap.get? b=some o):(jC X o N scope cl C ex s H).Ok where
 mod:=I.ok.mod
 kind:=S.kind
 glob:=I.ok.glob
 blt:=I.ok.blt
 above:=hC
 inj:=λx y c h1 h2=>by
  have lt:∀z,cl.lookup z=some (C+1)->False:=λz hz=>by
   obtain⟨v,o,e,_⟩:=I.cell z _ (k.look hz);exact kX C (pf (kA C) (qN (qM e) hC))
  rcases uw h1 with⟨e1,z1⟩|⟨_,z1⟩<;>rcases uw h2 with⟨e2,z2⟩|⟨_,z2⟩
  ·rw[e1] at e2;exact qZ e2
  ·rw[<-z1] at z2;exact(lt y z2).elim
  ·rw[<-z2] at z1;exact(lt x z1).elim
  ·exact I.ok.inj x y c (k.look z1) (k.look z2)
 has:=λx hx=>by
  have hx':(relabel scope X.env).names.lookup x=some .cell\/(relabel scope X.env).names.lookup x=some .free:=hx;by_cases hxx:o=some x
  ·exact⟨C+1,zki hxx⟩
  ·have hf:(x,NameKind.free)∈scope.names:=by
    rcases hx' with h|h
    ·rcases U3 h with h|⟨_,h⟩
     ·exact absurd (S.only _ (kx h) rfl) hxx
     ·exact kx h
    ·rcases U3 h with h|⟨h0,_⟩
     ·exact kx h
     ·cases h0
   have⟨c,e,_⟩:=k.has hf;exact⟨c,(zgn hxx).trans e⟩
 cab:=λx c h hc=>by
  have hx:o=some x:=kU.mp (show(o==some x)=true from h);rcases uw hc with⟨_,z⟩|⟨z,_⟩
  ·rw[<-z];exact pj hC
  ·exact absurd hx z
 hd:=I.ok.hd
 frames:=I.ok.frames
 stk:=.inl rfl
 exf:=λb hb=>by
  have⟨o,e⟩:=hexo b hb;have hlt:=qM e;refine⟨λz=>?_,λx c e' z=>?_⟩
  ·have e2:b=C:=z;rw[e2] at hlt;exact kX C (qN hlt hC)
  ·rcases uw e' with⟨_,q⟩|⟨_,q⟩
   ·have e2:C+1=b:=q.trans z;rw[<-e2] at hlt;exact kX C (pf (kA C) (qN hlt hC))
   ·exact(hex b hb).2.2.2.2.1 x c (k.look q) z
 bs:=I.bs
 bsz:=qB I.ok.bsz I.sz
 noex:=λb o e hb=>by
  rcases(hex b hb).2.2.2.1 with z|z
  ·exact I.ok.noex b o e z
  ·exact kX _ (qN (qM e) (qB I.ok.bsz z))
 exfs:=λb hb z=>by
  rcases qw.mp (I.zdu b z) with z|z
  ·exact(hex b hb).2.1 z
  ·exact(hex b hb).2.2.1 z
 funs:=I.stack
 frf:=I.zeS
def Wx(I:Inv X pins σ H s){scope:Scope}(S:jD X scope o){cl:LSA}(k:Uj scope X.env cl){Ts:LSr}{F:LNt}{ex:LAd}{h':Heap}{tk:Nat}(hex:∀b∈ex,u0 X pins H b)(hexo:∀b∈ex,∃o,s.heap.get? b=some o)(hF:∀j∈F,∃x,X.N[j]?=some x/\scope.names.lookup x=some .free)(hns:h'.Ns s.heap.objs.size (λ_=>none))(hk:∀b o,s.heap.get? b=some o->h'.get? b=some o)(hcl:∀x,o=some x->h'.IsCell (s.heap.objs.size+1) none):Inv (jC X o (Ts++F.map λj=>X.N.getD j "") scope cl s.heap.objs.size ex s H) [] (UB Ts.length F σ) H { s with heap:=h',toks:=tk }:=by
 refine⟨zf4 I S k (qk _) hex hexo,rfl,I.bare,Un.kept hk,⟨_,hns,λi x v h1 h2 h3=>?_⟩,λx c h=>?_,I.hok.fresh (qk _),λx c h=>(by
   rcases uw h with⟨_,z⟩|⟨_,z⟩
   ·rw[<-z];exact I.hok.fresh (nI _)
   ·exact I.freeC x c (k.look z)),λp hp=>absurd (show p∈([]:PNx) from hp) (by simp),I.hok.kept hk,?_⟩
 ·have h1':(Ts++F.map λj=>X.N.getD j "")[i]?=some x:=h1;unfold UB at h2;have hi:Ts.length<=i:=by
   by_cases z:Ts.length<=i
   ·exact z
   ·rw[qT (by simpa using Nat.lt_of_not_le z),kJ] at h2;split at h2<;>cases h2
  rw[qz (by simpa using hi),mB,qp] at h2;rw[qz hi,qp] at h1';cases ej:F[i - Ts.length]? with
  |none=>rw[ej] at h2;cases h2
  |some j=>
   rw[ej] at h2 h1';obtain⟨y,hy,hf⟩:=hF j (qH ej);have ex:x=y:=by
    have e1:X.N.getD j ""=x:=qZ h1';rw[qL,hy] at e1;exact e1.symm
   subst ex;have hs:σ[j]?=some (some v):=by
    have h2':(σ[j]?).join=some v:=qZ h2;cases e:σ[j]? with
    |none=>rw[e] at h2';cases h2'
    |some o=>rw[e] at h2';exact qG some h2'
   have hkf:=S.free _ (kx hf) rfl;have⟨m,hn,hl⟩:=I.loc
   have hv:Vis X.env.scope x:=.inr hkf;have⟨u,r,l⟩:=hl j x v hy hs hv
   refine⟨u,r,.inr ⟨za2 hf,?_⟩⟩;rcases l with⟨hl',_⟩|⟨_,c,hc,⟨o,ho,hd⟩⟩
   ·rcases hkf with z|z<;>(rw[z] at hl';cases hl')
   ·obtain⟨c',e1,e2⟩:=k.has (kx hf);rw[hc] at e2;cases e2;exact⟨c,(zgn (λq=>by rw[S.is _ q] at hf;cases hf)).trans e1,⟨o,hk _ _ ho,hd⟩⟩
 ·rcases uw h with⟨z0,z⟩|⟨_,z⟩
  ·rw[<-z];exact⟨none,hcl x z0⟩
  ·obtain⟨v,o,ho,hd⟩:=I.cell x c (k.look z);exact⟨v,o,hk _ _ ho,hd⟩
 ·show(UB Ts.length F σ).length=(Ts++F.map λj=>X.N.getD j "").length
  simp[UB]
def zdg(I:Inv X pins σ H s){scope:Scope}(S:yq X scope){cl:LSA}(k:Uj scope X.env cl){Ts:LSr}{F:LNt}{ex:LAd}{h':Heap}{tk:Nat}(hex:∀b∈ex,u0 X pins H b)(hexo:∀b∈ex,∃o,s.heap.get? b=some o)(hF:∀j∈F,∃x,X.N[j]?=some x/\scope.names.lookup x=some .free)(hns:h'.Ns s.heap.objs.size (λ_=>none))(hk:∀b o,s.heap.get? b=some o->h'.get? b=some o):Inv (yc X (Ts++F.map λj=>X.N.getD j "") scope cl s.heap.objs.size ex s H) [] (UB Ts.length F σ) H { s with heap:=h',toks:=tk }:=Wx I S.o k hex hexo hF hns hk λx h=>(by cases h)
end
theorem Jz{prog:Program}{w:World}{A:Around}{R:Result->Shared->Prop}{s:ShX}{elt target iter:Expr}{scope:Scope}{pos:Pos}{it acc:Value}{env:Env}(I:Nat->Shared->Prop)(turn:∀n s,I n s->wpAny (model prog w) A (pyNext it) (λr s₁=>match r with
   |none=>R (.ok .next) s₁
   |some v=>wpAny (model prog w) A (letOwnedTupleGo target it v) (λ_ s₂=>wpAny (model prog w) A (assign target env v) (λ_ s₃=>wpAny (model prog w) A (eval elt env) (λx s₄=>
     wpAny (model prog w) A (call (.builtin "list.append") [acc,x]) (λ_ s₅=>∃m,m<n/\I m s₅) (λ_ _=>False) s₄) (λ_ _=>False) s₃) (λ_ _=>False) s₂) (λ_ _=>False) s₁) (λ_ _=>False) s)(n:Nat)(h:I n s):codeAny (model prog w) A (.compLoop (.ListComp elt [⟨target,iter,[],0⟩] scope pos) 0 it acc env) R s:=by
 refine codeAny_loop rfl I (λn s hI=>?_) n h;show wpAny _ _ ((compTurn (.ListComp elt [⟨target,iter,[],0⟩] scope pos) 0 it acc env).onRaise (λx=>do noteFrame x env;theTreesLotGoes x)) _ _ s
 refine wpAny_noted ?_;rw[compTurn_list1];refine qq (nD (qq (k5 (turn n s hI) (λr s₁ h₁=>?_) λ_ _ h'=>h'.elim)));cases r with
 |none=>exact qQ h₁
 |some v=>
  refine qq (k5 h₁ (λ_ s₂ h₂=>?_) λ_ _ h'=>h'.elim);exact qq (k5 h₂ (λ_ s₃ h₃=>qq (qq (k5 h₃ (λx s₄ h₄=>qq (k5 h₄
   (λ_ s₅ h₅=>qQ (qQ ⟨rfl,h₅⟩)) λ_ _ h'=>h'.elim)) λ_ _ h'=>h'.elim))) λ_ _ h'=>h'.elim)
def zgX(T:Nat)(F:LNt)(g:TG)(te:TE)(k:Addr->Hp->Prop)(σ:St)(H1:Hp)(D:AdX)(J:It):Prop:=∃W:Nat->Nat->St->Hp->Prop,(∃m,W 0 m (UB T F σ) (upd H1 D (.lst [])))/\∀i m σ' H',W i m σ' H'->
  (J.stop i H'/\k D H')\/(J.go i H'/\∃N:St->Hp->Prop,(∀σ2 H2,N σ2 H2->∃m',m'<m/\W (i+1) m' σ2 H2)/\
   ∀x H2,J.yld i H' x H2->g x σ' H2 λσ2 H3=>te σ2 H3 λv H4=>∃xs,H4 D=some (.lst xs)/\xs.length<sizeLine/\N σ2 (upd H4 D (.lst (xs++[v]))))
def zdF(T:Nat)(F:LNt)(wi:TI)(g:TG)(te:TE)(k:Addr->Hp->Prop):St->Hp->Prop:=λσ H=>wi σ H λJ H1=>∀D,H1 D=none->zgX T F g te k σ H1 D J
def zjx(T:Nat)(F:LNt)(wi:TI)(g:TG)(te:TE):TE:=λσ H Q=>zdF T F wi g te (λD H'=>Q (.ref D) H') σ H
def Zy{X:Cx}{M:Model}{A:Around}{E:VSx}{s:ShX}{scope:Scope}{o:Option Str}{globals:AdX}{cl:LSA}{qual:Str}{env:Env}{Q:Env->Shared->Prop}(S:jD X scope o)(hQ:∀h',h'.Ns s.heap.objs.size (λ_=>none)->(∀b o,s.heap.get? b=some o->h'.get? b=some o)->(∀x,o=some x->h'.IsCell (s.heap.objs.size+1) none)->Q (newEnv scope s.heap.objs.size globals (zdt o s.heap.objs.size++cl) qual none .none (some env) builtinsNs) { s with heap:=h',toks:=s.toks }):wpAny M A (newFunctionEnv scope globals cl [] qual none .none (some env)) Q E s:=by
 simp only [newFunctionEnv,Option.isSome_some,nY];refine qq (wpAny_alloc ?_);refine qq (wpAny_layCells _ (λname kind cells=>by cases hkc:kind==NameKind.cell<;>simp[hkc]) _ _ _ _ ?_);rw[show({ s with heap:=s.heap.push { cls:=.type "dict",data:=.dict #[] } }:ShX).heap.objs.size=s.heap.objs.size+1 from k6 ..,S.cf,S.pc,nJ];refine qq (qQ (qQ (hQ _ ?_ ?_ ?_)))
 ·cases o with
  |none=>exact Heap.Ns.new s.heap (.type "dict")
  |some x=>exact(Heap.Ns.new s.heap (.type "dict")).keeps λb o e=>qj _ e
 ·cases o with
  |none=>exact λb o e=>qj _ e
  |some x=>exact λb o e=>qj _ (qj _ e)
 ·intro x ho;subst ho;have e:((s.heap.push { cls:=.type "dict",data:=.dict #[] }).push { cls:=.type "cell",data:=.cell none }).get? (s.heap.push { cls:=.type "dict",data:=.dict #[] }).objs.size=some { cls:=.type "cell",data:=.cell none }:=qI _ rfl;rw[k6] at e;exact⟨_,e,rfl⟩
section
variable{X:Cx}{o:Option Str}{elt tg iter:Expr}{scope:Scope}{pos:Pos}{Ts:LSr}{F:LNt}{wi:TI}{g:TG}{te:TE}
def zap{cl:LSA}{use:Option (Value->Sem Unit)}{Q:VSx}{pins:PNx}{s:ShX}{σ:St}{H:Hp}{k:Addr->Hp->Prop}(hc:X.calm=true)(hi:PI X tg iter wi)(S:jD X scope o)(hF:∀j∈F,∃x,X.N[j]?=some x/\scope.names.lookup x=some .free)(hg:∀cl C ex s H,PG (jC X o (Ts++F.map λj=>X.N.getD j "") scope cl C ex s H) tg g)(he:∀cl C ex s H,PE (jC X o (Ts++F.map λj=>X.N.getD j "") scope cl C ex s H) elt te)(ko:Uj scope X.env cl)(I:Inv X pins σ H s)(h:zdF Ts.length F wi g te k σ H)(fin:∀(s':ShX)(H':Hp)(D C:AdX)(m:Str->Option Value),Inv X pins σ H' s'->u0 X pins H' C->s'.heap.Ns C m->k D H'->compPost (model X.prog X.w) X.A X.xe use Q (.ref D) C (.ok .next) s'):wpAny (model X.prog X.w) X.A (eval iter X.env) (λx s₁=>wpAny (model X.prog X.w) X.A (pyIter x) (λit s₂=>wpAny (model X.prog X.w) X.A (newList []) (λacc s₃=>
   wpAny (model X.prog X.w) X.A (newFunctionEnv scope X.env.globals cl [] X.env.qual none .none (some X.env)) (λcenv s₄=>
    codeAny (model X.prog X.w) X.A (.compStart (.ListComp elt [⟨tg,iter,[],0⟩] scope pos) 0 it acc { cenv with scope:=relabel scope X.env }) (compPost (model X.prog X.w) X.A X.xe use Q acc cenv.locals) s₄) X.xe s₃) X.xe s₂) X.xe s₁) X.xe s:=by
 refine thn (hi pins s σ H _ I h) λv s1 h1=>thn h1 λitv s2 h2=>?_
 obtain⟨it,fp,tn,J,H2,rfl,I2,T,st2,f2,hW⟩:=h2;refine ny (Zy S λh₁ hns₁ hk₁ hc₁=>?_);dsimp only at hns₁ hk₁ hc₁ ⊢;have fresh2:H2 s2.heap.objs.size=none:=I2.hok.fresh (qk _);have⟨W,⟨m0,w0⟩,turn⟩:=hW s2.heap.objs.size fresh2
 generalize hD:s2.heap.objs.size=D at*;have I3:Inv X pins σ (upd H2 D (.lst [])) { s2 with heap:=s2.heap.push { cls:=.type "list",dict:=none,data:=.seq ([]:LVl).toArray } }:=by
  refine I2.laid (t':=s2.toks) (λb u e=>qj _ e) (nt hD) ?_;refine⟨by simp,[],0,.nil,?_⟩;rw[<-hD];exact qI _ rfl
 generalize hS3:({ s2 with heap:=s2.heap.push { cls:=.type "list",dict:=none,data:=.seq ([]:LVl).toArray } }:ShX)=s3 at*;have hh3:s3.heap=s2.heap.push { cls:=.type "list",dict:=none,data:=.seq ([]:LVl).toArray }:=by rw[<-hS3]
 have objs:∀b∈fp,∃o,s3.heap.get? b=some o:=λb hb=>by
  have⟨o,e,_⟩:=T.obj _ _ st2 b hb;exact⟨o,by rw[hh3];exact qj _ e⟩
 have neD:∀b∈fp,b≠D:=λb hb z=>by
  have⟨o,e,_⟩:=T.obj _ _ st2 b hb;have e1:=qM e;rw[hD,z] at e1;exact kX _ e1
 have f3:∀b∈fp,u0 X pins (upd H2 D (.lst [])) b:=λb hb=>⟨by rw[zR (neD b hb)];exact(f2 b hb).1,(f2 b hb).2⟩
 have hns:h₁.Ns s3.heap.objs.size (λ_=>none):=by
  rw[<-hS3];exact hns₁
 have keep:∀b o,s3.heap.get? b=some o->h₁.get? b=some o:=by
  rw[<-hS3];exact hk₁
 have hcl₁:∀x,o=some x->h₁.IsCell (s3.heap.objs.size+1) none:=by
  rw[<-hS3];exact hc₁
 have IY:=Wx (Ts:=Ts) (F:=F) (tk:=s3.toks) I3 S ko f3 objs hF hns keep hcl₁;have tn1:tn 0 h₁:=T.keep _ _ _ st2 λb hb o e=>keep b o (by rw[hh3];exact qj _ e)
 have stat:∀{H':Hp},(∀b∈fp,H' b=none)->∀b∈fp,u0 (jC X o (Ts++F.map λj=>X.N.getD j "") scope cl s3.heap.objs.size fp s3 (upd H2 D (.lst []))) [] H' b:=λhn b hb=>
  ⟨hn b hb,(IY.ok.exf b hb).1,IY.ok.exfs b hb,.inl hb,(IY.ok.exf b hb).2,λp hp=>absurd (show p∈([]:PNx) from hp) (by simp)⟩
 have back:∀{σ':St} {H':Hp} {s':ShX},Inv (jC X o (Ts++F.map λj=>X.N.getD j "") scope cl s3.heap.objs.size fp s3 (upd H2 D (.lst []))) [] σ' H' s'->k D H'->compPost (model X.prog X.w) X.A X.xe use Q (.ref D) s3.heap.objs.size (.ok .next) s':=λ{σ' H' s'} J' q=>by
  have hI:Inv X pins σ H' s':=by
   have⟨hh,gg,dd,tt,os'⟩:=s';have ho:os'=s3.os:=J'.os;subst ho;exact I3.call (h':=hh) (g':=gg) (d':=dd) (t':=tt) (ch:=fp) J'.base J'.hok J'.bare λb hb=>⟨(f3 b hb).2.2.2.1,(f3 b hb).2.1,(f3 b hb).2.2.2.2.1,(f3 b hb).2.2.2.2.2⟩
  have⟨m,hm,_⟩:=J'.loc;exact fin s' H' D s3.heap.objs.size m hI (I3.zbC (qk _) J'.free) hm q
 have loop:∀s4:Shared,s4={ s3 with heap:=h₁,toks:=s3.toks }->
   codeAny (model X.prog X.w) X.A (.compLoop (.ListComp elt [⟨tg,iter,[],0⟩] scope pos) 0 (.ref it) (.ref D) (compEnvC scope (zdt o s3.heap.objs.size++cl) s3.heap.objs.size X.env)) (compPost (model X.prog X.w) X.A X.xe use Q (.ref D) s3.heap.objs.size) s4:=by
  rintro s4 rfl;refine Jz (λn s'=>∃i σ' H',Inv (jC X o (Ts++F.map λj=>X.N.getD j "") scope cl s3.heap.objs.size fp s3 (upd H2 D (.lst []))) [] σ' H' s'/\tn i s'.heap/\(∀b∈fp,H' b=none)/\W i n σ' H') ?_ m0
   ⟨0,_,_,IY,tn1,λb hb=>(f3 b hb).1,w0⟩
  rintro n s5 ⟨i,σ5,H5,I5,st5,fr5,w5⟩;rcases turn i n σ5 H5 w5 with⟨stop,qn⟩|⟨go,N,hN,step⟩
  ·refine thn (T.done (jC X o (Ts++F.map λj=>X.N.getD j "") scope cl s3.heap.objs.size fp s3 (upd H2 D (.lst []))) rfl rfl rfl hc i [] s5 σ5 H5 _ I5 (stat fr5) st5 stop) λr s6 ⟨hr,I6⟩=>?_
   subst hr;exact back I6 qn
  ·refine thn (T.item (jC X o (Ts++F.map λj=>X.N.getD j "") scope cl s3.heap.objs.size fp s3 (upd H2 D (.lst []))) rfl rfl rfl hc i [] s5 σ5 H5 _ I5 (stat fr5) st5 go) λr s6 ⟨u,hr,h6⟩=>?_
   subst hr;refine thn h6 λ_ s7 ⟨x,H7,I7,r7,y7,st7,fr7⟩=>?_
   have I7':=I7.pinned (stat fr7) (T.obj _ _ st7);refine thn (hg cl _ fp s3 _ _ s7 σ5 H7 x u _ I7' r7 (step x H7 y7)) λ_ s8 ⟨σ8,H8,I8,q8⟩=>?_
   refine thn (he cl _ fp s3 _ _ s8 σ8 H8 _ I8 q8) λev s9 ⟨y,H9,I9,r9,xs,hx,hz,n9⟩=>?_
   refine thn (ux _ s9 σ8 H9 (.ref D) [y] (.ref D) [ev] (λ_ H'=>N σ8 H') I9 rfl (.cons r9 .nil) ⟨D,xs,y,rfl,rfl,hx,hz,n9⟩) λ_ s10 ⟨z,H10,I10,_,n10⟩=>?_
   have⟨m',hm,w10⟩:=hN σ8 H10 n10;refine⟨m',hm,i+1,σ8,H10,I10.uk,T.keep _ _ _ st7 λb hb o e=>(I10.pin (b,o) (qP _ (qP _ (jc hb e)))).1,λb hb=>?_,w10⟩;have⟨o,e,d⟩:=T.obj _ _ st7 b hb;exact(I10.pin (b,o) (qP _ (qP _ (jc hb e)))).2.1
 subst hS3;subst hD;exact codeAny_compStart_list (loop _ rfl) (T.self _ 0 _ _ _ tn1 (loop _ rfl))
def zha(hc:X.calm=true)(hi:PI X tg iter wi)(S:jD X scope o)(hF:∀j∈F,∃x,X.N[j]?=some x/\scope.names.lookup x=some .free)(hg:∀cl C ex s H,PG (jC X o (Ts++F.map λj=>X.N.getD j "") scope cl C ex s H) tg g)(he:∀cl C ex s H,PE (jC X o (Ts++F.map λj=>X.N.getD j "") scope cl C ex s H) elt te)(hs:FSx X iter:=by exact λ_=>rfl):PE X (.ListComp elt [⟨tg,iter,[],0⟩] scope pos) (zjx Ts.length F wi g te):=by
 intro pins s σ H Q I h;obtain⟨cl,hcl,ko⟩:=Jc (Wn I S);rw[eval_ListComp];refine mh (use:=none) rfl hs hcl S.kind S.loc (zap (use:=none) hc hi S hF hg he ko I h λs' H' D C m I' fC hm q=>?_);refine⟨m,hm,λh' hs'=>⟨.ref D,H',?_,rfl,q⟩⟩;exact I'.turned (t':=s'.toks) (λb o hb e=>hs'.extBut b o hb e) fC.1 fC.2.1 fC.2.2.2.1 fC.2.2.2.2.1 fC.2.2.2.2.2
def zig(hc:X.calm=true)(hi:PI X tg iter wi)(S:yq X scope)(hF:∀j∈F,∃x,X.N[j]?=some x/\scope.names.lookup x=some .free)(hg:∀cl C ex s H,PG (yc X (Ts++F.map λj=>X.N.getD j "") scope cl C ex s H) tg g)(he:∀cl C ex s H,PE (yc X (Ts++F.map λj=>X.N.getD j "") scope cl C ex s H) elt te)(hs:FSx X iter:=by exact λ_=>rfl):PE X (.ListComp elt [⟨tg,iter,[],0⟩] scope pos) (zjx Ts.length F wi g te):=zha hc hi S.o hF hg he hs
def zl4(T:Nat)(F:LNt)(wi:TI)(g:TG)(te:TE)(i:Nat):TS:=λD σ H=>zdF T F wi g te (λl H'=>D.nx (σ.set i (some (.ref l))) H') σ H
def UG{x:Str}{pos' spos:Pos}{i:Nat}(hN:X.N.Nodup)(hi':X.N[i]?=some x)(hx:X.env.scope.names.lookup x=some .local)(hc:X.calm=true)(hi:PI X tg iter wi)(S:yq X scope)(hF:∀j∈F,∃x,X.N[j]?=some x/\scope.names.lookup x=some .free)(hg:∀cl C ex s H,PG (yc X (Ts++F.map λj=>X.N.getD j "") scope cl C ex s H) tg g)(he:∀cl C ex s H,PE (yc X (Ts++F.map λj=>X.N.getD j "") scope cl C ex s H) elt te)(hsw:swapsWith (.ListComp elt [⟨tg,iter,[],0⟩] scope pos) (some (.Name x pos')) spos.line X.env=pure true:=by rfl)(hs:FSx X iter:=by exact λ_=>rfl):PS X (.Assign [.Name x pos'] (.ListComp elt [⟨tg,iter,[],0⟩] scope pos) spos) (zl4 Ts.length F wi g te i):=by
 intro pins s σ H D I h;obtain⟨cl,hcl,ko⟩:=Jc (UE I S);rw[exec_Assign_Name_used _ _ _ _ hsw];refine qq (nD (qq ?_));show wpAny _ X.A (do let _ <-comprehension (.ListComp elt [⟨tg,iter,[],0⟩] scope pos) scope X.env _ (newList []) false (eval iter X.env) (some (assign (.Name x pos') X.env))) _ _ s
 refine qq (k5 (mh (use:=some (assign (.Name x pos') X.env)) (Q:=λ_ s'=>SP X pins D .next s') rfl hs hcl S.kind S.loc
  (zap (use:=some (assign (.Name x pos') X.env)) hc hi S.o hF hg he ko I h λs' H' l C m I' fC hm q=>?_)) (λ_ s' hq=>qQ (qQ hq)) λ_ _ e=>e)
 show wpAny _ X.A (assign (.Name x pos') X.env (.ref l)) _ _ s'
 refine pL (VS I' hN hi' (.inl hx) (show RelV (.ref l) (.ref l) from rfl) (λs2 I2 hsame=>?_) (.inr hx));have⟨a,hsb,ha⟩:=hsame;have neC:C≠a:=by
  rcases ha with rfl|ha
  ·exact fC.2.1
  ·exact λz=>fC.2.2.2.2.1 x a ha z.symm
 have hm2:s2.heap.Ns C m:=hm.sameBut hsb neC;refine⟨m,hm2,λh' hs'=>⟨_,H',?_,q⟩⟩;exact I2.turned (t':=s2.toks) (λb o hb e=>hs'.extBut b o hb e) fC.1 fC.2.1 fC.2.2.2.1 fC.2.2.2.2.1 fC.2.2.2.2.2
end
section
variable{X:Cx}
def zgl(hc:X.calm=true):we X (.builtin "sum") (λxs H Q=>∃(p:AdX)(ns:List Int),xs=[.ref p]/\SqL X.K H p (ns.map V.int)/\Q (.int ns.sum) H):=by
 intro pins s σ H xs us Q I r h;obtain⟨p,ns,rfl,hS,q⟩:=h;obtain⟨u,rfl,ru⟩:=vals1 r;cases ru;have⟨its,rv,pl,hz⟩:=I.list hS;have hi:IntsAre its ns:=intsAre_of rv;have es:(numsOf its.toArray.toList).sum=ns.sum:=by rw[show its.toArray.toList=its from rfl,hi.numsOf]
 have⟨zs,e⟩:=hi.allInts.items;rw[e,nums_intItems] at es;have hL:=pl.isList;rw[e] at hL;refine sum_intListG (I.ok.hd hc) hL λh' tk t' hk=>?_
 rw[preSum_eq,nu (by simp)];exact⟨.int ns.sum,H,I.kept hk,⟨t',by rw[es]⟩,q⟩
end
def xp(t:Bool)(h:Heap)(a:AdX)(vs:Array Value):Prop:=match t with |true=>h.IsTuple a vs|false=>h.IsList a vs
def xi(t:Bool)(h:Heap)(j a:AdX)(i:Nat):Prop:=match t with |true=>h.IsTupleIter j a i|false=>h.IsListIter j a i
def uB(t:Bool):String:=match t with |true=>"tuple_iterator" |false=>"list_iterator"
def xp.stay{t:Bool}{h h':Heap}{a:AdX}{vs:Array Value}(x:xp t h a vs)(e:∀o,h.get? a=some o->h'.get? a=some o):xp t h' a vs:=by
 cases t
 ·obtain⟨o,ho,r⟩:=(show h.IsList a vs from x);exact(show h'.IsList a vs from⟨o,e _ ho,r⟩)
 ·obtain⟨o,ho,r⟩:=(show h.IsTuple a vs from x);exact(show h'.IsTuple a vs from⟨o,e _ ho,r⟩)
def xi.stay{t:Bool}{h h':Heap}{j a:AdX}{i:Nat}(x:xi t h j a i)(e:∀o,h.get? j=some o->h'.get? j=some o):xi t h' j a i:=by
 cases t
 ·obtain⟨o,ho,r⟩:=(show h.IsListIter j a i from x);exact(show h'.IsListIter j a i from⟨o,e _ ho,r⟩)
 ·obtain⟨o,ho,r⟩:=(show h.IsTupleIter j a i from x);exact(show h'.IsTupleIter j a i from⟨o,e _ ho,r⟩)
def xi.obj{t:Bool}{h:Heap}{j a:AdX}{i:Nat}(x:xi t h j a i):∃o,h.get? j=some o/\∀v,o.data≠ .cell v:=by
 cases t
 ·obtain⟨o,ho,hc,hd⟩:=(show h.IsListIter j a i from x);exact⟨o,ho,λv z=>by rw[hd] at z;cases z⟩
 ·obtain⟨o,ho,hc,hd⟩:=(show h.IsTupleIter j a i from x);exact⟨o,ho,λv z=>by rw[hd] at z;cases z⟩
def xp.lt{t:Bool}{h:Heap}{a:AdX}{vs:Array Value}(x:xp t h a vs):a<h.objs.size:=by
 cases t
 ·obtain⟨o,ho,_⟩:=(show h.IsList a vs from x);exact qM ho
 ·obtain⟨o,ho,_⟩:=(show h.IsTuple a vs from x);exact qM ho
section
variable{prog:Program}{w:World}{A:Around}{E:VSx}{s:ShX}
def JV{t:Bool}{j a:AdX}{i:Nat}{vs:Array Value}{v:Value}{Q:VSx}(hd:xi t s.heap j a i)(hs:xp t s.heap a vs)(hv:vs[i]?=some v)(hQ:∀h',xi t h' j a (i+1)->Heap.SameBut j s.heap h'->Q v { s with heap:=h' }):wpAny (model prog w) A (Builtin.SmallTypes.nextOf (.ref j)) Q E s:=by
 cases t
 ·exact wpAny_nextOf_list_item (show s.heap.IsListIter j a i from hd) (show s.heap.IsList a vs from hs) hv hQ
 ·have hd':s.heap.IsTupleIter j a i:=hd;have⟨ob,hob,hcl,hda⟩:=id hd'
  obtain⟨oa,hoa,_,na,hdt⟩:=(show s.heap.IsTuple a vs from hs);unfold Builtin.SmallTypes.nextOf;refine qq (mv (name:=Str.ofString "__next__") hd'.typeIs gY (nG gY hd'.typeIs F.entry_tuple_iterator_next ?_ (F.args_tuple_iterator_next_1 _)));show wpAny _ _ (field (.ref j) 0 >>= _) _ _ s
  refine qq (gu hob hda (x:=.ref a) rfl ?_);show wpAny _ _ (if (Value.ref a==Value.none)=true then _ else _) _ _ s
  rw[qm (show ¬((Value.ref a==Value.none)=true) from qE)];show wpAny _ _ (field (.ref j) 1 >>= _) _ _ s
  refine qq (gu hob hda (x:=.int i 0) rfl ?_);show wpAny _ _ (seqItems? (.ref a) >>= _) _ _ s
  refine qq (gE hoa hdt ?_);simp only [kq,hv];refine qq (wpAny_setField hob hda (by simp) (qQ ⟨v,rfl,qQ (hQ _ ?_ (Heap.SameBut.update ..))⟩));show Heap.IsTupleIter _ j a (i+1)
  exact⟨_,Heap.get?_update_self _ hob (Obj.isFreed_of_fields (Obj.data_mapFields hda _)),(Obj.cls_mapFields ..).trans hcl,by rw[Obj.data_mapFields hda];simp[rawInt]⟩
def J1{t:Bool}{j a:AdX}{i:Nat}{vs:Array Value}{Q:VSx}(hh:A.handled=none)(hd:xi t s.heap j a i)(hs:xp t s.heap a vs)(hv:vs[i]?=none)(hE:∀h' e,Heap.ExtBut j s.heap h'->(∃o,h'.get? e=some o/\o.cls=.type "StopIteration")->E (.ref e) { s with heap:=h' }):wpAny (model prog w) A (Builtin.SmallTypes.nextOf (.ref j)) Q E s:=by
 cases t
 ·exact wpAny_nextOf_list_end hh (show s.heap.IsListIter j a i from hd) (show s.heap.IsList a vs from hs) hv hE
 ·have hd':s.heap.IsTupleIter j a i:=hd;have⟨ob,hob,hcl,hda⟩:=id hd'
  obtain⟨oa,hoa,_,na,hdt⟩:=(show s.heap.IsTuple a vs from hs);unfold Builtin.SmallTypes.nextOf;refine qq (mv (name:=Str.ofString "__next__") hd'.typeIs gY (nG gY hd'.typeIs F.entry_tuple_iterator_next ?_ (F.args_tuple_iterator_next_1 _)));show wpAny _ _ (field (.ref j) 0 >>= _) _ _ s
  refine qq (gu hob hda (x:=.ref a) rfl ?_);show wpAny _ _ (if (Value.ref a==Value.none)=true then _ else _) _ _ s
  rw[qm (show ¬((Value.ref a==Value.none)=true) from qE)];show wpAny _ _ (field (.ref j) 1 >>= _) _ _ s
  refine qq (gu hob hda (x:=.int i 0) rfl ?_);show wpAny _ _ (seqItems? (.ref a) >>= _) _ _ s
  refine qq (gE hoa hdt ?_);simp only [kq,hv];refine qq (wpAny_rule (qq (wpAny_setField hob hda (by simp) ?_)));show wpAny _ _ ((newExc (.type "StopIteration") []) >>= _) _ _ _
  refine qq ?_;simp only [newExc,newTuple];refine qq (ny ?_ (by size_fits));refine qq (m:=firstArgMember _ _) (wpAny_of_eq (a:=Value.none) (by first |rfl|(simp only [firstArgMember]<;>rfl)) ?_);refine ny ?_ (by size_fits);simp only [raiseNew];refine qq (wpAny_handled ?_);first |rw[show A.in1.handled=none from hh]|rw[hh]
  refine qq (qQ (wpAny_throw ?_));exact hE _ _ (((Heap.SameBut.update ..).extBut.push _).push _) ⟨_,qI _ rfl,rfl⟩
end
section
variable{prog:Program}{w:World}{A:Around}{E:VSx}{s:ShX}
def zjd{t1 t2:Bool}{z ti tu j1 j2 a1 a2:AdX}{k1 k2:Nat}{xs ys:Array Value}{x y b1 b2:Value}{Q:VSx}(D:ZipApart z ti tu j1 j2 a1 a2)(hz:IsZip s.heap z ti tu .none)(hti:IsPair s.heap ti (.ref j1) (.ref j2))(htu:IsPair s.heap tu b1 b2)(d1:xi t1 s.heap j1 a1 k1)(d2:xi t2 s.heap j2 a2 k2)(c1:xp t1 s.heap a1 xs)(c2:xp t2 s.heap a2 ys)(hx:xs[k1]?=some x)(hy:ys[k2]?=some y)(hQ:∀h',IsZip h' z ti tu (rawInt s.heap.objs.size)->IsPair h' tu x y->xi t1 h' j1 a1 (k1+1)->xi t2 h' j2 a2 (k2+1)->IsPair h' s.heap.objs.size x y->h'.objs.size=s.heap.objs.size+1->
   (∀c o,c≠z->c≠tu->c≠j1->c≠j2->s.heap.get? c=some o->h'.get? c=some o)->Q (.ref s.heap.objs.size) { s with heap:=h' }):wpAny (model prog w) A (Builtin.«zip.__next__» ⟨[.ref z],[]⟩) (λfin s'=>∃v,fin=.done (.ret v)/\Q v s') E s:=by
 show wpAny _ _ (field (.ref z) 2 >>= _) _ _ s
 refine qq (gu hz rfl (x:=.bool false) rfl ?_);show wpAny _ _ (field (.ref z) 3 >>= _) _ _ s
 refine qq (gu hz rfl (x:=.ref ti) rfl ?_);refine qq (gE hti rfl ?_);show wpAny _ _ (Builtin.SmallTypes.ownedTupleIsFree (.ref z) >>= _) _ _ s
 refine qq ?_;unfold Builtin.SmallTypes.ownedTupleIsFree;refine qq (gu hz rfl (x:=.none) rfl (qQ ?_));simp only [nY];refine qq (wpAny_rule ?_);refine qq (gu hz rfl (x:=.ref tu) rfl ?_);refine qq (gO hz (by simp) λg1 z1 e1=>?_);replace z1:IsZip g1 z ti tu .ellipsis:=z1;refine qq ?_;simp only [List.zipIdx_cons,List.zipIdx_nil,mN,nJ];refine qq (qq (px ?_));show wpAny _ _ (Builtin.SmallTypes.nextOf (.ref j1) >>= _) _ _ _
 refine qq (JV (d1.stay λo e=>e1.extBut _ _ D.i1z e) (c1.stay λo e=>e1.extBut _ _ D.l1z e) hx λg2 d1' e2=>qQ ?_);have tu2:IsPair g2 tu b1 b2:=e2.extBut _ _ D.TOi1 (e1.extBut _ _ D.TOz htu);refine qq (gE tu2 rfl ?_);refine qq (n8 tu2 λg3 tu3 e3=>?_);replace tu3:IsPair g3 tu x b2:=tu3;refine qq (wpAny_letGo (qQ ?_));refine qq (qq (px ?_));show wpAny _ _ (Builtin.SmallTypes.nextOf (.ref j2) >>= _) _ _ _
 refine qq (JV (d2.stay λo e=>e3.extBut _ _ D.TOi2.symm (e2.extBut _ _ D.i12.symm (e1.extBut _ _ D.i2z e))) (c2.stay λo e=>e3.extBut _ _ D.l2TO (e2.extBut _ _ D.l2i1 (e1.extBut _ _ D.l2z e))) hy λg4 d2' e4=>qQ ?_);have tu4:IsPair g4 tu x b2:=e4.extBut _ _ D.TOi2 tu3;refine qq (gE tu4 rfl ?_);refine qq (n8 tu4 λg5 tu5 e5=>?_);replace tu5:IsPair g5 tu x y:=tu5;refine qq (wpAny_letGo (qQ (qQ ?_)));refine qq (gE tu5 rfl ?_);refine qq (wpAny_newTuple ?_);have size5:g5.objs.size=s.heap.objs.size:=by rw[e5.1,e4.1,e3.1,e2.1,e1.1]
 have z5:IsZip g5 z ti tu .ellipsis:=e5.extBut _ _ D.TOz.symm (e4.extBut _ _ D.i2z.symm (e3.extBut _ _ D.TOz.symm (e2.extBut _ _ D.i1z.symm z1)));have keep5:∀c o,c≠z->c≠tu->c≠j1->c≠j2->s.heap.get? c=some o->g5.get? c=some o:=λc o n1 n2 n3 n4 e=>
  e5.extBut _ _ n2 (e4.extBut _ _ n4 (e3.extBut _ _ n2 (e2.extBut _ _ n3 (e1.extBut _ _ n1 e))))
 have d15:xi t1 g5 j1 a1 (k1+1):=((d1'.stay λo e=>e3.extBut _ _ D.TOi1.symm e).stay λo e=>e4.extBut _ _ D.i12 e).stay λo e=>e5.extBut _ _ D.TOi1.symm e
 have d25:xi t2 g5 j2 a2 (k2+1):=d2'.stay λo e=>e5.extBut _ _ D.TOi2.symm e
 have zlt:z<g5.objs.size:=qM z5;show wpAny _ _ (Builtin.SmallTypes.ownedTupleHandOut (.ref z) (.ref g5.objs.size) >>= _) _ _ _
 refine qq ?_;unfold Builtin.SmallTypes.ownedTupleHandOut;have z6:IsZip (g5.push { cls:=.type "tuple",data:=.seq #[x,y] }) z ti tu .ellipsis:=qj _ z5;refine qq (gO z6 (by simp) λg7 z7 e7=>?_);replace z7:IsZip g7 z ti tu (rawInt g5.objs.size):=z7;refine gO z7 (by simp) λg8 z8 e8=>?_
 replace z8:IsZip g8 z ti tu (rawInt g5.objs.size):=z8
 have up:∀c o,c≠z->g5.get? c=some o->g8.get? c=some o:=λc o n e=>e8.extBut _ _ n (e7.extBut _ _ n (qj _ e))
 have p8:IsPair g8 g5.objs.size x y:=e8.extBut _ _ (mU zlt) (e7.extBut _ _ (mU zlt) (qI _ rfl));have size8:g8.objs.size=g5.objs.size+1:=by rw[e8.1,e7.1,k6]
 rw[size5] at z8 p8 size8;refine qQ ⟨_,rfl,?_⟩;show Q (.ref g5.objs.size) _
 rw[size5];exact hQ g8 z8 (up _ _ D.TOz tu5) (d15.stay λo e=>up _ o D.i1z e) (d25.stay λo e=>up _ o D.i2z e) p8 size8 λc o n1 n2 n3 n4 e=>up c o n1 (keep5 c o n1 n2 n3 n4 e)
def zjj{t1 t2:Bool}{z ti tu j1 j2 a1 a2:AdX}{k1 k2:Nat}{xs ys:Array Value}{b1 b2:Value}{Q:Fin->Shared->Prop}(hh:A.handled=none)(D:ZipApart z ti tu j1 j2 a1 a2)(hz:IsZip s.heap z ti tu .none)(hti:IsPair s.heap ti (.ref j1) (.ref j2))(htu:IsPair s.heap tu b1 b2)(d1:xi t1 s.heap j1 a1 k1)(d2:xi t2 s.heap j2 a2 k2)(c1:xp t1 s.heap a1 xs)(c2:xp t2 s.heap a2 ys)(hend:xs[k1]?=none\/ys[k2]?=none)(hE:∀h' e,(∀c o,c≠z->c≠tu->c≠j1->c≠j2->s.heap.get? c=some o->h'.get? c=some o)->(∃o,h'.get? e=some o/\o.cls=.type "StopIteration")->E (.ref e) { s with heap:=h' }):wpAny (model prog w) A (Builtin.«zip.__next__» ⟨[.ref z],[]⟩) Q E s:=by
 show wpAny _ _ (field (.ref z) 2 >>= _) _ _ s
 refine qq (gu hz rfl (x:=.bool false) rfl ?_);show wpAny _ _ (field (.ref z) 3 >>= _) _ _ s
 refine qq (gu hz rfl (x:=.ref ti) rfl ?_);refine qq (gE hti rfl ?_);show wpAny _ _ (Builtin.SmallTypes.ownedTupleIsFree (.ref z) >>= _) _ _ s
 refine qq ?_;unfold Builtin.SmallTypes.ownedTupleIsFree;refine qq (gu hz rfl (x:=.none) rfl (qQ ?_));simp only [nY];refine qq (wpAny_rule ?_);refine qq (gu hz rfl (x:=.ref tu) rfl ?_);refine qq (gO hz (by simp) λg1 z1 e1=>?_);replace z1:IsZip g1 z ti tu .ellipsis:=z1;refine qq ?_;simp only [List.zipIdx_cons,List.zipIdx_nil,mN,nJ];refine qq (qq (px ?_));show wpAny _ _ (Builtin.SmallTypes.nextOf (.ref j1) >>= _) _ _ _
 cases hx:xs[k1]? with
 |none=>
  refine qq (J1 hh (d1.stay λo e=>e1.extBut _ _ D.i1z e) (c1.stay λo e=>e1.extBut _ _ D.l1z e) hx λg2 e e2 he=>?_);have⟨oe,hoe,hce⟩:=he;have z2:IsZip g2 z ti tu .ellipsis:=e2 _ _ D.i1z.symm z1;have nez:e≠z:=λq=>by subst q;rw[z2] at hoe;cases hoe;simp at hce
  refine gO z2 (by simp) λg3 _ e3=>hE g3 e (λc o n1 _ n3 _ q=>e3.extBut _ _ n1 (e2 _ _ n3 (e1.extBut _ _ n1 q))) ⟨oe,e3.extBut _ _ nez hoe,hce⟩
 |some x=>
  have hy:ys[k2]?=none:=hend.resolve_left (by rw[hx];simp);refine qq (JV (d1.stay λo e=>e1.extBut _ _ D.i1z e) (c1.stay λo e=>e1.extBut _ _ D.l1z e) hx λg2 d1' e2=>qQ ?_);have tu2:IsPair g2 tu b1 b2:=e2.extBut _ _ D.TOi1 (e1.extBut _ _ D.TOz htu)
  refine qq (gE tu2 rfl ?_);refine qq (n8 tu2 λg3 tu3 e3=>?_);refine qq (wpAny_letGo (qQ ?_));refine qq (qq (px ?_));show wpAny _ _ (Builtin.SmallTypes.nextOf (.ref j2) >>= _) _ _ _
  refine qq (J1 hh (d2.stay λo e=>e3.extBut _ _ D.TOi2.symm (e2.extBut _ _ D.i12.symm (e1.extBut _ _ D.i2z e))) (c2.stay λo e=>e3.extBut _ _ D.l2TO (e2.extBut _ _ D.l2i1 (e1.extBut _ _ D.l2z e))) hy λg4 e e4 he=>?_);have⟨oe,hoe,hce⟩:=he;have z4:IsZip g4 z ti tu .ellipsis:=e4 _ _ D.i2z.symm (e3.extBut _ _ D.TOz.symm (e2.extBut _ _ D.i1z.symm z1));have nez:e≠z:=λq=>by subst q;rw[z4] at hoe;cases hoe;simp at hce
  refine gO z4 (by simp) λg5 _ e5=>hE g5 e (λc o n1 n2 n3 n4 q=>e5.extBut _ _ n1 (e4 _ _ n4 (e3.extBut _ _ n2 (e2.extBut _ _ n3 (e1.extBut _ _ n1 q))))) ⟨oe,e5.extBut _ _ nez hoe,hce⟩
structure zeQ(t1 t2:Bool)(z ti tu j1 j2 a1 a2:AdX)(i:Nat)(h:Heap):Prop where
 zp:IsZip h z ti tu .none
 ip:IsPair h ti (.ref j1) (.ref j2)
 op:∃b1 b2,IsPair h tu b1 b2
 d1:xi t1 h j1 a1 i
 d2:xi t2 h j2 a2 i
def zjn{t1 t2:Bool}{z ti tu j1 j2 a1 a2:AdX}{i:Nat}{xs ys:Array Value}{x y:Value}{Q:Option Value->Shared->Prop}(D:ZipApart z ti tu j1 j2 a1 a2)(S:zeQ t1 t2 z ti tu j1 j2 a1 a2 i s.heap)(c1:xp t1 s.heap a1 xs)(c2:xp t2 s.heap a2 ys)(hx:xs[i]?=some x)(hy:ys[i]?=some y)(hQ:∀h',IsZip h' z ti tu (rawInt s.heap.objs.size)->IsPair h' tu x y->xi t1 h' j1 a1 (i+1)->xi t2 h' j2 a2 (i+1)->IsPair h' s.heap.objs.size x y->h'.objs.size=s.heap.objs.size+1->
   (∀c o,c≠z->c≠tu->c≠j1->c≠j2->s.heap.get? c=some o->h'.get? c=some o)->Q (some (.ref s.heap.objs.size)) { s with heap:=h' }):wpAny (model prog w) A (pyNext (.ref z)) Q E s:=by
 have⟨b1,b2,hb⟩:=S.op;have hT:s.TypeIs (.ref z) "zip":=⟨_,S.zp,rfl⟩;unfold pyNext;exact qq (wpAny_attempt (mv (name:=Str.ofString "__next__") hT nQ (nG nQ hT F.entry_zip_next
  (zjd D S.zp S.ip hb S.d1 S.d2 c1 c2 hx hy λh' q1 q2 q3 q4 q5 q6 q7=>qQ (hQ h' q1 q2 q3 q4 q5 q6 q7)) (F.args_zip_next_1 _))))
def zjg{t1 t2:Bool}{z ti tu j1 j2 a1 a2:AdX}{i:Nat}{xs ys:Array Value}{Q:Option Value->Shared->Prop}(hh:A.handled=none)(D:ZipApart z ti tu j1 j2 a1 a2)(S:zeQ t1 t2 z ti tu j1 j2 a1 a2 i s.heap)(c1:xp t1 s.heap a1 xs)(c2:xp t2 s.heap a2 ys)(hend:xs[i]?=none\/ys[i]?=none)(hQ:∀h',(∀c o,c≠z->c≠tu->c≠j1->c≠j2->s.heap.get? c=some o->h'.get? c=some o)->Q none { s with heap:=h' }):wpAny (model prog w) A (pyNext (.ref z)) Q E s:=by
 have⟨b1,b2,hb⟩:=S.op;have hT:s.TypeIs (.ref z) "zip":=⟨_,S.zp,rfl⟩;unfold pyNext;refine qq (wpAny_attempt (mv (name:=Str.ofString "__next__") hT nQ (nG nQ hT F.entry_zip_next
  (zjj hh D S.zp S.ip hb S.d1 S.d2 c1 c2 hend λh' e hk he=>?_) (F.args_zip_next_1 _))))
 have⟨o,ho,hc⟩:=he;exact qq (wpAny_isInstance (T:="StopIteration") (b:=true) ⟨o,ho,hc⟩ isSubtype_stop (qQ (hQ _ hk)))
end
def JN{prog:Program}{w:World}{A:Around}{E:VSx}{s:ShX}{t:Bool}{a:AdX}{vs:Array Value}{Q:VSx}(c:xp t s.heap a vs)(hQ:Q (.ref s.heap.objs.size) { s with heap:=s.heap.push { cls:=.type (uB t),data:=.fields #[.ref a,.int 0 0] } }):wpAny (model prog w) A (pyIter (.ref a)) Q E s:=by
 cases t
 ·exact wpAny_pyIter_list (show s.heap.IsList a vs from c) hQ
 ·exact wpAny_pyIter_tuple (show s.heap.IsTuple a vs from c) hQ
def xp.push{t:Bool}{h:Heap}{a:AdX}{vs:Array Value}(x:xp t h a vs)(o:Obj):xp t (h.push o) a vs:=x.stay λ_ e=>qj _ e
abbrev zp1(t1:Bool)(h:Heap)(a1:AdX):Heap:=h.push { cls:=.type (uB t1),data:=.fields #[.ref a1,.int 0 0] }
abbrev zp2(t1 t2:Bool)(h:Heap)(a1 a2:AdX):Heap:=(zp1 t1 h a1).push { cls:=.type (uB t2),data:=.fields #[.ref a2,.int 0 0] }
abbrev zp3(t1 t2:Bool)(h:Heap)(a1 a2:AdX):Heap:=(zp2 t1 t2 h a1 a2).push { cls:=.type "tuple",data:=.seq #[.ref h.objs.size,.ref (zp1 t1 h a1).objs.size] }
abbrev zp4(t1 t2:Bool)(h:Heap)(a1 a2:AdX):Heap:=(zp3 t1 t2 h a1 a2).push { cls:=.type "tuple",data:=.seq #[.none,.none] }
abbrev zp5(t1 t2:Bool)(h:Heap)(a1 a2:AdX):Heap:=(zp4 t1 t2 h a1 a2).push { cls:=.type "zip",data:=.fields #[.none,.bool false,.bool false,.ref (zp2 t1 t2 h a1 a2).objs.size,.ref (zp3 t1 t2 h a1 a2).objs.size] }
def zkf(t1 t2:Bool)(a1 a2:AdX)(xs ys:Array Value):Meets (Builtin.«zip.__new__» ⟨[.type "zip",.ref a1,.ref a2],[]⟩) (λ_ R s=>xp t1 s.heap a1 xs/\xp t2 s.heap a2 ys/\
   R (.ok (.ret (.ref (zp4 t1 t2 s.heap a1 a2).objs.size))) { s with heap:=zp5 t1 t2 s.heap a1 a2 }):=.of_wp λprog w A R s h=>by
  have⟨hp,g,d,tk,os⟩:=s;obtain⟨c1,c2,h⟩:=h;have hsub:=sub_zip;have q1:xp t1 (Shared.heap ⟨hp,g,d,tk,os⟩) a1 xs:=c1
  have q2:xp t2 (Shared.heap ⟨hp.push { cls:=.type (uB t1),data:=.fields #[.ref a1,.int 0 0] },g,d,tk,os⟩) a2 ys:=xp.push c2 _;wp_walk using JN q1,JN q2;exact⟨_,rfl,h⟩
def Zv{t:Bool}{h:Heap}{j a:AdX}(e:h.get? j=some { cls:=.type (uB t),data:=.fields #[.ref a,.int 0 0] }):xi t h j a 0:=by
 cases t
 ·exact(show h.IsListIter j a 0 from⟨_,e,rfl,rfl⟩)
 ·exact(show h.IsTupleIter j a 0 from⟨_,e,rfl,rfl⟩)
def ziZ{prog:Program}{w:World}{A:Around}{E:VSx}{s:ShX}{t1 t2:Bool}{a1 a2:AdX}{xs ys:Array Value}{Q:VSx}(c1:xp t1 s.heap a1 xs)(c2:xp t2 s.heap a2 ys)(h:∀h',zeQ t1 t2 (s.heap.objs.size+4) (s.heap.objs.size+2) (s.heap.objs.size+3) s.heap.objs.size (s.heap.objs.size+1) a1 a2 0 h'->h'.objs.size=s.heap.objs.size+5->
   (∀c o,s.heap.get? c=some o->h'.get? c=some o)->Q (.ref (s.heap.objs.size+4)) { s with heap:=h' }):wpAny (model prog w) A (call (.type "zip") [.ref a1,.ref a2]) Q E s:=by
 refine callType_new F.called_zip (by decide) (F.typeCall_zip_2 _ _) (F.newCall_zip_2 _ _) (λobj=>F.args_object_init_3 obj _ _) F.entry_zip_new (zkf t1 t2 a1 a2 xs ys) ⟨c1,c2,?_⟩;have z1:(zp1 t1 s.heap a1).objs.size=s.heap.objs.size+1:=k6 ..;have z2:(zp2 t1 t2 s.heap a1 a2).objs.size=s.heap.objs.size+2:=by rw[k6,z1]
 have z3:(zp3 t1 t2 s.heap a1 a2).objs.size=s.heap.objs.size+3:=by rw[k6,z2]
 have z4:(zp4 t1 t2 s.heap a1 a2).objs.size=s.heap.objs.size+4:=by rw[k6,z3]
 have z5:(zp5 t1 t2 s.heap a1 a2).objs.size=s.heap.objs.size+5:=by rw[k6,z4]
 have g5:(zp5 t1 t2 s.heap a1 a2).get? (zp4 t1 t2 s.heap a1 a2).objs.size=some _:=qI _ rfl;have g4:(zp5 t1 t2 s.heap a1 a2).get? (zp3 t1 t2 s.heap a1 a2).objs.size=some _:=qj _ (qI _ rfl)
 have g3:(zp5 t1 t2 s.heap a1 a2).get? (zp2 t1 t2 s.heap a1 a2).objs.size=some _:=qj _ (qj _ (qI _ rfl));have g2:(zp5 t1 t2 s.heap a1 a2).get? (zp1 t1 s.heap a1).objs.size=some _:=qj _ (qj _ (qj _ (qI _ rfl)))
 have g1:(zp5 t1 t2 s.heap a1 a2).get? s.heap.objs.size=some _:=qj _ (qj _ (qj _ (qj _ (qI _ rfl))));show _/\_
 rw[z2,z3,z4] at g5;rw[z1,z2] at g3;rw[z3] at g4;rw[z1] at g2;rw[z4];exact⟨⟨_,g5,rfl⟩,h _ ⟨g5,g3,⟨_,_,g4⟩,Zv g1,Zv g2⟩ z5 λc o q=>
  qj _ (qj _ (qj _ (qj _ (qj _ q))))⟩
def SqB(K:FRx)(t:Bool)(H:Hp)(a:AdX)(xs:List V):Prop:=match t with |true=>SqT K H a xs|false=>SqL K H a xs
def Same.sqB{K:FRx}{t:Bool}{H H':Hp}{a:AdX}{xs:List V}(e:Same H H')(h:SqB K t H a xs):SqB K t H' a xs:=by
 cases t
 ·exact(show SqL K H' a xs from e.seq h)
 ·exact(show SqT K H' a xs from e.tup h)
def Itz(K:FRx)(t1 t2:Bool)(a b:AdX):It:=⟨λi H=>∃xs ys x y,SqB K t1 H a xs/\SqB K t2 H b ys/\xs[i]?=some x/\ys[i]?=some y,
  λi H v H'=>∃p,v=.ref p/\H p=none/\∀xs ys x y,SqB K t1 H a xs->SqB K t2 H b ys->xs[i]?=some x->ys[i]?=some y->H'=upd H p (.tup [x,y]),
  λi H=>∃xs ys,SqB K t1 H a xs/\SqB K t2 H b ys/\(xs.length<=i\/ys.length<=i)⟩
section
variable{X:Cx}{pins:PNx}{σ:St}{H:Hp}{s:ShX}
def Inv.sqB(I:Inv X pins σ H s){t:Bool}{a:AdX}{xs:List V}(h:SqB X.K t H a xs):∃its:List Value,Vals xs its/\xp t s.heap a its.toArray:=by
 cases t
 ·obtain⟨its,r,pl,_⟩:=I.list (show SqL X.K H a xs from h);exact⟨its,r,(show s.heap.IsList a its.toArray from pl.isList)⟩
 ·obtain⟨its,r,pl,_⟩:=I.tuple (show SqT X.K H a xs from h);exact⟨its,r,(show s.heap.IsTuple a its.toArray from pl)⟩
def Inv.zbp(I:Inv X pins σ H s){t:Bool}{a:AdX}{xs ys:List V}(h:SqB X.K t H a xs)(h':SqB X.K t H a ys):xs=ys:=by
 cases t
 ·exact I.zcR (show SqL X.K H a xs from h) h'
 ·exact I.VU (show SqT X.K H a xs from h) h'
def Inv.moved{h':Heap}{t':Nat}{ch:LAd}(I:Inv X pins σ H s)(hf:∀b∈ch,u0 X pins H b)(k:∀b o,b∉ch->s.heap.get? b=some o->h'.get? b=some o):Inv X pins σ H { s with heap:=h',toks:=t' }:=by
 have tr:∀b u,H b=some u->b∉ch:=λb u e z=>by rw[(hf b z).1] at e;cases e
 refine I.step (g':=s.gens) (d':=s.drawn) (ch:=ch) (λb hb=>⟨(hf b hb).2.2.2.1,(hf b hb).2.1,(hf b hb).2.2.2.2.1,(hf b hb).2.2.2.2.2⟩) (λb o _ _ hc e _=>k b o hc e) (λb o _ _ hc e _=>⟨o.slots,k b o hc e⟩) (λ_ _ _ _ n=>n)
  (λb o hc e=>⟨o,k b o hc e⟩) (λ_ _ e=>e) (λ_ _ _ e=>e) (λb ps e=>⟨#[],by rw[e];simp⟩) (λm hm=>?_) (λb u e=>?_) I.bare
 ·have⟨o,es,ep,ho,r⟩:=hm;exact⟨o,es,ep,k _ o (λz=>(hf _ z).2.1 rfl) ho,r⟩
 ·refine(I.hok b u e).stay (λc v hc q=>k c v ?_ q) (λ_ q=>q) λ_ _ q=>q
  rcases hc with z|z
  ·rw[z];exact tr b u e
  ·exact tr c _ z
def Inv.adopt{p:AdX}{o:HO}(I:Inv X pins σ H s)(hf:u0 X pins H p)(new:vB X.prog X.w (upd H p o) s.heap p o):Inv X pins σ (upd H p o) s:=by
 have tr:∀b u,H b=some u->b≠p:=λb u e z=>by rw[z,hf.1] at e;cases e
 refine I.step (h':=s.heap) (g':=s.gens) (d':=s.drawn) (t':=s.toks) (ch:=[p]) (λb hb=>?_) (λb o _ _ _ e _=>e) (λb o _ _ _ e _=>⟨o.slots,e⟩) (λb o hc _ n=>?_)
  (λb o _ e=>⟨o,e⟩) (λb xs e=>by rw[zR (tr b _ e)];exact e) (λb u xs e=>by rw[zR (tr b _ e)];exact e) (λb ps e=>⟨#[],by rw[zR (tr b _ e),e];simp⟩) (λm hm=>hm) (λb u e=>?_) I.bare
 ·have e:b=p:=by simpa using hb
  subst e;exact⟨hf.2.2.2.1,hf.2.1,hf.2.2.2.2.1,hf.2.2.2.2.2⟩
 ·rw[zR (λz=>hc (by simp[z]))];exact n
 ·by_cases hb:b=p
  ·subst hb;rw[zL] at e;cases e;exact new
  ·rw[zR hb] at e;exact(I.hok b u e).stay (λc v _ q=>q) (λc q=>by rw[zR (tr c _ q)];exact q) λc xs q=>by rw[zR (tr c _ q)];exact q
end
def ub{xs:List V}{its:LVl}(r:Vals xs its){i:Nat}{x:V}(h:xs[i]?=some x):∃u,its.toArray[i]?=some u/\RelV x u:=by
 have⟨u,h1,h2⟩:=r.get h;exact⟨u,by simpa using h1,h2⟩
def zgU{P:Program}{w:World}{K:FRx}{es:List Expr}{kk:Nat}{tp:Pos}{t1 t2:Bool}{z ti tu j1 j2 a b:AdX}(D:ZipApart z ti tu j1 j2 a b):Turn P w K (.Tuple es kk tp) (Itz K t1 t2 a b) [z,ti,tu,j1,j2] z (λi h=>zeQ t1 t2 z ti tu j1 j2 a b i h) where
 mem:=by simp
 obj:=λi h S c hc=>by
  simp only [qw,kO,mf] at hc;rcases hc with rfl|rfl|rfl|rfl|rfl
  ·exact⟨_,S.zp,λv q=>by cases q⟩
  ·exact⟨_,S.ip,λv q=>by cases q⟩
  ·have⟨b1,b2,e⟩:=S.op;exact⟨_,e,λv q=>by cases q⟩
  ·exact S.d1.obj
  ·exact S.d2.obj
 keep:=λi h h' S k=>by
  have⟨b1,b2,e⟩:=S.op;exact⟨k z (by simp) _ S.zp,k ti (by simp) _ S.ip,⟨b1,b2,k tu (by simp) _ e⟩,S.d1.stay λo q=>k j1 (by simp) o q,S.d2.stay λo q=>k j2 (by simp) o q⟩
 item:=λX hp hw hK hc i pins s σ H E I hf S go=>by
  subst hp hw hK;have⟨xs,ys,x,y,h1,h2,hx,hy⟩:=go;have⟨us,ru,c1⟩:=I.sqB h1;have⟨ws,rw',c2⟩:=I.sqB h2;have⟨u,eu,hu⟩:=ub ru hx;have⟨v,ev,hv⟩:=ub rw' hy;refine zjn D S c1 c2 eu ev λh' q1 q2 q3 q4 q5 q6 q7=>⟨_,rfl,?_⟩
  refine wpAny_letOwnedTupleGo_zip q1 λh'' z2 hs=>?_
  have lt:∀{c:AdX} {o:Obj},s.heap.get? c=some o->s.heap.objs.size≠c:=λe=>mU (qM e)
  have nz:s.heap.objs.size≠z:=lt S.zp;have ntu:s.heap.objs.size≠tu:=by have⟨_,_,e⟩:=S.op;exact lt e
  have nj1:s.heap.objs.size≠j1:=by have⟨o,e,_⟩:=S.d1.obj;exact lt e
  have nj2:s.heap.objs.size≠j2:=by have⟨o,e,_⟩:=S.d2.obj;exact lt e
  have I1:Inv X pins σ H { s with heap:=h'',toks:=s.toks }:=I.moved (ch:=[z,tu,j1,j2]) (λc hc'=>hf c (by
    simp only [qw,kO,mf] at hc' ⊢;rcases hc' with rfl|rfl|rfl|rfl<;>simp)) λc o hc' e=>by
   simp only [qw,kO,mf,not_or] at hc';exact hs.extBut _ _ hc'.1 (q7 c o hc'.1 hc'.2.1 hc'.2.2.1 hc'.2.2.2 e)
  have pT:IsPair h'' s.heap.objs.size u v:=hs.extBut _ _ nz q5;have fT:u0 X pins H s.heap.objs.size:=I.zbC (qk _) (I.hok.fresh (qk _))
  have I2:Inv X pins σ (upd H s.heap.objs.size (.tup [x,y])) { s with heap:=h'',toks:=s.toks }:=by
   refine I1.adopt fT ⟨by show 2<=sizeLine;decide,[u,v],.cons hu (.cons hv .nil),?_⟩;exact⟨_,pT,rfl,_,rfl⟩
  refine⟨.ref s.heap.objs.size,_,I2,rfl,⟨_,rfl,fT.1,λxs' ys' x' y' g1 g2 ex ey=>?_⟩,?_,λc hc'=>?_⟩
  ·rw[I.zbp g1 h1] at ex;rw[I.zbp g2 h2] at ey;rw[hx] at ex;rw[hy] at ey;cases ex;cases ey;rfl
  ·exact⟨z2,hs.extBut _ _ D.TIz (q7 _ _ D.TIz D.TITO D.TIi1 D.TIi2 S.ip),⟨_,_,hs.extBut _ _ D.TOz q2⟩,q3.stay λo e=>hs.extBut _ _ D.i1z e,q4.stay λo e=>hs.extBut _ _ D.i2z e⟩
  ·have ne:c≠s.heap.objs.size:=by
    simp only [qw,kO,mf] at hc';rcases hc' with rfl|rfl|rfl|rfl|rfl
    ·exact nz.symm
    ·exact(lt S.ip).symm
    ·exact ntu.symm
    ·exact nj1.symm
    ·exact nj2.symm
   rw[zR ne];exact(hf c hc').1
 done:=λX hp hw hK hc i pins s σ H E I hf S st=>by
  subst hp hw hK;have⟨xs,ys,h1,h2,hend⟩:=st;have⟨us,ru,c1⟩:=I.sqB h1;have⟨ws,rw',c2⟩:=I.sqB h2;have l1:=ru.length;have l2:=rw'.length
  refine zjg (I.ok.hd hc) D S c1 c2 ?_ λh' q=>⟨rfl,?_⟩
  ·rcases hend with g|g
   ·exact .inl (by simp;omega)
   ·exact .inr (by simp;omega)
  ·refine I.moved (t':=s.toks) (ch:=[z,tu,j1,j2]) (λc hc'=>hf c ?_) λc o hc' e=>?_
   ·simp only [qw,kO,mf] at hc' ⊢;rcases hc' with rfl|rfl|rfl|rfl<;>simp
   ·simp only [qw,kO,mf,not_or] at hc';exact q c o hc'.1 hc'.2.1 hc'.2.2.1 hc'.2.2.2 e
 self:=λA i s Q E S q=>wpAny_pyIter_zip S.zp q
def zkD:bootBuiltins "zip"=some (.type "zip"):=by decide+kernel
def zmI(K:FRx)(t1 t2:Bool)(ta:TA):TI:=λσ H R=>ta σ H λvs H1=>∃a b,vs=[.ref a,.ref b]/\(∃xs,SqB K t1 H1 a xs)/\(∃ys,SqB K t2 H1 b ys)/\R (Itz K t1 t2 a b) H1
def zgL{X:Cx}{es:List Expr}{kk:Nat}{tp:Pos}(t1 t2:Bool){a b:Expr}{ta:TA}{p pos:Pos}(hg:Gl X "zip")(hm:X.mg "zip"=none)(ha:PA X [a,b] ta)(hs:starEach [a,b] X.env=[(false,eval a X.env),(false,eval b X.env)]:=by rfl)(hs2:starEach [b] X.env=[(false,eval b X.env)]:=by rfl):PI X (.Tuple es kk tp) (.Call (.Name "zip" p) [a,b] [] pos) (zmI X.K t1 t2 ta):=by
 intro pins s σ H R I h;refine Call_ (Uw I hg hm zkD (gh (thn (ha pos pins s σ H _ I h) λus s1 ⟨vs,H1,I1,r1,q1⟩=>?_) (by rw[hs,hs2]) (by rw[hs2];rfl)));have⟨a',b',e,⟨xs,h1⟩,⟨ys,h2⟩,q⟩:=q1;subst e;obtain⟨u,w',rfl,ru,rw'⟩:=vals2 r1;cases (show u=Value.ref a' from ru);cases (show w'=Value.ref b' from rw');have⟨its,_,c1⟩:=I1.sqB h1;have⟨its2,_,c2⟩:=I1.sqB h2;refine ziZ c1 c2 λh' S hz hk=>?_
 have I2:Inv X pins σ H1 { s1 with heap:=h',toks:=s1.toks }:=I1.kept hk;refine wpAny_pyIter_zip S.zp ?_;refine⟨_,_,_,_,H1,rfl,I2,zgU (zipApart_new c1.lt c2.lt),S,λc hc=>?_,q⟩;simp only [qw,kO,mf] at hc;have ge:s1.heap.objs.size<=c:=by
  rcases hc with rfl|rfl|rfl|rfl|rfl
  ·exact gS _ 4
  ·exact gS _ 2
  ·exact gS _ 3
  ·exact qk _
  ·exact gS _ 1
 have f1:=I1.zbC ge (I1.hok.fresh ge);exact f1
def Same.V5{H H':Hp}{D:AdX}(e:Same H H')(h:H D=none)(o:HO):Same H (upd H' D o):=λb u q=>by
 rw[zR (jF q h)];exact e b u q
def ItB(K:FRx)(t:Bool)(a:AdX):It:=match t with |true=>Itt K a|false=>Itl K a
def zml(K:FRx)(tl:TE):TI:=λσ H R=>tl σ H λx H1=>∃a t,x=.ref a/\(∃xs,SqB K t H1 a xs)/\R (ItB K t a) H1
section
variable{X:Cx}{tg:Expr}
def zdL{l:Expr}{tl:TE}(hl:PE X l tl):PI X tg l (zml X.K tl):=by
 intro pins s σ H R I h;refine thn (hl pins s σ H _ I h) λu s1 ⟨x,H1,I1,rx,a,t,ex,⟨xs,hx⟩,q⟩=>?_
 subst ex;cases (show u=Value.ref a from rx);cases t
 ·obtain⟨its,rv,pl,hz⟩:=I1.list (show SqL X.K H1 a xs from hx);refine wpAny_pyIter_list pl.isList ?_;refine⟨s1.heap.objs.size,[s1.heap.objs.size],_,_,H1,rfl,I1.kept (t':=s1.toks) λb o e=>qj _ e,zfS a _,⟨_,qI _ rfl,rfl,rfl⟩,λb hb=>?_,q⟩;have e:b=s1.heap.objs.size:=by simpa using hb
  subst e;exact I1.zbC (qk _) (I1.hok.fresh (qk _))
 ·obtain⟨its,rv,pl,hz⟩:=I1.tuple (show SqT X.K H1 a xs from hx);refine wpAny_pyIter_tuple (show s1.heap.IsTuple a its.toArray from pl) ?_;refine⟨s1.heap.objs.size,[s1.heap.objs.size],_,_,H1,rfl,I1.kept (t':=s1.toks) λb o e=>qj _ e,zdD a _,⟨_,qI _ rfl,rfl,rfl⟩,λb hb=>?_,q⟩;have e:b=s1.heap.objs.size:=by simpa using hb
  subst e;exact I1.zbC (qk _) (I1.hok.fresh (qk _))
end
def zke(K:FRx):R2:=λx y H Q=>∃t p xs i v,x=.ref p/\y=.int i/\SqB K t H p xs/\atI xs i=some v/\Q v H
def zej{X:Cx}:IxR X (zke X.K):=by
 have b:=zih.or zjZ (X:=X);have f:∀x y H Q,zke X.K x y H Q->zlI X.K x y H Q\/zlD X.K x y H Q:=by
  rintro x y H Q ⟨t,p,xs,i,v,e1,e2,h,e3,q⟩;cases t
  ·exact .inl ⟨p,xs,i,v,e1,e2,h,e3,q⟩
  ·exact .inr ⟨p,xs,i,v,e1,e2,h,e3,q⟩
 exact λvalue slice pins s σ H x y v u Q I r1 r2 h e=>b value slice pins s σ H x y v u Q I r1 r2 (f _ _ _ _ h) e
def zib(l b:AdX)(its its2:Array Value)(n n2:Nat)(d2:Option Addr)(sl2:Array (Option Value))(h0:¬(!its.isEmpty&&Builtin.List.listTooLong (its.size+its2.size))=true)(h1:its.size<=sizeLine)(h2:its.size+its2.size<=sizeLine+1):Meets (Builtin.«list.extend» ⟨[.ref l,.ref b],[]⟩) (λ_ R s=>s.heap.get? l=some { cls:=.type "list",dict:=none,data:=.seq its n,slots:=#[] }/\s.heap.get? b=some { cls:=.type "tuple",dict:=d2,data:=.seq its2 n2,slots:=sl2 }/\
   R (.ok (.ret Value.none)) { s with heap:=s.heap.update l (Obj.mapSeq λx=>x++its2),toks:=s.toks }):=.of_wp λprog w A R s h=>by
  have⟨hp,g,d,tk,os⟩:=s;obtain⟨hl,hb,h⟩:=h;have f1:=mS;have f2:=nE
  have f3:=AutoSeq1.sub_list_list;have f4:=AutoSeq1.sub_tuple_list
  have f5:=AutoSeq1.sub_list_tuple;have hz:(its++its2).size<=sizeLine+1:=by rw[Array.size_append];exact h2
  wp_walk using (wpAny_updateSeq hl rfl (hz:=h1) (_hz':=hz)),kC hl,kC hb
  exact⟨_,rfl,h⟩
def zgx(K:FRx):V->List V->Hp->VK->Prop:=λx vs H Q=>∃l b xs zs,x=.ref l/\vs=[.ref b]/\H l=some (.lst xs)/\SqT K H b zs/\xs.length+zs.length<=sizeLine/\Q .non (upd H l (.lst (xs++zs)))
def zd4{X:Cx}:MtM X "list.extend" (zgx X.K):=by
 intro pins s σ H x vs v us Q I rx rv h;obtain⟨l,b,xs,zs,rfl,rfl,hH,hB,hz,q⟩:=h;cases rx;obtain⟨u,rfl,ru⟩:=rv.one;cases ru;have⟨z,its,n,r,hl,e⟩:=I.zbr hH;have⟨its2,r2,⟨⟨cls,dd,data,sl⟩,ho,hc,n2,hd⟩,z2⟩:=I.tuple hB;simp only at hc hd;subst hc hd;have l2:=r2.length;have hsz:its.toArray.size+its2.toArray.size<=sizeLine:=by rw[qA,qA];omega
 have hlong:¬(!its.toArray.isEmpty&&Builtin.List.listTooLong (its.toArray.size+its2.toArray.size))=true:=by
  rw[YK hsz,pR];exact qE
 refine gP F.slot_list_extend ⟨_,e,rfl⟩ F.entry_list_extend (F.args_list_extend_2 _ _) (zib l b its.toArray its2.toArray n n2 dd sl hlong (by rw[qA];omega) (by omega)) ⟨e,ho,?_⟩;refine⟨.non,_,I.lset (its':=its++its2) hH e (by simp) (r.append r2) ?_,rfl,q⟩;rw[qx];omega
def zhy(K:FRx):R2:=λx y H Q=>∃a b xs ys,x=.ref a/\y=.ref b/\SqT K H a xs/\SqT K H b ys/\xs.length+ys.length<=sizeLine/\
 (xs=[]->Q (.ref b) H)/\(xs≠[]->ys=[]->Q (.ref a) H)/\(xs≠[]->ys≠[]->∀p,H p=none->Q (.ref p) (upd H p (.tup (xs++ys))))
def jY{X:Cx}:OpR X (binaryOp .Add) (zhy X.K):=by
 intro pins s σ H x y v u Q I rx ry h;obtain⟨a,b,xs,ys,rfl,rfl,h1,h2,hz,q1,q2,q3⟩:=h;cases (show v=Value.ref a from rx);cases (show u=Value.ref b from ry);have⟨its,r1,p1,_⟩:=I.tuple h1;have⟨its2,r2,p2,_⟩:=I.tuple h2;have l1:=r1.length;have l2:=r2.length
 by_cases hx:xs=[]
 ·have hi:its=[]:=(Vals.W5 r1).mpr hx;have⟨⟨cls,dd,data,sl⟩,ho,hc,n,hd⟩:=id p1
  have⟨⟨cls2,dd2,data2,sl2⟩,ho2,hc2,n2,hd2⟩:=id p2;simp only at hc hd hc2 hd2;subst hc hd hc2 hd2;exact pM ⟨_,ho,rfl⟩ ⟨_,ho2,rfl⟩ pU seq_tuple_add nr ni (m8 _ _) (tuple_addW0 a b its.toArray its2.toArray n n2 dd dd2 sl sl2 (by simp[hi])) ⟨ho,ho2,⟨.ref b,H,I,rfl,q1 hx⟩⟩
 ·have hi:its≠[]:=λz=>hx ((Vals.W5 r1).mp z)
  refine HT.zjh p1 p2 hi (λz=>?_) (λz=>?_) (by omega)
  ·exact⟨.ref a,H,I,rfl,q2 hx ((Vals.W5 r2).mp z)⟩
  ·have hf:H s.heap.objs.size=none:=I.hok.fresh (qk _);refine⟨.ref s.heap.objs.size,_,I.laid (o:=.tup (xs++ys)) (t':=s.toks) (λc o e=>qj _ e) (qk _) ⟨by rw[qx];exact hz,its++its2,r1.append r2,⟨_,qI _ rfl,rfl,_,rfl⟩⟩,rfl,q3 hx (λw=>z ((Vals.W5 r2).mpr w)) _ hf⟩
def Yu{X:Cx}{scope sc:Scope}(hsc:X.env.scope=sc)(kind:scope.kind=.function)(nocell:∀y∈scope.names,y.2≠ .cell)(loc:∀y∈scope.names,y.2=.local->scope.names.lookup y.1=some .local)(free:∀y∈scope.names,y.2=.free->sc.names.lookup y.1=some .cell\/sc.names.lookup y.1=some .free):yq X scope:=⟨kind,nocell,loc,λy hy hf=>by
  show X.env.scope.names.lookup y.1=_\/X.env.scope.names.lookup y.1=_
  rw[hsc];exact free y hy hf⟩
def csx{X:Cx}{scope sc:Scope}(hsc:X.env.scope=sc:=by rfl)(kind:scope.kind=.function:=by rfl)(h:(∀y∈scope.names,y.2≠ .cell)/\(∀y∈scope.names,y.2=.local->scope.names.lookup y.1=some .local)/\∀y∈scope.names,y.2=.free->sc.names.lookup y.1=some .cell\/sc.names.lookup y.1=some .free:=by decide+kernel):yq X scope:=Yu hsc kind h.1 h.2.1 h.2.2
def ja{X:Cx}{scope:Scope}:∀j∈([]:LNt),∃x,X.N[j]?=some x/\scope.names.lookup x=some .free:=λ_ h=>by cases h
def jt{X:Cx}{scope:Scope}{i:Nat}{F:LNt}{x:Str}(h1:X.N[i]?=some x)(h2:scope.names.lookup x=some .free)(r:∀j∈F,∃x,X.N[j]?=some x/\scope.names.lookup x=some .free):∀j∈i::F,∃x,X.N[j]?=some x/\scope.names.lookup x=some .free:=λj hj=>by
 rcases qw.mp hj with z|z
 ·subst z;exact⟨x,h1,h2⟩
 ·exact r j z
end L2
namespace L2.Fu
open PySem PySem.Spec PyProof.Rows
inductive Sl where
 |no|pu (d:PdX)|ow (ds:LPd)|dk (ks:List (Int×PyData))
abbrev Ro:=List Sl
abbrev RPx:=Ro->Option PyData
abbrev RLx:=Ro->Option (List PyData)
abbrev LPx:=List PyData->Option PyData
abbrev LLx:=List PyData->Option (List PyData)
def isM:Sl->Bool
 | .ow _=>true
 | .dk _=>true
 |_=>false
def offs(H:Hp)(os:LAd):Hp:=λb=>if b∈os then none else H b
section
variable{H H' G:Hp}{os os':LAd}{a:AdX}{o:HO}
def zB(h:a∉os):offs H os a=H a:=by unfold offs;rw[qm h]
def xP(h:a∈os):offs H os a=none:=by unfold offs;rw[qg h]
def xA(H:Hp)(os:LAd):Same (offs H os) H:=λb o e=>by
 by_cases h:b∈os
 ·rw[xP h] at e;cases e
 ·rw[zB h] at e;exact e
def zr(e:Same H H')(os:LAd):Same (offs H os) (offs H' os):=λb o q=>by
 by_cases h:b∈os
 ·rw[xP h] at q;cases q
 ·rw[zB h] at q ⊢;exact e b o q
def xF(h:∀a∈os',a∈os):Same (offs H os) (offs H os'):=λb o q=>by
 by_cases hb:b∈os
 ·rw[xP hb] at q;cases q
 ·rw[zB hb] at q;rw[zB (λz=>hb (h b z))];exact q
def xk(h:a∈os):offs (upd H a o) os=offs H os:=by
 funext b
 by_cases hb:b∈os
 ·rw[xP hb,xP hb]
 ·rw[zB hb,zB hb,zR (λz=>hb (by rw[z];exact h))]
def jw:offs (upd H a o) (a::os)=offs H (a::os):=xk ki
end
def Al(H:Hp)(os:LAd):Prop:=∀a∈os,∃o,H a=some o
def Al.same{H H':Hp}{os:LAd}(h:Al H os)(e:Same H H'):Al H' os:=λa ha=>by
 have⟨o,q⟩:=h a ha;exact⟨o,e a o q⟩
def Al.nil(H:Hp):Al H []:=λa h=>by cases h
def Al.new{H:Hp}{os:LAd}(h:Al H os){a:AdX}(n:H a=none):a∉os:=λz=>by
 have⟨o,q⟩:=h a z;rw[n] at q;cases q
section
variable{K:FRx}{H H':Hp}{os:LAd}{v:V}{d:PdX}
def jG(K:FRx)(H:Hp)(os:LAd)(v:V)(d:PdX):Prop:=Rep K (offs H os) v d\/∃a xs ds,v=.ref a/\d=.list ds/\H a=some (.lst xs)/\Reps K (offs H os) xs ds
def jG.same(e:Same H H')(h:jG K H os v d):jG K H' os v d:=by
 rcases h with h|⟨a,xs,ds,e1,e2,h1,h2⟩
 ·exact .inl (h.same (zr e os))
 ·exact .inr ⟨a,xs,ds,e1,e2,e _ _ h1,h2.same (zr e os)⟩
def jG.rep(h:jG K H os v d):Rep K H v d:=by
 rcases h with h|⟨a,xs,ds,rfl,rfl,h1,h2⟩
 ·exact h.same (xA H os)
 ·exact .lst (SqL.of h1) (h2.same (xA H os))
def jG.int{i:Int}(h:jG K H os v (.int i)):v=.int i:=by
 cases h.rep;rfl
def jG.bl{b:Bool}(h:jG K H os v (.bool b)):v=.bl b:=by
 cases h.rep;rfl
def jG.non(h:jG K H os v .none):v=.non:=by
 cases h.rep;rfl
def jG.tup{ds:LPd}(h:jG K H os v (.tuple ds)):∃a xs,v=.ref a/\SqT K H a xs/\SqT K (offs H os) a xs/\Reps K (offs H os) xs ds:=by
 rcases h with h|⟨a,xs,es,e1,e2,h1,h2⟩
 ·cases h with
  |tup hS r=>exact⟨_,_,rfl,(xA H os).tup hS,hS,r⟩
 ·cases e2
def jG.lst{ds:LPd}(h:jG K H os v (.list ds)):∃a xs,v=.ref a/\SqL K H a xs/\Reps K (offs H os) xs ds:=by
 rcases h with h|⟨a,xs,es,e1,e2,h1,h2⟩
 ·cases h with
  |lst hS r=>exact⟨_,_,rfl,(xA H os).seq hS,r⟩
 ·cases e2;exact⟨a,xs,e1,SqL.of h1,h2⟩
inductive j6(K:FRx)(H:Hp)(os:LAd):List V->List PyData->Prop
 |nil:j6 K H os [] []
 |cons {v:V} {d:PdX} {vs:List V} {ds:LPd}:jG K H os v d->j6 K H os vs ds->j6 K H os (v::vs) (d::ds)
theorem j6.same(e:Same H H'):∀{vs:List V} {ds:LPd},j6 K H os vs ds->j6 K H' os vs ds
 |_,_,.nil=>.nil
 |_,_,.cons h r=>.cons (h.same e) (j6.same e r)
def j6.one{vs:List V}{d:PdX}(h:j6 K H os vs [d]):∃v,vs=[v]/\jG K H os v d:=by
 cases h with
 |cons h r=>cases r;exact⟨_,rfl,h⟩
def j6.two{vs:List V}{d e:PdX}(h:j6 K H os vs [d,e]):∃v u,vs=[v,u]/\jG K H os v d/\jG K H os u e:=by
 cases h with
 |cons h r=>cases r with
  |cons h2 r=>cases r;exact⟨_,_,rfl,h,h2⟩
theorem j6.reps:∀{vs:List V} {ds:LPd},j6 K H os vs ds->Reps K H vs ds
 |_,_,.nil=>.nil
 |_,_,.cons h r=>.cons h.rep (j6.reps r)
end
inductive U6(K:FRx)(G:Hp):List (Key×V)->List (Int×PyData)->Prop
 |nil:U6 K G [] []
 |cons {k:Int} {v:V} {d:PdX} {ws:List (Key×V)} {ks:List (Int×PyData)}:Rep K G v d->U6 K G ws ks->U6 K G ((Sum.inl k,v)::ws) ((k,d)::ks)
theorem U6.same{K:FRx}{G G':Hp}(e:Same G G'):∀{ws:List (Key×V)} {ks:List (Int×PyData)},U6 K G ws ks->U6 K G' ws ks
 |_,_,.nil=>.nil
 |_,_,.cons h r=>.cons (h.same e) (U6.same e r)
def COk(K:FRx)(G:Hp):HO->Sl->Prop
 | .lst xs,.ow ds=>Reps K G xs ds
 | .dK ws,.dk ks=>U6 K G ws ks
 |_,_=>False
def COk.same{K:FRx}{G G':Hp}{o:HO}{c:Sl}(e:Same G G')(h:COk K G o c):COk K G' o c:=by
 cases o<;>cases c<;>first |exact False.elim h|skip
 ·exact Reps.same e h
 ·exact U6.same e h
def COk.ow{K:FRx}{G:Hp}{o:HO}{ds:LPd}(h:COk K G o (.ow ds)):∃xs,o=.lst xs/\Reps K G xs ds:=by
 cases o<;>first |exact False.elim h|skip
 exact⟨_,rfl,h⟩
structure xD(K:FRx)(H:Hp)(os:LAd)(σ:St)(ρ:Ro):Prop where
 pu:∀(i:Nat)(d:PdX),ρ[i]?=some (.pu d)->∃v,σ[i]?=some (some v)/\Rep K (offs H os) v d
 mu:∀(i:Nat)(c:Sl),ρ[i]?=some c->isM c=true->∃a o,σ[i]?=some (some (.ref a))/\a∈os/\H a=some o/\COk K (offs H os) o c
 al:Al H os
 len:σ.length=ρ.length
def xD.ow{K:FRx}{H:Hp}{os:LAd}{σ:St}{ρ:Ro}(h:xD K H os σ ρ)(i:Nat)(ds:LPd)(q:ρ[i]?=some (.ow ds)):∃a xs,σ[i]?=some (some (.ref a))/\a∈os/\H a=some (.lst xs)/\Reps K (offs H os) xs ds:=by
 have⟨a,o,h1,h2,h3,h4⟩:=h.mu i _ q rfl;obtain⟨xs,rfl,r⟩:=h4.ow;exact⟨a,xs,h1,h2,h3,r⟩
def xD.same{K:FRx}{H H':Hp}{os:LAd}{σ:St}{ρ:Ro}(e:Same H H')(h:xD K H os σ ρ):xD K H' os σ ρ where
 pu:=λi d q=>by
  have⟨v,h1,h2⟩:=h.pu i d q;exact⟨v,h1,h2.same (zr e os)⟩
 mu:=λi c q m=>by
  have⟨a,o,h1,h2,h3,h4⟩:=h.mu i c q m;exact⟨a,o,h1,h2,e _ _ h3,h4.same (zr e os)⟩
 al:=h.al.same e
 len:=h.len
def FE(X:Cx)(e:Expr)(f:RPx):Prop:=∃t:TE,PE X e t/\∀(σ:St)(H:Hp)(os:LAd)(ρ:Ro)(d:PdX)(Q:VK),xD X.K H os σ ρ->f ρ=some d->
  (∀v H',Same H H'->Rep X.K (offs H' os) v d->Q v H')->t σ H Q
def FB(X:Cx)(e:Expr)(f:RPx):Prop:=∃t:TE,PE X e t/\∀(σ:St)(H:Hp)(os:LAd)(ρ:Ro)(d:PdX)(Q:VK),xD X.K H os σ ρ->f ρ=some d->
  (∀v H',Same H H'->jG X.K H' os v d->Q v H')->t σ H Q
def FL(X:Cx)(e:Expr)(f:RLx):Prop:=∃t:TE,PE X e t/\∀(σ:St)(H:Hp)(os:LAd)(ρ:Ro)(ds:LPd)(Q:VK),xD X.K H os σ ρ->f ρ=some ds->
  (∀a xs H',H a=none->Same H H'->H' a=some (.lst xs)->Reps X.K (offs H' (a::os)) xs ds->Q (.ref a) H')->t σ H Q
def FAB(X:Cx)(es:List Expr)(f:RLx):Prop:=∃t:TA,PA X es t/\∀(σ:St)(H:Hp)(os:LAd)(ρ:Ro)(ds:LPd)(Q:List V->Hp->Prop),xD X.K H os σ ρ->f ρ=some ds->
  (∀vs H',Same H H'->j6 X.K H' os vs ds->Q vs H')->t σ H Q
def FA(X:Cx)(es:List Expr)(f:RLx):Prop:=∃t:TA,PA X es t/\∀(σ:St)(H:Hp)(os:LAd)(ρ:Ro)(ds:LPd)(Q:List V->Hp->Prop),xD X.K H os σ ρ->f ρ=some ds->
  (∀vs H',Same H H'->Reps X.K (offs H' os) vs ds->Q vs H')->t σ H Q
def FT(X:Cx)(e:Expr)(f:Ro->Option Bool):Prop:=∃t:TT,PT X e t/\∀(σ:St)(H:Hp)(os:LAd)(ρ:Ro)(b:Bool)(Q:Bool->Hp->Prop),xD X.K H os σ ρ->f ρ=some b->
  (∀H',Same H H'->Q b H')->t σ H Q
def FW(X:Cx)(e:Expr)(f:Ro->Option Bool):Prop:=∃t:TT,PW X e t/\∀(σ:St)(H:Hp)(os:LAd)(ρ:Ro)(b:Bool)(Q:Bool->Hp->Prop),xD X.K H os σ ρ->f ρ=some b->
  (∀H',Same H H'->Q b H')->t σ H Q
def yB(f:RLx):RPx:=λρ=>(f ρ).map .list
def map_some{α β:Type}{o:Option α}{f:α->β}{b:β}(h:o.map f=some b):∃a,o=some a/\f a=b:=by
 cases o with
 |none=>cases h
 |some a=>exact⟨a,rfl,qZ h⟩
def bind_some{α β:Type}{o:Option α}{f:α->Option β}{b:β}(h:o.bind f=some b):∃a,o=some a/\f a=some b:=by
 cases o with
 |none=>cases h
 |some a=>exact⟨a,rfl,h⟩
section
variable{X:Cx}{e:Expr}{f:RPx}{pos:Pos}
def FE.fb(h:FE X e f):FB X e f:=by
 have⟨t,h1,h2⟩:=h;exact⟨t,h1,λσ H os ρ d Q R q k=>h2 σ H os ρ d Q R q λv H' s r=>k v H' s (.inl r)⟩
def FL.fe{f:RLx}(h:FL X e f):FE X e (yB f):=by
 have⟨t,h1,h2⟩:=h;refine⟨t,h1,λσ H os ρ d Q R q k=>?_⟩;have⟨ds,e1,e2⟩:=map_some q;subst e2;refine h2 σ H os ρ ds Q R e1 λa xs H' n s hx r=>k _ H' s (.lst (SqL.of ?_) (r.same (xF λb hb=>qD _ hb)))
 rw[zB (R.al.new n)];exact hx
def FL.fb{f:RLx}(h:FL X e f):FB X e (yB f):=h.fe.fb
def gv(i:Nat):RPx:=λρ=>match ρ[i]? with |some (.pu d)=>some d|_=>none
def gb(i:Nat):RPx:=λρ=>match ρ[i]? with |some (.pu d)=>some d|some (.ow ds)=>some (.list ds)|_=>none
def ziG{i:Nat}{ρ:Ro}{d:PdX}(h:gv i ρ=some d):ρ[i]?=some (.pu d):=by
 unfold gv at h;split at h
 ·rename_i e;cases h;exact e
 ·cases h
def zg(i:Nat){x:Str}(hN:X.N[i]?=some x:=by rfl)(hv:Vis X.env.scope x:=by trivial)(hd:NDx x:=by decide)(hcd:NCx x:=by decide):FE X (.Name x pos) (gv i):=by
 refine⟨_,yU hN hv hd hcd,λσ H os ρ d Q R q k=>?_⟩;obtain⟨v,h1,h2⟩:=R.pu i d (ziG q);exact⟨v,h1,k v H (Same.refl H) h2⟩
def z9(i:Nat){x:Str}(hN:X.N[i]?=some x:=by rfl)(hv:Vis X.env.scope x:=by trivial)(hd:NDx x:=by decide)(hcd:NCx x:=by decide):FB X (.Name x pos) (gb i):=by
 refine⟨_,yU hN hv hd hcd,λσ H os ρ d Q R q k=>?_⟩;unfold gb at q;split at q
 ·rename_i e;cases q;have⟨v,h1,h2⟩:=R.pu i d e;exact⟨v,h1,k v H (Same.refl H) (.inl h2)⟩
 ·rename_i ds e;cases q;have⟨a,xs,h1,h2,h3,h4⟩:=R.ow i ds e;exact⟨_,h1,k _ H (Same.refl H) (.inr ⟨a,xs,ds,rfl,rfl,h3,h4⟩)⟩
 ·cases q
def cst(d:PdX):RPx:=λ_=>some d
def zP{i j}:FE X (.Constant (.int i) j pos) (cst (.int i)):=⟨_,zjX,λ_ H _ _ _ _ _ q k=>by cases q;exact k _ H (Same.refl H) (.int i)⟩
def qv(i:Nat){x:Str}(hN:X.N[i]?=some x:=by rfl)(hv:Vis X.env.scope x:=by trivial)(hd:NDx x:=by decide)(hcd:NCx x:=by decide):FB X (.Name x pos) (gv i):=FE.fb (zg i hN hv hd hcd)
def qi{i j}:FB X (.Constant (.int i) j pos) (cst (.int i)):=FE.fb zP
def j5{b j}:FE X (.Constant (.bool b) j pos) (cst (.bool b)):=⟨_,zlP,λ_ H _ _ _ _ _ q k=>by cases q;exact k _ H (Same.refl H) (.bl b)⟩
def uG{j}:FE X (.Constant .none j pos) (cst .none):=⟨_,zkE,λ_ H _ _ _ _ _ q k=>by cases q;exact k _ H (Same.refl H) .non⟩
def GC(K:FRx)(mg:Str->Option Value)(x:Str)(d:PdX):Prop:=∃v u,mg x=some u/\RelV v u/\∀H,Rep K H v d
def zeH{x:Str}{d:PdX}(g:GC X.K X.mg x d)(hg:Gl X x)(hd:NDx x:=by decide):FE X (.Name x pos) (cst d):=by
 have⟨v,u,h1,h2,h3⟩:=g;exact⟨_,zjm hg h1 h2 hd,λ_ H os _ _ _ _ q k=>by cases q;exact k _ H (Same.refl H) (h3 _)⟩
def op2(h:PyData->PyData->Option PyData)(f g:RPx):RPx:=λρ=>(f ρ).bind λx=>(g ρ).bind λy=>h x y
def R2F(K:FRx)(r:R2)(h:PyData->PyData->Option PyData):Prop:=∀(x y:V)(H:Hp)(os:LAd)(d e c:PdX)(Q:VK),Al H os->jG K H os x d->jG K H os y e->h d e=some c->(∀v H',Same H H'->Rep K (offs H' os) v c->Q v H')->r x y H Q
def R2L(K:FRx)(r:R2)(h:PyData->PyData->Option (List PyData)):Prop:=∀(x y:V)(H:Hp)(os:LAd)(d e:PdX)(c:LPd)(Q:VK),Al H os->jG K H os x d->jG K H os y e->h d e=some c->
  (∀a xs H',H a=none->Same H H'->H' a=some (.lst xs)->Reps K (offs H' (a::os)) xs c->Q (.ref a) H')->r x y H Q
variable{a b:Expr}{g:RPx}
def two{ta tb:TE}{σ:St}{H:Hp}{os:LAd}{ρ:Ro}{d e:PdX}{R:V->V->Hp->Prop}(ha:∀(σ:St)(H:Hp)(os:LAd)(ρ:Ro)(d:PdX)(Q:VK),xD X.K H os σ ρ->f ρ=some d->(∀v H',Same H H'->jG X.K H' os v d->Q v H')->ta σ H Q)(hb:∀(σ:St)(H:Hp)(os:LAd)(ρ:Ro)(d:PdX)(Q:VK),xD X.K H os σ ρ->g ρ=some d->(∀v H',Same H H'->jG X.K H' os v d->Q v H')->tb σ H Q)(rel:xD X.K H os σ ρ)(e1:f ρ=some d)(e2:g ρ=some e)(k:∀x y H',Same H H'->jG X.K H' os x d->jG X.K H' os y e->R x y H'):ta σ H λx H1=>tb σ H1 λy H2=>R x y H2:=ha σ H os ρ d _ rel e1 λx H1 s1 r1=>hb σ H1 os ρ e _ (rel.same s1) e2 λy H2 s2 r2=>k x y H2 (s1.trans s2) (r1.same s2) r2
def Vo{h:PyData->PyData->Option PyData}{ρ:Ro}{c:PdX}(q:op2 h f g ρ=some c):∃d e,f ρ=some d/\g ρ=some e/\h d e=some c:=by
 have⟨d,e1,q⟩:=bind_some q;have⟨e,e2,q⟩:=bind_some q;exact⟨d,e,e1,e2,q⟩
def zy{op:Operator}{r:R2}{h:PyData->PyData->Option PyData}(ho:OpR X (binaryOp op) r)(hr:R2F X.K r h)(ha:FB X a f)(hb:FB X b g):FE X (.BinOp a op b pos) (op2 h f g):=by
 have⟨ta,pa,qa⟩:=ha;have⟨tb,pb,qb⟩:=hb;refine⟨_,zcm ho pa pb,λσ H os ρ c Q R q k=>?_⟩;have⟨d,e,e1,e2,e3⟩:=Vo q;refine two qa qb R e1 e2 λx y H' s r1 r2=>hr x y H' os d e c Q (R.al.same s) r1 r2 e3 λv H2 s2=>k v H2 (s.trans s2)
def zkJ(h:PyData->PyData->Option (List PyData))(f g:RPx):RLx:=λρ=>(f ρ).bind λx=>(g ρ).bind λy=>h x y
def zl2{op:Operator}{r:R2}{h:PyData->PyData->Option (List PyData)}(ho:OpR X (binaryOp op) r)(hr:R2L X.K r h)(ha:FB X a f)(hb:FB X b g):FL X (.BinOp a op b pos) (zkJ h f g):=by
 have⟨ta,pa,qa⟩:=ha;have⟨tb,pb,qb⟩:=hb;refine⟨_,zcm ho pa pb,λσ H os ρ c Q R q k=>?_⟩;have⟨d,e1,q⟩:=bind_some q;have⟨e,e2,e3⟩:=bind_some q;refine two qa qb R e1 e2 λx y H' s r1 r2=>hr x y H' os d e c Q (R.al.same s) r1 r2 e3 λa xs H2 n s2=>k a xs H2 (s.free n) (s.trans s2)
def zbK{op:CmpOp}{r:R2}{h:PyData->PyData->Option PyData}(ho:OpR X (compareOp op) r)(hr:R2F X.K r h)(ha:FB X a f)(hb:FB X b g)(hm:behindInMarks op b=false):FE X (.Compare a [op] [b] pos) (op2 h f g):=by
 have⟨ta,pa,qa⟩:=ha;have⟨tb,pb,qb⟩:=hb;refine⟨_,zem ho pa pb hm,λσ H os ρ c Q R q k=>?_⟩;have⟨d,e,e1,e2,e3⟩:=Vo q;refine two qa qb R e1 e2 λx y H' s r1 r2=>hr x y H' os d e c Q (R.al.same s) r1 r2 e3 λv H2 s2=>k v H2 (s.trans s2)
def zA(f:RPx):Ro->Option Bool:=λρ=>match f ρ with |some (.bool b)=>some b|_=>none
def Y9{ρ:Ro}{b:Bool}(h:zA f ρ=some b):f ρ=some (.bool b):=by
 unfold zA at h;split at h
 ·rename_i e;cases h;exact e
 ·cases h
def yd{op:CmpOp}{r:R2}{h:PyData->PyData->Option PyData}(ho:OpR X (compareOp op) r)(hr:R2F X.K r h)(ha:FB X a f)(hb:FB X b g)(hm:behindInMarks op b=false):FT X (.Compare a [op] [b] pos) (zA (op2 h f g)):=by
 have⟨ta,pa,qa⟩:=ha;have⟨tb,pb,qb⟩:=hb;refine⟨_,zeW ho pa pb hm,λσ H os ρ c Q R q k=>?_⟩;obtain⟨d,e,e1,e2,e3⟩:=Vo (Y9 q);refine two qa qb R e1 e2 λx y H' s r1 r2=>hr x y H' os d e (.bool c) _ (R.al.same s) r1 r2 e3 λv H2 s2 rv=>?_
 cases rv;exact⟨c,rfl,k H2 (s.trans s2)⟩
def vn(ha:FE X e f)(he:∀whole,isTrue e X.env whole=(do let v <-whole;standAt e.pos;holding [v] (truthy v)):=by intro _;rfl):FT X e (zA f):=by
 have⟨ta,pa,qa⟩:=ha;refine⟨_,zhM pa he,λσ H os ρ c Q R q k=>?_⟩;refine qa σ H os ρ _ _ R (Y9 q) λv H' s rv=>?_
 cases rv;exact⟨c,rfl,k H' s⟩
def vQ(f:Ro->Option Bool):Ro->Option Bool:=λρ=>(f ρ).map (!·)
def zdi(f g:Ro->Option Bool):Ro->Option Bool:=λρ=>(f ρ).bind λc=>if c then g ρ else some false
def orT(f g:Ro->Option Bool):Ro->Option Bool:=λρ=>(f ρ).bind λc=>if c then some true else g ρ
def vf{f:Ro->Option Bool}(ha:FT X a f):FT X (.UnaryOp .Not a pos) (vQ f):=by
 have⟨ta,pa,qa⟩:=ha;refine⟨_,zgE pa,λσ H os ρ c Q R q k=>?_⟩;have⟨b,e1,e2⟩:=map_some q;subst e2;exact qa σ H os ρ b _ R e1 k
def FW.ft{f:Ro->Option Bool}(h:FW X e f):FT X e f:=by
 have⟨t,p,q⟩:=h;exact⟨t,p.pt,q⟩
def ziR{f:Ro->Option Bool}(ha:FT X a f):FW X (.BoolOp .And [a] pos) f:=by
 have⟨t,p,q⟩:=ha;exact⟨t,pw_and1 p,q⟩
def Zl{f:Ro->Option Bool}(ha:FT X a f):FW X (.BoolOp .Or [a] pos) f:=by
 have⟨t,p,q⟩:=ha;exact⟨t,pw_or1 p,q⟩
def zkn{f g:Ro->Option Bool}{rest:List Expr}(ha:FT X a f)(hb:FW X (.BoolOp .And (b::rest) pos) g):FW X (.BoolOp .And (a::b::rest) pos) (zdi f g):=by
 have⟨ta,pa,qa⟩:=ha;have⟨tb,pb,qb⟩:=hb;refine⟨_,pw_and pa pb,λσ H os ρ c Q R q k=>?_⟩;have⟨b,e1,e2⟩:=bind_some q;refine qa σ H os ρ b _ R e1 λH' s=>?_
 cases b with
 |true=>rw[qg rfl] at e2 ⊢;exact qb σ H' os ρ c Q (R.same s) e2 λH2 s2=>k H2 (s.trans s2)
 |false=>rw[qm qE] at e2 ⊢;cases e2;exact k H' s
def Wq{f g:Ro->Option Bool}{rest:List Expr}(ha:FT X a f)(hb:FW X (.BoolOp .Or (b::rest) pos) g):FW X (.BoolOp .Or (a::b::rest) pos) (orT f g):=by
 have⟨ta,pa,qa⟩:=ha;have⟨tb,pb,qb⟩:=hb;refine⟨_,pw_or pa pb,λσ H os ρ c Q R q k=>?_⟩;have⟨b,e1,e2⟩:=bind_some q;refine qa σ H os ρ b _ R e1 λH' s=>?_
 cases b with
 |true=>rw[qg rfl] at e2 ⊢;cases e2;exact k H' s
 |false=>rw[qm qE] at e2 ⊢;exact qb σ H' os ρ c Q (R.same s) e2 λH2 s2=>k H2 (s.trans s2)
def zfX(f g:RPx):RPx:=λρ=>match f ρ with |some (.bool true)=>g ρ|some (.bool false)=>some (.bool false)|_=>none
def zk9(f:RPx):RPx:=λρ=>match f ρ with |some (.bool b)=>some (.bool (!b))|_=>none
def zg9{op}(h:FE X a f):FE X (.BoolOp op [a] pos) f:=by
 have⟨t,p,q⟩:=h;exact⟨t,zlv p,q⟩
def zhk{rest:List Expr}(ha:FE X a f)(hb:FE X (.BoolOp .And (b::rest) pos) g):FE X (.BoolOp .And (a::b::rest) pos) (zfX f g):=by
 have⟨ta,pa,qa⟩:=ha;have⟨tb,pb,qb⟩:=hb;refine⟨_,zkC pa pb,λσ H os ρ c Q R q k=>?_⟩;unfold zfX at q;split at q
 ·rename_i e1;refine qa σ H os ρ _ _ R e1 λv H' s rv=>?_
  cases rv;refine⟨true,rfl,?_⟩;rw[qg rfl];exact qb σ H' os ρ c Q (R.same s) q λv H2 s2=>k v H2 (s.trans s2)
 ·rename_i e1;cases q;refine qa σ H os ρ _ _ R e1 λv H' s rv=>?_
  cases rv;refine⟨false,rfl,?_⟩;rw[qm qE];exact k _ H' s (.bl _)
 ·cases q
def zkP(ha:FE X a f):FE X (.UnaryOp .Not a pos) (zk9 f):=by
 have⟨ta,pa,qa⟩:=ha;refine⟨_,zjQ pa,λσ H os ρ c Q R q k=>?_⟩;unfold zk9 at q;split at q
 ·rename_i e1;cases q;refine qa σ H os ρ _ _ R e1 λv H' s rv=>?_
  cases rv;exact⟨_,rfl,k _ H' s (.bl _)⟩
 ·cases q
def ifE(c:Ro->Option Bool)(f g:RPx):RPx:=λρ=>(c ρ).bind λb=>if b then f ρ else g ρ
def zcV{c:Expr}{fc:Ro->Option Bool}(hc:FT X c fc)(ha:FE X a f)(hb:FE X b g):FE X (.IfExp c a b pos) (ifE fc f g):=by
 have⟨tc,pc,qc⟩:=hc;have⟨ta,pa,qa⟩:=ha;have⟨tb,pb,qb⟩:=hb;refine⟨_,zgN pc pa pb,λσ H os ρ d Q R q k=>?_⟩;have⟨b,e1,e2⟩:=bind_some q;refine qc σ H os ρ b _ R e1 λH' s=>?_
 cases b with
 |true=>rw[qg rfl] at e2 ⊢;exact qa σ H' os ρ d Q (R.same s) e2 λv H2 s2=>k v H2 (s.trans s2)
 |false=>rw[qm qE] at e2 ⊢;exact qb σ H' os ρ d Q (R.same s) e2 λv H2 s2=>k v H2 (s.trans s2)
def op1(h:PyData->Option PyData)(f:RPx):RPx:=λρ=>(f ρ).bind h
def zcb:PyData->Option PyData
 | .int i=>some (.int (-i))
 |_=>none
def zbs(ha:FE X a f):FE X (.UnaryOp .USub a pos) (op1 zcb f):=by
 have⟨ta,pa,qa⟩:=ha;refine⟨_,zlS zjP pa,λσ H os ρ c Q R q k=>?_⟩;have⟨d,e1,e2⟩:=bind_some q;refine qa σ H os ρ _ _ R e1 λv H' s rv=>?_
 unfold zcb at e2;split at e2
 ·cases e2;cases rv;exact⟨_,rfl,k _ H' s (.int _)⟩
 ·cases e2
def a0:RLx:=λ_=>some []
def aC(f:RPx)(g:RLx):RLx:=λρ=>(f ρ).bind λx=>(g ρ).map (x::·)
variable{es:List Expr}{ga:RLx}
def zh:FA X [] a0:=⟨_,jf,λ_ H _ _ _ _ _ q k=>by cases q;exact k [] H (Same.refl H) .nil⟩
def zt:FAB X [] a0:=⟨_,jf,λ_ H _ _ _ _ _ q k=>by cases q;exact k [] H (Same.refl H) .nil⟩
def za(ha:FE X e f)(hr:FA X es ga)(hs:SEx X e es:=by rfl):FA X (e::es) (aC f ga):=by
 have⟨ta,pa,qa⟩:=ha;have⟨tb,pb,qb⟩:=hr;refine⟨_,xn pa pb hs,λσ H os ρ ds Q R q k=>?_⟩;have⟨d,e1,q⟩:=bind_some q;have⟨r,e2,e3⟩:=map_some q;subst e3;exact qa σ H os ρ d _ R e1 λx H1 s1 r1=>qb σ H1 os ρ r _ (R.same s1) e2 λxs H2 s2 r2=>k _ H2 (s1.trans s2) (.cons (r1.same (zr s2 os)) r2)
def zj(ha:FB X e f)(hr:FAB X es ga)(hs:SEx X e es:=by rfl):FAB X (e::es) (aC f ga):=by
 have⟨ta,pa,qa⟩:=ha;have⟨tb,pb,qb⟩:=hr;refine⟨_,xn pa pb hs,λσ H os ρ ds Q R q k=>?_⟩;have⟨d,e1,q⟩:=bind_some q;have⟨r,e2,e3⟩:=map_some q;subst e3;exact qa σ H os ρ d _ R e1 λx H1 s1 r1=>qb σ H1 os ρ r _ (R.same s1) e2 λxs H2 s2 r2=>k _ H2 (s1.trans s2) (.cons (r1.same s2) r2)
def yM(g:RLx):RPx:=λρ=>(g ρ).bind λds=>if ds.length<=16777216 then some (.tuple ds) else none
def yn{x1}(h:FA X es ga):FE X (.Tuple es x1 pos) (yM ga):=by
 have⟨t,p,q⟩:=h;refine⟨_,zdd p,λσ H os ρ d Q R e k=>?_⟩;have⟨ds,e1,e2⟩:=bind_some e;by_cases hl:ds.length<=16777216
 ·rw[qg hl] at e2;cases e2;refine q σ H os ρ ds _ R e1 λvs H' s r=>⟨by rw[r.length];exact hl,λp hp=>k _ _ (s.trans (yh hp _)) (.tup (SqT.of ?_) (r.same (zr (yh hp _) os)))⟩
  rw[zB ((R.al.same s).new hp)];exact zL
 ·rw[qm hl] at e2;cases e2
def vL(g:RLx):RLx:=λρ=>(g ρ).bind λds=>if ds.length<=16777216 then some ds else none
def xO(h:FA X es ga):FL X (.List es pos) (vL ga):=by
 have⟨t,p,q⟩:=h;refine⟨_,zjW p,λσ H os ρ d Q R e k=>?_⟩;have⟨ds,e1,e2⟩:=bind_some e;by_cases hl:ds.length<=16777216
 ·rw[qg hl] at e2;cases e2;refine q σ H os ρ d _ R e1 λvs H' s r=>⟨by rw[r.length];exact hl,λp hp=>k p vs _ (s.free hp) (s.trans (yh hp _)) zL ?_⟩
  rw[jw];refine r.same λb o z=>?_
  by_cases hb:b∈os
  ·rw[xP hb] at z;cases z
  ·rw[zB hb] at z;rw[zB]
   ·exact z
   ·intro w;rcases qw.mp w with w|w
    ·rw[w,hp] at z;cases z
    ·exact hb w
 ·rw[qm hl] at e2;cases e2
end
end L2.Fu
namespace L2.Fu
open PySem PySem.Spec PyProof.Rows
open PySem.Builtin.Int (intBits)
def xb:PyData->PyData->Option PyData
 | .int i,.int j=>some (.int (i+j))
 |_,_=>none
def Wk:PyData->PyData->Option PyData
 | .int i,.int j=>some (.int (i - j))
 |_,_=>none
def yA:PyData->PyData->Option PyData
 | .int i,.int j=>open Classical in if IntMulOk i j then some (.int (i*j)) else none
 |_,_=>none
def yg:PyData->PyData->Option PyData
 | .int i,.int j=>if j≠0/\j.natAbs.log2<9000 then some (.int (i.fdiv j)) else none
 |_,_=>none
def yr:PyData->PyData->Option PyData
 | .int i,.int j=>if j≠0 then some (.int (i.fmod j)) else none
 |_,_=>none
def zbS:PyData->PyData->Option PyData
 | .int i,.int j=>if 0<=j/\j<=1000000/\i.natAbs<18446744073709551616 then some (.int (i ^ j.toNat)) else none
 |_,_=>none
def zd5(p:Int->Int->Bool):PyData->PyData->Option PyData
 | .int i,.int j=>some (.bool (p i j))
 |_,_=>none
section
variable{K:FRx}
def xW:R2F K (rI0 λi j=>.int (i+j)) xb:=by
 intro x y H os d e c Q al r1 r2 h k;unfold xb at h;split at h
 ·cases h;exact⟨_,_,r1.int,r2.int,k _ H (Same.refl H) (.int _)⟩
 ·cases h
def Jm:R2F K (rI0 λi j=>.int (i - j)) Wk:=by
 intro x y H os d e c Q al r1 r2 h k;unfold Wk at h;split at h
 ·cases h;exact⟨_,_,r1.int,r2.int,k _ H (Same.refl H) (.int _)⟩
 ·cases h
def xw:R2F K (rI IntMulOk λi j=>.int (i*j)) yA:=by
 intro x y H os d e c Q al r1 r2 h k;unfold yA at h;split at h
 ·split at h
  ·rename_i hc;cases h;exact⟨_,_,r1.int,r2.int,hc,k _ H (Same.refl H) (.int _)⟩
  ·cases h
 ·cases h
def yG:R2F K (rI zjG λi j=>.int (i.fdiv j)) yg:=by
 intro x y H os d e c Q al r1 r2 h k;unfold yg at h;split at h
 ·split at h
  ·rename_i hc;cases h;exact⟨_,_,r1.int,r2.int,hc,k _ H (Same.refl H) (.int _)⟩
  ·cases h
 ·cases h
def yP:R2F K (rI (λ_ j=>j≠0) λi j=>.int (i.fmod j)) yr:=by
 intro x y H os d e c Q al r1 r2 h k;unfold yr at h;split at h
 ·split at h
  ·rename_i hc;cases h;exact⟨_,_,r1.int,r2.int,hc,k _ H (Same.refl H) (.int _)⟩
  ·cases h
 ·cases h
def zg3:R2F K (rI zlW λi j=>.int (i ^ j.toNat)) zbS:=by
 intro x y H os d e c Q al r1 r2 h k;unfold zbS at h;split at h
 ·split at h
  ·rename_i hc;cases h;exact⟨_,_,r1.int,r2.int,hc,k _ H (Same.refl H) (.int _)⟩
  ·cases h
 ·cases h
def vg{p:Int->Int->Bool}:R2F K (rI0 λi j=>.bl (p i j)) (zd5 p):=by
 intro x y H os d e c Q al r1 r2 h k;unfold zd5 at h;split at h
 ·cases h;exact⟨_,_,r1.int,r2.int,k _ H (Same.refl H) (.bl _)⟩
 ·cases h
def eqD(d e:PdX):Option PyData:=if SeqAt.shaped d=true/\SeqAt.shaped e=true then some (.bool (PyData.eqv d e)) else none
def neD(d e:PdX):Option PyData:=if SeqAt.shaped d=true/\SeqAt.shaped e=true then some (.bool (!PyData.eqv d e)) else none
def uo:R2F K (zlK K) eqD:=by
 intro x y H os d e c Q al r1 r2 h k;unfold eqD at h;split at h
 ·rename_i hc;cases h;exact⟨d,e,r1.rep,r2.rep,hc.1,hc.2,k _ H (Same.refl H) (.bl _)⟩
 ·cases h
def Jh:R2F K (zlF K) neD:=by
 intro x y H os d e c Q al r1 r2 h k;unfold neD at h;split at h
 ·rename_i hc;cases h;exact⟨d,e,r1.rep,r2.rep,hc.1,hc.2,k _ H (Same.refl H) (.bl _)⟩
 ·cases h
def isNone:PyData->Bool
 | .none=>true
 |_=>false
def isD:PyData->PyData->Option PyData
 |d,.none=>some (.bool (isNone d))
 |_,_=>none
def UH:PyData->PyData->Option PyData
 |d,.none=>some (.bool (!isNone d))
 |_,_=>none
def Zr{H:Hp}{x:V}{d:PdX}(h:Rep K H x d):decide (x=.non)=isNone d:=by
 cases h<;>rfl
def zmd:R2F K (λx y H Q=>y=.non/\Q (.bl (decide (x=.non))) H) isD:=by
 intro x y H os d e c Q al r1 r2 h k;unfold isD at h;split at h
 ·cases h;refine⟨r2.non,?_⟩;rw[Zr r1.rep];exact k _ H (Same.refl H) (.bl _)
 ·cases h
def Vt:R2F K (λx y H Q=>y=.non/\Q (.bl (!decide (x=.non))) H) UH:=by
 intro x y H os d e c Q al r1 r2 h k;unfold UH at h;split at h
 ·cases h;refine⟨r2.non,?_⟩;rw[Zr r1.rep];exact k _ H (Same.refl H) (.bl _)
 ·cases h
def ixD:PyData->PyData->Option PyData
 | .tuple ds,.int i=>atI ds i
 | .list ds,.int i=>atI ds i
 |_,_=>none
def zcf{G:Hp}{xs:List V}{ds:LPd}{i:Int}{d:PdX}(r:Reps K G xs ds)(h:atI ds i=some d):∃v,atI xs i=some v/\Rep K G v d:=by
 unfold atI at h ⊢;rw[r.length];cases e:ixN ds.length i with
 |none=>rw[e] at h;cases h
 |some j=>
  rw[e] at h;exact r.getD h
def zjy:R2F K (zke K) ixD:=by
 intro x y H os d e c Q al r1 r2 h k;unfold ixD at h;split at h
 ·obtain⟨a,xs,rfl,hS,_,r⟩:=r1.tup;have⟨v,e,rv⟩:=zcf r h;exact⟨true,a,xs,_,v,rfl,r2.int,hS,e,k v H (Same.refl H) rv⟩
 ·obtain⟨a,xs,rfl,hS,r⟩:=r1.lst;have⟨v,e,rv⟩:=zcf r h;exact⟨false,a,xs,_,v,rfl,r2.int,hS,e,k v H (Same.refl H) rv⟩
 ·cases h
def Jl:PyData->PyData->Option PyData
 | .tuple ds,.tuple es=>if ds.length+es.length<=16777216 then some (.tuple (ds++es)) else none
 |_,_=>none
def vN:R2F K (zhy K) Jl:=by
 intro x y H os d e c Q al r1 r2 h k;unfold Jl at h;split at h
 ·rename_i ds es;split at h
  ·rename_i hc;cases h;obtain⟨a,xs,rfl,hS,hSo,r⟩:=r1.tup;obtain⟨b,ys,rfl,hT,hTo,q⟩:=r2.tup;have l1:=r.length;have l2:=q.length
   refine⟨a,b,xs,ys,rfl,rfl,hS,hT,by rw[l1,l2];exact hc,λz=>?_,λz w=>?_,λz w p hp=>?_⟩
   ·subst z;cases r;exact k _ H (Same.refl H) (.tup hTo q)
   ·subst w;cases q;rw[kf] at k;exact k _ H (Same.refl H) (.tup hSo r)
   ·have s:=yh hp (.tup (xs++ys));refine k _ _ s (.tup (SqT.of ?_) ((r.append q).same (zr s os)));rw[zB (al.new hp)];exact zL
  ·cases h
 ·cases h
def wu{H:Hp}{os:LAd}{p:AdX}{o:HO}{xs:List V}{ds:LPd}(hp:H p=none)(r:Reps K (offs H os) xs ds):Reps K (offs (upd H p o) (p::os)) xs ds:=by
 rw[jw];refine r.same λb o z=>?_
 by_cases hb:b∈os
 ·rw[xP hb] at z;cases z
 ·rw[zB hb] at z;rw[zB]
  ·exact z
  ·intro w;rcases qw.mp w with w|w
   ·rw[w,hp] at z;cases z
   ·exact hb w
end
def FK(X:Cx)(e:Expr)(f:RLx):Prop:=∃t:TE,PE X e t/\∀(σ:St)(H:Hp)(os:LAd)(ρ:Ro)(ds:LPd)(Q:VK),xD X.K H os σ ρ->f ρ=some ds->
  (∀a xs H',Same H H'->H' a=some (.lst xs)->Reps X.K (offs H' os) xs ds->Q (.ref a) H')->t σ H Q
def gk(i:Nat):RLx:=λρ=>match ρ[i]? with |some (.ow ds)=>some ds|_=>none
section
variable{X:Cx}{e a b:Expr}{pos:Pos}
def FL.fk{f:RLx}(h:FL X e f):FK X e f:=by
 have⟨t,h1,h2⟩:=h;exact⟨t,h1,λσ H os ρ ds Q R q k=>h2 σ H os ρ ds Q R q λa xs H' n s hx r=>k a xs H' s hx (r.same (xF λb hb=>qD _ hb))⟩
def JQ{i:Nat}{ρ:Ro}{ds:LPd}(q:gk i ρ=some ds):ρ[i]?=some (.ow ds):=by
 unfold gk at q;split at q
 ·rename_i e;cases q;exact e
 ·cases q
def zde(i:Nat){x:Str}(hN:X.N[i]?=some x:=by rfl)(hv:Vis X.env.scope x:=by trivial)(hd:NDx x:=by decide)(hcd:NCx x:=by decide):FK X (.Name x pos) (gk i):=by
 refine⟨_,yU hN hv hd hcd,λσ H os ρ d Q R q k=>?_⟩;obtain⟨a,xs,h1,h2,h3,h4⟩:=R.ow i d (JQ q);exact⟨_,h1,k _ _ H (Same.refl H) h3 h4⟩
def zfN(f g:RLx):RLx:=λρ=>(f ρ).bind λx=>(g ρ).bind λy=>if x.length+y.length<=16777216 then some (x++y) else none
def zhA{f g:RLx}(ha:FK X a f)(hb:FK X b g):FL X (.BinOp a .Add b pos) (zfN f g):=by
 have⟨ta,pa,qa⟩:=ha;have⟨tb,pb,qb⟩:=hb;refine⟨_,zcm zlu pa pb,λσ H os ρ c Q R q k=>?_⟩;have⟨x,e1,q⟩:=bind_some q;have⟨y,e2,q⟩:=bind_some q;split at q
 ·rename_i hl;cases q;refine qa σ H os ρ x _ R e1 λa xs H1 s1 h1 r1=>qb σ H1 os ρ y _ (R.same s1) e2 λb ys H2 s2 h2 r2=>?_
  have l1:=r1.length;have l2:=r2.length
  refine⟨a,b,xs,ys,rfl,rfl,s2 _ _ h1,h2,by rw[l1,l2];exact hl,λp hp=>?_⟩;exact k p _ _ (s1.free (s2.free hp)) ((s1.trans s2).trans (yh hp _)) zL (wu hp ((r1.same (zr s2 os)).append r2))
 ·cases q
def zhd(f:RLx)(g:RPx):RLx:=λρ=>(f ρ).bind λx=>match g ρ with
 |some (.int k)=>if -(2 ^ 63)<=k/\k<2 ^ 63/\x.length*k.toNat<=16777216 then some (List.replicate k.toNat x).flatten else none
 |_=>none
theorem Yp{K:FRx}{H:Hp}{xs:List V}{ds:LPd}(r:Reps K H xs ds):∀k:Nat,Reps K H (List.replicate k xs).flatten (List.replicate k ds).flatten
 |0=>.nil
 |k+1=>by
  rw[k9,k9,gK,gK];exact r.append (Yp r k)
def zgt{f:RLx}{g:RPx}(ha:FK X a f)(hb:FE X b g):FL X (.BinOp a .Mult b pos) (zhd f g):=by
 have⟨ta,pa,qa⟩:=ha;have⟨tb,pb,qb⟩:=hb;refine⟨_,zcm zku pa pb,λσ H os ρ c Q R q k=>?_⟩;have⟨x,e1,q⟩:=bind_some q;split at q
 ·rename_i n e2;split at q
  ·rename_i hl;cases q;refine qa σ H os ρ x _ R e1 λa xs H1 s1 h1 r1=>qb σ H1 os ρ _ _ (R.same s1) e2 λv H2 s2 r2=>?_
   cases r2;have l1:=r1.length;refine⟨a,n,xs,rfl,rfl,s2 _ _ h1,hl.1,hl.2.1,by rw[l1];exact hl.2.2,λp hp=>?_⟩;exact k p _ _ (s1.free (s2.free hp)) ((s1.trans s2).trans (yh hp _)) zL (wu hp (Yp (r1.same (zr s2 os)) _))
  ·cases q
 ·cases q
def FO(X:Cx)(e:Option Expr)(f:Ro->Option (Option Int)):Prop:=∃t:TO,PO X e t/\∀(σ:St)(H:Hp)(os:LAd)(ρ:Ro)(d:Option Int)(Q:Option Int->Hp->Prop),xD X.K H os σ ρ->f ρ=some d->(∀H',Same H H'->Q d H')->t σ H Q
def o0:Ro->Option (Option Int):=λ_=>some none
def oS(f:RPx):Ro->Option (Option Int):=λρ=>match f ρ with |some (.int i)=>some (some i)|_=>none
def zeI:FO X none o0:=⟨_,zi6,λ_ H _ _ _ _ _ q k=>by cases q;exact k H (Same.refl H)⟩
def J3{f:RPx}(h:FE X e f):FO X (some e) (oS f):=by
 have⟨t,p,q⟩:=h;refine⟨_,zh5 p,λσ H os ρ d Q R e k=>?_⟩;unfold oS at e;split at e
 ·rename_i i e1;cases e;refine q σ H os ρ _ _ R e1 λv H' s r=>?_
  cases r;exact⟨i,rfl,k H' s⟩
 ·cases e
def cut(ds:LPd)(lo hi:Option Int):List PyData:=(ds.drop (HT.sIx ds.length 0 lo)).take (HT.sIx ds.length ds.length hi - HT.sIx ds.length 0 lo)
def zcr{K:FRx}{H:Hp}{xs:List V}{ds:LPd}(r:Reps K H xs ds)(lo hi:Option Int):Reps K H (zfn xs lo hi) (cut ds lo hi):=by
 unfold zfn cut;rw[r.length];exact(r.drop _).take _
def slL(f:RPx)(l h:Ro->Option (Option Int)):RLx:=λρ=>match f ρ with
 |some (.list ds)=>(l ρ).bind λlo=>(h ρ).bind λhi=>some (cut ds lo hi)
 |_=>none
variable{lo hi:Option Expr}{p2:Pos}{l h:Ro->Option (Option Int)}{f:RPx}
def YL(ha:FB X e f)(hl:FO X lo l)(hh:FO X hi h):FL X (.Subscript e (.Slice lo hi none p2) pos) (slL f l h):=by
 have⟨ta,pa,qa⟩:=ha;have⟨tl,pl,ql⟩:=hl;have⟨th,ph,qh⟩:=hh;refine⟨_,zc7 zek pa pl ph,λσ H os ρ c Q R q k=>?_⟩;unfold slL at q;split at q
 ·rename_i ds e1;have⟨a,e2,q⟩:=bind_some q;have⟨b,e3,q⟩:=bind_some q;cases q;refine qa σ H os ρ _ _ R e1 λv H1 s1 r1=>ql σ H1 os ρ a _ (R.same s1) e2 λH2 s2=>qh σ H2 os ρ b _ (R.same (s1.trans s2)) e3 λH3 s3=>?_
  obtain⟨p,xs,rfl,hS,r⟩:=(r1.same (s2.trans s3)).lst;exact⟨p,xs,rfl,hS,λq hq=>k q _ _ ((s1.trans s2).trans s3 |>.free hq) (((s1.trans s2).trans s3).trans (yh hq _)) zL (wu hq (zcr r a b))⟩
 ·cases q
def CRF(K:FRx)(r:List V->Hp->VK->Prop)(h:LPx):Prop:=∀(xs:List V)(H:Hp)(os:LAd)(ds:LPd)(c:PdX)(Q:VK),Al H os->j6 K H os xs ds->h ds=some c->(∀v H',Same H H'->Rep K (offs H' os) v c->Q v H')->r xs H Q
def CRL(K:FRx)(r:List V->Hp->VK->Prop)(h:LLx):Prop:=∀(xs:List V)(H:Hp)(os:LAd)(ds:LPd)(c:LPd)(Q:VK),Al H os->j6 K H os xs ds->h ds=some c->
  (∀a xs H',H a=none->Same H H'->H' a=some (.lst xs)->Reps K (offs H' (a::os)) xs c->Q (.ref a) H')->r xs H Q
def zd(h:LPx)(g:RLx):RPx:=λρ=>(g ρ).bind h
def xc(h:LLx)(g:RLx):RLx:=λρ=>(g ρ).bind h
variable{x:Str}{p:Pos}{es:List Expr}{ga:RLx}{id T:String}{r:List V->Hp->VK->Prop}
def zI{h:LPx}(hc:we X (.builtin id) r)(hr:CRF X.K r h)(hg:Gl X x)(hm:X.mg x=none)(hv:bootBuiltins x=some (.builtin id))(ha:FAB X (e::es) ga)(hn:x≠"__name__":=by decide)(hdb:NDx x:=by decide)(he:SEx X e es:=by rfl)(hpl:PLx X pos es:=by rfl):FE X (.Call (.Name x p) (e::es) [] pos) (zd h ga):=by
 have⟨t,pa,qa⟩:=ha;refine⟨_,Yi hc hg hm hv pa hn hdb he hpl,λσ H os ρ c Q R q k=>?_⟩;have⟨ds,e1,e2⟩:=bind_some q;exact qa σ H os ρ ds _ R e1 λvs H' s rv=>hr vs H' os ds c Q (R.al.same s) rv e2 λv H2 s2=>k v H2 (s.trans s2)
def zW{h:LPx}(hc:we X (.type T) r)(hr:CRF X.K r h)(hg:Gl X x)(hm:X.mg x=none)(hv:bootBuiltins x=some (.type T))(ha:FAB X (e::es) ga)(hn:x≠"__name__":=by decide)(hdb:NDx x:=by decide)(he:SEx X e es:=by rfl)(hpl:PLx X pos es:=by rfl):FE X (.Call (.Name x p) (e::es) [] pos) (zd h ga):=by
 have⟨t,pa,qa⟩:=ha;refine⟨_,JU hc hg hm hv pa hn hdb he hpl,λσ H os ρ c Q R q k=>?_⟩;have⟨ds,e1,e2⟩:=bind_some q;exact qa σ H os ρ ds _ R e1 λvs H' s rv=>hr vs H' os ds c Q (R.al.same s) rv e2 λv H2 s2=>k v H2 (s.trans s2)
def jO{h:LLx}(hc:we X (.type T) r)(hr:CRL X.K r h)(hg:Gl X x)(hm:X.mg x=none)(hv:bootBuiltins x=some (.type T))(ha:FAB X (e::es) ga)(hn:x≠"__name__":=by decide)(hdb:NDx x:=by decide)(he:SEx X e es:=by rfl)(hpl:PLx X pos es:=by rfl):FL X (.Call (.Name x p) (e::es) [] pos) (xc h ga):=by
 have⟨t,pa,qa⟩:=ha;refine⟨_,JU hc hg hm hv pa hn hdb he hpl,λσ H os ρ c Q R q k=>?_⟩;have⟨ds,e1,e2⟩:=bind_some q;exact qa σ H os ρ ds _ R e1 λvs H' s rv=>hr vs H' os ds c Q (R.al.same s) rv e2 λa xs H2 n s2=>k a xs H2 (s.free n) (s.trans s2)
def yb:List PyData->Option PyData
 |[.list ds]=>some (.int ds.length)
 |[.tuple ds]=>some (.int ds.length)
 |_=>none
def zX:List PyData->Option PyData
 |[.list ds]=>some (.tuple ds)
 |[.tuple ds]=>some (.tuple ds)
 |_=>none
def vD:List PyData->Option (List PyData)
 |[.list ds]=>some ds
 |[.tuple ds]=>some ds
 |_=>none
def ziJ:List PyData->Option PyData
 |[.int i]=>some (.int (if i<0 then -i else i))
 |_=>none
def maxD:List PyData->Option PyData
 |[.int i,.int j]=>some (.int (if j>i then j else i))
 |_=>none
def Vl:PyData->Option Int
 | .int i=>some i
 |_=>none
def wx{α β:Type}(h:α->Option β):List α->Option (List β)
 |[]=>some []
 |x::r=>(h x).bind λy=>(wx h r).map (y::·)
def zja:List PyData->Option PyData
 |[.list ds]=>(wx Vl ds).map λns=>.int ns.sum
 |_=>none
theorem Jf{K:FRx}{H:Hp}:∀{ds:LPd} {xs:List V} {ns:List Int},Reps K H xs ds->wx Vl ds=some ns->xs=ns.map V.int
 |[],_,_,r,h=>by cases r;cases h;rfl
 |d::r,_,_,q,h=>by
  cases q with
  |cons h1 h2=>
   have⟨y,e1,h⟩:=bind_some h;have⟨ys,e2,e3⟩:=map_some h;subst e3;rw[Jf h2 e2];cases d<;>cases e1
   cases h1;rfl
end
section
variable{K:FRx}
def y3:CRF K (λxs H Q=>∃p ys,xs=[.ref p]/\(SqL K H p ys\/SqT K H p ys)/\Q (.int ys.length) H) yb:=by
 intro xs H os ds c Q al rv h k;unfold yb at h;split at h
 ·cases h;obtain⟨v,rfl,r⟩:=rv.one;obtain⟨a,ys,rfl,hS,r⟩:=r.lst;exact⟨a,ys,rfl,.inl hS,by rw[r.length];exact k _ H (Same.refl H) (.int _)⟩
 ·cases h;obtain⟨v,rfl,r⟩:=rv.one;obtain⟨a,ys,rfl,hS,_,r⟩:=r.tup;exact⟨a,ys,rfl,.inr hS,by rw[r.length];exact k _ H (Same.refl H) (.int _)⟩
 ·cases h
def yH:CRF K (λxs H Q=>∃p ys,xs=[.ref p]/\((SqL K H p ys/\∀l,H l=none->Q (.ref l) (upd H l (.tup ys)))\/(SqT K H p ys/\Q (.ref p) H))) zX:=by
 intro xs H os ds c Q al rv h k;unfold zX at h;split at h
 ·cases h;obtain⟨v,rfl,r⟩:=rv.one;obtain⟨a,ys,rfl,hS,r⟩:=r.lst;refine⟨a,ys,rfl,.inl ⟨hS,λl hl=>?_⟩⟩;have s:=yh hl (.tup ys);refine k _ _ s (.tup (SqT.of ?_) (r.same (zr s os)));rw[zB (al.new hl)];exact zL
 ·cases h;obtain⟨v,rfl,r⟩:=rv.one;obtain⟨a,ys,rfl,hS,hSo,r⟩:=r.tup;exact⟨a,ys,rfl,.inr ⟨hS,k _ H (Same.refl H) (.tup hSo r)⟩⟩
 ·cases h
def JM:CRL K (λxs H Q=>∃p ys,xs=[.ref p]/\(SqL K H p ys\/SqT K H p ys)/\∀l,H l=none->Q (.ref l) (upd H l (.lst ys))) vD:=by
 intro xs H os ds c Q al rv h k;unfold vD at h;split at h
 ·cases h;obtain⟨v,rfl,r⟩:=rv.one;obtain⟨a,ys,rfl,hS,r⟩:=r.lst;exact⟨a,ys,rfl,.inl hS,λl hl=>k l ys _ hl (yh hl _) zL (wu hl r)⟩
 ·cases h;obtain⟨v,rfl,r⟩:=rv.one;obtain⟨a,ys,rfl,hS,_,r⟩:=r.tup;exact⟨a,ys,rfl,.inr hS,λl hl=>k l ys _ hl (yh hl _) zL (wu hl r)⟩
 ·cases h
def zjL:CRF K (λxs H Q=>∃i,xs=[.int i]/\Q (.int (if i<0 then -i else i)) H) ziJ:=by
 intro xs H os ds c Q al rv h k;unfold ziJ at h;split at h
 ·cases h;obtain⟨v,rfl,r⟩:=rv.one;cases r.int;exact⟨_,rfl,k _ H (Same.refl H) (.int _)⟩
 ·cases h
def zf1:CRF K (λxs H Q=>∃i j,xs=[.int i,.int j]/\Q (.int (if j>i then j else i)) H) maxD:=by
 intro xs H os ds c Q al rv h k;unfold maxD at h;split at h
 ·cases h;obtain⟨v,u,rfl,r,r'⟩:=rv.two;cases r.int;cases r'.int;exact⟨_,_,rfl,k _ H (Same.refl H) (.int _)⟩
 ·cases h
def zl1:CRF K (λxs H Q=>∃(p:AdX)(ns:List Int),xs=[.ref p]/\SqL K H p (ns.map V.int)/\Q (.int ns.sum) H) zja:=by
 intro xs H os ds c Q al rv h k;unfold zja at h;split at h
 ·have⟨ns,e1,e2⟩:=map_some h;subst e2;obtain⟨v,rfl,r⟩:=rv.one;obtain⟨a,ys,rfl,hS,r⟩:=r.lst;rw[Jf r e1] at hS;exact⟨a,ns,rfl,hS,k _ H (Same.refl H) (.int _)⟩
 ·cases h
end
def YJ(T:String):PyData->Option PyData
 | .int _=>if T="int" then some (.bool true) else if T="bool" then some (.bool false) else if T="tuple" then some (.bool false) else none
 | .bool _=>if T="int" then some (.bool true) else if T="bool" then some (.bool true) else none
 | .tuple _=>if T="tuple" then some (.bool true) else if T="list" then some (.bool false) else if T="int" then some (.bool false) else none
 | .list _=>if T="list" then some (.bool true) else if T="tuple" then some (.bool false) else if T="int" then some (.bool false) else none
 |_=>none
def zkj{K:FRx}{H:Hp}{os:LAd}{v:V}{d:PdX}{T:String}{c:PdX}(r:jG K H os v d)(h:YJ T d=some c):∃b,c=.bool b/\IsI K H v T b:=by
 unfold YJ at h;split at h
 ·cases r.int;split at h
  ·rename_i e;subst e;cases h;exact⟨_,rfl,.int_int _⟩
  ·split at h
   ·rename_i e;subst e;cases h;exact⟨_,rfl,.int_bool _⟩
   ·split at h
    ·rename_i e;subst e;cases h;exact⟨_,rfl,.int_tup _⟩
    ·cases h
 ·cases r.bl;split at h
  ·rename_i e;subst e;cases h;exact⟨_,rfl,.bl_int _⟩
  ·split at h
   ·rename_i e;subst e;cases h;exact⟨_,rfl,.bl_bool _⟩
   ·cases h
 ·obtain⟨a,xs,rfl,hS,_,_⟩:=r.tup;split at h
  ·rename_i e;subst e;cases h;exact⟨_,rfl,.tup_tup hS⟩
  ·split at h
   ·rename_i e;subst e;cases h;exact⟨_,rfl,.tup_lst hS⟩
   ·split at h
    ·rename_i e;subst e;cases h;exact⟨_,rfl,.tup_int hS⟩
    ·cases h
 ·obtain⟨a,xs,rfl,hS,_⟩:=r.lst;split at h
  ·rename_i e;subst e;cases h;exact⟨_,rfl,.lst_lst hS⟩
  ·split at h
   ·rename_i e;subst e;cases h;exact⟨_,rfl,.lst_tup hS⟩
   ·split at h
    ·rename_i e;subst e;cases h;exact⟨_,rfl,.lst_int hS⟩
    ·cases h
 ·cases h
section
variable{X:Cx}{e:Expr}{f:RPx}{pos p p2:Pos}{T:String}{tn:Str}
def Up(ha:FB X e f)(hg:Gl X "isinstance")(hm:X.mg "isinstance"=none)(hgt:Gl X tn)(hmt:X.mg tn=none)(ht:bootBuiltins tn=some (.type T))(hn:tn≠"__name__":=by decide)(hdb:NDx tn:=by decide)(he:starEach [e,.Name tn p2] X.env=(false,eval e X.env)::starEach [.Name tn p2] X.env:=by rfl)(he2:starEach [.Name tn p2] X.env=(false,eval (.Name tn p2) X.env)::starEach [] X.env:=by rfl)(hpl:(backTo pos (starEach [.Name tn p2] X.env)).any (·.1)=false:=by rfl):FE X (.Call (.Name "isinstance" p) [e,.Name tn p2] [] pos) (op1 (YJ T) f):=by
 have⟨t,pa,qa⟩:=ha;refine⟨_,Yi zgr hg hm ZO (xn pa (xn (zjr (v:=.ty T) hgt hmt ht rfl hn hdb) jf he2) he) (by decide) (by decide) he hpl,λσ H os ρ c Q R q k=>?_⟩;have⟨d,e1,e2⟩:=bind_some q;refine qa σ H os ρ d _ R e1 λv H' s rv=>?_
 obtain⟨b,rfl,hi⟩:=zkj rv e2;exact⟨v,T,b,rfl,hi,k _ H' s (.bl b)⟩
end
end L2.Fu
namespace L2.Fu
open PySem PySem.Spec PyProof.Rows
def spF(K:FRx)(f:LPx):Sp:=λvs H Q _=>∃os ds r,Al H os/\Reps K (offs H os) vs ds/\f ds=some r/\∀v H',Same H H'->Rep K (offs H' os) v r->Q v H'
def spL(K:FRx)(f:LLx):Sp:=λvs H Q _=>∃os ds r,Al H os/\Reps K (offs H os) vs ds/\f ds=some r/\
 ∀a xs H',H a=none->Same H H'->H' a=some (.lst xs)->Reps K (offs H' (a::os)) xs r->Q (.ref a) H'
abbrev yQ(P:Program)(w:World)(K:FRx)(mg:Str->Option Value)(base:Heap)(k:Nat)(x:Str)(ps:LSr)(f:LPx):Prop:=Def P w K mg base CX0 k x ps (spF K f)
abbrev x6(P:Program)(w:World)(K:FRx)(mg:Str->Option Value)(base:Heap)(k:Nat)(x:Str)(ps:LSr)(f:LLx):Prop:=Def P w K mg base CX0 k x ps (spL K f)
def zh1:PyData->Bool
 | .int _=>true
 | .bool _=>true
 | .none=>true
 | .str _=>true
 |_=>false
def zkp{K:FRx}{H H':Hp}{v:V}{d:PdX}(h:zh1 d=true)(r:Rep K H v d):Rep K H' v d:=by
 cases r with
 |non=>exact .non
 |bl b=>exact .bl b
 |int i=>exact .int i
 |str x=>exact .str x
 |tup _ _=>cases h
 |lst _ _=>cases h
def Vu(h:LPx)(g:RLx):RPx:=λρ=>(g ρ).bind λds=>(h ds).bind λr=>if zh1 r=true then some r else none
section
variable{X:Cx}{k k':Nat}{x:Str}{ps:LSr}{p pos:Pos}{e:Expr}{es:List Expr}{ga:RLx}
def zo{f:LPx}(D:yQ X.prog X.w X.K X.mg X.base k x ps f)(hr:Room k' X.A)(hg:Gl X x)(ha:FA X (e::es) ga)(hk:k<=k':=by decide)(hdb:NDx x:=by decide)(he:SEx X e es:=by rfl)(hpl:PLx X pos es:=by rfl):FE X (.Call (.Name x p) (e::es) [] pos) (zd f ga):=by
 have⟨t,pa,qa⟩:=ha;refine⟨_,Wg D hr hg JD pa hk hdb he hpl,λσ H os ρ c Q R q k=>?_⟩;have⟨ds,e1,e2⟩:=bind_some q;refine qa σ H os ρ ds _ R e1 λvs H' s rv=>?_
 rw[kf];exact⟨os,ds,c,R.al.same s,rv,e2,λv H2 s2=>k v H2 (s.trans s2)⟩
def vw{f:LLx}(D:x6 X.prog X.w X.K X.mg X.base k x ps f)(hr:Room k' X.A)(hg:Gl X x)(ha:FA X (e::es) ga)(hk:k<=k':=by decide)(hdb:NDx x:=by decide)(he:SEx X e es:=by rfl)(hpl:PLx X pos es:=by rfl):FL X (.Call (.Name x p) (e::es) [] pos) (xc f ga):=by
 have⟨t,pa,qa⟩:=ha;refine⟨_,Wg D hr hg JD pa hk hdb he hpl,λσ H os ρ c Q R q k=>?_⟩;have⟨ds,e1,e2⟩:=bind_some q;refine qa σ H os ρ ds _ R e1 λvs H' s rv=>?_
 rw[kf];exact⟨os,ds,c,R.al.same s,rv,e2,λa xs H2 n s2=>k a xs H2 (s.free n) (s.trans s2)⟩
def U5{f:LPx}(D:yQ X.prog X.w X.K X.mg X.base k x ps f)(hr:Room k' X.A)(hg:Gl X x)(ha:FAB X (e::es) ga)(hk:k<=k':=by decide)(hdb:NDx x:=by decide)(he:SEx X e es:=by rfl)(hpl:PLx X pos es:=by rfl):FE X (.Call (.Name x p) (e::es) [] pos) (Vu f ga):=by
 have⟨t,pa,qa⟩:=ha;refine⟨_,Wg D hr hg JD pa hk hdb he hpl,λσ H os ρ c Q R q k=>?_⟩;have⟨ds,e1,q⟩:=bind_some q;have⟨r,e2,q⟩:=bind_some q;split at q
 ·rename_i hs;cases q;refine qa σ H os ρ ds _ R e1 λvs H' s rv=>?_
  rw[kf];have e0:offs H' []=H':=by funext b;exact zB (by simp)
  refine⟨[],ds,c,Al.nil _,by rw[e0];exact rv.reps,e2,λv H2 s2 rr=>k v H2 (s.trans s2) (zkp hs rr)⟩
 ·cases q
end
def Walks(K:FRx)(G G0:Hp)(J:It)(ds:LPd):Prop:=∀(H1:Hp)(os1:LAd),Al H1 os1->Same G H1->Same G0 (offs H1 os1)->
  (∀(i:Nat)(d:PdX),ds[i]?=some d->J.go i H1/\∀x H2,J.yld i H1 x H2->Same H1 H2/\Rep K (offs H2 os1) x d)/\J.stop ds.length H1
def FI(X:Cx)(tg iter:Expr)(f:RLx):Prop:=∃wi:TI,PI X tg iter wi/\∀(σ:St)(H:Hp)(os:LAd)(ρ:Ro)(ds:LPd)(R:It->Hp->Prop),xD X.K H os σ ρ->f ρ=some ds->
  (∀J H',Same H H'->Walks X.K (offs H' os) (offs H' os) J ds->R J H')->wi σ H R
def FIB(X:Cx)(tg iter:Expr)(f:RLx):Prop:=∃wi:TI,PI X tg iter wi/\∀(σ:St)(H:Hp)(os:LAd)(ρ:Ro)(ds:LPd)(R:It->Hp->Prop),xD X.K H os σ ρ->f ρ=some ds->
  (∀J H',Same H H'->Walks X.K H' (offs H' os) J ds->R J H')->wi σ H R
def Walks.mono{K:FRx}{G G' G0:Hp}{J:It}{ds:LPd}(h:Walks K G G0 J ds)(e:Same G G'):Walks K G' G0 J ds:=λH1 os1 a s s0=>h H1 os1 a (e.trans s) s0
section
variable{X:Cx}{tg iter l:Expr}{f:RLx}{g:RPx}{p pos:Pos}
def FI.fib(h:FI X tg iter f):FIB X tg iter f:=by
 have⟨wi,p,q⟩:=h;exact⟨wi,p,λσ H os ρ ds R rel e k=>q σ H os ρ ds R rel e λJ H' s w=>k J H' s (w.mono (xA H' os))⟩
def yI(g:RPx):RLx:=λρ=>match g ρ with
 |some (.list ds)=>some ds
 |some (.tuple ds)=>some ds
 |_=>none
def vk{K:FRx}{G G0:Hp}{t:Bool}{a:AdX}{xs:List V}{ds:LPd}(hS:SqB K t G a xs)(r:Reps K G0 xs ds):Walks K G G0 (ItB K t a) ds:=by
 intro H1 os1 al s s0;have h1:SqB K t H1 a xs:=s.sqB hS;refine⟨λi d hd=>?_,?_⟩
 ·have⟨v,e,rv⟩:=r.getD hd;cases t
  ·refine⟨⟨xs,v,h1,e⟩,λx H2 hy=>?_⟩;obtain⟨rfl,hy⟩:=hy
   have:=hy xs h1;rw[e] at this;cases this;exact⟨Same.refl _,rv.same s0⟩
  ·refine⟨⟨xs,v,h1,e⟩,λx H2 hy=>?_⟩;obtain⟨rfl,hy⟩:=hy
   have:=hy xs h1;rw[e] at this;cases this;exact⟨Same.refl _,rv.same s0⟩
 ·cases t
  ·exact⟨xs,h1,by rw[r.length];exact qk _⟩
  ·exact⟨xs,h1,by rw[r.length];exact qk _⟩
def uN(hl:FE X l g):FI X tg l (yI g):=by
 have⟨t,pl,ql⟩:=hl;refine⟨_,zdL pl,λσ H os ρ ds R rel e k=>?_⟩;unfold yI at e;split at e
 ·rename_i es e1;cases e;refine ql σ H os ρ _ _ rel e1 λv H' s r=>?_
  cases r with
  |lst hS r=>exact⟨_,false,rfl,⟨_,(xA H' os).seq hS⟩,k _ H' s (vk (t:=false) hS r)⟩
 ·rename_i es e1;cases e;refine ql σ H os ρ _ _ rel e1 λv H' s r=>?_
  cases r with
  |tup hS r=>exact⟨_,true,rfl,⟨_,(xA H' os).tup hS⟩,k _ H' s (vk (t:=true) hS r)⟩
 ·cases e
def y0(hl:FB X l g):FIB X tg l (yI g):=by
 have⟨t,pl,ql⟩:=hl;refine⟨_,zdL pl,λσ H os ρ ds R rel e k=>?_⟩;unfold yI at e;split at e
 ·rename_i es e1;cases e;refine ql σ H os ρ _ _ rel e1 λv H' s r=>?_
  obtain⟨a,xs,rfl,hS,r⟩:=r.lst;exact⟨_,false,rfl,⟨_,hS⟩,k _ H' s (vk (t:=false) hS r)⟩
 ·rename_i es e1;cases e;refine ql σ H os ρ _ _ rel e1 λv H' s r=>?_
  obtain⟨a,xs,rfl,hS,_,r⟩:=r.tup;exact⟨_,true,rfl,⟨_,hS⟩,k _ H' s (vk (t:=true) hS r)⟩
 ·cases e
def jP(lo:Int)(n:Nat):List PyData:=(List.range n).map λi:Nat=>PyData.int (lo+i)
def xl(g:RLx):RLx:=λρ=>match g ρ with
 |some [.int j]=>if -(2 ^ 62)<=j/\j<2 ^ 62 then some (jP 0 j.toNat) else none
 |_=>none
def ui(g:RLx):RLx:=λρ=>match g ρ with
 |some [.int i,.int j]=>if -(2 ^ 62)<=i/\i<2 ^ 62/\-(2 ^ 62)<=j/\j<2 ^ 62 then some (jP i (j - i).toNat) else none
 |_=>none
def UW{lo:Int}{n i:Nat}{d:PdX}(h:(jP lo n)[i]?=some d):i<n/\d=.int (lo+i):=by
 unfold jP at h;rw[qp] at h;by_cases hi:i<n
 ·rw[ka hi] at h;cases h;exact⟨hi,rfl⟩
 ·rw[kH (by simpa using kh hi)] at h;cases h
def zb4{lo:Int}{n:Nat}:(jP lo n).length=n:=by simp[jP]
def VY{K:FRx}{G G0:Hp}{lo:Int}{n:Nat}:Walks K G G0 (Itr lo n) (jP lo n):=by
 intro H1 os1 al s s0;refine⟨λi d hd=>?_,?_⟩
 ·have⟨h1,h2⟩:=UW hd;subst h2;refine⟨h1,λx H2 hy=>?_⟩;obtain⟨rfl,rfl⟩:=hy;exact⟨Same.refl _,.int _⟩
 ·rw[zb4];exact qk n
variable{a b:Expr}{ga:RLx}
def yO(hg:Gl X "range")(hm:X.mg "range"=none)(ha:FA X [a] ga)(hs:starEach [a] X.env=[(false,eval a X.env)]:=by rfl):FI X tg (.Call (.Name "range" p) [a] [] pos) (xl ga):=by
 have⟨t,pa,qa⟩:=ha;refine⟨_,zar hg hm pa hs,λσ H os ρ ds R rel e k=>?_⟩;unfold xl at e;split at e
 ·rename_i j e1;split at e
  ·rename_i hc;cases e;refine qa σ H os ρ _ _ rel e1 λvs H' s r=>?_
   cases r with
   |cons h r=>cases r;cases h;exact⟨j,rfl,hc.1,hc.2,k _ H' s VY⟩
  ·cases e
 ·cases e
def zaG(hg:Gl X "range")(hm:X.mg "range"=none)(ha:FA X [a,b] ga)(hs:starEach [a,b] X.env=[(false,eval a X.env),(false,eval b X.env)]:=by rfl)(hs2:starEach [b] X.env=[(false,eval b X.env)]:=by rfl):FI X tg (.Call (.Name "range" p) [a,b] [] pos) (ui ga):=by
 have⟨t,pa,qa⟩:=ha;refine⟨_,zfE hg hm pa hs hs2,λσ H os ρ ds R rel e k=>?_⟩;unfold ui at e;split at e
 ·rename_i i j e1;split at e
  ·rename_i hc;cases e;refine qa σ H os ρ _ _ rel e1 λvs H' s r=>?_
   cases r with
   |cons h r=>cases r with
    |cons h2 r=>cases r;cases h;cases h2;exact⟨i,j,rfl,hc,k _ H' s VY⟩
  ·cases e
 ·cases e
def UC(xs ys:LPd):List PyData:=(xs.zip ys).map λp=>.tuple [p.1,p.2]
def zgI{xs ys:LPd}{i:Nat}{d:PdX}(h:(UC xs ys)[i]?=some d):∃x y,xs[i]?=some x/\ys[i]?=some y/\d=.tuple [x,y]:=by
 unfold UC at h;rw[qp] at h;have⟨z,e1,e2⟩:=map_some h;obtain⟨h1,h2⟩:=List.getElem?_zip_eq_some.mp e1;exact⟨z.1,z.2,h1,h2,e2.symm⟩
def zgv{xs ys:LPd}:(UC xs ys).length=min xs.length ys.length:=by simp[UC]
def zag{K:FRx}{G G0:Hp}{t1 t2:Bool}{a b:AdX}{xs ys:List V}{ds es:LPd}(h1:SqB K t1 G a xs)(h2:SqB K t2 G b ys)(r1:Reps K G0 xs ds)(r2:Reps K G0 ys es):Walks K G G0 (Itz K t1 t2 a b) (UC ds es):=by
 intro H1 os1 al s s0;have k1:SqB K t1 H1 a xs:=s.sqB h1;have k2:SqB K t2 H1 b ys:=s.sqB h2
 refine⟨λi d hd=>?_,?_⟩
 ·obtain⟨d1,d2,g1,g2,rfl⟩:=zgI hd;have⟨v1,e1,q1⟩:=r1.getD g1;have⟨v2,e2,q2⟩:=r2.getD g2;refine⟨⟨xs,ys,v1,v2,k1,k2,e1,e2⟩,λx H2 hy=>?_⟩;obtain⟨p,rfl,hp,hy⟩:=hy;have e:=hy xs ys v1 v2 k1 k2 e1 e2;subst e;have s2:=yh hp (.tup [v1,v2])
  refine⟨s2,.tup (SqT.of ?_) (.cons ((q1.same s0).same (zr s2 os1)) (.cons ((q2.same s0).same (zr s2 os1)) .nil))⟩;rw[zB (al.new hp)];exact zL
 ·refine⟨xs,ys,k1,k2,?_⟩;rw[zgv,r1.length,r2.length];omega
def kindOf:PyData->Option (Bool×List PyData)
 | .list xs=>some (false,xs)
 | .tuple xs=>some (true,xs)
 |_=>none
def UQ(t1 t2:Bool)(g:RLx):RLx:=λρ=>match g ρ with
 |some [x,y]=>match kindOf x,kindOf y with
  |some (k1,xs),some (k2,ys)=>if k1=t1/\k2=t2 then some (UC xs ys) else none
  |_,_=>none
 |_=>none
def uh{K:FRx}{H:Hp}{os:LAd}{v:V}{d:PdX}{k:Bool}{xs:LPd}(r:jG K H os v d)(h:kindOf d=some (k,xs)):∃a us,v=.ref a/\SqB K k H a us/\Reps K (offs H os) us xs:=by
 unfold kindOf at h;split at h
 ·cases h;obtain⟨a,us,e,hS,r⟩:=r.lst;exact⟨a,us,e,hS,r⟩
 ·cases h;obtain⟨a,us,e,hS,_,r⟩:=r.tup;exact⟨a,us,e,hS,r⟩
 ·cases h
variable{tes:List Expr}{kk:Nat}{tp:Pos}
def Yc(t1 t2:Bool)(hg:Gl X "zip")(hm:X.mg "zip"=none)(ha:FAB X [a,b] ga)(hs:starEach [a,b] X.env=[(false,eval a X.env),(false,eval b X.env)]:=by rfl)(hs2:starEach [b] X.env=[(false,eval b X.env)]:=by rfl):FIB X (.Tuple tes kk tp) (.Call (.Name "zip" p) [a,b] [] pos) (UQ t1 t2 ga):=by
 have⟨t,pa,qa⟩:=ha;refine⟨_,zgL t1 t2 hg hm pa hs hs2,λσ H os ρ ds R rel e k=>?_⟩;unfold UQ at e;split at e
 ·rename_i x y e1;split at e
  ·rename_i k1 xs k2 ys e2 e3;split at e
   ·rename_i hc;cases e;obtain⟨rfl,rfl⟩:=hc;refine qa σ H os ρ _ _ rel e1 λvs H' s r=>?_
    obtain⟨v,u,rfl,r1,r2⟩:=r.two;obtain⟨a1,us,rfl,h1,q1⟩:=uh r1 e2;obtain⟨a2,ws,rfl,h2,q2⟩:=uh r2 e3;exact⟨a1,a2,rfl,⟨_,h1⟩,⟨_,h2⟩,k _ H' s (zag h1 h2 q1 q2)⟩
   ·cases e
  ·cases e
 ·cases e
end
inductive Sets(K:FRx)(G:Hp):List Nat->St->Ro->St->Ro->Prop
 |nil {σ:St} {ρ:Ro}:Sets K G [] σ ρ σ ρ
 |set {is:LNt} {σ σ':St} {ρ ρ':Ro} {i:Nat} {v:V} {d:PdX}:Rep K G v d->Sets K G is (σ.set i (some v)) (ρ.set i (.pu d)) σ' ρ'->Sets K G (i::is) σ ρ σ' ρ'
def Sets.trans{K:FRx}{G:Hp}{is js:LNt}{σ σ' σ2:St}{ρ ρ' ρ2:Ro}(h:Sets K G is σ ρ σ' ρ')(h2:Sets K G js σ' ρ' σ2 ρ2):Sets K G (is++js) σ ρ σ2 ρ2:=by
 induction h with
 |nil=>exact h2
 |set r _ ih=>exact .set r (ih h2)
def Sets.tail{K:FRx}{G:Hp}{is:LNt}{T:Nat}{σ σ':St}{ρ ρ':Ro}(h:Sets K G is σ ρ σ' ρ')(hT:∀i∈is,i<T):∀{ts c:St},ts.length=T->σ=ts++c->∃ts':St,ts'.length=T/\σ'=ts'++c:=by
 induction h with
 |nil=>exact λht e=>⟨_,ht,e⟩
 |set r _ ih=>
  intro ts c ht e;rename_i is σ σ' ρ ρ' i v d _;refine ih (λj hj=>hT j (qD _ hj)) (ts:=ts.set i (some v)) (c:=c) (by rw[kT];exact ht) ?_;have hi:i<ts.length:=by rw[ht];exact hT i ki
  rw[e,List.set_append_left _ _ hi]
def xD.set{K:FRx}{H:Hp}{os:LAd}{σ:St}{ρ:Ro}(h:xD K H os σ ρ){i:Nat}{v:V}{d:PdX}(r:Rep K (offs H os) v d):xD K H os (σ.set i (some v)) (ρ.set i (.pu d)) where
 pu:=λj e q=>by
  rw[gy] at q ⊢;by_cases hj:i=j
  ·subst hj;rw[qg rfl] at q ⊢;by_cases hl:i<ρ.length
   ·rw[qg hl] at q;cases q;rw[qg (by rw[h.len];exact hl)];exact⟨v,rfl,r⟩
   ·rw[qm hl] at q;cases q
  ·rw[qm hj] at q ⊢;exact h.pu j e q
 mu:=λj e q m=>by
  rw[gy] at q ⊢;by_cases hj:i=j
  ·subst hj;rw[qg rfl] at q;by_cases hl:i<ρ.length
   ·rw[qg hl] at q;cases q;cases m
   ·rw[qm hl] at q;cases q
  ·rw[qm hj] at q ⊢;exact h.mu j e q m
 al:=h.al
 len:=by rw[kT,kT];exact h.len
def xD.sets{K:FRx}{H:Hp}{os:LAd}{is:LNt}{σ σ':St}{ρ ρ':Ro}(s:Sets K (offs H os) is σ ρ σ' ρ')(h:xD K H os σ ρ):xD K H os σ' ρ':=by
 induction s with
 |nil=>exact h
 |set r _ ih=>exact ih (h.set r)
def gF(K:FRx)(is:LNt)(b:PyData->Ro->Option Ro):TG:=λv σ H Q=>∃os d ρ ρ',Rep K (offs H os) v d/\b d ρ=some ρ'/\∀σ',Sets K (offs H os) is σ ρ σ' ρ'->Q σ' H
def FG(X:Cx)(tg:Expr)(is:LNt)(b:PyData->Ro->Option Ro):Prop:=PG X tg (gF X.K is b)
def zeO{X:Cx}{tg:Expr}{g g':TG}(h:PG X tg g)(w:∀v σ H Q,g' v σ H Q->g v σ H Q):PG X tg g':=λpins s σ H v u Q I r q=>h pins s σ H v u Q I r (w _ _ _ _ q)
def bN(i:Nat):PyData->Ro->Option Ro:=λd ρ=>some (ρ.set i (.pu d))
def b2(b c:PyData->Ro->Option Ro):PyData->Ro->Option Ro:=λd ρ=>match d with
 | .tuple [x,y]=>(b x ρ).bind λρ'=>c y ρ'
 |_=>none
section
variable{X:Cx}{pos p1 p2:Pos}{kk:Nat}
def zQ(i:Nat){x:Str}(hN:X.N.Nodup)(hi:X.N[i]?=some x:=by rfl)(hx:Loc X.env.scope x:=by trivial)(hf:FNx X x:=by trivial):FG X (.Name x pos) [i] (bN i):=by
 refine zeO (zi3 hN hi hx hf) λv σ H Q h=>?_
 have⟨os,d,ρ,ρ',r,e,k⟩:=h;cases e;exact k _ (.set r .nil)
def uH{t1 t2:Expr}{is js:LNt}{b c:PyData->Ro->Option Ro}(hc:X.calm=true)(h1:FG X t1 is b)(h2:FG X t2 js c)(hn:(assignEach [t1,t2] X.env).length=2:=by rfl)(hst:(assignEach [t1,t2] X.env).findIdx? (·.1)=none:=by rfl)(he:(assignEach [t1,t2] X.env).map (·.2)=assign t1 X.env::(assignEach [t2] X.env).map (·.2):=by rfl)(he2:(assignEach [t2] X.env).map (·.2)=assign t2 X.env::(assignEach [] X.env).map (·.2):=by rfl):FG X (.Tuple [t1,t2] kk pos) (is++js) (b2 b c):=by
 refine zeO (zlg (n:=2) hc (zc5 h1 (zc5 h2 zim he2) he) hn hst) λv σ H Q h=>?_
 have⟨os,d,ρ,ρ',r,e,k⟩:=h;unfold b2 at e;split at e
 ·rename_i x y;have⟨ρ1,e1,e2⟩:=bind_some e;cases r with
  |tup hS r=>cases r with
   |cons r1 r=>cases r with
    |cons r2 r=>
     cases r;refine⟨_,_,rfl,(xA H os).tup hS,rfl,_,_,rfl,os,x,ρ,ρ1,r1,e1,λσ1 s1=>?_⟩;exact⟨_,_,rfl,os,y,ρ1,ρ',r2,e2,λσ2 s2=>⟨rfl,k σ2 (s1.trans s2)⟩⟩
 ·cases e
end
def compEnv(T:Nat)(F:LNt)(ρ:Ro):Ro:=List.replicate T .no++F.map λj=>(ρ[j]?).getD .no
def tF(K:FRx)(f:RPx):TE:=λσ H Q=>∃os ρ d,xD K H os σ ρ/\f ρ=some d/\∀v H',Same H H'->Rep K (offs H' os) v d->Q v H'
def FE.pe{X:Cx}{e:Expr}{f:RPx}(h:FE X e f):PE X e (tF X.K f):=by
 have⟨t,p,q⟩:=h;intro pins s σ H Q I z;have⟨os,ρ,d,R,e1,k⟩:=z;exact p pins s σ H Q I (q σ H os ρ d Q R e1 k)
def zZ(T:Nat)(F:LNt)(fi:RLx)(b:PyData->Ro->Option Ro)(fe:RPx):RLx:=λρ=>
 (fi ρ).bind λds=>if ds.length<=16777216 then wx (λd=>(b d (compEnv T F ρ)).bind fe) ds else none
theorem ZC{α β:Type}{h:α->Option β}:∀{xs:List α} {ys:List β},wx h xs=some ys->ys.length=xs.length
 |[],_,e=>by cases e;rfl
 |x::r,_,e=>by
  have⟨y,e1,e⟩:=bind_some e;have⟨ys,e2,e3⟩:=map_some e;subst e3;simp[ZC e2]
theorem Y4{α β:Type}{h:α->Option β}:∀{xs:List α} {ys:List β} {i:Nat} {x:α},wx h xs=some ys->xs[i]?=some x->∃y,ys[i]?=some y/\h x=some y
 |[],_,_,_,_,e=>by simp at e
 |x::r,_,i,_,e,g=>by
  have⟨y,e1,e⟩:=bind_some e;have⟨ys,e2,e3⟩:=map_some e;subst e3;cases i with
  |zero=>simp at g;subst g;exact⟨y,rfl,e1⟩
  |succ i=>
   obtain⟨z,h1,h2⟩:=Y4 (i:=i) e2 (by simpa using g);exact⟨z,by simpa using h1,h2⟩
def YF{K:FRx}{H H':Hp}{os:LAd}{σ ts:St}{ρ:Ro}{D:AdX}{xs:List V}(T:Nat)(F:LNt)(R:xD K H os σ ρ)(hD:H D=none)(s:Same H H')(hx:H' D=some (.lst xs))(ht:ts.length=T):xD K H' (D::os) (ts++F.map λj=>(σ[j]?).join) (compEnv T F ρ):=by
 have so:Same (offs H os) (offs H' (D::os)):=λb o z=>by
  by_cases hb:b∈os
  ·rw[xP hb] at z;cases z
  ·rw[zB hb] at z;rw[zB]
   ·exact s b o z
   ·intro w;rcases qw.mp w with w|w
    ·rw[w,hD] at z;cases z
    ·exact hb w
 refine⟨λi d q=>?_,λi c q m=>?_,λa ha=>?_,?_⟩
 ·unfold compEnv at q;by_cases hi:i<T
  ·rw[qT (by simpa using hi),kJ,qg hi] at q;cases q
  ·rw[qz (by simpa using kh hi),mB,qp] at q;rw[qz (by rw[ht];exact kh hi),ht,qp];cases ej:F[i - T]? with
   |none=>rw[ej] at q;cases q
   |some j=>
    rw[ej] at q;cases er:ρ[j]? with
    |none=>rw[gG,er] at q;cases q
    |some c=>
     rw[gG,er] at q;have ec:c=.pu d:=qZ q;subst ec;have⟨v,h1,h2⟩:=R.pu j d er
     exact⟨v,by rw[gG,h1];rfl,h2.same so⟩
 ·unfold compEnv at q;by_cases hi:i<T
  ·rw[qT (by simpa using hi),kJ,qg hi] at q;cases q;cases m
  ·rw[qz (by simpa using kh hi),mB,qp] at q;rw[qz (by rw[ht];exact kh hi),ht,qp];cases ej:F[i - T]? with
   |none=>rw[ej] at q;cases q
   |some j=>
    rw[ej] at q;cases er:ρ[j]? with
    |none=>rw[gG,er] at q;cases q;cases m
    |some c'=>
     rw[gG,er] at q;have ec:c'=c:=qZ q;subst ec;have⟨a,o,h1,h2,h3,h4⟩:=R.mu j c' er m
     exact⟨a,o,by rw[gG,h1];rfl,qD _ h2,s _ _ h3,h4.same so⟩
 ·rcases qw.mp ha with z|z
  ·subst z;exact⟨_,hx⟩
  ·have⟨o,e⟩:=R.al a z;exact⟨o,s _ _ e⟩
 ·simp[compEnv,ht]
def Ur{K:FRx}{T:Nat}{F:LNt}{b:PyData->Ro->Option Ro}{fe:RPx}{σ:St}{ρ:Ro}{H1:Hp}{os:LAd}{D:AdX}{is:LNt}{k:Addr->Hp->Prop}{J:It}{ds rs:LPd}(his:∀i∈is,i<T)(R:xD K H1 os σ ρ)(hn:ds.length<=16777216)(hD:H1 D=none)(W:Walks K H1 (offs H1 os) J ds)(hm:wx (λd=>(b d (compEnv T F ρ)).bind fe) ds=some rs)(fin:∀H' xs,Same H1 H'->H' D=some (.lst xs)->Reps K (offs H' (D::os)) xs rs->k D H'):zgX T F (gF K is b) (tF K fe) k σ H1 D J:=by
 have hlr:=ZC hm;have so:∀H',Same H1 H'->Same (offs H1 os) (offs H' (D::os)):=λH' s c o z=>by
  by_cases hb:c∈os
  ·rw[xP hb] at z;cases z
  ·rw[zB hb] at z;rw[zB]
   ·exact s c o z
   ·intro w;rcases qw.mp w with w|w
    ·rw[w,hD] at z;cases z
    ·exact hb w
 have al:∀H' xs,Same H1 H'->H' D=some (.lst xs)->Al H' (D::os):=λH' xs s hx a ha=>by
  rcases qw.mp ha with z|z
  ·subst z;exact⟨_,hx⟩
  ·have⟨o,e⟩:=R.al a z;exact⟨o,s _ _ e⟩
 refine⟨λi m σ' H'=>m=ds.length - i/\i<=ds.length/\(∃ts:St,ts.length=T/\σ'=ts++F.map λj=>(σ[j]?).join)/\Same H1 H'/\∃xs,H' D=some (.lst xs)/\Reps K (offs H' (D::os)) xs (rs.take i),
  ⟨ds.length,rfl,kK _,⟨List.replicate T none,by simp,rfl⟩,yh hD _,[],zL,.nil⟩,?_⟩
 rintro i m σ' H' ⟨rfl,hi,⟨ts,hts,rfl⟩,sm,xs,hx,rp⟩;have hl:xs.length=i:=by
  have:=rp.length;rw[kB,hlr] at this;omega
 obtain⟨w1,w2⟩:=W H' (D::os) (al H' xs sm hx) sm (so H' sm);by_cases hlt:i<ds.length
 ·obtain⟨d,hd⟩:∃d,ds[i]?=some d:=⟨_,qo hlt⟩;have⟨g1,g2⟩:=w1 i d hd;have⟨r,hr,e⟩:=Y4 hm hd;have⟨ρ',e1,e2⟩:=bind_some e;refine .inr ⟨g1,λσ2 H2=>i+1<=ds.length/\(∃ts:St,ts.length=T/\σ2=ts++F.map λj=>(σ[j]?).join)/\Same H1 H2/\∃xs,H2 D=some (.lst xs)/\Reps K (offs H2 (D::os)) xs (rs.take (i+1)),?_,?_⟩
  ·rintro σ2 H2 ⟨h1,h2,h3,h4⟩;exact⟨ds.length - (i+1),by omega,rfl,h1,h2,h3,h4⟩
  ·intro x H2 hy;have⟨s2,rx⟩:=g2 x H2 hy;refine⟨D::os,d,compEnv T F ρ,ρ',rx,e1,λσ2 st=>?_⟩;have R2:xD K H2 (D::os) (ts++F.map λj=>(σ[j]?).join) (compEnv T F ρ):=YF T F R hD (sm.trans s2) (s2 _ _ hx) hts;have hts2:∃ts':St,ts'.length=T/\σ2=ts'++F.map λj=>(σ[j]?).join:=st.tail his hts rfl
   refine⟨D::os,ρ',r,R2.sets st,e2,λv H4 s4 rv=>?_⟩;refine⟨xs,s4 _ _ (s2 _ _ hx),?_,hlt,hts2,((sm.trans s2).trans s4).V5 hD _,_,zL,?_⟩
   ·rw[hl];show i<16777216
    omega
   ·rw[jw,ml,hr];exact(rp.same (zr (s2.trans s4) _)).append (.cons rv .nil)
 ·have e:i=ds.length:=by omega
  subst e;refine .inl ⟨w2,fin H' xs sm hx ?_⟩;rw[<-hlr,gT] at rp;exact rp
section
variable{X:Cx}{elt tg iter:Expr}{scope:Scope}{pos:Pos}{Ts:LSr}{F:LNt}{is:LNt}{fi:RLx}{b:PyData->Ro->Option Ro}{fe:RPx}
def yF(hc:X.calm=true)(hi:FIB X tg iter fi)(S:yq X scope)(hF:∀j∈F,∃x,X.N[j]?=some x/\scope.names.lookup x=some .free)(hg:∀cl C ex s H,FG (yc X (Ts++F.map λj=>X.N.getD j "") scope cl C ex s H) tg is b)(he:∀cl C ex s H,FE (yc X (Ts++F.map λj=>X.N.getD j "") scope cl C ex s H) elt fe)(his:∀i∈is,i<Ts.length:=by decide)(hs:FSx X iter:=by exact λ_=>rfl):FL X (.ListComp elt [⟨tg,iter,[],0⟩] scope pos) (zZ Ts.length F fi b fe):=by
 have⟨wi,pi,qi⟩:=hi;refine⟨_,zig (Ts:=Ts) (F:=F) (g:=gF X.K is b) (te:=tF X.K fe) hc pi S hF hg (λcl C ex s H=>(he cl C ex s H).pe) hs,λσ H os ρ rs Q R q k=>?_⟩;have⟨ds,e1,q⟩:=bind_some q;split at q
 ·rename_i hl;refine qi σ H os ρ ds _ R e1 λJ H' s W D hD=>?_
  exact Ur his (R.same s) hl hD W q λH2 xs s2 hx r=>k D xs H2 (s.free hD) (s.trans s2) hx r
 ·cases q
end
structure SRo(K:FRx)(H0:Hp)(os0:LAd)(H:Hp)(os:LAd)(σ:St)(ρ:Ro):Prop where
 rel:xD K H os σ ρ
 sm:Same H0 H
 sub:∀a∈os0,a∈os
 new:∀a∈os,a∈os0\/H0 a=none
 al0:Al H0 os0
 own:∀(i:Nat)(c:Sl),ρ[i]?=some c->isM c=true->∀a,σ[i]?=some (some (.ref a))->H0 a=none
 ap:∀(i j:Nat)(c c':Sl),i≠j->ρ[i]?=some c->ρ[j]?=some c'->isM c=true->isM c'=true->∀a,σ[i]?=some (some (.ref a))->σ[j]?≠some (some (.ref a))
inductive Fl where
 |nx (ρ:Ro)|rt (d:PdX)|rl (ds:LPd)
abbrev RFx:=Ro->Option Fl
def Zd(K:FRx)(H0:Hp)(os0:LAd)(G:Hp)(D:Ends):Fl->Prop
 | .nx ρ'=>∀σ' H' os',SRo K H0 os0 H' os' σ' ρ'->Same G (offs H' os')->D.nx σ' H'
 | .rt d=>∀v H',Same H0 H'->Rep K (offs H' os0) v d->D.rt v H'
 | .rl ds=>∀a xs H',H0 a=none->Same H0 H'->H' a=some (.lst xs)->Reps K (offs H' (a::os0)) xs ds->D.rt (.ref a) H'
def Zd.mono{K:FRx}{H0:Hp}{os0:LAd}{G G':Hp}{D:Ends}{r:Fl}(k:Zd K H0 os0 G D r)(s:Same G G'):Zd K H0 os0 G' D r:=by
 cases r with
 |nx ρ=>exact λσ' H' os' R z=>k σ' H' os' R (s.trans z)
 |rt d=>exact k
 |rl d=>exact k
def FS(X:Cx)(st:Stmt)(f:RFx):Prop:=∃t:TS,PS X st t/\∀(H0:Hp)(os0:LAd)(D:Ends)(σ:St)(H:Hp)(os:LAd)(ρ:Ro)(r:Fl),SRo X.K H0 os0 H os σ ρ->f ρ=some r->Zd X.K H0 os0 (offs H os) D r->t D σ H
def FSs(X:Cx)(sts:List Stmt)(f:RFx):Prop:=∃t:TS,PSs X sts t/\∀(H0:Hp)(os0:LAd)(D:Ends)(σ:St)(H:Hp)(os:LAd)(ρ:Ro)(r:Fl),SRo X.K H0 os0 H os σ ρ->f ρ=some r->Zd X.K H0 os0 (offs H os) D r->t D σ H
section
variable{K:FRx}{H0 H H':Hp}{os0 os:LAd}{σ σ':St}{ρ ρ':Ro}
def jI{a:AdX}(n:H a=none)(s:Same H H'):Same (offs H os) (offs H' (a::os)):=λb o z=>by
 by_cases hb:b∈os
 ·rw[xP hb] at z;cases z
 ·rw[zB hb] at z;rw[zB]
  ·exact s b o z
  ·intro w;rcases qw.mp w with w|w
   ·rw[w,n] at z;cases z
   ·exact hb w
def SRo.same(h:SRo K H0 os0 H os σ ρ)(e:Same H H'):SRo K H0 os0 H' os σ ρ:=⟨h.rel.same e,h.sm.trans e,h.sub,h.new,h.al0,h.own,h.ap⟩
def vE{ρ:Ro}{i j:Nat}{d:PdX}{c:Sl}(q:(ρ.set i (.pu d))[j]?=some c)(m:isM c=true):i≠j/\ρ[j]?=some c:=by
 rw[gy] at q;by_cases hj:i=j
 ·subst hj;rw[qg rfl] at q;by_cases hl:i<ρ.length
  ·rw[qg hl] at q;cases q;cases m
  ·rw[qm hl] at q;cases q
 ·rw[qm hj] at q;exact⟨hj,q⟩
def SRo.set(h:SRo K H0 os0 H os σ ρ){i:Nat}{v:V}{d:PdX}(r:Rep K (offs H os) v d):SRo K H0 os0 H os (σ.set i (some v)) (ρ.set i (.pu d)) where
 rel:=h.rel.set r
 sm:=h.sm
 sub:=h.sub
 new:=h.new
 al0:=h.al0
 own:=λj c q m a e=>by
  have⟨hj,q⟩:=vE q m;rw[qJ hj] at e;exact h.own j c q m a e
 ap:=λj k c c' hjk q1 q2 m1 m2 a e1 e2=>by
  have⟨h1,q1⟩:=vE q1 m1;have⟨h2,q2⟩:=vE q2 m2;rw[qJ h1] at e1;rw[qJ h2] at e2;exact h.ap j k c c' hjk q1 q2 m1 m2 a e1 e2
def SRo.sets{is:LNt}(s:Sets K (offs H os) is σ ρ σ' ρ')(h:SRo K H0 os0 H os σ ρ):SRo K H0 os0 H os σ' ρ':=by
 induction s with
 |nil=>exact h
 |set r _ ih=>exact ih (h.set r)
def yw{ρ:Ro}{i j:Nat}{d c:Sl}(q:(ρ.set i d)[j]?=some c):(i=j/\i<ρ.length/\d=c)\/(i≠j/\ρ[j]?=some c):=by
 rw[gy] at q;by_cases hj:i=j
 ·subst hj;rw[qg rfl] at q;by_cases hl:i<ρ.length
  ·rw[qg hl] at q;cases q;exact .inl ⟨rfl,hl,rfl⟩
  ·rw[qm hl] at q;cases q
 ·rw[qm hj] at q;exact .inr ⟨hj,q⟩
def Y3{ρ:Ro}{i j:Nat}{d:Sl}{c:PdX}(m:isM d=true)(q:(ρ.set i d)[j]?=some (.pu c)):i≠j/\ρ[j]?=some (.pu c):=by
 rcases yw q with⟨rfl,hl,rfl⟩|⟨hj,q⟩
 ·cases m
 ·exact⟨hj,q⟩
def SRo.setM(h:SRo K H0 os0 H os σ ρ){i:Nat}{a:AdX}{o:HO}{d:Sl}(md:isM d=true)(n:H a=none)(s:Same H H')(hx:H' a=some o)(r:COk K (offs H' (a::os)) o d):SRo K H0 os0 H' (a::os) (σ.set i (some (.ref a))) (ρ.set i d):=by
 have na:a∉os:=h.rel.al.new n;have so:Same (offs H os) (offs H' (a::os)):=jI n s
 have n0:H0 a=none:=h.sm.free n;refine⟨⟨λj c q=>?_,λj c q m=>?_,λb hb=>?_,?_⟩,h.sm.trans s,λb hb=>qD _ (h.sub b hb),λb hb=>?_,h.al0,λj c q m b e=>?_,λj k c c' hjk q1 q2 m1 m2 b e1 e2=>?_⟩
 ·have⟨hj,q⟩:=Y3 md q;have⟨v,h1,h2⟩:=h.rel.pu j c q;exact⟨v,by rw[qJ hj];exact h1,h2.same so⟩
 ·rcases yw q with⟨rfl,hl,rfl⟩|⟨hj,q⟩
  ·exact⟨a,o,by rw[ku (by rw[h.rel.len];exact hl)],ki,hx,r⟩
  ·have⟨b,o',h1,h2,h3,h4⟩:=h.rel.mu j c q m;exact⟨b,o',by rw[qJ hj];exact h1,qD _ h2,s _ _ h3,h4.same so⟩
 ·rcases qw.mp hb with z|z
  ·subst z;exact⟨_,hx⟩
  ·have⟨o,e⟩:=h.rel.al b z;exact⟨o,s _ _ e⟩
 ·rw[kT,kT];exact h.rel.len
 ·rcases qw.mp hb with z|z
  ·subst z;exact .inr n0
  ·exact h.new b z
 ·rcases yw q with⟨rfl,hl,rfl⟩|⟨hj,q⟩
  ·rw[ku (by rw[h.rel.len];exact hl)] at e;cases e;exact n0
  ·rw[qJ hj] at e;exact h.own j c q m b e
 ·rcases yw q1 with⟨rfl,hl,rfl⟩|⟨hj,q1⟩
  ·rw[ku (by rw[h.rel.len];exact hl)] at e1;cases e1;rcases yw q2 with⟨z,_,_⟩|⟨hk,q2⟩
   ·exact hjk z
   ·rw[qJ hk] at e2;have⟨b,o',h1,h2,h3,h4⟩:=h.rel.mu k c' q2 m2;rw[e2] at h1;cases h1;exact na h2
  ·rw[qJ hj] at e1;rcases yw q2 with⟨z,hl,_⟩|⟨hk,q2⟩
   ·subst z;rw[ku (by rw[h.rel.len];exact hl)] at e2;cases e2;have⟨b,o',h1,h2,h3,h4⟩:=h.rel.mu j c q1 m1;rw[e1] at h1;cases h1;exact na h2
   ·rw[qJ hk] at e2;exact h.ap j k c c' hjk q1 q2 m1 m2 b e1 e2
def SRo.ZU(h:SRo K H0 os0 H os σ ρ){i:Nat}{a:AdX}{xs:List V}{ds:LPd}(n:H a=none)(s:Same H H')(hx:H' a=some (.lst xs))(r:Reps K (offs H' (a::os)) xs ds):SRo K H0 os0 H' (a::os) (σ.set i (some (.ref a))) (ρ.set i (.ow ds)):=h.setM (d:=.ow ds) rfl n s hx r
def SRo.zmo(h:SRo K H0 os0 H os σ ρ){i:Nat}{a:AdX}{o':HO}{d d':Sl}(md:isM d=true)(md':isM d'=true)(q:ρ[i]?=some d)(e:σ[i]?=some (some (.ref a)))(r:COk K (offs H os) o' d'):SRo K H0 os0 (upd H a o') os σ (ρ.set i d'):=by
 have⟨a',o,e',ha,hx,rx⟩:=h.rel.mu i d q md;rw[e] at e';cases e';have n0:=h.own i d q md a e;have hi:i<ρ.length:=(qf.mp q).1
 have eo:offs (upd H a o') os=offs H os:=xk ha;refine⟨⟨λj c q=>?_,λj c q' m=>?_,λb hb=>?_,?_⟩,λb o z=>?_,h.sub,h.new,h.al0,λj c q' m b z=>?_,λj k c c' hjk q1 q2 m1 m2 b z1 z2=>?_⟩
 ·have⟨hj,q⟩:=Y3 md' q;rw[eo];exact h.rel.pu j c q
 ·rcases yw q' with⟨rfl,hl,rfl⟩|⟨hj,q'⟩
  ·exact⟨a,o',e,ha,zL,by rw[eo];exact r⟩
  ·have⟨b,o2,h1,h2,h3,h4⟩:=h.rel.mu j c q' m;have ne:b≠a:=λz=>h.ap i j d c hj q q' md m a e (by rw[h1,z])
   exact⟨b,o2,h1,h2,by rw[zR ne];exact h3,by rw[eo];exact h4⟩
 ·by_cases hb':b=a
  ·subst hb';exact⟨_,zL⟩
  ·rw[zR hb'];exact h.rel.al b hb
 ·rw[kT];exact h.rel.len
 ·rw[zR (λw=>by rw[w,n0] at z;cases z)];exact h.sm b o z
 ·rcases yw q' with⟨rfl,hl,rfl⟩|⟨hj,q'⟩
  ·exact h.own i d q md b z
  ·exact h.own j c q' m b z
 ·rcases yw q1 with⟨rfl,hl,rfl⟩|⟨hj,q1⟩
  ·rcases yw q2 with⟨z,_,_⟩|⟨hk,q2⟩
   ·exact hjk z
   ·exact h.ap i k d c' hjk q q2 md m2 b z1 z2
  ·rcases yw q2 with⟨z,hl,_⟩|⟨hk,q2⟩
   ·subst z;exact h.ap j i c d hjk q1 q m1 md b z1 z2
   ·exact h.ap j k c c' hjk q1 q2 m1 m2 b z1 z2
def SRo.chg(h:SRo K H0 os0 H os σ ρ){i:Nat}{a:AdX}{ys:List V}{ds es:LPd}(q:ρ[i]?=some (.ow ds))(e:σ[i]?=some (some (.ref a)))(r:Reps K (offs H os) ys es):SRo K H0 os0 (upd H a (.lst ys)) os σ (ρ.set i (.ow es)):=h.zmo (d:=.ow ds) (d':=.ow es) rfl rfl q e r
def frz(i:Nat)(ρ:Ro):Ro:=match ρ[i]? with |some (.ow ds)=>ρ.set i (.pu (.list ds))|_=>ρ
def SRo.frz(h:SRo K H0 os0 H os σ ρ)(i:Nat):∃os',SRo K H0 os0 H os' σ (Fu.frz i ρ)/\Same (offs H os) (offs H os'):=by
 unfold Fu.frz;split
 ·rename_i ds q;have⟨a,xs,e,ha,hx,r⟩:=h.rel.ow i ds q;have n0:=h.own i _ q rfl a e;have sub:∀b∈os.filter (λc=>c≠a),b∈os:=λb hb=>(ke.mp hb).1
  have so:Same (offs H os) (offs H (os.filter λc=>c≠a)):=xF sub;have hi:i<ρ.length:=(qf.mp q).1
  have an:a∉os.filter (λc=>c≠a):=λz=>by simpa using (ke.mp z).2
  refine⟨os.filter λc=>c≠a,⟨⟨λj c q'=>?_,λj c q' m=>?_,λb hb=>h.rel.al b (sub b hb),?_⟩,h.sm,λb hb=>?_,λb hb=>h.new b (sub b hb),h.al0,λj c q' m b z=>?_,λj k c c' hjk q1 q2 m1 m2 b z1 z2=>?_⟩,so⟩
  ·rw[gy] at q';by_cases hj:i=j
   ·subst hj;rw[qg rfl,qg hi] at q';cases q';exact⟨.ref a,e,.lst (SqL.of (by rw[zB an];exact hx)) (r.same so)⟩
   ·rw[qm hj] at q';have⟨v,h1,h2⟩:=h.rel.pu j c q';exact⟨v,h1,h2.same so⟩
  ·have⟨hj,q'⟩:=vE q' m;have⟨b,o2,h1,h2,h3,h4⟩:=h.rel.mu j c q' m;have ne:b≠a:=λz=>h.ap i j _ c hj q q' rfl m a e (by rw[h1,z])
   exact⟨b,o2,h1,ke.mpr ⟨h2,by simpa using ne⟩,h3,h4.same so⟩
  ·rw[kT];exact h.rel.len
  ·refine ke.mpr ⟨h.sub b hb,?_⟩
   have:b≠a:=λz=>by
    have⟨o,w⟩:=h.al0 b hb;rw[z,n0] at w;cases w
   simpa using this
  ·have⟨hj,q'⟩:=vE q' m;exact h.own j c q' m b z
  ·have⟨h1,q1⟩:=vE q1 m1;have⟨h2,q2⟩:=vE q2 m2;exact h.ap j k c c' hjk q1 q2 m1 m2 b z1 z2
 ·exact⟨os,h,Same.refl _⟩
end
section
variable{X:Cx}{st:Stmt}{rest:List Stmt}{f g:RFx}{e:Expr}{pos:Pos}
def sq(f g:RFx):RFx:=λρ=>match f ρ with |some (.nx ρ')=>g ρ'|r=>r
def s0:RFx:=λρ=>some (.nx ρ)
def ye:FSs X [] s0:=⟨_,zes,λ_ _ _ _ _ _ _ _ R q k=>by cases q;exact k _ _ _ R (Same.refl _)⟩
def zl(h:FS X st f):FSs X [st] f:=by
 have⟨t,p,q⟩:=h;exact⟨t,zex p,q⟩
def zf(h:FS X st f)(h2:FSs X rest g):FSs X (st::rest) (sq f g):=by
 have⟨t,p,q⟩:=h;have⟨t2,p2,q2⟩:=h2;refine⟨_,Y1 p p2,λH0 os0 D σ H os ρ r R e k=>?_⟩;unfold sq at e;split at e
 ·rename_i ρ' e1;exact q H0 os0 { D with nx:=t2 D } σ H os ρ _ R e1 λσ' H' os' R' z=>q2 H0 os0 D σ' H' os' ρ' r R' e (k.mono z)
 ·cases r with
  |nx ρ'=>rename_i hn;exact absurd e (hn ρ')
  |rt d=>exact q H0 os0 { D with nx:=t2 D } σ H os ρ _ R e k
  |rl d=>exact q H0 os0 { D with nx:=t2 D } σ H os ρ _ R e k
def FS.frz(i:Nat)(h:FS X st f):FS X st (λρ=>f (frz i ρ)):=by
 have⟨t,p,q⟩:=h;refine⟨t,p,λH0 os0 D σ H os ρ r R e k=>?_⟩;have⟨os',R',z⟩:=R.frz i;exact q H0 os0 D σ H os' _ r R' e (k.mono z)
def zgb:FS X st (λ_=>none):=⟨_,zgj,λ_ _ _ _ _ _ _ _ _ q _=>by cases q⟩
def exS(f:RPx):RFx:=λρ=>(f ρ).bind λ_=>some (.nx ρ)
def zjl{f:RPx}(h:FE X e f)(hs:swapsWith e none pos.line X.env=pure false:=by rfl):FS X (.Expr e pos) (exS f):=by
 have⟨t,p,q⟩:=h;refine⟨_,uM p hs,λH0 os0 D σ H os ρ r R e k=>?_⟩;have⟨d,e1,e2⟩:=bind_some e;cases e2;exact q σ H os ρ d _ R.rel e1 λv H' s _=>k _ _ _ (R.same s) (zr s os)
def retS(f:RPx):RFx:=λρ=>(f ρ).bind λd=>some (.rt d)
def zJ{f:RPx}(h:FE X e f):FS X (.Return (some e) pos) (retS f):=by
 have⟨t,p,q⟩:=h;refine⟨_,Yt p,λH0 os0 D σ H os ρ r R e k=>?_⟩;have⟨d,e1,e2⟩:=bind_some e;cases e2;exact q σ H os ρ d _ R.rel e1 λv H' s rv=>k v H' (R.sm.trans s) (rv.same (xF R.sub))
def UJ(f:RLx):RFx:=λρ=>(f ρ).bind λd=>some (.rl d)
def uY{f:RLx}(h:FL X e f):FS X (.Return (some e) pos) (UJ f):=by
 have⟨t,p,q⟩:=h;refine⟨_,Yt p,λH0 os0 D σ H os ρ r R e k=>?_⟩;have⟨d,e1,e2⟩:=bind_some e;cases e2;refine q σ H os ρ d _ R.rel e1 λa xs H' n s hx rv=>k a xs H' (R.sm.free n) (R.sm.trans s) hx (rv.same (xF λb hb=>?_))
 rcases qw.mp hb with z|z
 ·exact z▸ki
 ·exact qD _ (R.sub b z)
def W3(i:Nat){x:Str}{p:Pos}(hN:X.N[i]?=some x:=by rfl)(hv:Vis X.env.scope x:=by trivial)(hd:NDx x:=by decide)(hcd:NCx x:=by decide):FS X (.Return (some (.Name x p)) pos) (UJ (gk i)):=by
 refine⟨_,Yt (yU hN hv hd hcd),λH0 os0 D σ H os ρ r R e k=>?_⟩;have⟨ds,e1,e2⟩:=bind_some e;cases e2;have q:=JQ e1;have⟨a,xs,e,ha,hx,r⟩:=R.rel.ow i ds q
 refine⟨_,e,k a xs H (R.own i _ q rfl a e) R.sm hx (r.same (xF λb hb=>?_))⟩;rcases qw.mp hb with z|z
 ·exact z▸ha
 ·exact R.sub b z
def zO(i:Nat)(f:RPx):RFx:=λρ=>(f ρ).bind λd=>some (.nx (ρ.set i (.pu d)))
def zK(i:Nat){x:Str}{pos':Pos}{f:RPx}(hN:X.N.Nodup)(he:FE X e f)(hi:X.N[i]?=some x:=by rfl)(hx:Loc X.env.scope x:=by trivial)(hs:swapsWith e (some (.Name x pos')) pos.line X.env=pure false:=by rfl)(hf:FNx X x:=by trivial):FS X (.Assign [.Name x pos'] e pos) (zO i f):=by
 have⟨t,p,q⟩:=he;refine⟨_,uW hN hi hx p hs hf,λH0 os0 D σ H os ρ r R e k=>?_⟩;have⟨d,e1,e2⟩:=bind_some e;cases e2;exact q σ H os ρ d _ R.rel e1 λv H' s rv=>k _ _ _ ((R.same s).set rv) (zr s os)
def x8(i:Nat)(f:RLx):RFx:=λρ=>(f ρ).bind λd=>some (.nx (ρ.set i (.ow d)))
def xm(i:Nat){x:Str}{pos':Pos}{f:RLx}(hN:X.N.Nodup)(he:FL X e f)(hi:X.N[i]?=some x:=by rfl)(hx:Loc X.env.scope x:=by trivial)(hs:swapsWith e (some (.Name x pos')) pos.line X.env=pure false:=by rfl)(hf:FNx X x:=by trivial):FS X (.Assign [.Name x pos'] e pos) (x8 i f):=by
 have⟨t,p,q⟩:=he;refine⟨_,uW hN hi hx p hs hf,λH0 os0 D σ H os ρ r R e k=>?_⟩;have⟨d,e1,e2⟩:=bind_some e;cases e2;exact q σ H os ρ d _ R.rel e1 λa xs H' n s hx rv=>k _ _ _ (R.ZU n s hx rv) (jI n s)
def zh3(b:PyData->Ro->Option Ro)(f:RPx):RFx:=λρ=>(f ρ).bind λd=>(b d ρ).map .nx
def zlm{tg:Expr}{is:LNt}{b:PyData->Ro->Option Ro}{f:RPx}(he:FE X e f)(hg:FG X tg is b)(hs:swapsWithSole [tg] e pos.line X.env=pure false:=by rfl)(hw:swappedStores [tg] e X.env=pure none:=by rfl)(h1:(assignEach [tg] X.env).map (·.2)=[assign tg X.env]:=by rfl):FS X (.Assign [tg] e pos) (zh3 b f):=by
 have⟨t,p,q⟩:=he;refine⟨_,zgT p hg hs hw h1,λH0 os0 D σ H os ρ r R e k=>?_⟩;have⟨d,e1,e2⟩:=bind_some e;have⟨ρ',e3,e4⟩:=map_some e2;subst e4;exact q σ H os ρ d _ R.rel e1 λv H' s rv=>⟨os,d,ρ,ρ',rv,e3,λσ' st=>k _ _ _ ((R.same s).sets st) (zr s os)⟩
def ifS(c:Ro->Option Bool)(f g:RFx):RFx:=λρ=>(c ρ).bind λb=>if b then f ρ else g ρ
def xx{c:Expr}{a b:List Stmt}{fc:Ro->Option Bool}(hc:FT X c fc)(ha:FSs X a f)(hb:FSs X b g):FS X (.If c a b pos) (ifS fc f g):=by
 have⟨tc,pc,qc⟩:=hc;have⟨ta,pa,qa⟩:=ha;have⟨tb,pb,qb⟩:=hb;refine⟨_,zgH pc pa pb,λH0 os0 D σ H os ρ r R e k=>?_⟩;have⟨b,e1,e2⟩:=bind_some e;refine qc σ H os ρ b _ R.rel e1 λH' s=>?_
 cases b with
 |true=>rw[qg rfl] at e2 ⊢;exact qa H0 os0 D σ H' os ρ r (R.same s) e2 (k.mono (zr s os))
 |false=>rw[qm qE] at e2 ⊢;exact qb H0 os0 D σ H' os ρ r (R.same s) e2 (k.mono (zr s os))
def wo(c:Ro->Option Bool)(b:RFx):Nat->Ro->Option Fl
 |0,_=>none
 |n+1,ρ=>(c ρ).bind λt=>if t then (match b ρ with |some (.nx ρ')=>wo c b n ρ'|r=>r) else some (.nx ρ)
def whS(m:Ro->Nat)(c:Ro->Option Bool)(b:RFx):RFx:=λρ=>wo c b (m ρ) ρ
def zcc(m:Ro->Nat){c:Expr}{body:List Stmt}{fc:Ro->Option Bool}{fb:RFx}(hp:PassesOwn (model X.prog X.w) X.A X.env X.xe)(hc:FT X c fc)(hb:FSs X body fb):FS X (.While c body [] pos) (whS m fc fb):=by
 have⟨tc,pc,qc⟩:=hc;have⟨tb,pb,qb⟩:=hb;refine⟨_,zcE hp pc pb,λH0 os0 D σ H os ρ r R e k=>?_⟩;refine⟨λn σ' H'=>∃os' ρ',SRo X.K H0 os0 H' os' σ' ρ'/\Same (offs H os) (offs H' os')/\wo fc fb n ρ'=some r,⟨m ρ,os,ρ,R,Same.refl _,e⟩,?_⟩;rintro n σ' H' ⟨os',ρ',R',z',e'⟩;cases n with
 |zero=>cases e'
 |succ n=>
  have⟨b,e1,e2⟩:=bind_some e';refine qc σ' H' os' ρ' b _ R'.rel e1 λH2 s=>?_
  cases b with
  |false=>rw[qm qE] at e2 ⊢;cases e2;exact k _ _ _ (R'.same s) (z'.trans (zr s os'))
  |true=>
   rw[qg rfl] at e2 ⊢;refine⟨λσ2 H2=>∃os' ρ',SRo X.K H0 os0 H2 os' σ2 ρ'/\Same (offs H os) (offs H2 os')/\wo fc fb n ρ'=some r,λσ2 H2 h=>⟨n,kA n,h⟩,?_⟩;split at e2
   ·rename_i ρ2 e3;exact qb H0 os0 _ σ' H2 os' ρ' _ (R'.same s) e3 λσ3 H3 os3 R3 z3=>⟨os3,ρ2,R3,(z'.trans (zr s os')).trans z3,e2⟩
   ·cases r with
    |nx ρ2=>rename_i hn;exact absurd e2 (hn ρ2)
    |rt d=>exact qb H0 os0 _ σ' H2 os' ρ' _ (R'.same s) e2 k
    |rl d=>exact qb H0 os0 _ σ' H2 os' ρ' _ (R'.same s) e2 k
def Ym(bd:PyData->Ro->Option Ro)(b:RFx):List PyData->Ro->Option Fl
 |[],ρ=>some (.nx ρ)
 |d::ds,ρ=>(bd d ρ).bind λρ1=>match b ρ1 with |some (.nx ρ')=>Ym bd b ds ρ'|r=>r
def jv(it:RLx)(bd:PyData->Ro->Option Ro)(b:RFx):RFx:=λρ=>(it ρ).bind λds=>Ym bd b ds ρ
def xE{tg iter:Expr}{body:List Stmt}{fi:RLx}{is:LNt}{bd:PyData->Ro->Option Ro}{fb:RFx}(hp:PassesOwn (model X.prog X.w) X.A X.env X.xe)(hc:X.calm=true)(hi:FI X tg iter fi)(hg:FG X tg is bd)(hb:FSs X body fb)(hs:FSx X iter:=by exact λ_=>rfl):FS X (.For tg iter body [] pos) (jv fi bd fb):=by
 have⟨wi,pi,qi⟩:=hi;have⟨tb,pb,qb⟩:=hb;refine⟨_,zhj hp hc pi hg pb hs,λH0 os0 D σ H os ρ r R e k=>?_⟩;have⟨ds,e1,e2⟩:=bind_some e;refine qi σ H os ρ ds _ R.rel e1 λJ H1 s1 W=>?_
 refine⟨λi m σ' H'=>m=ds.length - i/\i<=ds.length/\∃os' ρ',SRo X.K H0 os0 H' os' σ' ρ'/\Same (offs H1 os) (offs H' os')/\Ym bd fb (ds.drop i) ρ'=some r,
  ⟨ds.length,rfl,kK _,os,ρ,R.same s1,Same.refl _,e2⟩,?_⟩
 rintro i m σ' H' ⟨rfl,hi,os',ρ',R',so,e'⟩;obtain⟨w1,w2⟩:=W H' os' R'.rel.al (so.trans (xA H' os')) so;by_cases hlt:i<ds.length
 ·obtain⟨d,hd⟩:∃d,ds[i]?=some d:=⟨_,qo hlt⟩;have⟨g1,g2⟩:=w1 i d hd;have ed:ds.drop i=d::ds.drop (i+1):=by
   rw[kQ hlt];rw[qo hlt] at hd;cases hd;rfl
  rw[ed] at e';have⟨ρ1,e3,e4⟩:=bind_some e';refine .inr ⟨g1,λσ2 H2=>i+1<=ds.length/\∃os' ρ',SRo X.K H0 os0 H2 os' σ2 ρ'/\Same (offs H1 os) (offs H2 os')/\Ym bd fb (ds.drop (i+1)) ρ'=some r,?_,?_⟩
  ·rintro σ2 H2 ⟨h1,h2⟩;exact⟨ds.length - (i+1),by omega,rfl,h1,h2⟩
  ·intro x H2 hy;have⟨s2,rx⟩:=g2 x H2 hy;refine⟨os',d,ρ',ρ1,rx,e3,λσ2 st=>?_⟩;have R2:SRo X.K H0 os0 H2 os' σ2 ρ1:=(R'.same s2).sets st;split at e4
   ·rename_i ρ2 e5;exact qb H0 os0 _ σ2 H2 os' ρ1 _ R2 e5 λσ3 H3 os3 R3 z3=>⟨hlt,os3,ρ2,R3,(so.trans (zr s2 os')).trans z3,e4⟩
   ·cases r with
    |nx ρ2=>rename_i hn;exact absurd e4 (hn ρ2)
    |rt d=>exact qb H0 os0 _ σ2 H2 os' ρ1 _ R2 e4 k
    |rl d=>exact qb H0 os0 _ σ2 H2 os' ρ1 _ R2 e4 k
 ·have e:i=ds.length:=by omega
  subst e;rw[nk] at e';cases e';exact .inl ⟨w2,k _ _ _ R' ((zr s1 os).trans so)⟩
end
section
variable{X:Cx}{e:Expr}{pos apos cpos p1:Pos}
def apS(i:Nat)(f:RPx):RFx:=λρ=>(gk i ρ).bind λds=>(f ρ).bind λd=>if ds.length<16777216 then some (.nx (ρ.set i (.ow (ds++[d])))) else none
def jJ(i:Nat){x:Str}{f:RPx}(he:FE X e f)(hN:X.N[i]?=some x:=by rfl)(hv:Vis X.env.scope x:=by trivial)(hd:NDx x:=by decide)(hcd:NCx x:=by decide)(hbase:ABx X (.Name x p1) "append":=by rfl)(hfew:FWx X cpos [e]:=by rfl)(hline:(apos.endLine==cpos.line)=true:=by rfl)(hs:SEx X e []:=by rfl)(hsw:swapsWith (.Call (.Attribute (.Name x p1) "append" apos) [e] [] cpos) none pos.line X.env=pure false:=by rfl):FS X (.Expr (.Call (.Attribute (.Name x p1) "append" apos) [e] [] cpos) pos) (apS i f):=by
 have⟨t,p,q⟩:=he;refine⟨_,uM (VG kz mZ mY ux (yU hN hv hd hcd) (xn p jf hs) hbase hfew hline hs) hsw,λH0 os0 D σ H os ρ r R e k=>?_⟩;have⟨ds,e1,e⟩:=bind_some e;have⟨d,e2,e⟩:=bind_some e;split at e
 ·rename_i hl;cases e;have g:=JQ e1;have⟨a,xs,h1,h2,h3,h4⟩:=R.rel.ow i ds g
  refine⟨_,h1,.inl ⟨rfl,_,SqL.of h3⟩,q σ H os ρ d _ R.rel e2 λv H' s rv=>?_⟩;refine⟨a,xs,v,rfl,rfl,s _ _ h3,by rw[h4.length];exact hl,?_⟩;refine k _ _ os ((R.same s).chg g h1 ((h4.same (zr s os)).append (.cons rv .nil))) ?_;rw[xk h2];exact zr s os
 ·cases e
def exT(i:Nat)(f:RPx):RFx:=λρ=>(gk i ρ).bind λds=>match f ρ with
 |some (.tuple es)=>if ds.length+es.length<=16777216 then some (.nx (ρ.set i (.ow (ds++es)))) else none
 |_=>none
def zd7(i:Nat){x:Str}{f:RPx}(he:FB X e f)(hN:X.N[i]?=some x:=by rfl)(hv:Vis X.env.scope x:=by trivial)(hd:NDx x:=by decide)(hcd:NCx x:=by decide)(hbase:ABx X (.Name x p1) "extend":=by rfl)(hfew:FWx X cpos [e]:=by rfl)(hline:(apos.endLine==cpos.line)=true:=by rfl)(hs:SEx X e []:=by rfl)(hsw:swapsWith (.Call (.Attribute (.Name x p1) "extend" apos) [e] [] cpos) none pos.line X.env=pure false:=by rfl):FS X (.Expr (.Call (.Attribute (.Name x p1) "extend" apos) [e] [] cpos) pos) (exT i f):=by
 have⟨t,p,q⟩:=he;refine⟨_,uM (VG kz PySem.F.slot_list_extend PySem.F.type_list_extend zd4 (yU hN hv hd hcd) (xn p jf hs) hbase hfew hline hs) hsw,λH0 os0 D σ H os ρ r R e k=>?_⟩;have⟨ds,e1,e⟩:=bind_some e;split at e
 ·rename_i es e2;split at e
  ·rename_i hl;cases e;have g:=JQ e1;have⟨a,xs,h1,h2,h3,h4⟩:=R.rel.ow i ds g
   refine⟨_,h1,.inl ⟨rfl,_,SqL.of h3⟩,q σ H os ρ _ _ R.rel e2 λv H' s rv=>?_⟩;obtain⟨b,ys,rfl,hS,_,ry⟩:=rv.tup;refine⟨a,b,xs,ys,rfl,rfl,s _ _ h3,hS,by rw[h4.length,ry.length];exact hl,?_⟩;refine k _ _ os ((R.same s).chg g h1 ((h4.same (zr s os)).append ry)) ?_;rw[xk h2];exact zr s os
  ·cases e
 ·cases e
def siS(i:Nat)(fi f:RPx):RFx:=λρ=>(gk i ρ).bind λds=>(f ρ).bind λd=>match fi ρ with
 |some (.int k)=>(ixN ds.length k).bind λj=>some (.nx (ρ.set i (.ow (ds.set j d))))
 |_=>none
theorem zbX{K:FRx}{H:Hp}{v:V}{d:PdX}(r:Rep K H v d):∀{xs:List V} {ds:LPd} (j:Nat),Reps K H xs ds->Reps K H (xs.set j v) (ds.set j d)
 |_,_,_,.nil=>.nil
 |_,_,0,.cons _ q=>.cons r q
 |_,_,j+1,.cons h q=>.cons h (zbX r j q)
def JW(i:Nat){x:Str}{ie:Expr}{fi f:RPx}{tpos:Pos}(hi:FE X ie fi)(he:FE X e f)(hN:X.N[i]?=some x:=by rfl)(hv:Vis X.env.scope x:=by trivial)(hd:NDx x:=by decide)(hcd:NCx x:=by decide)(ha:∀v,assign (.Subscript (.Name x p1) ie tpos) X.env v=(do
   let ov <-holding [v] (eval (.Name x p1) X.env)
   let iv <-holding [v,ov] (eval ie X.env)
   standAt tpos
   holding [v,ov,iv] (setItem ov iv v)
   release [v,ov,iv] []):=by intro _;rfl)(hs:swapsWithSole [.Subscript (.Name x p1) ie tpos] e pos.line X.env=pure false:=by rfl)(hw:swappedStores [.Subscript (.Name x p1) ie tpos] e X.env=pure none:=by rfl)(h1:(assignEach [.Subscript (.Name x p1) ie tpos] X.env).map (·.2)=[assign (.Subscript (.Name x p1) ie tpos) X.env]:=by rfl):FS X (.Assign [.Subscript (.Name x p1) ie tpos] e pos) (siS i fi f):=by
 have⟨t,p,q⟩:=he;have⟨ti,pi,qi⟩:=hi;refine⟨_,zgT p (zj0 (yU hN hv hd hcd) pi set_list ha) hs hw h1,λH0 os0 D σ H os ρ r R e k=>?_⟩;have⟨ds,e1,e⟩:=bind_some e;have⟨d,e2,e⟩:=bind_some e;split at e
 ·rename_i n e3;have⟨j,e4,e⟩:=bind_some e;cases e;have g:=JQ e1;have⟨a,xs,h1,h2,h3,h4⟩:=R.rel.ow i ds g
  refine q σ H os ρ d _ R.rel e2 λv H' s rv=>⟨_,h1,qi σ H' os ρ _ _ (R.rel.same s) e3 λu H2 s2 ru=>?_⟩
  cases ru;have s3:=s.trans s2;refine⟨a,xs,n,j,rfl,rfl,s3 _ _ h3,by rw[h4.length];exact e4,?_⟩;refine k _ _ os ((R.same s3).chg g h1 (zbX (rv.same (zr s2 os)) j (h4.same (zr s3 os)))) ?_;rw[xk h2];exact zr s3 os
 ·cases e
def JX(i:Nat){elt tg iter:Expr}{scope:Scope}{Ts:LSr}{F:LNt}{is:LNt}{fi:RLx}{b:PyData->Ro->Option Ro}{fe:RPx}{x:Str}{pos' spos:Pos}(hN:X.N.Nodup)(hc:X.calm=true)(hi:FIB X tg iter fi)(S:yq X scope)(hF:∀j∈F,∃x,X.N[j]?=some x/\scope.names.lookup x=some .free)(hg:∀cl C ex s H,FG (yc X (Ts++F.map λj=>X.N.getD j "") scope cl C ex s H) tg is b)(he:∀cl C ex s H,FE (yc X (Ts++F.map λj=>X.N.getD j "") scope cl C ex s H) elt fe)(his:∀i∈is,i<Ts.length:=by decide)(hi':X.N[i]?=some x:=by rfl)(hx:X.env.scope.names.lookup x=some .local:=by rfl)(hsw:swapsWith (.ListComp elt [⟨tg,iter,[],0⟩] scope pos) (some (.Name x pos')) spos.line X.env=pure true:=by rfl)(hs:FSx X iter:=by exact λ_=>rfl):FS X (.Assign [.Name x pos'] (.ListComp elt [⟨tg,iter,[],0⟩] scope pos) spos) (x8 i (zZ Ts.length F fi b fe)):=by
 have⟨wi,pi,qi⟩:=hi;refine⟨_,UG (Ts:=Ts) (F:=F) (g:=gF X.K is b) (te:=tF X.K fe) hN hi' hx hc pi S hF hg (λcl C ex s H=>(he cl C ex s H).pe) hsw hs,λH0 os0 D σ H os ρ r R q k=>?_⟩;have⟨ds,e1,q⟩:=bind_some q;cases q;have⟨es,e1,q⟩:=bind_some e1;split at q
 ·rename_i hl;refine qi σ H os ρ es _ R.rel e1 λJ H' s W D hD=>?_
  exact Ur his (R.rel.same s) hl hD W q λH2 xs s2 hx r=>k _ _ _ (R.ZU (s.free hD) (s.trans s2) hx r) (jI (s.free hD) (s.trans s2))
 ·cases q
end
def fnF(n m:Nat)(b:RFx)(ds:LPd):Option PyData:=if ds.length=m then (match b (ds.map Sl.pu++List.replicate (n - m) .no) with
  |some (.rt d)=>some d
  |some (.rl es)=>some (.list es)
  |some (.nx _)=>some .none
  |none=>none) else none
def fnL(n m:Nat)(b:RFx)(ds:LPd):Option (List PyData):=if ds.length=m then (match b (ds.map Sl.pu++List.replicate (n - m) .no) with
  |some (.rl es)=>some es
  |_=>none) else none
section
variable{P:Program}{w:World}{K:FRx}{mg:Str->Option Value}{base:Heap}
def JS{N:LSr}{H:Hp}{os:LAd}{vs:List V}{ds:LPd}(al:Al H os)(r:Reps K (offs H os) vs ds)(m:Nat)(hm:ds.length=m):SRo K H os H os (start N vs) (ds.map Sl.pu++List.replicate (N.length - m) .no):=by
 have hl:=r.length;have no:∀(i:Nat)(c:Sl),(ds.map Sl.pu++List.replicate (N.length - m) .no)[i]?=some c->isM c=true->False:=λi c q m=>by
  by_cases hi:i<ds.length
  ·rw[qT (by simpa using hi),qp] at q;have⟨d,_,e2⟩:=map_some q;subst e2;cases m
  ·rw[qz (by simpa using kh hi),kJ] at q;split at q
   ·cases q;cases m
   ·cases q
 refine⟨⟨λi d q=>?_,λi c q m=>(no i c q m).elim,al,?_⟩,Same.refl _,λa h=>h,λa h=>.inl h,al,λi c q m=>(no i c q m).elim,λi j c c' _ q _ m=>(no i c q m).elim⟩
 ·unfold start;by_cases hi:i<ds.length
  ·rw[qT (by simpa using hi),qp] at q;have⟨c,e1,e2⟩:=map_some q;cases e2;have⟨v,e3,e4⟩:=r.getD e1;refine⟨v,?_,e4⟩;rw[qT (by rw[qe,hl];exact hi),qp,e3];rfl
  ·rw[qz (by simpa using kh hi),kJ] at q;split at q<;>cases q
 ·unfold start;simp[hl,hm]
def yQ.mk{x:Str}{st:Stmt}{N ps:LSr}{k m:Nat}{b:RFx}(h:HasDef K mg x st)(S:zx N ps (ze st))(hb:∀(kV doc pm:Value)(an:Option Addr)(cdv ct:Value)(us:LVl),us.length=ps.length->bindArgs (W.fnOf x x (jB st) (xg st) (ze st) .none kV doc pm an cdv ct) ⟨us,[]⟩=pure (ps.zip us))(hm:ps.length=m)(hbody:∀(f:AdX)(cdv:Value)(A:Around)(outer:List Env)(s:ShX)(H:Hp)(E:XK),Room k (A.deeper (envOfC x (ze st) s.heap.objs.size f cdv))->
   FSs (Wj CX0 P w K mg base N x (ze st) f cdv A outer s H E).nox (xg st) b):yQ P w K mg base (k+1) x ps (fnF N.length m b):=by
 refine Def.mk h S hb (λvs H Q E q=>?_) (λf cdv A outer s H vs Q E hr q=>?_)
 ·have⟨os,ds,r,_,hr,e,_⟩:=q;unfold fnF at e;split at e
  ·rename_i hl;rw[hr.length,hl,hm]
  ·cases e
 ·have⟨t,p,q'⟩:=hbody f cdv A outer s H E hr;have⟨os,ds,r,al,hr,e,kk⟩:=q;unfold fnF at e;split at e
  ·rename_i hl;refine⟨t,p,?_⟩;have R:=JS (N:=N) al hr m hl;split at e
   ·rename_i d e1;cases e;exact q' H os _ _ H os _ _ R e1 λv H' s r=>kk v H' s r
   ·rename_i es e1;cases e;refine q' H os _ _ H os _ _ R e1 λa xs H' n s hx r=>kk _ H' s (.lst (SqL.of ?_) (r.same (xF λb hb=>qD _ hb)))
    rw[zB (al.new n)];exact hx
   ·rename_i ρ' e1;cases e;exact q' H os _ _ H os _ _ R e1 λσ' H' os' R' z=>kk _ H' R'.sm .non
   ·cases e
  ·cases e
def x6.mk{x:Str}{st:Stmt}{N ps:LSr}{k m:Nat}{b:RFx}(h:HasDef K mg x st)(S:zx N ps (ze st))(hb:∀(kV doc pm:Value)(an:Option Addr)(cdv ct:Value)(us:LVl),us.length=ps.length->bindArgs (W.fnOf x x (jB st) (xg st) (ze st) .none kV doc pm an cdv ct) ⟨us,[]⟩=pure (ps.zip us))(hm:ps.length=m)(hbody:∀(f:AdX)(cdv:Value)(A:Around)(outer:List Env)(s:ShX)(H:Hp)(E:XK),Room k (A.deeper (envOfC x (ze st) s.heap.objs.size f cdv))->
   FSs (Wj CX0 P w K mg base N x (ze st) f cdv A outer s H E).nox (xg st) b):x6 P w K mg base (k+1) x ps (fnL N.length m b):=by
 refine Def.mk h S hb (λvs H Q E q=>?_) (λf cdv A outer s H vs Q E hr q=>?_)
 ·have⟨os,ds,r,_,hr,e,_⟩:=q;unfold fnL at e;split at e
  ·rename_i hl;rw[hr.length,hl,hm]
  ·cases e
 ·have⟨t,p,q'⟩:=hbody f cdv A outer s H E hr;have⟨os,ds,r,al,hr,e,kk⟩:=q;unfold fnL at e;split at e
  ·rename_i hl;refine⟨t,p,?_⟩;have R:=JS (N:=N) al hr m hl;split at e
   ·rename_i es e1;cases e;exact q' H os _ _ H os _ _ R e1 λa xs H' n s hx r=>kk a xs H' n s hx r
   ·cases e
  ·cases e
end
end L2.Fu
namespace L2.Fu
open PySem PySem.Spec PyProof.Rows
abbrev ltI:PyData->PyData->Option PyData:=zd5 λi j=>decide (i<j)
abbrev gtI:PyData->PyData->Option PyData:=zd5 λi j=>decide (j<i)
abbrev frS(i:Nat)(f:RFx):RFx:=λρ=>f (frz i ρ)
section
variable{X:Cx}{a b e:Expr}{f g:RPx}{pos p1 apos cpos:Pos}
def zu(ha:FB X a f)(hb:FB X b g)(hs:zbL b:=by exact λ_ _=>rfl):FE X (.Subscript a b pos) (op2 ixD f g):=by
 have⟨ta,pa,qa⟩:=ha;have⟨tb,pb,qb⟩:=hb;refine⟨_,zjD zej pa pb hs,λσ H os ρ c Q R q k=>?_⟩;have⟨d,e,e1,e2,e3⟩:=Vo q;refine two qa qb R e1 e2 λx y H' s r1 r2=>zjy x y H' os d e c Q (R.al.same s) r1 r2 e3 λv H2 s2=>k v H2 (s.trans s2)
end
section
variable{P:Program}{w:World}{K:FRx}{mg:Str->Option Value}{base:Heap}
def FnF.mk{x:Str}{st:Stmt}{f:AdX}{fd:FuncData}{N ps:LSr}{k m:Nat}{b:RFx}(F:Fun K x x st f fd)(S:zx N ps (ze st))(hm:ps.length=m)(hbody:∀(cdv:Value)(A:Around)(outer:List Env)(s:ShX)(H:Hp)(E:XK),Room k (A.deeper (envOfC x (ze st) s.heap.objs.size f cdv))->
   FSs (Wj CX0 P w K mg base N x (ze st) f cdv A outer s H E).nox (xg st) b):wy P w K mg base CX0 (k+1) f fd ps (spF K (fnF N.length m b)):=by
 refine F.ok S (λvs H Q E q=>?_) (λcdv A outer s H vs Q E hr q=>?_)
 ·have⟨os,ds,r,_,hr,e,_⟩:=q;unfold fnF at e;split at e
  ·rename_i hl;rw[hr.length,hl,hm]
  ·cases e
 ·have⟨t,p,q'⟩:=hbody cdv A outer s H E hr;have⟨os,ds,r,al,hr,e,kk⟩:=q;unfold fnF at e;split at e
  ·rename_i hl;refine⟨t,p,?_⟩;have R:=JS (N:=N) al hr m hl;split at e
   ·rename_i d e1;cases e;exact q' H os _ _ H os _ _ R e1 λv H' s r=>kk v H' s r
   ·rename_i es e1;cases e;refine q' H os _ _ H os _ _ R e1 λa xs H' n s hx r=>kk _ H' s (.lst (SqL.of ?_) (r.same (xF λb hb=>qD _ hb)))
    rw[zB (al.new n)];exact hx
   ·rename_i ρ' e1;cases e;exact q' H os _ _ H os _ _ R e1 λσ' H' os' R' z=>kk _ H' R'.sm .non
   ·cases e
  ·cases e
def zeg(K:FRx):Sp:=λvs H Q _=>∃(a:AdX)(ns:List Int),vs=[.ref a]/\SqL K H a (ns.map V.int)/\ns.length<=63/\∀H',Q (.bl true) H'
def zis{CX:CXT}{k:Nat}{f:AdX}{fd:FuncData}{ps:LSr}{F:LPx}(h:∀ns:List Int,ns.length<=63->F [.list (ns.map PyData.int)]=some (.bool true))(o:wy P w K mg base CX k f fd ps (spF K F)):wy P w K mg base CX k f fd ps (zeg K):=o.imp λvs H Q E q=>by
 obtain⟨a,ns,rfl,hS,hl,k⟩:=q;have e0:offs H []=H:=by funext b;exact zB (by simp)
 refine⟨[],[.list (ns.map PyData.int)],.bool true,Al.nil _,.cons (.lst (by rw[e0];exact hS) (Reps.ints ns)) .nil,h ns hl,λv H' s r=>?_⟩;cases r;exact k H'
def zeL{x:Str}{ga:AdX}{gd:Option Addr}{a b:Int}{t u:Tok}{n:Nat}{sl:Array (Option Value)}(h:mg x=some (.ref ga))(l:K.lookup ga=some ⟨.type "tuple",gd,.seq #[.int a t,.int b u] n,sl⟩):GC K mg x (.tuple [.int a,.int b]):=⟨.ref ga,_,h,rfl,λH=>.tup (xs:=[.int a,.int b]) (.inr ⟨_,#[.int a t,.int b u],n,l,rfl,rfl,(by show 2<=sizeLine;decide),.cons ⟨t,rfl⟩ (.cons ⟨u,rfl⟩ .nil)⟩) (.cons (.int a) (.cons (.int b) .nil))⟩
end
def VZ:fillsNumberSlot (.type "tuple") "mul"=pure false:=PySem.fillsNumberSlot_seq (id:="tuple.__mul__") (r:=some (.builtin "tuple.__rmul__")) me.lookup (by decide+kernel) pX.lookup (by decide+kernel)
def zaP:seqRepeat? (.type "tuple")=pure (some (.builtin "tuple.__mul__")):=by
 unfold seqRepeat?;rw[PySem.seqSlot_of (T:="tuple") (name:="__mul__") (id:="tuple.__mul__") me.lookup (by decide+kernel),PySem.seqSlot_of (T:="tuple") (name:="__rmul__") (id:="tuple.__rmul__") pX.lookup (by decide+kernel)];rfl
def Ze(a:Int)(t:Tok)(l:AdX)(items:Array Value)(n:Nat)(dd:Option Addr)(sl:Array (Option Value)):Meets (Builtin.«int.__rmul__» ⟨[.int a t,.ref l],[]⟩) (λ_ R s=>s.heap.get? l=some { cls:=.type "tuple",dict:=dd,data:=.seq items n,slots:=sl }/\R (.ok (.ret Value.notImplemented)) s):=.of_wp λprog w A R s h=>by have⟨hp,g,d,tk,os⟩:=s;obtain⟨hl,h⟩:=h;wp_walk;exact⟨_,rfl,h⟩
def zcd(l:AdX)(items:Array Value)(n:Nat)(dd:Option Addr)(sl:Array (Option Value))(u:Tok):Meets (Builtin.«tuple.__mul__» ⟨[.ref l,.int 1 u],[]⟩) (λ_ R s=>s.heap.get? l=some { cls:=.type "tuple",dict:=dd,data:=.seq items n,slots:=sl }/\R (.ok (.ret (.ref l))) s):=.of_wp λprog w A R s h=>by
  have⟨hp,g,d,tk,os⟩:=s;obtain⟨hl,h⟩:=h;have f1:=mS;have hc:(items.isEmpty || (1:Int)==1)=true:=by simp
  wp_walk using kC hl
  exact⟨_,rfl,h⟩
def zcy(l:AdX)(items:Array Value)(n:Nat)(dd:Option Addr)(sl:Array (Option Value))(x:Int)(u:Tok)(h0:x<=0)(h1:-(2 ^ 63)<=x)(hi:items.isEmpty=false):Meets (Builtin.«tuple.__mul__» ⟨[.ref l,.int x u],[]⟩) (λ_ R s=>s.heap.get? l=some { cls:=.type "tuple",dict:=dd,data:=.seq items n,slots:=sl }/\R (.ok (.ret (.ref s.heap.objs.size))) { s with heap:=s.heap.push { cls:=Value.type "tuple",data:=Data.seq #[] },toks:=s.toks }):=.of_wp λprog w A R s h=>by
  have⟨hp,g,d,tk,os⟩:=s;obtain⟨hl,h⟩:=h;have f1:=mS;have hc:¬((items.isEmpty || x==1)=true):=by rw[hi];simp;omega
  have hc1:¬((decide (x< -(2 ^ 63)) || decide (x>=2 ^ 63))=true):=by simp;omega
  have hc2:((decide (x<=0) || items.isEmpty)=true):=by simp;omega
  wp_walk using kC hl
  rw[qm hc1];wp_walk using kC hl;rw[qm hc];wp_walk using kC hl;exact⟨_,rfl,h⟩
def zb9(l:AdX)(items:Array Value)(n:Nat)(dd:Option Addr)(sl:Array (Option Value))(x:Int)(u:Tok)(h0:1<x)(h1:x<2 ^ 63)(hi:items.isEmpty=false)(hz:items.size*x.toNat<=sizeLine):Meets (Builtin.«tuple.__mul__» ⟨[.ref l,.int x u],[]⟩) (λ_ R s=>s.heap.get? l=some { cls:=.type "tuple",dict:=dd,data:=.seq items n,slots:=sl }/\R (.ok (.ret (.ref s.heap.objs.size))) { s with heap:=s.heap.push { cls:=Value.type "tuple",data:=Data.seq (List.foldl (λx1 x2=>x1++x2) #[] (List.replicate x.toNat items)) },toks:=s.toks }):=.of_wp λprog w A R s h=>by
  have⟨hp,g,d,tk,os⟩:=s;obtain⟨hl,h⟩:=h;have f1:=mS;have hz2:((items.size*x.toNat:Nat):Int)<=16777216:=by
   have:(sizeLine:Nat)=16777216:=rfl;omega
  have hx:(items.size:Int)*x=((items.size*x.toNat:Nat):Int):=by
   rw[mP,Int.toNat_of_nonneg (by omega)]
  have hc:¬((items.isEmpty || x==1)=true):=by rw[hi];simp;omega
  have hc1:¬((decide (x< -(2 ^ 63)) || decide (x>=2 ^ 63))=true):=by simp;omega
  have hc2:¬((decide (x<=0) || items.isEmpty)=true):=by rw[hi];simp;omega
  have hc3:¬((items.size:Int)*x>(2 ^ 63 - 1) / 8):=by rw[hx];omega
  have hc4:¬(Builtin.Tuple.tupleTooMany ((items.size:Int)*x)=true):=by
   rw[hx];unfold Builtin.Tuple.tupleTooMany
   have:(sizeLine:Int)=16777216:=rfl;rw[mW];omega
  have hz':(List.foldl (λx1 x2=>x1++x2) #[] (List.replicate x.toNat items)).size<=sizeLine:=by
   rw[AutoListH.size_joined];simp only [Array.size_empty];rw[gR] at hz;omega
  wp_walk using kC hl
  rw[qm hc1];wp_walk using kC hl;rw[qm hc];wp_walk using kC hl;rw[qm hc2];wp_walk using kC hl;rw[qm hc3];wp_walk using kC hl;rw[qm hc4];wp_walk using kC hl;exact⟨_,rfl,h⟩
def zjv(K:FRx):R2:=λx y H Q=>∃a k xs,x=.ref a/\y=.int k/\SqT K H a xs/\xs≠[]/\-(2 ^ 63)<=k/\k<2 ^ 63/\xs.length*k.toNat<=sizeLine/\
 (k=1->Q (.ref a) H)/\(k≠1->∀p,H p=none->Q (.ref p) (upd H p (.tup (List.replicate k.toNat xs).flatten)))
def zi0{X:Cx}:OpR X (binaryOp .Mult) (zjv X.K):=by
 intro pins s σ H x y v u Q I rx ry h;obtain⟨a,k,xs,rfl,rfl,hx,hne,h1,h2,hz,q1,q2⟩:=h;cases (show v=Value.ref a from rx);obtain⟨t,rfl⟩:=ry;have⟨its,r,⟨⟨cls,dd,data,sl⟩,ho,hc,n,hd⟩,hz2⟩:=I.tuple hx;simp only at hc hd;subst hc hd;have hl:=r.length;have hie:its.toArray.isEmpty=false:=by
  cases its with
  |nil=>cases r;exact absurd rfl hne
  |cons _ _=>rfl
 have hzz:its.toArray.size*k.toNat<=sizeLine:=by rw[qA,<-hl];exact hz
 have hf:∀m:Nat,List.foldl (λx1 x2=>x1++x2) #[] (List.replicate m its.toArray)=(List.replicate m its).flatten.toArray:=λm=>by
  have:=foldl_rep its m [];rw[pI] at this;exact this
 refine wpAny_binaryOp_repeat_ref (T:="tuple") (U:="int") (by decide) ⟨_,ho,rfl⟩ (λs'=>pF s' k t) VZ F.fills_int_mul nU zaP F.slot_int_index.lookup
  (gP nU (pF s k t) F.entry_int_rmul (F.args_int_rmul_2 _ _) (Ze k t a its.toArray n dd sl) ⟨ho,rfl,⟨_,ho,rfl⟩,?_⟩)
 by_cases hk1:k=1
 ·subst hk1;exact gP me ⟨_,ho,rfl⟩ pO (pG _ _) (zcd a its.toArray n dd sl t) ⟨ho,⟨.ref a,H,I,rfl,q1 rfl⟩⟩
 ·by_cases hk0:k<=0
  ·refine gP me ⟨_,ho,rfl⟩ pO (pG _ _) (zcy a its.toArray n dd sl k t hk0 h1 hie) ⟨ho,?_⟩;have e:(List.replicate k.toNat xs).flatten=[]:=by
    have:k.toNat=0:=by omega
    rw[this];rfl
   have q:=q2 hk1 _ (I.hok.fresh (qk _));rw[e] at q;exact⟨.ref s.heap.objs.size,_,I.laid (o:=.tup []) (t':=s.toks) (λc o e=>qj _ e) (qk _) ⟨kK _,[],.nil,⟨_,qI _ rfl,rfl,_,rfl⟩⟩,rfl,q⟩
  ·refine gP me ⟨_,ho,rfl⟩ pO (pG _ _) (zb9 a its.toArray n dd sl k t (by omega) h2 hie hzz) ⟨ho,?_⟩;rw[hf];refine⟨.ref s.heap.objs.size,_,I.laid (o:=.tup (List.replicate k.toNat xs).flatten) (t':=s.toks) (λc o e=>qj _ e) (qk _) ⟨?_,_,r.rep k.toNat,⟨_,qI _ rfl,rfl,_,rfl⟩⟩,rfl,q2 hk1 _ (I.hok.fresh (qk _))⟩;rw[len_rep,gR];exact hz
def zh9:PyData->PyData->Option PyData
 | .tuple ds,.int k=>if ds≠[]/\-(2 ^ 63)<=k/\k<2 ^ 63/\ds.length*k.toNat<=16777216 then some (.tuple (List.replicate k.toNat ds).flatten) else none
 |_,_=>none
def zhR{K:FRx}:R2F K (zjv K) zh9:=by
 intro x y H os d e c Q al r1 r2 h k;unfold zh9 at h;split at h
 ·rename_i ds n;split at h
  ·rename_i hc;cases h;obtain⟨a,xs,rfl,hS,hSo,r⟩:=r1.tup;refine⟨a,n,xs,rfl,r2.int,hS,λz=>hc.1 ?_,hc.2.1,hc.2.2.1,by rw[r.length];exact hc.2.2.2,λz=>?_,λz p hp=>?_⟩
   ·have:=r.length;rw[z] at this;exact List.eq_nil_of_length_eq_zero this.symm
   ·subst z;have e:(List.replicate (1:Int).toNat ds).flatten=ds:=by simp
    rw[e] at k;exact k _ H (Same.refl H) (.tup hSo r)
   ·have s:=yh hp (.tup (List.replicate n.toNat xs).flatten);refine k _ _ s (.tup (SqT.of ?_) ((Yp r _).same (zr s os)));rw[zB (al.new hp)];exact zL
  ·cases h
 ·cases h
end L2.Fu
namespace L2.Fu
open PySem PySem.Spec PyProof.Rows
def zgi(h:Heap)(a l:AdX)(i:Int):Prop:=∃o,h.get? a=some o/\o.cls=.type "reversed"/\o.data=.fields #[.ref l,rawInt i]
section
variable{prog:Program}{w:World}{A:Around}{E:VSx}{s:ShX}
def zgi.typeIs{a l:AdX}{i:Int}(x:zgi s.heap a l i):s.TypeIs (.ref a) "reversed":=let ⟨o,ho,hc,_⟩:=x;⟨o,ho,hc⟩
end
end L2.Fu
namespace L2.Fu
open PySem
def zga(i:Nat):Ro->Nat:=λρ=>match ρ[i]? with |some (.pu (.int b))=>b.natAbs+1|_=>0
abbrev wL:Ro->Nat:=zga 1
abbrev Zj:Ro->Nat:=zga 3
end L2.Fu
namespace L2.Fu
open PySem PySem.Spec PyProof.Rows
def Uc:RFx:=(sq (ifS (zA (op2 ltI (gv 1) (zd yb (aC (gv 0) a0)))) (retS (op2 ixD (gv 0) (gv 1))) s0)
 (retS (cst (.int 0))))
def zH:LPx:=fnF 2 2 Uc
def Z6:RFx:=(sq (zO 2 (zd ziJ (aC (gv 0) a0)))
 (sq (zO 3 (gv 1))
 (sq (whS Zj (zA (op2 gtI (gv 3) (cst (.int 0)))) (sq (zO 4 (op2 yr (gv 2) (gv 3)))
 (sq (zO 2 (gv 3))
 (zO 3 (gv 4)))))
 (retS (yM (aC (op2 yg (gv 0) (gv 2)) (aC (op2 yg (gv 1) (gv 2)) a0)))))))
def vW:LPx:=fnF 5 2 Z6
def Jp:RFx:=(retS (zd vW (aC (op2 Wk (op2 yr (gv 0) (cst (.int 9))) (cst (.int 4))) (aC (op2 ixD (yB (vL (aC (cst (.int 1)) (aC (cst (.int 1)) (aC (cst (.int 2)) (aC (cst (.int 1)) (aC (cst (.int 3)) a0))))))) (op2 yr (op2 yg (gv 0) (cst (.int 9))) (cst (.int 5)))) a0))))
def xa:LPx:=fnF 1 1 Jp
def vt:RFx:=(sq (x8 3 (vL a0))
 (sq (jv (xl (aC (op2 yA (gv 1) (op2 xb (cst (.int 2)) (op2 yA (gv 1) (gv 2)))) a0)) (bN 4) (sq (zO 0 (op2 yr (op2 xb (op2 yA (gv 0) (cst (.int 48271))) (cst (.int 29))) (cst (.int 2147483647))))
 (apS 3 (ifE (zA (op2 eqD (op2 yr (op2 yg (gv 0) (cst (.int 11))) (cst (.int 3))) (cst (.int 0)))) (yM (aC (cst (.int 0)) (aC (cst (.int 1)) a0))) (zd xa (aC (op2 yg (gv 0) (cst (.int 33))) a0))))))
 (sq (x8 5 (vL a0))
 (sq (jv (xl (aC (gv 2) a0)) (bN 6) (sq (x8 7 (vL a0))
 (sq (jv (xl (aC (gv 1) a0)) (bN 8) (sq (zO 9 (op2 xb (op2 yA (cst (.int 2)) (gv 1)) (op2 yA (op2 xb (op2 yA (gv 6) (gv 1)) (gv 8)) (gv 1))))
 (apS 7 (zd zX (aC (yB (slL (gb 3) (oS (gv 9)) (oS (op2 xb (gv 9) (gv 1))))) a0)))))
 (apS 5 (zd zX (aC (gb 7) a0))))))
 (retS (yM (aC (zd zX (aC (yB (slL (gb 3) o0 (oS (gv 1)))) a0)) (aC (zd zX (aC (gb 5) a0)) (aC (zd zX (aC (yB (slL (gb 3) (oS (gv 1)) (oS (op2 yA (cst (.int 2)) (gv 1))))) a0)) a0)))))))))
def yZ:LPx:=fnF 10 3 vt
def Zs:RFx:=(sq (x8 3 (vL a0))
 (sq (jv (xl (aC (op2 yr (gv 0) (op2 xb (gv 2) (cst (.int 1)))) a0)) (bN 4) (sq (zO 0 (op2 yr (op2 xb (op2 yA (gv 0) (cst (.int 48271))) (cst (.int 17))) (cst (.int 2147483647))))
 (apS 3 (op2 yr (op2 yg (gv 0) (cst (.int 5))) (gv 1)))))
 (retS (zd zX (aC (gb 3) a0)))))
def Ja:LPx:=fnF 5 3 Zs
def WL:RFx:=(retS (zd vW (aC (op2 yA (op2 ixD (gv 0) (cst (.int 0))) (op2 ixD (gv 1) (cst (.int 0)))) (aC (op2 yA (op2 ixD (gv 0) (cst (.int 1))) (op2 ixD (gv 1) (cst (.int 1)))) a0))))
def yC:LPx:=fnF 2 2 WL
def Yn:RFx:=(retS (zd vW (aC (op2 xb (op2 yA (op2 ixD (gv 0) (cst (.int 0))) (op2 ixD (gv 1) (cst (.int 1)))) (op2 yA (op2 ixD (gv 1) (cst (.int 0))) (op2 ixD (gv 0) (cst (.int 1))))) (aC (op2 yA (op2 ixD (gv 0) (cst (.int 1))) (op2 ixD (gv 1) (cst (.int 1)))) a0))))
def xu:LPx:=fnF 2 2 Yn
def uz:RFx:=(sq (whS wL (zA (op2 neD (gv 1) (cst (.int 0)))) (sq (zO 2 (op2 yr (gv 0) (gv 1)))
 (sq (zO 0 (gv 1))
 (zO 1 (gv 2)))))
 (retS (zd ziJ (aC (gv 0) a0))))
def yR:LPx:=fnF 3 2 uz
def Ji:RFx:=(sq (zO 1 (cst (.int 1)))
 (sq (jv (yI (gv 0)) (bN 2) (zO 1 (op2 yA (gv 1) (op2 yg (op2 ixD (gv 2) (cst (.int 1))) (zd yR (aC (gv 1) (aC (op2 ixD (gv 2) (cst (.int 1))) a0)))))))
 (retS (gv 1))))
def xh:LPx:=fnF 3 1 Ji
def WJ:RFx:=(UJ (zZ 1 [1] (yI (gv 0)) (bN 0) (op2 yA (op2 ixD (gv 0) (cst (.int 0))) (op2 yg (gv 1) (op2 ixD (gv 0) (cst (.int 1)))))))
def jd:LLx:=fnL 2 2 WJ
def zbQ:RFx:=(retS (zd zX (aC (yB (zZ 1 [1] (yI (gv 0)) (bN 0) (op2 ixD (gv 0) (gv 1)))) a0)))
def VJ:LPx:=fnF 2 2 zbQ
def U4:RFx:=(sq (x8 1 (vL a0))
 (sq (jv (yI (gv 0)) (bN 2) (exT 1 (gv 2)))
 (sq (zO 3 (Vu xh (aC (gb 1) a0)))
 (sq (x8 4 (zZ 1 [0,3] (xl (aC (zd yb (aC (gv 0) a0)) a0)) (bN 0) (yB (xc jd (aC (zd VJ (aC (gv 1) (aC (gv 0) a0))) (aC (gv 2) a0))))))
 (frS 4 (retS (yM (aC (gv 4) (aC (gv 3) a0)))))))))
def vM:LPx:=fnF 5 1 U4
def uj:RFx:=(retS (zd zja (aC (yB (zZ 2 [] (UQ false false (aC (gv 0) (aC (gv 1) a0))) (b2 (bN 0) (bN 1)) (op2 yA (gv 0) (gv 1)))) a0)))
def yD:LPx:=fnF 2 2 uj
def zc8:RFx:=(UJ (zZ 1 [0] (yI (gv 1)) (bN 0) (zd yD (aC (gv 1) (aC (gv 0) a0)))))
def U7:LLx:=fnL 2 2 zc8
def zcK:RFx:=(sq (zO 2 (zd yR (aC (gv 0) (aC (gv 1) a0))))
 (sq (ifS (zA (op2 ltI (gv 1) (cst (.int 0)))) (zO 2 (op1 zcb (gv 2))) s0)
 (retS (yM (aC (op2 yg (gv 0) (gv 2)) (aC (op2 yg (gv 1) (gv 2)) a0))))))
def Yl:LPx:=fnF 3 2 zcK
def Wz:RFx:=(retS (zfX (op1 (YJ "int") (gv 0)) (zk9 (op1 (YJ "bool") (gv 0)))))
def JJ:LPx:=fnF 1 1 Wz
def zao:RFx:=(sq (zO 2 (yM (aC (cst (.int 0)) (aC (cst (.int 1)) a0))))
 (sq (jv (xl (aC (zd yb (aC (gv 0) a0)) a0)) (bN 3) (zO 2 (zd xu (aC (gv 2) (aC (zd yC (aC (op2 ixD (gv 0) (gv 3)) (aC (op2 ixD (gv 1) (gv 3)) a0))) a0)))))
 (retS (gv 2))))
def jq:LPx:=fnF 4 2 zao
def zas:RFx:=(sq (x8 2 (vL a0))
 (sq (jv (xl (aC (zd yb (aC (gv 0) a0)) a0)) (bN 3) (apS 2 (zd jq (aC (gv 0) (aC (yB (zZ 1 [1,3] (xl (aC (zd yb (aC (gv 0) a0)) a0)) (bN 0) (op2 ixD (op2 ixD (gv 1) (gv 0)) (gv 2)))) a0)))))
 (UJ (gk 2))))
def xY:LLx:=fnL 4 2 zas
def zal:RFx:=(sq (x8 2 (xc vD (aC (op2 ixD (gv 0) (cst (.int 0))) a0)))
 (sq (jv (yI (gv 1)) (bN 3) (frS 2 (x8 2 (xc xY (aC (gv 2) (aC (op2 ixD (op2 ixD (gv 0) (cst (.int 1))) (gv 3)) a0))))))
 (UJ (gk 2))))
def JT:LLx:=fnL 4 2 zal
def VE:RFx:=(retS (zd jq (aC (yB (xc JT (aC (gv 0) (aC (gv 1) a0)))) (aC (op2 ixD (gv 0) (cst (.int 2))) a0))))
def yX:LPx:=fnF 2 2 VE
def Jk:RFx:=(sq (zO 2 (zd yb (aC (op2 ixD (gv 0) (cst (.int 1))) a0)))
 (sq (zO 3 (zd yb (aC (op2 ixD (gv 1) (cst (.int 1))) a0)))
 (ifS (zA (op2 neD (gv 2) (gv 3))) (λ_=>none) s0)))
def vG:LPx:=fnF 4 2 Jk
def zeA:RFx:=(retS (zd Yl (aC (op2 yA (op2 ixD (gv 0) (cst (.int 0))) (op2 ixD (gv 1) (cst (.int 0)))) (aC (op2 yA (op2 ixD (gv 0) (cst (.int 1))) (op2 ixD (gv 1) (cst (.int 1)))) a0))))
def zaS:LPx:=fnF 2 2 zeA
def UX:RFx:=(retS (zd zX (aC (yB (zZ 1 [1] (yI (gv 0)) (bN 0) (zd zaS (aC (gv 0) (aC (gv 1) a0))))) a0)))
def uO:LPx:=fnF 2 2 UX
def VF:RFx:=(sq (ifS (orT (vQ (zA (op1 (YJ "tuple") (gv 0)))) (orT (zA (op2 neD (zd yb (aC (gv 0) a0)) (cst (.int 2)))) (orT (vQ (zA (zd JJ (aC (op2 ixD (gv 0) (cst (.int 0))) a0)))) (vQ (zA (zd JJ (aC (op2 ixD (gv 0) (cst (.int 1))) a0))))))) (retS (cst (.bool false))) s0)
 (retS (zfX (op2 gtI (op2 ixD (gv 0) (cst (.int 1))) (cst (.int 0))) (op2 eqD (zd vW (aC (op2 ixD (gv 0) (cst (.int 0))) (aC (op2 ixD (gv 0) (cst (.int 1))) a0))) (gv 0)))))
def vS:LPx:=fnF 1 1 VF
def ur:RFx:=(sq (ifS (orT (vQ (zA (op1 (YJ "tuple") (gv 0)))) (zA (op2 neD (zd yb (aC (gv 0) a0)) (gv 1)))) (retS (cst (.bool false))) s0)
 (sq (jv (yI (gv 0)) (bN 2) (ifS (vQ (zA (zd vS (aC (gv 2) a0)))) (retS (cst (.bool false))) s0))
 (retS (cst (.bool true)))))
def jj:LPx:=fnF 3 2 ur
def ZN:RFx:=(retS (zd zX (aC (yB (zZ 1 [0] (xl (aC (zd yb (aC (gv 0) a0)) a0)) (bN 0) (zd VJ (aC (gv 1) (aC (gv 0) a0))))) a0)))
def ZG:LPx:=fnF 1 1 ZN
def zak:RFx:=(retS (op2 zh9 (yM (aC (cst (.tuple [.int 0,.int 1])) a0)) (gv 0)))
def uq:LPx:=fnF 1 1 zak
def Ui:RFx:=(sq (x8 3 (zZ 2 [] (UQ true false (aC (gv 0) (aC (gv 1) a0))) (b2 (bN 0) (bN 1)) (op2 Jl (gv 0) (gv 1))))
 (sq (x8 4 (zZ 1 [0] (yI (gv 2)) (bN 0) (op2 Jl (zd uq (aC (zd yb (aC (gv 1) a0)) a0)) (gv 0))))
 (retS (zd zX (aC (yB (zfN (gk 3) (gk 4))) a0)))))
def wW:LPx:=fnF 5 3 Ui
end L2.Fu
namespace WS
open Rat
def zcT(a b:Int):Int.gcd b (a.fmod b)=Int.gcd a b:=by
 rw[Int.fmod_def,Int.gcd_comm a b];have h:a - b*a.fdiv b=a+b*(-(a.fdiv b)):=by rw[Int.mul_neg];rfl
 rw[h];exact Int.gcd_add_mul_left_right ..
def zax{a b:Int}(h:b≠0):(a.fmod b).natAbs<b.natAbs:=by
 rcases Int.lt_or_gt_of_ne h with hb|hb
 ·have h3:=mr (-a) (b:=-b) (by omega);have h4:=nV (-a) (b:=-b) (by omega)
  rw[Int.neg_fmod_neg] at h3 h4;omega
 ·have h1:=mr a hb;have h2:=nV a hb
  omega
def vZ{t b:Int}(hb:b≠0):(0:Int)<(Int.gcd t b:Int):=by
 have:=Int.gcd_pos_of_ne_zero_right t hb;omega
def zbD{t b c:Int}(hb:b≠0)(hc:c=if b<0 then -(Int.gcd t b:Int) else (Int.gcd t b:Int)):t.fdiv c=(divInt t b).num:=by
 have hg:=vZ (t:=t) hb;have h1:(Int.gcd t b:Int) ∣ t:=Int.gcd_dvd_left ..
 have⟨k,hk⟩:=h1;rw[num_divInt,Int.gcd_comm b t];by_cases h:b<0
 ·rw[qg h] at hc;subst hc;rw[Int.sign_eq_neg_one_of_neg h];have e1:t.fdiv (-(Int.gcd t b:Int))=-k:=gM (by omega) (by rw[Int.neg_mul_neg];exact hk);have e2:(-1*t) / (Int.gcd t b:Int)=-k:=gN (by omega) (by rw[Int.mul_neg,<-hk];omega)
  rw[e1,e2]
 ·rw[qm h] at hc;subst hc;rw[Int.sign_eq_one_of_pos (by omega),Int.one_mul];have e1:t.fdiv (Int.gcd t b:Int)=k:=gM (by omega) hk;have e2:t / (Int.gcd t b:Int)=k:=gN (by omega) hk
  rw[e1,e2]
def zaY{t b c:Int}(hb:b≠0)(hc:c=if b<0 then -(Int.gcd t b:Int) else (Int.gcd t b:Int)):b.fdiv c=((divInt t b).den:Int):=by
 have hg:=vZ (t:=t) hb;have h1:(Int.gcd t b:Int) ∣ b:=Int.gcd_dvd_right ..
 have⟨k,hk⟩:=h1;rw[den_divInt,qm hb,Int.gcd_comm b t];have e3:((b.natAbs / Int.gcd t b:Nat):Int)=(b.natAbs:Int) / (Int.gcd t b:Int):=rfl;rw[e3];by_cases h:b<0
 ·rw[qg h] at hc;subst hc;have e1:b.fdiv (-(Int.gcd t b:Int))=-k:=gM (by omega) (by rw[Int.neg_mul_neg];exact hk);have e2:(b.natAbs:Int) / (Int.gcd t b:Int)=-k:=gN (by omega) (by rw[Int.mul_neg,<-hk];omega)
  rw[e1,e2]
 ·rw[qm h] at hc;subst hc;have e1:b.fdiv (Int.gcd t b:Int)=k:=gM (by omega) hk;have e2:(b.natAbs:Int) / (Int.gcd t b:Int)=k:=gN (by omega) (by rw[<-hk];omega)
  rw[e1,e2]
def zcO(q r:Rat):divInt (q.num*(r.den:Int)+r.num*(q.den:Int)) ((q.den:Int)*(r.den:Int))=q+r:=by
 have h1:(q.den:Int)≠0:=by have:=q.den_pos;omega
 have h2:(r.den:Int)≠0:=by have:=r.den_pos;omega
 have e:=divInt_add_divInt q.num r.num h1 h2;rw[g0,g0] at e;exact e.symm
def U1(q r:Rat):divInt (q.num*r.num) ((q.den:Int)*(r.den:Int))=q*r:=by
 have e:=divInt_mul_divInt q.num r.num (d₁:=(q.den:Int)) (d₂:=(r.den:Int));rw[g0,g0] at e;exact e.symm
def YW(q:Rat):(q.den:Int)≠0:=by have:=q.den_pos;omega
def Vr(q:Rat):(0:Int)<(q.den:Int):=by have:=q.den_pos;omega
def zgw(t b:Int):(divInt t b).num.natAbs<=t.natAbs:=by
 rw[num_divInt];have h:(b.sign*t / (b.gcd t:Int)).natAbs<=(b.sign*t).natAbs:=Int.natAbs_ediv_le_natAbs ..;rw[q9,Int.natAbs_sign] at h;split at h<;>omega
def zli{t b:Int}(hb:b≠0):(divInt t b).den<=b.natAbs:=by
 rw[den_divInt,qm hb];exact Nat.div_le_self ..
end WS
namespace WD
open PySem L2 WS
open PySem.Builtin.Int (intBits)
def fr(q:Rat):PyData:=.tuple [.int q.num,.int (q.den:Int)]
def zgV(q r:Rat):PyData.eqv (fr q) (fr r)=decide (q=r):=by
 simp only [fr,PyData.eqv,PyData.eqvAll];by_cases h:q=r
 ·subst h;simp
 ·rw[qF h];by_cases h1:q.num=r.num
  ·by_cases h2:q.den=r.den
   ·exact absurd (Rat.ext h1 h2) h
   ·simp[h1]
    omega
  ·simp[h1]
def WQ{x:Int}{m:Nat}(hx:x≠0)(h:intBits x<=m):x.natAbs.log2<m:=by
 have h1:=(intBits_le_iff (m:=m) (x:=x)).mp h;exact(pD (by omega)).mpr h1
def zhF{t b:Int}{m:Nat}(hb:b≠0)(h:intBits b<=m):intBits (Int.gcd t b:Int)<=m:=by
 refine kY ?_ h;exact Int.gcd_le_natAbs_right (a:=t) hb
def j4{x:Int}{m:Nat}(h:x.natAbs<2 ^ m):intBits x<=m:=mG.mpr h
def ju{a b:Int}{m n:Nat}(ha:intBits a<=m)(hb:intBits b<=n)(h:m+n<=134217728:=by decide):IntMulOk a b:=IntMulOk.of_le ha hb h
structure Bq(m:Nat)(q:Rat):Prop where
 n:intBits q.num<=m
 d:intBits (q.den:Int)<=m
def YX{q r:Rat}(hq:Bq 4000 q)(hr:Bq 4000 r):IntMulOk q.num (r.den:Int)/\IntMulOk r.num (q.den:Int)/\IntMulOk (q.den:Int) (r.den:Int)/\IntMulOk q.num r.num/\IntMulOk (q.den:Int) r.num:=⟨ju hq.n hr.d,ju hr.n hq.d,ju hq.d hr.d,ju hq.n hr.n,ju hq.d hr.n⟩
def zdh(q r:Rat):(q.den:Int)*(r.den:Int)≠0:=gZ (YW q) (YW r)
def Sz(m:Nat):Prop:=intBits (m:Int)<=4000
def Sz.mono{m n:Nat}(h:m<=n)(s:Sz n):Sz m:=kY (y:=(n:Int)) h s
def Sz.bits{x:Int}{B:Nat}(s:Sz B)(h:x.natAbs<=B):intBits x<=4000:=kY (y:=(B:Int)) h s
def Sz.zb0{k:Nat}(h:k<4000):Sz (2 ^ k):=by
 refine mG.mpr ?_;exact kM (by decide) h
def yy(n:Nat)(f:Q1x):PyData:=.tuple ((List.range n).map λi=>fr (f i))
def yx(n:Nat)(f:Q1x):PyData:=.list ((List.range n).map λi=>fr (f i))
def xy(n:Nat)(f:Q2x):PyData:=.tuple ((List.range n).map λa=>yy n (f a))
def zbE(n s:Nat)(st:Q3x):PyData:=.tuple ((List.range s).map λg=>xy n (st g))
def zm(n s:Nat)(fi:Q1x)(st:Q3x)(la:Q1x):PyData:=.tuple [yy n fi,zbE n s st,yy n la]
def ya(ws:LNt):PyData:=.tuple (ws.map λ(g:Nat)=>PyData.int (g:Int))
section
variable{K:FRx}{H:Hp}{v:V}
def get_map{d:Nat->PyData}{n i:Nat}(h:i<n):((List.range n).map d)[i]?=some (d i):=by
 rw[qp,ka h];rfl
end
structure InB(m B:Nat)(q:Rat):Prop where
 pos:0<m
 ex:∃x:Int,q*(m:Rat)=(x:Rat)/\x.natAbs<=B
def jh{m:Nat}(h:0<m):(m:Rat)≠0:=by
 intro z
 have:(m:Rat)=((0:Nat):Rat):=by rw[z];rfl
 have:=Rat.natCast_inj.mp this;omega
def InB.eq{m B:Nat}{q:Rat}(h:InB m B q):∃x:Int,q=Rat.divInt x (m:Int)/\x.natAbs<=B:=by
 have⟨x,e,hx⟩:=h.ex;refine⟨x,?_,hx⟩;have hm:=jh h.pos;rw[nZ];have e2:((m:Int):Rat)=(m:Rat):=kj m
 rw[e2];grind
def InB.num{m B:Nat}{q:Rat}(h:InB m B q):q.num.natAbs<=B:=by
 obtain⟨x,rfl,hx⟩:=h.eq;exact qB (zgw _ _) hx
def InB.den{m B:Nat}{q:Rat}(h:InB m B q):q.den ∣ m:=by
 obtain⟨x,rfl,hx⟩:=h.eq;have hp:=h.pos;rw[Rat.den_divInt,qm (by omega)];have h1:Int.gcd (m:Int) x ∣ (m:Int).natAbs:=Int.gcd_dvd_natAbs_left _ _
 exact Nat.div_dvd_of_dvd h1
def InB.bq{m B:Nat}{q:Rat}(h:InB m B q)(hm:Sz m)(hB:Sz B):Bq 4000 q:=⟨hB.bits h.num,hm.bits (gA h.pos h.den)⟩
def InB.zero{m B:Nat}(h:0<m):InB m B 0:=⟨h,0,by grind,kK _⟩
def InB.add{m B C:Nat}{q r:Rat}(h:InB m B q)(k:InB m C r):InB m (B+C) (q+r):=by
 have⟨x,e,hx⟩:=h.ex;have⟨y,f,hy⟩:=k.ex;refine⟨h.pos,x+y,?_,by omega⟩;rw[Rat.intCast_add];grind
def InB.mul{m n B C:Nat}{q r:Rat}(h:InB m B q)(k:InB n C r):InB (m*n) (B*C) (q*r):=by
 have⟨x,e,hx⟩:=h.ex;have⟨y,f,hy⟩:=k.ex;refine⟨pC h.pos k.pos,x*y,?_,?_⟩
 ·rw[kd,mJ];grind
 ·rw[q9];exact km hx hy
def InB.mono{m B C:Nat}{q:Rat}(h:InB m B q)(k:B<=C):InB m C q:=by
 have⟨x,e,hx⟩:=h.ex;exact⟨h.pos,x,e,qB hx k⟩
def InB.up{m B:Nat}{q:Rat}(h:InB m B q){c:Nat}(hc:0<c):InB (m*c) (B*c) q:=by
 have⟨x,e,hx⟩:=h.ex;refine⟨pC h.pos hc,x*c,?_,?_⟩
 ·rw[kd,mJ,kj];grind
 ·rw[q9];exact km hx (nt (by simp))
def sumTo:Nat->(Nat->Rat)->Rat
 |0,_=>0
 |n+1,f=>sumTo n f+f n
theorem J5{m B:Nat}{f:Q1x}(hm:0<m):∀n,(∀i,i<n->InB m B (f i))->InB m (n*B) (sumTo n f)
 |0,_=>InB.zero hm
 |n+1,h=>by
  have:=(J5 hm n λi hi=>h i (by omega)).add (h n (by omega));rw[gm];exact this
theorem zi{f g:Q1x}:∀n,(∀i,i<n->f i=g i)->sumTo n f=sumTo n g
 |0,_=>rfl
 |n+1,h=>by
  show sumTo n f+f n=sumTo n g+g n
  rw[zi n λi hi=>h i (by omega),h n (by omega)]
theorem zT(c:Rat)(f:Q1x):∀n,sumTo n (λi=>f i*c)=sumTo n f*c
 |0=>by
  show(0:Rat)=0*c
  grind
 |n+1=>by
  show sumTo n (λi=>f i*c)+f n*c=(sumTo n f+f n)*c
  rw[zT c f n];grind
theorem JR(f g:Q1x):∀n,sumTo n (λi=>f i+g i)=sumTo n f+sumTo n g
 |0=>by
  show(0:Rat)=0+0
  grind
 |n+1=>by
  show sumTo n (λi=>f i+g i)+(f n+g n)=(sumTo n f+f n)+(sumTo n g+g n)
  rw[JR f g n];grind
def led(n:Nat)(r:Q1x)(M:Q2x):Nat->Rat:=λb=>sumTo n λa=>r a*M a b
def zV(n:Nat)(st:Q3x):(Nat->Rat)->List Nat->Nat->Rat
 |r,[]=>r
 |r,g::w=>zV n st (led n r (st g)) w
def wt(n:Nat)(st:Q3x)(fi la:Q1x)(w:LNt):Rat:=sumTo n λa=>zV n st fi w a*la a
theorem JH(n:Nat)(st:Q3x):∀(r:Q1x)(u w:LNt),zV n st r (u++w)=zV n st (zV n st r u) w
 |_,[],_=>rfl
 |r,g::u,w=>JH n st (led n r (st g)) u w
def x9(qs:List Rat):Nat:=qs.foldl (λb q=>Nat.lcm b q.den) 1
def zfR(qs:List Rat)(q:Rat):x9 (qs++[q])=Nat.lcm (x9 qs) q.den:=by
 unfold x9;rw[List.foldl_append];rfl
def YU(qs:List Rat):0<x9 qs:=by
 unfold x9;generalize hb:(1:Nat)=b;have hp:0<b:=by omega
 clear hb;induction qs generalizing b with
 |nil=>exact hp
 |cons q r ih=>exact ih _ (Nat.lcm_pos hp q.den_pos)
def Yx{M:Nat}(qs:List Rat)(h:∀q∈qs,q.den ∣ M):x9 qs ∣ M:=by
 unfold x9;generalize hb:(1:Nat)=b;have hp:b ∣ M:=by rw[<-hb];exact Nat.one_dvd _
 clear hb;induction qs generalizing b with
 |nil=>exact hp
 |cons q r ih=>exact ih (λx hx=>h x (qD _ hx)) _ (Nat.lcm_dvd hp (h q ki))
def ZR(qs:List Rat):∀b:Nat,b ∣ qs.foldl (λb q=>Nat.lcm b q.den) b:=by
 induction qs with
 |nil=>intro b;exact pk _
 |cons q r ih=>intro b;exact Nat.dvd_trans (Nat.dvd_lcm_left _ _) (ih _)
def Zg(qs:List Rat):∀q∈qs,q.den ∣ x9 qs:=by
 unfold x9;generalize (1:Nat)=b;induction qs generalizing b with
 |nil=>intro q h;cases h
 |cons x r ih=>
  intro q h;rcases qw.mp h with rfl|h
  ·exact Nat.dvd_trans (Nat.dvd_lcm_right _ _) (ZR r _)
  ·exact ih _ q h
def zf3(b d:Nat):(b:Int)*((d:Int).fdiv (Int.gcd (b:Int) (d:Int):Int))=((Nat.lcm b d:Nat):Int):=by
 have e1:Int.gcd (b:Int) (d:Int)=Nat.gcd b d:=rfl;rw[e1,pP _ (by omega)];have e2:(d:Int) / ((Nat.gcd b d:Nat):Int)=((d / Nat.gcd b d:Nat):Int):=rfl
 rw[e2];have e3:b*(d / Nat.gcd b d)=Nat.lcm b d:=by
  rw[Nat.lcm,Nat.mul_div_assoc _ (Nat.gcd_dvd_right b d)]
 rw[<-e3];rfl
def vF(q:Rat)(B:Nat):Int:=q.num*((B / q.den:Nat):Int)
def vz{q:Rat}{B:Nat}(h:q.den ∣ B):(vF q B:Rat)=q*(B:Rat):=by
 obtain⟨c,rfl⟩:=h;unfold vF;rw[Nat.mul_div_cancel_left _ q.den_pos];have e:=g0 q;rw[nZ,kj] at e;have hd:=jh q.den_pos
 rw[kd,mJ,kj];have e2:(q.num:Rat)=q*(q.den:Rat):=by
  generalize (q.num:Rat)=x at e;grind
 rw[e2];grind
def zgz(q:Rat)(B:Nat):q.num*((B:Int).fdiv (q.den:Int))=vF q B:=by
 unfold vF;rw[pP _ (by omega)];rfl
def yv:Nat->(Nat->Int)->Int
 |0,_=>0
 |n+1,f=>yv n f+f n
theorem zat(f:Z1x):∀n,((List.range n).map f).sum=yv n f
 |0=>rfl
 |n+1=>by
  rw[gH,qS,List.sum_append,zat f n];simp[yv]
theorem Va(f:Z1x):∀n,((yv n f:Int):Rat)=sumTo n λi=>(f i:Rat)
 |0=>rfl
 |n+1=>by
  show((yv n f+f n:Int):Rat)=sumTo n (λi=>(f i:Rat))+(f n:Rat)
  rw[Rat.intCast_add,Va f n]
theorem Jy{f:Z1x}{B:Nat}:∀n,(∀i,i<n->(f i).natAbs<=B)->(yv n f).natAbs<=n*B
 |0,_=>by simp[yv]
 |n+1,h=>by
  have h1:=Jy n λi hi=>h i (by omega)
  have h2:=h n (by omega);show(yv n f+f n).natAbs<=_
  rw[gm];omega
end WD
namespace L2.Fu
open PySem WS WD
open PySem.Builtin.Int (intBits)
def WH(c:Ro->Option Bool)(b:RFx)(n:Nat)(ρ:Ro):wo c b (n+1) ρ=(c ρ).bind λt=>if t then (match b ρ with |some (.nx ρ')=>wo c b n ρ'|r=>r) else some (.nx ρ):=rfl
def zav{c:Ro->Option Bool}{b:RFx}{n:Nat}{ρ ρ':Ro}(h1:c ρ=some true)(h2:b ρ=some (.nx ρ')):wo c b (n+1) ρ=wo c b n ρ':=by
 rw[WH,h1,qr,qg rfl,h2]
def Ys{c:Ro->Option Bool}{b:RFx}{n:Nat}{ρ:Ro}(h1:c ρ=some false):wo c b (n+1) ρ=some (.nx ρ):=by
 rw[WH,h1,qr,qm qE]
def zq{f g:RFx}{ρ ρ':Ro}(h:f ρ=some (.nx ρ')):sq f g ρ=g ρ':=by
 unfold sq;rw[h]
def J8{f g:RFx}{ρ:Ro}{d:PdX}(h:f ρ=some (.rt d)):sq f g ρ=some (.rt d):=by
 unfold sq;rw[h]
def zl8{f g:RFx}{ρ:Ro}{d:LPd}(h:f ρ=some (.rl d)):sq f g ρ=some (.rl d):=by
 unfold sq;rw[h]
def ze7(i j:Int):PyData.eqv (.int i) (.int j)=decide (i=j):=by
 simp[PyData.eqv]
 by_cases h:i=j<;>simp[h]
def yE{i j:Int}(h:j≠0):yr (.int i) (.int j)=some (.int (i.fmod j)):=by
 show(if j≠0 then _ else _)=_
 rw[qg h]
def jg{i j:Int}(h:j≠0)(h2:j.natAbs.log2<9000):yg (.int i) (.int j)=some (.int (i.fdiv j)):=by
 show(if j≠0/\j.natAbs.log2<9000 then _ else _)=_
 rw[qg ⟨h,h2⟩]
def xf{i j:Int}(h:IntMulOk i j):yA (.int i) (.int j)=some (.int (i*j)):=by
 show(open Classical in if IntMulOk i j then _ else _)=_
 rw[qg h]
def vR(i j:Int):neD (.int i) (.int j)=some (.bool (!decide (i=j))):=by
 show(if SeqAt.shaped (.int i)=true/\SeqAt.shaped (.int j)=true then _ else _)=_
 rw[qg ⟨rfl,rfl⟩,ze7]
def wD(i j:Int):eqD (.int i) (.int j)=some (.bool (decide (i=j))):=by
 show(if SeqAt.shaped (.int i)=true/\SeqAt.shaped (.int j)=true then _ else _)=_
 rw[qg ⟨rfl,rfl⟩,ze7]
def zw{f:RPx}{ρ:Ro}{b:Bool}(h:f ρ=some (.bool b)):zA f ρ=some b:=by
 unfold zA;rw[h]
def jN{c:Ro->Option Bool}{f g:RFx}{ρ:Ro}(h:c ρ=some true):ifS c f g ρ=f ρ:=by
 unfold ifS;rw[h];rfl
def y4{c:Ro->Option Bool}{f g:RFx}{ρ:Ro}(h:c ρ=some false):ifS c f g ρ=g ρ:=by
 unfold ifS;rw[h];rfl
def zD{i:Nat}{f:RPx}{ρ:Ro}{d:PdX}(h:f ρ=some d):zO i f ρ=some (.nx (ρ.set i (.pu d))):=by
 unfold zO;rw[h];rfl
def yJ{i:Nat}{f:RLx}{ρ:Ro}{d:LPd}(h:f ρ=some d):x8 i f ρ=some (.nx (ρ.set i (.ow d))):=by
 unfold x8;rw[h];rfl
def zF{f:RPx}{ρ:Ro}{d:PdX}(h:f ρ=some d):retS f ρ=some (.rt d):=by
 unfold retS;rw[h];rfl
def jX{f:RLx}{ρ:Ro}{d:LPd}(h:f ρ=some d):UJ f ρ=some (.rl d):=by
 unfold UJ;rw[h];rfl
def zkG{f:RPx}{ρ:Ro}{d:PdX}(h:f ρ=some d):exS f ρ=some (.nx ρ):=by
 unfold exS;rw[h];rfl
def zb{h:PyData->PyData->Option PyData}{f g:RPx}{ρ:Ro}{x y:PdX}(h1:f ρ=some x)(h2:g ρ=some y):op2 h f g ρ=h x y:=by
 unfold op2;rw[h1,h2];rfl
def zk{f:RPx}{g:RLx}{ρ:Ro}{x:PdX}{xs:LPd}(h1:f ρ=some x)(h2:g ρ=some xs):aC f g ρ=some (x::xs):=by
 unfold aC;rw[h1,h2];rfl
def zc{h:LPx}{g:RLx}{ρ:Ro}{xs:LPd}(h1:g ρ=some xs):zd h g ρ=h xs:=by
 unfold zd;rw[h1];rfl
def xr{h:LLx}{g:RLx}{ρ:Ro}{xs:LPd}(h1:g ρ=some xs):xc h g ρ=h xs:=by
 unfold xc;rw[h1];rfl
def xR{g:RLx}{ρ:Ro}{xs:LPd}(h1:g ρ=some xs)(h2:xs.length<=16777216):yM g ρ=some (.tuple xs):=by
 unfold yM;rw[h1,qr,qg h2]
def zch{f g:RPx}{ρ:Ro}{x y:PdX}(h1:f ρ=some x)(h2:g ρ=some y):yM (aC f (aC g a0)) ρ=some (.tuple [x,y]):=xR (zk h1 (zk h2 rfl)) (show 2<=16777216 by decide)
def Ul{f g h:RPx}{ρ:Ro}{x y z:PdX}(h1:f ρ=some x)(h2:g ρ=some y)(h3:h ρ=some z):yM (aC f (aC g (aC h a0))) ρ=some (.tuple [x,y,z]):=xR (zk h1 (zk h2 (zk h3 rfl))) (show 3<=16777216 by decide)
def zM{n m:Nat}{b:RFx}{ds:LPd}{d:PdX}(hm:ds.length=m)(h:b (ds.map Sl.pu++List.replicate (n - m) .no)=some (.rt d)):fnF n m b ds=some d:=by
 unfold fnF;rw[qg hm,h]
def zkv{n m:Nat}{b:RFx}{ds:LPd}{ρ:Ro}(hm:ds.length=m)(h:b (ds.map Sl.pu++List.replicate (n - m) .no)=some (.nx ρ)):fnF n m b ds=some .none:=by
 unfold fnF;rw[qg hm,h]
def wY{n m:Nat}{b:RFx}{ds:LPd}{d:LPd}(hm:ds.length=m)(h:b (ds.map Sl.pu++List.replicate (n - m) .no)=some (.rl d)):fnL n m b ds=some d:=by
 unfold fnL;rw[qg hm,h]
theorem zeR:∀(n:Nat)(a b:Int)(o:Sl),b.natAbs<n->∃g o',wo (zA (op2 neD (gv 1) (cst (.int 0)))) (sq (zO 2 (op2 yr (gv 0) (gv 1))) (sq (zO 0 (gv 1)) (zO 1 (gv 2)))) n [.pu (.int a),.pu (.int b),o]=some (.nx [.pu (.int g),.pu (.int 0),o'])/\g.natAbs=Int.gcd a b
 |0,_,_,_,h=>by omega
 |n+1,a,b,o,h=>by
  by_cases hb:b=0
  ·subst hb;refine⟨a,o,?_,by rw[Int.gcd_zero_right]⟩;exact Ys (zw ((zb rfl rfl).trans (by rw[vR];rfl)))
  ·obtain⟨g,o',e1,e2⟩:=zeR n b (a.fmod b) (.pu (.int (a.fmod b))) (by have:=zax (a:=a) hb;omega);refine⟨g,o',?_,by rw[e2];exact zcT a b⟩;rw[<-e1];refine zav (zw ((zb rfl rfl).trans (by rw[vR,qF hb];rfl))) ?_;rw[zq (zD ((zb rfl rfl).trans (yE hb)))];rfl
def jS(a b:Int):yR [.int a,.int b]=some (.int (Int.gcd a b)):=by
 obtain⟨g,o',e1,e2⟩:=zeR (b.natAbs+1) a b .no (by omega);refine zM rfl ?_;refine(zq e1).trans (zF ?_);show some (PyData.int (if g<0 then -g else g))=_
 rw[<-e2];congr 2;split<;>omega
def zbu{t b:Int}(hb:b≠0)(hx:intBits b<=8999):(Int.gcd t b:Int).natAbs.log2<9000/\(-(Int.gcd t b:Int)).natAbs.log2<9000:=by
 have hg:=vZ (t:=t) hb;have h:=WQ (by omega) (zhF (t:=t) hb hx)
 rw[nK];omega
def zfa{t b:Int}(hb:b≠0)(hx:intBits b<=8999):Yl [.int t,.int b]=some (fr (Rat.divInt t b)):=by
 have hg:=vZ (t:=t) hb;obtain⟨l1,l2⟩:=zbu (t:=t) hb hx;refine zM rfl ?_;refine(zq (zD ((zc rfl).trans (jS t b)))).trans ?_;by_cases h:b<0
 ·refine(zq (ρ':=[.pu (.int t),.pu (.int b),.pu (.int (-(Int.gcd t b:Int)))]) ?_).trans ?_
  ·rw[jN (zw (show _=some (PyData.bool true) from qG some (qG PyData.bool (qy h))))];rfl
  ·refine zF (zch ((zb rfl rfl).trans (jg (by omega) l2)) ((zb rfl rfl).trans (jg (by omega) l2))) |>.trans ?_;have hc:-(Int.gcd t b:Int)=(if b<0 then -(Int.gcd t b:Int) else (Int.gcd t b:Int)):=by rw[qg h]
   rw[zbD hb hc,zaY hb hc];rfl
 ·refine(zq (ρ':=[.pu (.int t),.pu (.int b),.pu (.int (Int.gcd t b:Int))]) ?_).trans ?_
  ·rw[y4 (zw (show _=some (PyData.bool false) from qG some (qG PyData.bool (qF h))))];rfl
  ·refine zF (zch ((zb rfl rfl).trans (jg (by omega) l1)) ((zb rfl rfl).trans (jg (by omega) l1))) |>.trans ?_;have hc:(Int.gcd t b:Int)=(if b<0 then -(Int.gcd t b:Int) else (Int.gcd t b:Int)):=by rw[qm h]
   rw[zbD hb hc,zaY hb hc];rfl
theorem zcZ:∀(n:Nat)(t b0 a b:Int)(o:Sl),0<=a->0<=b->b.natAbs<n->∃g o',wo (zA (op2 gtI (gv 3) (cst (.int 0)))) (sq (zO 4 (op2 yr (gv 2) (gv 3))) (sq (zO 2 (gv 3)) (zO 3 (gv 4)))) n [.pu (.int t),.pu (.int b0),.pu (.int a),.pu (.int b),o]=some (.nx [.pu (.int t),.pu (.int b0),.pu (.int g),.pu (.int 0),o'])/\g=(Int.gcd a b:Int)
 |0,_,_,_,_,_,_,_,h=>by omega
 |n+1,t,b0,a,b,o,ha,hb0,h=>by
  by_cases hb:b=0
  ·subst hb;refine⟨a,o,?_,by rw[Int.gcd_zero_right];omega⟩;exact Ys (zw (show _=some (PyData.bool false) from rfl))
  ·obtain⟨g,o',e1,e2⟩:=zcZ n t b0 b (a.fmod b) (.pu (.int (a.fmod b))) hb0 (mr a (by omega)) (by have:=zax (a:=a) hb;omega);refine⟨g,o',?_,by rw[e2,zcT a b]⟩;rw[<-e1];refine zav (zw (show _=some (PyData.bool true) from qG some (qG PyData.bool (qy (show(0:Int)<b by omega))))) ?_;rw[zq (zD ((zb rfl rfl).trans (yE hb)))];rfl
def j8{t b:Int}(hb:0<b)(hx:intBits b<=8999):vW [.int t,.int b]=some (fr (Rat.divInt t b)):=by
 have hb0:b≠0:=by omega
 obtain⟨l1,l2⟩:=zbu (t:=t) hb0 hx;have hg:=vZ (t:=t) hb0;have ea:(Int.gcd (if t<0 then -t else t) b:Int)=(Int.gcd t b:Int):=by
  split
  ·rw[Int.neg_gcd]
  ·rfl
 obtain⟨g,o',e1,e2⟩:=zcZ (b.natAbs+1) t b (if t<0 then -t else t) b .no (by split<;>omega) (by omega) (by omega);rw[ea] at e2;subst e2;refine zM rfl ?_;refine(zq (ρ':=[.pu (.int t),.pu (.int b),.pu (.int (if t<0 then -t else t)),.no,.no]) rfl).trans ((zq (ρ':=[.pu (.int t),.pu (.int b),.pu (.int (if t<0 then -t else t)),.pu (.int b),.no]) rfl).trans ((zq e1).trans ?_));refine zF (zch ((zb rfl rfl).trans (jg (by omega) l1)) ((zb rfl rfl).trans (jg (by omega) l1))) |>.trans ?_;have hc:(Int.gcd t b:Int)=(if b<0 then -(Int.gcd t b:Int) else (Int.gcd t b:Int)):=by rw[qm (by omega)]
 rw[zbD hb0 hc,zaY hb0 hc];rfl
def ix0(q:Rat):ixD (fr q) (.int 0)=some (.int q.num):=rfl
def ix1(q:Rat):ixD (fr q) (.int 1)=some (.int (q.den:Int)):=rfl
def vC(q r:Rat):0<(q.den:Int)*(r.den:Int):=Int.mul_pos (Vr q) (Vr r)
def zbo{q r:Rat}(hq:Bq 4000 q)(hr:Bq 4000 r):intBits ((q.den:Int)*(r.den:Int))<=8999:=qB (ng hq.d hr.d) (by decide)
def wJ{q r:Rat}(hq:Bq 4000 q)(hr:Bq 4000 r):xu [fr q,fr r]=some (fr (q+r)):=by
 have⟨m1,m2,m3,m4,m5⟩:=YX hq hr;refine zM rfl (zF ?_);have e1:op2 yA (op2 ixD (gv 0) (cst (.int 0))) (op2 ixD (gv 1) (cst (.int 1))) [.pu (fr q),.pu (fr r)]=some (.int (q.num*(r.den:Int))):=(zb (ix0 q) (ix1 r)).trans (xf m1);have e2:op2 yA (op2 ixD (gv 1) (cst (.int 0))) (op2 ixD (gv 0) (cst (.int 1))) [.pu (fr q),.pu (fr r)]=some (.int (r.num*(q.den:Int))):=(zb (ix0 r) (ix1 q)).trans (xf m2)
 have e3:op2 yA (op2 ixD (gv 0) (cst (.int 1))) (op2 ixD (gv 1) (cst (.int 1))) [.pu (fr q),.pu (fr r)]=some (.int ((q.den:Int)*(r.den:Int))):=(zb (ix1 q) (ix1 r)).trans (xf m3);refine(zc (zk ((zb e1 e2).trans rfl) (zk e3 rfl))).trans ?_;rw[j8 (vC q r) (zbo hq hr),zcO]
def uQ{q r:Rat}(hq:Bq 4000 q)(hr:Bq 4000 r):yC [fr q,fr r]=some (fr (q*r)):=by
 have⟨m1,m2,m3,m4,m5⟩:=YX hq hr;refine zM rfl (zF ?_);have e1:op2 yA (op2 ixD (gv 0) (cst (.int 0))) (op2 ixD (gv 1) (cst (.int 0))) [.pu (fr q),.pu (fr r)]=some (.int (q.num*r.num)):=(zb (ix0 q) (ix0 r)).trans (xf m4);have e3:op2 yA (op2 ixD (gv 0) (cst (.int 1))) (op2 ixD (gv 1) (cst (.int 1))) [.pu (fr q),.pu (fr r)]=some (.int ((q.den:Int)*(r.den:Int))):=(zb (ix1 q) (ix1 r)).trans (xf m3)
 refine(zc (zk e1 (zk e3 rfl))).trans ?_;rw[j8 (vC q r) (zbo hq hr),U1]
def zgM{q r:Rat}(hq:Bq 4000 q)(hr:Bq 4000 r):zaS [fr q,fr r]=some (fr (q*r)):=by
 have⟨m1,m2,m3,m4,m5⟩:=YX hq hr;refine zM rfl (zF ?_);have e1:op2 yA (op2 ixD (gv 0) (cst (.int 0))) (op2 ixD (gv 1) (cst (.int 0))) [.pu (fr q),.pu (fr r)]=some (.int (q.num*r.num)):=(zb (ix0 q) (ix0 r)).trans (xf m4);have e3:op2 yA (op2 ixD (gv 0) (cst (.int 1))) (op2 ixD (gv 1) (cst (.int 1))) [.pu (fr q),.pu (fr r)]=some (.int ((q.den:Int)*(r.den:Int))):=(zb (ix1 q) (ix1 r)).trans (xf m3)
 refine(zc (zk e1 (zk e3 rfl))).trans ?_;rw[zfa (Int.ne_of_gt (vC q r)) (zbo hq hr),U1]
def Sk(k:Nat)(q:Rat):Prop:=InB (6 ^ k) (2 ^ (8*k)) q
def xt(k:Nat):0<6 ^ k:=Nat.pow_pos (by decide)
def Sk.mono{k l:Nat}{q:Rat}(h:Sk k q)(hl:k<=l):Sk l q:=by
 obtain⟨d,rfl⟩:=pY hl;have h1:=InB.up h (c:=6 ^ d) (xt d);unfold Sk;rw[gx];refine h1.mono ?_;have e:2 ^ (8*(k+d))=2 ^ (8*k)*256 ^ d:=by
  rw[nH,gx,pz 2 8 d]
 rw[e];exact mQ _ (gC (by decide) d)
def Sk.mul{k l:Nat}{q r:Rat}(h:Sk k q)(h':Sk l r):Sk (k+l) (q*r):=by
 have:=InB.mul h h';unfold Sk;rw[gx,nH,gx];exact this
def Sk.sum{k n:Nat}{f:Q1x}(hn:n<=42)(h:∀i,i<n->Sk k (f i)):Sk (k+1) (sumTo n f):=by
 have h1:=J5 (f:=f) (xt k) n h;have h2:=InB.up h1 (c:=6) (by decide)
 unfold Sk;rw[Nat.pow_succ];refine h2.mono ?_;have e:2 ^ (8*(k+1))=2 ^ (8*k)*256:=by rw[nH,gx]
 rw[e,gR n,Nat.mul_assoc];exact mQ _ (by omega)
def Sk.add{k:Nat}{q r:Rat}(h:Sk k q)(h':Sk k r):Sk (k+1) (q+r):=by
 have h2:=InB.up (InB.add h h') (c:=6) (by decide);unfold Sk;rw[Nat.pow_succ];refine h2.mono ?_;have e:2 ^ (8*(k+1))=2 ^ (8*k)*256:=by rw[nH,gx]
 rw[e];omega
def Sk.bq{k:Nat}{q:Rat}(h:Sk k q)(hk:k<=400):Bq 4000 q:=by
 refine InB.bq h ?_ (Sz.zb0 (by omega));refine Sz.mono (n:=2 ^ (3*k)) ?_ (Sz.zb0 (by omega));rw[pz];exact gC (by decide) k
theorem zg2{bd:PyData->Ro->Option Ro}{b:RFx}:∀{ds:LPd} {ρ0:Ro} (P:Nat->Ro->Prop),P 0 ρ0->
  (∀i d ρ,ds[i]?=some d->P i ρ->∃ρ1 ρ2,bd d ρ=some ρ1/\b ρ1=some (.nx ρ2)/\P (i+1) ρ2)->∃ρ',Ym bd b ds ρ0=some (.nx ρ')/\P ds.length ρ'
 |[],ρ0,P,h0,_=>⟨ρ0,rfl,h0⟩
 |d::r,ρ0,P,h0,h=>by
  have⟨ρ1,ρ2,e1,e2,p⟩:=h 0 d ρ0 rfl h0;obtain⟨ρ',e3,p'⟩:=zg2 (ds:=r) (ρ0:=ρ2) (λi=>P (i+1)) p λi d ρ e q=>h (i+1) d ρ (by simpa using e) q
  refine⟨ρ',?_,p'⟩;show((bd d ρ0).bind λρ1=>match b ρ1 with |some (.nx ρ')=>Ym bd b r ρ'|r=>r)=_
  rw[e1,qr,e2];exact e3
def w8{it:RLx}{bd:PyData->Ro->Option Ro}{b:RFx}{ds:LPd}{ρ0:Ro}(P:Nat->Ro->Prop)(hi:it ρ0=some ds)(h0:P 0 ρ0)(h:∀i d ρ,ds[i]?=some d->P i ρ->∃ρ1 ρ2,bd d ρ=some ρ1/\b ρ1=some (.nx ρ2)/\P (i+1) ρ2):∃ρ',jv it bd b ρ0=some (.nx ρ')/\P ds.length ρ':=by
 have⟨ρ',e,p⟩:=zg2 P h0 h;refine⟨ρ',?_,p⟩;unfold jv;rw[hi];exact e
def Vw{g:RLx}{ρ:Ro}{n:Nat}(h:g ρ=some [.int n])(hn:n<4611686018427387904):xl g ρ=some (jP 0 n):=by
 unfold xl;rw[h];show(if -(2 ^ 62)<=(n:Int)/\(n:Int)<2 ^ 62 then _ else _)=_
 rw[qg (by constructor<;>omega),kq]
def zeN{n i:Nat}{d:PdX}(h:(jP 0 n)[i]?=some d):i<n/\d=.int (i:Int):=by
 have⟨h1,h2⟩:=UW h;rw[Int.zero_add] at h2;exact⟨h1,h2⟩
def u3{g:RLx}{bd:PyData->Ro->Option Ro}{b:RFx}{n:Nat}{ρ0:Ro}(P:Nat->Ro->Prop)(hg:g ρ0=some [.int n])(hn:n<4611686018427387904)(h0:P 0 ρ0)(h:∀i ρ,i<n->P i ρ->∃ρ1 ρ2,bd (.int (i:Int)) ρ=some ρ1/\b ρ1=some (.nx ρ2)/\P (i+1) ρ2):∃ρ',jv (xl g) bd b ρ0=some (.nx ρ')/\P n ρ':=by
 have:=w8 P (Vw hg hn) h0 (bd:=bd) (b:=b) λi d ρ e p=>by
  obtain⟨h1,rfl⟩:=zeN e;exact h i ρ h1 p
 rw[zb4] at this;exact this
def qd(t:Bool)(n:Nat)(f:Q1x):PyData:=match t with |true=>yy n f|false=>yx n f
def Yy(t:Bool)(n:Nat)(f:Q1x):yb [qd t n f]=some (.int n):=by
 cases t
 ·show some (PyData.int ((((List.range n).map λi=>fr (f i)).length:Nat):Int))=_
  simp
 ·show some (PyData.int ((((List.range n).map λi=>fr (f i)).length:Nat):Int))=_
  simp
def UU{d:Nat->PyData}{n i:Nat}(h:i<n):atI ((List.range n).map d) (i:Int)=some (d i):=UZ (WD.get_map h)
def Vz{t:Bool}{n i:Nat}{f:Q1x}(h:i<n):ixD (qd t n f) (.int (i:Int))=some (fr (f i)):=by
 cases t<;>exact UU h
def zkA{n i:Nat}{f:Q2x}(h:i<n):ixD (xy n f) (.int (i:Int))=some (yy n (f i)):=UU h
def Yw{n s i:Nat}{f:Q3x}(h:i<s):ixD (zbE n s f) (.int (i:Int))=some (xy n (f i)):=UU h
def Ut{t u:Bool}{n k:Nat}{f g:Q1x}(hn:n<=42)(hk:k<=399)(hf:∀i,i<n->Bq 4000 (f i)/\Bq 4000 (g i)/\Sk k (f i*g i)):jq [qd t n f,qd u n g]=some (fr (sumTo n λi=>f i*g i)):=by
 refine zM rfl ?_;refine(zq (ρ':=[.pu (qd t n f),.pu (qd u n g),.pu (fr 0),.no]) rfl).trans ?_;obtain⟨ρ',e,o,rfl⟩:=u3 (n:=n) (g:=aC (zd yb (aC (gv 0) a0)) a0) (bd:=bN 3)
  (b:=zO 2 (zd xu (aC (gv 2) (aC (zd yC (aC (op2 ixD (gv 0) (gv 3)) (aC (op2 ixD (gv 1) (gv 3)) a0))) a0))))
  (ρ0:=[.pu (qd t n f),.pu (qd u n g),.pu (fr 0),.no])
  (λi ρ=>∃o,ρ=[.pu (qd t n f),.pu (qd u n g),.pu (fr (sumTo i λi=>f i*g i)),o]) (zk ((zc rfl).trans (Yy t n f)) rfl) (by omega) ⟨.no,rfl⟩
  λi ρ hi ⟨o,e⟩=>by
   subst e;refine⟨_,_,rfl,zD ?_,.pu (.int (i:Int)),rfl⟩;refine(zc (zk rfl (zk ((zc (zk ((zb rfl rfl).trans (Vz hi)) (zk ((zb rfl rfl).trans (Vz hi)) rfl))).trans (uQ (hf i hi).1 (hf i hi).2.1)) rfl))).trans ?_;exact wJ ((Sk.sum (k:=k) (by omega) λj hj=>(hf j (by omega)).2.2).bq (by omega)) ((hf i hi).2.2.bq (by omega))
 exact(zq e).trans (zF rfl)
def yN(c:Int){m:Nat}(hm:0<m):∃r:Nat,r<m/\c.fmod (m:Int)=(r:Int):=by
 have h1:=mr c (b:=(m:Int)) (by omega);have h2:=nV c (b:=(m:Int)) (by omega)
 exact⟨(c.fmod (m:Int)).toNat,by omega,by omega⟩
def ym{i:Int}{j:Nat}(h:0<j)(h2:j<1073741824):yg (.int i) (.int (j:Int))=some (.int (i.fdiv (j:Int))):=by
 refine jg (by omega) ?_;rw[kE];exact pf ((pD (by omega)).mpr (show j<2 ^ 30 by omega)) (by decide)
def zdO{j:Nat}(h:j<1073741824):intBits (j:Int)<=30:=j4 (show j<2 ^ 30 by omega)
def Fq(q:Rat):Prop:=InB 6 32 q
def Fq.zero:Fq 0:=InB.zero (by decide)
def Fq.sk{q:Rat}(h:Fq q):Sk 1 q:=InB.mono h (by decide)
def Fq.small{t:Int}{b:Nat}(ht:t.natAbs<=5)(hb:b=1\/b=2\/b=3\/b=6):Fq (Rat.divInt t (b:Int)):=by
 have key:∀c:Nat,b*c=6->c<=6->0<b->Fq (Rat.divInt t (b:Int)):=λc hc h6 hb0=>by
  refine⟨by decide,t*(c:Int),?_,?_⟩
  ·have hb':(b:Rat)≠0:=jh hb0;rw[nZ,kd,<-hc,mJ,kj,kj]
   have:=g6 (a:=(t:Rat)) hb';rw[<-Rat.mul_assoc,this]
  ·rw[q9,kE];exact qB (km ht h6) (by decide)
 rcases hb with rfl|rfl|rfl|rfl
 ·exact key 6 rfl (by decide) (by decide)
 ·exact key 3 rfl (by decide) (by decide)
 ·exact key 2 rfl (by decide) (by decide)
 ·exact key 1 rfl (by decide) (by decide)
def wk(c:Int):∃q,xa [.int c]=some (fr q)/\Fq q:=by
 obtain⟨r,hr,er⟩:=yN c (m:=9) (by decide);obtain⟨u,hu,eu⟩:=yN (c.fdiv 9) (m:=5) (by decide);obtain⟨b,hb,eb⟩:∃b:Nat,(b=1\/b=2\/b=3\/b=6)/\atI [PyData.int 1,.int 1,.int 2,.int 1,.int 3] (u:Int)=some (.int (b:Int)):=by
  have:u=0\/u=1\/u=2\/u=3\/u=4:=by omega
  rcases this with rfl|rfl|rfl|rfl|rfl
  ·exact⟨1,.inl rfl,rfl⟩
  ·exact⟨1,.inl rfl,rfl⟩
  ·exact⟨2,.inr (.inl rfl),rfl⟩
  ·exact⟨1,.inl rfl,rfl⟩
  ·exact⟨3,.inr (.inr (.inl rfl)),rfl⟩
 refine⟨Rat.divInt ((r:Int) - 4) (b:Int),zM rfl (zF ?_),Fq.small (by omega) hb⟩;have e1:op2 Wk (op2 yr (gv 0) (cst (.int 9))) (cst (.int 4)) [.pu (.int c)]=some (.int ((r:Int) - 4)):=by
  rw[<-er];exact(zb ((zb rfl rfl).trans (yE (by decide))) rfl).trans rfl
 have e2:op2 yr (op2 yg (gv 0) (cst (.int 9))) (cst (.int 5)) [.pu (.int c)]=some (.int (u:Int)):=by
  rw[<-eu];exact(zb ((zb rfl rfl).trans (ym (j:=9) (by decide) (by decide))) rfl).trans (yE (by decide))
 refine(zc (zk e1 (zk ((zb rfl e2).trans eb) rfl))).trans ?_;refine j8 (by omega) (qB (zdO (by omega)) (by decide))
def JK{i:Int}{j:Nat}(h:j<18446744073709551616):yA (.int i) (.int (j:Int))=some (.int (i*(j:Int))):=xf (IntMulOk.of_right (intBits_le_64 (by omega) (by omega)))
def zj4{j:Int}{i:Nat}(h:i<18446744073709551616):yA (.int (i:Int)) (.int j)=some (.int ((i:Int)*j)):=xf (IntMulOk.of_left (intBits_le_64 (by omega) (by omega)))
def Z4(d:Nat->PyData){N lo m:Nat}(h:lo+m<=N):cut ((List.range N).map d) (some (lo:Int)) (some ((lo+m:Nat):Int))=(List.range m).map λi=>d (lo+i):=by
 unfold cut;rw[HT.za9,HT.za9,qe,qu,mM (show lo<=N by omega),mM h];refine gL λi=>?_
 rw[List.getElem?_take,List.getElem?_drop,qp,qp];by_cases hi:i<m
 ·rw[qg (by omega),ka (by omega),ka hi];rfl
 ·rw[qm (by omega),kH (by simpa using kh hi)];rfl
def zdC(d:Nat->PyData){N m:Nat}(h:m<=N):cut ((List.range N).map d) none (some (m:Int))=(List.range m).map d:=by
 unfold cut;rw[HT.za9,HT.zf8,qe,qu,mM h];refine gL λi=>?_
 rw[List.getElem?_take,List.getElem?_drop,qp,qp];by_cases hi:i<m
 ·rw[qg (by omega),ka (by omega),ka hi,mi]
 ·rw[qm (by omega),kH (by simpa using kh hi)];rfl
def UN(d:Nat->PyData)(n:Nat):(List.range n).map d++[d n]=(List.range (n+1)).map d:=by
 rw[gH,qS];rfl
def list_range(qs:List Rat):qs.map fr=(List.range qs.length).map λi=>fr (qs.getD i 0):=by
 refine gL λi=>?_
 rw[qp,qp];by_cases hi:i<qs.length
 ·rw[ka hi,qo hi];simp[hi]
 ·rw[kH (by omega),kH (by simpa using kh hi)];rfl
def JI{i:Nat}{f:RPx}{ρ:Ro}{ds:LPd}{d:PdX}(h1:gk i ρ=some ds)(h2:f ρ=some d)(h3:ds.length<16777216):apS i f ρ=some (.nx (ρ.set i (.ow (ds++[d])))):=by
 unfold apS;rw[h1,qr,h2,qr,qg h3]
def zjI{c:Ro->Option Bool}{f g:RPx}{ρ:Ro}(h:c ρ=some true):ifE c f g ρ=f ρ:=by
 unfold ifE;rw[h];rfl
def zjH{c:Ro->Option Bool}{f g:RPx}{ρ:Ro}(h:c ρ=some false):ifE c f g ρ=g ρ:=by
 unfold ifE;rw[h];rfl
def zd1{f:RPx}{l h:Ro->Option (Option Int)}{ρ:Ro}{ds:LPd}{lo hi:Option Int}(h1:f ρ=some (.list ds))(h2:l ρ=some lo)(h3:h ρ=some hi):slL f l h ρ=some (cut ds lo hi):=by
 unfold slL;rw[h1];show((l ρ).bind λlo=>(h ρ).bind λhi=>some (cut ds lo hi))=_
 rw[h2,qr,h3];rfl
def zbN{f:RPx}{ρ:Ro}{i:Int}(h:f ρ=some (.int i)):oS f ρ=some (some i):=by
 unfold oS;rw[h]
def yj{f:RLx}{ρ:Ro}{ds:LPd}(h:f ρ=some ds):yB f ρ=some (.list ds):=by
 unfold yB;rw[h];rfl
structure Mach(n s:Nat)(fi:Q1x)(st:Q3x)(la:Q1x)(k:Nat):Prop where
 fi:∀a,a<n->Sk k (fi a)
 st:∀g a b,g<s->a<n->b<n->Sk k (st g a b)
 la:∀a,a<n->Sk k (la a)
structure Z1(n s:Nat)(fi:Q1x)(st:Q3x)(la:Q1x):Prop where
 fi:∀a,a<n->Fq (fi a)
 st:∀g a b,g<s->a<n->b<n->Fq (st g a b)
 la:∀a,a<n->Fq (la a)
def vx(c:Int){n s:Nat}(hn:n<=42)(hs:s<=42):∃fi st la,yZ [.int c,.int (n:Int),.int (s:Int)]=some (zm n s fi st la)/\Z1 n s fi st la:=by
 have htot:n*(2+n*s)<=42*(2+42*42):=km hn (Nat.add_le_add_left (km hn hs) 2);have h0:vt ([.int c,.int (n:Int),.int (s:Int)].map Sl.pu++List.replicate (10 - 3) .no)=vt [.pu (.int c),.pu (.int (n:Int)),.pu (.int (s:Int)),.no,.no,.no,.no,.no,.no,.no]:=rfl
 obtain⟨ρ1,e1,c1,o1,qs,l1,q1,rfl⟩:=u3 (n:=n*(2+n*s)) (g:=aC (op2 yA (gv 1) (op2 xb (cst (.int 2)) (op2 yA (gv 1) (gv 2)))) a0) (bd:=bN 4)
  (b:=sq (zO 0 (op2 yr (op2 xb (op2 yA (gv 0) (cst (.int 48271))) (cst (.int 29))) (cst (.int 2147483647))))
   (apS 3 (ifE (zA (op2 eqD (op2 yr (op2 yg (gv 0) (cst (.int 11))) (cst (.int 3))) (cst (.int 0)))) (yM (aC (cst (.int 0)) (aC (cst (.int 1)) a0))) (zd xa (aC (op2 yg (gv 0) (cst (.int 33))) a0)))))
  (ρ0:=[.pu (.int c),.pu (.int (n:Int)),.pu (.int (s:Int)),.ow [],.no,.no,.no,.no,.no,.no])
  (λi ρ=>∃(c':Int)(o:Sl)(qs:List Rat),qs.length=i/\(∀x∈qs,Fq x)/\ρ=[.pu (.int c'),.pu (.int (n:Int)),.pu (.int (s:Int)),.ow (qs.map fr),o,.no,.no,.no,.no,.no])
  (zk (by
   refine(zb rfl ((zb rfl ((zb rfl rfl).trans (JK (j:=s) (by omega)))).trans rfl)).trans ((zj4 (i:=n) (by omega)).trans ?_);simp only [mP,pK];rfl) rfl) (by omega) ⟨c,.no,[],rfl,(λx h=>by cases h),rfl⟩
  λi ρ hi ⟨c',o,qs,l,q,e⟩=>by
   subst e;have e1:zO 0 (op2 yr (op2 xb (op2 yA (gv 0) (cst (.int 48271))) (cst (.int 29))) (cst (.int 2147483647))) [.pu (.int c'),.pu (.int (n:Int)),.pu (.int (s:Int)),.ow (qs.map fr),.pu (.int (i:Int)),.no,.no,.no,.no,.no]=some (.nx [.pu (.int ((c'*48271+29).fmod 2147483647)),.pu (.int (n:Int)),.pu (.int (s:Int)),.ow (qs.map fr),.pu (.int (i:Int)),.no,.no,.no,.no,.no]):=zD ((zb ((zb ((zb rfl rfl).trans (JK (j:=48271) (by omega))) rfl).trans rfl) rfl).trans (yE (by decide)));generalize (c'*48271+29).fmod 2147483647=c2 at e1;obtain⟨x,hx,ex⟩:∃x,Fq x/\ifE (zA (op2 eqD (op2 yr (op2 yg (gv 0) (cst (.int 11))) (cst (.int 3))) (cst (.int 0)))) (yM (aC (cst (.int 0)) (aC (cst (.int 1)) a0))) (zd xa (aC (op2 yg (gv 0) (cst (.int 33))) a0)) [.pu (.int c2),.pu (.int (n:Int)),.pu (.int (s:Int)),.ow (qs.map fr),.pu (.int (i:Int)),.no,.no,.no,.no,.no]=some (fr x):=by
    have et:∀ρ:Ro,gv 0 ρ=some (.int c2)->zA (op2 eqD (op2 yr (op2 yg (gv 0) (cst (.int 11))) (cst (.int 3))) (cst (.int 0))) ρ=some (decide ((c2.fdiv 11).fmod 3=0)):=λρ h=>
     zw ((zb ((zb ((zb h rfl).trans (ym (j:=11) (by decide) (by decide))) rfl).trans (yE (by decide))) rfl).trans (wD _ _))
    by_cases hz:(c2.fdiv 11).fmod 3=0
    ·refine⟨0,Fq.zero,?_⟩;rw[zjI ((et _ rfl).trans (by rw[qy hz]))];rfl
    ·obtain⟨x,ex,hx⟩:=wk (c2.fdiv 33);refine⟨x,hx,?_⟩;rw[zjH ((et _ rfl).trans (by rw[qF hz]))];exact(zc (zk ((zb rfl rfl).trans (ym (j:=33) (by decide) (by decide))) rfl)).trans ex
   refine⟨_,_,rfl,(zq e1).trans (JI rfl ex (by rw[qe,l];omega)),c2,.pu (.int (i:Int)),qs++[x],by simp[l],λy hy=>?_,by rw[qS];rfl⟩;rcases qt.mp hy with h|h
   ·exact q y h
   ·have:y=x:=by simpa using h
    rw[this];exact hx
 have hQ:∀i,Fq (qs.getD i 0):=λi=>by
  by_cases hi:i<qs.length
  ·have:qs.getD i 0=qs[i]:=by simp[hi]
   rw[this];exact q1 _ (mD hi)
  ·have:qs.getD i 0=0:=by simp[kh hi]
   rw[this];exact Fq.zero
 rw[list_range qs,l1] at e1;generalize hQe:(λi=>qs.getD i 0)=Q at e1;have hQ':∀i,Fq (Q i):=λi=>by rw[<-hQe];exact hQ i
 have e1':(List.map (λi=>fr (qs.getD i 0)) (List.range (n*(2+n*s))))=(List.range (n*(2+n*s))).map λi=>fr (Q i):=by
  rw[<-hQe]
 rw[e1'] at e1;have hfin:∀x,x<=s*n->2*n+x*n<=n*(2+n*s):=λx hx=>by
  have:x*n<=s*n*n:=kW n hx;have e:n*(2+n*s)=2*n+s*n*n:=by
   rw[nH,gR n 2,gR n (n*s),gR n s]
  omega
 obtain⟨ρ2,e2,o2,o3,o4,o5,rfl⟩:=u3 (n:=s) (g:=aC (gv 2) a0) (bd:=bN 6)
  (b:=sq (x8 7 (vL a0)) (sq (jv (xl (aC (gv 1) a0)) (bN 8) (sq (zO 9 (op2 xb (op2 yA (cst (.int 2)) (gv 1)) (op2 yA (op2 xb (op2 yA (gv 6) (gv 1)) (gv 8)) (gv 1))))
   (apS 7 (zd zX (aC (yB (slL (gb 3) (oS (gv 9)) (oS (op2 xb (gv 9) (gv 1))))) a0))))) (apS 5 (zd zX (aC (gb 7) a0)))))
  (ρ0:=[.pu (.int c1),.pu (.int (n:Int)),.pu (.int (s:Int)),.ow ((List.range (n*(2+n*s))).map λi=>fr (Q i)),o1,.ow [],.no,.no,.no,.no])
  (λi ρ=>∃o2 o3 o4 o5,ρ=[.pu (.int c1),.pu (.int (n:Int)),.pu (.int (s:Int)),.ow ((List.range (n*(2+n*s))).map λi=>fr (Q i)),o1,.ow ((List.range i).map λg=>xy n λa b=>Q (2*n+(g*n+a)*n+b)),o2,o3,o4,o5])
  (zk rfl rfl) (by omega) ⟨.no,.no,.no,.no,rfl⟩
  λg ρ hg ⟨o2,o3,o4,o5,e⟩=>by
   subst e;obtain⟨ρ3,e3,o6,o7,rfl⟩:=u3 (n:=n) (g:=aC (gv 1) a0) (bd:=bN 8)
    (b:=sq (zO 9 (op2 xb (op2 yA (cst (.int 2)) (gv 1)) (op2 yA (op2 xb (op2 yA (gv 6) (gv 1)) (gv 8)) (gv 1))))
     (apS 7 (zd zX (aC (yB (slL (gb 3) (oS (gv 9)) (oS (op2 xb (gv 9) (gv 1))))) a0))))
    (ρ0:=[.pu (.int c1),.pu (.int (n:Int)),.pu (.int (s:Int)),.ow ((List.range (n*(2+n*s))).map λi=>fr (Q i)),o1,.ow ((List.range g).map λg=>xy n λa b=>Q (2*n+(g*n+a)*n+b)),.pu (.int (g:Int)),.ow [],o4,o5])
    (λa ρ=>∃o6 o7,ρ=[.pu (.int c1),.pu (.int (n:Int)),.pu (.int (s:Int)),.ow ((List.range (n*(2+n*s))).map λi=>fr (Q i)),o1,.ow ((List.range g).map λg=>xy n λa b=>Q (2*n+(g*n+a)*n+b)),.pu (.int (g:Int)),.ow ((List.range a).map λa=>yy n λb=>Q (2*n+(g*n+a)*n+b)),o6,o7])
    (zk rfl rfl) (by omega) ⟨o4,o5,rfl⟩
    λa ρ ha ⟨o6,o7,e⟩=>by
     subst e;have hlt:2*n+(g*n+a)*n+n<=n*(2+n*s):=by
      have h1:g*n+a+1<=s*n:=by
       have h2:(g+1)*n<=s*n:=kW n hg;have h3:(g+1)*n=g*n+n:=gm _ _
       omega
      have h2:=hfin (g*n+a+1) h1;have h3:(g*n+a+1)*n=(g*n+a)*n+n:=gm _ _
      omega
     have hgn:g*n+a<18446744073709551616:=by
      have:g*n<=42*42:=km (by omega) hn;omega
     have e4:op2 xb (op2 yA (cst (.int 2)) (gv 1)) (op2 yA (op2 xb (op2 yA (gv 6) (gv 1)) (gv 8)) (gv 1)) [.pu (.int c1),.pu (.int (n:Int)),.pu (.int (s:Int)),.ow ((List.range (n*(2+n*s))).map λi=>fr (Q i)),o1,.ow ((List.range g).map λg=>xy n λa b=>Q (2*n+(g*n+a)*n+b)),.pu (.int (g:Int)),.ow ((List.range a).map λa=>yy n λb=>Q (2*n+(g*n+a)*n+b)),.pu (.int (a:Int)),o7]
       =some (.int ((2*n+(g*n+a)*n:Nat):Int)):=by
      have m1:op2 yA (cst (.int 2)) (gv 1) [.pu (.int c1),.pu (.int (n:Int)),.pu (.int (s:Int)),.ow ((List.range (n*(2+n*s))).map λi=>fr (Q i)),o1,.ow ((List.range g).map λg=>xy n λa b=>Q (2*n+(g*n+a)*n+b)),.pu (.int (g:Int)),.ow ((List.range a).map λa=>yy n λb=>Q (2*n+(g*n+a)*n+b)),.pu (.int (a:Int)),o7]=some (.int ((2*n:Nat):Int)):=by
       refine(zb rfl rfl).trans ((JK (j:=n) (by omega)).trans ?_);rw[mP];rfl
      have m2:op2 xb (op2 yA (gv 6) (gv 1)) (gv 8) [.pu (.int c1),.pu (.int (n:Int)),.pu (.int (s:Int)),.ow ((List.range (n*(2+n*s))).map λi=>fr (Q i)),o1,.ow ((List.range g).map λg=>xy n λa b=>Q (2*n+(g*n+a)*n+b)),.pu (.int (g:Int)),.ow ((List.range a).map λa=>yy n λb=>Q (2*n+(g*n+a)*n+b)),.pu (.int (a:Int)),o7]=some (.int ((g*n+a:Nat):Int)):=by
       refine(zb ((zb rfl rfl).trans (JK (j:=n) (by omega))) rfl).trans ?_;rw[pK,mP];rfl
      refine(zb m1 ((zb m2 rfl).trans (JK (j:=n) (by omega)))).trans ?_;rw[<-Int.natCast_mul];show some (PyData.int _)=_
      rw[<-Int.natCast_add]
     refine⟨_,_,rfl,(zq (zD e4)).trans (JI (d:=yy n λb=>Q (2*n+(g*n+a)*n+b)) rfl ?_ (by rw[qe,qu];omega)),.pu (.int (a:Int)),.pu (.int ((2*n+(g*n+a)*n:Nat):Int)),?_⟩
     ·refine(zc (zk (yj (zd1 rfl (zbN rfl) (zbN (i:=((2*n+(g*n+a)*n+n:Nat):Int)) ?_))) rfl)).trans ?_
      ·show some (PyData.int (((2*n+(g*n+a)*n:Nat):Int)+(n:Int)))=_
       rw[<-Int.natCast_add]
      ·rw[Z4 _ hlt];rfl
     ·rw[<-UN];rfl
   refine⟨_,_,rfl,(zq rfl).trans ((zq e3).trans (JI (d:=xy n λa b=>Q (2*n+(g*n+a)*n+b)) rfl rfl (by rw[qe,qu];omega))),.pu (.int (g:Int)),.ow ((List.range n).map λa=>yy n λb=>Q (2*n+(g*n+a)*n+b)),o6,o7,?_⟩
   ·rw[<-UN];rfl
 refine⟨λa=>Q a,λg a b=>Q (2*n+(g*n+a)*n+b),λa=>Q (n+a),zM rfl ?_,⟨λa _=>hQ' _,λg a b _ _ _=>hQ' _,λa _=>hQ' _⟩⟩;rw[h0];refine(zq (ρ':=[.pu (.int c),.pu (.int (n:Int)),.pu (.int (s:Int)),.ow [],.no,.no,.no,.no,.no,.no]) rfl).trans ((zq e1).trans ((zq (ρ':=[.pu (.int c1),.pu (.int (n:Int)),.pu (.int (s:Int)),.ow ((List.range (n*(2+n*s))).map λi=>fr (Q i)),o1,.ow [],.no,.no,.no,.no]) rfl).trans ((zq e2).trans (zF ?_))));have h2n:2*n<=n*(2+n*s):=by have:=hfin 0 (kK _);omega
 refine(Ul (x:=yy n λa=>Q a) (y:=zbE n s λg a b=>Q (2*n+(g*n+a)*n+b)) (z:=yy n λa=>Q (n+a)) ?_ ?_ ?_).trans rfl
 ·refine(zc (zk (yj (zd1 rfl rfl (zbN rfl))) rfl)).trans ?_;rw[zdC _ (by omega)];rfl
 ·rfl
 ·refine(zc (zk (yj (zd1 rfl (zbN rfl) (zbN (i:=((n+n:Nat):Int)) ?_))) rfl)).trans ?_
  ·refine(zb rfl rfl).trans ((JK (j:=n) (by omega)).trans ?_);rw[show(2:Int)*(n:Int)=((n+n:Nat):Int) by omega]
  ·rw[Z4 _ (by omega)];rfl
theorem Jr{α β:Type}{h:α->Option β}{f:α->β}:∀{xs:List α},(∀x∈xs,h x=some (f x))->wx h xs=some (xs.map f)
 |[],_=>rfl
 |x::r,hf=>by
  show(h x).bind (λy=>(wx h r).map (y::·))=_
  rw[hf x ki,qr,Jr λy hy=>hf y (qD _ hy)];rfl
theorem uD{α β γ:Type}{h:β->Option γ}{e:α->β}:∀{xs:List α},wx h (xs.map e)=wx (λx=>h (e x)) xs
 |[]=>rfl
 |x::r=>by
  show(h (e x)).bind (λy=>(wx h (r.map e)).map (y::·))=_
  rw[uD];rfl
def yi{T:Nat}{F:LNt}{fi:RLx}{b:PyData->Ro->Option Ro}{fe:RPx}{ρ:Ro}{α:Type}{xs:List α}{e d:α->PyData}(h1:fi ρ=some (xs.map e))(hl:xs.length<=16777216)(h2:∀x∈xs,(b (e x) (compEnv T F ρ)).bind fe=some (d x)):zZ T F fi b fe ρ=some (xs.map d):=by
 unfold zZ;rw[h1,qr,qg (by rw[qe];exact hl),uD];exact Jr h2
def j9{T:Nat}{F:LNt}{g:RLx}{b:PyData->Ro->Option Ro}{fe:RPx}{ρ:Ro}{n:Nat}{d:Nat->PyData}(h1:g ρ=some [.int (n:Int)])(hl:n<=16777216)(h2:∀i,i<n->(b (.int (i:Int)) (compEnv T F ρ)).bind fe=some (d i)):zZ T F (xl g) b fe ρ=some ((List.range n).map d):=by
 refine yi (xs:=List.range n) (e:=λi:Nat=>PyData.int (0+(i:Int))) (Vw h1 (by omega)) (by simpa using hl) λi hi=>?_
 rw[Int.zero_add];exact h2 i (qK.mp hi)
def Je{g:RPx}{ρ:Ro}{ds:LPd}(h:g ρ=some (.tuple ds)):yI g ρ=some ds:=by
 unfold yI;rw[h]
def vq{g:RPx}{ρ:Ro}{ds:LPd}(h:g ρ=some (.list ds)):yI g ρ=some ds:=by
 unfold yI;rw[h]
def zbZ(c:Int){s m:Nat}(hs:0<s)(hm:m<=1000)(hs2:s<=1000):∃ws:List Nat,Ja [.int c,.int (s:Int),.int (m:Int)]=some (ya ws)/\ws.length<=m/\∀g∈ws,g<s:=by
 obtain⟨r,hr,er⟩:=yN c (m:=m+1) (by omega);obtain⟨ρ1,e1,c1,o1,ws,l1,q1,rfl⟩:=u3 (n:=r) (g:=aC (op2 yr (gv 0) (op2 xb (gv 2) (cst (.int 1)))) a0) (bd:=bN 4)
  (b:=sq (zO 0 (op2 yr (op2 xb (op2 yA (gv 0) (cst (.int 48271))) (cst (.int 17))) (cst (.int 2147483647)))) (apS 3 (op2 yr (op2 yg (gv 0) (cst (.int 5))) (gv 1))))
  (ρ0:=[.pu (.int c),.pu (.int (s:Int)),.pu (.int (m:Int)),.ow [],.no])
  (λi ρ=>∃(c':Int)(o:Sl)(ws:LNt),ws.length=i/\(∀g∈ws,g<s)/\ρ=[.pu (.int c'),.pu (.int (s:Int)),.pu (.int (m:Int)),.ow (ws.map λ(g:Nat)=>PyData.int (g:Int)),o])
  (zk (by
   refine(zb rfl rfl).trans ((yE (show((m:Int)+1)≠0 by omega)).trans ?_);rw[<-er];rfl) rfl) (by omega) ⟨c,.no,[],rfl,(λx h=>by cases h),rfl⟩
  λi ρ hi ⟨c',o,ws,l,q,e⟩=>by
   subst e;have e1:zO 0 (op2 yr (op2 xb (op2 yA (gv 0) (cst (.int 48271))) (cst (.int 17))) (cst (.int 2147483647))) [.pu (.int c'),.pu (.int (s:Int)),.pu (.int (m:Int)),.ow (ws.map λ(g:Nat)=>PyData.int (g:Int)),.pu (.int (i:Int))]=some (.nx [.pu (.int ((c'*48271+17).fmod 2147483647)),.pu (.int (s:Int)),.pu (.int (m:Int)),.ow (ws.map λ(g:Nat)=>PyData.int (g:Int)),.pu (.int (i:Int))]):=zD ((zb ((zb ((zb rfl rfl).trans (JK (j:=48271) (by omega))) rfl).trans rfl) rfl).trans (yE (by decide)));generalize (c'*48271+17).fmod 2147483647=c2 at e1;obtain⟨u,hu,eu⟩:=yN (c2.fdiv 5) hs;have e2:op2 yr (op2 yg (gv 0) (cst (.int 5))) (gv 1) [.pu (.int c2),.pu (.int (s:Int)),.pu (.int (m:Int)),.ow (ws.map λ(g:Nat)=>PyData.int (g:Int)),.pu (.int (i:Int))]=some (.int (u:Int)):=by
    rw[<-eu];exact(zb ((zb rfl rfl).trans (ym (j:=5) (by decide) (by decide))) rfl).trans (yE (by omega))
   refine⟨_,_,rfl,(zq e1).trans (JI rfl e2 (by rw[qe,l];omega)),c2,.pu (.int (i:Int)),ws++[u],by simp[l],λy hy=>?_,by rw[qS];rfl⟩;rcases qt.mp hy with h|h
   ·exact q y h
   ·have:y=u:=by simpa using h
    rw[this];exact hu
 refine⟨ws,zM rfl ?_,by omega,q1⟩;exact(zq (ρ':=[.pu (.int c),.pu (.int (s:Int)),.pu (.int (m:Int)),.ow [],.no]) rfl).trans ((zq e1).trans (zF rfl))
def Zp{t:Bool}{n k l:Nat}{r:Q1x}{M:Q2x}(hn:n<=42)(hr:∀a,a<n->Sk k (r a))(hM:∀a b,a<n->b<n->Sk l (M a b))(hk:k+l<=399):xY [qd t n r,xy n M]=some ((List.range n).map λb=>fr (led n r M b)):=by
 obtain⟨ρ1,e1,o,rfl⟩:=u3 (n:=n) (g:=aC (zd yb (aC (gv 0) a0)) a0) (bd:=bN 3)
  (b:=apS 2 (zd jq (aC (gv 0) (aC (yB (zZ 1 [1,3] (xl (aC (zd yb (aC (gv 0) a0)) a0)) (bN 0) (op2 ixD (op2 ixD (gv 1) (gv 0)) (gv 2)))) a0))))
  (ρ0:=[.pu (qd t n r),.pu (xy n M),.ow [],.no])
  (λi ρ=>∃o,ρ=[.pu (qd t n r),.pu (xy n M),.ow ((List.range i).map λb=>fr (led n r M b)),o]) (zk ((zc rfl).trans (Yy t n r)) rfl) (by omega) ⟨.no,rfl⟩
  λb ρ hb ⟨o,e⟩=>by
   subst e;refine⟨_,_,rfl,JI (d:=fr (led n r M b)) rfl ?_ (by rw[qe,qu];omega),.pu (.int (b:Int)),by rw[<-UN];rfl⟩;refine(zc (xs:=[qd t n r,qd false n λa=>M a b]) (zk rfl (zk (yj (j9 (n:=n) (zk ((zc rfl).trans (Yy t n r)) rfl) (by omega) λa ha=>?_)) rfl))).trans (Ut hn hk λa ha=>⟨(hr a ha).bq (by omega),(hM a b ha hb).bq (by omega),(hr a ha).mul (hM a b ha hb)⟩);exact(zb ((zb rfl rfl).trans (zkA ha)) rfl).trans (Vz (t:=true) hb)
 refine wY rfl ?_;exact(zq (ρ':=[.pu (qd t n r),.pu (xy n M),.ow [],.no]) rfl).trans ((zq e1).trans (jX rfl))
theorem zaZ{n s k k':Nat}{st:Q3x}(hn:n<=42)(hst:∀g a b,g<s->a<n->b<n->Sk k' (st g a b)):∀(ws:LNt)(k:Nat)(fi:Q1x),(∀a,a<n->Sk k (fi a))->(∀g∈ws,g<s)->∀a,a<n->Sk (k+ws.length*(k'+1)) (zV n st fi ws a)
 |[],k,fi,hf,_=>λa ha=>by
  rw[pJ,Nat.zero_mul];exact hf a ha
 |g::ws,k,fi,hf,hg=>λa ha=>by
  have step:∀b,b<n->Sk (k+k'+1) (led n fi (st g) b):=λb hb=>Sk.sum hn λi hi=>(hf i hi).mul (hst g i b (hg g ki) hi hb)
  have r:=zaZ (k:=k) hn hst ws (k+k'+1) (led n fi (st g)) step (λx hx=>hg x (qD _ hx)) a ha;refine Sk.mono r ?_;rw[qU,gm];omega
def jT{n s:Nat}{fi:Q1x}{st:Q3x}{la:Q1x}:ixD (zm n s fi st la) (.int 0)=some (yy n fi):=rfl
def j7{n s:Nat}{fi:Q1x}{st:Q3x}{la:Q1x}:ixD (zm n s fi st la) (.int 1)=some (zbE n s st):=rfl
def ug{n s:Nat}{fi:Q1x}{st:Q3x}{la:Q1x}:ixD (zm n s fi st la) (.int 2)=some (yy n la):=rfl
def zff{n:Nat}{st:Q3x}{fi:Q1x}{ws:LNt}{i g:Nat}(h:ws[i]?=some g):zV n st fi (ws.take (i+1))=led n (zV n st fi (ws.take i)) (st g):=by
 rw[ml,h];show zV n st fi (ws.take i++[g])=_
 rw[JH];rfl
def zdZ{n s k k':Nat}{fi:Q1x}{st:Q3x}{la:Q1x}{ws:LNt}(hn:n<=42)(hfi:∀a,a<n->Sk k (fi a))(hst:∀g a b,g<s->a<n->b<n->Sk k' (st g a b))(hg:∀g∈ws,g<s)(hk:k+ws.length*(k'+1)<=399):JT [zm n s fi st la,ya ws]=some ((List.range n).map λa=>fr (zV n st fi ws a)):=by
 obtain⟨ρ1,e1,o,rfl⟩:=w8 (ds:=ws.map λ(g:Nat)=>PyData.int (g:Int)) (it:=yI (gv 1)) (bd:=bN 3)
  (b:=frS 2 (x8 2 (xc xY (aC (gv 2) (aC (op2 ixD (op2 ixD (gv 0) (cst (.int 1))) (gv 3)) a0)))))
  (ρ0:=[.pu (zm n s fi st la),.pu (ya ws),.ow ((List.range n).map λa=>fr (fi a)),.no])
  (λi ρ=>∃o,ρ=[.pu (zm n s fi st la),.pu (ya ws),.ow ((List.range n).map λa=>fr (zV n st fi (ws.take i) a)),o]) rfl ⟨.no,rfl⟩
  λi d ρ hd ⟨o,e⟩=>by
   subst e;rw[qp] at hd;obtain⟨g,hgi,rfl⟩:=map_some hd;have hgs:=hg g (qH hgi);have hlt:i<ws.length:=(qf.mp hgi).1
   refine⟨_,_,rfl,yJ ?_,.pu (.int (g:Int)),rfl⟩;refine(xr (xs:=[qd false n (zV n st fi (ws.take i)),xy n (st g)]) (zk rfl (zk ((zb ((zb rfl rfl).trans j7) rfl).trans (Yw hgs)) rfl))).trans ?_;rw[zff hgi];refine Zp hn (λa ha=>zaZ (k:=k) hn hst (ws.take i) k fi hfi (λx hx=>hg x (List.mem_of_mem_take hx)) a ha) (λa b ha hb=>hst g a b hgs ha hb) ?_;rw[kB,mM (by omega)];have h1:(i+1)*(k'+1)<=ws.length*(k'+1):=kW _ hlt;have h2:(i+1)*(k'+1)=i*(k'+1)+(k'+1):=gm _ _
   omega
 refine wY rfl ?_;refine(zq (ρ':=[.pu (zm n s fi st la),.pu (ya ws),.ow ((List.range n).map λa=>fr (fi a)),.no]) rfl).trans ((zq e1).trans (jX ?_));rw[qe,gT];rfl
def Uk{n s k k' l:Nat}{fi:Q1x}{st:Q3x}{la:Q1x}{ws:LNt}(hn:n<=42)(hfi:∀a,a<n->Sk k (fi a))(hst:∀g a b,g<s->a<n->b<n->Sk k' (st g a b))(hla:∀a,a<n->Sk l (la a))(hg:∀g∈ws,g<s)(hk:k+ws.length*(k'+1)+l<=399):yX [zm n s fi st la,ya ws]=some (fr (wt n st fi la ws)):=by
 have hrow:∀a,a<n->Sk (k+ws.length*(k'+1)) (zV n st fi ws a):=λa ha=>zaZ (k:=k) hn hst ws k fi hfi hg a ha
 refine zM rfl (zF ?_);refine(zc (xs:=[qd false n (zV n st fi ws),qd true n la]) (zk (yj ((xr rfl).trans (zdZ hn hfi hst hg (by omega)))) (zk ((zb rfl rfl).trans ug) rfl))).trans ?_;exact Ut hn hk λa ha=>⟨(hrow a ha).bq (by omega),(hla a ha).bq (by omega),(hrow a ha).mul (hla a ha)⟩
def jk{f:Ro->Option Bool}{ρ:Ro}{b:Bool}(h:f ρ=some b):vQ f ρ=some (!b):=by
 unfold vQ;rw[h];rfl
def Wy{f g:Ro->Option Bool}{ρ:Ro}{b:Bool}(h:f ρ=some false)(h2:g ρ=some b):orT f g ρ=some b:=by
 unfold orT;rw[h,qr,qm qE];exact h2
def zkR{f g:Ro->Option Bool}{ρ:Ro}{b:Bool}(h:f ρ=some true)(h2:g ρ=some b):zdi f g ρ=some b:=by
 unfold zdi;rw[h,qr,qg rfl];exact h2
def zkB{f g:Ro->Option Bool}{ρ:Ro}(h:f ρ=some false):zdi f g ρ=some false:=by
 unfold zdi;rw[h,qr,qm qE]
def zkh{f g:RPx}{ρ:Ro}{d:PdX}(h:f ρ=some (.bool true))(h2:g ρ=some d):zfX f g ρ=some d:=by
 unfold zfX;rw[h];exact h2
def zgD(q r:Rat):eqD (fr q) (fr r)=some (.bool (decide (q=r))):=by
 unfold eqD;rw[qg ⟨rfl,rfl⟩,zgV]
def zld(q r:Rat):neD (fr q) (fr r)=some (.bool (!decide (q=r))):=by
 unfold neD;rw[qg ⟨rfl,rfl⟩,zgV]
def ZS{q:Rat}(h:Bq 4000 q):vS [fr q]=some (.bool true):=by
 refine zM rfl ?_;refine(zq (ρ':=[.pu (fr q)]) ?_).trans (zF ?_)
 ·refine(y4 ?_).trans rfl;refine Wy (jk (b:=true) rfl) (Wy (b:=false) (zw ((zb rfl rfl).trans (vR _ _))) (Wy (jk (b:=true) (zw ((zc (zk ((zb rfl rfl).trans (ix0 q)) rfl)).trans rfl))) (jk (b:=true) (zw ((zc (zk ((zb rfl rfl).trans (ix1 q)) rfl)).trans rfl)))))
 ·refine zkh ?_ ?_
  ·refine(zb ((zb rfl rfl).trans (ix1 q)) rfl).trans ?_;exact qG some (qG PyData.bool (qy (Vr q)))
  ·refine(zb ((zc (zk ((zb rfl rfl).trans (ix0 q)) (zk ((zb rfl rfl).trans (ix1 q)) rfl))).trans (j8 (Vr q) (qB h.d (by decide)))) rfl).trans ?_;rw[zgD,g0,qy rfl]
def xN(n:Nat)(d:Nat->PyData):yb [.tuple ((List.range n).map d)]=some (.int (n:Int)):=by
 show some (PyData.int ((((List.range n).map d).length:Nat):Int))=_
 rw[qe,qu]
def Vj{n:Nat}{f:Q1x}(h:∀i,i<n->Bq 4000 (f i)):jj [yy n f,.int (n:Int)]=some (.bool true):=by
 obtain⟨ρ1,e1,o,rfl⟩:=w8 (ds:=(List.range n).map λi=>fr (f i)) (it:=yI (gv 0)) (bd:=bN 2) (b:=ifS (vQ (zA (zd vS (aC (gv 2) a0)))) (retS (cst (.bool false))) s0)
  (ρ0:=[.pu (yy n f),.pu (.int (n:Int)),.no]) (λi ρ=>∃o,ρ=[.pu (yy n f),.pu (.int (n:Int)),o]) rfl ⟨.no,rfl⟩
  λi d ρ hd ⟨o,e⟩=>by
   subst e;rw[qp] at hd;obtain⟨j,hj,rfl⟩:=map_some hd;have hjn:j<n:=by
    have:=qH hj;exact qK.mp this
   exact⟨_,_,rfl,(y4 (jk (b:=true) (zw ((zc rfl).trans (ZS (h j hjn)))))).trans rfl,.pu (fr (f j)),rfl⟩
 refine zM rfl ?_;refine(zq (ρ':=[.pu (yy n f),.pu (.int (n:Int)),.no]) ?_).trans ((zq e1).trans (zF rfl));refine(y4 (Wy (jk (b:=true) rfl) (zw ((zb ((zc rfl).trans (xN n _)) rfl).trans ((vR _ _).trans ?_))))).trans rfl;rw[qy rfl];rfl
def xH(ns:List Int)(i:Nat):∃c:Int,zH [.list (ns.map PyData.int),.int (i:Int)]=some (.int c):=by
 by_cases h:i<ns.length
 ·refine⟨ns[i],zM rfl ?_⟩;refine J8 ((jN (zw (show _=some (PyData.bool true) from ?_))).trans (zF ?_))
  ·refine qG some (qG PyData.bool (qy ?_));rw[qe];omega
  ·refine(zb (x:=.list (ns.map PyData.int)) (y:=.int (i:Int)) rfl rfl).trans ?_;show atI (ns.map PyData.int) (i:Int)=_
   refine UZ ?_;rw[qp,qo h];rfl
 ·refine⟨0,zM rfl ?_⟩;refine(zq ((y4 (zw (show _=some (PyData.bool false) from ?_))).trans rfl)).trans (zF rfl);refine qG some (qG PyData.bool (qF ?_));rw[qe];omega
def ZW{n:Nat}{f:Q1x}{c:Rat}(hn:n<=1000)(h:∀i,i<n->Bq 4000 (f i))(hc:Bq 4000 c):uO [yy n f,fr c]=some (yy n λi=>f i*c):=by
 refine zM rfl (zF ?_);refine(zc (xs:=[.list ((List.range n).map λi=>fr (f i*c))]) (zk (yj (yi (xs:=List.range n) (e:=λi=>fr (f i)) (d:=λi=>fr (f i*c)) rfl (by simpa using qB hn (by decide)) λi hi=>?_)) rfl)).trans rfl;exact(zc (g:=aC (gv 0) (aC (gv 1) a0)) (ρ:=[.pu (fr (f i)),.pu (fr c)]) rfl).trans (zgM (h i (qK.mp hi)) hc)
def zkW{i:Nat}{f:RPx}{ρ:Ro}{ds es:LPd}(h1:gk i ρ=some ds)(h2:f ρ=some (.tuple es))(h3:ds.length+es.length<=16777216):exT i f ρ=some (.nx (ρ.set i (.ow (ds++es)))):=by
 unfold exT;rw[h1,qr,h2];show(if ds.length+es.length<=16777216 then _ else _)=_
 rw[qg h3]
def zkS{it:RLx}{bd:PyData->Ro->Option Ro}{b:RFx}{n:Nat}{d:Nat->PyData}{ρ0:Ro}(P:Nat->Ro->Prop)(hi:it ρ0=some ((List.range n).map d))(h0:P 0 ρ0)(h:∀i ρ,i<n->P i ρ->∃ρ1 ρ2,bd (d i) ρ=some ρ1/\b ρ1=some (.nx ρ2)/\P (i+1) ρ2):∃ρ',jv it bd b ρ0=some (.nx ρ')/\P n ρ':=by
 have:=w8 P hi h0 (bd:=bd) (b:=b) λi x ρ e p=>by
  rw[qp] at e;obtain⟨j,hj,rfl⟩:=map_some e;have hi:i<n:=by
   have:=(qf.mp hj).1;simpa using this
  rw[ka hi] at hj;cases hj;exact h i ρ hi p
 rw[qe,qu] at this;exact this
def VW{n m s:Nat}{fi gi:Q1x}{st su:Q3x}{la lb:Q1x}:vG [zm n s fi st la,zm m s gi su lb]=some .none:=by
 refine zkv (ρ:=[.pu (zm n s fi st la),.pu (zm m s gi su lb),.pu (.int (s:Int)),.pu (.int (s:Int))]) rfl ?_;refine(zq (zD ((zc (zk ((zb rfl rfl).trans j7) rfl)).trans (xN s _)))).trans ((zq (zD ((zc (zk ((zb rfl rfl).trans j7) rfl)).trans (xN s _)))).trans ?_);refine(y4 (zw ((zb rfl rfl).trans ((vR _ _).trans ?_)))).trans rfl;rw[qy rfl];rfl
def JO(d e:Nat->PyData)(n:Nat):UC ((List.range n).map d) ((List.range n).map e)=(List.range n).map λi=>.tuple [d i,e i]:=by
 unfold UC;rw[List.zip_map',kP];rfl
def zix{g:RLx}{ρ:Ro}{xs ys:LPd}(h:g ρ=some [.tuple xs,.tuple ys]):UQ true true g ρ=some (UC xs ys):=by
 unfold UQ;rw[h];rfl
theorem jA(f:Q1x)(a:Nat):∀m,sumTo (a+m) f=sumTo a f+sumTo m (λj=>f (a+j))
 |0=>by show sumTo a f=sumTo a f+0;grind
 |m+1=>by
  show sumTo (a+m) f+f (a+m)=sumTo a f+(sumTo m (λj=>f (a+j))+f (a+m))
  rw[jA f a m];grind
def Sk.den{k:Nat}{q:Rat}(h:Sk k q):q.den ∣ 6 ^ k:=InB.den h
def sz6{k:Nat}(hk:k<=1300):Sz (6 ^ k):=by
 refine Sz.mono (n:=2 ^ (3*k)) ?_ (Sz.zb0 (by omega));rw[pz];exact gC (by decide) k
def sqD(t:Bool)(xs:LPd):PyData:=match t with |true=>.tuple xs|false=>.list xs
def ziP{g:RPx}{ρ:Ro}{t:Bool}{ds:LPd}(h:g ρ=some (sqD t ds)):yI g ρ=some ds:=by
 cases t
 ·exact vq h
 ·exact Je h
def Jj{t:Bool}{qs:List Rat}{M:Nat}(hM:0<M)(sM:Sz M)(h:∀q∈qs,q.den ∣ M):xh [sqD t (qs.map fr)]=some (.int (x9 qs:Int)):=by
 obtain⟨ρ1,e1,o,rfl⟩:=w8 (ds:=qs.map fr) (it:=yI (gv 0)) (bd:=bN 2)
  (b:=zO 1 (op2 yA (gv 1) (op2 yg (op2 ixD (gv 2) (cst (.int 1))) (zd yR (aC (gv 1) (aC (op2 ixD (gv 2) (cst (.int 1))) a0))))))
  (ρ0:=[.pu (sqD t (qs.map fr)),.pu (.int 1),.no]) (λi ρ=>∃o,ρ=[.pu (sqD t (qs.map fr)),.pu (.int (x9 (qs.take i):Int)),o]) (ziP rfl) ⟨.no,rfl⟩
  λi d ρ hd ⟨o,e⟩=>by
   subst e;rw[qp] at hd;obtain⟨q,hq,rfl⟩:=map_some hd;have hdM:=h q (qH hq);have hL:x9 (qs.take i) ∣ M:=Yx _ λz hz=>h z (List.mem_of_mem_take hz)
   have hd0:=YW q;have bd:intBits (q.den:Int)<=4000:=sM.bits (gA hM hdM)
   have bL:intBits (x9 (qs.take i):Int)<=4000:=sM.bits (gA hM hL);obtain⟨l1,_⟩:=zbu (t:=(x9 (qs.take i):Int)) hd0 (qB bd (by decide));have hg:=vZ (t:=(x9 (qs.take i):Int)) hd0
   refine⟨_,_,rfl,zD (d:=.int (x9 (qs.take (i+1)):Int)) ?_,.pu (fr q),rfl⟩;refine(zb rfl ((zb ((zb rfl rfl).trans (ix1 q)) ((zc (zk rfl (zk ((zb rfl rfl).trans (ix1 q)) rfl))).trans (jS _ _))).trans (jg (by omega) l1))).trans ((xf (ju bL (intBits_fdiv_le bd))).trans ?_);rw[zf3,ml,hq];exact qG (λz:Nat=>some (PyData.int (z:Int))) (zfR (qs.take i) q).symm
 refine zM rfl ?_;refine(zq (ρ':=[.pu (sqD t (qs.map fr)),.pu (.int 1),.no]) rfl).trans ((zq e1).trans (zF ?_));rw[qe,gT];rfl
def VL{t:Bool}{n:Nat}{f:Q1x}{B:Nat}(hn:n<=1000)(hB:0<B)(sB:Sz B)(hf:∀i,i<n->(f i).den ∣ B/\intBits (f i).num<=4000):jd [qd t n f,.int (B:Int)]=some ((List.range n).map λi=>.int (vF (f i) B)):=by
 refine wY rfl (jX ?_);refine yi (xs:=List.range n) (e:=λi=>fr (f i)) ?_ (by simpa using qB hn (by decide)) λi hi=>?_
 ·cases t
  ·exact vq rfl
  ·exact Je rfl
 ·have hi:=qK.mp hi;have⟨hd,hb⟩:=hf i hi
  have bd:intBits ((f i).den:Int)<=4000:=sB.bits (gA hB hd);have lg:=WQ (YW (f i)) bd
  rw[<-zgz];show op2 yA (op2 ixD (gv 0) (cst (.int 0))) (op2 yg (gv 1) (op2 ixD (gv 0) (cst (.int 1)))) [.pu (fr (f i)),.pu (.int (B:Int))]=_
  exact(zb ((zb rfl rfl).trans (ix0 (f i))) ((zb rfl ((zb rfl rfl).trans (ix1 (f i)))).trans (jg (YW _) (by omega)))).trans (xf (ju hb (intBits_fdiv_le (show intBits (B:Int)<=4000 from sB))))
def xK(n:Nat)(f:Z1x):List PyData:=(List.range n).map λi=>.int (f i)
def zdn(n:Nat)(f:Z1x):wx Vl (xK n f)=some ((List.range n).map f):=by
 unfold xK;rw[uD];exact Jr λ_ _=>rfl
def zeu{g:RLx}{ρ:Ro}{xs ys:LPd}(h:g ρ=some [.list xs,.list ys]):UQ false false g ρ=some (UC xs ys):=by
 unfold UQ;rw[h];rfl
def Vg{F:LNt}{ρ:Ro}{x y:PdX}{fe:RPx}:(b2 (bN 0) (bN 1) (.tuple [x,y]) (compEnv 2 F ρ)).bind fe=fe (.pu x::.pu y::F.map λj=>(ρ[j]?).getD .no):=rfl
def yY{F:LNt}{ρ:Ro}{x:PdX}{fe:RPx}:(bN 0 x (compEnv 1 F ρ)).bind fe=fe (.pu x::F.map λj=>(ρ[j]?).getD .no):=rfl
def ziA{n:Nat}{f g:Z1x}(ρ:Ro)(h0:ρ=[.pu (.list (xK n f)),.pu (.list (xK n g))]):UQ false false (aC (gv 0) (aC (gv 1) a0)) ρ=some ((List.range n).map λi=>.tuple [.int (f i),.int (g i)]):=by
 subst h0;exact(zeu rfl).trans (qG some (JO _ _ n))
def zaq{n b:Nat}{f:Q2x}(hn:n<=1000)(hb:b<n):VJ [xy n f,.int (b:Int)]=some (yy n λa=>f a b):=by
 refine zM rfl (zF ?_);refine(zc (xs:=[.list ((List.range n).map λa=>fr (f a b))]) (zk (yj (yi (xs:=List.range n) (e:=λa=>yy n (f a)) rfl (by simpa using qB hn (by decide)) λa ha=>?_)) rfl)).trans rfl;show op2 ixD (gv 0) (gv 1) [.pu (yy n (f a)),.pu (.int (b:Int))]=_
 exact(zb rfl rfl).trans (Vz (t:=true) hb)
def wR(n:Nat)(f:Q2x)(i:Nat):List Rat:=(List.range i).flatMap λa=>(List.range n).map (f a)
def Ye(n:Nat)(f:Q2x)(i:Nat):wR n f (i+1)=wR n f i++(List.range n).map (f i):=by
 unfold wR;rw[gH,nL];simp
def zfQ{n:Nat}{f:Q2x}{i:Nat}{q:Rat}(h:q∈wR n f i):∃a b,a<i/\b<n/\q=f a b:=by
 unfold wR at h;have⟨a,ha,h⟩:=pw.mp h;have⟨b,hb,e⟩:=qY.mp h;exact⟨a,b,qK.mp ha,qK.mp hb,e.symm⟩
def zfA{n:Nat}{f:Q2x}{i a b:Nat}(ha:a<i)(hb:b<n):f a b∈wR n f i:=by
 unfold wR;exact List.mem_flatMap.mpr ⟨a,qK.mpr ha,qY.mpr ⟨b,qK.mpr hb,rfl⟩⟩
theorem zaA(n:Nat)(f:Q2x):∀i,(wR n f i).length=i*n
 |0=>by simp[wR]
 |i+1=>by
  rw[Ye,qx,zaA n f i,gm];simp
def x3(n:Nat)(f:Q2x):Nat:=x9 (wR n f n)
def wsD(n:Nat)(f:Q2x):PyData:=.tuple [.list ((List.range n).map λb=>.list (xK n λa=>vF (f a b) (x3 n f))),.int (x3 n f:Int)]
def Vb{n M N:Nat}{f:Q2x}(hn:n<=42)(hM:0<M)(sM:Sz M)(sN:Sz N)(h:∀a b,a<n->b<n->InB M N (f a b)):vM [xy n f]=some (wsD n f)/\0<x3 n f/\x3 n f ∣ M/\∀a b,a<n->b<n->(f a b).den ∣ x3 n f:=by
 have hd:∀q∈wR n f n,q.den ∣ M:=λq hq=>by
  obtain⟨a,b,ha,hb,rfl⟩:=zfQ hq;exact(h a b ha hb).den
 have hp:0<x3 n f:=YU _;have hv:x3 n f ∣ M:=Yx _ hd
 have hdv:∀a b,a<n->b<n->(f a b).den ∣ x3 n f:=λa b ha hb=>Zg _ _ (zfA ha hb)
 refine⟨?_,hp,hv,hdv⟩;obtain⟨ρ1,e1,o,rfl⟩:=zkS (n:=n) (d:=λa=>yy n (f a)) (it:=yI (gv 0)) (bd:=bN 2) (b:=exT 1 (gv 2)) (ρ0:=[.pu (xy n f),.ow [],.no,.no,.no])
  (λi ρ=>∃o,ρ=[.pu (xy n f),.ow ((wR n f i).map fr),o,.no,.no]) rfl ⟨.no,rfl⟩
  λi ρ hi ⟨o,e⟩=>by
   subst e;refine⟨_,_,rfl,zkW (es:=(List.range n).map λb=>fr (f i b)) rfl rfl ?_,.pu (yy n (f i)),?_⟩
   ·rw[qe,qe,qu,zaA]
    have:i*n<=42*42:=km (by omega) hn;omega
   ·rw[Ye,qS,kP];rfl
 refine zM rfl ?_;refine(zq (ρ':=[.pu (xy n f),.ow [],.no,.no,.no]) rfl).trans ((zq e1).trans ((zq (zD (d:=.int (x3 n f:Int)) ?_)).trans ((zq (yJ (d:=(List.range n).map λb=>.list (xK n λa=>vF (f a b) (x3 n f))) ?_)).trans ?_)))
 ·show((xh [.list ((wR n f n).map fr)]).bind λr=>if zh1 r=true then some r else none)=_
  rw[show xh [.list ((wR n f n).map fr)]=some (.int (x3 n f:Int)) from Jj (t:=false) hM sM hd];rfl
 ·refine j9 (n:=n) (zk ((zc rfl).trans (xN n _)) rfl) (by omega) λb hb=>?_
  refine yj (ρ:=[.pu (.int (b:Int)),.pu (xy n f),.pu (.int (x3 n f:Int))]) ((xr (zk ((zc rfl).trans (zaq (by omega) hb)) rfl)).trans ?_);exact VL (t:=true) (by omega) hp (Sz.mono (gA hM hv) sM) λa ha=>⟨hdv a b ha hb,((h a b ha hb).bq sM sN).n⟩
 ·exact zF (zch rfl rfl)
def zby{q:Rat}{M B C:Nat}{t:Int}(h:InB M C q)(hB:B ∣ M)(e:(t:Rat)=q*(B:Rat)):t.natAbs<=C:=by
 have⟨x,ex,hx⟩:=h.ex;obtain⟨c,rfl⟩:=hB;have hc:0<c:=Nat.pos_of_mul_pos_left h.pos;have e1:(t:Rat)*(c:Rat)=(x:Rat):=by
  rw[e,<-ex,mJ];grind
 have e2:t*(c:Int)=x:=by
  have:((t*(c:Int):Int):Rat)=(x:Rat):=by
   rw[kd,kj];exact e1
  exact Rat.intCast_inj.mp this
 have e3:t.natAbs*c=x.natAbs:=by
  rw[<-e2,q9];rfl
 have:t.natAbs<=t.natAbs*c:=hJ _ hc;omega
end L2.Fu
namespace L2.Fu
open PySem WS WD
def Y2{h:LPx}{g:RLx}{ρ:Ro}{xs:LPd}{r:PdX}(h1:g ρ=some xs)(h2:h xs=some r)(h3:zh1 r=true):Vu h g ρ=some r:=by
 unfold Vu;rw[h1,qr,h2,qr,qg h3]
def U8{i:Int}{m:Nat}(hm:0<m):∃r:Nat,r<m/\yr (.int i) (.int (m:Int))=some (.int (r:Int)):=by
 have⟨r,hr,e⟩:=yN i hm;exact⟨r,hr,(yE (by omega)).trans (by rw[e])⟩
end L2.Fu
namespace L2.Fu
open PySem WS WD
open PySem.Builtin.Int (intBits)
theorem jK:∀n,sumTo n (λ_=>(0:Rat))=0
 |0=>rfl
 |n+1=>by
  show sumTo n (λ_=>(0:Rat))+0=0
  rw[jK n];grind
def zgA{n:Nat}{f:Q2x}(hn:n<=1000):ZG [xy n f]=some (xy n λa b=>f b a):=by
 refine zM rfl (zF ?_);refine(zc (xs:=[.list ((List.range n).map λb=>yy n λa=>f a b)]) (zk (yj (j9 (n:=n) (zk ((zc rfl).trans (xN n _)) rfl) (by omega) λb hb=>?_)) rfl)).trans rfl;exact yY.trans ((zc rfl).trans (zaq hn hb))
def jn(n:Nat)(f g:Q1x):Nat->Rat:=λx=>if x<n then f x else g (x - n)
def zdW{n x:Nat}{f g:Q1x}(h:x<n):jn n f g x=f x:=qg h
def zco{n x:Nat}{f g:Q1x}:jn n f g (n+x)=g x:=by
 unfold jn;rw[qm (by omega),show n+x - n=x by omega]
def V4{α:Type}(n m:Nat)(d f g:Nat->α)(h1:∀i,i<n->f i=d i)(h2:∀i,i<m->g i=d (n+i)):(List.range n).map f++(List.range m).map g=(List.range (n+m)).map d:=by
 rw[List.range_add,qS,kP];congr 1
 ·exact gc λi hi=>h1 i (qK.mp hi)
 ·exact gc λi hi=>h2 i (qK.mp hi)
def wF{n m:Nat}{f g:Q1x}(h:n+m<=16777216):Jl (yy n f) (yy m g)=some (yy (n+m) (jn n f g)):=by
 show(if ((List.range n).map λi=>fr (f i)).length+((List.range m).map λi=>fr (g i)).length<=16777216 then some (PyData.tuple _) else none)=_
 rw[qg (by rw[qe,qe,qu,qu];exact h)];exact qG some (qG PyData.tuple (V4 n m (λi=>fr (jn n f g i)) _ _ (λi hi=>by rw[zdW hi]) λi hi=>by rw[zco]))
theorem Y0(d:PdX):∀n,(List.replicate n [d]).flatten=(List.range n).map λ_=>d
 |0=>rfl
 |n+1=>by
  rw[List.replicate_succ',List.flatten_append,Y0 d n,gH,qS];rfl
def Zq{n:Nat}(hn:n<=1000):uq [.int (n:Int)]=some (yy n λ_=>0):=by
 refine zM rfl (zF ?_);refine(zb (x:=.tuple [fr 0]) (y:=.int (n:Int)) rfl rfl).trans ?_;unfold zh9;dsimp only;rw[qg ⟨by simp,by omega,by omega,by simp;omega⟩,kq,Y0];rfl
def jnM(n:Nat)(f:Q2x)(c:Q2x)(g:Q2x):Nat->Nat->Rat:=λx=>if x<n then jn n (f x) (c x) else jn n (λ_=>0) (g (x - n))
def ziL{g:RLx}{ρ:Ro}{xs ys:LPd}(h:g ρ=some [.tuple xs,.list ys]):UQ true false g ρ=some (UC xs ys):=by
 unfold UQ;rw[h];rfl
def zer{f g:RLx}{ρ:Ro}{x y:LPd}(h1:f ρ=some x)(h2:g ρ=some y)(h3:x.length+y.length<=16777216):zfN f g ρ=some (x++y):=by
 unfold zfN;rw[h1,qr,h2,qr,qg h3]
def YN{n m:Nat}{f c g:Q2x}(hn:n<=42)(hm:m<=42):wW [xy n f,.list ((List.range n).map λa=>yy m (c a)),xy m g]=some (xy (n+m) (jnM n f c g)):=by
 have e1:zZ 2 [] (UQ true false (aC (gv 0) (aC (gv 1) a0))) (b2 (bN 0) (bN 1)) (op2 Jl (gv 0) (gv 1)) [.pu (xy n f),.pu (.list ((List.range n).map λa=>yy m (c a))),.pu (xy m g),.no,.no]=some ((List.range n).map λa=>yy (n+m) (jn n (f a) (c a))):=yi (xs:=List.range n) (e:=λa=>.tuple [yy n (f a),yy m (c a)]) ((ziL rfl).trans (qG some (JO _ _ n))) (by rw[qu];omega) λa ha=>Vg.trans ((zb rfl rfl).trans (wF (by omega)))
 have e2:∀o,zZ 1 [0] (yI (gv 2)) (bN 0) (op2 Jl (zd uq (aC (zd yb (aC (gv 1) a0)) a0)) (gv 0)) [.pu (xy n f),.pu (.list ((List.range n).map λa=>yy m (c a))),.pu (xy m g),o,.no]=some ((List.range m).map λb=>yy (n+m) (jn n (λ_=>0) (g b))):=λo=>
  yi (xs:=List.range m) (e:=λb=>yy m (g b)) rfl (by rw[qu];omega) λb hb=>yY.trans ((zb ((zc (zk ((zc rfl).trans (xN n _)) rfl)).trans (Zq (by omega))) rfl).trans (wF (by omega)))
 refine zM rfl ?_;refine(zq (yJ e1)).trans ((zq (yJ (e2 _))).trans (zF ?_));refine(zc (zk (yj (zer rfl rfl (by rw[qe,qe,qu,qu];omega))) rfl)).trans ?_;refine qG some (qG PyData.tuple (V4 n m _ _ _ (λa ha=>?_) λb hb=>?_))
 ·unfold jnM;rw[qg ha]
 ·unfold jnM;rw[qm (by omega),show n+b - n=b by omega]
end L2.Fu
namespace L2.Fu
open PySem PySem.Spec PyProof.Rows
section
variable{X:Cx}
theorem zaC:∀{xs:List V} {us:LVl} (k:Nat),Vals xs us->Vals (xs.take k) (us.take k)
 |_,_,0,_=>.nil
 |_,_,_+1,.nil=>.nil
 |_,_,k+1,.cons h q=>.cons h (zaC k q)
theorem zae:∀{xs:List V} {us:LVl} (k:Nat),Vals xs us->Vals (xs.drop k) (us.drop k)
 |_,_,0,q=>q
 |_,_,_+1,.nil=>.nil
 |_,_,k+1,.cons _ q=>zae k q
def zh7:V->List V->Hp->VK->Prop:=λx vs H Q=>∃l xs i y,x=.ref l/\vs=[.int i,y]/\H l=some (.lst xs)/\0<=i/\i<2 ^ 63/\xs.length<sizeLine/\Q .non (upd H l (.lst (xs.take i.toNat++y::xs.drop i.toNat)))
def ziV(its:LVl)(i:Int)(h:0<=i)(u:Value):(its.toArray.extract 0 (if i<0 then (i+((its.toArray.size:Nat):Int)).toNat else min i.toNat its.toArray.size)).push u++its.toArray.extract (if i<0 then (i+((its.toArray.size:Nat):Int)).toNat else min i.toNat its.toArray.size)=(its.take i.toNat++u::its.drop i.toNat).toArray:=by
 rw[qm (by omega)];apply Array.toList_inj.mp;rw[Array.toList_append,Array.toList_push,Array.toList_extract,Array.toList_extract,pS,pS,qA,Nat.sub_zero,List.drop_zero,kI];by_cases hh:i.toNat<=its.length
 ·rw[mM hh];have k:=nu (l:=its.drop i.toNat) (i:=its.length - i.toNat) (by rw[mC];exact qk _);simp[k]
 ·rw[Nat.min_eq_right (by omega)];rw[nu (show its.length<=i.toNat by omega),nv (show its.length<=i.toNat by omega)];simp
def zfM:MtM X "list.insert" zh7:=by
 intro pins s σ H x vs v us Q I rx rv h;obtain⟨l,xs,i,y,rfl,rfl,hH,h1,h2,hz,q⟩:=h;cases rx;obtain⟨u,w,rfl,ru,rw'⟩:=rv.two;obtain⟨t,rfl⟩:=ru;have⟨z,its,n,r,hl,e⟩:=I.zbr hH;have hfit:¬(!Builtin.List.listFitsIndex i)=true:=by
  rw[fitsIndex_both (by omega) h2];exact qE
 have hsz:its.toArray.size<=sizeLine:=by rw[qA];omega
 refine gP F.slot_list_insert ⟨_,e,rfl⟩ F.entry_list_insert (F.args_list_insert_3 _ _ _) (AutoSeq1.list_insert_list_int_val_1 l its.toArray n i t w hfit hsz) ⟨e,?_⟩;refine⟨.non,_,I.lset (its':=its.take i.toNat++w::its.drop i.toNat) hH e (ziV its i h1 w) ((zaC _ r).append (.cons rw' (zae _ r))) ?_,rfl,q⟩;rw[qx,qU,kB,mC];omega
variable{e ei:Expr}{pos apos cpos p1:Pos}
theorem Z5{K:FRx}{H:Hp}:∀{xs:List V} {ds:LPd} (k:Nat),Reps K H xs ds->Reps K H (xs.take k) (ds.take k)
 |_,_,0,_=>.nil
 |_,_,_+1,.nil=>.nil
 |_,_,k+1,.cons h q=>.cons h (Z5 k q)
theorem zaa{K:FRx}{H:Hp}:∀{xs:List V} {ds:LPd} (k:Nat),Reps K H xs ds->Reps K H (xs.drop k) (ds.drop k)
 |_,_,0,q=>q
 |_,_,_+1,.nil=>.nil
 |_,_,k+1,.cons _ q=>zaa k q
def inS(i:Nat)(fi f:RPx):RFx:=λρ=>(gk i ρ).bind λds=>match fi ρ with
 |some (.int k)=>(f ρ).bind λd=>if 0<=k/\k<9223372036854775808/\ds.length<16777216 then some (.nx (ρ.set i (.ow (ds.take k.toNat++d::ds.drop k.toNat)))) else none
 |_=>none
def zfO(i:Nat){x:Str}{fi f:RPx}(hi:FE X ei fi)(he:FE X e f)(hN:X.N[i]?=some x:=by rfl)(hv:Vis X.env.scope x:=by trivial)(hd:NDx x:=by decide)(hcd:NCx x:=by decide)(hbase:ABx X (.Name x p1) "insert":=by rfl)(hfew:FWx X cpos [ei,e]:=by rfl)(hline:(apos.endLine==cpos.line)=true:=by rfl)(hs:starEach [ei,e] X.env=(false,eval ei X.env)::starEach [e] X.env:=by rfl)(hs2:SEx X e []:=by rfl)(hpl:(backTo cpos (starEach [e] X.env)).any (·.1)=false:=by rfl)(hsw:swapsWith (.Call (.Attribute (.Name x p1) "insert" apos) [ei,e] [] cpos) none pos.line X.env=pure false:=by rfl):FS X (.Expr (.Call (.Attribute (.Name x p1) "insert" apos) [ei,e] [] cpos) pos) (inS i fi f):=by
 have⟨t,p,q⟩:=he;have⟨ti,pi,qi⟩:=hi;refine⟨_,uM (VG kz PySem.F.slot_list_insert PySem.F.type_list_insert zfM (yU hN hv hd hcd) (xn pi (xn p jf hs2) hs) hbase hfew hline hs hpl) hsw,λH0 os0 D σ H os ρ r R e k=>?_⟩;have⟨ds,e1,e⟩:=bind_some e;split at e
 ·rename_i n e3;have⟨d,e2,e⟩:=bind_some e;split at e
  ·rename_i hl;obtain⟨hl1,hl2,hl⟩:=hl;cases e;have g:=JQ e1;have⟨a,xs,h1,h2,h3,h4⟩:=R.rel.ow i ds g
   refine⟨_,h1,.inl ⟨rfl,_,SqL.of h3⟩,qi σ H os ρ _ _ R.rel e3 λv H' s rv=>?_⟩;refine q σ H' os ρ _ _ (R.same s).rel e2 λv2 H2 s2 rv2=>?_
   cases rv;refine⟨a,xs,n,v2,rfl,rfl,s2 _ _ (s _ _ h3),hl1,hl2,by rw[h4.length];exact hl,?_⟩;refine k _ _ os (((R.same s).same s2).chg g h1 ((Z5 _ ((h4.same (zr s os)).same (zr s2 os))).append (.cons rv2 (zaa _ ((h4.same (zr s os)).same (zr s2 os)))))) ?_;rw[xk h2];exact λp o h=>zr s2 os _ _ (zr s os _ _ h)
  ·cases e
 ·cases e
end
section
variable{X:Cx}{a b e:Expr}{f g:RPx}{pos p p2:Pos}
def zgS:PyData->PyData->Option (List PyData)
 | .list xs,.list ys=>if xs.length+ys.length<=16777216 then some (xs++ys) else none
 |_,_=>none
def zjN(K:FRx):R2:=λx y H Q=>∃l b xs zs,x=.ref l/\y=.ref b/\SqL K H l xs/\SqL K H b zs/\xs.length+zs.length<=sizeLine/\∀p,H p=none->Q (.ref p) (upd H p (.lst (xs++zs)))
def zd9(l b:AdX)(us vs:Array Value)(n m:Nat)(so sp:Array (Option Value))(hz:us.size+vs.size<=sizeLine):Meets (Builtin.«list.__add__» ⟨[.ref l,.ref b],[]⟩) (λ_ R s=>s.heap.get? l=some { cls:=.type "list",dict:=none,data:=.seq us n,slots:=so }/\
   s.heap.get? b=some { cls:=.type "list",dict:=none,data:=.seq vs m,slots:=sp }/\
   R (.ok (.ret (Value.ref s.heap.objs.size))) { s with heap:=s.heap.push { cls:=.type "list",data:=.seq (us++vs) } }):=by
 refine .of_wp λprog w A R s h=>?_
 have⟨hp,g,d,tk,os⟩:=s;obtain⟨q1,q2,h⟩:=h;have f1:=mS;have f2:=nE
 have f3:=AutoSeq1.sub_list_list;have f4:=AutoSeq1.sub_tuple_list
 have f5:=AutoSeq1.sub_list_tuple;wp_walk using AutoSeq1.wpAny_loadPart' q1,AutoSeq1.wpAny_loadPart' q2;exact⟨_,rfl,h⟩
def zaz{h:Heap}{l:AdX}{its:Array Value}(pl:PlainL h l its):∃n sl,h.get? l=some { cls:=.type "list",dict:=none,data:=.seq its n,slots:=sl }:=by
 have⟨o,n,e,hc,hd,hs⟩:=pl;have⟨c,d,t,sl⟩:=o;dsimp only at hc hd hs;subst hc hd hs;exact⟨n,sl,e⟩
def zin:OpR X (binaryOp .Add) (zjN X.K):=by
 intro pins s σ H x y v u Q I rx ry h;obtain⟨l,b,xs,zs,rfl,rfl,hH,hB,hz,q⟩:=h;cases rx;cases ry;have⟨its,r,pl,z⟩:=I.list hH;have⟨its2,r2,pl2,z2⟩:=I.list hB;have⟨n,sl,e⟩:=zaz pl;have⟨n2,sl2,e2⟩:=zaz pl2;have hl:=r.length;have hl2:=r2.length
 refine pM ⟨_,e,rfl⟩ ⟨_,e2,rfl⟩ noFill_list_add seq_list_add F.slot_list_add F.entry_list_add (F.args_list_add_2 _ _) (zd9 l b _ _ n n2 sl sl2 (by rw[qA,qA];omega)) ⟨e,e2,?_⟩;have ea:its.toArray++its2.toArray=(its++its2).toArray:=by simp
 rw[ea];exact⟨.ref _,_,I.lnew (t':=s.toks) (r.append r2) (by rw[qx];omega),rfl,q _ I.fresh⟩
def zhS{K:FRx}:R2L K (zjN K) zgS:=by
 intro x y H os d e c Q al r1 r2 h k;unfold zgS at h;split at h
 ·split at h
  ·rename_i hc;cases h;obtain⟨l,xs,rfl,h1,q1⟩:=r1.lst;obtain⟨b,zs,rfl,h2,q2⟩:=r2.lst;refine⟨l,b,xs,zs,rfl,rfl,h1,h2,by rw[q1.length,q2.length];exact hc,λp hp=>?_⟩;have s:=yh hp (.lst (xs++zs));exact k p (xs++zs) _ hp s zL (wu hp (q1.append q2))
  ·cases h
 ·cases h
end
end L2.Fu
namespace L2
open PySem PySem.Spec PyProof.Rows
def ze8{prog:Program}{w:World}{A:Around}{t:Bool}(hh:A.handled=none)(it a:AdX)(hne:a≠it)(vs:Array Value):Draws prog w A it [it,a] vs.size (λi v=>vs[i]?=some v) (λi h=>xi t h it a i/\xp t h a vs) where
 live:=λ_ _ st=>by
  have⟨o,ho,_⟩:=st.1.obj;exact⟨o,ho⟩
 frame:=λ_ _ _ st hk=>⟨st.1.stay λo e=>hk it (by simp) o e,st.2.stay λo e=>hk a (by simp) o e⟩
 item:=λi s Q E hi st hQ=>by
  refine JV st.1 st.2 (v:=vs[i]) (by simp[hi]) λh' d hs=>?_
  exact hQ _ h' s.toks (by simp[hi]) ⟨d,st.2.stay λo e=>hs.extBut _ _ hne e⟩ hs
 done:=λs Q E st hE=>J1 hh st.1 st.2 (by simp) hE
def zfz{prog:Program}{w:World}{A:Around}{t:Bool}(hh:A.handled=none)(it a:AdX)(vs:Array Value)(n:Nat)(hv:vs[n]?=none):Draws prog w A it [it,a] n (λ_ _=>False) (λi h=>i=n/\xi t h it a n/\xp t h a vs) where
 live:=λ_ _ st=>by
  have⟨o,ho,_⟩:=st.2.1.obj;exact⟨o,ho⟩
 frame:=λ_ _ _ st hk=>⟨st.1,st.2.1.stay λo e=>hk it (by simp) o e,st.2.2.stay λo e=>hk a (by simp) o e⟩
 item:=λi s Q E hi st hQ=>absurd st.1 (by omega)
 done:=λs Q E st hE=>J1 hh st.2.1 st.2.2 hv hE
abbrev en1(t:Bool)(h:Heap)(a:AdX):Heap:=h.push { cls:=.type (uB t),data:=.fields #[.ref a,.int 0 0] }
abbrev en2(t:Bool)(h:Heap)(a:AdX):Heap:=(en1 t h a).push { cls:=.type "enumerate",data:=.fields #[.none,.bool false,.ref h.objs.size,rawInt 0,.none,.none] }
def zkV(t:Bool)(a:AdX)(vs:Array Value):Meets (Builtin.«enumerate.__new__» ⟨[.type "enumerate",.ref a],[]⟩) (λ_ R s=>xp t s.heap a vs/\
   R (.ok (.ret (.ref (en1 t s.heap a).objs.size))) { s with heap:=en2 t s.heap a }):=.of_wp λprog w A R s h=>by
  have⟨hp,g,d,tk,os⟩:=s;obtain⟨c1,h⟩:=h;have hsub:=sub_enumerate;have q1:xp t (Shared.heap ⟨hp,g,d,tk,os⟩) a vs:=c1
  wp_walk using JN q1
  refine wpAny_stack_any λst=>qQ ?_
  split
  ·rename_i c _ _ _ _ _;cases (c==Value.type "enumerate")<;>(wp_walk using JN q1;exact⟨_,rfl,h⟩)
  ·wp_walk using JN q1
   exact⟨_,rfl,h⟩
def zhW{prog:Program}{w:World}{A:Around}{E:VSx}{s:ShX}{t:Bool}{a:AdX}{vs:Array Value}{Q:VSx}(c:xp t s.heap a vs)(h:∀h',IsEnum h' (s.heap.objs.size+1) s.heap.objs.size 0 .none->xi t h' s.heap.objs.size a 0->
   (∀c o,s.heap.get? c=some o->h'.get? c=some o)->Q (.ref (s.heap.objs.size+1)) { s with heap:=h' }):wpAny (model prog w) A (call (.type "enumerate") [.ref a]) Q E s:=by
 refine callType_new F.called_enumerate (by decide) (F.typeCall_enumerate_1 _) (F.newCall_enumerate_1 _) (λobj=>F.args_object_init_2 obj _) F.entry_enumerate_new (zkV t a vs) ⟨c,?_⟩;have z1:(en1 t s.heap a).objs.size=s.heap.objs.size+1:=k6 ..;have g2:(en2 t s.heap a).get? (en1 t s.heap a).objs.size=some _:=qI _ rfl
 have g1:(en2 t s.heap a).get? s.heap.objs.size=some _:=qj _ (qI _ rfl);show _/\_
 rw[z1] at g2 ⊢;exact⟨⟨_,g2,rfl⟩,h _ g2 (Zv g1) λc o q=>qj _ (qj _ q)⟩
def Ite(K:FRx)(t:Bool)(a:AdX):It:=⟨λi H=>∃xs x,SqB K t H a xs/\xs[i]?=some x,
  λi H v H'=>∃p,v=.ref p/\H p=none/\∀xs x,SqB K t H a xs->xs[i]?=some x->H'=upd H p (.tup [.int (i:Int),x]),
  λi H=>∃xs,SqB K t H a xs/\xs.length<=i⟩
structure zmt(t:Bool)(e it a:AdX)(i:Nat)(h:Heap):Prop where
 en:∃old,IsEnum h e it (i:Int) old
 dr:xi t h it a i
def zfo{P:Program}{w:World}{K:FRx}{es:List Expr}{kk:Nat}{tp:Pos}{t:Bool}{e it a:AdX}(hei:e≠it)(hae:a≠e)(hai:a≠it):Turn P w K (.Tuple es kk tp) (Ite K t a) [e,it] e (λi h=>zmt t e it a i h) where
 mem:=by simp
 obj:=λi h S c hc=>by
  simp only [qw,kO,mf] at hc;rcases hc with rfl|rfl
  ·have⟨old,q⟩:=S.en;exact⟨_,q,λv q=>by cases q⟩
  ·exact S.dr.obj
 keep:=λi h h' S k=>by
  have⟨old,q⟩:=S.en;exact⟨⟨old,k e (by simp) _ q⟩,S.dr.stay λo q=>k it (by simp) o q⟩
 item:=λX hp hw hK hc i pins s σ H E I hf S go=>by
  subst hp hw hK;have⟨xs,x,h1,hx⟩:=go;have⟨us,ru,c1⟩:=I.sqB h1;have⟨u,eu,hu⟩:=ub ru hx;have⟨old,he⟩:=S.en;have hlt:i<us.toArray.size:=(Array.getElem?_eq_some_iff.mp eu).1;refine wpAny_pyNext_enum_itemD (ze8 (t:=t) (A:=X.A.in1) (I.ok.hd hc) it a hai us.toArray) he ⟨S.dr,c1⟩ hlt hei (by simp[hei,gw hae]) λx' h' tk hx' q1 q2 q3 q4 q5=>⟨_,rfl,?_⟩
  rw[eu] at hx';cases hx';refine wpAny_letOwnedTupleGo_enum q1 λh'' z2 hs=>?_
  have ne1:s.heap.objs.size≠e:=mU (qM he);have ne2:s.heap.objs.size≠it:=by have⟨o,q,_⟩:=S.dr.obj;exact mU (qM q)
  have I1:Inv X pins σ H { s with heap:=h'',toks:=tk+1 }:=I.moved (ch:=[e,it]) (λc hc'=>hf c hc') λc o hc' q=>by
   simp only [qw,kO,mf,not_or] at hc';exact hs.extBut _ _ hc'.1 (q5 c o hc'.1 hc'.2 q)
  have fT:u0 X pins H s.heap.objs.size:=I.zbC (qk _) (I.hok.fresh (qk _));have pT:=hs.extBut _ _ ne1 q3
  have I2:Inv X pins σ (upd H s.heap.objs.size (.tup [.int (i:Int),x])) { s with heap:=h'',toks:=tk+1 }:=by
   refine I1.adopt fT ⟨by show 2<=sizeLine;decide,[.int (i:Int) tk,u],.cons ⟨_,rfl⟩ (.cons hu .nil),?_⟩;exact⟨_,pT,rfl,_,rfl⟩
  refine⟨.ref s.heap.objs.size,_,I2,rfl,⟨_,rfl,fT.1,λxs' x' g1 ex=>?_⟩,?_,λc hc'=>?_⟩
  ·rw[I.zbp g1 h1] at ex;rw[hx] at ex;cases ex;rfl
  ·exact⟨⟨_,by have:=z2;rw[show((i+1:Nat):Int)=(i:Int)+1 from rfl];exact this⟩,q2.1.stay λo q=>hs.extBut _ _ (gw hei) q⟩
  ·have ne:c≠s.heap.objs.size:=by
    simp only [qw,kO,mf] at hc';rcases hc' with rfl|rfl
    ·exact ne1.symm
    ·exact ne2.symm
   rw[zR ne];exact(hf c hc').1
 done:=λX hp hw hK hc i pins s σ H E I hf S st=>by
  subst hp hw hK;have⟨xs,h1,hend⟩:=st;have⟨us,ru,c1⟩:=I.sqB h1;have l1:=ru.length;have⟨old,he⟩:=S.en
  refine wpAny_pyNext_enum_endD (zfz (t:=t) (A:=X.A.in1) (I.ok.hd hc) it a us.toArray i (by simp;omega)) he ⟨rfl,S.dr,c1⟩ λh' q=>⟨rfl,?_⟩
  exact I.moved (t':=s.toks) (ch:=[it]) (λc hc'=>hf c (by simp at hc';simp[hc'])) λc o hc' e=>q c o (by simpa using hc') e
 self:=λA i s Q E S q=>by
  have⟨old,he⟩:=S.en;exact wpAny_pyIter_enum he q
def zbF:bootBuiltins "enumerate"=some (.type "enumerate"):=by decide+kernel
def zlG(K:FRx)(t:Bool)(ta:TA):TI:=λσ H R=>ta σ H λvs H1=>∃a,vs=[.ref a]/\(∃xs,SqB K t H1 a xs)/\R (Ite K t a) H1
def zi9{X:Cx}{es:List Expr}{kk:Nat}{tp:Pos}(t:Bool){a:Expr}{ta:TA}{p pos:Pos}(hg:Gl X "enumerate")(hm:X.mg "enumerate"=none)(ha:PA X [a] ta)(hs:starEach [a] X.env=[(false,eval a X.env)]:=by rfl):PI X (.Tuple es kk tp) (.Call (.Name "enumerate" p) [a] [] pos) (zlG X.K t ta):=by
 intro pins s σ H R I h;refine Call_ (Uw I hg hm zbF (gh (thn (ha pos pins s σ H _ I h) λus s1 ⟨vs,H1,I1,r1,q1⟩=>?_) (by rw[hs];rfl) (by rfl)));have⟨a',e,⟨xs,h1⟩,q⟩:=q1;subst e;obtain⟨u,rfl,ru⟩:=vals1 r1;cases (show u=Value.ref a' from ru);have⟨its,_,c1⟩:=I1.sqB h1;refine zhW c1 λh' S d hk=>?_
 have I2:Inv X pins σ H1 { s1 with heap:=h',toks:=s1.toks }:=I1.kept hk;refine wpAny_pyIter_enum S ?_;have lt:=c1.lt
 refine⟨_,_,_,_,H1,rfl,I2,zfo (t:=t) (e:=s1.heap.objs.size+1) (it:=s1.heap.objs.size) (a:=a') (Nat.succ_ne_self _) (kS (mj lt)) (kS lt),⟨⟨_,S⟩,d⟩,λc hc=>?_,q⟩;simp only [qw,kO,mf] at hc;have ge:s1.heap.objs.size<=c:=by
  rcases hc with rfl|rfl
  ·exact gS _ 1
  ·exact qk _
 exact I1.zbC ge (I1.hok.fresh ge)
end L2
namespace L2.Fu
open PySem PySem.Spec PyProof.Rows
def WT(xs:LPd):List PyData:=xs.mapIdx λi d=>.tuple [.int (i:Int),d]
def zfZ{xs:LPd}{i:Nat}{d:PdX}(h:(WT xs)[i]?=some d):∃x,xs[i]?=some x/\d=.tuple [.int (i:Int),x]:=by
 unfold WT at h;rw[List.getElem?_mapIdx] at h;have⟨z,e1,e2⟩:=map_some h;exact⟨z,e1,e2.symm⟩
def zdA{K:FRx}{G G0:Hp}{t:Bool}{a:AdX}{xs:List V}{ds:LPd}(h1:SqB K t G a xs)(r1:Reps K G0 xs ds):Walks K G G0 (Ite K t a) (WT ds):=by
 intro H1 os1 al s s0;have k1:SqB K t H1 a xs:=s.sqB h1;refine⟨λi d hd=>?_,?_⟩
 ·obtain⟨d1,g1,rfl⟩:=zfZ hd;have⟨v1,e1,q1⟩:=r1.getD g1;refine⟨⟨xs,v1,k1,e1⟩,λx H2 hy=>?_⟩;obtain⟨p,rfl,hp,hy⟩:=hy;have e:=hy xs v1 k1 e1;subst e;have s2:=yh hp (.tup [.int (i:Int),v1])
  refine⟨s2,.tup (SqT.of ?_) (.cons (.int _) (.cons ((q1.same s0).same (zr s2 os1)) .nil))⟩;rw[zB (al.new hp)];exact zL
 ·refine⟨xs,k1,?_⟩;rw[r1.length];simp[WT]
def zeJ(t:Bool)(g:RLx):RLx:=λρ=>match g ρ with
 |some [x]=>match kindOf x with
  |some (k,xs)=>if k=t then some (WT xs) else none
  |_=>none
 |_=>none
end L2.Fu
namespace L2
open PySem PySem.Spec PyProof.Rows
theorem zb2{prog:Program}{w:World}{A:Around}{R:Result->Shared->Prop}{s:ShX}{elt target iter c:Expr}{scope:Scope}{pos:Pos}{it acc:Value}{env:Env}(I:Nat->Shared->Prop)(turn:∀n s,I n s->wpAny (model prog w) A (pyNext it) (λr t1=>match r with
   |none=>R (.ok .next) t1
   |some v=>wpAny (model prog w) A (letOwnedTupleGo target it v) (λ_ t2=>wpAny (model prog w) A (assign target env v) (λ_ t3=>wpAny (model prog w) A (isTrue c env (eval c env)) (λok t31=>
     if ok=true then wpAny (model prog w) A (eval elt env) (λx t4=>wpAny (model prog w) A (call (.builtin "list.append") [acc,x]) (λ_ t5=>∃m,m<n/\I m t5) (λ_ _=>False) t4) (λ_ _=>False) t31
     else ∃m,m<n/\I m t31) (λ_ _=>False) t3) (λ_ _=>False) t2) (λ_ _=>False) t1) (λ_ _=>False) s)(n:Nat)(h:I n s):codeAny (model prog w) A (.compLoop (.ListComp elt [⟨target,iter,[c],0⟩] scope pos) 0 it acc env) R s:=by
 refine codeAny_loop rfl I (λn s hI=>?_) n h;show wpAny _ _ ((compTurn (.ListComp elt [⟨target,iter,[c],0⟩] scope pos) 0 it acc env).onRaise (λx=>do noteFrame x env;theTreesLotGoes x)) _ _ s
 refine wpAny_noted ?_;rw[compTurn_list];refine qq (nD (qq (k5 (turn n s hI) (λr t1 h1=>?_) λ_ _ z=>z.elim)));cases r with
 |none=>exact qQ h1
 |some v=>
  refine qq (k5 h1 (λ_ t2 h2=>?_) λ_ _ z=>z.elim);refine qq (k5 h2 (λ_ t3 h3=>?_) λ_ _ z=>z.elim);refine qq ?_;rw[mN];refine qq ?_;rw[qg rfl];refine qq (k5 h3 (λok t31 h31=>?_) λ_ _ z=>z.elim);refine qQ ?_;dsimp only;rw[nJ];refine qQ ?_;cases ok with
  |true=>
   rw[qg rfl] at h31 ⊢;exact qq (qq (k5 h31 (λx t4 h4=>qq (k5 h4 (λ_ t5 h5=>qQ (qQ ⟨rfl,h5⟩)) λ_ _ z=>z.elim)) λ_ _ z=>z.elim))
  |false=>
   rw[qm qE] at h31 ⊢;exact qQ ⟨rfl,h31⟩
def zeD(T:Nat)(F:LNt)(g:TG)(tc:TT)(te:TE)(k:Addr->Hp->Prop)(σ:St)(H1:Hp)(D:AdX)(J:It):Prop:=∃W:Nat->Nat->St->Hp->Prop,(∃m,W 0 m (UB T F σ) (upd H1 D (.lst [])))/\∀i m σ' H',W i m σ' H'->
  (J.stop i H'/\k D H')\/(J.go i H'/\∃N:St->Hp->Prop,(∀σ2 H2,N σ2 H2->∃m',m'<m/\W (i+1) m' σ2 H2)/\
   ∀x H2,J.yld i H' x H2->g x σ' H2 λσ2 H3=>tc σ2 H3 λok H31=>if ok=true then te σ2 H31 λv H4=>∃xs,H4 D=some (.lst xs)/\xs.length<sizeLine/\N σ2 (upd H4 D (.lst (xs++[v]))) else N σ2 H31)
def zbl(T:Nat)(F:LNt)(wi:TI)(g:TG)(tc:TT)(te:TE)(k:Addr->Hp->Prop):St->Hp->Prop:=λσ H=>wi σ H λJ H1=>∀D,H1 D=none->zeD T F g tc te k σ H1 D J
section
variable{X:Cx}{elt tg iter c:Expr}{scope:Scope}{pos:Pos}{Ts:LSr}{F:LNt}{wi:TI}{g:TG}{tc:TT}{te:TE}
def Y6{cl:LSA}{use:Option (Value->Sem Unit)}{Q:VSx}{pins:PNx}{s:ShX}{σ:St}{H:Hp}{k:Addr->Hp->Prop}(hc:X.calm=true)(hi:PI X tg iter wi)(S:yq X scope)(hF:∀j∈F,∃x,X.N[j]?=some x/\scope.names.lookup x=some .free)(hg:∀cl C ex s H,PG (yc X (Ts++F.map λj=>X.N.getD j "") scope cl C ex s H) tg g)(he:∀cl C ex s H,PE (yc X (Ts++F.map λj=>X.N.getD j "") scope cl C ex s H) elt te)(ht:∀cl C ex s H,PT (yc X (Ts++F.map λj=>X.N.getD j "") scope cl C ex s H) c tc)(ko:Uj scope X.env cl)(I:Inv X pins σ H s)(h:zbl Ts.length F wi g tc te k σ H)(fin:∀(s':ShX)(H':Hp)(D C:AdX)(m:Str->Option Value),Inv X pins σ H' s'->u0 X pins H' C->s'.heap.Ns C m->k D H'->compPost (model X.prog X.w) X.A X.xe use Q (.ref D) C (.ok .next) s'):wpAny (model X.prog X.w) X.A (eval iter X.env) (λx s₁=>wpAny (model X.prog X.w) X.A (pyIter x) (λit s₂=>wpAny (model X.prog X.w) X.A (newList []) (λacc s₃=>
   wpAny (model X.prog X.w) X.A (newFunctionEnv scope X.env.globals cl [] X.env.qual none .none (some X.env)) (λcenv s₄=>
    codeAny (model X.prog X.w) X.A (.compStart (.ListComp elt [⟨tg,iter,[c],0⟩] scope pos) 0 it acc { cenv with scope:=relabel scope X.env }) (compPost (model X.prog X.w) X.A X.xe use Q acc cenv.locals) s₄) X.xe s₃) X.xe s₂) X.xe s₁) X.xe s:=by
 refine thn (hi pins s σ H _ I h) λv s1 h1=>thn h1 λitv s2 h2=>?_
 obtain⟨it,fp,tn,J,H2,rfl,I2,T,st2,f2,hW⟩:=h2;refine ny (wpAny_newFunctionEnv S.nocell (by intro y hy;simp at hy) (λh₁ hns₁ hsb₁=>?_) S.kind);dsimp only at hns₁ hsb₁ ⊢;have fresh2:H2 s2.heap.objs.size=none:=I2.hok.fresh (qk _);have⟨W,⟨m0,w0⟩,turn⟩:=hW s2.heap.objs.size fresh2
 generalize hD:s2.heap.objs.size=D at*;have I3:Inv X pins σ (upd H2 D (.lst [])) { s2 with heap:=s2.heap.push { cls:=.type "list",dict:=none,data:=.seq ([]:LVl).toArray } }:=by
  refine I2.laid (t':=s2.toks) (λb u e=>qj _ e) (nt hD) ?_;refine⟨by simp,[],0,.nil,?_⟩;rw[<-hD];exact qI _ rfl
 generalize hS3:({ s2 with heap:=s2.heap.push { cls:=.type "list",dict:=none,data:=.seq ([]:LVl).toArray } }:ShX)=s3 at*;have hh3:s3.heap=s2.heap.push { cls:=.type "list",dict:=none,data:=.seq ([]:LVl).toArray }:=by rw[<-hS3]
 have objs:∀b∈fp,∃o,s3.heap.get? b=some o:=λb hb=>by
  have⟨o,e,_⟩:=T.obj _ _ st2 b hb;exact⟨o,by rw[hh3];exact qj _ e⟩
 have neD:∀b∈fp,b≠D:=λb hb z=>by
  have⟨o,e,_⟩:=T.obj _ _ st2 b hb;have e1:=qM e;rw[hD,z] at e1;exact kX _ e1
 have f3:∀b∈fp,u0 X pins (upd H2 D (.lst [])) b:=λb hb=>⟨by rw[zR (neD b hb)];exact(f2 b hb).1,(f2 b hb).2⟩
 have hsb:Heap.SameBut s3.heap.objs.size (s3.heap.push { cls:=.type "dict",data:=.dict #[] }) h₁:=by
  rw[<-hS3];exact hsb₁
 have hns:h₁.Ns s3.heap.objs.size (λ_=>none):=by
  rw[<-hS3];exact hns₁
 have keep:∀b o,s3.heap.get? b=some o->h₁.get? b=some o:=λb o e=>hsb.extBut b o (kS (qM e)) (qj _ e)
 have IY:=zdg (Ts:=Ts) (F:=F) (tk:=s3.toks) I3 S ko f3 objs hF hns keep;have tn1:tn 0 h₁:=T.keep _ _ _ st2 λb hb o e=>keep b o (by rw[hh3];exact qj _ e)
 have stat:∀{H':Hp},(∀b∈fp,H' b=none)->∀b∈fp,u0 (yc X (Ts++F.map λj=>X.N.getD j "") scope cl s3.heap.objs.size fp s3 (upd H2 D (.lst []))) [] H' b:=λhn b hb=>
  ⟨hn b hb,(IY.ok.exf b hb).1,IY.ok.exfs b hb,.inl hb,(IY.ok.exf b hb).2,λp hp=>absurd (show p∈([]:PNx) from hp) (by simp)⟩
 have back:∀{σ':St} {H':Hp} {s':ShX},Inv (yc X (Ts++F.map λj=>X.N.getD j "") scope cl s3.heap.objs.size fp s3 (upd H2 D (.lst []))) [] σ' H' s'->k D H'->compPost (model X.prog X.w) X.A X.xe use Q (.ref D) s3.heap.objs.size (.ok .next) s':=λ{σ' H' s'} J' q=>by
  have hI:Inv X pins σ H' s':=by
   have⟨hh,gg,dd,tt,os'⟩:=s';have ho:os'=s3.os:=J'.os;subst ho;exact I3.call (h':=hh) (g':=gg) (d':=dd) (t':=tt) (ch:=fp) J'.base J'.hok J'.bare λb hb=>⟨(f3 b hb).2.2.2.1,(f3 b hb).2.1,(f3 b hb).2.2.2.2.1,(f3 b hb).2.2.2.2.2⟩
  have⟨m,hm,_⟩:=J'.loc;exact fin s' H' D s3.heap.objs.size m hI (I3.zbC (qk _) J'.free) hm q
 have loop:∀s4:Shared,s4={ s3 with heap:=h₁,toks:=s3.toks }->
   codeAny (model X.prog X.w) X.A (.compLoop (.ListComp elt [⟨tg,iter,[c],0⟩] scope pos) 0 (.ref it) (.ref D) (compEnvC scope cl s3.heap.objs.size X.env)) (compPost (model X.prog X.w) X.A X.xe use Q (.ref D) s3.heap.objs.size) s4:=by
  rintro s4 rfl;refine zb2 (λn s'=>∃i σ' H',Inv (yc X (Ts++F.map λj=>X.N.getD j "") scope cl s3.heap.objs.size fp s3 (upd H2 D (.lst []))) [] σ' H' s'/\tn i s'.heap/\(∀b∈fp,H' b=none)/\W i n σ' H') ?_ m0
   ⟨0,_,_,IY,tn1,λb hb=>(f3 b hb).1,w0⟩
  rintro n s5 ⟨i,σ5,H5,I5,st5,fr5,w5⟩;rcases turn i n σ5 H5 w5 with⟨stop,qn⟩|⟨go,N,hN,step⟩
  ·refine thn (T.done (yc X (Ts++F.map λj=>X.N.getD j "") scope cl s3.heap.objs.size fp s3 (upd H2 D (.lst []))) rfl rfl rfl hc i [] s5 σ5 H5 _ I5 (stat fr5) st5 stop) λr s6 ⟨hr,I6⟩=>?_
   subst hr;exact back I6 qn
  ·refine thn (T.item (yc X (Ts++F.map λj=>X.N.getD j "") scope cl s3.heap.objs.size fp s3 (upd H2 D (.lst []))) rfl rfl rfl hc i [] s5 σ5 H5 _ I5 (stat fr5) st5 go) λr s6 ⟨u,hr,h6⟩=>?_
   subst hr;refine thn h6 λ_ s7 ⟨x,H7,I7,r7,y7,st7,fr7⟩=>?_
   have I7':=I7.pinned (stat fr7) (T.obj _ _ st7);refine thn (hg cl _ fp s3 _ _ s7 σ5 H7 x u _ I7' r7 (step x H7 y7)) λ_ s8 ⟨σ8,H8,I8,q8⟩=>?_
   refine thn (ht cl _ fp s3 _ _ s8 σ8 H8 _ I8 q8) λok s81 ⟨H81,I81,q81⟩=>?_
   cases ok with
   |true=>
    rw[qg rfl] at q81 ⊢;refine thn (he cl _ fp s3 _ _ s81 σ8 H81 _ I81 q81) λev s9 ⟨y,H9,I9,r9,xs,hx,hz,n9⟩=>?_
    refine thn (ux _ s9 σ8 H9 (.ref D) [y] (.ref D) [ev] (λ_ H'=>N σ8 H') I9 rfl (.cons r9 .nil) ⟨D,xs,y,rfl,rfl,hx,hz,n9⟩) λ_ s10 ⟨z,H10,I10,_,n10⟩=>?_
    have⟨m',hm,w10⟩:=hN σ8 H10 n10;refine⟨m',hm,i+1,σ8,H10,I10.uk,T.keep _ _ _ st7 λb hb o e=>(I10.pin (b,o) (qP _ (qP _ (jc hb e)))).1,λb hb=>?_,w10⟩;have⟨o,e,d⟩:=T.obj _ _ st7 b hb;exact(I10.pin (b,o) (qP _ (qP _ (jc hb e)))).2.1
   |false=>
    rw[qm qE] at q81 ⊢;have⟨m',hm,w10⟩:=hN σ8 H81 q81;refine⟨m',hm,i+1,σ8,H81,I81.uk,T.keep _ _ _ st7 λb hb o e=>(I81.pin (b,o) (qP _ (qP _ (jc hb e)))).1,λb hb=>?_,w10⟩;have⟨o,e,d⟩:=T.obj _ _ st7 b hb;exact(I81.pin (b,o) (qP _ (qP _ (jc hb e)))).2.1
 subst hS3;subst hD;exact codeAny_compStart_list (loop _ rfl) (T.self _ 0 _ _ _ tn1 (loop _ rfl))
def zfV(hc:X.calm=true)(hi:PI X tg iter wi)(S:yq X scope)(hF:∀j∈F,∃x,X.N[j]?=some x/\scope.names.lookup x=some .free)(hg:∀cl C ex s H,PG (yc X (Ts++F.map λj=>X.N.getD j "") scope cl C ex s H) tg g)(he:∀cl C ex s H,PE (yc X (Ts++F.map λj=>X.N.getD j "") scope cl C ex s H) elt te)(ht:∀cl C ex s H,PT (yc X (Ts++F.map λj=>X.N.getD j "") scope cl C ex s H) c tc)(hs:FSx X iter:=by exact λ_=>rfl):PE X (.ListComp elt [⟨tg,iter,[c],0⟩] scope pos) (λσ H Q=>zbl Ts.length F wi g tc te (λD H'=>Q (.ref D) H') σ H):=by
 intro pins s σ H Q I h;obtain⟨cl,hcl,ko⟩:=Jc (UE I S);rw[eval_ListComp];refine mh (use:=none) rfl hs hcl S.kind S.loc (Y6 (use:=none) hc hi S hF hg he ht ko I h λs' H' D C m I' fC hm q=>?_);refine⟨m,hm,λh' hs'=>⟨.ref D,H',?_,rfl,q⟩⟩;exact I'.turned (t':=s'.toks) (λb o hb e=>hs'.extBut b o hb e) fC.1 fC.2.1 fC.2.2.2.1 fC.2.2.2.2.1 fC.2.2.2.2.2
def ziD(T:Nat)(F:LNt)(wi:TI)(g:TG)(tc:TT)(te:TE)(i:Nat):TS:=λD σ H=>zbl T F wi g tc te (λl H'=>D.nx (σ.set i (some (.ref l))) H') σ H
def Vh{x:Str}{pos' spos:Pos}{i:Nat}(hN:X.N.Nodup)(hi':X.N[i]?=some x)(hx:X.env.scope.names.lookup x=some .local)(hc:X.calm=true)(hi:PI X tg iter wi)(S:yq X scope)(hF:∀j∈F,∃x,X.N[j]?=some x/\scope.names.lookup x=some .free)(hg:∀cl C ex s H,PG (yc X (Ts++F.map λj=>X.N.getD j "") scope cl C ex s H) tg g)(he:∀cl C ex s H,PE (yc X (Ts++F.map λj=>X.N.getD j "") scope cl C ex s H) elt te)(ht:∀cl C ex s H,PT (yc X (Ts++F.map λj=>X.N.getD j "") scope cl C ex s H) c tc)(hsw:swapsWith (.ListComp elt [⟨tg,iter,[c],0⟩] scope pos) (some (.Name x pos')) spos.line X.env=pure true:=by rfl)(hs:FSx X iter:=by exact λ_=>rfl):PS X (.Assign [.Name x pos'] (.ListComp elt [⟨tg,iter,[c],0⟩] scope pos) spos) (ziD Ts.length F wi g tc te i):=by
 intro pins s σ H D I h;obtain⟨cl,hcl,ko⟩:=Jc (UE I S);rw[exec_Assign_Name_used _ _ _ _ hsw];refine qq (nD (qq ?_));show wpAny _ X.A (do let _ <-comprehension (.ListComp elt [⟨tg,iter,[c],0⟩] scope pos) scope X.env _ (newList []) false (eval iter X.env) (some (assign (.Name x pos') X.env))) _ _ s
 refine qq (k5 (mh (use:=some (assign (.Name x pos') X.env)) (Q:=λ_ s'=>SP X pins D .next s') rfl hs hcl S.kind S.loc
  (Y6 (use:=some (assign (.Name x pos') X.env)) hc hi S hF hg he ht ko I h λs' H' l C m I' fC hm q=>?_)) (λ_ s' hq=>qQ (qQ hq)) λ_ _ e=>e)
 show wpAny _ X.A (assign (.Name x pos') X.env (.ref l)) _ _ s'
 refine pL (VS I' hN hi' (.inl hx) (show RelV (.ref l) (.ref l) from rfl) (λs2 I2 hsame=>?_) (.inr hx));have⟨a,hsb,ha⟩:=hsame;have neC:C≠a:=by
  rcases ha with rfl|ha
  ·exact fC.2.1
  ·exact λz=>fC.2.2.2.2.1 x a ha z.symm
 have hm2:s2.heap.Ns C m:=hm.sameBut hsb neC;refine⟨m,hm2,λh' hs'=>⟨_,H',?_,q⟩⟩;exact I2.turned (t':=s2.toks) (λb o hb e=>hs'.extBut b o hb e) fC.1 fC.2.1 fC.2.2.2.1 fC.2.2.2.2.1 fC.2.2.2.2.2
end
end L2
namespace L2.Fu
open PySem PySem.Spec PyProof.Rows
def wB{α β:Type}(h:α->Option (Option β)):List α->Option (List β)
 |[]=>some []
 |d::r=>(h d).bind λo=>(wB h r).map λys=>match o with |some y=>y::ys|none=>ys
def uR(T:Nat)(F:LNt)(fi:RLx)(b:PyData->Ro->Option Ro)(fc:Ro->Option Bool)(fe:RPx):RLx:=λρ=>
 (fi ρ).bind λds=>if ds.length<=16777216 then wB (λd=>(b d (compEnv T F ρ)).bind λρ1=>(fc ρ1).bind λok=>if ok then (fe ρ1).map some else some none) ds else none
def tFT(K:FRx)(f:Ro->Option Bool):TT:=λσ H Q=>∃os ρ b,xD K H os σ ρ/\f ρ=some b/\∀H',Same H H'->Q b H'
def FT.pt{X:Cx}{e:Expr}{f:Ro->Option Bool}(h:FT X e f):PT X e (tFT X.K f):=by
 have⟨t,p,q⟩:=h;intro pins s σ H Q I z;have⟨os,ρ,d,R,e1,k⟩:=z;exact p pins s σ H Q I (q σ H os ρ d Q R e1 k)
def Jw{K:FRx}{T:Nat}{F:LNt}{b:PyData->Ro->Option Ro}{fc:Ro->Option Bool}{fe:RPx}{σ:St}{ρ:Ro}{H1:Hp}{os:LAd}{D:AdX}{is:LNt}{k:Addr->Hp->Prop}{J:It}{ds rs:LPd}(his:∀i∈is,i<T)(R:xD K H1 os σ ρ)(hn:ds.length<=16777216)(hD:H1 D=none)(W:Walks K H1 (offs H1 os) J ds)(hm:wB (λd=>(b d (compEnv T F ρ)).bind λρ1=>(fc ρ1).bind λok=>if ok then (fe ρ1).map some else some none) ds=some rs)(fin:∀H' xs,Same H1 H'->H' D=some (.lst xs)->Reps K (offs H' (D::os)) xs rs->k D H'):zeD T F (gF K is b) (tFT K fc) (tF K fe) k σ H1 D J:=by
 have so:∀H',Same H1 H'->Same (offs H1 os) (offs H' (D::os)):=λH' s c o z=>by
  by_cases hb:c∈os
  ·rw[xP hb] at z;cases z
  ·rw[zB hb] at z;rw[zB]
   ·exact s c o z
   ·intro w;rcases qw.mp w with w|w
    ·rw[w,hD] at z;cases z
    ·exact hb w
 have al:∀H' xs,Same H1 H'->H' D=some (.lst xs)->Al H' (D::os):=λH' xs s hx a ha=>by
  rcases qw.mp ha with z|z
  ·subst z;exact⟨_,hx⟩
  ·have⟨o,e⟩:=R.al a z;exact⟨o,s _ _ e⟩
 refine⟨λi m σ' H'=>m=ds.length - i/\i<=ds.length/\(∃ts:St,ts.length=T/\σ'=ts++F.map λj=>(σ[j]?).join)/\Same H1 H'/\∃xs done rest,H' D=some (.lst xs)/\xs.length<=i/\Reps K (offs H' (D::os)) xs done/\wB (λd=>(b d (compEnv T F ρ)).bind λρ1=>(fc ρ1).bind λok=>if ok then (fe ρ1).map some else some none) (ds.drop i)=some rest/\done++rest=rs,
  ⟨ds.length,rfl,kK _,⟨List.replicate T none,by simp,rfl⟩,yh hD _,[],[],rs,zL,qk _,.nil,hm,rfl⟩,?_⟩
 rintro i m σ' H' ⟨rfl,hi,⟨ts,hts,rfl⟩,sm,xs,done,rest,hx,hl,rp,hf,hdr⟩;obtain⟨w1,w2⟩:=W H' (D::os) (al H' xs sm hx) sm (so H' sm);by_cases hlt:i<ds.length
 ·obtain⟨d,hd⟩:∃d,ds[i]?=some d:=⟨_,qo hlt⟩;have⟨g1,g2⟩:=w1 i d hd;have ed:ds.drop i=d::ds.drop (i+1):=by
   rw[kQ hlt];rw[qo hlt] at hd;cases hd;rfl
  rw[ed] at hf;have⟨o,e,hf⟩:=bind_some hf;have⟨ys,hf2,ho⟩:=map_some hf;have⟨ρ',e1,e2⟩:=bind_some e;have⟨ok,e3,e4⟩:=bind_some e2;refine .inr ⟨g1,λσ2 H2=>i+1<=ds.length/\(∃ts:St,ts.length=T/\σ2=ts++F.map λj=>(σ[j]?).join)/\Same H1 H2/\∃xs done rest,H2 D=some (.lst xs)/\xs.length<=i+1/\Reps K (offs H2 (D::os)) xs done/\wB (λd=>(b d (compEnv T F ρ)).bind λρ1=>(fc ρ1).bind λok=>if ok then (fe ρ1).map some else some none) (ds.drop (i+1))=some rest/\done++rest=rs,?_,?_⟩
  ·rintro σ2 H2 ⟨h1,h2,h3,h4⟩;exact⟨ds.length - (i+1),by omega,rfl,h1,h2,h3,h4⟩
  ·intro x H2 hy;have⟨s2,rx⟩:=g2 x H2 hy;refine⟨D::os,d,compEnv T F ρ,ρ',rx,e1,λσ2 st=>?_⟩;have R2:xD K H2 (D::os) (ts++F.map λj=>(σ[j]?).join) (compEnv T F ρ):=YF T F R hD (sm.trans s2) (s2 _ _ hx) hts;have hts2:∃ts':St,ts'.length=T/\σ2=ts'++F.map λj=>(σ[j]?).join:=st.tail his hts rfl
   refine⟨D::os,ρ',ok,R2.sets st,e3,λH31 s31=>?_⟩;cases ok with
   |true=>
    rw[qg rfl] at e4 ⊢;have⟨r,e5,e6⟩:=map_some e4;subst e6;refine⟨D::os,ρ',r,(R2.sets st).same s31,e5,λv H4 s4 rv=>?_⟩;refine⟨xs,s4 _ _ (s31 _ _ (s2 _ _ hx)),?_,hlt,hts2,(((sm.trans s2).trans s31).trans s4).V5 hD _,xs++[v],done++[r],ys,zL,by rw[qx];exact nj hl,?_,hf2,?_⟩
    ·show xs.length<16777216
     omega
    ·rw[jw];exact(rp.same (zr ((s2.trans s31).trans s4) _)).append (.cons rv .nil)
    ·rw[<-hdr,<-ho,kI];rfl
   |false=>
    rw[qm qE] at e4 ⊢;cases e4;refine⟨hlt,hts2,(sm.trans s2).trans s31,xs,done,ys,s31 _ _ (s2 _ _ hx),pj hl,rp.same (zr (s2.trans s31) _),hf2,?_⟩;rw[<-hdr,<-ho]
 ·have e:i=ds.length:=by omega
  subst e;rw[nk] at hf;cases hf;rw[kf] at hdr;subst hdr;exact .inl ⟨w2,fin H' xs sm hx rp⟩
section
variable{X:Cx}{elt tg iter c:Expr}{scope:Scope}{pos:Pos}{Ts:LSr}{F:LNt}{is:LNt}{fi:RLx}{b:PyData->Ro->Option Ro}{fc:Ro->Option Bool}{fe:RPx}
def zfC(hc:X.calm=true)(hi:FIB X tg iter fi)(S:yq X scope)(hF:∀j∈F,∃x,X.N[j]?=some x/\scope.names.lookup x=some .free)(hg:∀cl C ex s H,FG (yc X (Ts++F.map λj=>X.N.getD j "") scope cl C ex s H) tg is b)(ht:∀cl C ex s H,FT (yc X (Ts++F.map λj=>X.N.getD j "") scope cl C ex s H) c fc)(he:∀cl C ex s H,FE (yc X (Ts++F.map λj=>X.N.getD j "") scope cl C ex s H) elt fe)(his:∀i∈is,i<Ts.length:=by decide)(hs:FSx X iter:=by exact λ_=>rfl):FL X (.ListComp elt [⟨tg,iter,[c],0⟩] scope pos) (uR Ts.length F fi b fc fe):=by
 have⟨wi,pi,qi⟩:=hi;refine⟨_,zfV (Ts:=Ts) (F:=F) (g:=gF X.K is b) (tc:=tFT X.K fc) (te:=tF X.K fe) hc pi S hF hg (λcl C ex s H=>(he cl C ex s H).pe) (λcl C ex s H=>(ht cl C ex s H).pt) hs,λσ H os ρ rs Q R q k=>?_⟩;have⟨ds,e1,q⟩:=bind_some q;split at q
 ·rename_i hl;refine qi σ H os ρ ds _ R e1 λJ H' s W D hD=>?_
  exact Jw his (R.same s) hl hD W q λH2 xs s2 hx r=>k D xs H2 (s.free hD) (s.trans s2) hx r
 ·cases q
def ze9(i:Nat){x:Str}{pos' spos:Pos}(hN:X.N.Nodup)(hc:X.calm=true)(hi:FIB X tg iter fi)(S:yq X scope)(hF:∀j∈F,∃x,X.N[j]?=some x/\scope.names.lookup x=some .free)(hg:∀cl C ex s H,FG (yc X (Ts++F.map λj=>X.N.getD j "") scope cl C ex s H) tg is b)(ht:∀cl C ex s H,FT (yc X (Ts++F.map λj=>X.N.getD j "") scope cl C ex s H) c fc)(he:∀cl C ex s H,FE (yc X (Ts++F.map λj=>X.N.getD j "") scope cl C ex s H) elt fe)(his:∀i∈is,i<Ts.length:=by decide)(hi':X.N[i]?=some x:=by rfl)(hx:X.env.scope.names.lookup x=some .local:=by rfl)(hsw:swapsWith (.ListComp elt [⟨tg,iter,[c],0⟩] scope pos) (some (.Name x pos')) spos.line X.env=pure true:=by rfl)(hs:FSx X iter:=by exact λ_=>rfl):FS X (.Assign [.Name x pos'] (.ListComp elt [⟨tg,iter,[c],0⟩] scope pos) spos) (x8 i (uR Ts.length F fi b fc fe)):=by
 have⟨wi,pi,qi⟩:=hi;refine⟨_,Vh (Ts:=Ts) (F:=F) (g:=gF X.K is b) (tc:=tFT X.K fc) (te:=tF X.K fe) hN hi' hx hc pi S hF hg (λcl C ex s H=>(he cl C ex s H).pe) (λcl C ex s H=>(ht cl C ex s H).pt) hsw hs,λH0 os0 D σ H os ρ r R q k=>?_⟩;have⟨ds,e1,q⟩:=bind_some q;cases q;have⟨es,e1,q⟩:=bind_some e1;split at q
 ·rename_i hl;refine qi σ H os ρ es _ R.rel e1 λJ H' s W D hD=>?_
  exact Jw his (R.rel.same s) hl hD W q λH2 xs s2 hx r=>k _ _ _ (R.ZU (s.free hD) (s.trans s2) hx r) (jI (s.free hD) (s.trans s2))
 ·cases q
end
section
variable{X:Cx}{e:Expr}{pos apos cpos p1:Pos}
theorem v8{K:FRx}{H:Hp}:∀{xs:List V} {ds:LPd} (j:Nat),Reps K H xs ds->Reps K H (xs.eraseIdx j) (ds.eraseIdx j)
 |_,_,_,.nil=>.nil
 |_,_,0,.cons _ q=>q
 |_,_,j+1,.cons h q=>.cons h (v8 j q)
end
def zd8:bootBuiltins "max"=some (.builtin "max"):=by decide+kernel
def Vn:RFx:=(sq (x8 2 (zhd (vL (aC (zd uq (aC (zd yb (aC (gv 1) a0)) a0)) a0)) (zd yb (aC (gv 0) a0))))
 (frS 2 (retS (zd wW (aC (gv 0) (aC (gv 2) (aC (gv 1) a0)))))))
def u6:LPx:=fnF 3 2 Vn
def zcD:RFx:=(sq (x8 2 (zZ 2 [] (UQ true true (aC (op2 ixD (gv 0) (cst (.int 1))) (aC (op2 ixD (gv 1) (cst (.int 1))) a0))) (b2 (bN 0) (bN 1)) (zd u6 (aC (gv 0) (aC (gv 1) a0)))))
 (retS (yM (aC (op2 Jl (op2 ixD (gv 0) (cst (.int 0))) (op2 ixD (gv 1) (cst (.int 0)))) (aC (zd zX (aC (gb 2) a0)) (aC (op2 Jl (op2 ixD (gv 0) (cst (.int 2))) (op2 ixD (gv 1) (cst (.int 2)))) a0))))))
def Yf:LPx:=fnF 3 2 zcD
end L2.Fu
namespace L2.Fu
open PySem WS WD
open PySem.Builtin.Int (intBits)
def zef{f:RLx}{g:RPx}{ρ:Ro}{d:PdX}{n:Nat}(h1:f ρ=some [d])(h2:g ρ=some (.int (n:Int)))(hn:n<=1000):zhd f g ρ=some ((List.range n).map λ_=>d):=by
 unfold zhd;rw[h1,qr,h2];dsimp only;rw[qg (by refine⟨?_,?_,?_⟩<;>first |omega|simp;omega),kq,Y0]
def J2{g:RLx}{ρ:Ro}{ds:LPd}(h:g ρ=some ds)(hl:ds.length<=16777216):vL g ρ=some ds:=by
 unfold vL;rw[h,qr,qg hl]
def ZQ{n m:Nat}{f g:Q2x}(hn:n<=42)(hm:m<=42):u6 [xy n f,xy m g]=some (xy (n+m) (jnM n f (λ_ _=>0) g)):=by
 refine zM rfl ?_;refine(zq (yJ (d:=(List.range n).map λ_=>yy m λ_=>0) ?_)).trans ?_
 ·refine zef (d:=yy m λ_=>0) ?_ ((zc rfl).trans (xN n _)) (by omega);exact J2 (zk ((zc (zk ((zc rfl).trans (xN m _)) rfl)).trans (Zq (by omega))) rfl) (by show 1<=16777216;decide)
 ·exact zF ((zc rfl).trans (YN hn hm))
def xT(n:Nat)(st su:Q3x):Nat->Nat->Nat->Rat:=λg=>jnM n (st g) (λ_ _=>0) (su g)
def zfu{n m s:Nat}{fi gi:Q1x}{st su:Q3x}{la lb:Q1x}(hn:n<=42)(hm:m<=42)(hs:s<=42):Yf [zm n s fi st la,zm m s gi su lb]=some (zm (n+m) s (jn n fi gi) (xT n st su) (jn n la lb)):=by
 refine zM rfl ?_;refine(zq (yJ (d:=(List.range s).map λg=>xy (n+m) (xT n st su g)) ?_)).trans (zF ?_)
 ·refine yi (xs:=List.range s) (e:=λg=>.tuple [xy n (st g),xy m (su g)]) ((zix (zk ((zb rfl rfl).trans j7) (zk ((zb rfl rfl).trans j7) rfl))).trans (qG some (JO _ _ s))) (by simpa using qB hs (by decide)) λg hg=>?_
  exact Vg.trans ((zc rfl).trans (ZQ hn hm))
 ·exact(Ul ((zb ((zb rfl rfl).trans jT) ((zb rfl rfl).trans jT)).trans (wF (by omega))) ((zc rfl).trans rfl) ((zb ((zb rfl rfl).trans ug) ((zb rfl rfl).trans ug)).trans (wF (by omega)))).trans rfl
theorem VP{n m:Nat}{st su:Q3x}{la lb:Q1x}:∀(ws:LNt)(r u v:Q1x),(∀x,x<n+m->r x=jn n u v x)->wt (n+m) (xT n st su) r (jn n la lb) ws=wt n st u la ws+wt m su v lb ws
 |[],r,u,v,h=>by
  show sumTo (n+m) (λx=>r x*jn n la lb x)=sumTo n (λx=>u x*la x)+sumTo m (λx=>v x*lb x)
  rw[jA,zi n (g:=λx=>u x*la x) λx hx=>by rw[h x (by omega),zdW hx,zdW hx],zi m (g:=λx=>v x*lb x) λx hx=>by rw[h _ (by omega),zco,zco]]
 |g::ws,r,u,v,h=>by
  show wt (n+m) (xT n st su) (led (n+m) r (xT n st su g)) (jn n la lb) ws=wt n st (led n u (st g)) la ws+wt m su (led m v (su g)) lb ws
  refine VP ws _ _ _ λx hx=>?_
  show sumTo (n+m) (λa=>r a*xT n st su g a x)=_
  rw[jA];have c1:∀a,a<n->xT n st su g a=jn n (st g a) λ_=>0:=λa ha=>qg ha
  have c2:∀b,xT n st su g (n+b)=jn n (λ_=>0) (su g b):=λb=>by
   unfold xT jnM;rw[qm (by omega),show n+b - n=b by omega]
  by_cases hxn:x<n
  ·rw[zdW hxn,zi n (g:=λa=>u a*st g a x) λa ha=>by rw[h a (by omega),zdW ha,c1 a ha,zdW hxn],zi m (g:=λ_=>0) λb hb=>by rw[c2,zdW hxn];grind,jK];show led n u (st g) x+0=led n u (st g) x
   grind
  ·obtain⟨y,rfl⟩:∃y,x=n+y:=⟨x - n,by omega⟩;rw[zco,zi n (g:=λ_=>0) λa ha=>by rw[c1 a ha,zco];grind,jK,zi m (g:=λb=>v b*su g b y) λb hb=>by rw[h _ (by omega),zco,c2,zco]];show 0+led m v (su g) y=led m v (su g) y
   grind
section
variable{n m s s':Nat}{fi gi:Q1x}{st su:Q3x}{la lb:Q1x}
def U0{ρ:Ro}{i:Nat}(h:gv i ρ=some (zm n s fi st la)):zd yb (aC (op2 ixD (gv i) (cst (.int 1))) a0) ρ=some (.int (s:Int)):=(zc (zk ((zb h rfl).trans j7) rfl)).trans (xN s _)
end
end L2.Fu
namespace L2.Fu
open PySem PySem.Spec PyProof.Rows
def VB:RFx:=(sq (zO 2 (zd zX (aC (yB (zZ 1 [] (yI (op2 ixD (gv 0) (cst (.int 0)))) (bN 0) (yM (aC (cst (.int 0)) (aC (cst (.int 1)) a0))))) a0)))
 (sq (zO 3 (zd zX (aC (yB (zZ 1 [] (yI (op2 ixD (gv 1) (cst (.int 0)))) (bN 0) (yM (aC (cst (.int 0)) (aC (cst (.int 1)) a0))))) a0)))
 (sq (x8 4 (vL a0))
 (sq (jv (xl (aC (zd yb (aC (op2 ixD (gv 0) (cst (.int 1))) a0)) a0)) (bN 5) (sq (x8 6 (zZ 1 [3] (yI (op2 ixD (op2 ixD (gv 0) (cst (.int 1))) (gv 5))) (bN 0) (op2 Jl (gv 0) (gv 1))))
 (apS 4 (zd zX (aC (yB (zfN (gk 6) (zZ 1 [2] (yI (op2 ixD (op2 ixD (gv 1) (cst (.int 1))) (gv 5))) (bN 0) (op2 Jl (gv 1) (gv 0))))) a0)))))
 (retS (yM (aC (op2 Jl (op2 ixD (gv 0) (cst (.int 0))) (op2 ixD (gv 1) (cst (.int 0)))) (aC (zd zX (aC (gb 4) a0)) (aC (op2 Jl (op2 ixD (gv 0) (cst (.int 2))) (op2 ixD (gv 1) (cst (.int 2)))) a0)))))))))
def xS:LPx:=fnF 7 2 VB
def uA:RFx:=(sq (x8 4 (xc vD (aC (gv 0) a0)))
 (sq (siS 4 (gv 2) (zd xu (aC (op2 ixD (gb 4) (gv 2)) (aC (zd yC (aC (gv 3) (aC (op2 ixD (gb 4) (gv 1)) a0))) a0))))
 (UJ (gk 4))))
def yS:LLx:=fnL 5 4 uA
def Wt:RFx:=(sq (zO 4 (yM (aC (op2 Wk (cst (.int 0)) (op2 ixD (gv 3) (cst (.int 0)))) (aC (op2 ixD (gv 3) (cst (.int 1))) a0))))
 (sq (x8 5 (xc yS (aC (op2 ixD (gv 0) (cst (.int 0))) (aC (gv 1) (aC (gv 2) (aC (gv 3) a0))))))
 (sq (x8 6 (xc yS (aC (op2 ixD (gv 0) (cst (.int 2))) (aC (gv 2) (aC (gv 1) (aC (gv 4) a0))))))
 (sq (x8 7 (vL a0))
 (sq (jv (yI (op2 ixD (gv 0) (cst (.int 1)))) (bN 8) (sq (x8 9 (zZ 1 [1,2,3] (yI (gv 8)) (bN 0) (yB (xc yS (aC (gv 0) (aC (gv 1) (aC (gv 2) (aC (gv 3) a0))))))))
 (sq (siS 9 (gv 1) (yB (zZ 1 [1,2,4,9] (xl (aC (zd yb (aC (gb 9) a0)) a0)) (bN 0) (zd xu (aC (op2 ixD (op2 ixD (gb 4) (gv 1)) (gv 0)) (aC (zd yC (aC (gv 3) (aC (op2 ixD (op2 ixD (gb 4) (gv 2)) (gv 0)) a0))) a0))))))
 (apS 7 (zd zX (aC (yB (zZ 1 [] (yI (gb 9)) (bN 0) (zd zX (aC (gv 0) a0)))) a0))))))
 (retS (yM (aC (zd zX (aC (gb 5) a0)) (aC (zd zX (aC (gb 7) a0)) (aC (zd zX (aC (gb 6) a0)) a0))))))))))
def wK:LPx:=fnF 10 4 Wt
def zan:RFx:=(sq (zO 3 (zd yb (aC (op2 ixD (gv 0) (cst (.int 0))) a0)))
 (sq (zO 4 (zd yb (aC (op2 ixD (gv 0) (cst (.int 1))) a0)))
 (sq (ifS (zA (op2 gtI (gv 2) (cst (.int 0)))) (sq (zO 5 (zd yZ (aC (gv 1) (aC (gv 2) (aC (gv 4) a0)))))
 (sq (zO 6 (zd zX (aC (yB (zZ 1 [] (xl (aC (gv 2) a0)) (bN 0) (yM (aC (cst (.int 0)) (aC (cst (.int 1)) a0))))) a0)))
 (ifS (zA (op2 eqD (op2 yr (gv 1) (cst (.int 2))) (cst (.int 0)))) (zO 0 (zd xS (aC (gv 0) (aC (yM (aC (gv 6) (aC (op2 ixD (gv 5) (cst (.int 1))) (aC (op2 ixD (gv 5) (cst (.int 2))) a0)))) a0)))) (zO 0 (zd xS (aC (gv 0) (aC (yM (aC (op2 ixD (gv 5) (cst (.int 0))) (aC (op2 ixD (gv 5) (cst (.int 1))) (aC (gv 6) a0)))) a0))))))) s0)
 (sq (zO 3 (op2 xb (gv 3) (gv 2)))
 (sq (jv (xl (aC (cst (.int 3)) a0)) (bN 7) (sq (zO 1 (op2 yr (op2 xb (op2 yA (gv 1) (cst (.int 48271))) (cst (.int 31))) (cst (.int 2147483647))))
 (sq (zO 8 (op2 yr (op2 yg (gv 1) (cst (.int 5))) (zd maxD (aC (cst (.int 1)) (aC (gv 3) a0)))))
 (sq (zO 9 (op2 yr (op2 yg (gv 1) (cst (.int 35))) (zd maxD (aC (cst (.int 1)) (aC (gv 3) a0)))))
 (ifS (zA (op2 neD (gv 8) (gv 9))) (zO 0 (zd wK (aC (gv 0) (aC (gv 8) (aC (gv 9) (aC (zd xa (aC (op2 yg (gv 1) (cst (.int 300))) a0)) a0)))))) s0)))))
 (retS (gv 0)))))))
def ve:LPx:=fnF 10 3 zan
end L2.Fu
namespace L2.Fu
open PySem PySem.Spec PyProof.Rows WS WD
def zhC{i:Nat}{fi f:RPx}{ρ:Ro}{ds:LPd}{d:PdX}{a:Nat}(h1:gk i ρ=some ds)(h2:f ρ=some d)(h3:fi ρ=some (.int (a:Int)))(h4:a<ds.length):siS i fi f ρ=some (.nx (ρ.set i (.ow (ds.set a d)))):=by
 unfold siS;rw[h1,qr,h2,qr,h3];show(ixN ds.length (a:Int)).bind _=_
 have e:ixN ds.length (a:Int)=some a:=by
  unfold ixN;rw[qg (by omega),qg (by omega)];simp
 rw[e];rfl
def set_range{α:Type}(n p:Nat)(f:Nat->α)(x:α):((List.range n).map f).set p x=(List.range n).map λi=>if i=p then x else f i:=by
 refine gL λi=>?_
 rw[gy,qp,qp,qe,qu];by_cases hi:i<n
 ·rw[ka hi];by_cases hip:p=i
  ·subst hip;rw[qg rfl,qg hi];show some x=some (if p=p then x else f p)
   rw[qg rfl]
  ·rw[qm hip];show some (f i)=some (if i=p then x else f i)
   rw[qm (gw hip)]
 ·rw[kH (l:=List.range n) (by simpa using kh hi)];by_cases hip:p=i
  ·subst hip;rw[qg rfl,qm hi];rfl
  ·rw[qm hip];rfl
section
variable{n m s:Nat}{fi gi:Q1x}{st su:Q3x}{la lb:Q1x}
def uJ{n i:Nat}{d:Nat->PyData}(h:i<n):ixD (.list ((List.range n).map d)) (.int (i:Int))=some (d i):=UZ (by rw[qp,ka h];rfl)
def wX(hn:n<=42)(hm:m<=42)(hs:s<=42):xS [zm n s fi st la,zm m s gi su lb]=some (zm (n+m) s (jn n fi gi) (xT n st su) (jn n la lb)):=by
 have nz:∀(k:Nat)(f:Q1x)(it:RPx)(ρ:Ro),k<=42->it ρ=some (yy k f)->zd zX (aC (yB (zZ 1 [] (yI it) (bN 0) (yM (aC (cst (.int 0)) (aC (cst (.int 1)) a0))))) a0) ρ=some (yy k λ_=>0):=λk f it ρ hk h=>
  (zc (xs:=[.list ((List.range k).map λ_=>fr 0)]) (zk (yj (yi (xs:=List.range k) (e:=λi=>fr (f i)) (Je h) (by rw[qu];omega) λi _=>yY.trans rfl)) rfl)).trans rfl
 obtain⟨ρ1,e1,o5,o6,rfl⟩:=u3 (n:=s) (g:=aC (zd yb (aC (op2 ixD (gv 0) (cst (.int 1))) a0)) a0) (bd:=bN 5)
  (b:=sq (x8 6 (zZ 1 [3] (yI (op2 ixD (op2 ixD (gv 0) (cst (.int 1))) (gv 5))) (bN 0) (op2 Jl (gv 0) (gv 1))))
   (apS 4 (zd zX (aC (yB (zfN (gk 6) (zZ 1 [2] (yI (op2 ixD (op2 ixD (gv 1) (cst (.int 1))) (gv 5))) (bN 0) (op2 Jl (gv 1) (gv 0))))) a0))))
  (ρ0:=[.pu (zm n s fi st la),.pu (zm m s gi su lb),.pu (yy n λ_=>0),.pu (yy m λ_=>0),.ow [],.no,.no])
  (λi ρ=>∃o5 o6,ρ=[.pu (zm n s fi st la),.pu (zm m s gi su lb),.pu (yy n λ_=>0),.pu (yy m λ_=>0),.ow ((List.range i).map λg=>xy (n+m) (xT n st su g)),o5,o6])
  (zk ((zc (zk ((zb rfl rfl).trans j7) rfl)).trans (xN s _)) rfl) (by omega) ⟨.no,.no,rfl⟩ λg ρ hg ⟨o5,o6,q⟩=>by
   subst q;refine⟨_,_,rfl,(zq (yJ (d:=(List.range n).map λa=>yy (n+m) (jn n (st g a) λ_=>0)) ?_)).trans (JI (d:=xy (n+m) (xT n st su g)) rfl ?_ (by rw[qe,qu];omega)),.pu (.int (g:Int)),.ow ((List.range n).map λa=>yy (n+m) (jn n (st g a) λ_=>0)),?_⟩
   ·exact yi (xs:=List.range n) (e:=λa=>yy n (st g a)) (Je ((zb ((zb rfl rfl).trans j7) rfl).trans (Yw hg))) (by rw[qu];omega) λa _=>yY.trans ((zb rfl rfl).trans (wF (by omega)))
   ·refine(zc (xs:=[.list ((List.range (n+m)).map λx=>yy (n+m) (xT n st su g x))]) (zk (yj ?_) rfl)).trans rfl;refine(zer rfl (yi (xs:=List.range m) (e:=λb=>yy m (su g b)) (d:=λb=>yy (n+m) (jn n (λ_=>0) (su g b))) (Je ((zb ((zb rfl rfl).trans j7) rfl).trans (Yw hg))) (by rw[qu];omega) λb _=>yY.trans ((zb rfl rfl).trans (wF (by omega)))) (by rw[qe,qe,qu,qu];omega)).trans (qG some ?_);refine V4 n m _ _ _ (λi hi=>?_) λi hi=>?_
    ·show _=yy (n+m) (jnM n (st g) (λ_ _=>0) (su g) i)
     unfold jnM;rw[qg hi]
    ·show _=yy (n+m) (jnM n (st g) (λ_ _=>0) (su g) (n+i))
     unfold jnM;rw[qm (by omega),show n+i - n=i by omega]
   ·rw[gH,qS];rfl
 refine zM rfl ?_;refine(zq (zD (nz n fi _ _ hn ((zb rfl rfl).trans jT)))).trans ((zq (zD (nz m gi _ _ hm ((zb rfl rfl).trans jT)))).trans ((zq (yJ (d:=[]) rfl)).trans ((zq e1).trans (zF ?_))));exact(Ul ((zb ((zb rfl rfl).trans jT) ((zb rfl rfl).trans jT)).trans (wF (by omega))) ((zc rfl).trans rfl) ((zb ((zb rfl rfl).trans ug) ((zb rfl rfl).trans ug)).trans (wF (by omega)))).trans rfl
def trn(i j:Nat)(c:Rat)(f:Q1x):Nat->Rat:=λx=>if x=j then f j+c*f i else f x
def w9{t:Bool}{i j:Nat}{c:Rat}{f:Q1x}{k:Nat}(hn:n<=42)(hi:i<n)(hj:j<n)(hk:k<=300)(hf:∀x,x<n->Sk k (f x))(hc:Sk 1 c):yS [qd t n f,.int (i:Int),.int (j:Int),fr c]=some ((List.range n).map λx=>fr (trn i j c f x)):=by
 have hl:vD [qd t n f]=some ((List.range n).map λx=>fr (f x)):=by cases t<;>rfl
 refine wY rfl ?_;refine(zq (yJ ((xr rfl).trans hl))).trans ((zq (zhC (a:=j) (d:=fr (f j+c*f i)) rfl ?_ rfl (by rw[qe,qu];exact hj))).trans (jX ?_))
 ·exact(zc (zk ((zb rfl rfl).trans (uJ hj)) (zk ((zc (zk rfl (zk ((zb rfl rfl).trans (uJ hi)) rfl))).trans (uQ (hc.bq (by omega)) ((hf i hi).bq (by omega)))) rfl))).trans (wJ ((hf j hj).bq (by omega)) ((hc.mul (hf i hi)).bq (by omega)))
 ·rw[set_range];show some _=_
  refine qG some (gc λx _=>?_);unfold trn;by_cases q:x=j
  ·rw[qg q,qg q]
  ·rw[qm q,qm q]
def zj3{i j:Nat}{c:Rat}{f:Q1x}{k:Nat}(hi:i<n)(hj:j<n)(hf:∀x,x<n->Sk k (f x))(hc:Sk 1 c):∀x,x<n->Sk (k+2) (trn i j c f x):=λx hx=>by
 unfold trn;split
 ·have a:Sk (k+1) (c*f i):=by
   have:=hc.mul (hf i hi);rw[pq] at this;exact this
  exact((hf j hj).mono (by omega)).add a
 ·exact(hf x hx).mono (by omega)
def wU(i j:Nat)(c:Rat)(st:Q3x):Nat->Nat->Nat->Rat:=λg a b=>if a=i then trn i j c (st g i) b+-c*trn i j c (st g j) b else trn i j c (st g a) b
def zdk{k:Nat}{q:Rat}(h:Sk k q):Sk k (-q):=by
 have⟨hm,x,e,hx⟩:=h;refine⟨hm,-x,?_,by rw[nK];exact hx⟩;rw[pE];grind
def zkH(c:Rat):PyData.tuple [.int (0 - c.num),.int (c.den:Int)]=fr (-c):=by
 unfold fr;rw[Rat.neg_num,Rat.neg_den];congr 3;omega
def zhf{i j:Nat}{c:Rat}{k:Nat}(hn:n<=42)(hs:s<=42)(hi:i<n)(hj:j<n)(hk:k<=300)(A:Mach n s fi st la k)(hc:Sk 1 c):wK [zm n s fi st la,.int (i:Int),.int (j:Int),fr c]=some (zm n s (trn i j c fi) (wU i j c st) (trn j i (-c) la)):=by
 obtain⟨ρ1,e1,o8,o9,rfl⟩:=w8 (ds:=(List.range s).map λg=>xy n (st g)) (it:=yI (op2 ixD (gv 0) (cst (.int 1)))) (bd:=bN 8)
  (b:=sq (x8 9 (zZ 1 [1,2,3] (yI (gv 8)) (bN 0) (yB (xc yS (aC (gv 0) (aC (gv 1) (aC (gv 2) (aC (gv 3) a0))))))))
   (sq (siS 9 (gv 1) (yB (zZ 1 [1,2,4,9] (xl (aC (zd yb (aC (gb 9) a0)) a0)) (bN 0) (zd xu (aC (op2 ixD (op2 ixD (gb 4) (gv 1)) (gv 0)) (aC (zd yC (aC (gv 3) (aC (op2 ixD (op2 ixD (gb 4) (gv 2)) (gv 0)) a0))) a0))))))
   (apS 7 (zd zX (aC (yB (zZ 1 [] (yI (gb 9)) (bN 0) (zd zX (aC (gv 0) a0)))) a0)))))
  (ρ0:=[.pu (zm n s fi st la),.pu (.int (i:Int)),.pu (.int (j:Int)),.pu (fr c),.pu (fr (-c)),.ow ((List.range n).map λx=>fr (trn i j c fi x)),.ow ((List.range n).map λx=>fr (trn j i (-c) la x)),.ow [],.no,.no])
  (λg ρ=>∃o8 o9,ρ=[.pu (zm n s fi st la),.pu (.int (i:Int)),.pu (.int (j:Int)),.pu (fr c),.pu (fr (-c)),.ow ((List.range n).map λx=>fr (trn i j c fi x)),.ow ((List.range n).map λx=>fr (trn j i (-c) la x)),.ow ((List.range g).map λg=>xy n (wU i j c st g)),o8,o9])
  (Je ((zb rfl rfl).trans j7)) ⟨.no,.no,rfl⟩ λg d ρ hd ⟨o8,o9,q⟩=>by
   subst q;rw[qp] at hd;obtain⟨g',hg',rfl⟩:=map_some hd;have hgs:g'<s:=qK.mp (qH hg')
   have:g'=g:=by
    obtain⟨h1,h2⟩:=qf.mp hg';rw[List.getElem_range] at h2;exact h2.symm
   subst this;have R:∀a,a<n->∀x,x<n->Sk (k+2) (trn i j c (st g' a) x):=λa ha=>zj3 hi hj (λx hx=>A.st g' a x hgs ha hx) hc
   refine⟨_,_,rfl,(zq (yJ (d:=(List.range n).map λa=>.list ((List.range n).map λx=>fr (trn i j c (st g' a) x))) ?_)).trans ((zq (zhC (a:=i) (d:=.list ((List.range n).map λb=>fr (trn i j c (st g' i) b+-c*trn i j c (st g' j) b))) rfl (yj ?_) rfl (by rw[qe,qu];exact hi))).trans (JI (d:=xy n (wU i j c st g')) rfl ?_ ?_)),.pu (xy n (st g')),.ow (((List.range n).map λa=>PyData.list ((List.range n).map λx=>fr (trn i j c (st g' a) x))).set i (.list ((List.range n).map λb=>fr (trn i j c (st g' i) b+-c*trn i j c (st g' j) b)))),?_⟩
   ·exact yi (xs:=List.range n) (e:=λa=>yy n (st g' a)) rfl (by rw[qu];omega) λa ha=>yY.trans (yj ((xr rfl).trans (w9 (t:=true) hn hi hj hk (λx hx=>A.st g' a x hgs (qK.mp ha) hx) hc)))
   ·refine j9 (n:=n) (zk ((zc rfl).trans (show yb [.list ((List.range n).map _)]=_ from ?_)) rfl) (by omega) λb hb=>yY.trans ?_
    ·show some (PyData.int (((List.range n).map _).length:Int))=_
     rw[qe,qu]
    ·exact(zc (zk ((zb ((zb rfl rfl).trans (uJ hi)) rfl).trans (uJ hb)) (zk ((zc (zk rfl (zk ((zb ((zb rfl rfl).trans (uJ hj)) rfl).trans (uJ hb)) rfl))).trans (uQ ((zdk hc).bq (by omega)) ((R j hj b hb).bq (by omega)))) rfl))).trans (wJ ((R i hi b hb).bq (by omega)) (((zdk hc).mul (R j hj b hb)).bq (by omega)))
   ·rw[set_range];refine(zc (xs:=[.list ((List.range n).map λa=>yy n (wU i j c st g' a))]) (zk (yj (yi (xs:=List.range n) (e:=λa=>if a=i then PyData.list ((List.range n).map λb=>fr (trn i j c (st g' i) b+-c*trn i j c (st g' j) b)) else PyData.list ((List.range n).map λx=>fr (trn i j c (st g' a) x))) rfl (by rw[qu];omega) λa ha=>yY.trans ?_)) rfl)).trans rfl;show zd zX (aC (gv 0) a0) [.pu (if a=i then _ else _)]=some (yy n λb=>wU i j c st g' a b)
    unfold wU;by_cases q:a=i
    ·rw[qg q];refine((zc rfl).trans rfl).trans ?_;show some (PyData.tuple _)=some (PyData.tuple _)
     refine qG (λl=>some (PyData.tuple l)) (gc λb _=>?_);exact qG fr (qg q).symm
    ·rw[qm q];refine((zc rfl).trans rfl).trans ?_;show some (PyData.tuple _)=some (PyData.tuple _)
     refine qG (λl=>some (PyData.tuple l)) (gc λb _=>?_);exact qG fr (qm q).symm
   ·rw[qe,qu];omega
   ·rw[gH,qS];rfl
 rw[qe,qu] at e1;refine zM rfl ?_;refine(zq (zD (d:=fr (-c)) ((zch (x:=.int (0 - c.num)) (y:=.int (c.den:Int)) rfl rfl).trans (qG some (zkH c))))).trans ?_;refine(zq (yJ ((xr (zk ((zb rfl rfl).trans jT) rfl)).trans (w9 (t:=true) hn hi hj hk A.fi hc)))).trans ?_;refine(zq (yJ ((xr (zk ((zb rfl rfl).trans ug) rfl)).trans (w9 (t:=true) hn hj hi hk A.la (zdk hc))))).trans ?_;refine(zq (yJ (d:=[]) rfl)).trans ((zq e1).trans (zF ?_));exact(Ul ((zc rfl).trans rfl) ((zc rfl).trans rfl) ((zc rfl).trans rfl)).trans rfl
end
section
variable{n m s:Nat}{fi gi:Q1x}{st su:Q3x}{la lb:Q1x}
theorem wq(F:Q1x)(G:Rat){p:Nat}:∀n,p<n->sumTo n (λa=>if a=p then F a+G else F a)=sumTo n F+G
 |0,h=>absurd h (kN _)
 |n+1,h=>by
  show sumTo n (λa=>if a=p then F a+G else F a)+(if n=p then F n+G else F n)=(sumTo n F+F n)+G
  by_cases e:n=p
  ·subst e;rw[qg rfl,zi n (g:=F) λi hi=>qm (by omega)];grind
  ·rw[qm e,wq F G n (by omega)];grind
def zaj{i j:Nat}{c:Rat}(hi:i<n)(hj:j<n)(hij:i≠j)(r:Q1x)(g:Nat):∀b,led n (trn i j c r) (wU i j c st g) b=trn i j c (led n r (st g)) b:=λb=>by
 have e1:led n (trn i j c r) (wU i j c st g) b=sumTo n λa=>r a*trn i j c (st g a) b:=by
  show sumTo n (λa=>trn i j c r a*wU i j c st g a b)=_
  have q:∀a,trn i j c r a*wU i j c st g a b=if a=i then (λa=>if a=j then r a*trn i j c (st g a) b+c*r i*trn i j c (st g j) b else r a*trn i j c (st g a) b) a+-(c*r i*trn i j c (st g j) b) else (λa=>if a=j then r a*trn i j c (st g a) b+c*r i*trn i j c (st g j) b else r a*trn i j c (st g a) b) a:=λa=>by
   show(if a=j then r j+c*r i else r a)*(if a=i then trn i j c (st g i) b+-c*trn i j c (st g j) b else trn i j c (st g a) b)=_
   by_cases q1:a=i
   ·subst q1;rw[qm hij,qg rfl,qg rfl];show _=(if a=j then _ else _)+_
    rw[qm hij];grind
   ·rw[qm q1,qm q1];show _=if a=j then _ else _
    by_cases q2:a=j
    ·subst q2;rw[qg rfl,qg rfl];grind
    ·rw[qm q2,qm q2]
  rw[zi n λa _=>q a,wq _ _ n hi,wq (λa=>r a*trn i j c (st g a) b) _ n hj];grind
 rw[e1];show _=if b=j then _ else _
 by_cases q:b=j
 ·subst q;rw[qg rfl,zi n (g:=λa=>r a*st g a b+r a*st g a i*c) λa _=>by
   show r a*(if b=b then st g a b+c*st g a i else st g a b)=_
   rw[qg rfl];grind,JR,zT]
  show led n r (st g) b+led n r (st g) i*c=_
  grind
 ·rw[qm q];exact zi n λa _=>by
   show r a*(if b=j then st g a j+c*st g a i else st g a b)=_
   rw[qm q]
theorem zc1{i j:Nat}{c:Rat}(hi:i<n)(hj:j<n)(hij:i≠j):∀(ws:LNt)(r:Q1x),wt n (wU i j c st) (trn i j c r) (trn j i (-c) la) ws=wt n st r la ws
 |[],r=>by
  show sumTo n (λa=>trn i j c r a*trn j i (-c) la a)=sumTo n λa=>r a*la a
  have q:∀a,trn i j c r a*trn j i (-c) la a=if a=i then (λa=>if a=j then r a*la a+c*r i*la j else r a*la a) a+-(c*r i*la j) else (λa=>if a=j then r a*la a+c*r i*la j else r a*la a) a:=λa=>by
   show(if a=j then r j+c*r i else r a)*(if a=i then la i+-c*la j else la a)=_
   by_cases q1:a=i
   ·subst q1;rw[qm hij,qg rfl,qg rfl];show _=(if a=j then _ else _)+_
    rw[qm hij];grind
   ·rw[qm q1,qm q1];show _=if a=j then _ else _
    by_cases q2:a=j
    ·subst q2;rw[qg rfl,qg rfl];grind
    ·rw[qm q2,qm q2]
  rw[zi n λa _=>q a,wq _ _ n hi,wq (λa=>r a*la a) _ n hj];grind
 |g::ws,r=>by
  show wt n (wU i j c st) (led n (trn i j c r) (wU i j c st g)) (trn j i (-c) la) ws=wt n st (led n r (st g)) la ws
  rw[show led n (trn i j c r) (wU i j c st g)=trn i j c (led n r (st g)) from funext λb=>zaj hi hj hij r g b];exact zc1 hi hj hij ws _
theorem J9:∀(ws:LNt)(r:Q1x),(∀x,x<n->r x=0)->wt n st r la ws=0
 |[],r,h=>by
  show sumTo n (λa=>r a*la a)=0
  rw[zi n (g:=λ_=>0) λa ha=>by rw[h a ha];exact kg _,jK]
 |g::ws,r,h=>by
  show wt n st (led n r (st g)) la ws=0
  refine J9 ws _ λx _=>?_
  show sumTo n (λa=>r a*st g a x)=0
  rw[zi n (g:=λ_=>0) λa ha=>by rw[h a ha];exact kg _,jK]
def zbn(ws:LNt)(r:Q1x):wt n st r (λ_=>0) ws=0:=by
 show sumTo n (λa=>zV n st r ws a*0)=0
 rw[zi n (g:=λ_=>0) λa _=>kR _,jK]
end
end L2.Fu
namespace WD.DT
theorem yt{f g:Z1x}:∀n,(∀i,i<n->f i=g i)->yv n f=yv n g
 |0,_=>rfl
 |n+1,h=>by
  show yv n f+f n=yv n g+g n
  rw[yt n λi hi=>h i (mj hi),h n (kA n)]
theorem vX:∀n,yv n (λ_=>0)=0
 |0=>rfl
 |n+1=>by
  show yv n (λ_=>0)+0=0
  rw[vX n];rfl
theorem Vc(f:Z1x):∀n,yv n (λi=>- f i)=- yv n f
 |0=>rfl
 |n+1=>by
  show yv n (λi=>- f i)+- f n=-(yv n f+f n)
  rw[Vc f n];omega
theorem Zc(f g:Z1x):∀n,yv n (λi=>f i+g i)=yv n f+yv n g
 |0=>rfl
 |n+1=>by
  show yv n (λi=>f i+g i)+(f n+g n)=(yv n f+f n)+(yv n g+g n)
  rw[Zc f g n];omega
theorem uf(c:Int)(f:Z1x):∀n,yv n (λi=>c*f i)=c*yv n f
 |0=>by
  show(0:Int)=c*0
  rw[gU]
 |n+1=>by
  show yv n (λi=>c*f i)+c*f n=c*(yv n f+f n)
  rw[uf c f n,Int.mul_add]
theorem V9(f:Nat->Nat->Int)(m:Nat):∀n,yv n (λa=>yv m λb=>f a b)=yv m λb=>yv n λa=>f a b
 |0=>(vX m).symm
 |n+1=>by
  show yv n (λa=>yv m λb=>f a b)+yv m (λb=>f n b)=yv m λb=>yv n (λa=>f a b)+f n b
  rw[V9 f m n,Zc]
theorem Z2(f:Z1x){j:Nat}:∀n,j<n->yv n (λi=>if i=j then f i else 0)=f j
 |0,h=>absurd h (kN _)
 |n+1,h=>by
  show yv n (λi=>if i=j then f i else 0)+(if n=j then f n else 0)=f j
  by_cases e:n=j
  ·subst e;rw[qg rfl,yt n (g:=λ_=>0) λi hi=>qm (by omega),vX];omega
  ·rw[qm e,Z2 f n (by omega)];omega
theorem zam(g:Z1x){j:Nat}:∀m,j<=m->yv m g=yv (m+1) λk=>if k=j then 0 else g (if k<j then k else k - 1)
 |0,h=>by
  have:j=0:=by omega
  subst this;rfl
 |m+1,h=>by
  show yv m g+g m=yv (m+1) (λk=>if k=j then 0 else g (if k<j then k else k - 1))+(if m+1=j then 0 else g (if m+1<j then m+1 else m+1 - 1))
  by_cases e:m+1=j
  ·rw[qg e,yt (m+1) (g:=g) λi hi=>by rw[qm (by omega),qg (by omega)]];show _=yv m g+g m+0
   omega
  ·rw[qm e,qm (by omega),<-zam g m (by omega)];rfl
def sg(j:Nat):Int:=if j % 2=0 then 1 else -1
def zet(j:Nat):sg (j+1)=- sg j:=by
 unfold sg;by_cases h:j % 2=0
 ·rw[qg h,qm (by omega)]
 ·rw[qm h,qg (by omega)];rfl
def zgO(j:Nat):sg j*sg j=1:=by
 unfold sg;split<;>rfl
theorem erase_comm{α:Type}:∀(S:List α)(j k:Nat),k<j->(S.eraseIdx j).eraseIdx k=(S.eraseIdx k).eraseIdx (j - 1)
 |[],_,_,_=>rfl
 |x::S,0,k,h=>absurd h (kN _)
 |x::S,j+1,0,h=>rfl
 |x::S,j+1,k+1,h=>by
  show x::(S.eraseIdx j).eraseIdx k=(x::S.eraseIdx k).eraseIdx (j+1 - 1)
  have e:j+1 - 1=(j - 1)+1:=by omega
  rw[e,erase_comm S j k (by omega)];rfl
def zdM(S:LNt){j k:Nat}(hk:k≠j):(S.eraseIdx j).getD (if k<j then k else k - 1) 0=S.getD k 0:=by
 rw[qL,qL,List.getElem?_eraseIdx];by_cases h:k<j
 ·rw[qg h,qg h]
 ·rw[qm h,qm (by omega),show k - 1+1=k by omega]
def det:List (Nat->Int)->List Nat->Int
 |[],_=>1
 |r::R,S=>yv S.length λj=>sg j*(r (S.getD j 0)*det R (S.eraseIdx j))
def zec(r r':Z1x)(R:LZr)(S:LNt):det (r::r'::R) S=yv S.length λj=>yv S.length λk=>if k=j then 0 else
  sg j*sg (if k<j then k else k - 1)*(r (S.getD j 0)*r' (S.getD k 0))*det R ((S.eraseIdx j).eraseIdx (if k<j then k else k - 1)):=by
 show yv S.length (λj=>sg j*(r (S.getD j 0)*det (r'::R) (S.eraseIdx j)))=_
 refine yt _ λj hj=>?_
 have e:det (r'::R) (S.eraseIdx j)=yv (S.length - 1) λk=>sg k*(r' ((S.eraseIdx j).getD k 0)*det R ((S.eraseIdx j).eraseIdx k)):=by
  show yv (S.eraseIdx j).length _=_
  rw[gr hj]
 rw[e,zam _ (j:=j) (S.length - 1) (by omega),show S.length - 1+1=S.length by omega,<-Int.mul_assoc,<-uf];refine yt _ λk hk=>?_
 by_cases h:k=j
 ·rw[qg h,qg h,gU]
 ·rw[qm h,qm h,zdM S h];generalize sg (if k<j then k else k - 1)=a;generalize det R _=d;grind
def zbY(r r':Z1x)(R:LZr)(S:LNt):det (r::r'::R) S=- det (r'::r::R) S:=by
 rw[zec r r',zec r' r,V9,<-Vc];refine yt _ λk hk=>?_
 rw[<-Vc];refine yt _ λj hj=>?_
 by_cases h:k=j
 ·subst h;rw[qg rfl,qg rfl];rfl
 ·rw[qm h,qm (gw h)];by_cases hl:k<j
  ·rw[qg hl,qm (by omega),erase_comm S j k hl];obtain⟨i,rfl⟩:∃i,j=i+1:=⟨j - 1,by omega⟩;rw[show i+1 - 1=i by omega,zet];generalize det R _=d;grind
  ·have hl:j<k:=by omega
   rw[qm (by omega),qg hl,erase_comm S k j hl];obtain⟨i,rfl⟩:∃i,k=i+1:=⟨k - 1,by omega⟩;rw[show i+1 - 1=i by omega,zet];generalize det R _=d;grind
theorem zeT{r:Z1x}:∀{R:LZr} (S:LNt),r∈R->det (r::R) S=0
 |[],_,h=>by cases h
 |b::R,S,h=>by
  rcases qw.mp h with z|z
  ·subst z
   have:=zbY r r R S;omega
  ·rw[zbY];show -(yv S.length λj=>sg j*(b (S.getD j 0)*det (r::R) (S.eraseIdx j)))=0
   rw[yt S.length (g:=λ_=>0) λj hj=>by rw[zeT _ z,gU,gU],vX];rfl
def vec(R:LZr)(S:LNt)(x:Nat):Int:=yv S.length λj=>if S.getD j 0=x then sg j*det R (S.eraseIdx j) else 0
def zaU{n:Nat}{S:LNt}(R:LZr)(r:Z1x)(h:∀x∈S,x<n):yv n (λx=>vec R S x*r x)=det (r::R) S:=by
 have e:∀x,vec R S x*r x=yv S.length λj=>if x=S.getD j 0 then r x*(sg j*det R (S.eraseIdx j)) else 0:=λx=>by
  unfold vec;rw[Int.mul_comm,<-uf];refine yt _ λj _=>?_
  by_cases q:S.getD j 0=x
  ·rw[qg q,qg q.symm]
  ·rw[qm q,qm (gw q),gU]
 rw[yt n λx _=>e x,V9];refine yt _ λj hj=>?_
 rw[Z2 _ n (h _ ?_)]
 ·generalize det R _=d;grind
 ·rw[qL,qo hj];exact mD hj
def zct{n:Nat}{S:LNt}{R:LZr}{r:Z1x}(h:∀x∈S,x<n)(hr:r∈R):yv n (λx=>vec R S x*r x)=0:=by
 rw[zaU R r h,zeT S hr]
def zei{R:LZr}{S:LNt}{x:Nat}(h:x∉S):vec R S x=0:=by
 unfold vec;rw[yt S.length (g:=λ_=>0) λj hj=>qm λq=>h ?_,vX];rw[<-q,qL,qo hj];exact mD hj
def zcP{R:LZr}{T:LNt}{f:Nat}(h:f∉T):vec R (T++[f]) f=sg T.length*det R T:=by
 unfold vec;rw[qx];show yv T.length (λj=>if (T++[f]).getD j 0=f then sg j*det R ((T++[f]).eraseIdx j) else 0)+(if (T++[f]).getD T.length 0=f then sg T.length*det R ((T++[f]).eraseIdx T.length) else 0)=_
 rw[yt T.length (g:=λ_=>0) λj hj=>qm λq=>h ?_,vX,qg,nX (qk _),kZ]
 ·rw[show[f].eraseIdx 0=[] from rfl,kf];omega
 ·rw[qL,qz (qk _),kZ];rfl
 ·rw[<-q,qL,qT hj,qo hj];exact mD hj
abbrev dt(n:Nat)(f g:Z1x):Int:=yv n λx=>f x*g x
abbrev dq(n:Nat)(f g:Q1x):Rat:=sumTo n λx=>f x*g x
abbrev rt(f:Z1x):Nat->Rat:=λx=>(f x:Rat)
def JG{n:Nat}(f g:Z1x):dq n (rt f) (rt g)=((dt n f g:Int):Rat):=by
 unfold dq dt rt;rw[Va];exact zi n λi _=>(kd _ _).symm
def zhg{n:Nat}(a b:Int)(f g h:Z1x):dt n (λx=>a*f x - b*g x) h=a*dt n f h - b*dt n g h:=by
 unfold dt;rw[<-uf,<-uf,Int.sub_eq_add_neg,<-Vc,<-Zc];exact yt n λi _=>by grind
def zaT{n:Nat}(a:Int)(f h:Z1x):dt n (λx=>a*f x) h=a*dt n f h:=by
 unfold dt;rw[<-uf];exact yt n λi _=>by grind
def Yg{n:Nat}{f f' h:Z1x}(e:∀x,x<n->f x=f' x):dt n f h=dt n f' h:=yt n λi hi=>by rw[e i hi]
theorem yl:∀n,sumTo n (λ_=>(0:Rat))=0
 |0=>rfl
 |n+1=>by
  show sumTo n (λ_=>(0:Rat))+0=0
  rw[yl n];grind
theorem jE(f:Q2x)(m:Nat):∀n,sumTo n (λa=>sumTo m λb=>f a b)=sumTo m λb=>sumTo n λa=>f a b
 |0=>(yl m).symm
 |n+1=>by
  show sumTo n (λa=>sumTo m λb=>f a b)+sumTo m (λb=>f n b)=sumTo m λb=>sumTo n (λa=>f a b)+f n b
  rw[jE f m n,JR]
theorem xU(f:Q1x){j:Nat}:∀n,j<n->(∀i,i<n->i≠j->f i=0)->sumTo n f=f j
 |0,h,_=>absurd h (kN _)
 |n+1,h,k=>by
  show sumTo n f+f n=f j
  by_cases e:n=j
  ·subst e;rw[zi n (g:=λ_=>0) λi hi=>k i (by omega) (by omega),yl];grind
  ·rw[xU f n (by omega) λi hi=>k i (by omega),k n (by omega) e];grind
theorem zay(u v:Q1x):∀n,sumTo n u - sumTo n v=sumTo n λx=>u x - v x
 |0=>by
  show(0:Rat) - 0=0
  grind
 |n+1=>by
  have:=zay u v n;show(sumTo n u+u n) - (sumTo n v+v n)=sumTo n (λx=>u x - v x)+(u n - v n)
  rw[<-this];grind
def YM{n:Nat}(a b:Rat)(f g h:Q1x):dq n (λx=>a*f x - b*g x) h=a*dq n f h - b*dq n g h:=by
 have e1:a*sumTo n (λx=>f x*h x)=sumTo n λx=>f x*h x*a:=by rw[zT];exact k8 _ _
 have e2:b*sumTo n (λx=>g x*h x)=sumTo n λx=>g x*h x*b:=by rw[zT];exact k8 _ _
 show sumTo n (λx=>(a*f x - b*g x)*h x)=a*sumTo n (λx=>f x*h x) - b*sumTo n (λx=>g x*h x)
 rw[e1,e2,zay];exact zi n λi _=>by clear e1 e2;grind
def In(n:Nat)(R:LZr)(x:Q1x):Prop:=∀w:Nat->Rat,(∀r∈R,dq n w (rt r)=0)->dq n w x=0
structure Sp(n:Nat)(R:LZr)(T F:LNt)(C:LZr)(d:Int):Prop where
 d0:d≠0
 mem:∀x,x∈T++F↔x<n
 nd:(T++F).Nodup
 lenC:C.length=F.length
 ex:∃e:Int,e*e=1/\d=e*det R T/\∀(i:Nat)(c:Z1x)(f:Nat),C[i]?=some c->F[i]?=some f->∀x,x<n->c x=e*sg T.length*vec R (T++[f]) x
 ind:∀w:Nat->Rat,(∀x,x<n->x∉T->w x=0)->(∀r∈R,dq n w (rt r)=0)->∀x,x<n->w x=0
section
variable{n:Nat}{R:LZr}{T F:LNt}{C:LZr}{d:Int}
def Sp.free(h:Sp n R T F C d){i f:Nat}(hf:F[i]?=some f):f<n/\f∉T:=by
 have hm:f∈F:=qH hf;exact⟨(h.mem f).mp (qt.mpr (.inr hm)),λz=>(gJ.mp h.nd).2.2 f z f hm rfl⟩
def Sp.lt(h:Sp n R T F C d){i f:Nat}(hf:F[i]?=some f):∀x∈T++[f],x<n:=λx hx=>by
 rcases qt.mp hx with z|z
 ·exact(h.mem x).mp (qt.mpr (.inl z))
 ·rw[qO.mp z];exact(h.free hf).1
def Sp.at(h:Sp n R T F C d){i f:Nat}{c:Z1x}(hc:C[i]?=some c)(hf:F[i]?=some f):c f=d:=by
 have⟨e,e1,e2,e3⟩:=h.ex;have⟨h1,h2⟩:=h.free hf;rw[e3 i c f hc hf f h1,zcP h2,e2]
 have:=zgO T.length;grind
def Sp.out(h:Sp n R T F C d){i f x:Nat}{c:Z1x}(hc:C[i]?=some c)(hf:F[i]?=some f)(hx:x<n)(ht:x∉T)(hne:x≠f):c x=0:=by
 have⟨e,e1,e2,e3⟩:=h.ex;rw[e3 i c f hc hf x hx,zei (λz=>?_),gU];rcases qt.mp z with z|z
 ·exact ht z
 ·exact hne (qO.mp z)
def Sp.orth(h:Sp n R T F C d){i f:Nat}{c r:Z1x}(hc:C[i]?=some c)(hf:F[i]?=some f)(hr:r∈R):dt n c r=0:=by
 have⟨e,e1,e2,e3⟩:=h.ex;rw[Yg (f':=λx=>(e*sg T.length)*vec R (T++[f]) x) λx hx=>e3 i c f hc hf x hx,zaT,show dt n (vec R (T++[f])) r=0 from zct (h.lt hf) hr,gU]
def Ve{α:Type}{l:List α}{i:Nat}{a b:α}(h:l[i]?=some a):l.getD i b=a:=by
 rw[qL,h];rfl
def zhE{l:LNt}(h:l.Nodup){i j a b:Nat}(ha:l[i]?=some a)(hb:l[j]?=some b)(hij:i≠j):a≠b:=λe=>by
 subst e;obtain⟨hi,e1⟩:=qf.mp ha;obtain⟨hj,e2⟩:=qf.mp hb;rcases Nat.lt_or_gt_of_ne hij with q|q
 ·exact k4.mp h i j hi hj q (e1.trans e2.symm)
 ·exact k4.mp h j i hj hi q (e2.trans e1.symm)
def Sp.ndF(h:Sp n R T F C d):F.Nodup:=(gJ.mp h.nd).2.1
def xG(i:Nat):Nat->Int:=λx=>if x=i then 1 else 0
def zd0(n:Nat):Sp n [] [] (List.range n) ((List.range n).map xG) 1 where
 d0:=by decide
 mem:=λx=>by simp
 nd:=by simpa using List.nodup_range
 lenC:=by simp
 ex:=⟨1,rfl,rfl,λi c f hc hf x hx=>by
  rw[qp] at hc;obtain⟨hi,e⟩:=qf.mp hf;rw[hf] at hc;cases hc;show xG f x=1*1*(0+(if f=x then sg 0*1 else 0))
  unfold xG;by_cases q:x=f
  ·rw[qg q,qg q.symm];rfl
  ·rw[qm q,qm (gw q)];rfl⟩
 ind:=λw h _ x hx=>h x hx (by simp)
def Sp.holds(h:Sp n R T F C d)(x:Q1x):(∀c∈C,dq n (rt c) x=0)↔In n R x:=by
 constructor
 ·intro hc w hw;have hz:(d:Rat)≠0:=λz=>h.d0 (by exact_mod_cast z)
  have key:∀y,y<n->(d:Rat)*w y - 1*sumTo F.length (λi=>w (F.getD i 0)*((C.getD i λ_=>0) y:Rat))=0:=by
   refine h.ind _ (λy hy ht=>?_) λr hr=>?_
   ·have hyF:y∈F:=by
     rcases qt.mp ((h.mem y).mpr hy) with z|z
     ·exact absurd z ht
     ·exact z
    obtain⟨k,hk⟩:=qX hyF;obtain⟨hkl,_⟩:=qf.mp hk;obtain⟨c,hck⟩:∃c,C[k]?=some c:=⟨_,qo (by rw[h.lenC];exact hkl)⟩;rw[xU _ (j:=k) _ hkl λi hi hik=>?_]
    ·rw[Ve hk,Ve hck];show(d:Rat)*w y - 1*(w y*(c y:Rat))=0
     rw[h.at hck hk];grind
    ·obtain⟨c',hci⟩:∃c,C[i]?=some c:=⟨_,qo (by rw[h.lenC];exact hi)⟩;obtain⟨f',hfi⟩:∃f,F[i]?=some f:=⟨_,qo hi⟩;rw[Ve (l:=C) hci];show _*((c' y:Int):Rat)=0
     rw[h.out hci hfi hy ht (zhE h.ndF hk hfi (gw hik))];exact kR _
   ·rw[YM];rw[hw r hr]
    have:dq n (λy=>sumTo F.length λi=>w (F.getD i 0)*((C.getD i λ_=>0) y:Rat)) (rt r)=0:=by
     unfold dq;rw[zi n (g:=λy=>sumTo F.length λi=>w (F.getD i 0)*((C.getD i λ_=>0) y:Rat)*(rt r) y) λy _=>(zT _ _ _).symm,jE,zi F.length (g:=λ_=>0) λi hi=>?_,yl];obtain⟨c',hci⟩:∃c,C[i]?=some c:=⟨_,qo (by rw[h.lenC];exact hi)⟩;obtain⟨f',hfi⟩:∃f,F[i]?=some f:=⟨_,qo hi⟩;rw[Ve (l:=C) hci];show sumTo n (λy=>w (F.getD i 0)*(c' y:Rat)*(r y:Rat))=0
     rw[zi n (g:=λy=>((c' y:Rat)*(r y:Rat))*w (F.getD i 0)) λy _=>by grind,zT];have e:sumTo n (λy=>(c' y:Rat)*(r y:Rat))=dq n (rt c') (rt r):=rfl;rw[e,JG,h.orth hci hfi hr];exact kg _
    rw[this];grind
  have e1:(d:Rat)*dq n w x - 1*dq n (λy=>sumTo F.length λi=>w (F.getD i 0)*((C.getD i λ_=>0) y:Rat)) x=0:=by
   rw[<-YM];unfold dq;rw[zi n (g:=λ_=>0) λy hy=>(qG (·*_) (key y hy)).trans (kg _),yl]
  have e2:dq n (λy=>sumTo F.length λi=>w (F.getD i 0)*((C.getD i λ_=>0) y:Rat)) x=0:=by
   unfold dq;rw[zi n (g:=λy=>sumTo F.length λi=>w (F.getD i 0)*((C.getD i λ_=>0) y:Rat)*x y) λy _=>(zT _ _ _).symm,jE,zi F.length (g:=λ_=>0) λi hi=>?_,yl];obtain⟨c',hci⟩:∃c,C[i]?=some c:=⟨_,qo (by rw[h.lenC];exact hi)⟩;rw[Ve (l:=C) hci];show sumTo n (λy=>w (F.getD i 0)*(c' y:Rat)*x y)=0
   rw[zi n (g:=λy=>((c' y:Rat)*x y)*w (F.getD i 0)) λy _=>by grind,zT];have e:sumTo n (λy=>(c' y:Rat)*x y)=dq n (rt c') x:=rfl;rw[e,hc c' (qH hci)];exact kg _
  rw[e2] at e1;have e3:(d:Rat)*dq n w x=0:=by grind
  rcases kn.mp e3 with z|z
  ·exact absurd z hz
  ·exact z
 ·intro hx c hc;obtain⟨i,hi⟩:=qX hc;obtain⟨hil,_⟩:=qf.mp hi;obtain⟨f,hf⟩:∃f,F[i]?=some f:=⟨_,qo (by rw[<-h.lenC];exact hil)⟩;exact hx (rt c) λr hr=>by rw[JG,h.orth hi hf hr];rfl
def nar(p d s:Int)(g c:Z1x):Nat->Int:=λx=>(p*c x - s*g x).fdiv d
def Sp.ind'(h:Sp n R T F C d){i g:Nat}{cg r:Z1x}(hc:C[i]?=some cg)(hg:F[i]?=some g)(hp:dt n cg r≠0):∀w:Nat->Rat,(∀x,x<n->x∉T++[g]->w x=0)->(∀ρ∈r::R,dq n w (rt ρ)=0)->∀x,x<n->w x=0:=by
 intro w hs ho;have⟨g1,g2⟩:=h.free hg;have hz:(d:Rat)≠0:=λz=>h.d0 (by exact_mod_cast z)
 have hpz:((dt n cg r:Int):Rat)≠0:=λz=>hp (by exact_mod_cast z)
 have key:∀x,x<n->(d:Rat)*w x - w g*(rt cg) x=0:=by
  refine h.ind _ (λx hx ht=>?_) λρ hr=>?_
  ·by_cases q:x=g
   ·subst q;show(d:Rat)*w x - w x*((cg x:Int):Rat)=0
    rw[h.at hc hg];grind
   ·show(d:Rat)*w x - w g*((cg x:Int):Rat)=0
    rw[h.out hc hg hx ht q,hs x hx λz=>by
     rcases qt.mp z with z|z
     ·exact ht z
     ·exact q (qO.mp z)]
    show(d:Rat)*0 - w g*0=0
    grind
  ·rw[YM,ho ρ (.tail _ hr),JG,h.orth hc hg hr];show(d:Rat)*0 - w g*0=0
   grind
 have e:(d:Rat)*dq n w (rt r) - w g*dq n (rt cg) (rt r)=0:=by
  rw[<-YM];unfold dq;rw[zi n (g:=λ_=>0) λy hy=>(qG (·*_) (key y hy)).trans (kg _),yl]
 rw[ho r (.head _),JG] at e;have e2:w g*((dt n cg r:Int):Rat)=0:=by grind
 have wg:w g=0:=by
  rcases kn.mp e2 with z|z
  ·exact z
  ·exact absurd z hpz
 intro x hx
 have:=key x hx;rw[wg] at this;have e3:(d:Rat)*w x=0:=by grind
 rcases kn.mp e3 with z|z
 ·exact absurd z hz
 ·exact z
def zbM{α:Type}(l:List α)(i j:Nat):(l.eraseIdx i)[j]?=l[if j<i then j else j+1]?:=by
 rw[List.getElem?_eraseIdx];by_cases h:j<i
 ·rw[qg h,qg h]
 ·rw[qm h,qm h]
theorem Zx{α:Type}{a:α}:∀(l:List α)(i:Nat),l[i]?=some a->(a::l.eraseIdx i).Perm l
 |[],i,h=>by simp at h
 |x::l,0,h=>by
  have:x=a:=by simpa using h
  subst this;exact List.Perm.refl _
 |x::l,i+1,h=>by
  have ih:=Zx l i (by simpa using h);exact(List.Perm.swap x a _).trans (ih.cons x)
def Sp.nar(h:Sp n R T F C d){i g:Nat}{cg r:Z1x}(hc:C[i]?=some cg)(hg:F[i]?=some g)(hp:dt n cg r≠0){e:Int}(e2:d=e*det R T)(e3:∀(i:Nat)(c:Z1x)(f:Nat),C[i]?=some c->F[i]?=some f->∀x,x<n->c x=e*sg T.length*vec R (T++[f]) x){k f:Nat}{c:Z1x}(hk:C[k]?=some c)(hf:F[k]?=some f)(hki:k≠i):∀x,x<n->DT.nar (dt n cg r) d (dt n c r) cg c x=e*sg T.length*sg (T++[g]).length*vec (r::R) (T++[g]++[f]) x:=by
 have hfg:f≠g:=zhE h.ndF hf hg hki;have⟨f1,f2⟩:=h.free hf
 have⟨g1,g2⟩:=h.free hg;have hfT:f∉T++[g]:=λz=>by
  rcases qt.mp z with z|z
  ·exact f2 z
  ·exact hfg (qO.mp z)
 have hlt:∀x∈T++[g]++[f],x<n:=λx hx=>by
  rcases qt.mp hx with z|z
  ·exact h.lt hg x z
  ·rw[qO.mp z];exact f1
 have ep:dt n cg r=e*sg T.length*det (r::R) (T++[g]):=by
  rw[Yg (f':=λx=>(e*sg T.length)*vec R (T++[g]) x) λx hx=>e3 i cg g hc hg x hx,zaT,show dt n (vec R (T++[g])) r=det (r::R) (T++[g]) from zaU R r (h.lt hg)]
 have key:=h.ind' hc hg hp (λx=>((d*(e*sg T.length*sg (T++[g]).length*vec (r::R) (T++[g]++[f]) x) - 1*(dt n cg r*c x - dt n c r*cg x):Int):Rat)) (λx hx ht=>?_) (λρ hr=>?_)
 ·intro x hx;have q:d*(e*sg T.length*sg (T++[g]).length*vec (r::R) (T++[g]++[f]) x) - 1*(dt n cg r*c x - dt n c r*cg x)=0:=by exact_mod_cast key x hx
  unfold DT.nar;rw[show dt n cg r*c x - dt n c r*cg x=d*(e*sg T.length*sg (T++[g]).length*vec (r::R) (T++[g]++[f]) x) by omega];exact m9 _ h.d0
 ·have q:d*(e*sg T.length*sg (T++[g]).length*vec (r::R) (T++[g]++[f]) x) - 1*(dt n cg r*c x - dt n c r*cg x)=0:=by
   have htT:x∉T:=λz=>ht (qt.mpr (.inl z))
   have hxg:x≠g:=λz=>ht (qt.mpr (.inr (by rw[z];exact .head _)))
   by_cases hxf:x=f
   ·subst hxf;rw[zcP hfT,h.at hk hf,h.out hc hg hx htT hxg,ep]
    have:=zgO (T++[g]).length;generalize det (r::R) (T++[g])=D at*;generalize sg (T++[g]).length=a at*;grind
   ·rw[zei (λz=>?_),h.out hk hf hx htT hxf,h.out hc hg hx htT hxg]
    ·simp
    ·rcases qt.mp z with z|z
     ·exact ht z
     ·exact hxf (qO.mp z)
  exact_mod_cast q
 ·have q:dt n (λx=>d*(e*sg T.length*sg (T++[g]).length*vec (r::R) (T++[g]++[f]) x) - 1*(dt n cg r*c x - dt n c r*cg x)) ρ=0:=by
   rw[zhg d 1 (λx=>e*sg T.length*sg (T++[g]).length*vec (r::R) (T++[g]++[f]) x) (λx=>dt n cg r*c x - dt n c r*cg x) ρ,zhg,zaT,show dt n (vec (r::R) (T++[g]++[f])) ρ=0 from zct hlt hr];rcases qw.mp hr with z|z
   ·subst z;rw[Int.mul_comm (dt n c ρ)];simp
   ·rw[h.orth hk hf z,h.orth hc hg z];simp
  have:=JG (n:=n) (λx=>d*(e*sg T.length*sg (T++[g]).length*vec (r::R) (T++[g]++[f]) x) - 1*(dt n cg r*c x - dt n c r*cg x)) ρ;rw[q] at this;exact this
def Sp.take(h:Sp n R T F C d){i g:Nat}{cg r:Z1x}(hc:C[i]?=some cg)(hg:F[i]?=some g)(hp:dt n cg r≠0):Sp n (r::R) (T++[g]) (F.eraseIdx i) ((C.eraseIdx i).map λc=>DT.nar (dt n cg r) d (dt n c r) cg c) (dt n cg r):=by
 have⟨e,e1,e2,e3⟩:=h.ex;obtain⟨hi,eg⟩:=qf.mp hg;have pm:(T++[g]++F.eraseIdx i).Perm (T++F):=by
  rw[kI];refine List.Perm.append_left T ?_;exact Zx F i hg
 refine⟨hp,λx=>?_,pm.nodup_iff.mpr h.nd,?_,⟨e*sg T.length,?_,?_,λj c' f hj hf x hx=>?_⟩,h.ind' hc hg hp⟩
 ·rw[pm.mem_iff];exact h.mem x
 ·rw[qe,gr hi,gr (by rw[h.lenC];exact hi),h.lenC]
 ·have:=zgO T.length;grind
 ·rw[Yg (f':=λx=>(e*sg T.length)*vec R (T++[g]) x) λx hx=>e3 i cg g hc hg x hx,zaT,show dt n (vec R (T++[g])) r=det (r::R) (T++[g]) from zaU R r (h.lt hg)]
 ·rw[zbM] at hf;rw[qp,zbM] at hj;cases hk:C[if j<i then j else j+1]? with
  |none=>rw[hk] at hj;cases hj
  |some c=>
   rw[hk] at hj;cases hj;exact h.nar hc hg hp e2 e3 hk hf (by split<;>omega) x hx
end
def cd(s:Nat)(w:LNt):Nat:=w.foldl (λc a=>c*s+a+1) 0
def jR(s:Nat)(w:LNt)(a:Nat):cd s (w++[a])=cd s w*s+a+1:=by
 unfold cd;rw[List.foldl_append];rfl
def zhc(s:Nat)(hs:0<s)(w:LNt)(a:Nat):cd s w<cd s (w++[a]):=by
 rw[jR]
 have:cd s w<=cd s w*s:=hJ _ hs;omega
def zit{s:Nat}{v w:LNt}(h:cd s v<=cd s w)(a:Nat):cd s (v++[a])<=cd s (w++[a]):=by
 rw[jR,jR]
 have:cd s v*s<=cd s w*s:=kW _ h;omega
def zaN{s:Nat}{v w:LNt}(h:cd s v<cd s w){a b:Nat}(ha:a<s):cd s (v++[a])<cd s (w++[b]):=by
 rw[jR,jR]
 have:(cd s v+1)*s<=cd s w*s:=kW _ h;rw[Nat.add_mul] at this;omega
def Yb(w:LNt):w=[]\/∃v a,w=v++[a]:=by
 rcases List.eq_nil_or_concat w with h|⟨v,a,h⟩
 ·exact .inl h
 ·exact .inr ⟨v,a,by rw[h,List.concat_eq_append]⟩
def queue(s:Nat)(kept:List (List Nat)):List (List Nat):=[]::kept.flatMap λv=>(List.range s).map λa=>v++[a]
def ZA(s:Nat)(kept:List (List Nat))(u:LNt):queue s (kept++[u])=queue s kept++(List.range s).map λa=>u++[a]:=by
 unfold queue;rw[nL];simp
def JY{s:Nat}{kept:List (List Nat)}{u:LNt}:u∈queue s kept↔u=[]\/∃v∈kept,∃a,a<s/\u=v++[a]:=by
 unfold queue;rw[qw,List.mem_flatMap];constructor
 ·rintro(h|⟨v,hv,h⟩)
  ·exact .inl h
  ·obtain⟨a,ha,rfl⟩:=qY.mp h;exact .inr ⟨v,hv,a,qK.mp ha,rfl⟩
 ·rintro(h|⟨v,hv,a,ha,rfl⟩)
  ·exact .inl h
  ·exact .inr ⟨v,hv,qY.mpr ⟨a,qK.mpr ha,rfl⟩⟩
def VH{s:Nat}{kept:List (List Nat)}(h:kept.Pairwise λv w=>cd s v<cd s w):(queue s kept).Pairwise λv w=>cd s v<cd s w:=by
 unfold queue;rw[List.pairwise_cons];constructor
 ·intro u hu;have⟨v,hv,h⟩:=pw.mp hu;obtain⟨a,ha,rfl⟩:=qY.mp h;rw[jR];show 0<_
  omega
 ·rw[List.pairwise_flatMap];constructor
  ·intro v hv;rw[List.pairwise_map];refine List.Pairwise.imp ?_ List.pairwise_lt_range;intro a b hab;rw[jR,jR];omega
  ·refine List.Pairwise.imp ?_ h;intro v w hvw x hx y hy;obtain⟨a,ha,rfl⟩:=qY.mp hx;obtain⟨b,hb,rfl⟩:=qY.mp hy;exact zaN hvw (qK.mp ha)
def InK(n s:Nat)(row:List Nat->Nat->Rat)(kept:List (List Nat))(B:Nat)(x:Q1x):Prop:=∀w:Nat->Rat,(∀v∈kept,cd s v<B->dq n w (row v)=0)->dq n w x=0
def za1{n:Nat}(w r:Q1x)(M:Q2x):dq n w (led n r M)=dq n (λx=>sumTo n λb=>M x b*w b) r:=by
 show sumTo n (λb=>w b*sumTo n λa=>r a*M a b)=sumTo n λa=>(sumTo n λb=>M a b*w b)*r a
 rw[zi n (g:=λb=>sumTo n λa=>r a*M a b*w b) λb _=>by rw[zT];exact k8 _ _,jE];exact zi n λa _=>by
  rw[<-zT];exact zi n λb _=>by grind
section
variable{n s:Nat}{st:Q3x}{fi:Q1x}{kept:List (List Nat)}
def ue(v:LNt)(a:Nat):zV n st fi (v++[a])=led n (zV n st fi v) (st a):=by
 rw[JH];rfl
theorem We{N:Nat}(hs:0<s)(h:∀u∈queue s kept,cd s u<N->InK n s (zV n st fi) kept (cd s u+1) (zV n st fi u)):∀(k:Nat)(w:LNt),w.length=k->(∀g∈w,g<s)->cd s w<N->InK n s (zV n st fi) kept (cd s w+1) (zV n st fi w)
 |0,w,hk,_,hN=>by
  have:w=[]:=gD.mp hk;subst this;exact h [] (JY.mpr (.inl rfl)) hN
 |k+1,w,hk,hg,hN=>by
  rcases Yb w with e|⟨v,a,e⟩
  ·rw[e] at hk;cases hk
  ·subst e;have ha:a<s:=hg a (by simp);have ih:=We hs h k v (by simpa using hk) (λg q=>hg g (by simp[q])) (pf (zhc s hs v a) hN)
   intro c hc;rw[ue,za1];refine ih _ λμ hμ hlt=>?_
   rw[<-za1,<-ue];have hle:cd s (μ++[a])<=cd s (v++[a]):=zit (by omega) a;exact h _ (JY.mpr (.inr ⟨μ,hμ,a,ha,rfl⟩)) (by omega) c λμ' hμ' hl'=>hc μ' hμ' (by omega)
structure Rc(n s:Nat)(st:Q3x)(fi:Q1x)(kept:List (List Nat))(a:Nat):Prop where
 le:a<=(queue s kept).length
 srt:kept.Pairwise λv w=>cd s v<cd s w
 sub:∀v∈kept,∃i,i<a/\(queue s kept)[i]?=some v
 ok:∀(i:Nat)(u:LNt),i<a->(queue s kept)[i]?=some u->InK n s (zV n st fi) kept (cd s u+1) (zV n st fi u)
def zkk:Rc n s st fi [] 0:=⟨kK _,.nil,λ_ h=>(by cases h),λ_ _ h=>absurd h (kN _)⟩
def Rc.ahead(h:Rc n s st fi kept a){u:LNt}(hu:(queue s kept)[a]?=some u):∀v∈kept,cd s v<cd s u:=λv hv=>by
 have⟨i,hi,e⟩:=h.sub v hv;obtain⟨h1,e1⟩:=qf.mp e;obtain⟨h2,e2⟩:=qf.mp hu
 have:=k4.mp (VH h.srt) i a h1 h2 hi;rw[e1,e2] at this;exact this
def Rc.skip(h:Rc n s st fi kept a){u:LNt}(hu:(queue s kept)[a]?=some u)(hin:∀w:Nat->Rat,(∀v∈kept,dq n w (zV n st fi v)=0)->dq n w (zV n st fi u)=0):Rc n s st fi kept (a+1):=by
 obtain⟨h2,e2⟩:=qf.mp hu;refine⟨h2,h.srt,λv hv=>?_,λi x hi hx=>?_⟩
 ·have⟨i,hi,e⟩:=h.sub v hv;exact⟨i,by omega,e⟩
 ·by_cases q:i=a
  ·subst q;rw[hu] at hx;cases hx;exact λw hw=>hin w λv hv=>hw v hv (mj (h.ahead hu v hv))
  ·exact h.ok i x (by omega) hx
def Rc.keep(h:Rc n s st fi kept a){u:LNt}(hu:(queue s kept)[a]?=some u):Rc n s st fi (kept++[u]) (a+1):=by
 obtain⟨h2,e2⟩:=qf.mp hu;have old:∀i,i<(queue s kept).length->(queue s (kept++[u]))[i]?=(queue s kept)[i]?:=λi hi=>by rw[ZA,qT hi]
 have more:∀B x,InK n s (zV n st fi) kept B x->InK n s (zV n st fi) (kept++[u]) B x:=λB x q w hw=>q w λv hv hl=>hw v (qt.mpr (.inl hv)) hl
 refine⟨?_,?_,λv hv=>?_,λi x hi hx=>?_⟩
 ·rw[ZA,qx];omega
 ·rw[List.pairwise_append];exact⟨h.srt,List.pairwise_singleton _ _,λv hv w hw=>by rw[qO.mp hw];exact h.ahead hu v hv⟩
 ·rcases qt.mp hv with z|z
  ·have⟨i,hi,e⟩:=h.sub v z;exact⟨i,by omega,by rw[old i (by omega)];exact e⟩
  ·rw[qO.mp z];exact⟨a,kA a,by rw[old a h2];exact hu⟩
 ·rw[old i (by omega)] at hx;by_cases q:i=a
  ·subst q;rw[hu] at hx;cases hx;exact λw hw=>hw u (qt.mpr (.inr (.head _))) (kA _)
  ·exact more _ _ (h.ok i x (by omega) hx)
def Rc.known(h:Rc n s st fi kept a){N:Nat}(hN:∀(i:Nat)(u:LNt),(queue s kept)[i]?=some u->cd s u<N->i<a):∀u∈queue s kept,cd s u<N->InK n s (zV n st fi) kept (cd s u+1) (zV n st fi u):=λu hu hl=>by
 obtain⟨i,hi⟩:=qX hu;exact h.ok i u (hN i u hi hl) hi
def Rc.done(h:Rc n s st fi kept a)(hs:0<s)(hd:(queue s kept).length<=a)(w:LNt)(hg:∀g∈w,g<s):∀c:Nat->Rat,(∀v∈kept,dq n c (zV n st fi v)=0)->dq n c (zV n st fi w)=0:=λc hc=>
 We (N:=cd s w+1) hs (h.known λi u hi _=>qN (qf.mp hi).1 hd) _ w rfl hg (kA _) c λv hv _=>hc v hv
def Rc.before(h:Rc n s st fi kept a)(hs:0<s){u:LNt}(hu:(queue s kept)[a]?=some u)(w:LNt)(hg:∀g∈w,g<s)(hw:cd s w<cd s u):∀c:Nat->Rat,(∀v∈kept,dq n c (zV n st fi v)=0)->dq n c (zV n st fi w)=0:=λc hc=>by
 refine We (N:=cd s u) hs (h.known λi x hi hl=>?_) _ w rfl hg hw c λv hv _=>hc v hv
 obtain⟨h1,e1⟩:=qf.mp hi;obtain⟨h2,e2⟩:=qf.mp hu;rcases pd i a with q|q|q
 ·exact q
 ·subst q;rw[hi] at hu;cases hu;omega
 ·have:=k4.mp (VH h.srt) a i h2 h1 q;rw[e1,e2] at this;omega
def Rc.short(h:Rc n s st fi kept a)(hs:0<s):∀(i:Nat)(v:LNt),kept[i]?=some v->v.length<=i:=by
 intro i;induction i using Nat.strongRecOn with
 |_ i ih=>
  intro v hv;obtain⟨j,hj,e⟩:=h.sub v (qH hv);rcases JY.mp (qH e) with q|⟨μ,hμ,b,hb,q⟩
  ·subst q;exact kK _
  ·subst q;obtain⟨k,hk⟩:=qX hμ;obtain⟨h1,e1⟩:=qf.mp hk;obtain⟨h2,e2⟩:=qf.mp hv;have hlt:=zhc s hs μ b;have hki:k<i:=by
    rcases pd k i with q|q|q
    ·exact q
    ·subst q;rw[hk] at hv
     have:=qZ hv;rw[<-this] at hlt;omega
    ·have:=k4.mp h.srt i k h2 h1 q;rw[e1,e2] at this;omega
   have:=ih k hki μ hk;rw[qx];show μ.length+1<=i
   omega
def Rc.signs(h:Rc n s st fi kept a)(hs:0<s):∀(i:Nat)(v:LNt),kept[i]?=some v->∀g∈v,g<s:=by
 intro i;induction i using Nat.strongRecOn with
 |_ i ih=>
  intro v hv;obtain⟨j,hj,e⟩:=h.sub v (qH hv);rcases JY.mp (qH e) with q|⟨μ,hμ,b,hb,q⟩
  ·subst q;exact λg hg=>by cases hg
  ·subst q;obtain⟨k,hk⟩:=qX hμ;obtain⟨h1,e1⟩:=qf.mp hk;obtain⟨h2,e2⟩:=qf.mp hv;have hlt:=zhc s hs μ b;have hki:k<i:=by
    rcases pd k i with q|q|q
    ·exact q
    ·subst q;rw[hk] at hv
     have:=qZ hv;rw[<-this] at hlt;omega
    ·have:=k4.mp h.srt i k h2 h1 q;rw[e1,e2] at this;omega
   intro g hg;rcases qt.mp hg with z|z
   ·exact ih k hki μ hk g z
   ·rw[qO.mp z];exact hb
end
structure RS(n s:Nat)(st:Q3x)(fi:Q1x)(W:List (List Nat))(Rw:LZr)(T F:LNt)(C:LZr)(d:Int)(a:Nat):Prop where
 sp:Sp n Rw.reverse T F C d
 rc:Rc n s st fi W a
 len:W.length=Rw.length
 lenT:T.length=Rw.length
 mult:∀(i:Nat)(w:LNt)(r:Z1x),W[i]?=some w->Rw[i]?=some r->∃c:Rat,c≠0/\∀x,x<n->(r x:Rat)=c*zV n st fi w x
section
variable{n s:Nat}{st:Q3x}{fi la:Q1x}{W:List (List Nat)}{Rw:LZr}{T F:LNt}{C:LZr}{d:Int}{a:Nat}
def zkK:RS n s st fi [] [] [] (List.range n) ((List.range n).map xG) 1 0:=⟨zd0 n,zkk,rfl,rfl,λi w r h=>(by simp at h)⟩
def YG{c:Rat}{r:Z1x}{f w:Q1x}(h:∀x,x<n->(r x:Rat)=c*f x):dq n w (rt r)=c*dq n w f:=by
 show sumTo n (λx=>w x*(r x:Rat))=c*sumTo n λx=>w x*f x
 rw[zi n (g:=λx=>w x*f x*c) λx hx=>by rw[h x hx];grind,zT];exact k8 _ _
def zbg(f g:Q1x):dq n f g=dq n g f:=zi n λx _=>k8 _ _
def RS.orth(h:RS n s st fi W Rw T F C d a)(w:Q1x):(∀v∈W,dq n w (zV n st fi v)=0)↔∀r∈Rw.reverse,dq n w (rt r)=0:=by
 constructor
 ·intro q r hr;obtain⟨i,hi⟩:=qX (gq.mp hr);obtain⟨hl,_⟩:=qf.mp hi;obtain⟨v,hv⟩:∃v,W[i]?=some v:=⟨_,qo (by rw[h.len];exact hl)⟩;have⟨c,hc,e⟩:=h.mult i v r hv hi;rw[YG e,q v (qH hv)];exact kR _
 ·intro q v hv;obtain⟨i,hi⟩:=qX hv;obtain⟨hl,_⟩:=qf.mp hi;obtain⟨r,hr⟩:∃r,Rw[i]?=some r:=⟨_,qo (by rw[<-h.len];exact hl)⟩;have⟨c,hc,e⟩:=h.mult i v r hi hr
  have:=q r (gq.mpr (qH hr));rw[YG e] at this;rcases kn.mp this with z|z
  ·exact absurd z hc
  ·exact z
def RS.skip(h:RS n s st fi W Rw T F C d a){u:LNt}{r:Z1x}{c:Rat}(hu:(queue s W)[a]?=some u)(hc:c≠0)(e:∀x,x<n->(r x:Rat)=c*zV n st fi u x)(hz:∀k∈C,dt n k r=0):RS n s st fi W Rw T F C d (a+1):=by
 refine⟨h.sp,h.rc.skip hu λw hw=>?_,h.len,h.lenT,h.mult⟩
 have:=(h.sp.holds (rt r)).mp (λk hk=>by rw[JG,hz k hk];rfl) w ((h.orth w).mp hw);rw[YG e] at this;rcases kn.mp this with z|z
 ·exact absurd z hc
 ·exact z
def RS.keep(h:RS n s st fi W Rw T F C d a){u:LNt}{r cg:Z1x}{c:Rat}{i g:Nat}(hu:(queue s W)[a]?=some u)(hc:c≠0)(e:∀x,x<n->(r x:Rat)=c*zV n st fi u x)(hi:C[i]?=some cg)(hg:F[i]?=some g)(hp:dt n cg r≠0):RS n s st fi (W++[u]) (Rw++[r]) (T++[g]) (F.eraseIdx i) ((C.eraseIdx i).map λc=>nar (dt n cg r) d (dt n c r) cg c) (dt n cg r) (a+1):=by
 refine⟨?_,h.rc.keep hu,by rw[qx,qx,h.len];rfl,by rw[qx,qx,h.lenT];rfl,λj v ρ hv hρ=>?_⟩
 ·rw[List.reverse_append];exact h.sp.take hi hg hp
 ·by_cases q:j<W.length
  ·rw[qT q] at hv;rw[qT (by rw[<-h.len];exact q)] at hρ;exact h.mult j v ρ hv hρ
  ·obtain⟨hl,_⟩:=qf.mp hv;have hj:j=W.length:=by
    rw[qx] at hl;simp at hl;omega
   subst hj;rw[qz (qk _),kZ] at hv;rw[qz (by rw[h.len];exact qk _),h.len,kZ] at hρ;cases hv;cases hρ;exact⟨c,hc,e⟩
def Sp.few{R:LZr}(h:Sp n R T F C d):T.length+F.length=n:=by
 have p:(T++F).Perm (List.range n):=by
  rw[List.perm_ext_iff_of_nodup h.nd List.nodup_range];intro x;rw[h.mem,List.mem_range]
 have:=p.length_eq;rw[qx,qu] at this;exact this
def zjz(w:LNt):wt n st fi la w=dq n la (zV n st fi w):=zi n λx _=>k8 _ _
def RS.none(h:RS n s st fi W Rw T F C d a)(hs:0<s)(hd:(queue s W).length<=a\/F=[])(w:LNt)(hg:∀g∈w,g<s)(c:Q1x)(hc:∀v∈W,dq n c (zV n st fi v)=0):dq n c (zV n st fi w)=0:=by
 rcases hd with hd|hd
 ·exact h.rc.done hs hd w hg c hc
 ·have z:=h.sp.ind c (λx hx ht=>?_) ((h.orth c).mp hc)
  ·show sumTo n (λx=>c x*zV n st fi w x)=0
   rw[zi n (g:=λ_=>0) λx hx=>by rw[z x hx];exact kg _,yl]
  ·have:=(h.sp.mem x).mpr hx;rw[hd,kf] at this;exact absurd this ht
def RS.first(h:RS n s st fi W Rw T F C d a)(hs:0<s){u:LNt}(hu:(queue s W)[a]?=some u)(hF:F≠[])(h0:∀v∈W,wt n st fi la v=0):(∀w,(∀g∈w,g<s)->cd s w<cd s u->wt n st fi la w=0)/\u.length<n/\∀g∈u,g<s:=by
 refine⟨λw hg hw=>?_,?_,?_⟩
 ·rw[zjz];exact h.rc.before hs hu w hg hw la λv hv=>by rw[<-zjz];exact h0 v hv
 ·have k:=h.rc.keep hu
  have:=k.short hs W.length u (by rw[qz (qk _),kZ];rfl);have f:=h.sp.few
  have:0<F.length:=List.length_pos_iff.mpr hF;have l1:=h.len;have l2:=h.lenT
  omega
 ·have k:=h.rc.keep hu;exact k.signs hs W.length u (by rw[qz (qk _),kZ];rfl)
end
def zd2(j:Nat):(sg j).natAbs=1:=by
 unfold sg;split<;>rfl
theorem za0{n B:Nat}:∀(R:LZr)(S:LNt),(∀r∈R,∀x,x<n->(r x).natAbs<=B)->(∀x∈S,x<n)->S.length<=n->(det R S).natAbs<=(n*B) ^ R.length
 |[],S,_,_,_=>by
  show(1:Int).natAbs<=1
  decide
 |r::R,S,hR,hS,hl=>by
  show(yv S.length λj=>sg j*(r (S.getD j 0)*det R (S.eraseIdx j))).natAbs<=_
  have h:=Jy (f:=λj=>sg j*(r (S.getD j 0)*det R (S.eraseIdx j))) (B:=B*(n*B) ^ R.length) S.length λj hj=>by
   rw[q9,q9,zd2,g9];refine km (hR r (.head _) _ (hS _ ?_)) (za0 R _ (λq hq=>hR q (.tail _ hq)) (λx hx=>hS x (gB hx)) ?_)
   ·rw[qL,qo hj];exact mD hj
   ·rw[gr hj];omega
  refine qB h ?_;rw[qU,Nat.pow_succ,gR ((n*B) ^ R.length),Nat.mul_assoc];exact kW _ hl
def zhZ{n B:Nat}(R:LZr)(S:LNt)(hR:∀r∈R,∀x,x<n->(r x).natAbs<=B)(hS:∀x∈S,x<n)(hl:S.length<=n)(x:Nat):(vec R S x).natAbs<=n*(n*B) ^ R.length:=by
 have h:=Jy (f:=λj=>if S.getD j 0=x then sg j*det R (S.eraseIdx j) else 0) (B:=(n*B) ^ R.length) S.length λj hj=>by
  split
  ·rw[q9,zd2,g9];refine za0 R _ hR (λx hx=>hS x (gB hx)) ?_;rw[gr hj];omega
  ·exact kK _
 exact qB h (kW _ hl)
def zeG{e:Int}(h:e*e=1):e.natAbs=1:=by
 have:=qG Int.natAbs h;rw[q9] at this;have h1:e.natAbs*e.natAbs=1:=this;exact Nat.eq_one_of_mul_eq_one_left h1
section
variable{n B:Nat}{R:LZr}{T F:LNt}{C:LZr}{d:Int}
def Sp.zmA(h:Sp n R T F C d):∀x∈T,x<n:=λx hx=>(h.mem x).mp (qt.mpr (.inl hx))
def Sp.zaE(h:Sp n R T F C d)(hT:T.length<=n)(hR:∀r∈R,∀x,x<n->(r x).natAbs<=B):d.natAbs<=(n*B) ^ R.length:=by
 have⟨e,e1,e2,_⟩:=h.ex;rw[e2,q9,zeG e1,g9];exact za0 R T hR h.zmA hT
def Sp.zai(h:Sp n R T F C d)(hT:T.length+F.length=n)(hR:∀r∈R,∀x,x<n->(r x).natAbs<=B){i:Nat}{c:Z1x}(hc:C[i]?=some c):∀x,x<n->(c x).natAbs<=n*(n*B) ^ R.length:=λx hx=>by
 have⟨e,e1,e2,e3⟩:=h.ex;obtain⟨hi,_⟩:=qf.mp hc;rw[h.lenC] at hi;obtain⟨f,hf⟩:∃f,F[i]?=some f:=⟨_,qo hi⟩;rw[e3 i c f hc hf x hx,q9,q9,zeG e1,zd2,g9];refine zhZ R _ hR (h.lt hf) ?_ x;rw[qx];show T.length+1<=n
 omega
end
end WD.DT
namespace L2.Fu
open PySem PySem.Spec PyProof.Rows WS WD WD.DT
theorem zhz{s:Nat}(hs:0<s):∀(n:Nat)(v w:LNt),w.length=n->v.length<n->(∀g∈v,g<s)->cd s v<cd s w
 |0,_,_,_,h,_=>absurd h (kN _)
 |n+1,v,w,hw,hv,hg=>by
  rcases Yb w with e|⟨w',b,e⟩
  ·rw[e] at hw;cases hw
  ·subst e;have hw':w'.length=n:=by simpa using hw
   rcases Yb v with e|⟨v',a,e⟩
   ·subst e;rw[jR];show 0<_
    omega
   ·subst e;refine zaN (zhz hs n v' w' hw' ?_ λg q=>hg g (by simp[q])) (hg a (by simp))
    have:v'.length+1<n+1:=by simpa using hv
    omega
end L2.Fu
namespace WD.DT
def el(b:Q1x)(k:Nat)(r:Q1x):Nat->Rat:=λy=>r y - r k / b k*b y
def pick(k:Nat):List (Nat->Rat)->Option ((Nat->Rat)×List (Nat->Rat))
 |[]=>none
 |q::Q=>if q k≠0 then some (q,Q) else (pick k Q).map λp=>(p.1,q::p.2)
def rk:Nat->Nat->List (Nat->Rat)->Nat
 |0,_,_=>0
 |m+1,k,Q=>match pick k Q with
  |none=>rk m (k+1) Q
  |some p=>1+rk m (k+1) (p.2.map (el p.1 k))
def InQ(n:Nat)(L:LQr)(x:Q1x):Prop:=∀w:Nat->Rat,(∀l∈L,dq n w l=0)->dq n w x=0
theorem uv{k:Nat}:∀{Q:LQr},pick k Q=none->∀q∈Q,q k=0
 |[],_,q,h=>by cases h
 |p::Q,e,q,h=>by
  unfold pick at e;split at e
  ·cases e
  ·rename_i hp;have e2:pick k Q=none:=by
    cases z:pick k Q with
    |none=>rfl
    |some y=>rw[z] at e;cases e
   rcases qw.mp h with z|z
   ·rw[z];exact Classical.not_not.mp hp
   ·exact uv e2 q z
theorem uC{k:Nat}:∀{Q:LQr} {p:(Nat->Rat)×List (Nat->Rat)},pick k Q=some p->p.1 k≠0/\(p.1::p.2).Perm Q
 |[],p,e=>by cases e
 |q::Q,p,e=>by
  unfold pick at e;split at e
  ·rename_i hq;cases e;exact⟨hq,List.Perm.refl _⟩
  ·obtain⟨p',e1,e2⟩:∃p',pick k Q=some p'/\(p'.1,q::p'.2)=p:=by
    cases z:pick k Q with
    |none=>rw[z] at e;cases e
    |some y=>rw[z] at e;exact⟨y,rfl,by cases e;rfl⟩
   subst e2;have⟨h1,h2⟩:=uC e1;exact⟨h1,(List.Perm.swap q p'.1 p'.2).trans (h2.cons q)⟩
theorem Uh{k:Nat}{x:Q1x}:∀{Q:LQr} {p:(Nat->Rat)×List (Nat->Rat)},pick k Q=some p->pick k (Q++[x])=some (p.1,p.2++[x])
 |[],p,e=>by cases e
 |q::Q,p,e=>by
  unfold pick at e;show(if q k≠0 then some (q,Q++[x]) else (pick k (Q++[x])).map λp=>(p.1,q::p.2))=_
  by_cases hq:q k≠0
  ·rw[qg hq] at e ⊢;cases e;rfl
  ·rw[qm hq] at e ⊢;cases z:pick k Q with
   |none=>rw[z] at e;cases e
   |some y=>
    rw[z] at e;cases e;rw[Uh z];rfl
theorem Ub{k:Nat}{x:Q1x}:∀{Q:LQr},pick k Q=none->pick k (Q++[x])=if x k≠0 then some (x,Q) else none
 |[],_=>by
  show(if x k≠0 then some (x,[]) else (none:Option ((Nat->Rat)×List (Nat->Rat))).map _)=_
  by_cases h:x k≠0
  ·rw[qg h,qg h]
  ·rw[qm h,qm h];rfl
 |q::Q,e=>by
  have hq:¬q k≠0:=λz=>z (uv e q (.head _))
  unfold pick at e;rw[qm hq] at e;have e2:pick k Q=none:=by
   cases z:pick k Q with
   |none=>rfl
   |some y=>rw[z] at e;cases e
  show(if q k≠0 then some (q,Q++[x]) else (pick k (Q++[x])).map λp=>(p.1,q::p.2))=_
  rw[qm hq,Ub e2];by_cases h:x k≠0
  ·rw[qg h,qg h];rfl
  ·rw[qm h,qm h];rfl
def zeK{n:Nat}(w b r:Q1x)(k:Nat):dq n w (el b k r)=dq n w r - r k / b k*dq n w b:=by
 have h:=YM (n:=n) 1 (r k / b k) r b w;rw[zbg w r,zbg w b,zbg w (el b k r)];have e:dq n (el b k r) w=dq n (λx=>1*r x - r k / b k*b x) w:=zi n λx _=>by
  show(r x - r k / b k*b x)*w x=(1*r x - r k / b k*b x)*w x
  grind
 rw[e,h];grind
inductive Ech:Nat->List (Nat->Rat)->Prop
 |nil {k:Nat}:Ech k []
 |cons {k p:Nat} {b:Q1x} {P:LQr}:p<k->b p≠0->(∀y,y<p->b y=0)->Ech p P->Ech k (b::P)
def Ech.mono{k l:Nat}{P:LQr}(h:Ech k P)(hl:k<=l):Ech l P:=by
 cases h with
 |nil=>exact .nil
 |cons h1 h2 h3 h4=>exact .cons (by omega) h2 h3 h4
theorem Ech.solve{n:Nat}:∀{P:LQr} {k:Nat},Ech k P->k<=n->∀w:Nat->Rat,∃w':Nat->Rat,(∀y,k<=y->w' y=w y)/\∀b∈P,dq n w' b=0
 |[],_,_,_,w=>⟨w,λ_ _=>rfl,λb h=>by cases h⟩
 |b::P,k,h,hk,w=>by
  cases h with
  | @cons _ p _ _ h1 h2 h3 h4=>
   obtain⟨c,hc⟩:∃c:Rat,dq n (λy=>if y=p then c else w y) b=0:=by
    refine⟨w p - dq n w b / b p,?_⟩;have e:dq n (λy=>if y=p then w p - dq n w b / b p else w y) b=dq n w b+-(dq n w b / b p)*b p:=by
     generalize dq n w b / b p=t;show sumTo n (λy=>(if y=p then w p - t else w y)*b y)=sumTo n (λy=>w y*b y)+-t*b p
     have:∀m,p<m->sumTo m (λy=>(if y=p then w p - t else w y)*b y)=sumTo m (λy=>w y*b y)+-t*b p:=by
      intro m;induction m with
      |zero=>intro h;exact absurd h (kN _)
      |succ m ih=>
       intro hm;show sumTo m (λy=>(if y=p then w p - t else w y)*b y)+(if m=p then w p - t else w m)*b m=(sumTo m (λy=>w y*b y)+w m*b m)+-t*b p
       by_cases q:m=p
       ·subst q;rw[qg rfl,zi m (g:=λy=>w y*b y) λy hy=>by rw[qm (by omega)]];grind
       ·rw[qm q,ih (by omega)];grind
     exact this n (by omega)
    rw[e]
    have:dq n w b / b p*b p=dq n w b:=g6 h2;grind
   obtain⟨w',hw,hP⟩:=Ech.solve (n:=n) h4 (show p<=n by omega) λy=>if y=p then c else w y
   refine⟨w',λy hy=>?_,λq hq=>?_⟩
   ·rw[hw y (by omega),qm (show ¬y=p by omega)]
   ·rcases qw.mp hq with z|z
    ·subst z;rw[<-hc];refine zi n λy _=>?_
     by_cases hy:y<p
     ·rw[h3 y hy,kR,kR]
     ·rw[hw y (by omega)]
    ·exact hP q z
structure El(n k:Nat)(L P Q:LQr):Prop where
 ech:Ech k P
 zero:∀q∈Q,∀y,y<k->q y=0
 span:∀w:Nat->Rat,(∀l∈L,dq n w l=0)↔(∀b∈P,dq n w b=0)/\∀q∈Q,dq n w q=0
def zlk{n:Nat}(L:LQr):El n 0 L [] L:=⟨.nil,λ_ _ y h=>absurd h (kN y),λw=>⟨λh=>⟨λb hb=>(by cases hb),h⟩,λh=>h.2⟩⟩
def El.skip{n k:Nat}{L P Q:LQr}(h:El n k L P Q)(e:pick k Q=none):El n (k+1) L P Q:=⟨h.ech.mono (nI k),λq hq y hy=>by
 by_cases z:y=k
 ·rw[z];exact uv e q hq
 ·exact h.zero q hq y (by omega),h.span⟩
def zk7{b r:Q1x}{k:Nat}(hb:b k≠0):el b k r k=0:=by
 show r k - r k / b k*b k=0
 rw[g6 hb];grind
def zgs{b r:Q1x}{k y:Nat}(h1:r y=0)(h2:b y=0):el b k r y=0:=by
 show r y - r k / b k*b y=0
 rw[h1,h2];grind
def El.step{n k:Nat}{L P Q:LQr}(h:El n k L P Q){p:(Nat->Rat)×List (Nat->Rat)}(e:pick k Q=some p):El n (k+1) L (p.1::P) (p.2.map (el p.1 k)):=by
 have⟨h1,h2⟩:=uC e;have mb:p.1∈Q:=h2.mem_iff.mp (.head _);have mq:∀q∈p.2,q∈Q:=λq hq=>h2.mem_iff.mp (.tail _ hq)
 refine⟨.cons (kA k) h1 (h.zero p.1 mb) h.ech,λq hq y hy=>?_,λw=>?_⟩
 ·obtain⟨r,hr,rfl⟩:=qY.mp hq;by_cases z:y=k
  ·rw[z];exact zk7 h1
  ·exact zgs (h.zero r (mq r hr) y (by omega)) (h.zero p.1 mb y (by omega))
 ·rw[h.span w];constructor
  ·rintro⟨a1,a2⟩;refine⟨λb hb=>?_,λq hq=>?_⟩
   ·rcases qw.mp hb with z|z
    ·rw[z];exact a2 _ mb
    ·exact a1 b z
   ·obtain⟨r,hr,rfl⟩:=qY.mp hq;rw[zeK,a2 r (mq r hr),a2 _ mb];grind
  ·rintro⟨a1,a2⟩;refine⟨λb hb=>a1 b (.tail _ hb),λq hq=>?_⟩;rcases qw.mp (h2.mem_iff.mpr hq) with z|z
   ·rw[z];exact a1 _ (.head _)
   ·have:=a2 _ (qY.mpr ⟨q,z,rfl⟩);rw[zeK,a1 _ (.head _)] at this;grind
open Classical in
theorem zbc{n:Nat}{L:LQr}:∀(m k:Nat)(P Q:LQr)(x:Q1x),k+m=n->El n k L P Q->(∀y,y<k->x y=0)->rk m k (Q++[x])=rk m k Q+if InQ n L x then 0 else 1
 |0,k,P,Q,x,hm,h,hx=>by
  have:InQ n L x:=λw _=>by
   show sumTo n (λy=>w y*x y)=0
   rw[zi n (g:=λ_=>0) λy hy=>by rw[hx y (by omega)];exact kR _,yl]
  rw[qg this];rfl
 |m+1,k,P,Q,x,hm,h,hx=>by
  cases e:pick k Q with
  |some p=>
   have e':=Uh (x:=x) e;have⟨h1,h2⟩:=uC e
   have mb:p.1∈Q:=h2.mem_iff.mp (.head _);have l:rk (m+1) k (Q++[x])=1+rk m (k+1) ((p.2++[x]).map (el p.1 k)):=by
    show(match pick k (Q++[x]) with |none=>rk m (k+1) (Q++[x])|some p=>1+rk m (k+1) (p.2.map (el p.1 k)))=_
    rw[e']
   have r:rk (m+1) k Q=1+rk m (k+1) (p.2.map (el p.1 k)):=by
    show(match pick k Q with |none=>rk m (k+1) Q|some p=>1+rk m (k+1) (p.2.map (el p.1 k)))=_
    rw[e]
   have iff:InQ n L (el p.1 k x)↔InQ n L x:=by
    have q:∀w,(∀l∈L,dq n w l=0)->dq n w (el p.1 k x)=dq n w x:=λw hw=>by
     rw[zeK,((h.span w).mp hw).2 _ mb];grind
    exact⟨λz w hw=>by rw[<-q w hw];exact z w hw,λz w hw=>by rw[q w hw];exact z w hw⟩
   rw[l,r,qS,gp,List.map_nil,zbc m (k+1) (p.1::P) (p.2.map (el p.1 k)) (el p.1 k x) (by omega) (h.step e) λy hy=>?_]
   ·by_cases z:InQ n L x
    ·rw[qg z,qg (iff.mpr z)];omega
    ·rw[qm z,qm λq=>z (iff.mp q)];omega
   ·by_cases z:y=k
    ·rw[z];exact zk7 h1
    ·exact zgs (hx y (by omega)) (h.zero p.1 mb y (by omega))
  |none=>
   have e':=Ub (x:=x) e;have r:rk (m+1) k Q=rk m (k+1) Q:=by
    show(match pick k Q with |none=>rk m (k+1) Q|some p=>1+rk m (k+1) (p.2.map (el p.1 k)))=_
    rw[e]
   by_cases z:x k=0
   ·rw[qm λq=>q z] at e';have l:rk (m+1) k (Q++[x])=rk m (k+1) (Q++[x]):=by
     show(match pick k (Q++[x]) with |none=>rk m (k+1) (Q++[x])|some p=>1+rk m (k+1) (p.2.map (el p.1 k)))=_
     rw[e']
    rw[l,r];exact zbc m (k+1) P Q x (by omega) (h.skip e) λy hy=>by
     by_cases q:y=k
     ·rw[q];exact z
     ·exact hx y (by omega)
   ·rw[qg z] at e';have l:rk (m+1) k (Q++[x])=1+rk m (k+1) (Q.map (el x k)):=by
     show(match pick k (Q++[x]) with |none=>rk m (k+1) (Q++[x])|some p=>1+rk m (k+1) (p.2.map (el p.1 k)))=_
     rw[e']
    have same:Q.map (el x k)=Q:=by
     conv=>rhs;rw[<-List.map_id Q]
     refine gc λq hq=>?_
     funext y
     show q y - q k / x k*x y=q y
     rw[uv e q hq];grind
    have no:¬InQ n L x:=λhin=>by
     obtain⟨w',hw,hP⟩:=Ech.solve (n:=n) h.ech (show k<=n by omega) λy=>if y=k then 1 else 0
     have hq:∀q:Nat->Rat,(∀y,y<k->q y=0)->dq n w' q=q k:=λq h0=>by
      show sumTo n (λy=>w' y*q y)=q k
      rw[xU _ (j:=k) n (by omega) λy hy hne=>?_]
      ·rw[hw k (qk k),qg rfl];grind
      ·by_cases hlt:y<k
       ·rw[h0 y hlt,kR]
       ·rw[hw y (by omega),qm hne,kg]
     have:=hin w' ((h.span w').mpr ⟨hP,λq hm=>by rw[hq q (h.zero q hm)];exact uv e q hm⟩);rw[hq x hx] at this;exact z this
    rw[l,r,same,qm no];omega
open Classical in
def zfe{n:Nat}(L:LQr)(x:Q1x):rk n 0 (L++[x])=rk n 0 L+if InQ n L x then 0 else 1:=zbc n 0 [] L x (by omega) (zlk L) λy h=>absurd h (kN y)
def zfb{n:Nat}(L:LQr)(x:Q1x):rk n 0 (L++[x])=rk n 0 L↔InQ n L x:=by
 classical
 rw[zfe];by_cases z:InQ n L x
 ·rw[qg z];exact⟨λ_=>z,λ_=>rfl⟩
 ·rw[qm z];exact⟨λq=>absurd q (by omega),λq=>absurd q z⟩
structure Eb(n B X:Nat)(Q:LQr)(R:LZr)(T F:LNt)(C:LZr)(d:Int):Prop where
 sp:Sp n R T F C d
 rb:∀r∈R,∀x,x<n->(r x).natAbs<=B
 lenT:R.length=T.length
 qs:∀q∈Q,∃(l:Z1x)(M:Nat),0<M/\M<=X/\(∀x,x<n->(l x).natAbs<=B)/\(∀t∈T,q t=0)/\∀w:Nat->Rat,(∀r∈R,dq n w (rt r)=0)->dq n w (rt l)=(M:Rat)*dq n w q
def zkb{n B X:Nat}{L:LQr}(h:∀q∈L,∃(l:Z1x)(M:Nat),0<M/\M<=X/\∀x,x<n->(l x).natAbs<=B/\(l x:Rat)=(M:Rat)*q x):Eb n B X L [] [] (List.range n) ((List.range n).map xG) 1 where
 sp:=zd0 n
 rb:=λr hr=>by cases hr
 lenT:=rfl
 qs:=λq hq=>by
  have⟨l,M,h1,h2,h3⟩:=h q hq;refine⟨l,M,h1,h2,λx hx=>(h3 x hx).1,λt ht=>(by cases ht),λw _=>?_⟩;show sumTo n (λx=>w x*(l x:Rat))=(M:Rat)*sumTo n λx=>w x*q x
  rw[zi n (g:=λx=>w x*q x*(M:Rat)) λx hx=>by rw[(h3 x hx).2];grind,zT];exact k8 _ _
section
variable{n B X:Nat}{Q:LQr}{R:LZr}{T F:LNt}{C:LZr}{d:Int}
def Eb.dot(h:Eb n B X Q R T F C d){q:Q1x}(hT:∀t∈T,q t=0){i f:Nat}{c:Z1x}(hc:C[i]?=some c)(hf:F[i]?=some f):dq n (rt c) q=(d:Rat)*q f:=by
 have⟨f1,f2⟩:=h.sp.free hf;show sumTo n (λx=>(c x:Rat)*q x)=_
 rw[xU _ n f1 λx hx hne=>?_,h.sp.at hc hf];by_cases ht:x∈T
 ·rw[hT x ht,kR]
 ·rw[h.sp.out hc hf hx ht hne];exact kg _
def Eb.zjE(h:Eb n B X Q R T F C d){i f:Nat}{c:Z1x}(hc:C[i]?=some c)(hf:F[i]?=some f):∀r∈R,dq n (rt c) (rt r)=0:=λr hr=>by
 rw[JG,h.sp.orth hc hf hr];rfl
def zla{n K B:Nat}{c l:Z1x}(hc:∀x,x<n->(c x).natAbs<=K)(hl:∀x,x<n->(l x).natAbs<=B):(dt n c l).natAbs<=n*(K*B):=by
 have:∀m,m<=n->(dt m c l).natAbs<=m*(K*B):=by
  intro m;induction m with
  |zero=>intro _;exact kK _
  |succ m ih=>
   intro hm;show(dt m c l+c m*l m).natAbs<=_
   have h1:=ih (by omega);have h2:(c m*l m).natAbs<=K*B:=by
    rw[q9];exact km (hc m (by omega)) (hl m (by omega))
   rw[gm];omega
 exact this n (qk n)
def Eb.num(h:Eb n B X Q R T F C d){q:Q1x}(hq:q∈Q):∃M:Nat,0<M/\M<=X/\∀x,x<n->∃S:Int,q x*((M:Rat)*(d:Rat))=(S:Rat)/\S.natAbs<=n*((n*(n*B) ^ R.length)*B):=by
 have⟨l,M,h1,h2,h3,h4,h5⟩:=h.qs q hq;refine⟨M,h1,h2,λx hx=>?_⟩;rcases qt.mp ((h.sp.mem x).mpr hx) with z|z
 ·exact⟨0,by rw[h4 x z];exact kg _,kK _⟩
 ·obtain⟨i,hi⟩:=qX z;have hi':i<C.length:=by rw[h.sp.lenC];exact(qf.mp hi).1
  have hc:C[i]?=some C[i]:=qo hi';refine⟨dt n C[i] l,?_,zla (h.sp.zai h.sp.few h.rb hc) h3⟩;have e1:=h5 (rt C[i]) (h.zjE hc hi)
  rw[h.dot h4 hc hi,JG] at e1;rw[e1];grind
def Eb.zmu(h:Eb n B X Q R T F C d):R.length<=n:=by
 have:=h.sp.few
 have:=h.lenT;omega
def Eb.dabs(h:Eb n B X Q R T F C d):d.natAbs<=(n*B) ^ R.length:=h.sp.zaE (by have:=h.sp.few;omega) h.rb
def Eb.step(h:Eb n B X Q R T F C d){k:Nat}(hk:k<n){p:(Nat->Rat)×List (Nat->Rat)}(e:pick k Q=some p):∃R' T' F' C' d',Eb n B X (p.2.map (el p.1 k)) R' T' F' C' d'/\R'.length=R.length+1:=by
 have⟨h1,h2⟩:=uC e;have mb:p.1∈Q:=h2.mem_iff.mp (.head _);have mq:∀q∈p.2,q∈Q:=λq hq=>h2.mem_iff.mp (.tail _ hq)
 have⟨l,M,M0,MX,lB,lT,lw⟩:=h.qs p.1 mb;have kF:k∈F:=(qt.mp ((h.sp.mem k).mpr hk)).resolve_left λz=>h1 (lT k z)
 obtain⟨i,hi⟩:=qX kF;have hi':i<C.length:=by rw[h.sp.lenC];exact(qf.mp hi).1
 have hc:C[i]?=some C[i]:=qo hi';have hM:(M:Rat)≠0:=jh M0
 have hd:(d:Rat)≠0:=λz=>h.sp.d0 (by exact_mod_cast z)
 have e1:=lw (rt C[i]) (h.zjE hc hi);rw[h.dot lT hc hi,JG] at e1;have hp:dt n C[i] l≠0:=λz=>by
  rw[z] at e1;rcases kn.mp (show(M:Rat)*((d:Rat)*p.1 k)=0 from e1.symm) with z|z
  ·exact hM z
  ·rcases kn.mp z with z|z
   ·exact hd z
   ·exact h1 z
 refine⟨_,_,_,_,_,⟨h.sp.take hc hi hp,λr hr x hx=>?_,by rw[qU,qx,h.lenT];rfl,λq hq=>?_⟩,rfl⟩
 ·rcases qw.mp hr with z|z
  ·rw[z];exact lB x hx
  ·exact h.rb r z x hx
 ·obtain⟨r,hr,rfl⟩:=qY.mp hq;obtain⟨l',M',a1,a2,a3,a4,a5⟩:=h.qs r (mq r hr);refine⟨l',M',a1,a2,a3,λt ht=>?_,λw hw=>?_⟩
  ·rcases qt.mp ht with z|z
   ·exact zgs (a4 t z) (lT t z)
   ·rw[qO.mp z];exact zk7 h1
  ·have w1:=a5 w λr' hr'=>hw r' (.tail _ hr')
   have w2:=lw w λr' hr'=>hw r' (.tail _ hr')
   rw[hw l (.head _)] at w2;have w3:dq n w p.1=0:=(kn.mp w2.symm).resolve_left hM;rw[w1,zeK,w3];grind
end
section
variable{n s:Nat}{st:Q3x}{fi la:Q1x}{W:List (List Nat)}{Rw:LZr}{T F:LNt}{C:LZr}{d:Int}{a:Nat}
def RS.zdj(h:RS n s st fi W Rw T F C d a)(x:Q1x):In n Rw.reverse x↔∀c:Nat->Rat,(∀v∈W,dq n c (zV n st fi v)=0)->dq n c x=0:=⟨λq c hc=>q c ((h.orth c).mp hc),λq c hc=>q c ((h.orth c).mpr hc)⟩
def RS.zkM(h:RS n s st fi W Rw T F C d a)(hs:0<s)(hd:(queue s W).length<=a\/F=[])(w:LNt)(hg:∀g∈w,g<s):In n Rw.reverse (zV n st fi w):=(h.zdj _).mpr λc hc=>h.none hs hd w hg c hc
def RS.zkx(h:RS n s st fi W Rw T F C d a)(hs:0<s)(hd:(queue s W).length<=a\/F=[])(g:Nat)(x:Q1x)(hg:g<s)(hx:In n Rw.reverse x):In n Rw.reverse (led n x (st g)):=(h.zdj _).mpr λc hc=>by
 rw[za1];refine(h.zdj x).mp hx _ λv hv=>?_
 obtain⟨i,hi⟩:=qX hv;rw[<-za1,<-ue];refine h.none hs hd _ (λg' hg'=>?_) c hc;rcases qt.mp hg' with q|q
 ·exact h.rc.signs hs i v hi g' q
 ·rw[qO.mp q];exact hg
end
end WD.DT
namespace L2.Fu
open PySem PySem.Spec PyProof.Rows
def uu:RFx:=(sq (zO 1 (cst (.int 0)))
 (sq (jv (yI (gv 0)) (bN 2) (zO 1 (zd yR (aC (gv 2) (aC (gv 1) a0)))))
 (sq (ifS (zA (op2 ltI (gv 1) (cst (.int 2)))) (UJ (xc vD (aC (gv 0) a0))) s0)
 (UJ (zZ 1 [1] (yI (gv 0)) (bN 0) (op2 yg (gv 0) (gv 1)))))))
def xq:LLx:=fnL 3 1 uu
def Wr:RFx:=(UJ (xc xq (aC (yB (xc jd (aC (gv 0) (aC (zd xh (aC (gv 0) a0)) a0)))) a0)))
def xI:LLx:=fnL 1 1 Wr
def YV:RFx:=(sq (x8 2 (zhd (vL (aC (cst (.int 0)) a0)) (gv 1)))
 (sq (siS 2 (gv 0) (cst (.int 1)))
 (UJ (gk 2))))
def v3:LLx:=fnL 3 2 YV
def Yq:RFx:=(UJ (zZ 2 [1,3,4] (UQ false false (aC (gv 0) (aC (gv 2) a0))) (b2 (bN 0) (bN 1)) (op2 yg (op2 Wk (op2 yA (gv 3) (gv 0)) (op2 yA (gv 2) (gv 1))) (gv 4))))
def uZ:LLx:=fnL 5 5 Yq
def VI:RFx:=(sq (exS (zd vG (aC (gv 0) (aC (gv 1) a0))))
 (retS (zd Yf (aC (gv 0) (aC (yM (aC (op2 ixD (gv 1) (cst (.int 0))) (aC (op2 ixD (gv 1) (cst (.int 1))) (aC (zd uO (aC (op2 ixD (gv 1) (cst (.int 2))) (aC (cst (.tuple [.int (-1),.int 1])) a0))) a0)))) a0)))))
def vU:LPx:=fnF 2 2 VI
inductive Fs where
 |pu (d:PdX)|ow (ds:LPd)|ob (C:AdX) (fs:List (Str×Fs))
mutual
inductive FOk(K:FRx)(H:Hp)(os:LAd):V->Fs->List Addr->Prop
 |pu {v:V} {d:PdX}:Rep K (offs H os) v d->FOk K H os v (.pu d) []
 |ow {a:AdX} {xs:List V} {ds:LPd}:H a=some (.lst xs)->Reps K (offs H os) xs ds->FOk K H os (.ref a) (.ow ds) [a]
 |ob {p C dx:AdX} {vs:List (Str×V)} {fs:List (Str×Fs)} {A:LAd}:H p=some (.ins C dx vs)->xj K H os vs fs A->FOk K H os (.ref p) (.ob C fs) (p::A)
inductive xj(K:FRx)(H:Hp)(os:LAd):List (Str×V)->List (Str×Fs)->List Addr->Prop
 |nil:xj K H os [] [] []
 |cons {x:Str} {v:V} {c:Fs} {vs:List (Str×V)} {fs:List (Str×Fs)} {A B:LAd}:FOk K H os v c A->xj K H os vs fs B->xj K H os ((x,v)::vs) ((x,c)::fs) (A++B)
end
section
variable{K:FRx}{H H':Hp}{os os':LAd}
mutual
theorem FOk.keep(s:Same (offs H os) (offs H' os')):∀{v:V} {c:Fs} {A:LAd},FOk K H os v c A->(∀a∈A,H' a=H a)->FOk K H' os' v c A
 |_,_,_,.pu r,_=>.pu (r.same s)
 |_,_,_,.ow h r,q=>.ow (by rw[q _ (.head _)];exact h) (r.same s)
 |_,_,_,.ob h r,q=>.ob (by rw[q _ (.head _)];exact h) (xj.keep s r λa ha=>q a (.tail _ ha))
theorem xj.keep(s:Same (offs H os) (offs H' os')):∀{vs:List (Str×V)} {fs:List (Str×Fs)} {A:LAd},xj K H os vs fs A->(∀a∈A,H' a=H a)->xj K H' os' vs fs A
 |_,_,_,.nil,_=>.nil
 |_,_,_,.cons h r,q=>.cons (FOk.keep s h λa ha=>q a (qt.mpr (.inl ha))) (xj.keep s r λa ha=>q a (qt.mpr (.inr ha)))
end
mutual
theorem FOk.has:∀{v:V} {c:Fs} {A:LAd},FOk K H os v c A->∀a∈A,∃o,H a=some o
 |_,_,_,.pu _,a,h=>by cases h
 |_,_,_,.ow h _,a,ha=>by rw[qO.mp ha];exact⟨_,h⟩
 |_,_,_,.ob h r,a,ha=>by
  rcases qw.mp ha with z|z
  ·rw[z];exact⟨_,h⟩
  ·exact xj.has r a z
theorem xj.has:∀{vs:List (Str×V)} {fs:List (Str×Fs)} {A:LAd},xj K H os vs fs A->∀a∈A,∃o,H a=some o
 |_,_,_,.nil,a,h=>by cases h
 |_,_,_,.cons h r,a,ha=>by
  rcases qt.mp ha with z|z
  ·exact FOk.has h a z
  ·exact xj.has r a z
end
def FOk.same(e:Same H H'){v:V}{c:Fs}{A:LAd}(h:FOk K H os v c A):FOk K H' os v c A:=h.keep (zr e os) λa ha=>by
 have⟨o,q⟩:=h.has a ha;rw[q];exact e a o q
def fld(x:Str):List (Str×Fs)->Option Fs
 |[]=>none
 |(y,c)::fs=>if x=y then some c else fld x fs
theorem xj.look{x:Str}:∀{vs:List (Str×V)} {fs:List (Str×Fs)} {A:LAd} {c:Fs},xj K H os vs fs A->fld x fs=some c->∃v B,vs.lookup x=some v/\FOk K H os v c B/\∀a∈B,a∈A
 |_,_,_,_,.nil,q=>by cases q
 |_,_,_,c,@xj.cons _ _ _ y v c' vs fs A B h r,q=>by
  unfold fld at q;by_cases z:x=y
  ·rw[qg z] at q;cases q;refine⟨v,A,?_,h,λa ha=>qt.mpr (.inl ha)⟩;rw[kb,show(x==y)=true from kU.mpr z]
  ·rw[qm z] at q;have⟨v',B',h1,h2,h3⟩:=xj.look r q;refine⟨v',B',?_,h2,λa ha=>qt.mpr (.inr (h3 a ha))⟩;rw[kb,show(x==y)=false from kv.mpr z];exact h1
theorem xj.nolook{x:Str}:∀{vs:List (Str×V)} {fs:List (Str×Fs)} {A:LAd},xj K H os vs fs A->fld x fs=none->vs.lookup x=none
 |_,_,_,.nil,_=>rfl
 |_,_,_,@xj.cons _ _ _ y v c' vs fs A B h r,q=>by
  unfold fld at q;by_cases z:x=y
  ·rw[qg z] at q;cases q
  ·rw[qm z] at q;rw[kb,show(x==y)=false from kv.mpr z];exact xj.nolook r q
end
structure vO(K:FRx)(C:AdX)(ℓ:Nat)(H:Hp)(os:LAd)(σ:St)(ρ:Ro)(fs:List (Str×Fs)):Prop where
 rel:xD K H os σ ρ
 ob:∃p A,σ[ℓ]?=some (some (.ref p))/\FOk K H os (.ref p) (.ob C fs) A/\∀a∈A,a∈os
def vO.same{K:FRx}{C:AdX}{ℓ:Nat}{H H':Hp}{os:LAd}{σ:St}{ρ:Ro}{fs:List (Str×Fs)}(h:vO K C ℓ H os σ ρ fs)(e:Same H H'):vO K C ℓ H' os σ ρ fs:=by
 have⟨p,A,h1,h2,h3⟩:=h.ob;exact⟨h.rel.same e,p,A,h1,h2.same e,h3⟩
abbrev Ob:=List (Str×Fs)
abbrev OPx:=Ro->Ob->Option PyData
abbrev OLx:=Ro->Ob->Option (List PyData)
abbrev MFx:=Ob->List PyData->Option (PyData×Ob)
def GE(X:Cx)(C:AdX)(ℓ:Nat)(e:Expr)(f:Ro->Ob->Option PyData):Prop:=∃t:TE,PE X e t/\∀(σ:St)(H:Hp)(os:LAd)(ρ:Ro)(fs:Ob)(d:PdX)(Q:VK),vO X.K C ℓ H os σ ρ fs->f ρ fs=some d->(∀v H',Same H H'->Rep X.K (offs H' os) v d->Q v H')->t σ H Q
def GB(X:Cx)(C:AdX)(ℓ:Nat)(e:Expr)(f:OPx):Prop:=∃t:TE,PE X e t/\∀(σ:St)(H:Hp)(os:LAd)(ρ:Ro)(fs:Ob)(d:PdX)(Q:VK),vO X.K C ℓ H os σ ρ fs->f ρ fs=some d->(∀v H',Same H H'->jG X.K H' os v d->Q v H')->t σ H Q
def GL(X:Cx)(C:AdX)(ℓ:Nat)(e:Expr)(f:OLx):Prop:=∃t:TE,PE X e t/\∀(σ:St)(H:Hp)(os:LAd)(ρ:Ro)(fs:Ob)(ds:LPd)(Q:VK),vO X.K C ℓ H os σ ρ fs->f ρ fs=some ds->
  (∀a xs H',H a=none->Same H H'->H' a=some (.lst xs)->Reps X.K (offs H' (a::os)) xs ds->Q (.ref a) H')->t σ H Q
def GT(X:Cx)(C:AdX)(ℓ:Nat)(e:Expr)(f:Ro->Ob->Option Bool):Prop:=∃t:TT,PT X e t/\∀(σ:St)(H:Hp)(os:LAd)(ρ:Ro)(fs:Ob)(b:Bool)(Q:Bool->Hp->Prop),vO X.K C ℓ H os σ ρ fs->f ρ fs=some b->(∀H',Same H H'->Q b H')->t σ H Q
section
variable{X:Cx}{C:AdX}{ℓ:Nat}{e a b:Expr}{pos:Pos}
def FE.ge{f:RPx}(h:FE X e f):GE X C ℓ e (λρ _=>f ρ):=by
 have⟨t,p,q⟩:=h;exact⟨t,p,λσ H os ρ fs d Q R e k=>q σ H os ρ d Q R.rel e k⟩
def FB.gb{f:RPx}(h:FB X e f):GB X C ℓ e (λρ _=>f ρ):=by
 have⟨t,p,q⟩:=h;exact⟨t,p,λσ H os ρ fs d Q R e k=>q σ H os ρ d Q R.rel e k⟩
def FL.gl{f:RLx}(h:FL X e f):GL X C ℓ e (λρ _=>f ρ):=by
 have⟨t,p,q⟩:=h;exact⟨t,p,λσ H os ρ fs d Q R e k=>q σ H os ρ d Q R.rel e k⟩
def FT.gt{f:Ro->Option Bool}(h:FT X e f):GT X C ℓ e (λρ _=>f ρ):=by
 have⟨t,p,q⟩:=h;exact⟨t,p,λσ H os ρ fs d Q R e k=>q σ H os ρ d Q R.rel e k⟩
def GE.gb{f:OPx}(h:GE X C ℓ e f):GB X C ℓ e f:=by
 have⟨t,p,q⟩:=h;exact⟨t,p,λσ H os ρ fs d Q R e k=>q σ H os ρ fs d Q R e λv H' s r=>k v H' s (.inl r)⟩
def gf(x:Str):OPx:=λ_ fs=>match fld x fs with |some (.pu d)=>some d|_=>none
def gg(x:Str):OPx:=λ_ fs=>match fld x fs with |some (.pu d)=>some d|some (.ow ds)=>some (.list ds)|_=>none
def za7{x f:Str}{p:Pos}(cl:Cls X.K C)(na:zS X.K C f)(hN:X.N[ℓ]?=some x:=by rfl)(hv:Vis X.env.scope x:=by trivial)(hd:NDx x:=by decide)(hcd:NCx x:=by decide)(hb:ABx X (.Name x p) f:=by rfl):GE X C ℓ (.Attribute (.Name x p) f pos) (gf f):=by
 refine⟨_,w6 (yU (i:=ℓ) hN hv hd hcd) hb,λσ H os ρ fs d Q R e k=>?_⟩;have⟨q,A,h1,h2,h3⟩:=R.ob;cases h2 with
 |ob hp r=>
  unfold gf at e;split at e
  ·rename_i d' ef;cases e;have⟨v,B,l,o,_⟩:=r.look ef;cases o with
   |pu rv=>exact⟨_,h1,_,_,_,_,_,rfl,hp,cl,na,l,k _ H (Same.refl H) rv⟩
  ·cases e
def ua{x f:Str}{p:Pos}(cl:Cls X.K C)(na:zS X.K C f)(hN:X.N[ℓ]?=some x:=by rfl)(hv:Vis X.env.scope x:=by trivial)(hd:NDx x:=by decide)(hcd:NCx x:=by decide)(hb:ABx X (.Name x p) f:=by rfl):GB X C ℓ (.Attribute (.Name x p) f pos) (gg f):=by
 refine⟨_,w6 (yU (i:=ℓ) hN hv hd hcd) hb,λσ H os ρ fs d Q R e k=>?_⟩;have⟨q,A,h1,h2,h3⟩:=R.ob;cases h2 with
 |ob hp r=>
  unfold gg at e;split at e
  ·rename_i d' ef;cases e;have⟨v,B,l,o,_⟩:=r.look ef;cases o with
   |pu rv=>exact⟨_,h1,_,_,_,_,_,rfl,hp,cl,na,l,k _ H (Same.refl H) (.inl rv)⟩
  ·rename_i ds ef;cases e;have⟨v,B,l,o,_⟩:=r.look ef;cases o with
   |ow ha rv=>exact⟨_,h1,_,_,_,_,_,rfl,hp,cl,na,l,k _ H (Same.refl H) (.inr ⟨_,_,_,rfl,rfl,ha,rv⟩)⟩
  ·cases e
end
structure MSt(K:FRx)(C:AdX)(ℓ:Nat)(H0:Hp)(os0:LAd)(p:AdX)(H:Hp)(os:LAd)(σ:St)(ρ:Ro)(fs:Ob):Prop where
 sr:SRo K H0 os0 H os σ ρ
 self:σ[ℓ]?=some (some (.ref p))
 ob:∃A,FOk K H os (.ref p) (.ob C fs) A/\A.Nodup/\(∀a∈A,a∈os/\H0 a=none)/\∀(j:Nat)(c:Sl),ρ[j]?=some c->isM c=true->∀a∈A,σ[j]?≠some (some (.ref a))
inductive Flo where
 |nx (ρ:Ro) (fs:Ob)|rt (d:PdX) (fs:Ob)|rf (d:PdX)
abbrev OFx:=Ro->Ob->Option Flo
structure ziz(K:FRx)(C:AdX)(H0:Hp)(os0:LAd)(p:AdX)(H:Hp)(os:LAd)(fs:Ob):Prop where
 sm:Same H0 H
 sub:∀a∈os0,a∈os
 new:∀a∈os,a∈os0\/H0 a=none
 al:Al H os
 ob:∃A,FOk K H os (.ref p) (.ob C fs) A/\A.Nodup/\∀a∈A,a∈os/\H0 a=none
def zjB(K:FRx)(C:AdX)(ℓ:Nat)(H0:Hp)(os0:LAd)(p:AdX)(D:Ends):Flo->Prop
 | .nx ρ fs=>∀σ H os,MSt K C ℓ H0 os0 p H os σ ρ fs->D.nx σ H
 | .rt d fs=>∀v H os,ziz K C H0 os0 p H os fs->Rep K (offs H os) v d->D.rt v H
 | .rf d=>∀v H,Same H0 H->Rep K (offs H os0) v d->D.rt v H
def OS(X:Cx)(C:AdX)(ℓ:Nat)(st:Stmt)(f:OFx):Prop:=∃t:TS,PS X st t/\∀(H0:Hp)(os0:LAd)(p:AdX)(D:Ends)(σ:St)(H:Hp)(os:LAd)(ρ:Ro)(fs:Ob)(r:Flo),MSt X.K C ℓ H0 os0 p H os σ ρ fs->f ρ fs=some r->zjB X.K C ℓ H0 os0 p D r->t D σ H
def OSs(X:Cx)(C:AdX)(ℓ:Nat)(sts:List Stmt)(f:OFx):Prop:=∃t:TS,PSs X sts t/\∀(H0:Hp)(os0:LAd)(p:AdX)(D:Ends)(σ:St)(H:Hp)(os:LAd)(ρ:Ro)(fs:Ob)(r:Flo),MSt X.K C ℓ H0 os0 p H os σ ρ fs->f ρ fs=some r->zjB X.K C ℓ H0 os0 p D r->t D σ H
section
variable{K:FRx}{C:AdX}{ℓ:Nat}{H0 H H':Hp}{os0 os:LAd}{p:AdX}{σ:St}{ρ:Ro}{fs:Ob}
def MSt.Jx(h:MSt K C ℓ H0 os0 p H os σ ρ fs):vO K C ℓ H os σ ρ fs:=by
 have⟨A,h1,h2,h3,h4⟩:=h.ob;exact⟨h.sr.rel,p,A,h.self,h1,λa ha=>(h3 a ha).1⟩
def MSt.same(h:MSt K C ℓ H0 os0 p H os σ ρ fs)(e:Same H H'):MSt K C ℓ H0 os0 p H' os σ ρ fs:=by
 have⟨A,h1,h2,h3,h4⟩:=h.ob;exact⟨h.sr.same e,h.self,A,h1.same e,h2,h3,h4⟩
def MSt.end(h:MSt K C ℓ H0 os0 p H os σ ρ fs):ziz K C H0 os0 p H os fs:=by
 have⟨A,h1,h2,h3,h4⟩:=h.ob;exact⟨h.sr.sm,h.sr.sub,h.sr.new,h.sr.rel.al,A,h1,h2,h3⟩
def MSt.set(h:MSt K C ℓ H0 os0 p H os σ ρ fs){i:Nat}{v:V}{d:PdX}(hi:i≠ℓ)(r:Rep K (offs H os) v d):MSt K C ℓ H0 os0 p H os (σ.set i (some v)) (ρ.set i (.pu d)) fs:=by
 have⟨A,h1,h2,h3,h4⟩:=h.ob;refine⟨h.sr.set r,by rw[qJ hi];exact h.self,A,h1,h2,h3,λj c q m a ha z=>?_⟩;have⟨hj,q⟩:=vE q m;rw[qJ hj] at z;exact h4 j c q m a ha z
def MSt.ZU(h:MSt K C ℓ H0 os0 p H os σ ρ fs){i:Nat}{a:AdX}{xs:List V}{ds:LPd}(hi:i≠ℓ)(n:H a=none)(s:Same H H')(hx:H' a=some (.lst xs))(r:Reps K (offs H' (a::os)) xs ds):MSt K C ℓ H0 os0 p H' (a::os) (σ.set i (some (.ref a))) (ρ.set i (.ow ds)) fs:=by
 have⟨A,h1,h2,h3,h4⟩:=h.ob;have nA:a∉A:=λz=>by
  have⟨o,e⟩:=h1.has a z;rw[n] at e;cases e
 refine⟨h.sr.ZU n s hx r,by rw[qJ hi];exact h.self,A,h1.keep (jI n s) λb hb=>?_,h2,λb hb=>⟨qD _ (h3 b hb).1,(h3 b hb).2⟩,λj c q m b hb z=>?_⟩
 ·have⟨o,e⟩:=h1.has b hb;rw[e];exact s b o e
 ·rcases yw q with⟨rfl,hl,rfl⟩|⟨hj,q⟩
  ·rw[ku (by rw[h.sr.rel.len];exact hl)] at z;cases z;exact nA hb
  ·rw[qJ hj] at z;exact h4 j c q m b hb z
def MSt.chg(h:MSt K C ℓ H0 os0 p H os σ ρ fs){i:Nat}{a:AdX}{ys:List V}{ds es:LPd}(q:ρ[i]?=some (.ow ds))(e:σ[i]?=some (some (.ref a)))(r:Reps K (offs H os) ys es):MSt K C ℓ H0 os0 p (upd H a (.lst ys)) os σ (ρ.set i (.ow es)) fs:=by
 have⟨A,h1,h2,h3,h4⟩:=h.ob;have nA:a∉A:=λz=>h4 i _ q rfl a z e
 have⟨a',xs,e',ha,hx,_⟩:=h.sr.rel.ow i ds q;rw[e] at e';cases e';refine⟨h.sr.chg q e r,h.self,A,h1.keep (by rw[xk ha];exact Same.refl _) λb hb=>by rw[zR λz=>nA (by rw[<-z];exact hb)],h2,h3,λj c q' m b hb z=>?_⟩;rcases yw q' with⟨rfl,hl,rfl⟩|⟨hj,q'⟩
 ·rw[e] at z;cases z;exact nA hb
 ·exact h4 j c q' m b hb z
end
section
variable{X:Cx}{C:AdX}{ℓ:Nat}{st:Stmt}{rest:List Stmt}{f g:OFx}{e:Expr}{pos:Pos}
def osq(f g:OFx):OFx:=λρ fs=>match f ρ fs with |some (.nx ρ' fs')=>g ρ' fs'|r=>r
def os0:OFx:=λρ fs=>some (.nx ρ fs)
def W4:OSs X C ℓ [] os0:=⟨_,zes,λ_ _ _ _ _ _ _ _ _ _ R q k=>by cases q;exact k _ _ _ R⟩
def xM(h:OS X C ℓ st f):OSs X C ℓ [st] f:=by
 have⟨t,p,q⟩:=h;exact⟨t,zex p,q⟩
def zU(h:OS X C ℓ st f)(h2:OSs X C ℓ rest g):OSs X C ℓ (st::rest) (osq f g):=by
 have⟨t,p,q⟩:=h;have⟨t2,p2,q2⟩:=h2;refine⟨_,Y1 p p2,λH0 os0 p D σ H os ρ fs r R e k=>?_⟩;unfold osq at e;split at e
 ·rename_i ρ' fs' e1;exact q H0 os0 p { D with nx:=t2 D } σ H os ρ fs _ R e1 λσ' H' os' R'=>q2 H0 os0 p D σ' H' os' ρ' fs' r R' e k
 ·cases r with
  |nx ρ' fs'=>rename_i hn;exact absurd e (hn ρ' fs')
  |rt d fs'=>exact q H0 os0 p { D with nx:=t2 D } σ H os ρ fs _ R e k
  |rf d=>exact q H0 os0 p { D with nx:=t2 D } σ H os ρ fs _ R e k
def oset(i:Nat)(f:OPx):OFx:=λρ fs=>(f ρ fs).bind λd=>some (.nx (ρ.set i (.pu d)) fs)
def zhh(i:Nat){x:Str}{pos':Pos}{f:OPx}(hN:X.N.Nodup)(he:GE X C ℓ e f)(h0:i≠ℓ:=by decide)(hi:X.N[i]?=some x:=by rfl)(hx:Loc X.env.scope x:=by trivial)(hs:swapsWith e (some (.Name x pos')) pos.line X.env=pure false:=by rfl)(hf:FNx X x:=by trivial):OS X C ℓ (.Assign [.Name x pos'] e pos) (oset i f):=by
 have⟨t,p,q⟩:=he;refine⟨_,uW hN hi hx p hs hf,λH0 os0 p D σ H os ρ fs r R e k=>?_⟩;have⟨d,e1,e2⟩:=bind_some e;cases e2;exact q σ H os ρ fs d _ R.Jx e1 λv H' s rv=>k _ _ _ ((R.same s).set h0 rv)
def WK(i:Nat)(f:OLx):OFx:=λρ fs=>(f ρ fs).bind λd=>some (.nx (ρ.set i (.ow d)) fs)
def oret(f:OPx):OFx:=λρ fs=>(f ρ fs).bind λd=>some (.rt d fs)
def Jt{f:OPx}(h:GE X C ℓ e f):OS X C ℓ (.Return (some e) pos) (oret f):=by
 have⟨t,p,q⟩:=h;refine⟨_,Yt p,λH0 os0 p D σ H os ρ fs r R e k=>?_⟩;have⟨d,e1,e2⟩:=bind_some e;cases e2;exact q σ H os ρ fs d _ R.Jx e1 λv H' s rv=>k v H' os (R.same s).end rv
def oif(c:Ro->Ob->Option Bool)(f g:OFx):OFx:=λρ fs=>(c ρ fs).bind λb=>if b then f ρ fs else g ρ fs
def zg0{c:Expr}{a b:List Stmt}{fc:Ro->Ob->Option Bool}(hc:GT X C ℓ c fc)(ha:OSs X C ℓ a f)(hb:OSs X C ℓ b g):OS X C ℓ (.If c a b pos) (oif fc f g):=by
 have⟨tc,pc,qc⟩:=hc;have⟨ta,pa,qa⟩:=ha;have⟨tb,pb,qb⟩:=hb;refine⟨_,zgH pc pa pb,λH0 os0 p D σ H os ρ fs r R e k=>?_⟩;have⟨b,e1,e2⟩:=bind_some e;refine qc σ H os ρ fs b _ R.Jx e1 λH' s=>?_
 cases b with
 |true=>rw[qg rfl] at e2 ⊢;exact qa H0 os0 p D σ H' os ρ fs r (R.same s) e2 k
 |false=>rw[qm qE] at e2 ⊢;exact qb H0 os0 p D σ H' os ρ fs r (R.same s) e2 k
end
def zN(x:Str)(c:Fs):Ob->Ob
 |[]=>[(x,c)]
 |(y,d)::fs=>if y=x then (y,c)::fs else (y,d)::zN x c fs
section
variable{K:FRx}{C:AdX}{ℓ:Nat}{H0 H H':Hp}{os0 os:LAd}{p:AdX}{σ:St}{ρ:Ro}{fs:Ob}
theorem xj.len:∀{vs:List (Str×V)} {fs:Ob} {A:LAd},xj K H os vs fs A->vs.length=fs.length
 |_,_,_,.nil=>rfl
 |_,_,_,.cons _ r=>qG (·+1) (xj.len r)
def zbe{A B:LAd}(h1:A.Nodup)(h2:B.Nodup)(h3:∀a∈A,a∉B):(A++B).Nodup:=List.nodup_append.mpr ⟨h1,h2,λa ha b hb e=>h3 a ha (by rw[e];exact hb)⟩
def zjT{A B:LAd}(h:(A++B).Nodup):A.Nodup:=(gJ.mp h).1
def zfd{A B:LAd}(h:(A++B).Nodup):B.Nodup:=(gJ.mp h).2.1
def zfq{A B:LAd}(h:(A++B).Nodup):∀a∈A,a∉B:=λa ha hb=>(gJ.mp h).2.2 a ha a hb rfl
theorem xj.put{x:Str}{v:V}{c:Fs}{B:LAd}(hb:FOk K H os v c B)(ndB:B.Nodup):∀{vs:List (Str×V)} {fs:Ob} {A:LAd},xj K H os vs fs A->A.Nodup->(∀a∈B,a∉A)->∃A',xj K H os (Jd x v vs) (zN x c fs) A'/\A'.Nodup/\∀a∈A',a∈A\/a∈B
 |_,_,_,.nil,_,_=>⟨B++[],.cons hb .nil,by rw[kf];exact ndB,λa ha=>.inr (by rw[kf] at ha;exact ha)⟩
 |_,_,_,@xj.cons _ _ _ y u d vs fs A0 B0 h r,nd,dj=>by
  unfold Jd zN;by_cases z:y=x
  ·rw[qg z,qg z];refine⟨B++B0,.cons hb r,zbe ndB (zfd nd) λa ha hb=>dj a ha (qt.mpr (.inr hb)),λa ha=>?_⟩;rcases qt.mp ha with q|q
   ·exact .inr q
   ·exact .inl (qt.mpr (.inr q))
  ·rw[qm z,qm z];obtain⟨A',h1,h2,h3⟩:=xj.put hb ndB r (zfd nd) λa ha q=>dj a ha (qt.mpr (.inr q))
   refine⟨A0++A',.cons h h1,zbe (zjT nd) h2 λa ha q=>?_,λa ha=>?_⟩
   ·rcases h3 a q with w|w
    ·exact zfq nd a ha w
    ·exact dj a w (qt.mpr (.inl ha))
   ·rcases qt.mp ha with q|q
    ·exact .inl (qt.mpr (.inl q))
    ·rcases h3 a q with w|w
     ·exact .inl (qt.mpr (.inr w))
     ·exact .inr w
def SRo.zl9(h:SRo K H0 os0 H os σ ρ){o:HO}(hp:p∈os)(h0:H0 p=none)(hs:∀(j:Nat)(c:Sl),ρ[j]?=some c->isM c=true->σ[j]?≠some (some (.ref p))):SRo K H0 os0 (upd H p o) os σ ρ:=by
 have eo:offs (upd H p o) os=offs H os:=xk hp;refine⟨⟨λi d q=>by rw[eo];exact h.rel.pu i d q,λi c q m=>?_,λb hb=>?_,h.rel.len⟩,λb o' z=>?_,h.sub,h.new,h.al0,h.own,h.ap⟩
 ·have⟨a,o',h1,h2,h3,h4⟩:=h.rel.mu i c q m;exact⟨a,o',h1,h2,by rw[zR λz=>hs i c q m (by rw[h1,z])];exact h3,by rw[eo];exact h4⟩
 ·by_cases q:b=p
  ·rw[q];exact⟨_,zL⟩
  ·rw[zR q];exact h.rel.al b hb
 ·rw[zR λw=>by rw[w,h0] at z;cases z];exact h.sm b o' z
def SRo.grow(h:SRo K H0 os0 H os σ ρ){a:AdX}{xs:List V}{ds:LPd}(n:H a=none)(s:Same H H')(hx:H' a=some (.lst xs))(r:Reps K (offs H' (a::os)) xs ds):SRo K H0 os0 H' (a::os) σ ρ:=by
 have:=h.ZU (i:=ρ.length) n s hx r;rw[pV (qk _),pV (by rw[h.rel.len];exact qk _)] at this;exact this
def SRo.drop(h:SRo K H0 os0 H os σ ρ)(i:Nat):SRo K H0 os0 H os σ (ρ.set i .no):=by
 have m:∀{j:Nat} {c:Sl},(ρ.set i .no)[j]?=some c->c≠ .no->i≠j/\ρ[j]?=some c:=λ{j c} q hc=>by
  rcases yw q with⟨_,_,z⟩|z
  ·exact absurd z.symm hc
  ·exact z
 refine⟨⟨λj d q=>h.rel.pu j d (m q (by intro z;cases z)).2,λj c q hm=>h.rel.mu j c (m q (by intro z;rw[z] at hm;cases hm)).2 hm,h.rel.al,by rw[kT];exact h.rel.len⟩,h.sm,h.sub,h.new,h.al0,λj c q hm=>h.own j c (m q (by intro z;rw[z] at hm;cases hm)).2 hm,λj k c c' hjk q1 q2 m1 m2=>h.ap j k c c' hjk (m q1 (by intro z;rw[z] at m1;cases m1)).2 (m q2 (by intro z;rw[z] at m2;cases m2)).2 m1 m2⟩
def WZ{x:Str}{v:V}{c:Fs}{A B:LAd}{dx:AdX}{vs:List (Str×V)}(sr:SRo K H0 os0 H os σ ρ)(self:σ[ℓ]?=some (some (.ref p)))(hp:H p=some (.ins C dx vs))(hf:xj K H os vs fs A)(nd:(p::A).Nodup)(hA:∀a∈p::A,a∈os/\H0 a=none)(hs:∀(j:Nat)(c:Sl),ρ[j]?=some c->isM c=true->∀a∈p::A,σ[j]?≠some (some (.ref a)))(hb:FOk K H os v c B)(ndB:B.Nodup)(hB:∀a∈B,a∈os/\H0 a=none/\a∉p::A/\∀(j:Nat)(c:Sl),ρ[j]?=some c->isM c=true->σ[j]?≠some (some (.ref a))):MSt K C ℓ H0 os0 p (upd H p (.ins C dx (Jd x v vs))) os σ ρ (zN x c fs):=by
 have⟨pA,ndA⟩:=ky.mp nd;obtain⟨A',h1,h2,h3⟩:=xj.put (x:=x) hb ndB hf ndA λa ha q=>(hB a ha).2.2.1 (.tail _ q)
 obtain⟨hpo,hp0⟩:=hA p (.head _);have pA':p∉A':=λz=>by
  rcases h3 p z with q|q
  ·exact pA q
  ·exact(hB p q).2.2.1 (.head _)
 have all:∀a∈p::A',a∈p::A\/a∈B:=λa ha=>by
  rcases qw.mp ha with q|q
  ·exact .inl (by rw[q];exact .head _)
  ·rcases h3 a q with w|w
   ·exact .inl (.tail _ w)
   ·exact .inr w
 refine⟨sr.zl9 hpo hp0 λj c q m=>hs j c q m p (.head _),self,p::A',.ob zL (h1.keep (by rw[xk hpo];exact Same.refl _) λa ha=>zR λz=>pA' (by rw[<-z];exact ha)),ky.mpr ⟨pA',h2⟩,λa ha=>?_,λj c q m a ha=>?_⟩
 ·rcases all a ha with w|w
  ·exact hA a w
  ·exact⟨(hB a w).1,(hB a w).2.1⟩
 ·rcases all a ha with w|w
  ·exact hs j c q m a w
  ·exact(hB a w).2.2.2 j c q m
end
section
variable{X:Cx}{C:AdX}{ℓ:Nat}{e:Expr}{pos pos' p0:Pos}{x f:Str}
def ofl(x:Str)(g:OPx):OFx:=λρ fs=>(g ρ fs).bind λd=>if fs.length<1000 then some (.nx ρ (zN x (.pu d) fs)) else none
def zbJ{g:OPx}(cl:Cls X.K C)(na:zS X.K C f)(he:GE X C ℓ e g)(hN:X.N[ℓ]?=some x:=by rfl)(hv:Vis X.env.scope x:=by trivial)(hd:NDx x:=by decide)(hcd:NCx x:=by decide)(hs:swapsWith e (some (.Attribute (.Name x p0) f pos')) pos.line X.env=pure false:=by rfl):OS X C ℓ (.Assign [.Attribute (.Name x p0) f pos'] e pos) (ofl f g):=by
 have⟨t,pe,q⟩:=he;refine⟨_,zbG (yU (i:=ℓ) hN hv hd hcd) pe hs,λH0 os0 p D σ H os ρ fs r R e k=>?_⟩;have⟨d,e1,e2⟩:=bind_some e;split at e2
 ·rename_i hl;cases e2;refine q σ H os ρ fs d _ R.Jx e1 λv H' s rv=>?_
  have R':=R.same s;have⟨A,h1,h2,h3,h4⟩:=R'.ob
  cases h1 with
  |ob hp r=>exact⟨_,R'.self,_,_,_,_,rfl,hp,cl,na,by rw[r.len];exact hl,k _ _ _ (WZ R'.sr R'.self hp r h2 h3 h4 (.pu rv) .nil λa ha=>by cases ha)⟩
 ·cases e2
def ZV(x:Str)(g:OLx):OFx:=λρ fs=>(g ρ fs).bind λd=>if fs.length<1000 then some (.nx ρ (zN x (.ow d) fs)) else none
def Jb{g:OLx}(cl:Cls X.K C)(na:zS X.K C f)(he:GL X C ℓ e g)(hN:X.N[ℓ]?=some x:=by rfl)(hv:Vis X.env.scope x:=by trivial)(hd:NDx x:=by decide)(hcd:NCx x:=by decide)(hs:swapsWith e (some (.Attribute (.Name x p0) f pos')) pos.line X.env=pure false:=by rfl):OS X C ℓ (.Assign [.Attribute (.Name x p0) f pos'] e pos) (ZV f g):=by
 have⟨t,pe,q⟩:=he;refine⟨_,zbG (yU (i:=ℓ) hN hv hd hcd) pe hs,λH0 os0 p D σ H os ρ fs r R e k=>?_⟩;have⟨d,e1,e2⟩:=bind_some e;split at e2
 ·rename_i hl;cases e2;refine q σ H os ρ fs d _ R.Jx e1 λa xs H' n s hx rv=>?_
  have⟨A,h1,h2,h3,h4⟩:=R.ob;have nA:a∉A:=λz=>by
   have⟨o,e⟩:=h1.has a z;rw[n] at e;cases e
  have na0:H0 a=none:=R.sr.sm.free n;have nos:a∉os:=R.sr.rel.al.new n
  have h1':=h1.keep (jI n s) λb hb=>by
   have⟨o,e⟩:=h1.has b hb;rw[e];exact s b o e
  cases h1' with
  |ob hp r=>exact⟨_,R.self,_,_,_,_,rfl,hp,cl,na,by rw[r.len];exact hl,k _ _ _ (WZ (R.sr.grow n s hx rv) R.self hp r h2 (λb hb=>⟨qD _ (h3 b hb).1,(h3 b hb).2⟩) h4 (.ow hx rv) (ky.mpr ⟨by simp,.nil⟩) λb hb=>by
    rw[qO.mp hb];refine⟨.head _,na0,nA,λj c q m z=>?_⟩;have⟨b',o,w1,w2,_⟩:=R.sr.rel.mu j c q m;rw[z] at w1;cases w1;exact nos w2)⟩
 ·cases e2
def ofm(x:Str)(i:Nat):OFx:=λρ fs=>match ρ[i]? with
 |some (.ow ds)=>if fs.length<1000 then some (.nx (ρ.set i .no) (zN x (.ow ds) fs)) else none
 |_=>none
def ziw(i:Nat){y:Str}{p1:Pos}(cl:Cls X.K C)(na:zS X.K C f)(hN:X.N[ℓ]?=some x:=by rfl)(hv:Vis X.env.scope x:=by trivial)(hd:NDx x:=by decide)(hcd:NCx x:=by decide)(hN1:X.N[i]?=some y:=by rfl)(hv1:Vis X.env.scope y:=by trivial)(hd1:NDx y:=by decide)(hcd1:NCx y:=by decide)(hs:swapsWith (.Name y p1) (some (.Attribute (.Name x p0) f pos')) pos.line X.env=pure false:=by rfl):OS X C ℓ (.Assign [.Attribute (.Name x p0) f pos'] (.Name y p1) pos) (ofm f i):=by
 refine⟨_,zbG (yU (i:=ℓ) hN hv hd hcd) (yU (i:=i) hN1 hv1 hd1 hcd1) hs,λH0 os0 p D σ H os ρ fs r R e k=>?_⟩;unfold ofm at e;split at e
 ·rename_i ds ei;split at e
  ·rename_i hl;cases e;have⟨a,xs,w1,w2,w3,w4⟩:=R.sr.rel.ow i ds ei;have⟨A,h1,h2,h3,h4⟩:=R.ob;have nA:a∉A:=λz=>h4 i _ ei rfl a z w1
   have dr:∀{j:Nat} {c:Sl},(ρ.set i .no)[j]?=some c->isM c=true->i≠j/\ρ[j]?=some c:=λ{j c} q m=>by
    rcases yw q with⟨_,_,z⟩|z
    ·rw[<-z] at m;cases m
    ·exact z
   cases h1 with
   |ob hp r=>
    refine⟨_,w1,_,R.self,_,_,_,_,rfl,hp,cl,na,by rw[r.len];exact hl,k _ _ _ (WZ (R.sr.drop i) R.self hp r h2 h3 (λj c q m b hb=>h4 j c (dr q m).2 m b hb) (.ow w3 w4) (ky.mpr ⟨by simp,.nil⟩) λb hb=>?_)⟩;rw[qO.mp hb];exact⟨w2,R.sr.own i _ ei rfl a w1,nA,λj c q m z=>R.sr.ap i j _ c (dr q m).1 ei (dr q m).2 rfl m a w1 z⟩
  ·cases e
 ·cases e
end
section
variable{K:FRx}{C:AdX}{ℓ:Nat}{H0 H H':Hp}{os0 os:LAd}{p:AdX}{σ:St}{ρ:Ro}{fs:Ob}
theorem xj.chg{x:Str}{a:AdX}{ys:List V}{es:LPd}(ha:a∈os)(rs:Reps K (offs H os) ys es):∀{vs:List (Str×V)} {fs:Ob} {A:LAd} {ds:LPd},xj K H os vs fs A->A.Nodup->fld x fs=some (.ow ds)->vs.lookup x=some (.ref a)->
  xj K (upd H a (.lst ys)) os vs (zN x (.ow es) fs) A/\a∈A
 |_,_,_,_,.nil,_,q,_=>by cases q
 |_,_,_,ds,@xj.cons _ _ _ y u d vs fs A0 B0 h r,nd,q,l=>by
  have so:Same (offs H os) (offs (upd H a (.lst ys)) os):=by rw[xk ha];exact Same.refl _
  unfold fld at q;unfold zN;by_cases z:x=y
  ·rw[qg z] at q;rw[qg z.symm];cases q;rw[kb,show(x==y)=true from kU.mpr z] at l;cases l;cases h with
   |ow h1 h2=>exact⟨.cons (.ow zL (by rw[xk ha];exact rs)) (r.keep so λb hb=>zR λw=>zfq nd a (.head _) (by rw[<-w];exact hb)),.head _⟩
  ·rw[qm z] at q;rw[qm (gw z)];rw[kb,show(x==y)=false from kv.mpr z] at l;obtain⟨h1,h2⟩:=xj.chg ha rs r (zfd nd) q l;exact⟨.cons (h.keep so λb hb=>zR λw=>zfq nd b hb (by rw[w];exact h2)) h1,qt.mpr (.inr h2)⟩
def MSt.lst(h:MSt K C ℓ H0 os0 p H os σ ρ fs){x:Str}{ds:LPd}(q:fld x fs=some (.ow ds)):∃dx vs a xs,H p=some (.ins C dx vs)/\vs.lookup x=some (.ref a)/\H a=some (.lst xs)/\a∈os/\Reps K (offs H os) xs ds:=by
 have⟨A,h1,h2,h3,h4⟩:=h.ob;cases h1 with
 |ob hp r=>
  have⟨v,B,l,o,hB⟩:=r.look q;cases o with
  |ow ha rv=>exact⟨_,_,_,_,hp,l,ha,(h3 _ (.tail _ (hB _ (.head _)))).1,rv⟩
def MSt.zi2(h:MSt K C ℓ H0 os0 p H os σ ρ fs){x:Str}{ds es:LPd}{dx a:AdX}{vs:List (Str×V)}{ys:List V}(q:fld x fs=some (.ow ds))(hp:H p=some (.ins C dx vs))(l:vs.lookup x=some (.ref a))(rs:Reps K (offs H os) ys es):MSt K C ℓ H0 os0 p (upd H a (.lst ys)) os σ ρ (zN x (.ow es) fs):=by
 have⟨A,h1,h2,h3,h4⟩:=h.ob;cases h1 with
 | @ob _ _ _ _ _ A hp' r=>
  rw[hp] at hp';cases hp';have⟨pA,nd⟩:=ky.mp h2;have⟨v,B,l',o,hB⟩:=r.look q;rw[l] at l';cases l';have aA:a∈A:=by
   cases o with
   |ow ha rv=>exact hB a (.head _)
  obtain⟨ao,a0⟩:=h3 a (.tail _ aA);have⟨r',_⟩:=r.chg ao rs nd q l;have pa:p≠a:=λz=>pA (by rw[z];exact aA)
  exact⟨h.sr.zl9 ao a0 λj c q m=>h4 j c q m a (.tail _ aA),h.self,p::A,.ob (by rw[zR pa];exact hp) r',h2,h3,h4⟩
end
section
variable{X:Cx}{C:AdX}{ℓ:Nat}{e:Expr}{pos apos cpos p0 p1 p2:Pos}{x f:Str}
def oap(x:Str)(g:OPx):OFx:=λρ fs=>match fld x fs with
 |some (.ow ds)=>(g ρ fs).bind λd=>if ds.length<16777216 then some (.nx ρ (zN x (.ow (ds++[d])) fs)) else none
 |_=>none
def zht{g:OPx}(cl:Cls X.K C)(na:zS X.K C f)(he:GE X C ℓ e g)(hN:X.N[ℓ]?=some x:=by rfl)(hv:Vis X.env.scope x:=by trivial)(hd:NDx x:=by decide)(hcd:NCx x:=by decide)(hb:ABx X (.Name x p0) f:=by rfl)(hbase:ABx X (.Attribute (.Name x p0) f p1) "append":=by rfl)(hfew:FWx X cpos [e]:=by rfl)(hline:(apos.endLine==cpos.line)=true:=by rfl)(hs:SEx X e []:=by rfl)(hsw:swapsWith (.Call (.Attribute (.Attribute (.Name x p0) f p1) "append" apos) [e] [] cpos) none pos.line X.env=pure false:=by rfl):OS X C ℓ (.Expr (.Call (.Attribute (.Attribute (.Name x p0) f p1) "append" apos) [e] [] cpos) pos) (oap f g):=by
 have⟨t,pe,q⟩:=he;refine⟨_,uM (VG kz mZ mY ux (w6 (yU (i:=ℓ) hN hv hd hcd) hb) (xn pe jf hs) hbase hfew hline hs) hsw,λH0 os0 p D σ H os ρ fs r R e k=>?_⟩;unfold oap at e;split at e
 ·rename_i ds ef;have⟨d,e1,e2⟩:=bind_some e;split at e2
  ·rename_i hl;cases e2;have⟨dx,vs,a,xs,hp,l,ha,ao,rv⟩:=R.lst ef;refine⟨_,R.self,_,_,_,_,_,rfl,hp,cl,na,l,.inl ⟨rfl,_,SqL.of ha⟩,q σ H os ρ fs d _ R.Jx e1 λv H' s rd=>?_⟩;exact⟨a,xs,v,rfl,rfl,s _ _ ha,by rw[rv.length];exact hl,k _ _ os ((R.same s).zi2 ef (s _ _ hp) l ((rv.same (zr s os)).append (.cons rd .nil)))⟩
  ·cases e2
 ·cases e
def opo(i:Nat)(x:Str)(g:OPx):OFx:=λρ fs=>match fld x fs,g ρ fs with
 |some (.ow ds),some (.int n)=>if 0<=n/\n<ds.length/\ds.length<=16777216 then (ds[n.toNat]?).bind λd=>some (.nx (ρ.set i (.pu d)) (zN x (.ow (ds.eraseIdx n.toNat)) fs)) else none
 |_,_=>none
def zjq(i:Nat){y:Str}{pos':Pos}{g:OPx}(hNd:X.N.Nodup)(cl:Cls X.K C)(na:zS X.K C f)(he:GE X C ℓ e g)(h0:i≠ℓ:=by decide)(hi:X.N[i]?=some y:=by rfl)(hx:Loc X.env.scope y:=by trivial)(hf:FNx X y:=by trivial)(hN:X.N[ℓ]?=some x:=by rfl)(hv:Vis X.env.scope x:=by trivial)(hd:NDx x:=by decide)(hcd:NCx x:=by decide)(hb:ABx X (.Name x p0) f:=by rfl)(hbase:ABx X (.Attribute (.Name x p0) f p1) "pop":=by rfl)(hfew:FWx X cpos [e]:=by rfl)(hline:(apos.endLine==cpos.line)=true:=by rfl)(hs:SEx X e []:=by rfl)(hsw:swapsWith (.Call (.Attribute (.Attribute (.Name x p0) f p1) "pop" apos) [e] [] cpos) (some (.Name y pos')) pos.line X.env=pure false:=by rfl):OS X C ℓ (.Assign [.Name y pos'] (.Call (.Attribute (.Attribute (.Name x p0) f p1) "pop" apos) [e] [] cpos) pos) (opo i f g):=by
 have⟨t,pe,q⟩:=he;refine⟨_,uW hNd hi hx (VG kz mz mw Vv (w6 (yU (i:=ℓ) hN hv hd hcd) hb) (xn pe jf hs) hbase hfew hline hs) hsw hf,λH0 os0 p D σ H os ρ fs r R e k=>?_⟩;unfold opo at e;split at e
 ·rename_i ds n ef e1;split at e
  ·rename_i hl;have⟨hl1,hl2,hl3⟩:=hl;have⟨d,e2,e3⟩:=bind_some e;cases e3;have⟨dx,vs,a,xs,hp,l,ha,ao,rv⟩:=R.lst ef;have hlen:=rv.length;refine⟨_,R.self,_,_,_,_,_,rfl,hp,cl,na,l,.inl ⟨rfl,_,SqL.of ha⟩,q σ H os ρ fs _ _ R.Jx e1 λv H' s rd=>?_⟩;cases rd;have hlt:n.toNat<xs.length:=by omega
   have⟨u,eu,ru⟩:=rv.getD e2;refine⟨a,xs,n,n.toNat,u,rfl,rfl,s _ _ ha,by omega,by omega,?_,eu,?_⟩
   ·unfold seqIndex?;dsimp only;rw[qm (by omega:¬n<0),qg (by rw[gW];exact⟨qy hl1,qy (by omega)⟩)]
   ·exact k _ _ os (((R.same s).zi2 ef (s _ _ hp) l (v8 _ (rv.same (zr s os)))).set h0 (by rw[xk ao];exact ru.same (zr s os)))
  ·cases e
 ·cases e
def opl(i j:Nat)(g:OPx):OFx:=λρ fs=>match ρ[j]?,g ρ fs with
 |some (.ow ds),some (.int n)=>if 0<=n/\n<ds.length/\ds.length<=16777216 then (ds[n.toNat]?).bind λd=>some (.nx ((ρ.set j (.ow (ds.eraseIdx n.toNat))).set i (.pu d)) fs) else none
 |_,_=>none
def zik(i j:Nat){y z:Str}{pos':Pos}{g:OPx}(hNd:X.N.Nodup)(he:GE X C ℓ e g)(h0:i≠ℓ:=by decide)(hi:X.N[i]?=some y:=by rfl)(hx:Loc X.env.scope y:=by trivial)(hf:FNx X y:=by trivial)(hN:X.N[j]?=some z:=by rfl)(hv:Vis X.env.scope z:=by trivial)(hd:NDx z:=by decide)(hcd:NCx z:=by decide)(hbase:ABx X (.Name z p1) "pop":=by rfl)(hfew:FWx X cpos [e]:=by rfl)(hline:(apos.endLine==cpos.line)=true:=by rfl)(hs:SEx X e []:=by rfl)(hsw:swapsWith (.Call (.Attribute (.Name z p1) "pop" apos) [e] [] cpos) (some (.Name y pos')) pos.line X.env=pure false:=by rfl):OS X C ℓ (.Assign [.Name y pos'] (.Call (.Attribute (.Name z p1) "pop" apos) [e] [] cpos) pos) (opl i j g):=by
 have⟨t,pe,q⟩:=he;refine⟨_,uW hNd hi hx (VG kz mz mw Vv (yU hN hv hd hcd) (xn pe jf hs) hbase hfew hline hs) hsw hf,λH0 os0 p D σ H os ρ fs r R e k=>?_⟩;unfold opl at e;split at e
 ·rename_i ds n ef e1;split at e
  ·rename_i hl;have⟨hl1,hl2,hl3⟩:=hl;have⟨d,e2,e3⟩:=bind_some e;cases e3;have⟨a,xs,w1,ao,ha,rv⟩:=R.sr.rel.ow j ds ef;have hlen:=rv.length;refine⟨_,w1,.inl ⟨rfl,_,SqL.of ha⟩,q σ H os ρ fs _ _ R.Jx e1 λv H' s rd=>?_⟩;cases rd;have hlt:n.toNat<xs.length:=by omega
   have⟨u,eu,ru⟩:=rv.getD e2;refine⟨a,xs,n,n.toNat,u,rfl,rfl,s _ _ ha,by omega,by omega,?_,eu,?_⟩
   ·unfold seqIndex?;dsimp only;rw[qm (by omega:¬n<0),qg (by rw[gW];exact⟨qy hl1,qy (by omega)⟩)]
   ·exact k _ _ os (((R.same s).chg ef w1 (v8 _ (rv.same (zr s os)))).set h0 (by rw[xk ao];exact ru.same (zr s os)))
  ·cases e
 ·cases e
end
def isort(ns:List Int):List Int:=ns.mergeSort (λa b=>decide (a<=b))
section
variable{X:Cx}{e:Expr}{pos apos cpos p1:Pos}
def zd3(i j:Nat)(g:RPx):RFx:=λρ=>match ρ[j]?,g ρ with
 |some (.ow ds),some (.int n)=>if 0<=n/\n<ds.length/\ds.length<=16777216 then (ds[n.toNat]?).bind λd=>some (.nx ((ρ.set j (.ow (ds.eraseIdx n.toNat))).set i (.pu d))) else none
 |_,_=>none
def zlr(i j:Nat){y z:Str}{pos':Pos}{g:RPx}(hNd:X.N.Nodup)(he:FE X e g)(hi:X.N[i]?=some y:=by rfl)(hx:Loc X.env.scope y:=by trivial)(hf:FNx X y:=by trivial)(hN:X.N[j]?=some z:=by rfl)(hv:Vis X.env.scope z:=by trivial)(hd:NDx z:=by decide)(hcd:NCx z:=by decide)(hbase:ABx X (.Name z p1) "pop":=by rfl)(hfew:FWx X cpos [e]:=by rfl)(hline:(apos.endLine==cpos.line)=true:=by rfl)(hs:SEx X e []:=by rfl)(hsw:swapsWith (.Call (.Attribute (.Name z p1) "pop" apos) [e] [] cpos) (some (.Name y pos')) pos.line X.env=pure false:=by rfl):FS X (.Assign [.Name y pos'] (.Call (.Attribute (.Name z p1) "pop" apos) [e] [] cpos) pos) (zd3 i j g):=by
 have⟨t,pe,q⟩:=he;refine⟨_,uW hNd hi hx (VG kz mz mw Vv (yU hN hv hd hcd) (xn pe jf hs) hbase hfew hline hs) hsw hf,λH0 os0 D σ H os ρ r R e k=>?_⟩;unfold zd3 at e;split at e
 ·rename_i ds n ef e1;split at e
  ·rename_i hl;have⟨hl1,hl2,hl3⟩:=hl;have⟨d,e2,e3⟩:=bind_some e;cases e3;have⟨a,xs,w1,ao,ha,rv⟩:=R.rel.ow j ds ef;have hlen:=rv.length;refine⟨_,w1,.inl ⟨rfl,_,SqL.of ha⟩,q σ H os ρ _ _ R.rel e1 λv H' s rd=>?_⟩;cases rd;have⟨u,eu,ru⟩:=rv.getD e2
   refine⟨a,xs,n,n.toNat,u,rfl,rfl,s _ _ ha,by omega,by omega,?_,eu,?_⟩
   ·unfold seqIndex?;dsimp only;rw[qm (by omega:¬n<0),qg (by rw[gW];exact⟨qy hl1,qy (by omega)⟩)]
   ·refine k _ _ os (((R.same s).chg ef w1 (v8 _ (rv.same (zr s os)))).set (by rw[xk ao];exact ru.same (zr s os))) ?_;rw[xk ao];exact zr s os
  ·cases e
 ·cases e
end
end L2.Fu
namespace L2.Fu
open PySem PySem.Spec PyProof.Rows
open PySem.SeqAt PySem.MeetsSeq PySem.MeetsSeq2 PySem.MeetsSeq3 PySem.SeqRoads2
open PySem.AutoSeq1 (wpAny_loadPart')
def Wh(A:Around)(s:ShX)(y x:Value)(b:Bool):Prop:=∀(prog:Program)(w:World)(E:VSx)(Q:VSx),Q (.bool b) s->wpAny (model prog w) A (richCompare .Lt y x) Q E s
def lx(e l:Nat->Bool)(fin:Bool):List Nat->Bool
 |[]=>fin
 |i::r=>if e i then lx e l fin r else l i
def zdJ(l b:AdX)(items items2:Array Value)(n n2:Nat)(dd dd2:Option Addr)(sl sl2:Array (Option Value))(e t:Nat->Bool):Meets (Builtin.«tuple.__lt__» ⟨[.ref l,.ref b],[]⟩)
   (λA R s=>s.heap.get? l=some { cls:=.type "tuple",dict:=dd,data:=.seq items n,slots:=sl }/\s.heap.get? b=some { cls:=.type "tuple",dict:=dd2,data:=.seq items2 n2,slots:=sl2 }/\
    (∀j (h1:j<items.size) (h2:j<items2.size),EqAt A.in1 s items[j] items2[j] (e j))/\(∀j (h1:j<items.size) (h2:j<items2.size),e j=false->Wh A.in1 s items[j] items2[j] (t j))/\
    R (.ok (.ret (.bool (lx e t (decide (items.size<items2.size)) (List.range (min items.size items2.size)))))) s):=.of_wp λprog w A R s h=>by
  have⟨hp,g,d,tk,os⟩:=s;obtain⟨hl,hb,he,ht,h⟩:=h;have f2:=nE;have hZ:(items.toList.zip items2.toList).length=min items.size items2.size:=by simp
  wp_walk using kC hl,kC hb,wpAny_forIn_list _ (λrest b s'=>b.1=none/\s'=⟨hp,g,d,tk,os⟩/\∃i,rest=(items.toList.zip items2.toList).drop i/\
   R (.ok (.ret (.bool (lx e t (decide (items.size<items2.size)) ((List.range (min items.size items2.size)).drop i))))) ⟨hp,g,d,tk,os⟩) _
  case turn=>
   rintro⟨y,x⟩ rest b s' ⟨hb',rfl,i,hz,hR⟩;have hlt:i<(items.toList.zip items2.toList).length:=by
    rcases Nat.lt_or_ge i (items.toList.zip items2.toList).length with h'|h'
    ·exact h'
    ·rw[nv h'] at hz;cases hz
   have hm:i<min items.size items2.size:=hZ▸hlt;have h1:i<items.size:=qN hm (Nat.min_le_left _ _)
   have h2:i<items2.size:=qN hm (Nat.min_le_right _ _);rw[kQ hlt] at hz;injection hz with hyx hrest
   have hy:y=items[i]:=by have:=qG Prod.fst hyx;simpa using this
   have hx:x=items2[i]:=by have:=qG Prod.snd hyx;simpa using this
   subst hy hx;have hd:(List.range (min items.size items2.size)).drop i=i::(List.range (min items.size items2.size)).drop (i+1):=by simp[kQ,hm]
   rw[hd] at hR;unfold lx at hR;refine qq (he i h1 h2 prog w _ _ ?_);cases hy:e i with
   |true=>
    rw[hy,qg rfl] at hR;wp_walk;exact⟨rfl,rfl,i+1,hrest,by simpa using hR⟩
   |false=>
    rw[hy,qm qE] at hR;refine wpAny_ite_split (λ_=>?_) (λh=>absurd rfl h);refine qq (wpAny_rule (qq (ht i h1 h2 hy prog w _ _ ?_)));wp_walk;exact⟨_,rfl,by simpa using hR⟩
  case fin=>
   rintro⟨b1,b2⟩ s' ⟨hb',rfl,i,hz,hR⟩;simp only at hb';subst hb';have hge:min items.size items2.size<=i:=by
    rcases Nat.lt_or_ge i (items.toList.zip items2.toList).length with h'|h'
    ·rw[kQ h'] at hz;cases hz
    ·exact hZ▸h'
   rw[nv (by simpa using hge)] at hR;wp_walk;exact⟨_,rfl,by simpa [Builtin.Tuple.tupleCompareSizes,lx] using hR⟩
  case h=>
   exact⟨rfl,rfl,0,rfl,by simpa using h⟩
def Wh.tuples{A:Around}{s:ShX}{l b:AdX}{items items2:Array Value}{e t:Nat->Bool}(hl:s.heap.IsTuple l items)(hb:s.heap.IsTuple b items2)(hu:A.units<cLine)(he:∀j (h1:j<items.size) (h2:j<items2.size),EqAt A.in1 s items[j] items2[j] (e j))(ht:∀j (h1:j<items.size) (h2:j<items2.size),e j=false->Wh A.in1 s items[j] items2[j] (t j)):Wh A s (.ref l) (.ref b) (lx e t (decide (items.size<items2.size)) (List.range (min items.size items2.size))):=λprog w E Q h=>by
 have⟨⟨cls,dd,data,sl⟩,ho,hc,n,hd⟩:=id hl;have⟨⟨cls2,dd2,data2,sl2⟩,ho2,hc2,n2,hd2⟩:=id hb;simp only at hc hd hc2 hd2;subst hc hd hc2 hd2;exact richCompare_meets_room (op:=.Lt) ⟨_,ho,rfl⟩ ⟨_,ho2,rfl⟩ F.slot_tuple_lt F.entry_tuple_lt (F.args_tuple_lt_2 _ _) (zdJ l b items items2 n n2 dd dd2 sl sl2 e t)
  ⟨ho,ho2,he,ht,show Value.bool (lx e t (decide (items.size<items2.size)) (List.range (min items.size items2.size)))≠Value.notImplemented/\Q (.bool (lx e t (decide (items.size<items2.size)) (List.range (min items.size items2.size)))) s from⟨(λx=>nomatch x),h⟩⟩ hu
def Wh.ints{A:Around}{s:ShX}{i j:Int}{t u:Tok}:Wh A s (.int i t) (.int j u) (decide (i<j)):=λprog w E Q h=>by
 show wpAny (model prog w) A (compareOp .Lt (.int i t) (.int j u)) Q E s
 exact wpAny_lt_int h
end L2.Fu
namespace L2.Fu
open PySem PySem.Spec PyProof.Rows
open PySem.SeqAt
def lxI(us vs:List Int):Bool:=lx (λk=>us.getD k 0==vs.getD k 0) (λk=>decide (us.getD k 0<vs.getD k 0)) (decide (us.length<vs.length)) (List.range (min us.length vs.length))
def ltW(i j:Int)(us vs:List Int):Bool:=if i==j then (if decide (us=vs) then false else lxI us vs) else decide (i<j)
def zl6(K:FRx):R2:=λx y H Q=>∃(p q a b:AdX)(i j:Int)(us vs:List Int),x=.ref p/\y=.ref q/\SqT K H p [.int i,.ref a]/\SqT K H q [.int j,.ref b]/\SqT K H a (us.map V.int)/\SqT K H b (vs.map V.int)/\Q (.bl (ltW i j us vs)) H
theorem vY:∀{us:List Int} {its:LVl},Vals (us.map V.int) its->its.length=us.length/\∀k (h:k<its.length),∃t,its[k]=.int (us.getD k 0) t
 |[],_,.nil=>⟨rfl,λk h=>absurd h (kN k)⟩
 |u::us,v::_,.cons h r=>by
  have⟨l,q⟩:=vY r;refine⟨by rw[qU,qU,l],λk hk=>?_⟩;cases k with
  |zero=>
   have h':∃t,v=.int u t:=h;exact h'
  |succ k=>exact q k (by rw[qU] at hk;omega)
def zab{i:Int}{a:AdX}{its:LVl}(h:Vals [.int i,.ref a] its):∃t,its=[.int i t,.ref a]:=by
 cases h with
 |cons h r=>cases r with
  |cons h2 r=>cases r;obtain⟨t,rfl⟩:=(h:∃t,_=Value.int i t);cases (h2:_=Value.ref a);exact⟨t,rfl⟩
def all_eq{us vs:List Int}:((List.range (min us.length vs.length)).all (λk=>us.getD k 0==vs.getD k 0)&&us.length==vs.length)=decide (us=vs):=by
 rw[Bool.eq_iff_iff,gW,List.all_eq_true,mW,kU];constructor
 ·rintro⟨h,l⟩;refine List.ext_getElem l λk h1 h2=>?_
  have:=h k (qK.mpr (by omega));rw[kU,qL,qL,qo h1,qo h2] at this;exact this
 ·rintro rfl;exact⟨λk _=>beq_self_eq_true _,rfl⟩
section
variable{X:Cx}
def zkU(hu:X.A.units+64<cLine):OpR X (compareOp .Lt) (zl6 X.K):=by
 intro pins s σ H x y v u Q I rx ry h;obtain⟨p,q,a,b,i,j,us,vs,rfl,rfl,hp,hq,ha,hb,k⟩:=h;cases (rx:v=.ref p);cases (ry:u=.ref q);have⟨i1,r1,t1,_⟩:=I.tuple hp;have⟨i2,r2,t2,_⟩:=I.tuple hq;have⟨i3,r3,t3,_⟩:=I.tuple ha;have⟨i4,r4,t4,_⟩:=I.tuple hb;obtain⟨tk1,rfl⟩:=zab r1;obtain⟨tk2,rfl⟩:=zab r2;have⟨l3,q3⟩:=vY r3;have⟨l4,q4⟩:=vY r4;have z3:i3.toArray.size=us.length:=by rw[qA];exact l3
 have z4:i4.toArray.size=vs.length:=by rw[qA];exact l4
 have ei:∀A:Around,∀k (h1:k<i3.toArray.size) (h2:k<i4.toArray.size),EqAt A s i3.toArray[k] i4.toArray[k] (us.getD k 0==vs.getD k 0):=λA k h1 h2=>by
  obtain⟨t,e1⟩:=q3 k (by simpa using h1);obtain⟨t',e2⟩:=q4 k (by simpa using h2);rw[show i3.toArray[k]=.int (us.getD k 0) t by simpa using e1,show i4.toArray[k]=.int (vs.getD k 0) t' by simpa using e2];exact EqAt.int_int _ _ _ _
 have li:∀A:Around,∀k (h1:k<i3.toArray.size) (h2:k<i4.toArray.size),Wh A s i3.toArray[k] i4.toArray[k] (decide (us.getD k 0<vs.getD k 0)):=λA k h1 h2=>by
  obtain⟨t,e1⟩:=q3 k (by simpa using h1);obtain⟨t',e2⟩:=q4 k (by simpa using h2);rw[show i3.toArray[k]=.int (us.getD k 0) t by simpa using e1,show i4.toArray[k]=.int (vs.getD k 0) t' by simpa using e2];exact Wh.ints
 have hu1:X.A.in1.units<cLine:=by rw[Around.in1_units];omega
 have eqI:EqAt X.A.in1 s (.ref a) (.ref b) (decide (us=vs)):=by
  by_cases hab:a=b
  ·subst hab;have e:=I.VU ha hb
   have:us=vs:=by
    have:=qG (List.map λv=>match v with |V.int n=>n|_=>0) e;simpa [kP,Function.comp_def] using this
   rw[qy this];exact EqAt.same _
  ·refine EqAt.of_refs hab ?_
   have:=RcAt.tuples (A:=X.A.in1) (e:=λk=>us.getD k 0==vs.getD k 0) t3 t4 hu1 (ei _);rw[z3,z4,all_eq] at this;exact this
 have ltI:Wh X.A.in1 s (.ref a) (.ref b) (lxI us vs):=by
  have:=Wh.tuples (A:=X.A.in1) (e:=λk=>us.getD k 0==vs.getD k 0) (t:=λk=>decide (us.getD k 0<vs.getD k 0)) t3 t4 hu1 (ei _) λk h1 h2 _=>li _ k h1 h2
  rw[z3,z4] at this;exact this
 have:=Wh.tuples (A:=X.A) (e:=λk=>if k=0 then i==j else decide (us=vs)) (t:=λk=>if k=0 then decide (i<j) else lxI us vs) t1 t2 (by omega) (λk h1 h2=>by
   match k,h1,h2 with
   |0,_,_=>exact EqAt.int_int _ _ _ _
   |1,_,_=>exact eqI) (λk h1 h2 _=>by
   match k,h1,h2 with
   |0,_,_=>exact Wh.ints
   |1,_,_=>exact ltI)
 have e:lx (λk=>if k=0 then i==j else decide (us=vs)) (λk=>if k=0 then decide (i<j) else lxI us vs) (decide (2<2)) (List.range (min 2 2))=ltW i j us vs:=rfl;have this':Wh X.A s (.ref p) (.ref q) (ltW i j us vs):=by rw[<-e];exact this
 show wpAny _ X.A (richCompare .Lt (.ref p) (.ref q)) _ _ s
 exact this' _ _ _ _ ⟨.bl _,H,I,rfl,k⟩
end
def ltT:PyData->PyData->Option PyData
 | .tuple [.int i,.tuple us],.tuple [.int j,.tuple vs]=>(wx Vl us).bind λus=>(wx Vl vs).bind λvs=>some (.bool (ltW i j us vs))
 |_,_=>none
def zj9{K:FRx}:R2F K (zl6 K) ltT:=by
 intro x y H os d e c Q al r1 r2 h k;unfold ltT at h;split at h
 ·have⟨us',e1,h⟩:=bind_some h;have⟨vs',e2,h⟩:=bind_some h;cases h;obtain⟨p,xs,rfl,hp,_,rp⟩:=r1.tup;obtain⟨q,ys,rfl,hq,_,rq⟩:=r2.tup;cases rp with
  |cons a1 rp=>cases rp with
   |cons a2 rp=>
    cases rp;cases rq with
    |cons b1 rq=>cases rq with
     |cons b2 rq=>
      cases rq;cases a1;cases b1;cases a2.same (xA H os) with
      |tup sa ra=>
       cases b2.same (xA H os) with
       |tup sb rb=>
        cases Jf ra e1;cases Jf rb e2;exact⟨p,q,_,_,_,_,us',vs',rfl,rfl,hp,hq,sa,sb,k _ H (Same.refl H) (.bl _)⟩
 ·cases h
end L2.Fu
namespace L2.Fu
open PySem PySem.Spec PyProof.Rows
def spU(K:FRx)(f:List PyData->Option (Option (List PyData))):Sp:=λvs H Q _=>∃os ds r,Al H os/\Reps K (offs H os) vs ds/\f ds=some r/\(r=none->∀H',Same H H'->Q .non H')/\
 ∀es,r=some es->∀a xs H',H a=none->Same H H'->H' a=some (.lst xs)->Reps K (offs H' (a::os)) xs es->Q (.ref a) H'
abbrev zfj(P:Program)(w:World)(K:FRx)(mg:Str->Option Value)(base:Heap)(k:Nat)(x:Str)(ps:LSr)(f:List PyData->Option (Option (List PyData))):Prop:=Def P w K mg base CX0 k x ps (spU K f)
def fnU(n m:Nat)(b:RFx)(ds:LPd):Option (Option (List PyData)):=if ds.length=m then (match b (ds.map Sl.pu++List.replicate (n - m) .no) with
  |some (.rl es)=>some (some es)
  |some (.rt .none)=>some none
  |_=>none) else none
section
variable{P:Program}{w:World}{K:FRx}{mg:Str->Option Value}{base:Heap}
def zfj.mk{x:Str}{st:Stmt}{N ps:LSr}{k m:Nat}{b:RFx}(h:HasDef K mg x st)(S:zx N ps (ze st))(hb:∀(kV doc pm:Value)(an:Option Addr)(cdv ct:Value)(us:LVl),us.length=ps.length->bindArgs (W.fnOf x x (jB st) (xg st) (ze st) .none kV doc pm an cdv ct) ⟨us,[]⟩=pure (ps.zip us))(hm:ps.length=m)(hbody:∀(f:AdX)(cdv:Value)(A:Around)(outer:List Env)(s:ShX)(H:Hp)(E:XK),Room k (A.deeper (envOfC x (ze st) s.heap.objs.size f cdv))->
   FSs (Wj CX0 P w K mg base N x (ze st) f cdv A outer s H E).nox (xg st) b):zfj P w K mg base (k+1) x ps (fnU N.length m b):=by
 refine Def.mk h S hb (λvs H Q E q=>?_) (λf cdv A outer s H vs Q E hr q=>?_)
 ·have⟨os,ds,r,_,hr,e,_⟩:=q;unfold fnU at e;split at e
  ·rename_i hl;rw[hr.length,hl,hm]
  ·cases e
 ·have⟨t,p,q'⟩:=hbody f cdv A outer s H E hr;have⟨os,ds,r,al,hr,e,k1,k2⟩:=q;unfold fnU at e;split at e
  ·rename_i hl;refine⟨t,p,?_⟩;have R:=JS (N:=N) al hr m hl;split at e
   ·rename_i es e1;cases e;exact q' H os _ _ H os _ _ R e1 λa xs H' n s hx r=>k2 es rfl a xs H' n s hx r
   ·rename_i e1;cases e;refine q' H os _ _ H os _ _ R e1 λv H' s r=>?_
    cases r;exact k1 rfl H' s
   ·cases e
  ·cases e
end
def ze1(h:List PyData->Option (Option (List PyData)))(g:RLx):Ro->Option (Option (List PyData)):=λρ=>(g ρ).bind h
def zji(i:Nat)(f:Ro->Option (Option (List PyData))):RFx:=λρ=>(f ρ).bind λr=>match r with
 |none=>some (.nx (ρ.set i (.pu .none)))
 |some es=>some (.nx (ρ.set i (.ow es)))
section
variable{X:Cx}{k k':Nat}{x:Str}{ps:LSr}{p pos:Pos}{e:Expr}{es:List Expr}{ga:RLx}
def zhQ(i:Nat){y:Str}{pos' pos2:Pos}{f:List PyData->Option (Option (List PyData))}(hN:X.N.Nodup)(D:zfj X.prog X.w X.K X.mg X.base k x ps f)(hr:Room k' X.A)(hg:Gl X x)(ha:FA X (e::es) ga)(hk:k<=k':=by decide)(hdb:NDx x:=by decide)(he:SEx X e es:=by rfl)(hpl:PLx X pos es:=by rfl)(hi:X.N[i]?=some y:=by rfl)(hx:Loc X.env.scope y:=by trivial)(hs:swapsWith (.Call (.Name x p) (e::es) [] pos) (some (.Name y pos')) pos2.line X.env=pure false:=by rfl)(hf:FNx X y:=by trivial):FS X (.Assign [.Name y pos'] (.Call (.Name x p) (e::es) [] pos) pos2) (zji i (ze1 f ga)):=by
 have⟨t,pa,qa⟩:=ha;refine⟨_,uW hN hi hx (Wg D hr hg JD pa hk hdb he hpl) hs hf,λH0 os0 D σ H os ρ r R q k=>?_⟩;have⟨u,e1,e2⟩:=bind_some q;have⟨ds,e3,e4⟩:=bind_some e1;refine qa σ H os ρ ds _ R.rel e3 λvs H' s rv=>?_
 rw[kf];refine⟨os,ds,u,R.rel.al.same s,rv,e4,λhu H2 s2=>?_,λzs hu a xs H2 n s2 hx rr=>?_⟩
 ·subst hu;cases e2;exact k _ _ _ ((R.same (s.trans s2)).set .non) (zr (s.trans s2) os)
 ·subst hu;cases e2;exact k _ _ _ (R.ZU (s.free n) (s.trans s2) hx rr) (jI (s.free n) (s.trans s2))
end
def GIB(X:Cx)(C:AdX)(ℓ:Nat)(tg iter:Expr)(f:OLx):Prop:=∃wi:TI,PI X tg iter wi/\∀(σ:St)(H:Hp)(os:LAd)(ρ:Ro)(fs:Ob)(ds:LPd)(R:It->Hp->Prop),vO X.K C ℓ H os σ ρ fs->f ρ fs=some ds->
  (∀J H',Same H H'->Walks X.K H' (offs H' os) J ds->R J H')->wi σ H R
def GAB(X:Cx)(C:AdX)(ℓ:Nat)(es:List Expr)(f:OLx):Prop:=∃t:TA,PA X es t/\∀(σ:St)(H:Hp)(os:LAd)(ρ:Ro)(fs:Ob)(ds:LPd)(Q:List V->Hp->Prop),vO X.K C ℓ H os σ ρ fs->f ρ fs=some ds->
  (∀vs H',Same H H'->j6 X.K H' os vs ds->Q vs H')->t σ H Q
def gA0:OLx:=λ_ _=>some []
def gAC(f:OPx)(g:OLx):OLx:=λρ fs=>(f ρ fs).bind λx=>(g ρ fs).map (x::·)
def gsq(g:OPx):OLx:=λρ fs=>match g ρ fs with
 |some (.list ds)=>some ds
 |some (.tuple ds)=>some ds
 |_=>none
def gzp(t1 t2:Bool)(g:OLx):OLx:=λρ fs=>match g ρ fs with
 |some [x,y]=>match kindOf x,kindOf y with
  |some (k1,xs),some (k2,ys)=>if k1=t1/\k2=t2 then some (UC xs ys) else none
  |_,_=>none
 |_=>none
section
variable{X:Cx}{C:AdX}{ℓ:Nat}{tg iter l a b e:Expr}{es tes:List Expr}{f:OPx}{g:OLx}{p pos tp:Pos}
def FIB.gib{f:RLx}(h:FIB X tg iter f):GIB X C ℓ tg iter (λρ _=>f ρ):=by
 have⟨t,p,q⟩:=h;exact⟨t,p,λσ H os ρ fs d Q R e k=>q σ H os ρ d Q R.rel e k⟩
def zh4(hl:GB X C ℓ l f):GIB X C ℓ tg l (gsq f):=by
 have⟨t,pl,ql⟩:=hl;refine⟨_,zdL pl,λσ H os ρ fs ds R rel e k=>?_⟩;unfold gsq at e;split at e
 ·rename_i es e1;cases e;refine ql σ H os ρ fs _ _ rel e1 λv H' s r=>?_
  obtain⟨a,xs,rfl,hS,r⟩:=r.lst;exact⟨_,false,rfl,⟨_,hS⟩,k _ H' s (vk (t:=false) hS r)⟩
 ·rename_i es e1;cases e;refine ql σ H os ρ fs _ _ rel e1 λv H' s r=>?_
  obtain⟨a,xs,rfl,hS,_,r⟩:=r.tup;exact⟨_,true,rfl,⟨_,hS⟩,k _ H' s (vk (t:=true) hS r)⟩
 ·cases e
def za4:GAB X C ℓ [] gA0:=⟨_,jf,λ_ H _ _ _ _ _ _ q k=>by cases q;exact k [] H (Same.refl H) .nil⟩
def VA(ha:GB X C ℓ e f)(hr:GAB X C ℓ es g)(hs:SEx X e es:=by rfl):GAB X C ℓ (e::es) (gAC f g):=by
 have⟨ta,pa,qa⟩:=ha;have⟨tb,pb,qb⟩:=hr;refine⟨_,xn pa pb hs,λσ H os ρ fs ds Q R q k=>?_⟩;have⟨d,e1,q⟩:=bind_some q;have⟨r,e2,e3⟩:=map_some q;subst e3;exact qa σ H os ρ fs d _ R e1 λx H1 s1 r1=>qb σ H1 os ρ fs r _ (R.same s1) e2 λxs H2 s2 r2=>k _ H2 (s1.trans s2) (.cons (r1.same s2) r2)
def zi5{kk:Nat}(t1 t2:Bool)(hg:Gl X "zip")(hm:X.mg "zip"=none)(ha:GAB X C ℓ [a,b] g)(hs:starEach [a,b] X.env=[(false,eval a X.env),(false,eval b X.env)]:=by rfl)(hs2:starEach [b] X.env=[(false,eval b X.env)]:=by rfl):GIB X C ℓ (.Tuple tes kk tp) (.Call (.Name "zip" p) [a,b] [] pos) (gzp t1 t2 g):=by
 have⟨t,pa,qa⟩:=ha;refine⟨_,zgL t1 t2 hg hm pa hs hs2,λσ H os ρ fs ds R rel e k=>?_⟩;unfold gzp at e;split at e
 ·rename_i x y e1;split at e
  ·rename_i k1 xs k2 ys e2 e3;split at e
   ·rename_i hc;cases e;obtain⟨rfl,rfl⟩:=hc;refine qa σ H os ρ fs _ _ rel e1 λvs H' s r=>?_
    obtain⟨v,u,rfl,r1,r2⟩:=r.two;obtain⟨a1,us,rfl,h1,q1⟩:=uh r1 e2;obtain⟨a2,ws,rfl,h2,q2⟩:=uh r2 e3;exact⟨a1,a2,rfl,⟨_,h1⟩,⟨_,h2⟩,k _ H' s (zag h1 h2 q1 q2)⟩
   ·cases e
  ·cases e
 ·cases e
end
def GJ(X:Cx)(C:AdX)(j:Nat)(e:Expr)(f:OPx):Prop:=∃t:TE,PE X e t/\∀(σ:St)(H:Hp)(os:LAd)(ρ:Ro)(fs:Ob)(p:AdX)(A:LAd)(d:PdX)(Q:VK),xD X.K H os σ ρ->σ[j]?=some (some (.ref p))->FOk X.K H os (.ref p) (.ob C fs) A->(∀a∈A,a∈os)->f ρ fs=some d->
  (∀v H',Same H H'->Rep X.K (offs H' os) v d->Q v H')->t σ H Q
def GJA(X:Cx)(C:AdX)(j:Nat)(es:List Expr)(f:OLx):Prop:=∃t:TA,PA X es t/\∀(σ:St)(H:Hp)(os:LAd)(ρ:Ro)(fs:Ob)(p:AdX)(A:LAd)(ds:LPd)(Q:List V->Hp->Prop),xD X.K H os σ ρ->σ[j]?=some (some (.ref p))->FOk X.K H os (.ref p) (.ob C fs) A->(∀a∈A,a∈os)->f ρ fs=some ds->
  (∀vs H',Same H H'->Reps X.K (offs H' os) vs ds->Q vs H')->t σ H Q
section
variable{X:Cx}{C:AdX}{ℓ:Nat}{j k k':Nat}{e:Expr}{es:List Expr}{f:OPx}{g:OLx}{p pos p0:Pos}{x:Str}{ps:LSr}
def FE.gj{f:RPx}(h:FE X e f):GJ X C j e (λρ _=>f ρ):=by
 have⟨t,p,q⟩:=h;exact⟨t,p,λσ H os ρ fs _ _ d Q R _ _ _ e k=>q σ H os ρ d Q R e k⟩
def ziq:GJA X C j [] gA0:=⟨_,jf,λ_ H _ _ _ _ _ _ _ _ _ _ _ q k=>by cases q;exact k [] H (Same.refl H) .nil⟩
def JA(ha:GJ X C j e f)(hr:GJA X C j es g)(hs:SEx X e es:=by rfl):GJA X C j (e::es) (gAC f g):=by
 have⟨ta,pa,qa⟩:=ha;have⟨tb,pb,qb⟩:=hr;refine⟨_,xn pa pb hs,λσ H os ρ fs p A ds Q R sj o oA q k=>?_⟩;have⟨d,e1,q⟩:=bind_some q;have⟨r,e2,e3⟩:=map_some q;subst e3;exact qa σ H os ρ fs p A d _ R sj o oA e1 λx H1 s1 r1=>qb σ H1 os ρ fs p A r _ (R.same s1) sj (o.same s1) oA e2 λxs H2 s2 r2=>k _ H2 (s1.trans s2) (.cons (r1.same (zr s2 os)) r2)
def zkq{n:Str}(cl:Cls X.K C)(na:zS X.K C n)(hN:X.N[j]?=some x:=by rfl)(hv:Vis X.env.scope x:=by trivial)(hd:NDx x:=by decide)(hcd:NCx x:=by decide)(hb:ABx X (.Name x p0) n:=by rfl):GJ X C j (.Attribute (.Name x p0) n pos) (gf n):=by
 refine⟨_,w6 (yU (i:=j) hN hv hd hcd) hb,λσ H os ρ fs p A d Q R sj o oA e k=>?_⟩;cases o with
 |ob hp r=>
  unfold gf at e;split at e
  ·rename_i d' ef;cases e;have⟨v,B,l,o,_⟩:=r.look ef;cases o with
   |pu rv=>exact⟨_,sj,_,_,_,_,_,rfl,hp,cl,na,l,k _ H (Same.refl H) rv⟩
  ·cases e
def gcall(h:LPx)(g:OLx):OPx:=λρ fs=>(g ρ fs).bind h
def zil{h:LPx}(D:yQ X.prog X.w X.K X.mg X.base k x ps h)(hr:Room k' X.A)(hg:Gl X x)(ha:GJA X C j (e::es) g)(hk:k<=k':=by decide)(hdb:NDx x:=by decide)(he:SEx X e es:=by rfl)(hpl:PLx X pos es:=by rfl):GJ X C j (.Call (.Name x p) (e::es) [] pos) (gcall h g):=by
 have⟨t,pa,qa⟩:=ha;refine⟨_,Wg D hr hg JD pa hk hdb he hpl,λσ H os ρ fs p A c Q R sj o oA q k=>?_⟩;have⟨ds,e1,e2⟩:=bind_some q;refine qa σ H os ρ fs p A ds _ R sj o oA e1 λvs H' s rv=>?_
 rw[kf];exact⟨os,ds,c,R.al.same s,rv,e2,λv H2 s2=>k v H2 (s.trans s2)⟩
end
def tJ(K:FRx)(C:AdX)(j:Nat)(f:OPx):TE:=λσ H Q=>∃fs os ρ d p A,xD K H os σ ρ/\σ[j]?=some (some (.ref p))/\FOk K H os (.ref p) (.ob C fs) A/\(∀a∈A,a∈os)/\f ρ fs=some d/\∀v H',Same H H'->Rep K (offs H' os) v d->Q v H'
def GJ.pe{X:Cx}{C:AdX}{j:Nat}{e:Expr}{f:OPx}(h:GJ X C j e f):PE X e (tJ X.K C j f):=by
 have⟨t,p,q⟩:=h;intro pins s σ H Q I z;have⟨fs,os,ρ,d,a,A,R,sj,o,oA,e1,k⟩:=z;exact p pins s σ H Q I (q σ H os ρ fs a A d Q R sj o oA e1 k)
def zdw{K:FRx}{T:Nat}{F:LNt}{b:PyData->Ro->Option Ro}{fe:OPx}{σ:St}{ρ:Ro}{H1:Hp}{os:LAd}{D:AdX}{is:LNt}{k:Addr->Hp->Prop}{J:It}{ds rs:LPd}{C:AdX}{fs:Ob}{j:Nat}{p:AdX}{A:LAd}(his:∀i∈is,i<T)(R:xD K H1 os σ ρ)(hj:(F[j]?).bind (λi=>(σ[i]?).join)=some (.ref p))(hO:FOk K H1 os (.ref p) (.ob C fs) A)(hOA:∀a∈A,a∈os)(hn:ds.length<=16777216)(hD:H1 D=none)(W:Walks K H1 (offs H1 os) J ds)(hm:wx (λd=>(b d (compEnv T F ρ)).bind λρ'=>fe ρ' fs) ds=some rs)(fin:∀H' xs,Same H1 H'->H' D=some (.lst xs)->Reps K (offs H' (D::os)) xs rs->k D H'):zgX T F (gF K is b) (tJ K C (T+j) fe) k σ H1 D J:=by
 have hlr:=ZC hm;have so:∀H',Same H1 H'->Same (offs H1 os) (offs H' (D::os)):=λH' s c o z=>by
  by_cases hb:c∈os
  ·rw[xP hb] at z;cases z
  ·rw[zB hb] at z;rw[zB]
   ·exact s c o z
   ·intro w;rcases qw.mp w with w|w
    ·rw[w,hD] at z;cases z
    ·exact hb w
 have al:∀H' xs,Same H1 H'->H' D=some (.lst xs)->Al H' (D::os):=λH' xs s hx a ha=>by
  rcases qw.mp ha with z|z
  ·subst z;exact⟨_,hx⟩
  ·have⟨o,e⟩:=R.al a z;exact⟨o,s _ _ e⟩
 refine⟨λi m σ' H'=>m=ds.length - i/\i<=ds.length/\(∃ts:St,ts.length=T/\σ'=ts++F.map λj=>(σ[j]?).join)/\Same H1 H'/\∃xs,H' D=some (.lst xs)/\Reps K (offs H' (D::os)) xs (rs.take i),
  ⟨ds.length,rfl,kK _,⟨List.replicate T none,by simp,rfl⟩,yh hD _,[],zL,.nil⟩,?_⟩
 rintro i m σ' H' ⟨rfl,hi,⟨ts,hts,rfl⟩,sm,xs,hx,rp⟩;have hl:xs.length=i:=by
  have:=rp.length;rw[kB,hlr] at this;omega
 obtain⟨w1,w2⟩:=W H' (D::os) (al H' xs sm hx) sm (so H' sm);by_cases hlt:i<ds.length
 ·obtain⟨d,hd⟩:∃d,ds[i]?=some d:=⟨_,qo hlt⟩;have⟨g1,g2⟩:=w1 i d hd;have⟨r,hr,e⟩:=Y4 hm hd;have⟨ρ',e1,e2⟩:=bind_some e;refine .inr ⟨g1,λσ2 H2=>i+1<=ds.length/\(∃ts:St,ts.length=T/\σ2=ts++F.map λj=>(σ[j]?).join)/\Same H1 H2/\∃xs,H2 D=some (.lst xs)/\Reps K (offs H2 (D::os)) xs (rs.take (i+1)),?_,?_⟩
  ·rintro σ2 H2 ⟨h1,h2,h3,h4⟩;exact⟨ds.length - (i+1),by omega,rfl,h1,h2,h3,h4⟩
  ·intro x H2 hy;have⟨s2,rx⟩:=g2 x H2 hy;refine⟨D::os,d,compEnv T F ρ,ρ',rx,e1,λσ2 st=>?_⟩;have R2:xD K H2 (D::os) (ts++F.map λj=>(σ[j]?).join) (compEnv T F ρ):=YF T F R hD (sm.trans s2) (s2 _ _ hx) hts;have hts2:∃ts':St,ts'.length=T/\σ2=ts'++F.map λj=>(σ[j]?).join:=st.tail his hts rfl
   have sj:σ2[T+j]?=some (some (.ref p)):=by
    have⟨ts',h1,h2⟩:=hts2;rw[h2,<-h1,qz (gS _ _),pZ,qp];cases hF:F[j]? with
    |none=>rw[hF] at hj;cases hj
    |some i=>
     rw[hF] at hj;exact qG some hj
   refine⟨fs,D::os,ρ',r,p,A,R2.sets st,sj,hO.keep (so H2 (sm.trans s2)) (λb hb=>by
    have⟨o,q⟩:=hO.has b hb;rw[q];exact(sm.trans s2) b o q),(λa ha=>qD _ (hOA a ha)),e2,λv H4 s4 rv=>?_⟩
   refine⟨xs,s4 _ _ (s2 _ _ hx),?_,hlt,hts2,((sm.trans s2).trans s4).V5 hD _,_,zL,?_⟩
   ·rw[hl];show i<16777216
    omega
   ·rw[jw,ml,hr];exact(rp.same (zr (s2.trans s4) _)).append (.cons rv .nil)
 ·have e:i=ds.length:=by omega
  subst e;refine .inl ⟨w2,fin H' xs sm hx ?_⟩;rw[<-hlr,gT] at rp;exact rp
def ocomp(T:Nat)(F:LNt)(fi:OLx)(b:PyData->Ro->Option Ro)(fe:RPx):OLx:=λρ fs=>
 (fi ρ fs).bind λds=>if ds.length<=16777216 then wx (λd=>(b d (compEnv T F ρ)).bind fe) ds else none
section
variable{X:Cx}{C:AdX}{ℓ:Nat}{elt tg iter:Expr}{scope:Scope}{pos pos' spos:Pos}{Ts:LSr}{F:LNt}{is:LNt}{fi:OLx}{b:PyData->Ro->Option Ro}{fe:RPx}{x:Str}
def ziY(i:Nat)(hN:X.N.Nodup)(hc:X.calm=true)(hi:GIB X C ℓ tg iter fi)(S:yq X scope)(hF:∀j∈F,∃x,X.N[j]?=some x/\scope.names.lookup x=some .free)(hg:∀cl C ex s H,FG (yc X (Ts++F.map λj=>X.N.getD j "") scope cl C ex s H) tg is b)(he:∀cl C ex s H,FE (yc X (Ts++F.map λj=>X.N.getD j "") scope cl C ex s H) elt fe)(his:∀i∈is,i<Ts.length:=by decide)(h0:i≠ℓ:=by decide)(hi':X.N[i]?=some x:=by rfl)(hx:X.env.scope.names.lookup x=some .local:=by rfl)(hsw:swapsWith (.ListComp elt [⟨tg,iter,[],0⟩] scope pos) (some (.Name x pos')) spos.line X.env=pure true:=by rfl)(hs:FSx X iter:=by exact λ_=>rfl):OS X C ℓ (.Assign [.Name x pos'] (.ListComp elt [⟨tg,iter,[],0⟩] scope pos) spos) (WK i (ocomp Ts.length F fi b fe)):=by
 have⟨wi,pi,qi⟩:=hi;refine⟨_,UG (Ts:=Ts) (F:=F) (g:=gF X.K is b) (te:=tF X.K fe) hN hi' hx hc pi S hF hg (λcl C ex s H=>(he cl C ex s H).pe) hsw hs,λH0 os0 p D σ H os ρ fs r R q k=>?_⟩;have⟨ds,e1,q⟩:=bind_some q;cases q;have⟨es,e1,q⟩:=bind_some e1;split at q
 ·rename_i hl;refine qi σ H os ρ fs es _ R.Jx e1 λJ H' s W D hD=>?_
  exact Ur his (R.sr.rel.same s) hl hD W q λH2 xs s2 hx r=>k _ _ _ (R.ZU h0 (s.free hD) (s.trans s2) hx r)
 ·cases q
def za8(T:Nat)(F:LNt)(fi:OLx)(b:PyData->Ro->Option Ro)(fe:OPx):OLx:=λρ fs=>
 (fi ρ fs).bind λds=>if ds.length<=16777216 then wx (λd=>(b d (compEnv T F ρ)).bind λρ'=>fe ρ' fs) ds else none
def zgZ(i j:Nat){fe:OPx}(hN:X.N.Nodup)(hc:X.calm=true)(hi:GIB X C ℓ tg iter fi)(S:yq X scope)(hF:∀j∈F,∃x,X.N[j]?=some x/\scope.names.lookup x=some .free)(hj:F[j]?=some ℓ)(hg:∀cl C ex s H,FG (yc X (Ts++F.map λj=>X.N.getD j "") scope cl C ex s H) tg is b)(he:∀cl C' ex s H,GJ (yc X (Ts++F.map λj=>X.N.getD j "") scope cl C' ex s H) C (Ts.length+j) elt fe)(his:∀i∈is,i<Ts.length:=by decide)(h0:i≠ℓ:=by decide)(hi':X.N[i]?=some x:=by rfl)(hx:X.env.scope.names.lookup x=some .local:=by rfl)(hsw:swapsWith (.ListComp elt [⟨tg,iter,[],0⟩] scope pos) (some (.Name x pos')) spos.line X.env=pure true:=by rfl)(hs:FSx X iter:=by exact λ_=>rfl):OS X C ℓ (.Assign [.Name x pos'] (.ListComp elt [⟨tg,iter,[],0⟩] scope pos) spos) (WK i (za8 Ts.length F fi b fe)):=by
 have⟨wi,pi,qi⟩:=hi;refine⟨_,UG (Ts:=Ts) (F:=F) (g:=gF X.K is b) (te:=tJ X.K C (Ts.length+j) fe) hN hi' hx hc pi S hF hg (λcl C ex s H=>(he cl C ex s H).pe) hsw hs,λH0 os0 p D σ H os ρ fs r R q k=>?_⟩;have⟨ds,e1,q⟩:=bind_some q;cases q;have⟨es,e1,q⟩:=bind_some e1;split at q
 ·rename_i hl;refine qi σ H os ρ fs es _ R.Jx e1 λJ H' s W D hD=>?_
  have⟨A,h1,_,h3,_⟩:=R.ob;exact zdw his (R.sr.rel.same s) (by rw[hj];show(σ[ℓ]?).join=_;rw[R.self];rfl) (h1.same s) (λa ha=>(h3 a ha).1) hl hD W q λH2 xs s2 hx r=>k _ _ _ (R.ZU h0 (s.free hD) (s.trans s2) hx r)
 ·cases q
end
section
variable{X:Cx}{C:AdX}{ℓ:Nat}{e:Expr}{pos apos cpos p0 p1 q0 q1:Pos}{apos' cpos':Pos}{x f h:Str}
def zg4(x y:Str)(g:OPx):OFx:=λρ fs=>match fld y fs,g ρ fs with
 |some (.ow ds),some (.int n)=>if 0<=n/\n<ds.length/\ds.length<=16777216 then (ds[n.toNat]?).bind λd=>match fld x (zN y (.ow (ds.eraseIdx n.toNat)) fs) with
  |some (.ow es)=>if es.length<16777216 then some (.nx ρ (zN x (.ow (es++[d])) (zN y (.ow (ds.eraseIdx n.toNat)) fs))) else none
  |_=>none else none
 |_,_=>none
def zkm{g:OPx}(cl:Cls X.K C)(na:zS X.K C f)(nh:zS X.K C h)(he:GE X C ℓ e g)(hfh:¬f=h:=by decide)(hN:X.N[ℓ]?=some x:=by rfl)(hv:Vis X.env.scope x:=by trivial)(hd:NDx x:=by decide)(hcd:NCx x:=by decide)(hb:ABx X (.Name x p0) f:=by rfl)(hb':ABx X (.Name x q0) h:=by rfl)(hbase:ABx X (.Attribute (.Name x p0) f p1) "append":=by rfl)(hbase':ABx X (.Attribute (.Name x q0) h q1) "pop":=by rfl)(hfew':FWx X cpos' [e]:=by rfl)(hline':(apos'.endLine==cpos'.line)=true:=by rfl)(hs':SEx X e []:=by rfl)(hfew:((backTo cpos (starEach [.Call (.Attribute (.Attribute (.Name x q0) h q1) "pop" apos') [e] [] cpos'] X.env)).all (λx=>!x.1)&&(backToKw cpos (keywordEach [] X.env)).all (λx=>x.1.isSome)
   &&decide ([(.Call (.Attribute (.Attribute (.Name x q0) h q1) "pop" apos') [e] [] cpos':Expr)].length+([]:List Keyword).length+(if ([]:List Keyword).isEmpty then 0 else 1)<30))=true:=by rfl)(hline:(apos.endLine==cpos.line)=true:=by rfl)(hs:starEach [.Call (.Attribute (.Attribute (.Name x q0) h q1) "pop" apos') [e] [] cpos'] X.env=(false,eval (.Call (.Attribute (.Attribute (.Name x q0) h q1) "pop" apos') [e] [] cpos') X.env)::starEach [] X.env:=by rfl)(hsw:swapsWith (.Call (.Attribute (.Attribute (.Name x p0) f p1) "append" apos) [.Call (.Attribute (.Attribute (.Name x q0) h q1) "pop" apos') [e] [] cpos'] [] cpos) none pos.line X.env=pure false:=by rfl):OS X C ℓ (.Expr (.Call (.Attribute (.Attribute (.Name x p0) f p1) "append" apos) [.Call (.Attribute (.Attribute (.Name x q0) h q1) "pop" apos') [e] [] cpos'] [] cpos) pos) (zg4 f h g):=by
 have⟨t,pe,q⟩:=he;refine⟨_,uM (VG kz mZ mY ux (w6 (yU (i:=ℓ) hN hv hd hcd) hb)
  (xn (VG kz mz mw Vv (w6 (yU (i:=ℓ) hN hv hd hcd) hb') (xn pe jf hs') hbase' hfew' hline' hs') jf hs) hbase hfew hline hs) hsw,λH0 os0 p D σ H os ρ fs r R e k=>?_⟩
 unfold zg4 at e;split at e
 ·rename_i ds n ef e1;split at e
  ·rename_i hl;have⟨hl1,hl2,hl3⟩:=hl;have⟨d,e2,e3⟩:=bind_some e;split at e3
   ·rename_i es ef2;split at e3
    ·rename_i hl4;cases e3;have ef2':fld f fs=some (.ow es):=by
      have:∀l:Ob,fld f (zN h (.ow (ds.eraseIdx n.toNat)) l)=fld f l:=by
       intro l;induction l with
       |nil=>
        show(if f=h then _ else none)=none
        rw[qm hfh]
       |cons y l ih=>
        obtain⟨y,c⟩:=y;unfold zN;by_cases z:y=h
        ·rw[qg z];show(if f=y then _ else fld f l)=if f=y then _ else fld f l
         rw[qm (by rw[z];exact hfh),qm (by rw[z];exact hfh)]
        ·rw[qm z];show(if f=y then some c else fld f (zN h _ l))=if f=y then some c else fld f l
         rw[ih]
      rw[<-this fs];exact ef2
     have⟨dx,vs,a,xs,hp,l,ha,ao,rv⟩:=R.lst ef2';have⟨dx2,vs2,a2,xs2,hp2,l2,ha2,ao2,rv2⟩:=R.lst ef;rw[hp] at hp2;cases hp2;have hlen:=rv2.length;refine⟨_,R.self,_,_,_,_,_,rfl,hp,cl,na,l,.inl ⟨rfl,_,SqL.of ha⟩,_,R.self,_,_,_,_,_,rfl,hp,cl,nh,l2,.inl ⟨rfl,_,SqL.of ha2⟩,q σ H os ρ fs _ _ R.Jx e1 λv H' s rd=>?_⟩;cases rd;have⟨u,eu,ru⟩:=rv2.getD e2
     have R1:=(R.same s).zi2 ef (s _ _ hp) l2 (v8 n.toNat (rv2.same (zr s os)));have⟨dx3,vs3,a3,xs3,hp3,l3,ha3,ao3,rv3⟩:=R1.lst ef2
     have pa:p≠a2:=λz=>by
      have w1:=s _ _ hp;rw[z,s _ _ ha2] at w1;cases w1
     rw[zR pa,s _ _ hp] at hp3;cases hp3;rw[l] at l3;cases l3;refine⟨a2,xs2,n,n.toNat,u,rfl,rfl,s _ _ ha2,by omega,by omega,?_,eu,?_⟩
     ·unfold seqIndex?;dsimp only;rw[qm (by omega:¬n<0),qg (by rw[gW];exact⟨qy hl1,qy (by omega)⟩)]
     ·refine⟨a,xs3,u,rfl,rfl,ha3,by rw[rv3.length];exact hl4,k _ _ os (R1.zi2 ef2 (by rw[zR pa];exact s _ _ hp) l (rv3.append (.cons ?_ .nil)))⟩;rw[xk ao2];exact ru.same (zr s os)
    ·cases e3
   ·cases e3
  ·cases e
 ·cases e
end
def spM(K:FRx)(C:AdX)(h:MFx):Sp:=λvs H Q _=>∃p us os ds fs d fs' A,vs=.ref p::us/\FOk K H os (.ref p) (.ob C fs) A/\A.Nodup/\(∀a∈A,a∈os)/\Al H os/\Reps K (offs H os) us ds/\h fs ds=some (d,fs')/\
 ∀v H' os' A',Same (offs H A) H'->Al H' os'->FOk K H' os' (.ref p) (.ob C fs') A'->A'.Nodup->(∀a∈A',a∈os'/\offs H A a=none)->(∀a∈os,a∈A\/a∈os')->(∀a∈os',a∈os\/offs H A a=none)->Rep K (offs H' os') v d->Q v H'
def fnM(n m:Nat)(b:OFx)(fs:Ob)(ds:LPd):Option (PyData×Ob):=if ds.length=m then (match b (.no::(ds.map Sl.pu++List.replicate (n - (m+1)) .no)) fs with
  |some (.rt d fs')=>some (d,fs')
  |some (.nx _ fs')=>some (.none,fs')
  |_=>none) else none
def uF(K:FRx)(C:AdX)(m qual:Str)(st:Stmt):Prop:=∃f fd,Fun K m qual st f fd/\Meth K C m f
def Met(P:Program)(w:World)(K:FRx)(mg:Str->Option Value)(base:Heap)(k:Nat)(C:AdX)(m:Str)(ps:LSr)(h:MFx):Prop:=∃f fd,wy P w K mg base CX0 k f fd ps (spM K C h)/\Binds K fd ps []/\Meth K C m f
section
variable{P:Program}{w:World}{K:FRx}{mg:Str->Option Value}{base:Heap}{C:AdX}{ℓ:Nat}
def Z9{N:LSr}{H:Hp}{os:LAd}{p:AdX}{us:List V}{ds:LPd}{fs:Ob}{A:LAd}(al:Al H os)(r:Reps K (offs H os) us ds)(o:FOk K H os (.ref p) (.ob C fs) A)(nd:A.Nodup)(hA:∀a∈A,a∈os)(m:Nat)(hm:ds.length=m)(hN:m<N.length):MSt K C 0 (offs H A) (os.filter λa=>a∉A) p H os (start N (.ref p::us)) (.no::(ds.map Sl.pu++List.replicate (N.length - (m+1)) .no)) fs:=by
 have hl:=r.length;have no:∀(i:Nat)(c:Sl),(Sl.no::(ds.map Sl.pu++List.replicate (N.length - (m+1)) .no))[i]?=some c->isM c=true->False:=λi c q m=>by
  cases i with
  |zero=>cases q;cases m
  |succ i=>
   rw[hU] at q;by_cases hi:i<ds.length
   ·rw[qT (by simpa using hi),qp] at q;have⟨d,_,e2⟩:=map_some q;subst e2;cases m
   ·rw[qz (by simpa using kh hi),kJ] at q;split at q
    ·cases q;cases m
    ·cases q
 refine⟨⟨⟨λi d q=>?_,λi c q m=>(no i c q m).elim,al,?_⟩,xA H A,λa h=>(ke.mp h).1,λa h=>?_,λa h=>?_,λi c q m=>(no i c q m).elim,λi j c c' _ q _ m=>(no i c q m).elim⟩,rfl,A,o,nd,λa ha=>⟨hA a ha,xP ha⟩,λj c q m=>(no j c q m).elim⟩
 ·cases i with
  |zero=>cases q
  |succ i=>
   rw[hU] at q;unfold start;by_cases hi:i<ds.length
   ·rw[qT (by simpa using hi),qp] at q;have⟨c,e1,e2⟩:=map_some q;cases e2;have⟨v,e3,e4⟩:=r.getD e1;refine⟨v,?_,e4⟩;rw[qT (by rw[qe,qU,hl];omega),qp,hU,e3];rfl
   ·rw[qz (by simpa using kh hi),kJ] at q;split at q<;>cases q
 ·unfold start;simp[hl,hm]
 ·by_cases z:a∈A
  ·exact .inr (xP z)
  ·exact .inl (ke.mpr ⟨h,by simpa using z⟩)
 ·have⟨h1,h2⟩:=ke.mp h;have z:a∉A:=by simpa using h2
  rw[zB z];exact al a h1
def Met.mk{x qual:Str}{st:Stmt}{N ps:LSr}{k m:Nat}{b:OFx}(h:uF K C x qual st)(S:zx N ps (ze st))(hb:∀(kV doc pm:Value)(an:Option Addr)(cdv ct:Value)(us:LVl),us.length=ps.length->bindArgs (W.fnOf x qual (jB st) (xg st) (ze st) .none kV doc pm an cdv ct) ⟨us,[]⟩=pure (ps.zip us))(hm:ps.length=m+1)(hN:m<N.length)(hbody:∀(f:AdX)(cdv:Value)(A:Around)(outer:List Env)(s:ShX)(H:Hp)(E:XK),Room k (A.deeper (envOfC qual (ze st) s.heap.objs.size f cdv))->
   OSs (Wj CX0 P w K mg base N qual (ze st) f cdv A outer s H E).nox C 0 (xg st) b):Met P w K mg base (k+1) C x ps (fnM N.length m b):=by
 have⟨f,fd,F,M⟩:=h;refine⟨f,fd,F.ok S (λvs H Q E q=>?_) (λcdv A outer s H vs Q E hr q=>?_),F.binds hb,M⟩
 ·obtain⟨p,us,os,ds,fs,d,fs',A,rfl,_,_,_,_,r,e,_⟩:=q;unfold fnM at e;split at e
  ·rename_i hl;rw[qU,r.length,hl,hm]
  ·cases e
 ·have⟨t,pp,q'⟩:=hbody f cdv A outer s H E hr;obtain⟨p,us,os,ds,fs,d,fs',A,rfl,o,nd,hA,al,r,e,kk⟩:=q;unfold fnM at e;split at e
  ·rename_i hl;refine⟨t,pp,?_⟩;have R:=Z9 (N:=N) al r o nd hA m hl hN;have go:∀v H' os',ziz K C (offs H A) (os.filter λa=>a∉A) p H' os' fs'->Rep K (offs H' os') v d->Q v H':=λv H' os' M rv=>by
    have⟨A',o',nd',hA'⟩:=M.ob;refine kk v H' os' A' M.sm M.al o' nd' hA' (λa ha=>?_) (λa ha=>?_) rv
    ·by_cases z:a∈A
     ·exact .inl z
     ·exact .inr (M.sub a (ke.mpr ⟨ha,by simpa using z⟩))
    ·rcases M.new a ha with z|z
     ·exact .inl (ke.mp z).1
     ·exact .inr z
   split at e
   ·rename_i d' fs'' e1;cases e;exact q' _ _ _ _ _ H os _ _ _ R e1 λv H' os' M rv=>go v H' os' M rv
   ·rename_i ρ' fs'' e1;cases e;exact q' _ _ _ _ _ H os _ _ _ R e1 λσ' H' os' R'=>go _ H' os' R'.end .non
   ·cases e
  ·cases e
end
section
variable{X:Cx}{a:Expr}{p pos tp:Pos}{tes:List Expr}{kk:Nat}{ga:RLx}
def zg5(t:Bool)(hg:Gl X "enumerate")(hm:X.mg "enumerate"=none)(ha:FAB X [a] ga)(hs:starEach [a] X.env=[(false,eval a X.env)]:=by rfl):FIB X (.Tuple tes kk tp) (.Call (.Name "enumerate" p) [a] [] pos) (zeJ t ga):=by
 have⟨ta,pa,qa⟩:=ha;refine⟨_,zi9 t hg hm pa hs,λσ H os ρ ds R rel e k=>?_⟩;unfold zeJ at e;split at e
 ·rename_i x e1;split at e
  ·rename_i k1 xs e2;split at e
   ·rename_i hc;cases e;subst hc;refine qa σ H os ρ _ _ rel e1 λvs H' s r=>?_
    obtain⟨v,rfl,r1⟩:=r.one;obtain⟨a1,us,rfl,h1,q1⟩:=uh r1 e2;exact⟨a1,rfl,⟨_,h1⟩,k _ H' s (zdA h1 q1)⟩
   ·cases e
  ·cases e
 ·cases e
end
def W8(T:Nat)(F:LNt)(fi:OLx)(b:PyData->Ro->Option Ro)(fc:Ro->Option Bool)(fe:RPx):OLx:=λρ fs=>
 (fi ρ fs).bind λds=>if ds.length<=16777216 then wB (λd=>(b d (compEnv T F ρ)).bind λρ1=>(fc ρ1).bind λok=>if ok then (fe ρ1).map some else some none) ds else none
section
variable{X:Cx}{C:AdX}{ℓ:Nat}{elt tg iter c:Expr}{scope:Scope}{pos pos' spos:Pos}{Ts:LSr}{F:LNt}{is:LNt}{fi:OLx}{b:PyData->Ro->Option Ro}{fc:Ro->Option Bool}{fe:RPx}{x:Str}
def zfh(i:Nat)(hN:X.N.Nodup)(hc:X.calm=true)(hi:GIB X C ℓ tg iter fi)(S:yq X scope)(hF:∀j∈F,∃x,X.N[j]?=some x/\scope.names.lookup x=some .free)(hg:∀cl C ex s H,FG (yc X (Ts++F.map λj=>X.N.getD j "") scope cl C ex s H) tg is b)(ht:∀cl C ex s H,FT (yc X (Ts++F.map λj=>X.N.getD j "") scope cl C ex s H) c fc)(he:∀cl C ex s H,FE (yc X (Ts++F.map λj=>X.N.getD j "") scope cl C ex s H) elt fe)(his:∀i∈is,i<Ts.length:=by decide)(h0:i≠ℓ:=by decide)(hi':X.N[i]?=some x:=by rfl)(hx:X.env.scope.names.lookup x=some .local:=by rfl)(hsw:swapsWith (.ListComp elt [⟨tg,iter,[c],0⟩] scope pos) (some (.Name x pos')) spos.line X.env=pure true:=by rfl)(hs:FSx X iter:=by exact λ_=>rfl):OS X C ℓ (.Assign [.Name x pos'] (.ListComp elt [⟨tg,iter,[c],0⟩] scope pos) spos) (WK i (W8 Ts.length F fi b fc fe)):=by
 have⟨wi,pi,qi⟩:=hi;refine⟨_,Vh (Ts:=Ts) (F:=F) (g:=gF X.K is b) (tc:=tFT X.K fc) (te:=tF X.K fe) hN hi' hx hc pi S hF hg (λcl C ex s H=>(he cl C ex s H).pe) (λcl C ex s H=>(ht cl C ex s H).pt) hsw hs,λH0 os0 p D σ H os ρ fs r R q k=>?_⟩;have⟨ds,e1,q⟩:=bind_some q;cases q;have⟨es,e1,q⟩:=bind_some e1;split at q
 ·rename_i hl;refine qi σ H os ρ fs es _ R.Jx e1 λJ H' s W D hD=>?_
  exact Jw his (R.sr.rel.same s) hl hD W q λH2 xs s2 hx r=>k _ _ _ (R.ZU h0 (s.free hD) (s.trans s2) hx r)
 ·cases q
end
section
variable{K:FRx}{C C2:AdX}{ℓ:Nat}{H0 H H':Hp}{os0 os os':LAd}{p q:AdX}{σ:St}{ρ:Ro}{fs:Ob}
structure Left(H:Hp)(os B:LAd)(H':Hp)(os':LAd):Prop where
 sm:Same (offs H B) H'
 al:Al H' os'
 sub:∀a∈os,a∈B\/a∈os'
 new:∀a∈os',a∈os\/offs H B a=none
def Left.data{B:LAd}(h:Left H os B H' os')(hB:∀a∈B,a∈os):Same (offs H os) (offs H' os'):=λb o z=>by
 by_cases hb:b∈os
 ·rw[xP hb] at z;cases z
 ·rw[zB hb] at z;have nB:b∉B:=λw=>hb (hB b w)
  have e:offs H B b=some o:=by rw[zB nB];exact z
  rw[zB]
  ·exact h.sm b o e
  ·intro w;rcases h.new b w with u|u
   ·exact hb u
   ·rw[e] at u;cases u
def Left.cell{B:LAd}(h:Left H os B H' os'){a:AdX}{o:HO}(hB:a∉B)(e:H a=some o):H' a=some o:=h.sm a o (by rw[zB hB];exact e)
def SRo.left(h:SRo K H0 os0 H os σ ρ){B:LAd}(l:Left H os B H' os')(hB:∀a∈B,a∈os/\H0 a=none)(hs:∀(j:Nat)(c:Sl),ρ[j]?=some c->isM c=true->∀a∈B,σ[j]?≠some (some (.ref a))):SRo K H0 os0 H' os' σ ρ:=by
 have sd:=l.data λa ha=>(hB a ha).1
 refine⟨⟨λi d q=>?_,λi c q m=>?_,l.al,h.rel.len⟩,λb o z=>?_,λa ha=>?_,λa ha=>?_,h.al0,h.own,h.ap⟩
 ·have⟨v,h1,h2⟩:=h.rel.pu i d q;exact⟨v,h1,h2.same sd⟩
 ·have⟨a,o,h1,h2,h3,h4⟩:=h.rel.mu i c q m;have nB:a∉B:=λw=>hs i c q m a w h1
  refine⟨a,o,h1,?_,l.cell nB h3,h4.same sd⟩;rcases l.sub a h2 with w|w
  ·exact absurd w nB
  ·exact w
 ·refine l.cell (λw=>?_) (h.sm b o z);rw[(hB b w).2] at z;cases z
 ·rcases l.sub a (h.sub a ha) with w|w
  ·have⟨o,e⟩:=h.al0 a ha;rw[(hB a w).2] at e;cases e
  ·exact w
 ·rcases l.new a ha with w|w
  ·exact h.new a w
  ·by_cases z:a∈B
   ·exact .inr (hB a z).2
   ·rw[zB z] at w;exact .inr (h.sm.free w)
theorem xj.nest{x:Str}{gs gs':Ob}{B B':LAd}(sd:Same (offs H os) (offs H' os'))(hc:∀a o,a∉B->H a=some o->H' a=some o)(o':FOk K H' os' (.ref q) (.ob C2 gs') B')(ndB':B'.Nodup):∀{vs:List (Str×V)} {fs:Ob} {A:LAd},xj K H os vs fs A->A.Nodup->(∀a∈A,a∉B->a∉B')->fld x fs=some (.ob C2 gs)->vs.lookup x=some (.ref q)->(∀{v:V} {D:LAd},FOk K H os v (.ob C2 gs) D->v=.ref q->D=B)->
   ∃A',xj K H' os' vs (zN x (.ob C2 gs') fs) A'/\A'.Nodup/\∀a∈A',(a∈A/\a∉B)\/a∈B'
 |_,_,_,.nil,_,_,e,_,_=>by cases e
 |_,_,_,@xj.cons _ _ _ y u d vs fs A0 B0 h r,nd,dj,e,l,un=>by
  have kp:∀{A:LAd},(∀a∈A,a∉B)->(∀a∈A,∃o,H a=some o)->∀a∈A,H' a=H a:=λnB has a ha=>by
   have⟨o,w⟩:=has a ha;rw[w];exact hc a o (nB a ha) w
  unfold fld at e;unfold zN;by_cases z:x=y
  ·rw[qg z] at e;rw[qg z.symm];cases e;rw[kb,show(x==y)=true from kU.mpr z] at l;cases l;have eB:A0=B:=un h rfl;subst eB;have nB:∀a∈B0,a∉A0:=λa ha w=>zfq nd a w ha
   refine⟨B'++B0,.cons o' (r.keep sd (kp nB r.has)),zbe ndB' (zfd nd) λa ha w=>dj a (qt.mpr (.inr w)) (nB a w) ha,λa ha=>?_⟩;rcases qt.mp ha with w|w
   ·exact .inr w
   ·exact .inl ⟨qt.mpr (.inr w),nB a w⟩
  ·rw[qm z] at e;rw[qm (gw z)];rw[kb,show(x==y)=false from kv.mpr z] at l;have l:vs.lookup x=some (.ref q):=l;have⟨v,D,l',o2,hD⟩:=r.look e
   rw[l] at l';cases l';have eB:D=B:=un o2 rfl;subst eB;have nB:∀a∈A0,a∉D:=λa ha w=>zfq nd a ha (hD a w)
   obtain⟨A',h1,h2,h3⟩:=xj.nest sd hc o' ndB' r (zfd nd) (λa ha=>dj a (qt.mpr (.inr ha))) e l un;refine⟨A0++A',.cons (h.keep sd (kp nB h.has)) h1,zbe (zjT nd) h2 λa ha w=>?_,λa ha=>?_⟩
   ·rcases h3 a w with u|u
    ·exact zfq nd a ha u.1
    ·exact dj a (qt.mpr (.inl ha)) (nB a ha) u
   ·rcases qt.mp ha with w|w
    ·exact .inl ⟨qt.mpr (.inl w),nB a w⟩
    ·rcases h3 a w with u|u
     ·exact .inl ⟨qt.mpr (.inr u.1),u.2⟩
     ·exact .inr u
mutual
theorem FOk.uniq:∀{v:V} {c:Fs} {A B:LAd},FOk K H os v c A->FOk K H os v c B->A=B
 |_,_,_,_,.pu _,.pu _=>rfl
 |_,_,_,_,.ow _ _,.ow _ _=>rfl
 |_,_,_,_,.ob h r,.ob h' r'=>by
  rw[h] at h';cases h';exact qG _ (xj.uniq r r')
theorem xj.uniq:∀{vs:List (Str×V)} {fs:Ob} {A B:LAd},xj K H os vs fs A->xj K H os vs fs B->A=B
 |_,_,_,_,.nil,.nil=>rfl
 |_,_,_,_,.cons h r,.cons h' r'=>by rw[FOk.uniq h h',xj.uniq r r']
end
def MSt.nest(h:MSt K C ℓ H0 os0 p H os σ ρ fs){x:Str}{gs gs':Ob}{B B':LAd}{dx:AdX}{vs:List (Str×V)}(e:fld x fs=some (.ob C2 gs))(hp:H p=some (.ins C dx vs))(l:vs.lookup x=some (.ref q))(o:FOk K H os (.ref q) (.ob C2 gs) B)(L:Left H os B H' os')(o':FOk K H' os' (.ref q) (.ob C2 gs') B')(nd':B'.Nodup)(hB':∀a∈B',a∈os'/\offs H B a=none):MSt K C ℓ H0 os0 p H' os' σ ρ (zN x (.ob C2 gs') fs):=by
 have⟨A,h1,h2,h3,h4⟩:=h.ob;cases h1 with
 | @ob _ _ _ _ _ A hp' r=>
  rw[hp] at hp';cases hp';have⟨pA,nd⟩:=ky.mp h2;have⟨v,B0,l',o0,hB0⟩:=r.look e;rw[l] at l';cases l';have eB:=o0.uniq o;subst eB;have BA:∀a∈B0,a∈p::A:=λa ha=>.tail _ (hB0 a ha)
  have pB:p∉B0:=λw=>pA (hB0 p w)
  have sd:=L.data λa ha=>(h3 a (BA a ha)).1
  have dj:∀a∈p::A,a∉B0->a∉B':=λa ha nB w=>by
   have:=(hB' a w).2;rw[zB nB] at this;rcases qw.mp ha with z|z
   ·rw[z,hp] at this;cases this
   ·have⟨o,e⟩:=r.has a z;rw[e] at this;cases this
  obtain⟨A',k1,k2,k3⟩:=xj.nest sd (λa o nB e=>L.cell nB e) o' nd' r nd (λa ha=>dj a (.tail _ ha)) e l λ{v D} w z=>by
   subst z;exact w.uniq o0
  have pA':p∉A':=λw=>by
   rcases k3 p w with u|u
   ·exact pA u.1
   ·exact dj p (.head _) pB u
  have nB':∀a∈B',H0 a=none:=λa ha=>by
   have:=(hB' a ha).2;by_cases z:a∈B0
   ·exact(h3 a (BA a z)).2
   ·rw[zB z] at this;exact h.sr.sm.free this
  have ins:∀a∈p::A,a∉B0->a∈os':=λa ha nB=>by
   rcases L.sub a (h3 a ha).1 with w|w
   ·exact absurd w nB
   ·exact w
  refine⟨h.sr.left L (λa ha=>h3 a (BA a ha)) λj c q m a ha=>h4 j c q m a (BA a ha),h.self,p::A',.ob (L.cell pB hp) k1,ky.mpr ⟨pA',k2⟩,λa ha=>?_,λj c q m a ha=>?_⟩
  ·rcases qw.mp ha with z|z
   ·rw[z];exact⟨ins p (.head _) pB,(h3 p (.head _)).2⟩
   ·rcases k3 a z with u|u
    ·exact⟨ins a (.tail _ u.1) u.2,(h3 a (.tail _ u.1)).2⟩
    ·exact⟨(hB' a u).1,nB' a u⟩
  ·rcases qw.mp ha with z|z
   ·rw[z];exact h4 j c q m p (.head _)
   ·rcases k3 a z with u|u
    ·exact h4 j c q m a (.tail _ u.1)
    ·intro w;have⟨b,o,w1,w2,w3,_⟩:=h.sr.rel.mu j c q m;rw[w] at w1;cases w1;by_cases y:a∈B0
     ·exact h4 j c q m a (BA a y) w
     ·have:=(hB' a u).2;rw[zB y,w3] at this;cases this
end
theorem xj.zhr{K:FRx}{H:Hp}{os:LAd}{x:Str}:∀{vs:List (Str×V)} {fs:Ob} {A:LAd} {c:Fs},xj K H os vs fs A->A.Nodup->fld x fs=some c->∃v B,vs.lookup x=some v/\FOk K H os v c B/\B.Nodup/\∀a∈B,a∈A
 |_,_,_,_,.nil,_,q=>by cases q
 |_,_,_,c,@xj.cons _ _ _ y v c' vs fs A B h r,nd,q=>by
  unfold fld at q;by_cases z:x=y
  ·rw[qg z] at q;cases q;refine⟨v,A,?_,h,zjT nd,λa ha=>qt.mpr (.inl ha)⟩;rw[kb,show(x==y)=true from kU.mpr z]
  ·rw[qm z] at q;obtain⟨v',B',h1,h2,h3,h4⟩:=xj.zhr r (zfd nd) q;refine⟨v',B',?_,h2,h3,λa ha=>qt.mpr (.inr (h4 a ha))⟩;rw[kb,show(x==y)=false from kv.mpr z];exact h1
def GA(X:Cx)(C:AdX)(ℓ:Nat)(es:List Expr)(f:OLx):Prop:=∃t:TA,PA X es t/\∀(σ:St)(H:Hp)(os:LAd)(ρ:Ro)(fs:Ob)(ds:LPd)(Q:List V->Hp->Prop),vO X.K C ℓ H os σ ρ fs->f ρ fs=some ds->
  (∀vs H',Same H H'->Reps X.K (offs H' os) vs ds->Q vs H')->t σ H Q
def GM(X:Cx)(C:AdX)(ℓ:Nat)(e:Expr)(f:Ro->Ob->Option (PyData×Ob)):Prop:=∃t:TE,PE X e t/\∀(H0:Hp)(os0:LAd)(p:AdX)(σ:St)(H:Hp)(os:LAd)(ρ:Ro)(fs:Ob)(d:PdX)(fs':Ob)(Q:VK),MSt X.K C ℓ H0 os0 p H os σ ρ fs->f ρ fs=some (d,fs')->
  (∀v H' os',MSt X.K C ℓ H0 os0 p H' os' σ ρ fs'->Rep X.K (offs H' os') v d->Q v H')->t σ H Q
section
variable{X:Cx}{C C2:AdX}{ℓ:Nat}{e:Expr}{es:List Expr}{f:OPx}{g:OLx}{pos apos p0 p1:Pos}{x y m:Str}{k k':Nat}{ps:LSr}
def UI:GA X C ℓ [] gA0:=⟨_,jf,λ_ H _ _ _ _ _ _ q k=>by cases q;exact k [] H (Same.refl H) .nil⟩
def jW(ha:GE X C ℓ e f)(hr:GA X C ℓ es g)(hs:SEx X e es:=by rfl):GA X C ℓ (e::es) (gAC f g):=by
 have⟨ta,pa,qa⟩:=ha;have⟨tb,pb,qb⟩:=hr;refine⟨_,xn pa pb hs,λσ H os ρ fs ds Q R q k=>?_⟩;have⟨d,e1,q⟩:=bind_some q;have⟨r,e2,e3⟩:=map_some q;subst e3;exact qa σ H os ρ fs d _ R e1 λx H1 s1 r1=>qb σ H1 os ρ fs r _ (R.same s1) e2 λxs H2 s2 r2=>k _ H2 (s1.trans s2) (.cons (r1.same (zr s2 os)) r2)
def gmn(C2:AdX)(y m:Str)(h:MFx)(g:OLx):Ro->Ob->Option (PyData×Ob):=λρ fs=>match fld y fs with
 |some (.ob C' gs)=>if C'=C2/\(fld m gs).isNone=true then (g ρ fs).bind λds=>(h gs ds).map λr=>(r.1,zN y (.ob C2 r.2) fs) else none
 |_=>none
def ziv{pl:Sem Bool}{h:MFx}(cl:Cls X.K C)(na:zS X.K C y)(cl2:Cls X.K C2)(M:Met X.prog X.w X.K X.mg X.base k C2 m ps h)(hr:Room k' X.A)(ha:GA X C ℓ (e::es) g)(hk:k<=k':=by decide)(hN:X.N[ℓ]?=some x:=by rfl)(hv:Vis X.env.scope x:=by trivial)(hd:NDx x:=by decide)(hcd:NCx x:=by decide)(hb:ABx X (.Name x p0) y:=by rfl)(hst:SEx X e es:=by rfl)(hpl:PLx X pos es:=by rfl)(ht:eval (.Call (.Attribute (.Attribute (.Name x p0) y p1) m apos) (e::es) [] pos) X.env=(do
   let ov <-eval (.Attribute (.Name x p0) y p1) X.env
   standAt apos.atName
   let (f,first) <-holding [ov] (getMethod ov m pl)
   callWith pos f first (backTo pos (starEach (e::es) X.env)) (backToKw pos (keywordEach [] X.env))):=by rfl):GM X C ℓ (.Call (.Attribute (.Attribute (.Name x p0) y p1) m apos) (e::es) [] pos) (gmn C2 y m h g):=by
 have⟨fa,fd,F,B,mm⟩:=M;have⟨t,pa,qa⟩:=ha;refine⟨_,zeU (pl:=pl) (w6 (yU (i:=ℓ) hN hv hd hcd) hb) cl2 mm F (hr.mono hk) B .nil JD pa hst hpl ht,λH0 os0 p σ H os ρ fs d fs' Q R e kk=>?_⟩;unfold gmn at e;split at e
 ·rename_i C' gs ef;split at e
  ·rename_i hc;obtain⟨rfl,hm⟩:=hc;have⟨ds,e1,e2⟩:=bind_some e;have⟨r,e3,e4⟩:=map_some e2;cases e4;have⟨A,h1,h2,h3,h4⟩:=R.ob;cases h1 with
   |ob hp rr=>
    obtain⟨v,D,l,o,ndD,hD⟩:=rr.zhr (ky.mp h2).2 ef;cases o with
    | @ob q _ dx2 vs2 _ D' hq r2=>
     refine⟨_,R.self,_,_,_,_,_,rfl,hp,cl,na,l,q,_,_,rfl,hq,r2.nolook (gX.mp hm),qa σ H os ρ fs ds _ R.Jx e1 λus H1 s1 ru=>?_⟩;rw[kf];have R1:=R.same s1;have o1:FOk X.K H1 os (.ref q) (.ob C' gs) (q::D'):=FOk.same s1 (.ob hq r2)
     refine⟨q,us,os,ds,gs,r.1,r.2,q::D',rfl,o1,ndD,λa ha=>(h3 a (.tail _ (hD a ha))).1,R1.sr.rel.al,ru,e3,λv H' os' B' sm al o' nd' hB' sub new rv=>?_⟩;exact kk v H' os' (R1.nest ef (s1 _ _ hp) l o1 ⟨sm,al,sub,new⟩ o' nd' hB') rv
  ·cases e
 ·cases e
end
section
variable{X:Cx}{C:AdX}{ℓ:Nat}{e:Expr}{pos:Pos}{f:Ro->Ob->Option (PyData×Ob)}
def oex(f:Ro->Ob->Option (PyData×Ob)):OFx:=λρ fs=>(f ρ fs).bind λr=>some (.nx ρ r.2)
def zmc(h:GM X C ℓ e f)(hs:swapsWith e none pos.line X.env=pure false:=by rfl):OS X C ℓ (.Expr e pos) (oex f):=by
 have⟨t,p,q⟩:=h;refine⟨_,uM p hs,λH0 os0 p D σ H os ρ fs r R e k=>?_⟩;have⟨d,e1,e2⟩:=bind_some e;cases e2;exact q H0 os0 p σ H os ρ fs d.1 d.2 _ R e1 λv H' os' R' _=>k _ _ _ R'
def osm(i:Nat)(f:Ro->Ob->Option (PyData×Ob)):OFx:=λρ fs=>(f ρ fs).bind λr=>some (.nx (ρ.set i (.pu r.1)) r.2)
def zbw(i:Nat){x:Str}{pos':Pos}(hN:X.N.Nodup)(he:GM X C ℓ e f)(h0:i≠ℓ:=by decide)(hi:X.N[i]?=some x:=by rfl)(hx:Loc X.env.scope x:=by trivial)(hs:swapsWith e (some (.Name x pos')) pos.line X.env=pure false:=by rfl)(hf:FNx X x:=by trivial):OS X C ℓ (.Assign [.Name x pos'] e pos) (osm i f):=by
 have⟨t,p,q⟩:=he;refine⟨_,uW hN hi hx p hs hf,λH0 os0 p D σ H os ρ fs r R e k=>?_⟩;have⟨d,e1,e2⟩:=bind_some e;cases e2;exact q H0 os0 p σ H os ρ fs d.1 d.2 _ R e1 λv H' os' R' rv=>k _ _ _ (R'.set h0 rv)
end
section
variable{X:Cx}{C C2:AdX}{ℓ:Nat}{e:Expr}{es:List Expr}{g:OLx}{pos apos p0 p1:Pos}{x y m:Str}{k k':Nat}{ps:LSr}
def zhH{pl:Sem Bool}{h:MFx}(cl:Cls X.K C)(na:zS X.K C y)(cl2:Cls X.K C2)(M:Met X.prog X.w X.K X.mg X.base k C2 m ps h)(hr:Room k' X.A)(hk:k<=k':=by decide)(hN:X.N[ℓ]?=some x:=by rfl)(hv:Vis X.env.scope x:=by trivial)(hd:NDx x:=by decide)(hcd:NCx x:=by decide)(hb:ABx X (.Name x p0) y:=by rfl)(ht:eval (.Call (.Attribute (.Attribute (.Name x p0) y p1) m apos) [] [] pos) X.env=(do
   let ov <-eval (.Attribute (.Name x p0) y p1) X.env
   standAt apos.atName
   let (f,first) <-holding [ov] (getMethod ov m pl)
   callWith pos f first (backTo pos (starEach [] X.env)) (backToKw pos (keywordEach [] X.env))):=by rfl):GM X C ℓ (.Call (.Attribute (.Attribute (.Name x p0) y p1) m apos) [] [] pos) (gmn C2 y m h gA0):=by
 have⟨fa,fd,F,B,mm⟩:=M;refine⟨_,zbO (pl:=pl) (w6 (yU (i:=ℓ) hN hv hd hcd) hb) cl2 mm F (hr.mono hk) B .nil JD ht,λH0 os0 p σ H os ρ fs d fs' Q R e kk=>?_⟩;unfold gmn at e;split at e
 ·rename_i C' gs ef;split at e
  ·rename_i hc;obtain⟨rfl,hm⟩:=hc;have⟨ds,e1,e2⟩:=bind_some e;cases e1;have⟨r,e3,e4⟩:=map_some e2;cases e4;have⟨A,h1,h2,h3,h4⟩:=R.ob;cases h1 with
   |ob hp rr=>
    obtain⟨v,D,l,o,ndD,hD⟩:=rr.zhr (ky.mp h2).2 ef;cases o with
    | @ob q _ dx2 vs2 _ D' hq r2=>
     refine⟨_,R.self,_,_,_,_,_,rfl,hp,cl,na,l,q,_,_,rfl,hq,r2.nolook (gX.mp hm),?_⟩;have o1:FOk X.K H os (.ref q) (.ob C' gs) (q::D'):=.ob hq r2;refine⟨q,[],os,[],gs,r.1,r.2,q::D',rfl,o1,ndD,λa ha=>(h3 a (.tail _ (hD a ha))).1,R.sr.rel.al,.nil,e3,λv H' os' B' sm al o' nd' hB' sub new rv=>?_⟩;exact kk v H' os' (R.nest ef hp l o1 ⟨sm,al,sub,new⟩ o' nd' hB') rv
  ·cases e
 ·cases e
def MSt.own{K:FRx}{H0 H H':Hp}{os0 os os':LAd}{p:AdX}{σ:St}{ρ:Ro}{fs fs':Ob}{B B':LAd}(h:MSt K C ℓ H0 os0 p H os σ ρ fs)(o:FOk K H os (.ref p) (.ob C fs) B)(L:Left H os B H' os')(o':FOk K H' os' (.ref p) (.ob C fs') B')(nd':B'.Nodup)(hB':∀a∈B',a∈os'/\offs H B a=none):MSt K C ℓ H0 os0 p H' os' σ ρ fs':=by
 have⟨A,h1,h2,h3,h4⟩:=h.ob;have eB:=h1.uniq o;subst eB;refine⟨h.sr.left L h3 h4,h.self,B',o',nd',λa ha=>⟨(hB' a ha).1,?_⟩,λj c q m a ha w=>?_⟩
 ·have:=(hB' a ha).2;by_cases z:a∈A
  ·exact(h3 a z).2
  ·rw[zB z] at this;exact h.sr.sm.free this
 ·have⟨b,o,w1,w2,w3,_⟩:=h.sr.rel.mu j c q m;rw[w] at w1;cases w1;by_cases y:a∈A
  ·exact h4 j c q m a y w
  ·have:=(hB' a ha).2;rw[zB y,w3] at this;cases this
def gms(m:Str)(h:MFx)(g:OLx):Ro->Ob->Option (PyData×Ob):=λρ fs=>if (fld m fs).isNone=true then (g ρ fs).bind λds=>h fs ds else none
def ze0{pl:Sem Bool}{h:MFx}(cl:Cls X.K C)(M:Met X.prog X.w X.K X.mg X.base k C m ps h)(hr:Room k' X.A)(ha:GA X C ℓ (e::es) g)(hk:k<=k':=by decide)(hN:X.N[ℓ]?=some x:=by rfl)(hv:Vis X.env.scope x:=by trivial)(hd:NDx x:=by decide)(hcd:NCx x:=by decide)(hst:SEx X e es:=by rfl)(hpl:PLx X pos es:=by rfl)(ht:eval (.Call (.Attribute (.Name x p0) m apos) (e::es) [] pos) X.env=(do
   let ov <-eval (.Name x p0) X.env
   standAt apos.atName
   let (f,first) <-holding [ov] (getMethod ov m pl)
   callWith pos f first (backTo pos (starEach (e::es) X.env)) (backToKw pos (keywordEach [] X.env))):=by rfl):GM X C ℓ (.Call (.Attribute (.Name x p0) m apos) (e::es) [] pos) (gms m h g):=by
 have⟨fa,fd,F,B,mm⟩:=M;have⟨t,pa,qa⟩:=ha;refine⟨_,zeU (pl:=pl) (yU (i:=ℓ) hN hv hd hcd) cl mm F (hr.mono hk) B .nil JD pa hst hpl ht,λH0 os0 p σ H os ρ fs d fs' Q R e kk=>?_⟩;unfold gms at e;split at e
 ·rename_i hm;have⟨ds,e1,e2⟩:=bind_some e;have⟨A,h1,h2,h3,h4⟩:=R.ob;cases h1 with
  |ob hp rr=>
   refine⟨_,R.self,p,_,_,rfl,hp,rr.nolook (gX.mp hm),qa σ H os ρ fs ds _ R.Jx e1 λus H1 s1 ru=>?_⟩;rw[kf];have R1:=R.same s1;have o1:=FOk.same s1 (FOk.ob hp rr)
   refine⟨p,us,os,ds,fs,d,fs',_,rfl,o1,h2,λa ha=>(h3 a ha).1,R1.sr.rel.al,ru,e2,λv H' os' B' sm al o' nd' hB' sub new rv=>?_⟩;exact kk v H' os' (R1.own o1 ⟨sm,al,sub,new⟩ o' nd' hB') rv
 ·cases e
end
def GTM(X:Cx)(C:AdX)(ℓ:Nat)(e:Expr)(f:Ro->Ob->Option (Bool×Ob)):Prop:=∃t:TT,PT X e t/\∀(H0:Hp)(os0:LAd)(p:AdX)(σ:St)(H:Hp)(os:LAd)(ρ:Ro)(fs:Ob)(b:Bool)(fs':Ob)(Q:Bool->Hp->Prop),MSt X.K C ℓ H0 os0 p H os σ ρ fs->f ρ fs=some (b,fs')->
  (∀H' os',MSt X.K C ℓ H0 os0 p H' os' σ ρ fs'->Q b H')->t σ H Q
def GWM(X:Cx)(C:AdX)(ℓ:Nat)(e:Expr)(f:Ro->Ob->Option (Bool×Ob)):Prop:=∃t:TT,PW X e t/\∀(H0:Hp)(os0:LAd)(p:AdX)(σ:St)(H:Hp)(os:LAd)(ρ:Ro)(fs:Ob)(b:Bool)(fs':Ob)(Q:Bool->Hp->Prop),MSt X.K C ℓ H0 os0 p H os σ ρ fs->f ρ fs=some (b,fs')->
  (∀H' os',MSt X.K C ℓ H0 os0 p H' os' σ ρ fs'->Q b H')->t σ H Q
section
variable{X:Cx}{C:AdX}{ℓ:Nat}{e a b:Expr}{pos:Pos}{rest:List Expr}
def gtF(f:Ro->Ob->Option Bool):Ro->Ob->Option (Bool×Ob):=λρ fs=>(f ρ fs).map λc=>(c,fs)
def GT.gtm{f:Ro->Ob->Option Bool}(h:GT X C ℓ e f):GTM X C ℓ e (gtF f):=by
 have⟨t,p,q⟩:=h;refine⟨t,p,λH0 os0 p σ H os ρ fs b fs' Q R e k=>?_⟩;have⟨c,e1,e2⟩:=map_some e;cases e2;exact q σ H os ρ fs _ Q R.Jx e1 λH' s=>k H' os (R.same s)
def gvF(f:Ro->Ob->Option (PyData×Ob)):Ro->Ob->Option (Bool×Ob):=λρ fs=>match f ρ fs with |some (.bool c,fs')=>some (c,fs')|_=>none
def zey{f:Ro->Ob->Option (PyData×Ob)}(h:GM X C ℓ e f)(he:∀whole,isTrue e X.env whole=(do let v <-whole;standAt e.pos;holding [v] (truthy v)):=by intro _;rfl):GTM X C ℓ e (gvF f):=by
 have⟨t,p,q⟩:=h;refine⟨_,zhM p he,λH0 os0 p σ H os ρ fs b fs' Q R e k=>?_⟩;unfold gvF at e;split at e
 ·rename_i c fs2 e1;cases e;refine q H0 os0 p σ H os ρ fs _ _ _ R e1 λv H' os' R' rv=>?_
  cases rv;exact⟨_,rfl,k H' os' R'⟩
 ·cases e
def gnF(f:Ro->Ob->Option (Bool×Ob)):Ro->Ob->Option (Bool×Ob):=λρ fs=>(f ρ fs).map λr=>(!r.1,r.2)
def ziC{f:Ro->Ob->Option (Bool×Ob)}(h:GTM X C ℓ a f):GTM X C ℓ (.UnaryOp .Not a pos) (gnF f):=by
 have⟨t,p,q⟩:=h;refine⟨_,zgE p,λH0 os0 p σ H os ρ fs b fs' Q R e k=>?_⟩;have⟨r,e1,e2⟩:=map_some e;cases e2;exact q H0 os0 p σ H os ρ fs _ _ _ R e1 k
def GWM.gtm{f:Ro->Ob->Option (Bool×Ob)}(h:GWM X C ℓ e f):GTM X C ℓ e f:=by
 have⟨t,p,q⟩:=h;exact⟨t,p.pt,q⟩
def zhb{f:Ro->Ob->Option (Bool×Ob)}(h:GTM X C ℓ a f):GWM X C ℓ (.BoolOp .And [a] pos) f:=by
 have⟨t,p,q⟩:=h;exact⟨t,pw_and1 p,q⟩
def gaF(f g:Ro->Ob->Option (Bool×Ob)):Ro->Ob->Option (Bool×Ob):=λρ fs=>(f ρ fs).bind λr=>if r.1 then g ρ r.2 else some (false,r.2)
def zh0{f g:Ro->Ob->Option (Bool×Ob)}(ha:GTM X C ℓ a f)(hb:GWM X C ℓ (.BoolOp .And (b::rest) pos) g):GWM X C ℓ (.BoolOp .And (a::b::rest) pos) (gaF f g):=by
 have⟨ta,pa,qa⟩:=ha;have⟨tb,pb,qb⟩:=hb;refine⟨_,pw_and pa pb,λH0 os0 p σ H os ρ fs c fs' Q R q k=>?_⟩;have⟨⟨b,fs1⟩,e1,e2⟩:=bind_some q;refine qa H0 os0 p σ H os ρ fs b fs1 _ R e1 λH' os' R'=>?_
 cases b with
 |true=>rw[qg rfl] at e2 ⊢;exact qb H0 os0 p σ H' os' ρ fs1 c fs' Q R' e2 k
 |false=>rw[qm qE] at e2 ⊢;cases e2;exact k H' os' R'
def zbf(c:Ro->Ob->Option (Bool×Ob))(f g:OFx):OFx:=λρ fs=>(c ρ fs).bind λr=>if r.1 then f ρ r.2 else g ρ r.2
def zks{c:Expr}{a b:List Stmt}{f g:OFx}{fc:Ro->Ob->Option (Bool×Ob)}(hc:GTM X C ℓ c fc)(ha:OSs X C ℓ a f)(hb:OSs X C ℓ b g):OS X C ℓ (.If c a b pos) (zbf fc f g):=by
 have⟨tc,pc,qc⟩:=hc;have⟨ta,pa,qa⟩:=ha;have⟨tb,pb,qb⟩:=hb;refine⟨_,zgH pc pa pb,λH0 os0 p D σ H os ρ fs r R e k=>?_⟩;have⟨⟨b,fs1⟩,e1,e2⟩:=bind_some e;refine qc H0 os0 p σ H os ρ fs b fs1 _ R e1 λH' os' R'=>?_
 cases b with
 |true=>rw[qg rfl] at e2 ⊢;exact qa H0 os0 p D σ H' os' ρ fs1 r R' e2 k
 |false=>rw[qm qE] at e2 ⊢;exact qb H0 os0 p D σ H' os' ρ fs1 r R' e2 k
end
def gop(h:PyData->PyData->Option PyData)(f g:OPx):OPx:=λρ fs=>(f ρ fs).bind λx=>(g ρ fs).bind λy=>h x y
def gbo(f:OPx):Ro->Ob->Option Bool:=λρ fs=>match f ρ fs with |some (.bool c)=>some c|_=>none
section
variable{X:Cx}{C:AdX}{ℓ:Nat}{a b e:Expr}{es:List Expr}{f g:OPx}{ga:OLx}{p pos:Pos}{x:Str}{id:String}{r:List V->Hp->VK->Prop}
def U2{h:PyData->PyData->Option PyData}{ρ:Ro}{fs:Ob}{c:PdX}(q:gop h f g ρ fs=some c):∃d e,f ρ fs=some d/\g ρ fs=some e/\h d e=some c:=by
 have⟨d,e1,q⟩:=bind_some q;have⟨e,e2,q⟩:=bind_some q;exact⟨d,e,e1,e2,q⟩
def zgm{ρ:Ro}{fs:Ob}{c:Bool}(q:gbo f ρ fs=some c):f ρ fs=some (.bool c):=by
 unfold gbo at q;split at q
 ·rename_i e;cases q;exact e
 ·cases q
def zl3{op:Operator}{r:R2}{h:PyData->PyData->Option PyData}(ho:OpR X (binaryOp op) r)(hr:R2F X.K r h)(ha:GB X C ℓ a f)(hb:GB X C ℓ b g):GE X C ℓ (.BinOp a op b pos) (gop h f g):=by
 have⟨ta,pa,qa⟩:=ha;have⟨tb,pb,qb⟩:=hb;refine⟨_,zcm ho pa pb,λσ H os ρ fs c Q R q k=>?_⟩;have⟨d,e,e1,e2,e3⟩:=U2 q;refine qa σ H os ρ fs d _ R e1 λx H1 s1 r1=>qb σ H1 os ρ fs e _ (R.same s1) e2 λy H' s2 r2=>?_
 exact hr x y H' os d e c Q (R.rel.al.same (s1.trans s2)) (r1.same s2) r2 e3 λv H2 s3=>k v H2 ((s1.trans s2).trans s3)
def Z8(ha:GB X C ℓ a f)(hb:GB X C ℓ b g)(hs:zbL b):GE X C ℓ (.Subscript a b pos) (gop ixD f g):=by
 have⟨ta,pa,qa⟩:=ha;have⟨tb,pb,qb⟩:=hb;refine⟨_,zjD zej pa pb hs,λσ H os ρ fs c Q R q k=>?_⟩;have⟨d,e,e1,e2,e3⟩:=U2 q;refine qa σ H os ρ fs d _ R e1 λx H1 s1 r1=>qb σ H1 os ρ fs e _ (R.same s1) e2 λy H' s2 r2=>?_
 exact zjy x y H' os d e c Q (R.rel.al.same (s1.trans s2)) (r1.same s2) r2 e3 λv H2 s3=>k v H2 ((s1.trans s2).trans s3)
def zko{op:CmpOp}{r:R2}{h:PyData->PyData->Option PyData}(ho:OpR X (compareOp op) r)(hr:R2F X.K r h)(ha:GB X C ℓ a f)(hb:GB X C ℓ b g)(hm:behindInMarks op b=false):GT X C ℓ (.Compare a [op] [b] pos) (gbo (gop h f g)):=by
 have⟨ta,pa,qa⟩:=ha;have⟨tb,pb,qb⟩:=hb;refine⟨_,zeW ho pa pb hm,λσ H os ρ fs c Q R q k=>?_⟩;obtain⟨d,e,e1,e2,e3⟩:=U2 (zgm q);refine qa σ H os ρ fs d _ R e1 λx H1 s1 r1=>qb σ H1 os ρ fs e _ (R.same s1) e2 λy H' s2 r2=>?_
 refine hr x y H' os d e (.bool c) _ (R.rel.al.same (s1.trans s2)) (r1.same s2) r2 e3 λv H2 s3 rv=>?_
 cases rv;exact⟨c,rfl,k H2 ((s1.trans s2).trans s3)⟩
def zlb{op:CmpOp}{r:R2}{h:PyData->PyData->Option PyData}(ho:OpR X (compareOp op) r)(hr:R2F X.K r h)(ha:GB X C ℓ a f)(hb:GB X C ℓ b g)(hm:behindInMarks op b=false:=by rfl):GE X C ℓ (.Compare a [op] [b] pos) (gop h f g):=by
 have⟨ta,pa,qa⟩:=ha;have⟨tb,pb,qb⟩:=hb;refine⟨_,zem ho pa pb hm,λσ H os ρ fs c Q R q k=>?_⟩;have⟨d,e,e1,e2,e3⟩:=U2 q;refine qa σ H os ρ fs d _ R e1 λx H1 s1 r1=>qb σ H1 os ρ fs e _ (R.same s1) e2 λy H' s2 r2=>?_
 exact hr x y H' os d e c Q (R.rel.al.same (s1.trans s2)) (r1.same s2) r2 e3 λv H2 s3=>k v H2 ((s1.trans s2).trans s3)
def zca{h:LPx}(hc:we X (.builtin id) r)(hr:CRF X.K r h)(hg:Gl X x)(hm:X.mg x=none)(hv:bootBuiltins x=some (.builtin id))(ha:GAB X C ℓ (e::es) ga)(hn:x≠"__name__":=by decide)(hdb:NDx x:=by decide)(he:SEx X e es:=by rfl)(hpl:PLx X pos es:=by rfl):GE X C ℓ (.Call (.Name x p) (e::es) [] pos) (gcall h ga):=by
 have⟨t,pa,qa⟩:=ha;refine⟨_,Yi hc hg hm hv pa hn hdb he hpl,λσ H os ρ fs c Q R q k=>?_⟩;have⟨ds,e1,e2⟩:=bind_some q;exact qa σ H os ρ fs ds _ R e1 λvs H' s rv=>hr vs H' os ds c Q (R.rel.al.same s) rv e2 λv H2 s2=>k v H2 (s.trans s2)
def zeV{k k':Nat}{ps:LSr}{h:LPx}(D:yQ X.prog X.w X.K X.mg X.base k x ps h)(hr:Room k' X.A)(hg:Gl X x)(ha:GA X C ℓ (e::es) ga)(hk:k<=k':=by decide)(hdb:NDx x:=by decide)(he:SEx X e es:=by rfl)(hpl:PLx X pos es:=by rfl):GE X C ℓ (.Call (.Name x p) (e::es) [] pos) (gcall h ga):=by
 have⟨t,pa,qa⟩:=ha;refine⟨_,Wg D hr hg JD pa hk hdb he hpl,λσ H os ρ fs c Q R q k=>?_⟩;have⟨ds,e1,e2⟩:=bind_some q;refine qa σ H os ρ fs ds _ R e1 λvs H' s rv=>?_
 rw[kf];exact⟨os,ds,c,R.rel.al.same s,rv,e2,λv H2 s2=>k v H2 (s.trans s2)⟩
end
section
variable{X:Cx}{C:AdX}{ℓ:Nat}{pos:Pos}
def J6(c:Ro->Ob->Option (Bool×Ob))(b:OFx):Nat->Ro->Ob->Option Flo
 |0,_,_=>none
 |n+1,ρ,fs=>(c ρ fs).bind λt=>if t.1 then (match b ρ t.2 with |some (.nx ρ' fs')=>J6 c b n ρ' fs'|r=>r) else some (.nx ρ t.2)
def owh(m:Ro->Ob->Nat)(c:Ro->Ob->Option (Bool×Ob))(b:OFx):OFx:=λρ fs=>J6 c b (m ρ fs) ρ fs
def zc4(m:Ro->Ob->Nat){c:Expr}{body:List Stmt}{fc:Ro->Ob->Option (Bool×Ob)}{fb:OFx}(hp:PassesOwn (model X.prog X.w) X.A X.env X.xe)(hc:GTM X C ℓ c fc)(hb:OSs X C ℓ body fb):OS X C ℓ (.While c body [] pos) (owh m fc fb):=by
 have⟨tc,pc,qc⟩:=hc;have⟨tb,pb,qb⟩:=hb;refine⟨_,zcE hp pc pb,λH0 os0 p D σ H os ρ fs r R e k=>?_⟩;refine⟨λn σ' H'=>∃os' ρ' fs',MSt X.K C ℓ H0 os0 p H' os' σ' ρ' fs'/\J6 fc fb n ρ' fs'=some r,⟨m ρ fs,os,ρ,fs,R,e⟩,?_⟩;rintro n σ' H' ⟨os',ρ',fs',R',e'⟩;cases n with
 |zero=>cases e'
 |succ n=>
  have⟨⟨b,fs1⟩,e1,e2⟩:=bind_some e';refine qc H0 os0 p σ' H' os' ρ' fs' b fs1 _ R' e1 λH2 os2 R2=>?_
  cases b with
  |false=>rw[qm qE] at e2 ⊢;cases e2;exact k _ _ _ R2
  |true=>
   rw[qg rfl] at e2 ⊢;refine⟨λσ3 H3=>∃os' ρ' fs',MSt X.K C ℓ H0 os0 p H3 os' σ3 ρ' fs'/\J6 fc fb n ρ' fs'=some r,λσ3 H3 h=>⟨n,kA n,h⟩,?_⟩;split at e2
   ·rename_i ρ2 fs2 e3;exact qb H0 os0 p _ σ' H2 os2 ρ' fs1 _ R2 e3 λσ3 H3 os3 R3=>⟨os3,ρ2,fs2,R3,e2⟩
   ·cases r with
    |nx ρ2 fs2=>rename_i hn;exact absurd e2 (hn ρ2 fs2)
    |rt d fs2=>exact qb H0 os0 p _ σ' H2 os2 ρ' fs1 _ R2 e2 k
    |rf d=>exact qb H0 os0 p _ σ' H2 os2 ρ' fs1 _ R2 e2 k
end
def GIR(X:Cx)(C:AdX)(ℓ:Nat)(tg iter:Expr)(f:OLx):Prop:=∃wi:TI,PI X tg iter wi/\∀(σ:St)(H:Hp)(os:LAd)(ρ:Ro)(fs:Ob)(ds:LPd)(R:It->Hp->Prop),vO X.K C ℓ H os σ ρ fs->f ρ fs=some ds->
  (∀J H',Same H H'->(∀G G0,Walks X.K G G0 J ds)->R J H')->wi σ H R
def grn(g:OLx):OLx:=λρ fs=>match g ρ fs with
 |some [.int j]=>if -(2 ^ 62)<=j/\j<2 ^ 62 then some (jP 0 j.toNat) else none
 |_=>none
section
variable{X:Cx}{C:AdX}{ℓ:Nat}{tg a:Expr}{p pos:Pos}{g:OLx}
def zdK(hg:Gl X "range")(hm:X.mg "range"=none)(ha:GA X C ℓ [a] g)(hs:starEach [a] X.env=[(false,eval a X.env)]:=by rfl):GIR X C ℓ tg (.Call (.Name "range" p) [a] [] pos) (grn g):=by
 have⟨t,pa,qa⟩:=ha;refine⟨_,zar hg hm pa hs,λσ H os ρ fs ds R rel e k=>?_⟩;unfold grn at e;split at e
 ·rename_i j e1;split at e
  ·rename_i hc;cases e;refine qa σ H os ρ fs _ _ rel e1 λvs H' s r=>?_
   cases r with
   |cons h r=>cases r;cases h;exact⟨j,rfl,hc.1,hc.2,k _ H' s λG G0=>VY⟩
  ·cases e
 ·cases e
end
def MSt.sets{K:FRx}{C:AdX}{ℓ:Nat}{H0 H:Hp}{os0 os:LAd}{p:AdX}{is:LNt}{σ σ':St}{ρ ρ':Ro}{fs:Ob}(s:Sets K (offs H os) is σ ρ σ' ρ')(hi:∀i∈is,i≠ℓ)(h:MSt K C ℓ H0 os0 p H os σ ρ fs):MSt K C ℓ H0 os0 p H os σ' ρ' fs:=by
 induction s with
 |nil=>exact h
 |set r _ ih=>exact ih (λi hm=>hi i (.tail _ hm)) (h.set (hi _ (.head _)) r)
section
variable{X:Cx}{C:AdX}{ℓ:Nat}{pos:Pos}
def zaF(bd:PyData->Ro->Option Ro)(b:OFx):List PyData->Ro->Ob->Option Flo
 |[],ρ,fs=>some (.nx ρ fs)
 |d::ds,ρ,fs=>(bd d ρ).bind λρ1=>match b ρ1 fs with |some (.nx ρ2 fs2)=>zaF bd b ds ρ2 fs2|r=>r
def ofor(fi:OLx)(bd:PyData->Ro->Option Ro)(b:OFx):OFx:=λρ fs=>(fi ρ fs).bind λds=>zaF bd b ds ρ fs
def zkF{tg iter:Expr}{body:List Stmt}{fi:OLx}{is:LNt}{bd:PyData->Ro->Option Ro}{fb:OFx}(hp:PassesOwn (model X.prog X.w) X.A X.env X.xe)(hc:X.calm=true)(hi:GIR X C ℓ tg iter fi)(hg:FG X tg is bd)(hb:OSs X C ℓ body fb)(his:∀i∈is,i≠ℓ:=by decide)(hs:FSx X iter:=by exact λ_=>rfl):OS X C ℓ (.For tg iter body [] pos) (ofor fi bd fb):=by
 have⟨wi,pi,qi⟩:=hi;have⟨tb,pb,qb⟩:=hb;refine⟨_,zhj hp hc pi hg pb hs,λH0 os0 p D σ H os ρ fs r R e k=>?_⟩;have⟨ds,e1,e2⟩:=bind_some e;refine qi σ H os ρ fs ds _ R.Jx e1 λJ H1 s1 W=>?_
 refine⟨λi m σ' H'=>m=ds.length - i/\i<=ds.length/\∃os' ρ' fs',MSt X.K C ℓ H0 os0 p H' os' σ' ρ' fs'/\zaF bd fb (ds.drop i) ρ' fs'=some r,
  ⟨ds.length,rfl,kK _,os,ρ,fs,R.same s1,e2⟩,?_⟩
 rintro i m σ' H' ⟨rfl,hi,os',ρ',fs',R',e'⟩;obtain⟨w1,w2⟩:=W H' (offs H' os') H' os' R'.sr.rel.al (Same.refl _) (Same.refl _);by_cases hlt:i<ds.length
 ·obtain⟨d,hd⟩:∃d,ds[i]?=some d:=⟨_,qo hlt⟩;have⟨g1,g2⟩:=w1 i d hd;have ed:ds.drop i=d::ds.drop (i+1):=by
   rw[kQ hlt];rw[qo hlt] at hd;cases hd;rfl
  rw[ed] at e';have⟨ρ1,e3,e4⟩:=bind_some e';refine .inr ⟨g1,λσ2 H2=>i+1<=ds.length/\∃os' ρ' fs',MSt X.K C ℓ H0 os0 p H2 os' σ2 ρ' fs'/\zaF bd fb (ds.drop (i+1)) ρ' fs'=some r,?_,?_⟩
  ·rintro σ2 H2 ⟨h1,h2⟩;exact⟨ds.length - (i+1),by omega,rfl,h1,h2⟩
  ·intro x H2 hy;have⟨s2,rx⟩:=g2 x H2 hy;refine⟨os',d,ρ',ρ1,rx,e3,λσ2 st=>?_⟩;have R2:MSt X.K C ℓ H0 os0 p H2 os' σ2 ρ1 fs':=MSt.sets st his (R'.same s2);split at e4
   ·rename_i ρ2 fs2 e5;exact qb H0 os0 p _ σ2 H2 os' ρ1 fs' _ R2 e5 λσ3 H3 os3 R3=>⟨hlt,os3,ρ2,fs2,R3,e4⟩
   ·cases r with
    |nx ρ2 fs2=>rename_i hn;exact absurd e4 (hn ρ2 fs2)
    |rt d fs2=>exact qb H0 os0 p _ σ2 H2 os' ρ1 fs' _ R2 e4 k
    |rf d=>exact qb H0 os0 p _ σ2 H2 os' ρ1 fs' _ R2 e4 k
 ·have e:i=ds.length:=by omega
  subst e;rw[nk] at e';cases e';exact .inl ⟨w2,k _ _ _ R'⟩
end
def Ini(P:Program)(w:World)(K:FRx)(mg:Str->Option Value)(base:Heap)(k:Nat)(C:AdX)(x:Str)(ps:LSr)(h:MFx):Prop:=∃f fd,Mk K C f/\wy P w K mg base CX0 k f fd ps (spM K C h)/\Binds K fd ps []/\mg x=some (.ref C)
def GN(X:Cx)(C:AdX)(ℓ:Nat)(C2:AdX)(e:Expr)(f:Ro->Ob->Option Ob):Prop:=∃t:TE,PE X e t/\∀(σ:St)(H:Hp)(os:LAd)(ρ:Ro)(fs gs:Ob)(Q:VK),vO X.K C ℓ H os σ ρ fs->f ρ fs=some gs->
  (∀q H' os' B,Left H os [] H' os'->FOk X.K H' os' (.ref q) (.ob C2 gs) B->B.Nodup->(∀a∈B,a∈os'/\H a=none)->Q (.ref q) H')->t σ H Q
def FN(X:Cx)(C2:AdX)(e:Expr)(f:Ro->Option Ob):Prop:=∃t:TE,PE X e t/\∀(σ:St)(H:Hp)(os:LAd)(ρ:Ro)(gs:Ob)(Q:VK),xD X.K H os σ ρ->f ρ=some gs->
  (∀q H' os' B,Left H os [] H' os'->FOk X.K H' os' (.ref q) (.ob C2 gs) B->B.Nodup->(∀a∈B,a∈os'/\H a=none)->Q (.ref q) H')->t σ H Q
section
variable{X:Cx}{C C2:AdX}{ℓ:Nat}{e:Expr}{es:List Expr}{ga:RLx}{p pos:Pos}{x:Str}{k k':Nat}{ps:LSr}
def FN.gn{f:Ro->Option Ob}(h:FN X C2 e f):GN X C ℓ C2 e (λρ _=>f ρ):=by
 have⟨t,p,q⟩:=h;exact⟨t,p,λσ H os ρ fs gs Q R e k=>q σ H os ρ gs Q R.rel e k⟩
def fnw(h:MFx)(ga:RLx):Ro->Option Ob:=λρ=>(ga ρ).bind λds=>match h [] ds with |some (.none,gs)=>some gs|_=>none
def zeo{h:MFx}(I:Ini X.prog X.w X.K X.mg X.base k C2 x ps h)(hr:Room k' X.A)(hg:Gl X x)(ha:FA X (e::es) ga)(hk:k+1<=k':=by decide)(hdb:NDx x:=by decide)(he:SEx X e es:=by rfl)(hpl:PLx X pos es:=by rfl):FN X C2 (.Call (.Name x p) (e::es) [] pos) (fnw h ga):=by
 have⟨fa,fd,M,F,B,mx⟩:=I;have⟨t,pa,qa⟩:=ha;refine⟨_,ziS M F (hr.mono hk) hg mx B .nil JD pa hdb he hpl,λσ H os ρ gs Q R e kk=>?_⟩;have⟨ds,e1,e2⟩:=bind_some e;refine qa σ H os ρ ds _ R e1 λus H1 s1 ru q dx nq ndx dq=>?_
 split at e2
 ·rename_i gs' e3;cases e2;have al1:Al H1 os:=R.al.same s1;have nos:∀a,H1 a=none->a∉os:=λa n=>al1.new n
  have same:Same H1 (upd (upd H1 dx (.own q)) q (.ins C2 dx [])):=λb o z=>by
   rw[zR (λw=>by rw[w,nq] at z;cases z),zR (λw=>by rw[w,ndx] at z;cases z)];exact z
  have so:Same (offs H1 os) (offs (upd (upd H1 dx (.own q)) q (.ins C2 dx [])) (q::os)):=jI nq same;rw[kf];refine⟨q,us,q::os,ds,[],.none,gs,[q],rfl,.ob zL .nil,ky.mpr ⟨by simp,.nil⟩,λa ha=>by rw[qO.mp ha];exact .head _,λa ha=>?_,ru.same so,e3,λv H' os' A' sm al o' nd' hA' sub new rv=>?_⟩
  ·rcases qw.mp ha with z|z
   ·rw[z];exact⟨_,zL⟩
   ·have⟨o,w⟩:=al1 a z;exact⟨o,same a o w⟩
  ·cases rv;have out:∀a,offs (upd (upd H1 dx (.own q)) q (.ins C2 dx [])) [q] a=none->H1 a=none:=λa z=>by
    by_cases w:a=q
    ·rw[w];exact nq
    ·rw[zB (by simpa using w)] at z;exact same.free z
   refine⟨rfl,kk q H' os' A' ⟨λb o z=>?_,al,λa ha=>.inr ?_,λa ha=>?_⟩ o' nd' λa ha=>⟨(hA' a ha).1,s1.free (out a (hA' a ha).2)⟩⟩
   ·have z1:=s1 b o z;refine sm b o ?_;rw[zB (λw=>by rw[qO.mp w,nq] at z1;cases z1)];exact same b o z1
   ·rcases sub a (.tail _ ha) with w|w
    ·exact absurd (by rw[qO.mp w] at ha;exact ha) (nos q nq)
    ·exact w
   ·rcases new a ha with w|w
    ·rcases qw.mp w with u|u
     ·right
      rw[zB (by simp),u];exact s1.free nq
     ·exact .inl u
    ·right
     rw[zB (by simp)];exact s1.free (out a w)
 ·cases e2
end
section
variable{X:Cx}{C C2:AdX}{ℓ:Nat}{e:Expr}{pos pos' p0:Pos}{x f:Str}
def ZI{H H':Hp}{os os':LAd}(L:Left H os [] H' os'):Same (offs H os) (offs H' os'):=L.data λa ha=>by cases ha
def zjp(x:Str)(C2:AdX)(g:Ro->Ob->Option Ob):OFx:=λρ fs=>(g ρ fs).bind λgs=>if fs.length<1000 then some (.nx ρ (zN x (.ob C2 gs) fs)) else none
def zi4{g:Ro->Ob->Option Ob}(cl:Cls X.K C)(na:zS X.K C f)(he:GN X C ℓ C2 e g)(hN:X.N[ℓ]?=some x:=by rfl)(hv:Vis X.env.scope x:=by trivial)(hd:NDx x:=by decide)(hcd:NCx x:=by decide)(hs:swapsWith e (some (.Attribute (.Name x p0) f pos')) pos.line X.env=pure false:=by rfl):OS X C ℓ (.Assign [.Attribute (.Name x p0) f pos'] e pos) (zjp f C2 g):=by
 have⟨t,pe,q⟩:=he;refine⟨_,zbG (yU (i:=ℓ) hN hv hd hcd) pe hs,λH0 os0 p D σ H os ρ fs r R e k=>?_⟩;have⟨gs,e1,e2⟩:=bind_some e;split at e2
 ·rename_i hl;cases e2;refine q σ H os ρ fs gs _ R.Jx e1 λq H' os' B L o nd hB=>?_
  have⟨A,h1,h2,h3,h4⟩:=R.ob;have cell:∀a∈A,H' a=H a:=λa ha=>by
   have⟨o,w⟩:=h1.has a ha;rw[w];exact L.cell (by simp) w
  have h1':=h1.keep (ZI L) cell;have sr':=R.sr.left L (λa ha=>by cases ha) λj c q m a ha=>by cases ha
  have ins:∀a∈A,a∈os':=λa ha=>by
   rcases L.sub a (h3 a ha).1 with w|w
   ·cases w
   ·exact w
  cases h1' with
  |ob hp r=>
   refine⟨_,R.self,_,_,_,_,rfl,hp,cl,na,by rw[r.len];exact hl,k _ _ _ (WZ sr' R.self hp r h2 (λa ha=>⟨ins a ha,(h3 a ha).2⟩) h4 o nd λa ha=>⟨(hB a ha).1,R.sr.sm.free (hB a ha).2,λw=>?_,λj c q m w=>?_⟩)⟩
   ·have⟨o,z⟩:=h1.has a w;rw[(hB a ha).2] at z;cases z
   ·have⟨b,o,w1,w2,w3,_⟩:=R.sr.rel.mu j c q m;rw[w] at w1;cases w1;rw[(hB a ha).2] at w3;cases w3
 ·cases e2
end
def SRo.zjA{K:FRx}{H0 H:Hp}{os0 os:LAd}{σ:St}{ρ:Ro}(h:SRo K H0 os0 H os σ ρ)(i:Nat)(v:Option V):SRo K H0 os0 H os (σ.set i v) (ρ.set i .no):=by
 have m:∀{j:Nat} {c:Sl},(ρ.set i .no)[j]?=some c->c≠ .no->i≠j/\ρ[j]?=some c:=λ{j c} q hc=>by
  rcases yw q with⟨_,_,z⟩|z
  ·exact absurd z.symm hc
  ·exact z
 have nm:∀{c:Sl},isM c=true->c≠ .no:=λ{c} hm z=>by rw[z] at hm;cases hm
 refine⟨⟨λj d q=>?_,λj c q hm=>?_,h.rel.al,by rw[kT,kT];exact h.rel.len⟩,h.sm,h.sub,h.new,h.al0,λj c q hm a e=>?_,λj k c c' hjk q1 q2 m1 m2 a e1=>?_⟩
 ·obtain⟨hj,q⟩:=m q (by intro z;cases z);rw[qJ hj];exact h.rel.pu j d q
 ·obtain⟨hj,q⟩:=m q (nm hm);rw[qJ hj];exact h.rel.mu j c q hm
 ·obtain⟨hj,q⟩:=m q (nm hm);rw[qJ hj] at e;exact h.own j c q hm a e
 ·obtain⟨hj,q1⟩:=m q1 (nm m1);obtain⟨hk,q2⟩:=m q2 (nm m2);rw[qJ hj] at e1;rw[qJ hk];exact h.ap j k c c' hjk q1 q2 m1 m2 a e1
section
variable{X:Cx}{C:AdX}{e:Expr}{rest:List Stmt}{pos:Pos}{f:Ro->Option Ob}{g:OFx}
def zf2(i:Nat)(f:Ro->Option Ob)(g:OFx):RFx:=λρ=>(f ρ).bind λgs=>if i<ρ.length then (match g (ρ.set i .no) gs with |some (.rt d _)=>some (.rt d)|some (.rf d)=>some (.rt d)|_=>none) else none
def ziN(i:Nat){x:Str}{pos':Pos}(hN:X.N.Nodup)(he:FN X C e f)(hr:OSs X C i rest g)(hi:X.N[i]?=some x:=by rfl)(hx:Loc X.env.scope x:=by trivial)(hs:swapsWith e (some (.Name x pos')) pos.line X.env=pure false:=by rfl)(hf:FNx X x:=by trivial):FSs X (.Assign [.Name x pos'] e pos::rest) (zf2 i f g):=by
 have⟨t,p,q⟩:=he;have⟨t2,p2,q2⟩:=hr;refine⟨_,Y1 (uW hN hi hx p hs hf) p2,λH0 os0 D σ H os ρ r R e k=>?_⟩;have⟨gs,e1,e2⟩:=bind_some e;split at e2
 ·rename_i hl;split at e2
  ·rename_i d fs' e3;cases e2;refine q σ H os ρ gs _ R.rel e1 λa H' os' B L o nd hB=>?_
   have sr':=(R.left L (λb hb=>by cases hb) λj c q m b hb=>by cases hb).zjA i (some (.ref a));refine q2 H0 os0 a D _ H' os' _ gs _ ⟨sr',ku (by rw[R.rel.len];exact hl),B,o,nd,λb hb=>⟨(hB b hb).1,R.sm.free (hB b hb).2⟩,λj c q m b hb w=>?_⟩ e3 λv H2 os2 M rv=>k v H2 M.sm (rv.same (xF M.sub))
   rcases yw q with⟨_,_,z⟩|⟨hj,q⟩
   ·rw[<-z] at m;cases m
   ·rw[qJ hj] at w;have⟨b',o',w1,w2,w3,_⟩:=R.rel.mu j c q m;rw[w] at w1;cases w1;rw[(hB b hb).2] at w3;cases w3
  ·rename_i d e3;cases e2;refine q σ H os ρ gs _ R.rel e1 λa H' os' B L o nd hB=>?_
   have sr':=(R.left L (λb hb=>by cases hb) λj c q m b hb=>by cases hb).zjA i (some (.ref a));refine q2 H0 os0 a D _ H' os' _ gs _ ⟨sr',ku (by rw[R.rel.len];exact hl),B,o,nd,λb hb=>⟨(hB b hb).1,R.sm.free (hB b hb).2⟩,λj c q m b hb w=>?_⟩ e3 λv H2 sm rv=>k v H2 sm rv
   rcases yw q with⟨_,_,z⟩|⟨hj,q⟩
   ·rw[<-z] at m;cases m
   ·rw[qJ hj] at w;have⟨b',o',w1,w2,w3,_⟩:=R.rel.mu j c q m;rw[w] at w1;cases w1;rw[(hB b hb).2] at w3;cases w3
  ·cases e2
 ·cases e2
end
section
variable{X:Cx}{C:AdX}{ℓ:Nat}{e:Expr}{es:List Expr}{f:OPx}{ga:OLx}{pos apos p0 p2:Pos}{x m:Str}{k k':Nat}{ps:LSr}{lo hi:Option Expr}{l h:Ro->Option (Option Int)}
def gtp(g:OLx):OPx:=λρ fs=>(g ρ fs).bind λds=>if ds.length<=16777216 then some (.tuple ds) else none
def zlw{x1}(h:GA X C ℓ es ga):GE X C ℓ (.Tuple es x1 pos) (gtp ga):=by
 have⟨t,p,q⟩:=h;refine⟨_,zdd p,λσ H os ρ fs d Q R e k=>?_⟩;have⟨ds,e1,e2⟩:=bind_some e;by_cases hl:ds.length<=16777216
 ·rw[qg hl] at e2;cases e2;refine q σ H os ρ fs ds _ R e1 λvs H' s r=>⟨by rw[r.length];exact hl,λp hp=>k _ _ (s.trans (yh hp _)) (.tup (SqT.of ?_) (r.same (zr (yh hp _) os)))⟩
  rw[zB ((R.rel.al.same s).new hp)];exact zL
 ·rw[qm hl] at e2;cases e2
def glF(f:OLx):OPx:=λρ fs=>(f ρ fs).map .list
def GL.ge{f:OLx}(h:GL X C ℓ e f):GE X C ℓ e (glF f):=by
 have⟨t,h1,h2⟩:=h;refine⟨t,h1,λσ H os ρ fs d Q R q k=>?_⟩;have⟨ds,e1,e2⟩:=map_some q;subst e2;refine h2 σ H os ρ fs ds Q R e1 λa xs H' n s hx r=>k _ H' s (.lst (SqL.of ?_) (r.same (xF λb hb=>qD _ hb)))
 rw[zB (R.rel.al.new n)];exact hx
def gsl(f:OPx)(l h:Ro->Option (Option Int)):OLx:=λρ fs=>match f ρ fs with
 |some (.list ds)=>(l ρ).bind λlo=>(h ρ).bind λhi=>some (cut ds lo hi)
 |_=>none
def zhw(ha:GB X C ℓ e f)(hl:FO X lo l)(hh:FO X hi h):GL X C ℓ (.Subscript e (.Slice lo hi none p2) pos) (gsl f l h):=by
 have⟨ta,pa,qa⟩:=ha;have⟨tl,pl,ql⟩:=hl;have⟨th,ph,qh⟩:=hh;refine⟨_,zc7 zek pa pl ph,λσ H os ρ fs c Q R q k=>?_⟩;unfold gsl at q;split at q
 ·rename_i ds e1;have⟨a,e2,q⟩:=bind_some q;have⟨b,e3,q⟩:=bind_some q;cases q;refine qa σ H os ρ fs _ _ R e1 λv H1 s1 r1=>ql σ H1 os ρ a _ (R.rel.same s1) e2 λH2 s2=>qh σ H2 os ρ b _ (R.rel.same (s1.trans s2)) e3 λH3 s3=>?_
  obtain⟨p,xs,rfl,hS,r⟩:=(r1.same (s2.trans s3)).lst;exact⟨p,xs,rfl,hS,λq hq=>k q _ _ ((s1.trans s2).trans s3 |>.free hq) (((s1.trans s2).trans s3).trans (yh hq _)) zL (wu hq (zcr r a b))⟩
 ·cases q
def zb6{pl:Sem Bool}{h:MFx}(cl:Cls X.K C)(M:Met X.prog X.w X.K X.mg X.base k C m ps h)(hr:Room k' X.A)(hk:k<=k':=by decide)(hN:X.N[ℓ]?=some x:=by rfl)(hv:Vis X.env.scope x:=by trivial)(hd:NDx x:=by decide)(hcd:NCx x:=by decide)(ht:eval (.Call (.Attribute (.Name x p0) m apos) [] [] pos) X.env=(do
   let ov <-eval (.Name x p0) X.env
   standAt apos.atName
   let (f,first) <-holding [ov] (getMethod ov m pl)
   callWith pos f first (backTo pos (starEach [] X.env)) (backToKw pos (keywordEach [] X.env))):=by rfl):GM X C ℓ (.Call (.Attribute (.Name x p0) m apos) [] [] pos) (gms m h gA0):=by
 have⟨fa,fd,F,B,mm⟩:=M;refine⟨_,zbO (pl:=pl) (yU (i:=ℓ) hN hv hd hcd) cl mm F (hr.mono hk) B .nil JD ht,λH0 os0 p σ H os ρ fs d fs' Q R e kk=>?_⟩;unfold gms at e;split at e
 ·rename_i hm;have⟨ds,e1,e2⟩:=bind_some e;cases e1;have⟨A,h1,h2,h3,h4⟩:=R.ob;cases h1 with
  |ob hp rr=>
   refine⟨_,R.self,p,_,_,rfl,hp,rr.nolook (gX.mp hm),?_⟩;have o1:=FOk.ob hp rr;refine⟨p,[],os,[],fs,d,fs',_,rfl,o1,h2,λa ha=>(h3 a ha).1,R.sr.rel.al,.nil,e2,λv H' os' B' sm al o' nd' hB' sub new rv=>?_⟩;exact kk v H' os' (R.own o1 ⟨sm,al,sub,new⟩ o' nd' hB') rv
 ·cases e
end
structure zfB(K:FRx)(C:AdX)(ℓ:Nat)(H:Hp)(os:LAd)(σ:St)(ρ:Ro)(fs:Ob):Prop where
 rel:xD K H os σ ρ
 ob:∃p dx vs,σ[ℓ]?=some (some (.ref p))/\H p=some (.ins C dx vs)/\∀x d,gg x ρ fs=some d->∃v,vs.lookup x=some v/\Rep K (offs H os) v d
def zfB.same{K:FRx}{C:AdX}{ℓ:Nat}{H H':Hp}{os:LAd}{σ:St}{ρ:Ro}{fs:Ob}(h:zfB K C ℓ H os σ ρ fs)(e:Same H H'):zfB K C ℓ H' os σ ρ fs:=by
 have⟨p,dx,vs,h1,h2,h3⟩:=h.ob;exact⟨h.rel.same e,p,dx,vs,h1,e _ _ h2,λx d q=>by
  have⟨v,l,r⟩:=h3 x d q;exact⟨v,l,r.same (zr e os)⟩⟩
def MSt.zmn{K:FRx}{C:AdX}{ℓ:Nat}{H0 H:Hp}{os0 os:LAd}{p:AdX}{σ:St}{ρ:Ro}{fs:Ob}(h:MSt K C ℓ H0 os0 p H os σ ρ fs):∃os',zfB K C ℓ H os' σ ρ fs/\(∀a∈os0,a∈os'):=by
 have⟨A,h1,h2,h3,h4⟩:=h.ob;have sub:∀b∈os.filter (λc=>c∉A),b∈os:=λb hb=>(ke.mp hb).1
 have so:Same (offs H os) (offs H (os.filter λc=>c∉A)):=xF sub;refine⟨os.filter λc=>c∉A,⟨⟨λi d q=>?_,λi c q m=>?_,λb hb=>h.sr.rel.al b (sub b hb),h.sr.rel.len⟩,?_⟩,λa ha=>ke.mpr ⟨h.sr.sub a ha,?_⟩⟩
 ·have⟨v,w1,w2⟩:=h.sr.rel.pu i d q;exact⟨v,w1,w2.same so⟩
 ·have⟨a,o,w1,w2,w3,w4⟩:=h.sr.rel.mu i c q m;exact⟨a,o,w1,ke.mpr ⟨w2,by simpa using λz=>h4 i c q m a z w1⟩,w3,w4.same so⟩
 ·cases h1 with
  |ob hp r=>
   refine⟨p,_,_,h.self,hp,λx d q=>?_⟩;unfold gg at q;split at q
   ·rename_i d' ef;cases q;have⟨v,B,l,o,_⟩:=r.look ef;cases o with
    |pu rv=>exact⟨_,l,rv.same so⟩
   ·rename_i ds ef;cases q;have⟨v,B,l,o,hB⟩:=r.look ef;cases o with
    | @ow a0 xs0 _ ha rv=>
     have na:a0∉os.filter λc=>c∉p::_:=λz=>by
      have w:=(ke.mp z).2;simp at w;exact w.2 (hB a0 (.head _))
     exact⟨_,l,.lst (SqL.of (by rw[zB na];exact ha)) (rv.same so)⟩
   ·cases q
 ·have:a∉A:=λz=>by
   have⟨o,e⟩:=h.sr.al0 a ha;rw[(h3 a z).2] at e;cases e
  simpa using this
def GZ(X:Cx)(C:AdX)(ℓ:Nat)(e:Expr)(f:OPx):Prop:=∃t:TE,PE X e t/\∀(σ:St)(H:Hp)(os:LAd)(ρ:Ro)(fs:Ob)(d:PdX)(Q:VK),zfB X.K C ℓ H os σ ρ fs->f ρ fs=some d->(∀v H',Same H H'->Rep X.K (offs H' os) v d->Q v H')->t σ H Q
def GZA(X:Cx)(C:AdX)(ℓ:Nat)(es:List Expr)(f:OLx):Prop:=∃t:TA,PA X es t/\∀(σ:St)(H:Hp)(os:LAd)(ρ:Ro)(fs:Ob)(ds:LPd)(Q:List V->Hp->Prop),zfB X.K C ℓ H os σ ρ fs->f ρ fs=some ds->(∀vs H',Same H H'->Reps X.K (offs H' os) vs ds->Q vs H')->t σ H Q
section
variable{X:Cx}{C:AdX}{ℓ:Nat}{e:Expr}{es:List Expr}{f:OPx}{g:OLx}{pos p0:Pos}{x n:Str}
def FE.gz{f:RPx}(h:FE X e f):GZ X C ℓ e (λρ _=>f ρ):=by
 have⟨t,p,q⟩:=h;exact⟨t,p,λσ H os ρ fs d Q R e k=>q σ H os ρ d Q R.rel e k⟩
def zln(cl:Cls X.K C)(na:zS X.K C n)(hN:X.N[ℓ]?=some x:=by rfl)(hv:Vis X.env.scope x:=by trivial)(hd:NDx x:=by decide)(hcd:NCx x:=by decide)(hb:ABx X (.Name x p0) n:=by rfl):GZ X C ℓ (.Attribute (.Name x p0) n pos) (gg n):=by
 refine⟨_,w6 (yU (i:=ℓ) hN hv hd hcd) hb,λσ H os ρ fs d Q R e k=>?_⟩;have⟨p,dx,vs,h1,h2,h3⟩:=R.ob;have⟨v,l,r⟩:=h3 n d e;exact⟨_,h1,_,_,_,_,_,rfl,h2,cl,na,l,k v H (Same.refl H) r⟩
def ziI:GZA X C ℓ [] gA0:=⟨_,jf,λ_ H _ _ _ _ _ _ q k=>by cases q;exact k [] H (Same.refl H) .nil⟩
def zbP(ha:GZ X C ℓ e f)(hr:GZA X C ℓ es g)(hs:SEx X e es:=by rfl):GZA X C ℓ (e::es) (gAC f g):=by
 have⟨ta,pa,qa⟩:=ha;have⟨tb,pb,qb⟩:=hr;refine⟨_,xn pa pb hs,λσ H os ρ fs ds Q R q k=>?_⟩;have⟨d,e1,q⟩:=bind_some q;have⟨r,e2,e3⟩:=map_some q;subst e3;exact qa σ H os ρ fs d _ R e1 λx H1 s1 r1=>qb σ H1 os ρ fs r _ (R.same s1) e2 λxs H2 s2 r2=>k _ H2 (s1.trans s2) (.cons (r1.same (zr s2 os)) r2)
def zlc{x1}(h:GZA X C ℓ es g):GZ X C ℓ (.Tuple es x1 pos) (gtp g):=by
 have⟨t,p,q⟩:=h;refine⟨_,zdd p,λσ H os ρ fs d Q R e k=>?_⟩;have⟨ds,e1,e2⟩:=bind_some e;by_cases hl:ds.length<=16777216
 ·rw[qg hl] at e2;cases e2;refine q σ H os ρ fs ds _ R e1 λvs H' s r=>⟨by rw[r.length];exact hl,λp hp=>k _ _ (s.trans (yh hp _)) (.tup (SqT.of ?_) (r.same (zr (yh hp _) os)))⟩
  rw[zB ((R.rel.al.same s).new hp)];exact zL
 ·rw[qm hl] at e2;cases e2
def YI(f:OPx):OFx:=λρ fs=>(f ρ fs).bind λd=>some (.rf d)
def ziy(h:GZ X C ℓ e f):OS X C ℓ (.Return (some e) pos) (YI f):=by
 have⟨t,p,q⟩:=h;refine⟨_,Yt p,λH0 os0 p D σ H os ρ fs r R e k=>?_⟩;have⟨d,e1,e2⟩:=bind_some e;cases e2;have⟨os',Z,sub⟩:=R.zmn;exact q σ H os' ρ fs d _ Z e1 λv H' s rv=>k v H' (R.sr.sm.trans s) (rv.same (xF sub))
end
def W9(K:FRx)(mg:Str->Option Value)(C:AdX)(y x qual:Str)(st:Stmt):Prop:=∃f fd,Fun K x qual st f fd/\Mk K C f/\mg y=some (.ref C)
section
variable{P:Program}{w:World}{K:FRx}{mg:Str->Option Value}{base:Heap}{C:AdX}
def Ini.mk{x y qual:Str}{st:Stmt}{N ps:LSr}{k m:Nat}{b:OFx}(h:W9 K mg C y x qual st)(S:zx N ps (ze st))(hb:∀(kV doc pm:Value)(an:Option Addr)(cdv ct:Value)(us:LVl),us.length=ps.length->bindArgs (W.fnOf x qual (jB st) (xg st) (ze st) .none kV doc pm an cdv ct) ⟨us,[]⟩=pure (ps.zip us))(hm:ps.length=m+1)(hN:m<N.length)(hbody:∀(f:AdX)(cdv:Value)(A:Around)(outer:List Env)(s:ShX)(H:Hp)(E:XK),Room k (A.deeper (envOfC qual (ze st) s.heap.objs.size f cdv))->
   OSs (Wj CX0 P w K mg base N qual (ze st) f cdv A outer s H E).nox C 0 (xg st) b):Ini P w K mg base (k+1) C y ps (fnM N.length m b):=by
 have⟨f,fd,F,M,my⟩:=h;refine⟨f,fd,M,F.ok S (λvs H Q E q=>?_) (λcdv A outer s H vs Q E hr q=>?_),F.binds hb,my⟩
 ·obtain⟨p,us,os,ds,fs,d,fs',A,rfl,_,_,_,_,r,e,_⟩:=q;unfold fnM at e;split at e
  ·rename_i hl;rw[qU,r.length,hl,hm]
  ·cases e
 ·have⟨t,pp,q'⟩:=hbody f cdv A outer s H E hr;obtain⟨p,us,os,ds,fs,d,fs',A,rfl,o,nd,hA,al,r,e,kk⟩:=q;unfold fnM at e;split at e
  ·rename_i hl;refine⟨t,pp,?_⟩;have R:=Z9 (N:=N) al r o nd hA m hl hN;have go:∀v H' os',ziz K C (offs H A) (os.filter λa=>a∉A) p H' os' fs'->Rep K (offs H' os') v d->Q v H':=λv H' os' M rv=>by
    have⟨A',o',nd',hA'⟩:=M.ob;refine kk v H' os' A' M.sm M.al o' nd' hA' (λa ha=>?_) (λa ha=>?_) rv
    ·by_cases z:a∈A
     ·exact .inl z
     ·exact .inr (M.sub a (ke.mpr ⟨ha,by simpa using z⟩))
    ·rcases M.new a ha with z|z
     ·exact .inl (ke.mp z).1
     ·exact .inr z
   split at e
   ·rename_i d' fs'' e1;cases e;exact q' _ _ _ _ _ H os _ _ _ R e1 λv H' os' M rv=>go v H' os' M rv
   ·rename_i ρ' fs'' e1;cases e;exact q' _ _ _ _ _ H os _ _ _ R e1 λσ' H' os' R'=>go _ H' os' R'.end .non
   ·cases e
  ·cases e
end
theorem zaf:∀(us:LVl)(k:Nat),(∀(i:Nat)(v:Value),us[i]?=some v->∃t,v=Value.int (0+((k+i:Nat):Int)) t)->Vals ((List.range' k us.length).map λi:Nat=>V.int (0+i)) us
 |[],_,_=>.nil
 |u::us,k,h=>by
  have⟨t,e⟩:=h 0 u rfl;exact .cons ⟨t,by rw[e];simp⟩ (zaf us (k+1) λi v hv=>by
   obtain⟨t,e⟩:=h (i+1) v (by simpa using hv);exact⟨t,by rw[e,show k+(i+1)=k+1+i by omega]⟩)
def zhL{us:LVl}{n:Nat}(hn:us.length=n)(h:∀(i:Nat)(v:Value),us[i]?=some v->∃t,v=Value.int (0+(i:Int)) t):Vals ((List.range n).map λi:Nat=>V.int (0+i)) us:=by
 rw[<-hn,List.range_eq_range'];exact zaf us 0 λi v hv=>by
  have⟨t,e⟩:=h i v hv;exact⟨t,by rw[e,mi]⟩
theorem zcq{K:FRx}{G:Hp}:∀l:List Nat,Reps K G (l.map λi:Nat=>V.int (0+i)) (l.map λi:Nat=>PyData.int (0+i))
 |[]=>.nil
 |_::l=>.cons (.int _) (zcq l)
section
variable{X:Cx}
def zhN:we X (.type "range") (λxs H Q=>∃j:Int,xs=[.int j]/\∀l,H l=none->Q (.ref l) (upd H l (.rng 0 j))):=by
 intro pins s σ H xs us Q I r h;obtain⟨j,rfl,q⟩:=h;obtain⟨u,rfl,t,rfl⟩:=vals1 r;refine call_range_1 ⟨.ref s.heap.objs.size,_,I.laid (o:=.rng 0 j) (t':=s.toks+1+1) (λc o e=>qj _ e) (qk _) ⟨_,_,_,qI _ rfl⟩,rfl,q _ (I.hok.fresh (qk _))⟩
def ZY(hc:X.calm=true):we X (.type "list") (λxs H Q=>∃p,∃j:Int,xs=[.ref p]/\H p=some (.rng 0 j)/\-(2 ^ 62)<=j/\j<=16777216/\∀l,H l=none->Q (.ref l) (upd H l (.lst ((List.range j.toNat).map λi:Nat=>V.int (0+i))))):=by
 intro pins s σ H xs us Q I r h;obtain⟨p,j,rfl,hp,h1,h2,q⟩:=h;obtain⟨u,rfl,ru⟩:=vals1 r;cases ru;obtain⟨t,u,v,hR⟩:vB X.prog X.w H s.heap p (.rng 0 j):=I.hok p _ hp;refine call_list_range (I.ok.hd hc) hR (small_one (by omega) (by omega) h1 (by omega)) (n:=j.toNat) (by rw[rangeSize_one];split<;>omega) (by omega) λh' tk acc' c' hk hS' hacc=>?_
 refine⟨.ref s.heap.objs.size,_,I.laid (o:=.lst ((List.range j.toNat).map λi:Nat=>V.int (0+i))) (t':=tk) hk (qk _) ⟨?_,acc'.toList,c',?_,?_⟩,rfl,q _ (I.hok.fresh (qk _))⟩
 ·rw[qe,qu]
  have:=YD;show j.toNat<=16777216
  omega
 ·exact zhL (by rw[nN];exact hacc.1) λi v hv=>by
   obtain⟨t,e⟩:=hacc.2 i v (by simpa using hv);exact⟨t,by rw[e];simp⟩
 ·simpa using hS'
def ziu(g:RLx):RLx:=λρ=>match g ρ with
 |some [.int j]=>if -(2 ^ 62)<=j/\j<=16777216 then some (jP 0 j.toNat) else none
 |_=>none
def zlq{a:Expr}{p p' pos pos':Pos}{g:RLx}(hc:X.calm=true)(hg:Gl X "range")(hm:X.mg "range"=none)(hg2:Gl X "list")(hm2:X.mg "list"=none)(ha:FA X [a] g)(hs:SEx X a []:=by rfl)(hp1:(backTo pos' (starEach [] X.env)).any (·.1)=false:=by rfl)(hs2:starEach [(.Call (.Name "range" p') [a] [] pos':Expr)] X.env=(false,eval (.Call (.Name "range" p') [a] [] pos') X.env)::starEach [] X.env:=by rfl)(hp2:(backTo pos (starEach [] X.env)).any (·.1)=false:=by rfl):FL X (.Call (.Name "list" p) [.Call (.Name "range" p') [a] [] pos'] [] pos) (ziu g):=by
 have⟨t,pa,qa⟩:=ha;refine⟨_,JU (ZY hc) hg2 hm2 j0 (xn (JU zhN hg hm boot_range pa (by decide) (by decide) hs hp1) jf hs2) (by decide) (by decide) hs2 hp2,λσ H os ρ ds Q R e k=>?_⟩;unfold ziu at e;split at e
 ·rename_i j e1;split at e
  ·rename_i hj;cases e;refine qa σ H os ρ _ _ R e1 λvs H1 s1 rv=>?_
   cases rv with
   |cons h r=>
    cases r;cases h;refine⟨j,rfl,λl hl=>⟨l,j,rfl,zL,hj.1,hj.2,λl2 hl2=>?_⟩⟩;have s2:Same H1 (upd H1 l (.rng 0 j)):=yh hl _;have s3:=yh hl2 (.lst ((List.range j.toNat).map λi:Nat=>V.int (0+i)))
    exact k l2 _ _ (s1.free (s2.free hl2)) (s1.trans (s2.trans s3)) zL (zcq _)
  ·cases e
 ·cases e
end
def lF(h:LLx):LPx:=λds=>(h ds).map PyData.list
def x6.df{P:Program}{w:World}{K:FRx}{mg:Str->Option Value}{base:Heap}{k:Nat}{x:Str}{ps:LSr}{h:LLx}(D:x6 P w K mg base k x ps h):yQ P w K mg base k x ps (lF h):=by
 have⟨f,fd,F,r⟩:=D;refine⟨f,fd,F.imp λvs H Q E q=>?_,r⟩;have⟨os,ds,r,al,rv,e,kk⟩:=q;have⟨es,e1,e2⟩:=map_some e;subst e2;refine⟨os,ds,es,al,rv,e1,λa xs H' n s hx r=>kk _ H' s (.lst (SqL.of ?_) (r.same (xF λb hb=>qD _ hb)))⟩;rw[zB (al.new n)];exact hx
end L2.Fu
namespace L2.Fu
open PySem PySem.Spec PyProof.Rows
def fgc{X:Cx}{Ts:LSr}{F:LNt}{scope:Scope}(i:Nat){x:Str}{pos:Pos}(hN:decide (Ts++F.map λj=>X.N.getD j "").Nodup=true:=by rfl)(hi:(Ts++F.map λj=>X.N.getD j "")[i]?=some x:=by rfl)(hx:∀cl C,Loc (compEnvC scope cl C X.env).scope x:=by exact λ_ _=>Or.inl rfl)(hf:∀cl C,(compEnvC scope cl C X.env).scope.names.lookup x=some .local:=by exact λ_ _=>rfl)(cl C ex s H):FG (yc X (Ts++F.map λj=>X.N.getD j "") scope cl C ex s H) (.Name x pos) [i] (bN i):=zQ i (gI hN) hi (hx _ C) (.inr (hf _ C))
abbrev UM(n:Nat)(p:Value->Value->Value->Option Addr->Value->Value->List Value->Prop):Prop:=∀a b c d e f us,us.length=n->p a b c d e f us
section
variable{p:Value->Value->Value->Option Addr->Value->Value->List Value->Prop}
def um1(h:∀a b c d e f x,p a b c d e f [x]):UM 1 p:=λa b c d e f us hl=>match us,hl with |[x],_=>h a b c d e f x
def um2(h:∀a b c d e f x y,p a b c d e f [x,y]):UM 2 p:=λa b c d e f us hl=>match us,hl with |[x,y],_=>h a b c d e f x y
def um3(h:∀a b c d e f x y z,p a b c d e f [x,y,z]):UM 3 p:=λa b c d e f us hl=>match us,hl with |[x,y,z],_=>h a b c d e f x y z
end
def ze4:OFx:=osq (ZV "free" λρ x=>ziu (aC (gv 1) a0) ρ) (osq (ZV "taken" λρ x=>vL a0 ρ) (osq (ZV "checks" λρ x=>zZ 1 [1] (xl (aC (gv 1) a0)) (bN 0) (yB (xc v3 (aC (gv 0) (aC (gv 1) a0)))) ρ) (ofl "pivot" λρ x=>cst (PyData.int 1) ρ)))
def Vx:MFx:=fnM 2 1 ze4
def zk0:OFx:=(osq (WK 2 (ocomp 1 [1] (gsq (gg "checks")) (bN 0) (zd yD (aC (gv 0) (aC (gv 1) a0))))) (osq (WK 3 (W8 2 [] (λρ x=>zeJ false (aC (gb 2) a0) ρ) (b2 (bN 0) (bN 1)) (zA (op2 neD (gv 1) (cst (PyData.int 0)))) (gv 0))) (osq (oif (λρ x=>zA (op2 eqD (gb 3) (yB (vL a0))) ρ) (oret λρ x=>cst (PyData.bool false) ρ) os0) (osq (oset 4 λρ x=>op2 ixD (gb 3) (cst (PyData.int 0)) ρ) (osq (opl 5 2 λρ x=>gv 4 ρ) (osq (opo 6 "checks" λρ x=>gv 4 ρ) (osq (WK 7 (za8 2 [0,5,6] (gzp false false (gAC (gg "checks") (gAC (λρ x=>gb 2 ρ) gA0))) (b2 (bN 0) (bN 1)) (gcall (lF uZ) (gAC (λρ x=>gv 0 ρ) (gAC (λρ x=>gv 1 ρ) (gAC (λρ x=>gv 4 ρ) (gAC (λρ x=>gv 3 ρ) (gAC (gf "pivot") gA0)))))))) (osq (ofm "checks" 7) (osq (ofl "pivot" λρ x=>gv 5 ρ) (osq (zg4 "taken" "free" λρ x=>gv 4 ρ) (oret λρ x=>cst (PyData.bool true) ρ)))))))))))
def Us:MFx:=fnM 8 1 (zk0)
def zlh:OFx:=(oret (gop eqD (gg "free") λρ x=>yB (vL a0) ρ))
def YH:MFx:=fnM 1 0 (zlh)
def zj5:OFx:=(osq (oif (λρ x=>zA (op2 eqD (gv 1) (yM a0)) ρ) (oret λρ x=>gv 2 ρ) os0) (oret (gcall (lF xq) (gAC (gcall (lF U7) (gAC (λρ x=>gv 2 ρ) (gAC (gop ixD (gg "steps") λρ x=>op2 ixD (gv 1) (op1 zcb (cst (PyData.int 1))) ρ) gA0))) gA0))))
def Uq:MFx:=fnM 3 2 (zj5)
def zkw:OFx:=(osq (oap "words" λρ x=>gv 1 ρ) (osq (oap "rows" λρ x=>gv 2 ρ) (ofor (grn (gAC (gcall yb (gAC (gg "steps") gA0)) gA0)) (bN 3) (oap "waiting" λρ x=>yM (aC (op2 Jl (gv 1) (yM (aC (gv 3) a0))) (aC (gv 2) a0)) ρ))))
def Wf:MFx:=fnM 4 2 (zkw)
def zgf(CS:AdX):OFx:=(osq (owh (λx x_1=>1000000) (gaF (gtF (gbo (gop (zd5 λi j=>decide (i<j)) (gf "asked") (gcall yb (gAC (gg "waiting") gA0))))) (gnF (gvF (gmn CS "span" "full" YH gA0)))) (osq (oset 1 (gop ixD (gop ixD (gg "waiting") (gf "asked")) λρ x=>cst (PyData.int 0) ρ)) (osq (osm 2 (gms "row_led_on" Uq (gAC (λρ x=>gv 1 ρ) (gAC (gop ixD (gop ixD (gg "waiting") (gf "asked")) λρ x=>cst (PyData.int 1) ρ) gA0)))) (osq (ofl "asked" (gop xb (gf "asked") λρ x=>cst (PyData.int 1) ρ)) (zbf (gvF (gmn CS "span" "take" Us (gAC (λρ x=>gv 2 ρ) gA0))) (osq (oex (gms "keep" Wf (gAC (λρ x=>gv 1 ρ) (gAC (λρ x=>gv 2 ρ) gA0)))) (oret λρ x=>gv 2 ρ)) os0))))) (oret λρ x=>cst PyData.none ρ))
def jb(CS:AdX):MFx:=fnM 3 0 (zgf CS)
def zeE(CS:AdX):OFx:=(osq (ZV "steps" λρ x=>zZ 1 [] (yI (op2 ixD (gv 1) (cst (PyData.int 1)))) (bN 0) (op2 ixD (zd vM (aC (gv 0) a0)) (cst (PyData.int 0))) ρ) (osq (zjp "span" CS λρ x=>fnw Vx (aC (zd yb (aC (op2 ixD (gv 1) (cst (PyData.int 0))) a0)) a0) ρ) (osq (ZV "words" λρ x=>vL a0 ρ) (osq (ZV "rows" λρ x=>vL a0 ρ) (osq (ZV "waiting" λρ x=>vL (aC (yM (aC (yM a0) (aC (zd (lF xI) (aC (op2 ixD (gv 1) (cst (PyData.int 0))) a0)) a0))) a0) ρ) (ofl "asked" λρ x=>cst (PyData.int 0) ρ))))))
def J4(CS:AdX):MFx:=fnM 2 1 (zeE CS)
def zdX(CS:AdX):RFx:=(sq (zO 2 (zd vU (aC (gv 0) (aC (gv 1) a0)))) (sq (zO 3 (zd (lF xI) (aC (op2 ixD (gv 2) (cst (PyData.int 2))) a0))) (zf2 4 (fnw (J4 CS) (aC (gv 2) a0)) (osq (osm 5 (gms "onward" (jb CS) gA0)) (osq (owh (λx x_1=>1000) (gtF λρ x=>zA (op2 UH (gv 5) (cst PyData.none)) ρ) (osq (oif (λρ x=>zA (op2 neD (zd yD (aC (gv 5) (aC (gv 3) a0))) (cst (PyData.int 0))) ρ) (oret (gtp (gAC (gop ixD (gg "words") λρ x=>op1 zcb (cst (PyData.int 1)) ρ) (gAC (glF (gsl (gg "rows") o0 (oS (op1 zcb (cst (PyData.int 1)))))) gA0)))) os0) (osm 5 (gms "onward" (jb CS) gA0)))) (YI (gtp (gAC (λρ x=>cst PyData.none ρ) (gAC (gg "rows") gA0)))))))))
def yp(CS:AdX):LPx:=fnF 6 2 (zdX CS)
def YE(CS:AdX):RFx:=(sq (zO 2 (zd (yp CS) (aC (gv 0) (aC (gv 1) a0))))
 (sq (ifS (zA (op2 UH (op2 ixD (gv 2) (cst (.int 0))) (cst .none))) (retS (cst .none)) s0)
 (retS (yB (zZ 1 [] (yI (op2 ixD (gv 2) (cst (.int 1)))) (bN 0) (yB (zZ 1 [] (yI (gv 0)) (bN 0) (yM (aC (gv 0) (aC (cst (.int 1)) a0))))))))))
def vb(CS:AdX):LPx:=fnF 3 2 (YE CS)
end L2.Fu
namespace L2.Fu
open PySem WS WD WD.DT
open PySem.Builtin.Int (intBits)
def W0{i:Nat}{fi f:RPx}{ρ:Ro}{ds:LPd}{d:PdX}{a:Nat}(h1:gk i ρ=some ds)(h2:f ρ=some d)(h3:fi ρ=some (.int (a:Int)))(h4:a<ds.length):siS i fi f ρ=some (.nx (ρ.set i (.ow (ds.set a d)))):=by
 unfold siS;rw[h1,qr,h2,qr,h3];show(ixN ds.length (a:Int)).bind _=_
 have e:ixN ds.length (a:Int)=some a:=by
  unfold ixN;rw[qg (by omega),qg (by omega)];simp
 rw[e];rfl
def zea{n:Nat}{f g:Z1x}(hn:n<=1000)(h:∀i,i<n->intBits (f i)<=1000000/\intBits (g i)<=1000000):yD [.list (xK n f),.list (xK n g)]=some (.int (yv n λi=>f i*g i)):=by
 have hl:(List.range n).length<=16777216:=by rw[qu];omega
 have ec:zZ 2 [] (UQ false false (aC (gv 0) (aC (gv 1) a0))) (b2 (bN 0) (bN 1)) (op2 yA (gv 0) (gv 1)) [.pu (.list (xK n f)),.pu (.list (xK n g))]=some (xK n λi=>f i*g i):=yi (xs:=List.range n) (e:=λi=>.tuple [.int (f i),.int (g i)]) (d:=λi=>.int (f i*g i)) (ziA _ rfl) hl λi hi=>by
   have hi:=qK.mp hi;exact Vg.trans ((zb rfl rfl).trans (xf (ju (h i hi).1 (h i hi).2 (by omega))))
 have es:zja [.list (xK n λi=>f i*g i)]=some (.int (yv n λi=>f i*g i)):=by
  show(wx Vl (xK n λi=>f i*g i)).map (λns=>PyData.int ns.sum)=_
  rw[zdn,gG,zat]
 exact zM rfl (zF ((zc (zk (yj ec) rfl)).trans es))
def zgo{n:Nat}{t:Z1x}{c:Nat->Nat->Int}(hn:n<=1000)(ht:∀a,a<n->intBits (t a)<=1000000)(hc:∀a b,a<n->b<n->intBits (c a b)<=1000000):U7 [.list (xK n t),.list ((List.range n).map λb=>.list (xK n λa=>c a b))]=some (xK n λb=>yv n λa=>t a*c a b):=by
 refine wY rfl (jX ?_);exact yi (xs:=List.range n) (e:=λb=>.list (xK n λa=>c a b)) (d:=λb=>.int (yv n λa=>t a*c a b)) (vq rfl) (by simpa using qB hn (by decide)) λb hb=>by
  have hb:=qK.mp hb;exact yY.trans ((zc rfl).trans (zea hn λa ha=>⟨ht a ha,hc a b ha hb⟩))
def gl(f:Z1x):Nat->Nat
 |0=>0
 |n+1=>Int.gcd (f n) (gl f n:Int)
theorem Zn{f g:Z1x}:∀n,(∀i,i<n->f i=g i)->gl f n=gl g n
 |0,_=>rfl
 |n+1,h=>by
  show Int.gcd (f n) _=Int.gcd (g n) _
  rw[h n (kA n),Zn n λi hi=>h i (mj hi)]
theorem zdp(f:Z1x)(c:Nat):∀n,gl (λi=>(c:Int)*f i) n=c*gl f n
 |0=>rfl
 |n+1=>by
  show Int.gcd ((c:Int)*f n) _=c*Int.gcd (f n) _
  rw[zdp f c n,mP,Int.gcd_mul_left,kE]
theorem YA(f:Z1x):∀n i,i<n->(gl f n:Int) ∣ f i
 |0,i,h=>absurd h (kN _)
 |n+1,i,h=>by
  show((Int.gcd (f n) (gl f n:Int):Nat):Int) ∣ f i
  by_cases e:i=n
  ·rw[e];exact Int.gcd_dvd_left ..
  ·exact Int.dvd_trans (Int.gcd_dvd_right ..) (YA f n i (by omega))
theorem zgB{a b:Int}{f:Z1x}:∀n,(∀i,i<n->a ∣ b*f i)->a ∣ b*(gl f n:Int)
 |0,_=>by
  show a ∣ b*((0:Nat):Int)
  simp
 |n+1,h=>by
  show a ∣ b*((Int.gcd (f n) (gl f n:Int):Nat):Int)
  have h1:=h n (kA n);have h2:=zgB n λi hi=>h i (mj hi)
  have h3:a ∣ ((Int.gcd (b*f n) (b*(gl f n:Int)):Nat):Int):=Int.dvd_coe_gcd h1 h2;rw[Int.gcd_mul_left] at h3;rw[<-Int.natAbs_dvd_natAbs] at h3 ⊢;rw[q9,kE];rw[kE] at h3;exact h3
def Prim(n:Nat)(r:Z1x):Prop:=(∀i,i<n->r i=0)\/gl r n=1
def Prim.le{n:Nat}{r z:Z1x}(h:Prim n r){a b:Int}(ha:a≠0)(hb:b≠0)(e:∀i,i<n->a*z i=b*r i):∀i,i<n->(r i).natAbs<=(z i).natAbs:=λi hi=>by
 rcases h with h|h
 ·rw[h i hi];exact kK _
 ·have h1:a ∣ b*(gl r n:Int):=zgB n λi hi=>⟨z i,(e i hi).symm⟩
  rw[h] at h1;have⟨t,ht⟩:=h1;have e1:z i=t*r i:=by
   have h2:=e i hi;have h3:b=a*t:=by rw[<-ht];simp
   rw[h3,Int.mul_assoc] at h2;exact Int.eq_of_mul_eq_mul_left ha h2
  have ht0:t≠0:=λz=>by
   rw[z,gU] at ht
   have:b*((1:Nat):Int)=b:=by simp
   omega
  rw[e1,q9]
  have:1<=t.natAbs:=by omega
  exact Nat.le_mul_of_pos_left _ (by omega)
def zf7{n i:Nat}{f:Z1x}{d:PdX}(h:(xK n f)[i]?=some d):d=.int (f i):=by
 unfold xK at h;rw[qp] at h;have⟨j,e1,e2⟩:=map_some h;obtain⟨_,e3⟩:=qf.mp e1;rw[List.getElem_range] at e3;rw[<-e2,<-e3]
def wO{n:Nat}{f:Z1x}(hn:n<=1000)(hf:∀i,i<n->intBits (f i)<=8000):∃(r:Z1x)(g:Nat),xq [.list (xK n f)]=some (xK n r)/\0<g/\(∀i,i<n->f i=(g:Int)*r i)/\Prim n r:=by
 obtain⟨ρ1,e1,o,rfl⟩:=w8 (ds:=xK n f) (it:=yI (gv 0)) (bd:=bN 2) (b:=zO 1 (zd yR (aC (gv 2) (aC (gv 1) a0))))
  (ρ0:=[.pu (.list (xK n f)),.pu (.int 0),.no]) (λi ρ=>∃o,ρ=[.pu (.list (xK n f)),.pu (.int (gl f i:Int)),o]) rfl ⟨.no,rfl⟩
  (λi d ρ hd ⟨o,e⟩=>by
   subst e;have e:=zf7 hd;subst e;exact⟨_,_,rfl,zD ((zc rfl).trans (jS _ _)),.pu (.int (f i)),rfl⟩)
 have hl:(xK n f).length=n:=by simp[xK]
 rw[hl] at e1;have et:zA (op2 ltI (gv 1) (cst (.int 2))) [.pu (.list (xK n f)),.pu (.int (gl f n:Int)),o]=some (decide ((gl f n:Int)<2)):=zw rfl;by_cases h:gl f n<2
 ·refine⟨f,1,wY rfl ((zq (zD rfl)).trans ((zq e1).trans ((zl8 (d:=xK n f) ?_)))),by decide,λi _=>by simp,?_⟩
  ·exact(jN (et.trans (qG some (qy (by omega))))).trans (jX ((xr rfl).trans rfl))
  ·by_cases z:gl f n=0
   ·left
    intro i hi
    have:=YA f n i hi;rw[z] at this;simpa using this
   ·right
    omega
 ·have hp:(0:Int)<gl f n:=by omega
  refine⟨λi=>(f i).fdiv (gl f n:Int),gl f n,wY rfl ((zq (zD rfl)).trans ((zq e1).trans ((zq ((y4 (et.trans (qG some (qF (by omega))))).trans rfl)).trans (jX ?_)))),by omega,λi hi=>?_,?_⟩
  ·refine yi (xs:=List.range n) (e:=λi=>.int (f i)) (d:=λi=>.int ((f i).fdiv (gl f n:Int))) (vq rfl) (by simpa using qB hn (by decide)) λi hi=>?_
   have hi:=qK.mp hi;exact yY.trans ((zb rfl rfl).trans (jg (by omega) (by
    rw[kE];have h1:∃j,j<n/\f j≠0:=by
     refine mX λq=>?_
     have h0:∀j,j<n->f j=0:=λj hj=>mX λz=>q ⟨j,hj,z⟩
     have:gl f n=0:=by
      have e:gl f n=gl (λi=>((0:Nat):Int)*f i) n:=Zn n λi hi=>by rw[h0 i hi];simp
      rw[e,zdp];simp
     omega
    have⟨j,hj,hz⟩:=h1;have h2:gl f n<=(f j).natAbs:=gA (by omega) (by
     have:=YA f n j hj;rw[<-Int.natAbs_dvd_natAbs] at this;simpa using this)
    have h3:(f j).natAbs<2 ^ 8000:=mG.mp (hf j hj);have h4:gl f n<2 ^ 8000:=qW h2 h3
    have h5:(gl f n).log2<8000:=(pD (by omega)).mpr h4;omega)))
  ·have⟨c,hc⟩:=YA f n i hi;have e:(f i).fdiv (gl f n:Int)=c:=by
    rw[hc,m9 _ (by omega)]
   show f i=(gl f n:Int)*(f i).fdiv (gl f n:Int)
   rw[e,<-hc]
  ·right
   have e:gl f n=gl (λi=>((gl f n:Nat):Int)*(f i).fdiv (gl f n:Int)) n:=Zn n λi hi=>by
    have⟨c,hc⟩:=YA f n i hi;have e:(f i).fdiv (gl f n:Int)=c:=by
     rw[hc,m9 _ (by omega)]
    rw[e,<-hc]
   rw[zdp] at e;exact Nat.eq_of_mul_eq_mul_left (show 0<gl f n by omega) (by rw[Nat.mul_one];exact e.symm)
section
variable{f g:OFx}{ρ ρ':Ro}{fs fs':Ob}{d:PdX}{ds:LPd}
def yz(h:f ρ fs=some (.nx ρ' fs')):osq f g ρ fs=g ρ' fs':=by unfold osq;rw[h]
def YQ(h:f ρ fs=some (.rt d fs')):osq f g ρ fs=some (.rt d fs'):=by unfold osq;rw[h]
def JF{i:Nat}{h:OLx}(e:h ρ fs=some ds):WK i h ρ fs=some (.nx (ρ.set i (.ow ds)) fs):=by unfold WK;rw[e];rfl
def zel{i:Nat}{h:OPx}(e:h ρ fs=some d):oset i h ρ fs=some (.nx (ρ.set i (.pu d)) fs):=by unfold oset;rw[e];rfl
def wI{h:OPx}(e:h ρ fs=some d):oret h ρ fs=some (.rt d fs):=by unfold oret;rw[e];rfl
def zaR{x:Str}{h:OPx}(e:h ρ fs=some d)(hl:fs.length<1000):ofl x h ρ fs=some (.nx ρ (zN x (.pu d) fs)):=by unfold ofl;rw[e,qr,qg hl]
def uL{x:Str}{h:OLx}(e:h ρ fs=some ds)(hl:fs.length<1000):ZV x h ρ fs=some (.nx ρ (zN x (.ow ds) fs)):=by unfold ZV;rw[e,qr,qg hl]
def zi7{x:Str}{C2:AdX}{h:Ro->Ob->Option Ob}{gs:Ob}(e:h ρ fs=some gs)(hl:fs.length<1000):zjp x C2 h ρ fs=some (.nx ρ (zN x (.ob C2 gs) fs)):=by unfold zjp;rw[e,qr,qg hl]
def zf9{c:Ro->Ob->Option Bool}(h:c ρ fs=some true):oif c f g ρ fs=f ρ fs:=by unfold oif;rw[h];rfl
def zgP{c:Ro->Ob->Option Bool}(h:c ρ fs=some false):oif c f g ρ fs=g ρ fs:=by unfold oif;rw[h];rfl
def zk3{c:Ro->Ob->Option (Bool×Ob)}(h:c ρ fs=some (true,fs')):zbf c f g ρ fs=f ρ fs':=by unfold zbf;rw[h];rfl
def zlp{c:Ro->Ob->Option (Bool×Ob)}(h:c ρ fs=some (false,fs')):zbf c f g ρ fs=g ρ fs':=by unfold zbf;rw[h];rfl
def zkc{h:Ro->Ob->Option (PyData×Ob)}(e:h ρ fs=some (d,fs')):oex h ρ fs=some (.nx ρ fs'):=by unfold oex;rw[e];rfl
def zbA{i:Nat}{h:Ro->Ob->Option (PyData×Ob)}(e:h ρ fs=some (d,fs')):osm i h ρ fs=some (.nx (ρ.set i (.pu d)) fs'):=by unfold osm;rw[e];rfl
def zdE{x:Str}{h:OPx}(e1:fld x fs=some (.ow ds))(e:h ρ fs=some d)(hl:ds.length<16777216):oap x h ρ fs=some (.nx ρ (zN x (.ow (ds++[d])) fs)):=by
 unfold oap;rw[e1];dsimp only;rw[e,qr,qg hl]
def zkX{i j:Nat}{x:Str}{h:OPx}(e1:fld x fs=some (.ow ds))(e:h ρ fs=some (.int (j:Int)))(hl:ds.length<=16777216)(hd:ds[j]?=some d):opo i x h ρ fs=some (.nx (ρ.set i (.pu d)) (zN x (.ow (ds.eraseIdx j)) fs)):=by
 obtain⟨hj,_⟩:=qf.mp hd;unfold opo;rw[e1,e];dsimp only;rw[qg ⟨by omega,by omega,hl⟩,kq,hd];rfl
def zkO{i k j:Nat}{h:OPx}(e1:ρ[k]?=some (.ow ds))(e:h ρ fs=some (.int (j:Int)))(hl:ds.length<=16777216)(hd:ds[j]?=some d):opl i k h ρ fs=some (.nx ((ρ.set k (.ow (ds.eraseIdx j))).set i (.pu d)) fs):=by
 obtain⟨hj,_⟩:=qf.mp hd;unfold opl;rw[e1,e];dsimp only;rw[qg ⟨by omega,by omega,hl⟩,kq,hd];rfl
def zkr{i:Nat}{x:Str}(e1:ρ[i]?=some (.ow ds))(hl:fs.length<1000):ofm x i ρ fs=some (.nx (ρ.set i .no) (zN x (.ow ds) fs)):=by
 unfold ofm;rw[e1];dsimp only;rw[qg hl]
def zhP{j:Nat}{x y:Str}{es:LPd}{h:OPx}(e1:fld y fs=some (.ow ds))(e:h ρ fs=some (.int (j:Int)))(hl:ds.length<=16777216)(hd:ds[j]?=some d)(e2:fld x (zN y (.ow (ds.eraseIdx j)) fs)=some (.ow es))(hl2:es.length<16777216):zg4 x y h ρ fs=some (.nx ρ (zN x (.ow (es++[d])) (zN y (.ow (ds.eraseIdx j)) fs))):=by
 obtain⟨hj,_⟩:=qf.mp hd;unfold zg4;rw[e1,e];dsimp only;rw[qg ⟨by omega,by omega,hl⟩,kq,hd,qr,e2];dsimp only;rw[qg hl2]
def zgg{T:Nat}{F:LNt}{fi:OLx}{b:PyData->Ro->Option Ro}{fe:RPx}{α:Type}{xs:List α}{e d:α->PyData}(h1:fi ρ fs=some (xs.map e))(hl:xs.length<=16777216)(h2:∀x∈xs,(b (e x) (compEnv T F ρ)).bind fe=some (d x)):ocomp T F fi b fe ρ fs=some (xs.map d):=by
 unfold ocomp;rw[h1,qr,qg (by rw[qe];exact hl),uD];exact Jr h2
def zfy{T:Nat}{F:LNt}{fi:OLx}{b:PyData->Ro->Option Ro}{fe:OPx}{α:Type}{xs:List α}{e d:α->PyData}(h1:fi ρ fs=some (xs.map e))(hl:xs.length<=16777216)(h2:∀x∈xs,(b (e x) (compEnv T F ρ)).bind (λρ'=>fe ρ' fs)=some (d x)):za8 T F fi b fe ρ fs=some (xs.map d):=by
 unfold za8;rw[h1,qr,qg (by rw[qe];exact hl),uD];exact Jr h2
def zdT{C2:AdX}{y m:Str}{h:MFx}{ga:OLx}{gs gs':Ob}(e1:fld y fs=some (.ob C2 gs))(e2:fld m gs=none)(e3:ga ρ fs=some ds)(e4:h gs ds=some (d,gs')):gmn C2 y m h ga ρ fs=some (d,zN y (.ob C2 gs') fs):=by
 unfold gmn;rw[e1];dsimp only;rw[qg ⟨rfl,by rw[e2];rfl⟩,e3,qr,e4];rfl
def Zw{m:Str}{h:MFx}{ga:OLx}(e2:fld m fs=none)(e3:ga ρ fs=some ds)(e4:h fs ds=some (d,fs')):gms m h ga ρ fs=some (d,fs'):=by
 unfold gms;rw[qg (by rw[e2];rfl),e3];exact e4
def xv{h:OPx}{ga:OLx}(e1:h ρ fs=some d)(e2:ga ρ fs=some ds):gAC h ga ρ fs=some (d::ds):=by unfold gAC;rw[e1,qr,e2];rfl
def JB{h:PyData->PyData->Option PyData}{a b:OPx}{x y:PdX}(e1:a ρ fs=some x)(e2:b ρ fs=some y):gop h a b ρ fs=h x y:=by unfold gop;rw[e1,qr,e2];rfl
def JL{h:LPx}{ga:OLx}(e:ga ρ fs=some ds):gcall h ga ρ fs=h ds:=by unfold gcall;rw[e];rfl
def ze2{x:Str}(e:fld x fs=some (.pu d)):gf x ρ fs=some d:=by unfold gf;rw[e]
def Ue{x:Str}(e:fld x fs=some (.ow ds)):gg x ρ fs=some (.list ds):=by unfold gg;rw[e]
def zlf{h:OPx}{c:Bool}(e:h ρ fs=some (.bool c)):gbo h ρ fs=some c:=by unfold gbo;rw[e]
def zbb{h:Ro->Ob->Option Bool}{c:Bool}(e:h ρ fs=some c):gtF h ρ fs=some (c,fs):=by unfold gtF;rw[e];rfl
def zdR{h:Ro->Ob->Option (PyData×Ob)}{c:Bool}(e:h ρ fs=some (.bool c,fs')):gvF h ρ fs=some (c,fs'):=by unfold gvF;rw[e]
def zkz{h:Ro->Ob->Option (Bool×Ob)}{c:Bool}(e:h ρ fs=some (c,fs')):gnF h ρ fs=some (!c,fs'):=by unfold gnF;rw[e];rfl
def zmf{a b:Ro->Ob->Option (Bool×Ob)}(e:a ρ fs=some (true,fs')):gaF a b ρ fs=b ρ fs':=by unfold gaF;rw[e];rfl
def zlM{a b:Ro->Ob->Option (Bool×Ob)}(e:a ρ fs=some (false,fs')):gaF a b ρ fs=some (false,fs'):=by unfold gaF;rw[e];rfl
def zlL{h:OPx}(e:h ρ fs=some (.list ds)):gsq h ρ fs=some ds:=by unfold gsq;rw[e]
def zjY{ga:OLx}{xs ys:LPd}(e:ga ρ fs=some [.list xs,.list ys]):gzp false false ga ρ fs=some (UC xs ys):=by unfold gzp;rw[e];rfl
def UP{n m:Nat}{b:OFx}(hm:ds.length=m)(h:b (.no::(ds.map Sl.pu++List.replicate (n - (m+1)) .no)) fs=some (.rt d fs')):fnM n m b fs ds=some (d,fs'):=by unfold fnM;rw[qg hm,h]
def zdc{n m:Nat}{b:OFx}(hm:ds.length=m)(h:b (.no::(ds.map Sl.pu++List.replicate (n - (m+1)) .no)) fs=some (.nx ρ' fs')):fnM n m b fs ds=some (.none,fs'):=by unfold fnM;rw[qg hm,h]
def zck{h:LLx}{es:LPd}(e:h ds=some es):lF h ds=some (.list es):=by unfold lF;rw[e];rfl
end
def spR(fr tk ch:LPd)(pv:PdX):Ob:=[(Str.ofString "free",.ow fr),(Str.ofString "taken",.ow tk),(Str.ofString "checks",.ow ch),(Str.ofString "pivot",.pu pv)]
def reR(ss:LPd)(CS:AdX)(sp:Ob)(ws rs wt:LPd)(a:PdX):Ob:=[(Str.ofString "steps",.ow ss),(Str.ofString "span",.ob CS sp),(Str.ofString "words",.ow ws),(Str.ofString "rows",.ow rs),(Str.ofString "waiting",.ow wt),(Str.ofString "asked",.pu a)]
section
variable{fr tk ch fr':LPd}{pv pv':PdX}
def zed:fld "free" (spR fr tk ch pv)=some (.ow fr):=rfl
def zgk:fld "taken" (spR fr tk ch pv)=some (.ow tk):=rfl
def VV:fld "checks" (spR fr tk ch pv)=some (.ow ch):=rfl
def zhD:fld "pivot" (spR fr tk ch pv)=some (.pu pv):=rfl
def ziT:fld "full" (spR fr tk ch pv)=none:=rfl
def zeX:fld "take" (spR fr tk ch pv)=none:=rfl
def zcH:zN "free" (.ow fr') (spR fr tk ch pv)=spR fr' tk ch pv:=rfl
def zfJ:zN "taken" (.ow fr') (spR fr tk ch pv)=spR fr fr' ch pv:=rfl
def Zu:zN "checks" (.ow fr') (spR fr tk ch pv)=spR fr tk fr' pv:=rfl
def zfH:zN "pivot" (.pu pv') (spR fr tk ch pv)=spR fr tk ch pv':=rfl
def zmj{c d:LPd}{e:PdX}:zN "pivot" (.pu e) (zN "checks" (.ow d) (zN "taken" (.ow c) (zN "free" (.ow fr) [])))=spR fr c d e:=rfl
end
section
variable{ss ws rs wt xs:LPd}{CS:AdX}{sp sp':Ob}{a a':PdX}
def zb5:fld "steps" (reR ss CS sp ws rs wt a)=some (.ow ss):=rfl
def zaO:fld "span" (reR ss CS sp ws rs wt a)=some (.ob CS sp):=rfl
def zb7:fld "words" (reR ss CS sp ws rs wt a)=some (.ow ws):=rfl
def zbI:fld "rows" (reR ss CS sp ws rs wt a)=some (.ow rs):=rfl
def Uo:fld "waiting" (reR ss CS sp ws rs wt a)=some (.ow wt):=rfl
def Yv:fld "asked" (reR ss CS sp ws rs wt a)=some (.pu a):=rfl
def zj1:fld "row_led_on" (reR ss CS sp ws rs wt a)=none:=rfl
def zh6:fld "keep" (reR ss CS sp ws rs wt a)=none:=rfl
def V6:fld "onward" (reR ss CS sp ws rs wt a)=none:=rfl
def Zi:zN "span" (.ob CS sp') (reR ss CS sp ws rs wt a)=reR ss CS sp' ws rs wt a:=rfl
def zfT:zN "words" (.ow xs) (reR ss CS sp ws rs wt a)=reR ss CS sp xs rs wt a:=rfl
def zgF:zN "rows" (.ow xs) (reR ss CS sp ws rs wt a)=reR ss CS sp ws xs wt a:=rfl
def zcY:zN "waiting" (.ow xs) (reR ss CS sp ws rs wt a)=reR ss CS sp ws rs xs a:=rfl
def zfl:zN "asked" (.pu a') (reR ss CS sp ws rs wt a)=reR ss CS sp ws rs wt a':=rfl
def zlZ:zN "asked" (.pu a) (zN "waiting" (.ow wt) (zN "rows" (.ow rs) (zN "words" (.ow ws) (zN "span" (.ob CS sp) (zN "steps" (.ow ss) [])))))=reR ss CS sp ws rs wt a:=rfl
end
abbrev yu(n:Nat)(r:Z1x):PyData:=.list (xK n r)
abbrev zG(i:Nat):PyData:=.int (i:Int)
def zhT(t:Bool)(n:Nat)(f:Q1x):qd t n f=sqD t (((List.range n).map f).map fr):=by
 cases t<;>(show _=sqD _ _;unfold sqD;rw[kP];rfl)
def zj7{t:Bool}{n M N:Nat}{f:Q1x}(hn:n<=42)(hM:0<M)(sM:Sz M)(sN:Sz N)(hf:∀i,i<n->InB M N (f i)):∃(r:Z1x)(c:Rat),xI [qd t n f]=some (xK n r)/\c≠0/\(∀i,i<n->(r i:Rat)=c*f i)/\Prim n r:=by
 have hd:∀q∈(List.range n).map f,q.den ∣ M:=λq hq=>by
  obtain⟨a,ha,rfl⟩:=qY.mp hq;exact(hf a (qK.mp ha)).den
 have hB0:0<x9 ((List.range n).map f):=YU _;have hB1:x9 ((List.range n).map f) ∣ M:=Yx _ hd
 have hB2:∀a,a<n->(f a).den ∣ x9 ((List.range n).map f):=λa ha=>Zg _ _ (qY.mpr ⟨a,qK.mpr ha,rfl⟩)
 have eb:xh [qd t n f]=some (.int (x9 ((List.range n).map f):Int)):=by
  rw[zhT];exact Jj hM sM hd
 have et:jd [qd t n f,.int (x9 ((List.range n).map f):Int)]=some (xK n λi=>vF (f i) (x9 ((List.range n).map f))):=VL (t:=t) (n:=n) (f:=f) (by omega) hB0 (Sz.mono (gA hM hB1) sM) λa ha=>⟨hB2 a ha,((hf a ha).bq sM sN).n⟩
 have bt:∀a,a<n->intBits (vF (f a) (x9 ((List.range n).map f)))<=8000:=λa ha=>qB (sN.bits (zby (hf a ha) hB1 (vz (hB2 a ha)))) (by decide)
 obtain⟨r,g,e,hg,hr,hp⟩:=wO (n:=n) (f:=λi=>vF (f i) (x9 ((List.range n).map f))) (by omega) bt;have hg':(g:Rat)≠0:=jh hg;have hB':((x9 ((List.range n).map f):Nat):Rat)≠0:=jh hB0
 refine⟨r,(x9 ((List.range n).map f):Nat) / (g:Rat),wY rfl (jX ((xr (zk (yj ((xr (zk rfl (zk ((zc rfl).trans eb) rfl))).trans et)) rfl)).trans e)),?_,λi hi=>?_,hp⟩
 ·intro z;have h1:(x9 ((List.range n).map f):Nat) / (g:Rat)*(g:Rat)=((x9 ((List.range n).map f):Nat):Rat):=g6 hg';rw[z,kg] at h1;exact hB' h1.symm
 ·have h1:((vF (f i) (x9 ((List.range n).map f)):Int):Rat)=(g:Rat)*(r i:Rat):=by
   rw[hr i hi,kd,kj]
  rw[vz (hB2 i hi)] at h1;grind
def zg1{n M N:Nat}{f:Q1x}(hn:n<=42)(hM:0<M)(sM:Sz M)(sN:Sz N)(hf:∀i,i<n->InB M N (f i)):∃(r:Z1x)(c:Rat),xI [yy n f]=some (xK n r)/\c≠0/\(∀i,i<n->(r i:Rat)=c*f i)/\Prim n r:=zj7 (t:=true) hn hM sM sN hf
def zie{n k:Nat}{f:Q1x}(hn:n<=42)(hk:k<=399)(hf:∀i,i<n->Sk k (f i)):∃(r:Z1x)(c:Rat),xI [yy n f]=some (xK n r)/\c≠0/\(∀i,i<n->(r i:Rat)=c*f i)/\Prim n r:=zg1 hn (xt k) (sz6 (by omega)) (Sz.zb0 (by omega)) hf
def zb8{n i:Nat}(hn:n<=1000)(hi:i<n):v3 [zG i,zG n]=some (xK n (xG i)):=by
 refine wY rfl ?_;refine(zq (yJ (zef (n:=n) (d:=.int 0) (J2 rfl (by decide)) rfl hn))).trans ((zq (W0 (a:=i) (ds:=(List.range n).map λ_=>.int 0) rfl rfl rfl (by simpa using hi))).trans (jX ?_));show some (((List.range n).map λ_=>PyData.int 0).set i (.int 1))=some (xK n (xG i))
 congr 1
 refine gL λj=>?_
 unfold xK;rw[gy,qp,qp,qe,qu];by_cases h:i=j
 ·subst h;rw[qg rfl,qg hi,ka hi];simp[xG]
 ·rw[qm h];by_cases hj:j<n
  ·rw[ka hj];simp[xG,gw h]
  ·rw[kH (by simpa using hj)];rfl
def zcG{n:Nat}{c g:Z1x}{p s d:Int}(hn:n<=1000)(hp:intBits p<=1000000)(hs:intBits s<=1000000)(hc:∀x,x<n->intBits (c x)<=1000000)(hg:∀x,x<n->intBits (g x)<=1000000)(hd:d≠0)(hd2:d.natAbs.log2<9000):uZ [yu n c,.int s,yu n g,.int p,.int d]=some (xK n (nar p d s g c)):=by
 refine wY rfl (jX ?_);refine yi (xs:=List.range n) (e:=λi=>.tuple [.int (c i),.int (g i)]) (d:=λi=>.int (nar p d s g c i)) ((zeu rfl).trans (qG some (JO _ _ n))) (by simpa using qB hn (by decide)) λi hi=>?_
 have hi:=qK.mp hi;exact Vg.trans ((zb ((zb ((zb rfl rfl).trans (xf (ju hp (hc i hi) (by omega)))) ((zb rfl rfl).trans (xf (ju hs (hg i hi) (by omega))))).trans rfl) rfl).trans (jg hd hd2))
theorem zbT:∀ns:List Int,PyData.canLayAll0 (ns.map .int)=true/\PyData.depthAll (ns.map .int)=0
 |[]=>⟨rfl,rfl⟩
 |n::ns=>by
  have⟨a,b⟩:=zbT ns;constructor
  ·show(true&&PyData.canLayAll0 (ns.map .int))=true
   rw[a];rfl
  ·show max 0 (PyData.depthAll (ns.map .int))=0
   rw[b];rfl
def shaped_ints(ns:List Int):SeqAt.shaped (.list (ns.map .int))=true/\SeqAt.shaped (.tuple (ns.map .int))=true:=by
 have⟨a,b⟩:=zbT ns;have c:PyData.canLay0 (.list (ns.map .int))=true:=a;have c':PyData.canLay0 (.tuple (ns.map .int))=true:=a
 constructor
 ·unfold SeqAt.shaped;rw[c,pW];refine qy ?_;show PyData.depthAll (ns.map .int)+1<=64
  rw[b];decide
 ·unfold SeqAt.shaped;rw[c',pW];refine qy ?_;show PyData.depthAll (ns.map .int)+1<=64
  rw[b];decide
theorem Jn:∀ns ms:List Int,PyData.eqvAll (ns.map PyData.int) (ms.map PyData.int)=decide (ns=ms)
 |[],[]=>rfl
 |[],_::_=>rfl
 |_::_,[]=>rfl
 |n::ns,m::ms=>by
  show(PyData.eqv (.int n) (.int m)&&PyData.eqvAll (ns.map .int) (ms.map .int))=_
  rw[Jn ns ms];by_cases h:n=m
  ·by_cases h2:ns=ms<;>simp[PyData.eqv,h,h2]
  ·simp[PyData.eqv,h]
def zcN(ns ms:List Int):eqD (.list (ns.map .int)) (.list (ms.map .int))=some (.bool (decide (ns=ms))):=by
 unfold eqD;rw[qg ⟨(shaped_ints ns).1,(shaped_ints ms).1⟩];show some (PyData.bool (PyData.eqvAll (ns.map .int) (ms.map .int)))=_
 rw[Jn]
def zfW(ns ms:List Int):eqD (.tuple (ns.map .int)) (.tuple (ms.map .int))=some (.bool (decide (ns=ms))):=by
 unfold eqD;rw[qg ⟨(shaped_ints ns).2,(shaped_ints ms).2⟩];show some (PyData.bool (PyData.eqvAll (ns.map .int) (ms.map .int)))=_
 rw[Jn]
def zgG(l:LNt):l.map zG=(l.map λi:Nat=>(i:Int)).map PyData.int:=by rw[kP];rfl
theorem vP(x:Str)(c:Fs):∀fs:Ob,(zN x c fs).length<=fs.length+1
 |[]=>qk _
 |(y,d)::fs=>by
  unfold zN;split
  ·exact nI _
  ·exact nj (vP x c fs)
def spO(n:Nat)(T F:LNt)(C:LZr)(d:Int):Ob:=spR (F.map zG) (T.map zG) (C.map (yu n)) (.int d)
def zg6{n:Nat}(hn:n<=1000):Vx [] [zG n]=some (.none,spO n [] (List.range n) ((List.range n).map xG) 1):=by
 refine zdc (ρ':=[.no,.pu (zG n)]) rfl ?_;show ze4 [.no,.pu (zG n)] []=_
 have e1:ziu (aC (gv 1) a0) [.no,.pu (zG n)]=some ((List.range n).map zG):=by
  show(if -(2 ^ 62)<=(n:Int)/\(n:Int)<=16777216 then some (jP 0 (n:Int).toNat) else none)=_
  rw[qg (by constructor<;>omega),kq];unfold jP;congr 1;exact gc λi _=>by rw[Int.zero_add]
 have e2:zZ 1 [1] (xl (aC (gv 1) a0)) (bN 0) (yB (xc v3 (aC (gv 0) (aC (gv 1) a0)))) [.no,.pu (zG n)]=some ((List.range n).map λi=>yu n (xG i)):=j9 (n:=n) (d:=λi=>yu n (xG i)) rfl (by omega) λi hi=>yY.trans (yj ((xr rfl).trans (zb8 hn hi)))
 have l1:=vP "free" (.ow ((List.range n).map zG)) [];have l2:=vP "taken" (.ow []) (zN "free" (.ow ((List.range n).map zG)) [])
 have l3:=vP "checks" (.ow ((List.range n).map λi=>yu n (xG i))) (zN "taken" (.ow []) (zN "free" (.ow ((List.range n).map zG)) []));rw[pJ] at l1;refine(yz (uL e1 (by show 0<1000;omega))).trans ?_;refine(yz (uL (ds:=[]) (J2 rfl (by decide)) (by omega))).trans ?_;refine(yz (uL (ds:=(List.range n).map λi=>yu n (xG i)) ?_ (by omega))).trans ?_
 ·exact e2
 refine(zaR (d:=.int 1) rfl (by omega)).trans ?_;rw[zmj];unfold spO;rw[kP];rfl
def zia{n:Nat}{T F:LNt}{C:LZr}{d:Int}:YH (spO n T F C d) []=some (.bool (decide (F=[])),spO n T F C d):=by
 refine UP rfl (wI ?_);refine(JB (Ue zed) rfl).trans ?_;rw[zgG];refine(zcN _ []).trans ?_;congr 2;exact k7.mpr (by simp)
def nz:Nat->List Int->List Int
 |_,[]=>[]
 |k,x::xs=>if x=0 then nz (k+1) xs else (k:Int)::nz (k+1) xs
theorem zhu:∀(k:Nat)(xs:List Int),nz k xs=[]->∀x∈xs,x=0
 |_,[],_,x,h=>by cases h
 |k,y::xs,e,x,h=>by
  unfold nz at e;split at e
  ·rename_i hy;rcases qw.mp h with z|z
   ·rw[z];exact hy
   ·exact zhu (k+1) xs e x z
  ·cases e
theorem zeY:∀(k:Nat)(xs:List Int),nz k xs≠[]->∃(i:Nat)(x:Int)(r:List Int),nz k xs=((k+i:Nat):Int)::r/\xs[i]?=some x/\x≠0
 |_,[],h=>absurd rfl h
 |k,y::xs,h=>by
  unfold nz at h ⊢;split
  ·rename_i hy;rw[qg hy] at h;obtain⟨i,x,r,e1,e2,e3⟩:=zeY (k+1) xs h;exact⟨i+1,x,r,by rw[e1,show k+(i+1)=k+1+i by omega],by simpa using e2,e3⟩
  ·rename_i hy;exact⟨0,y,nz (k+1) xs,rfl,rfl,hy⟩
def zif{α β:Type}{h:α->Option (Option β)}{d:α}{r:List α}{y:β}{ys:List β}(e1:h d=some (some y))(e2:wB h r=some ys):wB h (d::r)=some (y::ys):=by
 unfold wB;rw[e1,qr,e2];rfl
def ziE{α β:Type}{h:α->Option (Option β)}{d:α}{r:List α}{ys:List β}(e1:h d=some none)(e2:wB h r=some ys):wB h (d::r)=some ys:=by
 unfold wB;rw[e1,qr,e2];rfl
def zid{x:PdX}{r:LPd}:ixD (.list (x::r)) (.int 0)=some x:=by
 show(ixN (r.length+1) 0).bind _=_
 unfold ixN;rw[qg (by omega),qg (by omega)];rfl
def zcB{β:Type}{F:LNt}{ρ:Ro}{x y:PdX}{fe:Ro->Option β}:(b2 (bN 0) (bN 1) (.tuple [x,y]) (compEnv 2 F ρ)).bind fe=fe (.pu x::.pu y::F.map λj=>(ρ[j]?).getD .no):=rfl
theorem zez{F:LNt}{ρ:Ro}:∀(k:Nat)(xs:List Int),wB (λd=>(b2 (bN 0) (bN 1) d (compEnv 2 F ρ)).bind λρ1=>(zA (op2 neD (gv 1) (cst (PyData.int 0))) ρ1).bind λok=>if ok then (gv 0 ρ1).map some else some none) ((xs.map PyData.int).mapIdx λi d=>.tuple [.int ((k+i:Nat):Int),d])=some ((nz k xs).map PyData.int)
 |_,[]=>rfl
 |k,x::xs=>by
  have ih:=zez (F:=F) (ρ:=ρ) (k+1) xs;rw[gp,List.mapIdx_cons];rw[show(λ(i:Nat) (d:PdX)=>PyData.tuple [.int ((k+(i+1):Nat):Int),d])=λi d=>.tuple [.int ((k+1+i:Nat):Int),d] from funext λi=>funext λd=>by rw[show k+(i+1)=k+1+i by omega]];have e:zA (op2 neD (gv 1) (cst (PyData.int 0))) (.pu (.int ((k+0:Nat):Int))::.pu (.int x)::F.map λj=>(ρ[j]?).getD .no)=some (!decide (x=0)):=zw ((zb rfl rfl).trans (vR x 0))
  unfold nz;by_cases h:x=0
  ·rw[qg h];rw[qy h] at e;refine ziE ?_ ih;refine zcB.trans ?_;rw[e];rfl
  ·rw[qm h];rw[qF h] at e;refine zif ?_ ih;refine zcB.trans ?_;rw[e];rfl
theorem vy{α β:Type}(f:α->β):∀(l:List α)(i:Nat),(l.map f).eraseIdx i=(l.eraseIdx i).map f
 |[],_=>by simp
 |_::_,0=>rfl
 |x::l,i+1=>by
  show f x::(l.map f).eraseIdx i=f x::(l.eraseIdx i).map f
  rw[vy f l i]
theorem zip_map{α:Type}(f g:α->PyData):∀l:List α,UC (l.map f) (l.map g)=l.map λx=>.tuple [f x,g x]
 |[]=>rfl
 |x::l=>by
  show PyData.tuple [f x,g x]::UC (l.map f) (l.map g)=_
  rw[zip_map f g l];rfl
def zh2{n:Nat}{c r:Z1x}(hn:n<=1000)(hc:∀x,x<n->intBits (c x)<=400000)(hr:∀x,x<n->intBits (r x)<=400000):intBits (dt n c r)<=1000000:=by
 have h:=Jy (f:=λx=>c x*r x) (B:=2 ^ 800000) n λx hx=>by
  rw[q9,show 800000=400000+400000 from rfl,gx];exact km (mV (mG.mp (hc x hx))) (mV (mG.mp (hr x hx)))
 refine mG.mpr (qW h ?_);rw[show 1000000=10+(800000+199990) from rfl,gx,gx 2 800000];have h1:0<2 ^ 800000:=Nat.pow_pos (by decide);have h2:0<2 ^ 199990:=Nat.pow_pos (by decide)
 refine Nat.mul_lt_mul_of_lt_of_le (by omega) (hJ _ h2) (pC h1 h2)
def ziU{n:Nat}{T F:LNt}{C:LZr}{d:Int}{r:Z1x}(hn:n<=1000)(hF:C.length=F.length)(hl:F.length<=1000)(hT:T.length<=1000)(hC:∀c∈C,∀x,x<n->intBits (c x)<=400000)(hr:∀x,x<n->intBits (r x)<=400000)(hd:d≠0)(hd2:d.natAbs.log2<9000):((∀c∈C,dt n c r=0)/\Us (spO n T F C d) [yu n r]=some (.bool false,spO n T F C d))\/
  ∃i cg g,C[i]?=some cg/\F[i]?=some g/\dt n cg r≠0/\Us (spO n T F C d) [yu n r]=some (.bool true,spO n (T++[g]) (F.eraseIdx i) ((C.eraseIdx i).map λc=>nar (dt n cg r) d (dt n c r) cg c) (dt n cg r)):=by
 have hlen:C.length<=16777216:=by omega
 have e1:ocomp 1 [1] (gsq (gg "checks")) (bN 0) (zd yD (aC (gv 0) (aC (gv 1) a0))) [.no,.pu (yu n r),.no,.no,.no,.no,.no,.no] (spO n T F C d)=some (C.map λc=>PyData.int (dt n c r)):=zgg (xs:=C) (e:=yu n) (d:=λc=>PyData.int (dt n c r)) (zlL (Ue VV)) hlen λc hc=>yY.trans ((zc rfl).trans (zea hn λx hx=>⟨qB (hC c hc x hx) (by decide),qB (hr x hx) (by decide)⟩))
 have es:(C.map λc=>PyData.int (dt n c r))=(C.map λc=>dt n c r).map PyData.int:=by rw[kP];rfl
 have e2:∀o3,W8 2 [] (λρ x=>zeJ false (aC (gb 2) a0) ρ) (b2 (bN 0) (bN 1)) (zA (op2 neD (gv 1) (cst (PyData.int 0)))) (gv 0) [.no,.pu (yu n r),.ow (C.map λc=>PyData.int (dt n c r)),o3,.no,.no,.no,.no] (spO n T F C d)=some ((nz 0 (C.map λc=>dt n c r)).map PyData.int):=λo3=>by
  unfold W8;show((some (WT (C.map λc=>PyData.int (dt n c r)))).bind _)=_
  rw[qr,qg (by unfold WT;rw[List.length_mapIdx,qe];exact hlen),es];unfold WT
  have:=zez (F:=[]) (ρ:=[.no,.pu (yu n r),.ow ((C.map λc=>dt n c r).map PyData.int),o3,.no,.no,.no,.no]) 0 (C.map λc=>dt n c r);rw[show(λ(i:Nat) (d:PdX)=>PyData.tuple [.int ((0+i:Nat):Int),d])=λi d=>.tuple [.int (i:Int),d] from funext λi=>funext λd=>by rw[mi]] at this;exact this
 have e3:zA (op2 eqD (gb 3) (yB (vL a0))) [.no,.pu (yu n r),.ow (C.map λc=>PyData.int (dt n c r)),.ow ((nz 0 (C.map λc=>dt n c r)).map PyData.int),.no,.no,.no,.no]=some (decide (nz 0 (C.map λc=>dt n c r)=[])):=zw ((zb rfl rfl).trans (zcN _ []));by_cases hz:nz 0 (C.map λc=>dt n c r)=[]
 ·refine .inl ⟨λc hc=>zhu 0 _ hz _ (qY.mpr ⟨c,hc,rfl⟩),?_⟩;rw[qy hz] at e3;exact UP rfl ((yz (JF e1)).trans ((yz (JF (e2 .no))).trans (YQ ((zf9 e3).trans (wI rfl)))))
 ·right
  have⟨i,x,rr,q1,q2,q3⟩:=zeY 0 _ hz;rw[mi] at q1;rw[qp] at q2;have⟨cg,q4,q5⟩:=map_some q2;obtain⟨hi,_⟩:=qf.mp q4;obtain⟨g,q6⟩:∃g,F[i]?=some g:=⟨_,qo (by omega)⟩;rw[<-q5] at q3;refine⟨i,cg,g,q4,q6,q3,?_⟩;rw[qF hz] at e3;have hcg:cg∈C:=qH q4;have bd:∀c∈C,intBits (dt n c r)<=1000000:=λc hc=>zh2 hn (hC c hc) hr
  refine UP rfl ((yz (JF e1)).trans ((yz (JF (e2 .no))).trans ((yz ((zgP e3).trans rfl)).trans ?_)));refine(yz (zel (d:=zG i) ((zb (show gb 3 _=some (PyData.list ((nz 0 (C.map λc=>dt n c r)).map PyData.int)) from rfl) rfl).trans ?_))).trans ?_
  ·rw[q1];exact zid
  refine(yz (zkO (ds:=C.map λc=>PyData.int (dt n c r)) (j:=i) (d:=.int (dt n cg r)) rfl rfl (by rw[qe];exact hlen) (by rw[qp,q4];rfl))).trans ?_;refine(yz (zkX (ds:=C.map (yu n)) (j:=i) (d:=yu n cg) VV rfl (by rw[qe];exact hlen) (by rw[qp,q4];rfl))).trans ?_;rw[Zu,vy (yu n),vy (λc=>PyData.int (dt n c r))];have sub:∀c∈C.eraseIdx i,c∈C:=λc hc=>gB hc
  refine(yz (JF (ds:=(C.eraseIdx i).map λc=>yu n (nar (dt n cg r) d (dt n c r) cg c)) (zfy (xs:=C.eraseIdx i) (e:=λc=>.tuple [yu n c,.int (dt n c r)]) ((zjY (xv (Ue VV) (xv rfl rfl))).trans (qG some (zip_map _ _ _))) (by rw[mH];split<;>omega) λc hc=>?_))).trans ?_
  ·refine Vg.trans ((JL (ds:=[yu n c,.int (dt n c r),yu n cg,.int (dt n cg r),.int d]) (xv rfl (xv rfl (xv rfl (xv rfl (xv (ze2 zhD) rfl)))))).trans (zck (zcG hn (bd cg hcg) (bd c (sub c hc)) (λx hx=>qB (hC c (sub c hc) x hx) (by decide)) (λx hx=>qB (hC cg hcg x hx) (by decide)) hd hd2)))
  refine(yz (zkr rfl (by show 4<1000;omega))).trans ?_;rw[Zu];refine(yz (zaR (d:=.int (dt n cg r)) rfl (by show 4<1000;omega))).trans ?_;rw[zfH];refine(yz (zhP (ds:=F.map zG) (j:=i) (d:=zG g) (es:=T.map zG) zed rfl (by rw[qe];omega) (by rw[qp,q6];rfl) (by rw[zcH];exact zgk) (by rw[qe];omega))).trans ((wI rfl).trans ?_);rw[zcH,zfJ,vy];unfold spO;rw[qS,kP];rfl
def zcL(n:Nat)(st:Q3x)(g:Nat):PyData:=.list ((List.range n).map λb=>.list (xK n λa=>vF (st g a b) (x3 n (st g))))
abbrev WR:=List (List Nat×(Nat->Int))
def QL(s:Nat)(r0:Z1x)(L:WR):WR:=([],r0)::L.flatMap λq=>(List.range s).map λg=>(q.1++[g],q.2)
def Wv(n:Nat)(q:List Nat×(Nat->Int)):PyData:=.tuple [ya q.1,yu n q.2]
def RO(CS:AdX)(n s:Nat)(st:Q3x)(r0:Z1x)(L:WR)(T F:LNt)(C:LZr)(d:Int)(a:Nat):Ob:=reR ((List.range s).map (zcL n st)) CS (spO n T F C d) (L.map λq=>ya q.1) (L.map λq=>yu n q.2) ((QL s r0 L).map (Wv n)) (zG a)
abbrev RSL(n s:Nat)(st:Q3x)(fi:Q1x)(L:WR)(T F:LNt)(C:LZr)(d:Int)(a:Nat):Prop:=WD.DT.RS n s st fi (L.map (·.1)) (L.map (·.2)) T F C d a
structure Bd(n s:Nat)(st:Q3x)(fi:Q1x)(k B m:Nat):Prop where
 hn:n<=42
 hs:s<=42
 hs0:0<s
 hst:∀g a b,g<s->a<n->b<n->InB k (2 ^ 3192) (st g a b)
 hk0:0<k
 hk:k<=2 ^ 3192
 hB:B<=2 ^ 4000
 hP:∀j,j<=m->(n*B) ^ j<2 ^ 9000
 hw:∀u:List Nat,(∀g∈u,g<s)->u.length<=n - 1->∃(M:Rat)(z:Z1x),M≠0/\∀x,x<n->(z x:Rat)=zV n st fi u x*M/\(z x).natAbs<=B
 hm:∀L T F C d a,RSL n s st fi L T F C d a->L.length<=m
def Sk.inb{k:Nat}{q:Rat}(h:Sk k q)(hk:k<=399):InB (6 ^ k) (2 ^ 3192) q:=InB.mono h (kD (by decide) (by omega))
def zjS{k:Nat}(hk:k<=399):6 ^ k<=2 ^ 3192:=by
 refine qB (gC (show 6<=2 ^ 3 by decide) k) ?_;rw[<-Nat.pow_mul];exact kD (by decide) (by omega)
def zfk{k:Nat}(hk:k<=2 ^ 3192):Sz k:=Sz.mono hk (Sz.zb0 (by decide))
structure IV(n s:Nat)(st:Q3x)(fi:Q1x)(L:WR)(T F:LNt)(C:LZr)(d:Int)(a:Nat):Prop where
 rs:RSL n s st fi L T F C d a
 pr:∀q∈L,Prim n q.2
structure R0(n:Nat)(fi:Q1x)(r0:Z1x):Prop where
 ex:∃c:Rat,c≠0/\∀x,x<n->(r0 x:Rat)=c*fi x
 pr:Prim n r0
def zc3(s:Nat)(r0:Z1x)(L:WR):queue s (L.map (·.1))=(QL s r0 L).map (·.1):=by
 unfold queue QL;rw[gp,List.flatMap_map,List.map_flatMap];congr 2;funext q;rw[kP];rfl
def ziW(s:Nat)(r0:Z1x)(L:WR)(q:List Nat×(Nat->Int)):QL s r0 (L++[q])=QL s r0 L++(List.range s).map λg=>(q.1++[g],q.2):=by
 unfold QL;rw[nL];simp
def zew(c:Rat):(c.num:Rat)=c*(c.den:Rat):=by
 have e:=vz (q:=c) (B:=c.den) (pk _);rw[<-e];unfold vF;rw[Nat.div_self c.den_pos];simp
def Zm{n B:Nat}{r z:Z1x}{f:Q1x}{c M:Rat}(h:Prim n r)(hc:c≠0)(hr:∀x,x<n->(r x:Rat)=c*f x)(hM:M≠0)(hz:∀x,x<n->(z x:Rat)=f x*M/\(z x).natAbs<=B):∀x,x<n->(r x).natAbs<=B:=λx hx=>by
 refine qB (h.le (z:=z) (a:=c.num*(M.den:Int)) (b:=M.num*(c.den:Int)) ?_ ?_ (λi hi=>?_) x hx) (hz x hx).2
 ·have:=M.den_pos;exact gZ (λe=>hc (mI.mp e)) (by omega)
 ·have:=c.den_pos;exact gZ (λe=>hM (mI.mp e)) (by omega)
 ·have h1:=hr i hi;have h2:=(hz i hi).1
  have h3:=zew c;have h4:=zew M
  have h5:((c.num*(M.den:Int)*z i:Int):Rat)=((M.num*(c.den:Int)*r i:Int):Rat):=by
   rw[kd,kd,kd,kd,kj,kj,h1,h2,h3,h4];generalize (M.den:Rat)=y1;generalize (c.den:Rat)=y2;grind
  exact_mod_cast h5
section
variable{n s k B m:Nat}{st:Q3x}{fi:Q1x}{L:WR}{T F:LNt}{C:LZr}{d:Int}{a:Nat}{r0:Z1x}{CS:AdX}
def zi8{W:List (List Nat)}{Rw:LZr}(h:WD.DT.RS n s st fi W Rw T F C d a)(hs:0<s){u:LNt}(hu:(queue s W)[a]?=some u)(hF:F≠[]):u.length<n/\∀g∈u,g<s:=by
 have k:=h.rc.keep hu;refine⟨?_,k.signs hs W.length u (by rw[qz (qk _),kZ];rfl)⟩
 have:=k.short hs W.length u (by rw[qz (qk _),kZ];rfl);have f:=h.sp.few
 have:0<F.length:=List.length_pos_iff.mpr hF;have l1:=h.len;have l2:=h.lenT
 omega
def IV.wlen(h:IV n s st fi L T F C d a)(hs:0<s){q:List Nat×(Nat->Int)}(hq:q∈L):q.1.length<=n - 1/\∀g∈q.1,g<s:=by
 obtain⟨i,hi⟩:=qX hq;obtain⟨hl,_⟩:=qf.mp hi;have e:(L.map (·.1))[i]?=some q.1:=by rw[qp,hi];rfl
 have h1:=h.rs.rc.short hs i q.1 e;have f:=h.rs.sp.few
 have l1:=h.rs.len;have l2:=h.rs.lenT
 rw[qe,qe] at l1;rw[qe] at l2;exact⟨by omega,h.rs.rc.signs hs i q.1 e⟩
def IV.mult(h:IV n s st fi L T F C d a){q:List Nat×(Nat->Int)}(hq:q∈L):∃c:Rat,c≠0/\∀x,x<n->(q.2 x:Rat)=c*zV n st fi q.1 x:=by
 obtain⟨i,hi⟩:=qX hq;exact h.rs.mult i q.1 q.2 (by rw[qp,hi];rfl) (by rw[qp,hi];rfl)
def IV.abs(h:IV n s st fi L T F C d a)(b:Bd n s st fi k B m){q:List Nat×(Nat->Int)}(hq:q∈L):∀x,x<n->(q.2 x).natAbs<=B:=by
 have⟨h1,h2⟩:=h.wlen b.hs0 hq;have⟨M,z,hM,hz⟩:=b.hw q.1 h2 h1;have⟨c,hc,hr⟩:=h.mult hq;exact Zm (h.pr q hq) hc hr hM hz
def Bd.bits(b:Bd n s st fi k B m){x:Int}(h:x.natAbs<=B):intBits x<=4001:=j4 (qW (qB h b.hB) (kM (by decide) (by decide)))
def Bd.pivot(b:Bd n s st fi k B m)(h:IV n s st fi L T F C d a):d.natAbs.log2<9000:=by
 have hd:=h.rs.sp.d0;refine(pD (by omega)).mpr (qW (h.rs.sp.zaE (B:=B) ?_ ?_) (b.hP _ ?_))
 ·have:=h.rs.sp.few;omega
 ·intro r hr x hx;obtain⟨q,hq,rfl⟩:=qY.mp (gq.mp hr);exact h.abs b hq x hx
 ·rw[mR,qe];exact b.hm L T F C d a h.rs
def Bd.check(b:Bd n s st fi k B m)(h:IV n s st fi L T F C d a):∀c∈C,∀x,x<n->intBits (c x)<=400000:=λc hc x hx=>by
 obtain⟨i,hi⟩:=qX hc;have h1:=h.rs.sp.zai (B:=B) h.rs.sp.few (λr hr x hx=>by
  obtain⟨q,hq,rfl⟩:=qY.mp (gq.mp hr);exact h.abs b hq x hx) hi x hx
 have h2:(n*B) ^ (L.map (·.2)).reverse.length<2 ^ 9000:=b.hP _ (by rw[mR,qe];exact b.hm L T F C d a h.rs);refine j4 (qW h1 ?_);have h3:n*(n*B) ^ (L.map (·.2)).reverse.length<=2 ^ 6*2 ^ 9000:=km (qB b.hn (by decide)) (mV h2)
 rw[<-Nat.pow_add] at h3;exact qW h3 (kM (by decide) (by decide))
def zij(v:LNt)(g:Nat):ixD (ya (v++[g])) (.int (-1))=some (zG g):=by
 unfold ya;rw[qS];show atI (v.map (λg:Nat=>PyData.int (g:Int))++[zG g]) (-1)=_
 unfold atI ixN;rw[qm (by omega),qx,qe,kG,qg (by omega),qr,show(-1+((v.length+1:Nat):Int)).toNat=v.length by omega,qz (by simp),qe,kZ];rfl
def zcl(u:LNt):eqD (ya u) (.tuple [])=some (.bool (decide (u=[]))):=by
 have e:ya u=.tuple ((u.map λg:Nat=>(g:Int)).map PyData.int):=by unfold ya;rw[kP];rfl
 rw[e];refine(zfW _ []).trans ?_;congr 2;exact k7.mpr (by simp)
end
theorem zee{bd:PyData->Ro->Option Ro}{b:OFx}:∀{ds:LPd} {ρ0:Ro} {fs0:Ob} (P:Nat->Ro->Ob->Prop),P 0 ρ0 fs0->
  (∀i d ρ fs,ds[i]?=some d->P i ρ fs->∃ρ1 ρ2 fs2,bd d ρ=some ρ1/\b ρ1 fs=some (.nx ρ2 fs2)/\P (i+1) ρ2 fs2)->∃ρ' fs',zaF bd b ds ρ0 fs0=some (.nx ρ' fs')/\P ds.length ρ' fs'
 |[],ρ0,fs0,P,h0,_=>⟨ρ0,fs0,rfl,h0⟩
 |d::r,ρ0,fs0,P,h0,h=>by
  have⟨ρ1,ρ2,fs2,e1,e2,p⟩:=h 0 d ρ0 fs0 rfl h0;obtain⟨ρ',fs',e3,p'⟩:=zee (ds:=r) (ρ0:=ρ2) (fs0:=fs2) (λi=>P (i+1)) p λi d ρ fs e q=>h (i+1) d ρ fs (by simpa using e) q
  refine⟨ρ',fs',?_,p'⟩;unfold zaF;rw[e1,qr,e2];exact e3
section
variable{n s k B m:Nat}{st:Q3x}{fi:Q1x}{L:WR}{T F:LNt}{C:LZr}{d:Int}{a:Nat}{r0:Z1x}{CS:AdX}
def zgp{fs:Ob}{x:PdX}:Uq fs [ya [],x]=some (x,fs):=UP rfl (YQ ((zf9 (zw ((zb rfl rfl).trans (zcl [])))).trans (wI rfl)))
def zfs(b:Bd n s st fi k B m){v:LNt}{g:Nat}{p:Z1x}{c:Rat}(hg:g<s)(hb:∀x,x<n->(p x).natAbs<=B)(hc:c≠0)(hp:∀x,x<n->(p x:Rat)=c*zV n st fi v x):∃(r:Z1x)(c':Rat),Uq (RO CS n s st r0 L T F C d a) [ya (v++[g]),yu n p]=some (yu n r,RO CS n s st r0 L T F C d a)/\c'≠0/\(∀x,x<n->(r x:Rat)=c'*zV n st fi (v++[g]) x)/\Prim n r:=by
 have hn:=b.hn;obtain⟨_,w1,w2,w3⟩:=Vb (n:=n) (M:=k) (f:=st g) b.hn b.hk0 (zfk b.hk) (zfk (qk _)) (λa' b'=>b.hst g a' b' hg);have ht:∀a' b',a'<n->b'<n->(vF (st g a' b') (x3 n (st g))).natAbs<=2 ^ 3192:=λa' b' ha hb'=>zby (b.hst g a' b' hg ha hb') w2 (vz (w3 a' b' ha hb'))
 have h8:(2:Nat) ^ 3192<=2 ^ 3192:=qk _;have e1:=zgo (n:=n) (t:=p) (c:=λa' b'=>vF (st g a' b') (x3 n (st g))) (by omega) (λa' ha=>qB (b.bits (hb a' ha)) (by decide)) λa' b' ha hb'=>qB (j4 (m:=3193) (qW (qB (ht a' b' ha hb') h8) (kM (by decide) (by decide)))) (by decide)
 obtain⟨r,g',e2,hg',hr,hpr⟩:=wO (n:=n) (f:=λb'=>yv n λa'=>p a'*vF (st g a' b') (x3 n (st g))) (by omega) λb' hb'=>by
  have h1:=Jy (f:=λa'=>p a'*vF (st g a' b') (x3 n (st g))) (B:=2 ^ 4000*2 ^ 3192) n λa' ha=>by
   rw[q9];exact km (qB (hb a' ha) b.hB) (qB (ht a' b' ha hb') h8)
  refine j4 (qW (qB h1 (kW _ (show n<=2 ^ 6 by omega))) ?_);rw[<-Nat.pow_add,<-Nat.pow_add];exact kM (by decide) (by decide)
 have hL:((x3 n (st g):Nat):Rat)≠0:=jh w1;have hG:(g':Rat)≠0:=jh hg'
 refine⟨r,c*(x3 n (st g):Nat) / (g':Rat),?_,?_,λx hx=>?_,hpr⟩
 ·refine UP rfl ((yz ((zgP (zw ((zb rfl rfl).trans ((zcl _).trans ?_)))).trans rfl)).trans (wI ?_))
  ·rw[qF (by simp)]
  ·refine(JL (xv (d:=.list (xK n λb'=>yv n λa'=>p a'*vF (st g a' b') (x3 n (st g)))) ((JL (xv rfl (xv (d:=zcL n st g) ((JB (Ue zb5) (y:=zG g) ((zb rfl rfl).trans (zij v g))).trans (UU hg)) rfl))).trans (zck e1)) rfl)).trans (zck e2)
 ·intro z;have h1:c*(x3 n (st g):Nat) / (g':Rat)*(g':Rat)=c*((x3 n (st g):Nat):Rat):=g6 hG;rw[z,kg] at h1;rcases kn.mp h1.symm with z|z
  ·exact hc z
  ·exact hL z
 ·have h1:((yv n (λa'=>p a'*vF (st g a' x) (x3 n (st g))):Int):Rat)=led n (zV n st fi v) (st g) x*(c*(x3 n (st g):Nat)):=by
   rw[Va];unfold led;rw[<-zT];exact zi n λa' ha=>by
    rw[kd,hp a' ha,vz (w3 a' x ha hx)];grind
  rw[hr x hx,kd,kj] at h1;rw[ue];generalize led n (zV n st fi v) (st g) x=y at h1 ⊢;generalize ((r x:Int):Rat)=y2 at h1 ⊢;grind
def zgc(u:LNt)(g:Nat)(hu:u.length<=1000):Jl (ya u) (.tuple [zG g])=some (ya (u++[g])):=by
 unfold ya;show(if (u.map (λg:Nat=>PyData.int (g:Int))).length+[zG g].length<=16777216 then _ else _)=_
 rw[qg (by rw[qe,kG];omega),qS];rfl
def zjk{ss ws rs wt:LPd}{sp:Ob}{x:PdX}{u:LNt}{r:Z1x}(hs:ss.length=s)(hs2:s<=1000)(hu:u.length<=1000)(hw:ws.length<=1000)(hr:rs.length<=1000)(hwt:wt.length<=1000000):Wf (reR ss CS sp ws rs wt x) [ya u,yu n r]=some (.none,reR ss CS sp (ws++[ya u]) (rs++[yu n r]) (wt++(List.range s).map λg=>Wv n (u++[g],r)) x):=by
 obtain⟨ρ',fs',e,o,rfl,rfl⟩:=zee (bd:=bN 3) (b:=oap "waiting" λρ x=>yM (aC (op2 Jl (gv 1) (yM (aC (gv 3) a0))) (aC (gv 2) a0)) ρ) (ds:=jP 0 s) (ρ0:=[.no,.pu (ya u),.pu (yu n r),.no]) (fs0:=reR ss CS sp (ws++[ya u]) (rs++[yu n r]) wt x)
  (λi ρ fs=>∃o,ρ=[.no,.pu (ya u),.pu (yu n r),o]/\fs=reR ss CS sp (ws++[ya u]) (rs++[yu n r]) (wt++(List.range i).map λg=>Wv n (u++[g],r)) x) ⟨.no,rfl,by simp⟩
  (λi dd ρ fs hd ⟨o,e1,e2⟩=>by
   subst e1 e2;obtain⟨hi,rfl⟩:=zeN hd;refine⟨_,_,_,rfl,zdE (d:=Wv n (u++[i],r)) Uo ?_ ?_,.pu (zG i),rfl,?_⟩
   ·refine(xR (zk ((zb rfl (xR rfl (by show 1<=16777216;omega))).trans (zgc u i hu)) rfl) (by show 2<=16777216;omega))
   ·rw[qx,qe,qu];omega
   ·rw[zcY,gH,qS,kI];rfl)
 rw[show(jP 0 s).length=s by simp[jP]] at e;refine zdc (ρ':=[.no,.pu (ya u),.pu (yu n r),o]) rfl ((yz (zdE zb7 rfl (by omega))).trans ?_);rw[zfT];refine(yz (zdE zbI rfl (by omega))).trans ?_;rw[zgF];have e2:grn (gAC (gcall yb (gAC (gg "steps") gA0)) gA0) [.no,.pu (ya u),.pu (yu n r),.no] (reR ss CS sp (ws++[ya u]) (rs++[yu n r]) wt x)=some (jP 0 s):=by
  unfold grn;rw[xv (d:=.int (s:Int)) ((JL (xv (Ue zb5) rfl)).trans (by rw[<-hs];rfl)) rfl];show(if -(2 ^ 62)<=(s:Int)/\(s:Int)<2 ^ 62 then some (jP 0 (s:Int).toNat) else none)=_
  rw[qg (by constructor<;>omega),kq]
 unfold ofor;show(grn (gAC (gcall yb (gAC (gg "steps") gA0)) gA0) [.no,.pu (ya u),.pu (yu n r),.no] (reR ss CS sp (ws++[ya u]) (rs++[yu n r]) wt x)).bind _=_
 rw[e2,qr];exact e
def zhq{la:Q1x}{k0:Nat}(b:Bd n s st fi k B m)(hf:∀i,i<n->InB k0 (2 ^ 3192) (fi i))(hk0:0<k0)(hk:k0<=2 ^ 3192):∃r0,J4 CS [] [zm n s fi st la]=some (.none,RO CS n s st r0 [] [] (List.range n) ((List.range n).map xG) 1 0)/\R0 n fi r0:=by
 have hn:=b.hn;have hs:=b.hs
 obtain⟨r0,c,e0,hc,hr,hp⟩:=zg1 b.hn hk0 (zfk hk) (zfk (qk _)) hf;refine⟨r0,?_,⟨c,hc,hr⟩,hp⟩;refine zdc (ρ':=[.no,.pu (zm n s fi st la)]) rfl ?_;show zeE CS [.no,.pu (zm n s fi st la)] []=_
 have e1:zZ 1 [] (yI (op2 ixD (gv 1) (cst (PyData.int 1)))) (bN 0) (op2 ixD (zd vM (aC (gv 0) a0)) (cst (PyData.int 0))) [.no,.pu (zm n s fi st la)]=some ((List.range s).map (zcL n st)):=by
  refine yi (xs:=List.range s) (e:=λg=>xy n (st g)) (d:=zcL n st) (Je ((zb rfl rfl).trans j7)) (by rw[qu];omega) λg hg=>?_
  obtain⟨w0,_⟩:=Vb (n:=n) (M:=k) (f:=st g) b.hn b.hk0 (zfk b.hk) (zfk (qk _)) (λa' b'=>b.hst g a' b' (qK.mp hg));exact yY.trans ((zb ((zc rfl).trans w0) rfl).trans rfl)
 have e2:fnw Vx (aC (zd yb (aC (op2 ixD (gv 1) (cst (PyData.int 0))) a0)) a0) [.no,.pu (zm n s fi st la)]=some (spO n [] (List.range n) ((List.range n).map xG) 1):=by
  unfold fnw;rw[show aC (zd yb (aC (op2 ixD (gv 1) (cst (PyData.int 0))) a0)) a0 [.no,.pu (zm n s fi st la)]=some [zG n] from zk ((zc (zk ((zb rfl rfl).trans jT) rfl)).trans (xN n _)) rfl,qr,zg6 (by omega)]
 have l1:=vP "steps" (.ow ((List.range s).map (zcL n st))) [];rw[pJ] at l1;refine(yz (uL (ds:=(List.range s).map (zcL n st)) ?_ (by show 0<1000;omega))).trans ?_
 ·exact e1
 have l2:=vP "span" (.ob CS (spO n [] (List.range n) ((List.range n).map xG) 1)) (zN "steps" (.ow ((List.range s).map (zcL n st))) []);refine(yz (zi7 (gs:=spO n [] (List.range n) ((List.range n).map xG) 1) ?_ (by omega))).trans ?_
 ·exact e2
 generalize eF:zN "span" (.ob CS (spO n [] (List.range n) ((List.range n).map xG) 1)) (zN "steps" (.ow ((List.range s).map (zcL n st))) [])=fs1 at l2 ⊢;have l3:=vP "words" (.ow []) fs1;refine(yz (uL (ds:=[]) (J2 rfl (by decide)) (by omega))).trans ?_;have l4:=vP "rows" (.ow []) (zN "words" (.ow []) fs1)
 refine(yz (uL (ds:=[]) (J2 rfl (by decide)) (by omega))).trans ?_;have l5:=vP "waiting" (.ow [Wv n ([],r0)]) (zN "rows" (.ow []) (zN "words" (.ow []) fs1));refine(yz (uL (ds:=[Wv n ([],r0)]) (J2 (zk (xR (zk (xR rfl (by show 0<=16777216;omega)) (zk ((zc (zk ((zb rfl rfl).trans jT) rfl)).trans (zck e0)) rfl)) (by show 2<=16777216;omega)) rfl) (by show 1<=16777216;omega)) (by omega))).trans ?_;refine(zaR (d:=.int 0) rfl (by omega)).trans ?_;rw[<-eF,zlZ];rfl
end
abbrev ziK(CS:AdX):Ro->Ob->Option (Bool×Ob):=(gaF (gtF (gbo (gop (zd5 λi j=>decide (i<j)) (gf "asked") (gcall yb (gAC (gg "waiting") gA0))))) (gnF (gvF (gmn CS "span" "full" YH gA0))))
abbrev ziQ(CS:AdX):OFx:=(osq (oset 1 (gop ixD (gop ixD (gg "waiting") (gf "asked")) λρ x=>cst (PyData.int 0) ρ)) (osq (osm 2 (gms "row_led_on" Uq (gAC (λρ x=>gv 1 ρ) (gAC (gop ixD (gop ixD (gg "waiting") (gf "asked")) λρ x=>cst (PyData.int 1) ρ) gA0)))) (osq (ofl "asked" (gop xb (gf "asked") λρ x=>cst (PyData.int 1) ρ)) (zbf (gvF (gmn CS "span" "take" Us (gAC (λρ x=>gv 2 ρ) gA0))) (osq (oex (gms "keep" Wf (gAC (λρ x=>gv 1 ρ) (gAC (λρ x=>gv 2 ρ) gA0)))) (oret λρ x=>gv 2 ρ)) os0))))
abbrev zfw:Ro->Ob->Option (Bool×Ob):=(gtF λρ x=>zA (op2 UH (gv 5) (cst PyData.none)) ρ)
abbrev zfp(CS:AdX):OFx:=(osq (oif (λρ x=>zA (op2 neD (zd yD (aC (gv 5) (aC (gv 3) a0))) (cst (PyData.int 0))) ρ) (oret (gtp (gAC (gop ixD (gg "words") λρ x=>op1 zcb (cst (PyData.int 1)) ρ) (gAC (glF (gsl (gg "rows") o0 (oS (op1 zcb (cst (PyData.int 1)))))) gA0)))) os0) (osm 5 (gms "onward" (jb CS) gA0)))
section
variable{c:Ro->Ob->Option (Bool×Ob)}{b:OFx}{f:Nat}{ρ ρ2:Ro}{fs fs' fs2:Ob}{d:PdX}
def zaX{N:Nat}{mm:Ro->Ob->Nat}{r:Option Flo}(hN:mm ρ fs=N)(e:J6 c b N ρ fs=r):owh mm c b ρ fs=r:=by
 unfold owh;rw[hN];exact e
def YO(h:c ρ fs=some (false,fs')):J6 c b (f+1) ρ fs=some (.nx ρ fs'):=by unfold J6;rw[h];rfl
def zda(h:c ρ fs=some (true,fs'))(h2:b ρ fs'=some (.nx ρ2 fs2)):J6 c b (f+1) ρ fs=J6 c b f ρ2 fs2:=by
 rw[J6,h,qr,qg rfl,h2]
def zho(h:c ρ fs=some (true,fs'))(h2:b ρ fs'=some (.rt d fs2)):J6 c b (f+1) ρ fs=some (.rt d fs2):=by
 rw[J6,h,qr,qg rfl,h2]
end
section
variable{n s k B m:Nat}{st:Q3x}{fi:Q1x}{L:WR}{T F:LNt}{C:LZr}{d:Int}{a:Nat}{r0:Z1x}{CS:AdX}
def IV.skip(h:IV n s st fi L T F C d a){u:LNt}{r:Z1x}{c:Rat}(hu:(queue s (L.map (·.1)))[a]?=some u)(hc:c≠0)(e:∀x,x<n->(r x:Rat)=c*zV n st fi u x)(hz:∀k∈C,dt n k r=0):IV n s st fi L T F C d (a+1):=⟨h.rs.skip hu hc e hz,h.pr⟩
def IV.keep(h:IV n s st fi L T F C d a){u:LNt}{r cg:Z1x}{c:Rat}{i g:Nat}(hu:(queue s (L.map (·.1)))[a]?=some u)(hc:c≠0)(e:∀x,x<n->(r x:Rat)=c*zV n st fi u x)(hr:Prim n r)(hi:C[i]?=some cg)(hg:F[i]?=some g)(hp:dt n cg r≠0):IV n s st fi (L++[(u,r)]) (T++[g]) (F.eraseIdx i) ((C.eraseIdx i).map λc=>nar (dt n cg r) d (dt n c r) cg c) (dt n cg r) (a+1):=by
 refine⟨?_,λq hq=>?_⟩
 ·have:=h.rs.keep hu hc e hi hg hp;unfold RSL;rw[qS,qS];exact this
 ·rcases qt.mp hq with z|z
  ·exact h.pr q z
  ·rw[qO.mp z];exact hr
def zgq:(QL s r0 L).length=1+L.length*s:=by
 unfold QL;rw[qU,List.length_flatMap]
 have:(L.map λq=>((List.range s).map λg=>(q.1++[g],q.2)).length)=List.replicate L.length s:=by
  rw[List.eq_replicate_iff];exact⟨by simp,λx hx=>by
   have⟨q,_,e⟩:=qY.mp hx;rw[<-e];simp⟩
 rw[this,List.sum_replicate_nat];omega
def IV.lens(h:IV n s st fi L T F C d a):L.length=T.length/\T.length+F.length=n/\C.length=F.length:=by
 have l1:=h.rs.len;have l2:=h.rs.lenT
 rw[qe,qe] at l1;rw[qe] at l2;exact⟨l2.symm,h.rs.sp.few,h.rs.sp.lenC⟩
def VM{ρ:Ro}:ziK CS ρ (RO CS n s st r0 L T F C d a)=some (decide (a<(QL s r0 L).length)&&!decide (F=[]),RO CS n s st r0 L T F C d a):=by
 have e1:gtF (gbo (gop (zd5 λi j=>decide (i<j)) (gf "asked") (gcall yb (gAC (gg "waiting") gA0)))) ρ (RO CS n s st r0 L T F C d a)=some (decide (a<(QL s r0 L).length),RO CS n s st r0 L T F C d a):=by
  refine zbb (zlf ((JB (ze2 Yv) (y:=.int ((QL s r0 L).length:Int)) ((JL (xv (Ue Uo) rfl)).trans ?_)).trans ?_))
  ·show some (PyData.int (((QL s r0 L).map (Wv n)).length:Int))=_
   rw[qe]
  ·show some (PyData.bool (decide ((a:Int)<((QL s r0 L).length:Int))))=_
   congr 2
   exact k7.mpr (by omega)
 by_cases h:a<(QL s r0 L).length
 ·rw[qy h] at e1 ⊢;refine(zmf e1).trans ((zkz (zdR (zdT zaO ziT rfl zia))).trans ?_);rw[pW];show some (_,zN "span" (.ob CS (spO n T F C d)) (reR _ _ _ _ _ _ _))=_
  rw[Zi];rfl
 ·rw[qF h] at e1 ⊢;exact zlM e1
def zhJ(b:Bd n s st fi k B m)(z:R0 n fi r0):∀(j fuel a:Nat)(o1 o2:Sl),j<fuel->(QL s r0 L).length - a<=j->IV n s st fi L T F C d a->
  (∃a' o1' o2',J6 (ziK CS) (ziQ CS) fuel [.no,o1,o2] (RO CS n s st r0 L T F C d a)=some (.nx [.no,o1',o2'] (RO CS n s st r0 L T F C d a'))/\IV n s st fi L T F C d a'/\((queue s (L.map (·.1))).length<=a'\/F=[]))\/
  ∃(a':Nat)(u:LNt)(r:Z1x)(c:Rat)(i:Nat)(cg:Z1x)(g:Nat),IV n s st fi L T F C d a'/\(queue s (L.map (·.1)))[a']?=some u/\F≠[]/\c≠0/\(∀x,x<n->(r x:Rat)=c*zV n st fi u x)/\Prim n r/\
   IV n s st fi (L++[(u,r)]) (T++[g]) (F.eraseIdx i) ((C.eraseIdx i).map λc=>nar (dt n cg r) d (dt n c r) cg c) (dt n cg r) (a'+1)/\
   J6 (ziK CS) (ziQ CS) fuel [.no,o1,o2] (RO CS n s st r0 L T F C d a)=some (.rt (yu n r) (RO CS n s st r0 (L++[(u,r)]) (T++[g]) (F.eraseIdx i) ((C.eraseIdx i).map λc=>nar (dt n cg r) d (dt n c r) cg c) (dt n cg r) (a'+1))):=by
 have eql:(queue s (L.map (·.1))).length=(QL s r0 L).length:=by rw[zc3 s r0,qe]
 intro j;induction j with
 |zero=>
  intro fuel a o1 o2 hf hj h;obtain⟨f,rfl⟩:∃f,fuel=f+1:=⟨fuel - 1,by omega⟩;refine .inl ⟨a,o1,o2,YO (VM.trans ?_),h,.inl (by omega)⟩;rw[qF (by omega),pQ]
 |succ j ih=>
  intro fuel a o1 o2 hf hj h;obtain⟨f,rfl⟩:∃f,fuel=f+1:=⟨fuel - 1,by omega⟩;by_cases ha:a<(QL s r0 L).length
  ·by_cases hF:F=[]
   ·refine .inl ⟨a,o1,o2,YO (VM.trans ?_),h,.inr hF⟩;rw[qy hF,Bool.not_true,pR]
   ·have et:ziK CS [.no,o1,o2] (RO CS n s st r0 L T F C d a)=some (true,RO CS n s st r0 L T F C d a):=VM.trans (by rw[qy ha,qF hF];rfl);obtain⟨q,hq⟩:∃q,(QL s r0 L)[a]?=some q:=⟨_,qo ha⟩;have hu:(queue s (L.map (·.1)))[a]?=some q.1:=by rw[zc3 s r0,qp,hq];rfl
    have⟨l1,l2,l3⟩:=h.lens;have hn:=b.hn;have hs:=b.hs
    have⟨u1,u2⟩:=zi8 h.rs b.hs0 hu hF;have hrow:∃(r:Z1x)(c:Rat),Uq (RO CS n s st r0 L T F C d a) [ya q.1,yu n q.2]=some (yu n r,RO CS n s st r0 L T F C d a)/\c≠0/\(∀x,x<n->(r x:Rat)=c*zV n st fi q.1 x)/\Prim n r:=by
     have hm:q∈QL s r0 L:=qH hq;unfold QL at hm;rcases qw.mp hm with w|w
     ·subst w;have⟨c,hc,hr⟩:=z.ex;exact⟨r0,c,zgp,hc,hr,z.pr⟩
     ·have⟨q',hq',w⟩:=pw.mp w;have⟨g,hg,w⟩:=qY.mp w;subst w;have⟨c,hc,hr⟩:=h.mult hq';exact zfs (v:=q'.1) (p:=q'.2) b (qK.mp hg) (λx hx=>h.abs b hq' x hx) hc hr
    have⟨r,c,er,hc,hr,hp⟩:=hrow;have hM:=b.hw q.1 u2 (Nat.le_sub_one_of_lt u1);have habs:∀x,x<n->(r x).natAbs<=B:=by
     obtain⟨M,zz,hM,hz⟩:=hM;exact Zm hp hc hr hM hz
    have ew:∀ρ:Ro,gop ixD (gg "waiting") (gf "asked") ρ (RO CS n s st r0 L T F C d a)=some (Wv n q):=λρ=>(JB (Ue Uo) (ze2 Yv)).trans (UZ (by rw[qp,hq];rfl))
    have s1:ziQ CS [.no,o1,o2] (RO CS n s st r0 L T F C d a)=zbf (gvF (gmn CS "span" "take" Us (gAC (λρ x=>gv 2 ρ) gA0))) (osq (oex (gms "keep" Wf (gAC (λρ x=>gv 1 ρ) (gAC (λρ x=>gv 2 ρ) gA0)))) (oret λρ x=>gv 2 ρ)) os0 [.no,.pu (ya q.1),.pu (yu n r)] (RO CS n s st r0 L T F C d (a+1)):=by
     refine(yz (zel (d:=ya q.1) ((JB (ew _) rfl).trans rfl))).trans ?_;refine(yz (zbA (Zw zj1 (xv rfl (xv ((JB (ew _) rfl).trans rfl) rfl)) er))).trans ?_;refine(yz (zaR (d:=zG (a+1)) ((JB (ze2 Yv) rfl).trans rfl) (by show 6<1000;omega))).trans ?_;show zbf _ _ _ _ (zN "asked" (.pu (zG (a+1))) (reR _ _ _ _ _ _ _))=_
     rw[zfl];rfl
    rcases ziU (n:=n) (T:=T) (F:=F) (C:=C) (d:=d) (r:=r) (by omega) l3 (by omega) (by omega) (b.check h) (λx hx=>qB (b.bits (habs x hx)) (by decide)) h.rs.sp.d0 (b.pivot h) with⟨hz,e⟩|⟨i,cg,g,hi,hg,hnz,e⟩
    ·have s2:ziQ CS [.no,o1,o2] (RO CS n s st r0 L T F C d a)=some (.nx [.no,.pu (ya q.1),.pu (yu n r)] (RO CS n s st r0 L T F C d (a+1))):=by
      refine s1.trans ((zlp (zdR (zdT zaO zeX (xv rfl rfl) e))).trans ?_);show some (Flo.nx _ (zN "span" (.ob CS (spO n T F C d)) (reR _ _ _ _ _ _ _)))=_
      rw[Zi];rfl
     rw[zda et s2];exact ih f (a+1) _ _ (by omega) (by omega) (h.skip hu hc hr hz)
    ·right
     refine⟨a,q.1,r,c,i,cg,g,h,hu,hF,hc,hr,hp,h.keep hu hc hr hp hi hg hnz,zho et (s1.trans ((zk3 (zdR (zdT zaO zeX (xv rfl rfl) e))).trans ?_))⟩;show osq _ _ _ (zN "span" (.ob CS (spO n _ _ _ _)) (reR _ _ _ _ _ _ _))=_
     rw[Zi];have hql:(QL s r0 L).length<=1000000:=by
      rw[zgq]
      have:L.length*s<=42*42:=km (by omega) hs;omega
     refine(yz (zkc (Zw zh6 (xv rfl (xv rfl rfl)) (zjk (s:=s) (by simp) (by omega) (by omega) (by rw[qe];omega) (by rw[qe];omega) (by rw[qe];exact hql))))).trans ((wI rfl).trans ?_);unfold RO;rw[ziW,qS,qS,qS,kP];rfl
  ·refine .inl ⟨a,o1,o2,YO (VM.trans ?_),h,.inl (by omega)⟩;rw[qF ha,pQ]
def zad(b:Bd n s st fi k B m)(z:R0 n fi r0)(h:IV n s st fi L T F C d a):(∃a',jb CS (RO CS n s st r0 L T F C d a) []=some (.none,RO CS n s st r0 L T F C d a')/\IV n s st fi L T F C d a'/\((queue s (L.map (·.1))).length<=a'\/F=[]))\/
  ∃(a':Nat)(u:LNt)(r:Z1x)(c:Rat)(i:Nat)(cg:Z1x)(g:Nat),IV n s st fi L T F C d a'/\(queue s (L.map (·.1)))[a']?=some u/\F≠[]/\c≠0/\(∀x,x<n->(r x:Rat)=c*zV n st fi u x)/\Prim n r/\
   IV n s st fi (L++[(u,r)]) (T++[g]) (F.eraseIdx i) ((C.eraseIdx i).map λc=>nar (dt n cg r) d (dt n c r) cg c) (dt n cg r) (a'+1)/\
   jb CS (RO CS n s st r0 L T F C d a) []=some (yu n r,RO CS n s st r0 (L++[(u,r)]) (T++[g]) (F.eraseIdx i) ((C.eraseIdx i).map λc=>nar (dt n cg r) d (dt n c r) cg c) (dt n cg r) (a'+1)):=by
 have⟨l1,l2,l3⟩:=h.lens;have hn:=b.hn;have hql:(QL s r0 L).length<1000000:=by
  rw[zgq]
  have:L.length*s<=42*42:=km (by omega) b.hs;omega
 have key:=zhJ (CS:=CS) b z (QL s r0 L).length 1000000 a .no .no hql (Nat.sub_le _ _) h;generalize hN:(1000000:Nat)=N at key;rcases key with⟨a',o1,o2,e,h',hd⟩|⟨a',u,r,c,i,cg,g,h1,h2,h3,h4,h5,h6,h7,e⟩
 ·exact .inl ⟨a',UP rfl ((yz (zaX hN e)).trans (wI rfl)),h',hd⟩
 ·exact .inr ⟨a',u,r,c,i,cg,g,h1,h2,h3,h4,h5,h6,h7,UP rfl (YQ (zaX hN e))⟩
end
def difference_eq{n m s k:Nat}{fi gi:Q1x}{st su:Q3x}{la lb:Q1x}(B:Mach m s gi su lb k)(hk:k<=400)(hn:n<=42)(hm:m<=42)(hs:s<=42):vU [zm n s fi st la,zm m s gi su lb]=some (zm (n+m) s (jn n fi gi) (xT n st su) (jn n la λi=>lb i*(-1))):=by
 refine zM rfl ((zq (zkG ((zc rfl).trans VW))).trans (zF ((zc (zk rfl (zk (Ul ((zb rfl rfl).trans jT) ((zb rfl rfl).trans j7) ((zc (zk ((zb rfl rfl).trans ug) rfl)).trans (ZW (c:=-1) (by omega) (λi hi=>(B.la i hi).bq hk) ⟨by decide,by decide⟩))) rfl))).trans (zfu hn hm hs))))
def zgY{ga:OLx}{ρ:Ro}{fs:Ob}{ds:LPd}(e:ga ρ fs=some ds)(hl:ds.length<=16777216):gtp ga ρ fs=some (.tuple ds):=by unfold gtp;rw[e,qr,qg hl]
def zhK{h:OPx}{ρ:Ro}{fs:Ob}{d:PdX}(e:h ρ fs=some d):YI h ρ fs=some (.rf d):=by unfold YI;rw[e];rfl
def zlj{f:OPx}{l h:Ro->Option (Option Int)}{ρ:Ro}{fs:Ob}{ds:LPd}{lo hi:Option Int}(e:f ρ fs=some (.list ds))(e1:l ρ=some lo)(e2:h ρ=some hi):gsl f l h ρ fs=some (cut ds lo hi):=by unfold gsl;rw[e];dsimp only;rw[e1,qr,e2];rfl
def zkI{f:OLx}{ρ:Ro}{fs:Ob}{ds:LPd}(e:f ρ fs=some ds):glF f ρ fs=some (.list ds):=by unfold glF;rw[e];rfl
def zii(xs:LPd)(x:PdX):ixD (.list (xs++[x])) (.int (-1))=some x:=by
 show atI (xs++[x]) (-1)=_
 unfold atI ixN;rw[qm (by omega),qx,kG,qg (by omega),qr,show(-1+((xs.length+1:Nat):Int)).toNat=xs.length by omega,qz (qk _),kZ];rfl
def zgy(xs:LPd)(x:PdX):cut (xs++[x]) none (some (-1))=xs:=by
 unfold cut HT.sIx;dsimp only;rw[qg (by omega),qx,kG,show(-1+((xs.length+1:Nat):Int)).toNat=xs.length by omega,List.drop_zero,Nat.sub_zero,List.take_append_of_le_length (qk _),gT]
section
variable{n s k B m:Nat}{st:Q3x}{fi la:Q1x}{L:WR}{T F:LNt}{C:LZr}{d:Int}{a:Nat}{r0 rl:Z1x}{CS:AdX}
def zc6(n s:Nat)(st:Q3x)(fi la:Q1x)(L:WR):Prop:=∃T F C d a,IV n s st fi L T F C d a/\((queue s (L.map (·.1))).length<=a\/F=[])/\∀q∈L,wt n st fi la q.1=0
def zjc(n s:Nat)(st:Q3x)(fi la:Q1x)(L:WR)(u:LNt):Prop:=∃T F C d a,IV n s st fi L T F C d a/\(queue s (L.map (·.1)))[a]?=some u/\F≠[]/\(∀q∈L,wt n st fi la q.1=0)/\wt n st fi la u≠0
def zhB(b:Bd n s st fi k B m)(z:R0 n fi r0){cl:Rat}(hcl:cl≠0)(hl:∀x,x<n->(rl x:Rat)=cl*la x)(hlb:∀x,x<n->intBits (rl x)<=4000){d0 d1 d2:PdX}:∀(j fuel:Nat)(L:WR)(T F:LNt)(C:LZr)(d:Int)(a:Nat)(o:Sl),F.length<=j->j+1<fuel->IV n s st fi L T F C d a->(∀q∈L,wt n st fi la q.1=0)->
  ∃ρ1 fs1,osm 5 (gms "onward" (jb CS) gA0) [.pu d0,.pu d1,.pu d2,.pu (yu n rl),.no,o] (RO CS n s st r0 L T F C d a)=some (.nx ρ1 fs1)/\
   ((∃(L':WR)(T' F':LNt)(C':LZr)(d':Int)(a':Nat)(ρ2:Ro),J6 zfw (zfp CS) fuel ρ1 fs1=some (.nx ρ2 (RO CS n s st r0 L' T' F' C' d' a'))/\zc6 n s st fi la L')\/
    (∃(L':WR)(u:LNt)(fs2:Ob),J6 zfw (zfp CS) fuel ρ1 fs1=some (.rt (.tuple [ya u,.list (L'.map λq=>yu n q.2)]) fs2)/\zjc n s st fi la L' u)):=by
 intro j;induction j with
 |zero=>
  intro fuel L T F C d a o hF hf h h0;have hF':F=[]:=gD.mp (by omega);obtain⟨f,rfl⟩:∃f,fuel=f+1:=⟨fuel - 1,by omega⟩;rcases zad (CS:=CS) b z h with⟨a',e,h',hd⟩|⟨a',u,r,c,i,cg,g,h1,h2,h3,_⟩
  ·exact⟨_,_,zbA (Zw V6 rfl e),.inl ⟨L,T,F,C,d,a',_,YO (zbb (zw rfl)),T,F,C,d,a',h',hd,h0⟩⟩
  ·exact absurd hF' h3
 |succ j ih=>
  intro fuel L T F C d a o hF hf h h0;obtain⟨f,rfl⟩:∃f,fuel=f+1:=⟨fuel - 1,by omega⟩;rcases zad (CS:=CS) b z h with⟨a',e,h',hd⟩|⟨a',u,r,c,i,cg,g,h1,h2,h3,h4,h5,h6,h7,e⟩
  ·exact⟨_,_,zbA (Zw V6 rfl e),.inl ⟨L,T,F,C,d,a',_,YO (zbb (zw rfl)),T,F,C,d,a',h',hd,h0⟩⟩
  ·refine⟨_,_,zbA (Zw V6 rfl e),?_⟩;have hn:=b.hn;have et:zfw [.pu d0,.pu d1,.pu d2,.pu (yu n rl),.no,.pu (yu n r)] (RO CS n s st r0 (L++[(u,r)]) (T++[g]) (F.eraseIdx i) ((C.eraseIdx i).map λc=>nar (dt n cg r) d (dt n c r) cg c) (dt n cg r) (a'+1))=some (true,RO CS n s st r0 (L++[(u,r)]) (T++[g]) (F.eraseIdx i) ((C.eraseIdx i).map λc=>nar (dt n cg r) d (dt n c r) cg c) (dt n cg r) (a'+1)):=zbb (zw rfl)
   have hb:∀x,x<n->(r x).natAbs<=B:=λx hx=>h7.abs b (q:=(u,r)) (qt.mpr (.inr (qO.mpr rfl))) x hx
   have ew:=zea (n:=n) (f:=r) (g:=rl) (by omega) λx hx=>⟨qB (b.bits (hb x hx)) (by decide),qB (hlb x hx) (by decide)⟩
   have hv:((dt n r rl:Int):Rat)=wt n st fi la u*(c*cl):=by
    show((yv n (λx=>r x*rl x):Int):Rat)=_
    rw[Va];unfold wt;rw[<-zT];exact zi n λx hx=>by
     rw[kd,h5 x hx,hl x hx];grind
   have ebl:zA (op2 neD (zd yD (aC (gv 5) (aC (gv 3) a0))) (cst (PyData.int 0))) [.pu d0,.pu d1,.pu d2,.pu (yu n rl),.no,.pu (yu n r)]=some (!decide (dt n r rl=0)):=zw ((zb ((zc rfl).trans ew) rfl).trans (vR _ 0));by_cases hz:dt n r rl=0
   ·rw[qy hz] at ebl;have hw0:wt n st fi la u=0:=by
     rw[hz] at hv;rcases kn.mp (show wt n st fi la u*(c*cl)=0 from hv.symm) with q|q
     ·exact q
     ·rcases kn.mp q with q|q
      ·exact absurd q h4
      ·exact absurd q hcl
    obtain⟨hi,_⟩:i<F.length/\True:=by
     refine⟨?_,trivial⟩;refine mX λq=>?_
     have hl1:=h7.lens;have hl2:=h1.lens
     rw[mH,qm q,qx,kG] at hl1;omega
    have hF1:(F.eraseIdx i).length<=j:=by rw[mH,qg hi];omega
    obtain⟨ρ1,fs1,e1,e2⟩:=ih f (L++[(u,r)]) (T++[g]) (F.eraseIdx i) _ _ (a'+1) (.pu (yu n r)) hF1 (by omega) h7 (λq hq=>by
     rcases qt.mp hq with w|w
     ·exact h0 q w
     ·rw[qO.mp w];exact hw0)
    have eb:zfp CS [.pu d0,.pu d1,.pu d2,.pu (yu n rl),.no,.pu (yu n r)] (RO CS n s st r0 (L++[(u,r)]) (T++[g]) (F.eraseIdx i) ((C.eraseIdx i).map λc=>nar (dt n cg r) d (dt n c r) cg c) (dt n cg r) (a'+1))=some (.nx ρ1 fs1):=(yz ((zgP ebl).trans rfl)).trans e1;rcases e2 with⟨L',T',F',C',d',a2,ρ2,e3,w⟩|⟨L',u',fs2,e3,w⟩
    ·exact .inl ⟨L',T',F',C',d',a2,ρ2,(zda et eb).trans e3,w⟩
    ·exact .inr ⟨L',u',fs2,(zda et eb).trans e3,w⟩
   ·rw[qF hz] at ebl;refine .inr ⟨L,u,_,zho et (YQ ((zf9 ebl).trans (wI ?_))),T,F,C,d,a',h1,h2,h3,h0,λq=>?_⟩
    ·refine zgY (xv (d:=ya u) ((JB (Ue zb7) rfl).trans ?_) (xv (d:=.list (L.map λq=>yu n q.2)) ?_ rfl)) (by show 2<=16777216;omega)
     ·rw[qS];exact zii _ _
     ·refine(zkI (zlj (lo:=none) (hi:=some (-1)) (Ue zbI) rfl rfl)).trans ?_;rw[qS];exact qG some (qG PyData.list (zgy _ _))
    ·rw[q,kg] at hv;exact hz (by exact_mod_cast hv)
def zbU{x y:PdX}{k0 l0:Nat}(hd:vU [x,y]=some (zm n s fi st la))(b:Bd n s st fi k B m)(hf:∀i,i<n->Sk k0 (fi i))(hk0:k0<=399)(hla:∀i,i<n->Sk l0 (la i))(hl0:l0<=399):(∃L,yp CS [x,y]=some (.tuple [.none,.list (L.map λq=>yu n q.2)])/\zc6 n s st fi la L)\/
  ∃L u,yp CS [x,y]=some (.tuple [ya u,.list (L.map λq=>yu n q.2)])/\zjc n s st fi la L u:=by
 obtain⟨rl,cl,el,hcl,hl,hp⟩:=zie (n:=n) (f:=la) b.hn hl0 hla;obtain⟨r0,e0,z⟩:=zhq (CS:=CS) (la:=la) b (λi hi=>(hf i hi).inb hk0) (xt k0) (zjS hk0);have hlb:∀x,x<n->intBits (rl x)<=4000:=λx hx=>by
  have h6:0<6 ^ l0:=xt l0;refine j4 (qW (Zm (B:=2 ^ (8*l0)) (M:=((6 ^ l0:Nat):Rat)) (z:=λx=>vF (la x) (6 ^ l0)) hp hcl hl (jh h6) (λx hx=>⟨vz (hla x hx).den,zby (hla x hx) (pk _) (vz (hla x hx).den)⟩) x hx) (kM (by decide) (by omega)))
 have h0:IV n s st fi [] [] (List.range n) ((List.range n).map xG) 1 0:=⟨zkK,λq hq=>by cases hq⟩;have hn:=b.hn
 obtain⟨ρ1,fs1,e1,e2⟩:=zhB (CS:=CS) b z hcl hl hlb (d0:=x) (d1:=y) (d2:=zm n s fi st la) n 1000 [] [] (List.range n) ((List.range n).map xG) 1 0 .no (by rw[qu];omega) (by omega) h0 (λq hq=>by cases hq);have en:fnw (J4 CS) (aC (gv 2) a0) [.pu x,.pu y,.pu (zm n s fi st la),.pu (yu n rl),.no,.no]=some (RO CS n s st r0 [] [] (List.range n) ((List.range n).map xG) 1 0):=by
  unfold fnw;show(some [zm n s fi st la]).bind _=_
  rw[qr,e0]
 generalize hN:(1000:Nat)=N at e2;have start:∀res,zf2 4 (fnw (J4 CS) (aC (gv 2) a0)) (osq (osm 5 (gms "onward" (jb CS) gA0)) (osq (owh (λx x_1=>1000) zfw (zfp CS)) (YI (gtp (gAC (λρ x=>cst PyData.none ρ) (gAC (gg "rows") gA0)))))) [.pu x,.pu y,.pu (zm n s fi st la),.pu (yu n rl),.no,.no]=some (.rt res)->yp CS [x,y]=some res:=λres e=>
  zM rfl ((zq (zD ((zc rfl).trans hd))).trans ((zq (zD ((zc (zk ((zb rfl rfl).trans ug) rfl)).trans (zck el)))).trans e))
 rcases e2 with⟨L',T',F',C',d',a',ρ2,e3,w⟩|⟨L',u,fs2,e3,w⟩
 ·refine .inl ⟨L',start _ ?_,w⟩;unfold zf2;rw[en,qr,qg (by show 4<6;omega)];have e4:osq (osm 5 (gms "onward" (jb CS) gA0)) (osq (owh (λx x_1=>1000) zfw (zfp CS)) (YI (gtp (gAC (λρ x=>cst PyData.none ρ) (gAC (gg "rows") gA0))))) [.pu x,.pu y,.pu (zm n s fi st la),.pu (yu n rl),.no,.no] (RO CS n s st r0 [] [] (List.range n) ((List.range n).map xG) 1 0)=some (.rf (.tuple [.none,.list (L'.map λq=>yu n q.2)])):=by
   exact(yz e1).trans ((yz (zaX hN e3)).trans (zhK (zgY (xv rfl (xv (Ue zbI) rfl)) (by show 2<=16777216;omega))))
  show(match osq _ _ [.pu x,.pu y,.pu (zm n s fi st la),.pu (yu n rl),.no,.no] _ with |some (.rt d _)=>some (Fl.rt d)|some (.rf d)=>some (.rt d)|_=>none)=_
  rw[e4]
 ·refine .inr ⟨L',u,start _ ?_,w⟩;unfold zf2;rw[en,qr,qg (by show 4<6;omega)];have e4:osq (osm 5 (gms "onward" (jb CS) gA0)) (osq (owh (λx x_1=>1000) zfw (zfp CS)) (YI (gtp (gAC (λρ x=>cst PyData.none ρ) (gAC (gg "rows") gA0))))) [.pu x,.pu y,.pu (zm n s fi st la),.pu (yu n rl),.no,.no] (RO CS n s st r0 [] [] (List.range n) ((List.range n).map xG) 1 0)=some (.rt (.tuple [ya u,.list (L'.map λq=>yu n q.2)]) fs2):=(yz e1).trans (YQ (zaX hN e3));show(match osq _ _ [.pu x,.pu y,.pu (zm n s fi st la),.pu (yu n rl),.no,.no] _ with |some (.rt d _)=>some (Fl.rt d)|some (.rf d)=>some (.rt d)|_=>none)=_
  rw[e4]
def zjc.first{u:LNt}(h:zjc n s st fi la L u)(hs:0<s):wt n st fi la u≠0/\u.length<n/\(∀g∈u,g<s)/\∀w,(∀g∈w,g<s)->cd s w<cd s u->wt n st fi la w=0:=by
 have⟨T,F,C,d,a,h1,h2,h3,h4,h5⟩:=h;obtain⟨w1,w2,w3⟩:=h1.rs.first (la:=la) hs h2 h3 λv hv=>by
  obtain⟨q,hq,rfl⟩:=qY.mp hv;exact h4 q hq
 exact⟨h5,w2,w3,w1⟩
end
def srt(T:LNt):List Nat:=(isort (T.map λ(x:Nat)=>(x:Int))).map Int.toNat
abbrev pl(Ts:LNt):Nat->Nat:=λi=>Ts.getD i 0
def za3{M N:Nat}{q:Rat}(h:InB M N q):((vF q M:Int):Rat)=q*((M:Nat):Rat)/\(vF q M).natAbs<=N:=⟨vz h.den,zby h (pk _) (vz h.den)⟩
end L2.Fu
namespace L2.Fu
open PySem WS WD WD.DT
def YZ{a b x y z:Nat}(h1:a<=2 ^ x)(h2:b<=2 ^ y)(h:x+y<=z):a*b<=2 ^ z:=qB (km h1 h2) (by rw[<-Nat.pow_add];exact kD (by decide) h)
def zb0{a x j z:Nat}(h1:a<=2 ^ x)(h:x*j<=z):a ^ j<=2 ^ z:=qB (gC h1 j) (by rw[<-Nat.pow_mul];exact kD (by decide) h)
def ziF(k:Nat):6 ^ k<=2 ^ (3*k):=by rw[pz];exact gC (by decide) k
def lt9{x z:Nat}(h:x<=2 ^ z)(hz:z<9000):x<2 ^ 9000:=qW h (kM (by decide) hz)
end L2.Fu
namespace L2.Fu
open PySem PySem.Spec PyProof.Rows
def Yz:RFx:=(sq (ifS (zA (op2 ltI (op2 ixD (gv 0) (cst (.int 0))) (cst (.int 0)))) (retS (yM (aC (op2 Wk (cst (.int 0)) (op2 ixD (gv 0) (cst (.int 1)))) (aC (op2 Wk (cst (.int 0)) (op2 ixD (gv 0) (cst (.int 0)))) a0)))) s0)
 (retS (yM (aC (op2 ixD (gv 0) (cst (.int 1))) (aC (op2 ixD (gv 0) (cst (.int 0))) a0)))))
def v5:LPx:=fnF 1 1 Yz
def Zt:RFx:=(sq (x8 1 (zZ 1 [] (yI (gv 0)) (bN 0) (yB (xc vD (aC (gv 0) a0)))))
 (sq (zO 2 (cst (.int 0)))
 (sq (jv (xl (aC (ifE (zA (op2 gtI (zd yb (aC (gb 1) a0)) (cst (.int 0)))) (zd yb (aC (op2 ixD (gb 1) (cst (.int 0))) a0)) (cst (.int 0))) a0)) (bN 3) (sq (x8 4 (uR 1 [1,3] (ui (aC (gv 2) (aC (zd yb (aC (gb 1) a0)) a0))) (bN 0) (zA (op2 neD (op2 ixD (op2 ixD (op2 ixD (gb 1) (gv 0)) (gv 2)) (cst (.int 0))) (cst (.int 0)))) (gv 0)))
 (ifS (zA (op2 gtI (zd yb (aC (gb 4) a0)) (cst (.int 0)))) (sq (zd3 5 1 (op2 ixD (gb 4) (cst (.int 0))))
 (sq (inS 1 (gv 2) (gv 5))
 (sq (jv (ui (aC (op2 xb (gv 2) (cst (.int 1))) (aC (zd yb (aC (gb 1) a0)) a0))) (bN 6) (ifS (zA (op2 neD (op2 ixD (op2 ixD (op2 ixD (gb 1) (gv 6)) (gv 3)) (cst (.int 0))) (cst (.int 0)))) (sq (zO 7 (zd yC (aC (op2 ixD (op2 ixD (gb 1) (gv 6)) (gv 3)) (aC (zd v5 (aC (op2 ixD (gv 5) (gv 3)) a0)) a0))))
 (sq (zO 8 (yM (aC (op2 Wk (cst (.int 0)) (op2 ixD (gv 7) (cst (.int 0)))) (aC (op2 ixD (gv 7) (cst (.int 1))) a0))))
 (siS 1 (gv 6) (yB (zZ 1 [1,5,6,8] (xl (aC (zd yb (aC (gv 5) a0)) a0)) (bN 0) (zd xu (aC (op2 ixD (op2 ixD (gb 1) (gv 3)) (gv 0)) (aC (zd yC (aC (gv 4) (aC (op2 ixD (gv 2) (gv 0)) a0))) a0)))))))) s0))
 (zO 2 (op2 xb (gv 2) (cst (.int 1))))))) s0)))
 (retS (gv 2)))))
def u4:LPx:=fnF 9 1 Zt
def Ug:RFx:=(sq (ifS (zA (op2 eqD (zd yb (aC (gv 0) a0)) (cst (.int 0)))) (retS (op2 eqD (zd yb (aC (yB (uR 1 [] (yI (gv 1)) (bN 0) (zA (op2 neD (op2 ixD (gv 0) (cst (.int 0))) (cst (.int 0)))) (gv 0))) a0)) (cst (.int 0)))) s0)
 (retS (op2 eqD (zd u4 (aC (yB (zkJ zgS (gv 0) (yB (vL (aC (gv 1) a0))))) a0)) (zd u4 (aC (gv 0) a0)))))
def yW:LPx:=fnF 2 2 Ug
def Zk:RFx:=(sq (zO 2 (zd zX (aC (yB (zZ 1 [] (yI (op2 ixD (gv 1) (cst (.int 2)))) (bN 0) (yM (aC (op2 Wk (cst (.int 0)) (op2 ixD (gv 0) (cst (.int 0)))) (aC (op2 ixD (gv 0) (cst (.int 1))) a0))))) a0)))
 (retS (zd xS (aC (gv 0) (aC (yM (aC (op2 ixD (gv 1) (cst (.int 0))) (aC (op2 ixD (gv 1) (cst (.int 1))) (aC (gv 2) a0)))) a0)))))
def uT:LPx:=fnF 3 2 Zk
def Wu:RFx:=(sq (zO 3 (zd uT (aC (gv 0) (aC (gv 1) a0))))
 (sq (x8 4 (zZ 1 [] (yI (gv 2)) (bN 0) (yB (xc vD (aC (gv 0) a0)))))
 (sq (ifS (vQ (zA (Vu yW (aC (gb 4) (aC (yB (xc vD (aC (op2 ixD (gv 3) (cst (.int 0))) a0))) a0))))) (retS (cst (.bool false))) s0)
 (sq (frS 4 (jv (yI (gv 4)) (bN 5) (sq (ifS (zA (op2 neD (op2 ixD (zd jq (aC (gv 5) (aC (op2 ixD (gv 3) (cst (.int 2))) a0))) (cst (.int 0))) (cst (.int 0)))) (retS (cst (.bool false))) s0)
 (jv (yI (op2 ixD (gv 3) (cst (.int 1)))) (bN 6) (ifS (vQ (zA (zd yW (aC (gv 4) (aC (yB (xc xY (aC (gv 5) (aC (gv 6) a0)))) a0))))) (retS (cst (.bool false))) s0)))))
 (retS (cst (.bool true)))))))
def jH:LPx:=fnF 7 3 Wu
end L2.Fu
namespace L2.Fu
open PySem WS WD WD.DT
open PySem.Builtin.Int (intBits)
def zmb{a b:Nat}{q r:Rat}(hq:Bq a q)(hr:Bq b r):Bq (a+b) (q*r):=by
 have e:q*r=Rat.divInt (q.num*r.num) ((q.den:Int)*(r.den:Int)):=(U1 q r).symm;have hd:=zdh q r
 rw[e];exact⟨kY (zgw _ _) (ng hq.n hr.n),kY (zli hd) (ng hq.d hr.d)⟩
def zdf{a b:Nat}{q r:Rat}(hq:Bq a q)(hr:Bq b r)(h:a+b<=8999):xu [fr q,fr r]=some (fr (q+r)):=by
 refine zM rfl (zF ?_);have e1:op2 yA (op2 ixD (gv 0) (cst (.int 0))) (op2 ixD (gv 1) (cst (.int 1))) [.pu (fr q),.pu (fr r)]=some (.int (q.num*(r.den:Int))):=(zb (ix0 q) (ix1 r)).trans (xf (ju hq.n hr.d (by omega)));have e2:op2 yA (op2 ixD (gv 1) (cst (.int 0))) (op2 ixD (gv 0) (cst (.int 1))) [.pu (fr q),.pu (fr r)]=some (.int (r.num*(q.den:Int))):=(zb (ix0 r) (ix1 q)).trans (xf (ju hr.n hq.d (by omega)))
 have e3:op2 yA (op2 ixD (gv 0) (cst (.int 1))) (op2 ixD (gv 1) (cst (.int 1))) [.pu (fr q),.pu (fr r)]=some (.int ((q.den:Int)*(r.den:Int))):=(zb (ix1 q) (ix1 r)).trans (xf (ju hq.d hr.d (by omega)));refine(zc (zk ((zb e1 e2).trans rfl) (zk e3 rfl))).trans ?_;rw[j8 (vC q r) (qB (ng hq.d hr.d) h),zcO]
def WG{a b:Nat}{q r:Rat}(hq:Bq a q)(hr:Bq b r)(h:a+b<=8999):yC [fr q,fr r]=some (fr (q*r)):=by
 refine zM rfl (zF ?_);have e1:op2 yA (op2 ixD (gv 0) (cst (.int 0))) (op2 ixD (gv 1) (cst (.int 0))) [.pu (fr q),.pu (fr r)]=some (.int (q.num*r.num)):=(zb (ix0 q) (ix0 r)).trans (xf (ju hq.n hr.n (by omega)));have e3:op2 yA (op2 ixD (gv 0) (cst (.int 1))) (op2 ixD (gv 1) (cst (.int 1))) [.pu (fr q),.pu (fr r)]=some (.int ((q.den:Int)*(r.den:Int))):=(zb (ix1 q) (ix1 r)).trans (xf (ju hq.d hr.d (by omega)))
 refine(zc (zk e1 (zk e3 rfl))).trans ?_;rw[j8 (vC q r) (qB (ng hq.d hr.d) h),U1]
def zaJ{q:Rat}(h:q≠0):(q⁻¹).num=(if q.num<0 then -(q.den:Int) else (q.den:Int))/\(q⁻¹).den=q.num.natAbs:=by
 have h0:q.num≠0:=λe=>h (mI.mp e)
 show(Rat.inv q).num=_/\(Rat.inv q).den=_
 unfold Rat.inv;by_cases z:q.num<0
 ·rw[dif_pos z,qg z];exact⟨rfl,rfl⟩
 ·rw[dif_neg z,dif_pos (by omega),qm z];exact⟨rfl,rfl⟩
def zkY{q:Rat}(h:q≠0):v5 [fr q]=some (fr q⁻¹):=by
 have⟨e1,e2⟩:=zaJ h;have h0:q.num≠0:=λe=>h (mI.mp e)
 have e3:fr q⁻¹=.tuple [.int (if q.num<0 then -(q.den:Int) else (q.den:Int)),.int (q.num.natAbs:Int)]:=by unfold fr;rw[e1,e2]
 rw[e3];have et:zA (op2 ltI (op2 ixD (gv 0) (cst (.int 0))) (cst (.int 0))) [.pu (fr q)]=some (decide (q.num<0)):=zw ((zb (ix0 q) rfl).trans rfl);refine zM rfl ?_;by_cases z:q.num<0
 ·refine J8 ((jN (et.trans (by rw[qy z]))).trans (zF ?_));refine(xR (zk ((zb rfl (ix1 q)).trans rfl) (zk ((zb rfl (ix0 q)).trans rfl) rfl)) (by show 2<=16777216;omega)).trans ?_;rw[qg z];congr 4
  ·omega
  ·congr 1;congr 1;omega
 ·refine(zq ((y4 (et.trans (by rw[qF z]))).trans rfl)).trans (zF ?_);refine(xR (zk (ix1 q) (zk (ix0 q) rfl)) (by show 2<=16777216;omega)).trans ?_;rw[qm z];congr 4;congr 1;omega
def zju{a:Nat}{q:Rat}(hq:Bq a q)(h:q≠0):Bq a q⁻¹:=by
 have⟨e1,e2⟩:=zaJ h;refine⟨?_,?_⟩
 ·rw[e1];refine kY (y:=(q.den:Int)) ?_ hq.d;split<;>simp
 ·rw[e2];exact kY (y:=q.num) (by simp) hq.n
def zjw{ρ:Ro}{i:Nat}{q:Rat}(h:gv i ρ=some (fr q)):yM (aC (op2 Wk (cst (.int 0)) (op2 ixD (gv i) (cst (.int 0)))) (aC (op2 ixD (gv i) (cst (.int 1))) a0)) ρ=some (fr (-q)):=by
 refine(xR (zk ((zb rfl ((zb h rfl).trans (ix0 q))).trans rfl) (zk ((zb h rfl).trans (ix1 q)) rfl)) (by show 2<=16777216;omega)).trans ?_;unfold fr;rw[Rat.neg_num,Rat.neg_den];congr 4;omega
def zjC{a:Nat}{q:Rat}(hq:Bq a q):Bq a (-q):=⟨by rw[Rat.neg_num];exact kY (y:=q.num) (by simp) hq.n,by rw[Rat.neg_den];exact hq.d⟩
theorem Y5{α:Type}{h:PyData->Option (Option PyData)}{e:α->PyData}{p:α->Bool}:∀{xs:List α},(∀x∈xs,h (e x)=some (if p x then some (e x) else none))->wB h (xs.map e)=some ((xs.filter p).map e)
 |[],_=>rfl
 |x::xs,q=>by
  show(h (e x)).bind _=_
  rw[q x (.head _),qr,Y5 λy hy=>q y (.tail _ hy),List.filter_cons];by_cases z:p x=true
  ·rw[qg z,qg z];rfl
  ·rw[qm z,qm z];rfl
theorem Wo(k:Nat):∀Q:List (Nat->Rat),((List.range Q.length).filter (λi=>decide ((Q.getD i λ_=>0) k≠0))=[]/\pick k Q=none)\/∃i r q,(List.range Q.length).filter (λi=>decide ((Q.getD i λ_=>0) k≠0))=i::r/\Q[i]?=some q/\pick k Q=some (q,Q.eraseIdx i)
 |[]=>.inl ⟨rfl,rfl⟩
 |q::Q=>by
  have e:(List.range (q::Q).length).filter (λi=>decide (((q::Q).getD i λ_=>0) k≠0))=(if decide (q k≠0)=true then [0] else [])++((List.range Q.length).filter (λi=>decide ((Q.getD i λ_=>0) k≠0))).map Nat.succ:=by
   rw[qU,List.range_succ_eq_map,List.filter_cons,List.filter_map];by_cases z:q k≠0
   ·rw[qg (show decide (((q::Q).getD 0 λ_=>0) k≠0)=true from qy z),qg (qy z)];rfl
   ·rw[qm (show ¬decide (((q::Q).getD 0 λ_=>0) k≠0)=true from λw=>z (gI w)),qm λw=>z (gI w)];rfl
  rw[e];by_cases z:q k≠0
  ·refine .inr ⟨0,_,q,by rw[qg (qy z)];rfl,rfl,?_⟩;unfold pick;rw[qg z];rfl
  ·rw[qm λw=>z (gI w),pI];rcases Wo k Q with⟨h1,h2⟩|⟨i,r,q',h1,h2,h3⟩
   ·refine .inl ⟨by rw[h1];rfl,?_⟩;unfold pick;rw[qm z,h2];rfl
   ·refine .inr ⟨i+1,r.map Nat.succ,q',by rw[h1];rfl,by simpa using h2,?_⟩;unfold pick;rw[qm z,h3];rfl
def zhY{i j a:Nat}{g:RPx}{ρ:Ro}{ds:LPd}{d:PdX}(h1:ρ[j]?=some (.ow ds))(h2:g ρ=some (.int (a:Int)))(h3:ds[a]?=some d)(h4:ds.length<=16777216):zd3 i j g ρ=some (.nx ((ρ.set j (.ow (ds.eraseIdx a))).set i (.pu d))):=by
 have hl:=(qf.mp h3).1;unfold zd3;rw[h1,h2];show(if 0<=(a:Int)/\(a:Int)<ds.length/\ds.length<=16777216 then _ else none)=_
 rw[qg ⟨by omega,by omega,h4⟩,kq,h3];rfl
def zhU{i k:Nat}{fi f:RPx}{ρ:Ro}{ds:LPd}{d:PdX}(h1:gk i ρ=some ds)(h2:fi ρ=some (.int (k:Int)))(h3:f ρ=some d)(hk:k<1000)(hl:ds.length<16777216):inS i fi f ρ=some (.nx (ρ.set i (.ow (ds.take k++d::ds.drop k)))):=by
 unfold inS;rw[h1,qr,h2];show(f ρ).bind _=_
 rw[h3,qr,qg ⟨by omega,by omega,hl⟩,kq]
def zcQ{g:RLx}{ρ:Ro}{a b:Nat}(h:g ρ=some [.int (a:Int),.int (b:Int)])(ha:a<1000000)(hb:b<1000000):ui g ρ=some (jP a (b - a)):=by
 unfold ui;rw[h];show(if -(2 ^ 62)<=(a:Int)/\(a:Int)<2 ^ 62/\-(2 ^ 62)<=(b:Int)/\(b:Int)<2 ^ 62 then some (jP (a:Int) ((b:Int) - (a:Int)).toNat) else none)=_
 rw[qg ⟨by omega,by omega,by omega,by omega⟩,show((b:Int) - (a:Int)).toNat=b - a by omega]
abbrev zC(n:Nat)(Q:LQr):List PyData:=Q.map (yx n)
def zeM{n a i:Nat}{Dn:LPd}{Q:LQr}{q:Q1x}(hD:Dn.length=a)(h:Q[i]?=some q):(Dn++zC n Q)[a+i]?=some (yx n q):=by
 rw[qz (by omega),qp,show a+i - Dn.length=i by omega,h];rfl
def VD{ds:LPd}{a:Nat}{d:PdX}(h:ds[a]?=some d):ixD (.list ds) (.int (a:Int))=some d:=UZ h
theorem Zh{α β:Type}(f:α->β):∀(l:List α)(i:Nat),(l.map f).eraseIdx i=(l.eraseIdx i).map f
 |[],_=>rfl
 |_::_,0=>rfl
 |a::l,i+1=>qG (f a::·) (Zh f l i)
def erase_left{n a i:Nat}{Dn:LPd}{Q:LQr}(hD:Dn.length=a):(Dn++zC n Q).eraseIdx (a+i)=Dn++zC n (Q.eraseIdx i):=by
 rw[nX (by omega),show a+i - Dn.length=i by omega,Zh]
abbrev lrB:RFx:=ifS (zA (op2 neD (op2 ixD (op2 ixD (op2 ixD (gb 1) (gv 6)) (gv 3)) (cst (.int 0))) (cst (.int 0)))) (sq (zO 7 (zd yC (aC (op2 ixD (op2 ixD (gb 1) (gv 6)) (gv 3)) (aC (zd v5 (aC (op2 ixD (gv 5) (gv 3)) a0)) a0))))
 (sq (zO 8 (yM (aC (op2 Wk (cst (.int 0)) (op2 ixD (gv 7) (cst (.int 0)))) (aC (op2 ixD (gv 7) (cst (.int 1))) a0))))
 (siS 1 (gv 6) (yB (zZ 1 [1,5,6,8] (xl (aC (zd yb (aC (gv 5) a0)) a0)) (bN 0) (zd xu (aC (op2 ixD (op2 ixD (gb 1) (gv 3)) (gv 0)) (aC (zd yC (aC (gv 4) (aC (op2 ixD (gv 2) (gv 0)) a0))) a0)))))))) s0
def zi1{b q:Q1x}{k:Nat}(h:q k=0):el b k q=q:=by
 funext y
 show q y - q k / b k*b y=q y
 rw[h,Rat.div_def,kg,kg];grind
def UR{ρ:Ro}{f:RPx}{q:Rat}(h:f ρ=some (fr q)):zA (op2 neD (op2 ixD f (cst (.int 0))) (cst (.int 0))) ρ=some (decide (q≠0)):=by
 refine zw ((zb ((zb h rfl).trans (ix0 q)) rfl).trans ((vR _ _).trans ?_));by_cases z:q=0
 ·subst z;rfl
 ·rw[qF (λe=>z (mI.mp e)),qy z];rfl
def zdq{n k a s:Nat}{Dn:LPd}{b:Q1x}{Q:LQr}{x0 x4:Sl}(hn:n<=42)(hk:k<n)(hb:b k≠0)(hD:Dn.length=a)(hl:a+Q.length<1000)(hs:3*s<=8999)(hB:∀x,x<n->Bq s (b x))(hQ:∀q∈Q,∀x,x<n->Bq s (q x))(hT:∀q∈Q,∀x,x<n->Bq (2*s) (q k*(b k)⁻¹*b x))(y6 y7 y8:Sl):∃o6 o7 o8,jv (ui (aC (op2 xb (gv 2) (cst (.int 1))) (aC (zd yb (aC (gb 1) a0)) a0))) (bN 6) lrB [x0,.ow (Dn++yx n b::zC n Q),.pu (zG a),.pu (zG k),x4,.pu (yx n b),y6,y7,y8]
   =some (.nx [x0,.ow (Dn++yx n b::zC n (Q.map (el b k))),.pu (zG a),.pu (zG k),x4,.pu (yx n b),o6,o7,o8]):=by
 have hlen:(Dn++yx n b::zC n Q).length=a+1+Q.length:=by rw[qx,qU,qe,hD];omega
 have hit:ui (aC (op2 xb (gv 2) (cst (.int 1))) (aC (zd yb (aC (gb 1) a0)) a0)) [x0,.ow (Dn++yx n b::zC n Q),.pu (zG a),.pu (zG k),x4,.pu (yx n b),y6,y7,y8]=some (jP ((a+1:Nat):Int) Q.length):=by
  refine(zcQ (a:=a+1) (b:=a+1+Q.length) (zk ((zb rfl rfl).trans rfl) (zk ((zc (zk rfl rfl)).trans ?_) rfl)) (by omega) (by omega)).trans ?_
  ·show some (PyData.int ((Dn++yx n b::zC n Q).length:Int))=_
   rw[hlen]
  ·rw[show a+1+Q.length - (a+1)=Q.length by omega]
 obtain⟨ρ',e,o6,o7,o8,rfl⟩:=w8 (ds:=jP ((a+1:Nat):Int) Q.length) (it:=ui (aC (op2 xb (gv 2) (cst (.int 1))) (aC (zd yb (aC (gb 1) a0)) a0))) (bd:=bN 6) (b:=lrB)
  (ρ0:=[x0,.ow (Dn++yx n b::zC n Q),.pu (zG a),.pu (zG k),x4,.pu (yx n b),y6,y7,y8])
  (λj ρ=>∃o6 o7 o8,ρ=[x0,.ow (Dn++yx n b::(zC n ((Q.take j).map (el b k))++zC n (Q.drop j))),.pu (zG a),.pu (zG k),x4,.pu (yx n b),o6,o7,o8]) hit ⟨y6,y7,y8,by simp⟩
  (λj d ρ hd ⟨o6,o7,o8,e⟩=>by
   subst e;obtain⟨hj,rfl⟩:=UW hd;obtain⟨q,hq⟩:∃q,Q[j]?=some q:=⟨_,qo hj⟩;have hqm:=qH hq;have hdrop:Q.drop j=q::Q.drop (j+1):=by
    rw[kQ hj];rw[qo hj] at hq;cases hq;rfl
   have htake:(Q.take (j+1)).map (el b k)=(Q.take j).map (el b k)++[el b k q]:=by
    rw[ml,hq,qS];rfl
   generalize hL:Dn++yx n b::(zC n ((Q.take j).map (el b k))++zC n (Q.drop j))=left;have hix:left[a+1+j]?=some (yx n q):=by
    rw[<-hL,qz (by omega),show a+1+j - Dn.length=j+1 by omega,hU,qz (by rw[qe,qe,kB];omega),hdrop,qe,qe,kB,show j - min j Q.length=0 by omega];rfl
   have hset:left.set (a+1+j) (yx n (el b k q))=Dn++yx n b::(zC n ((Q.take (j+1)).map (el b k))++zC n (Q.drop (j+1))):=by
    rw[<-hL,List.set_append_right _ _ (by omega),show a+1+j - Dn.length=j+1 by omega,List.set_cons_succ,List.set_append_right _ _ (by rw[qe,qe,kB];omega),qe,qe,kB,show j - min j Q.length=0 by omega,hdrop,htake];show Dn++yx n b::(zC n ((Q.take j).map (el b k))++yx n (el b k q)::zC n (Q.drop (j+1)))=Dn++yx n b::((((Q.take j).map (el b k)++[el b k q]).map (yx n))++zC n (Q.drop (j+1)))
    rw[qS,kI];rfl
   have er:((a+1:Nat):Int)+(j:Int)=((a+1+j:Nat):Int):=by omega
   rw[er];have ex:∀z7 z8,op2 ixD (gb 1) (gv 6) [x0,.ow left,.pu (zG a),.pu (zG k),x4,.pu (yx n b),.pu (zG (a+1+j)),z7,z8]=some (yx n q):=λ_ _=>(zb rfl rfl).trans (VD hix)
   have exk:∀z7 z8,op2 ixD (op2 ixD (gb 1) (gv 6)) (gv 3) [x0,.ow left,.pu (zG a),.pu (zG k),x4,.pu (yx n b),.pu (zG (a+1+j)),z7,z8]=some (fr (q k)):=λz7 z8=>(zb (ex z7 z8) rfl).trans (Vz (t:=false) hk)
   suffices key:∃ρ2,lrB [x0,.ow left,.pu (zG a),.pu (zG k),x4,.pu (yx n b),.pu (zG (a+1+j)),o7,o8]=some (.nx ρ2)/\∃o6 o7 o8,ρ2=[x0,.ow (Dn++yx n b::(zC n ((Q.take (j+1)).map (el b k))++zC n (Q.drop (j+1)))),.pu (zG a),.pu (zG k),x4,.pu (yx n b),o6,o7,o8] by
    have⟨ρ2,k1,k2⟩:=key;exact⟨_,ρ2,rfl,k1,k2⟩
   by_cases z:q k=0
   ·refine⟨_,(y4 ((UR (exk o7 o8)).trans (by rw[qF λw=>w z]))).trans rfl,.pu (zG (a+1+j)),o7,o8,?_⟩;have hself:left.set (a+1+j) (yx n q)=left:=by
     obtain⟨h,e⟩:=qf.mp hix;rw[<-e,List.set_getElem_self]
    rw[<-hset,zi1 z,hself]
   ·have b1:=hQ q hqm;have bp:=zmb (b1 k hk) (zju (hB k hk) hb)
    have e7:zd yC (aC (op2 ixD (op2 ixD (gb 1) (gv 6)) (gv 3)) (aC (zd v5 (aC (op2 ixD (gv 5) (gv 3)) a0)) a0)) [x0,.ow left,.pu (zG a),.pu (zG k),x4,.pu (yx n b),.pu (zG (a+1+j)),o7,o8]=some (fr (q k*(b k)⁻¹)):=(zc (zk (exk o7 o8) (zk ((zc (zk ((zb rfl rfl).trans (Vz (t:=false) hk)) rfl)).trans (zkY hb)) rfl))).trans (WG (b1 k hk) (zju (hB k hk) hb) (by omega));refine⟨_,(jN ((UR (exk o7 o8)).trans (by rw[qy z]))).trans ((zq (zD e7)).trans ((zq (zD (zjw (q:=q k*(b k)⁻¹) rfl))).trans (W0 (a:=a+1+j) (ds:=left) (d:=yx n (el b k q)) rfl (yj ?_) rfl (qf.mp hix).1))),.pu (zG (a+1+j)),.pu (fr (q k*(b k)⁻¹)),.pu (fr (-(q k*(b k)⁻¹))),?_⟩
    ·refine j9 (n:=n) (zk ((zc rfl).trans (Yy false n b)) rfl) (by omega) λc hc=>?_
     refine(zc (zk ((zb ((zb (x:=.list left) (y:=zG (a+1+j)) rfl rfl).trans (VD hix)) rfl).trans (Vz (t:=false) hc)) (zk ((zc (zk (x:=fr (-(q k*(b k)⁻¹))) rfl (zk ((zb (x:=yx n b) (y:=zG c) rfl rfl).trans (Vz (t:=false) hc)) rfl))).trans (WG (zjC bp) (hB c hc) (by omega))) rfl))).trans ((zdf (b1 c hc) (by rw[show -(q k*(b k)⁻¹)*b c=-(q k*(b k)⁻¹*b c) by grind];exact zjC (hT q hqm c hc)) (by omega)).trans ?_);refine qG (λt=>some (fr t)) ?_;show q c+-(q k*(b k)⁻¹)*b c=q c - q k / b k*b c
     rw[Rat.div_def];grind
    ·rw[<-hset];rfl)
 refine⟨o6,o7,o8,e.trans ?_⟩;rw[show(jP ((a+1:Nat):Int) Q.length).length=Q.length by simp[jP],gT,nk];simp
def zeZ{t:Rat}{z w:Int}(hz:z≠0)(e:t*(z:Rat)=(w:Rat)):InB z.natAbs w.natAbs t:=by
 by_cases h:0<=z
 ·refine⟨by omega,w,?_,qk _⟩;rw[<-e,<-Rat.intCast_natCast,Int.natAbs_of_nonneg h]
 ·refine⟨by omega,-w,?_,by rw[nK];exact qk _⟩
  have:((z.natAbs:Nat):Rat)=-(z:Rat):=by
   rw[<-Rat.intCast_natCast,<-Rat.intCast_neg];congr 1;omega
  rw[pE,<-e,this];grind
def zlR{n B X s:Nat}{Q:LQr}{R:LZr}{T F:LNt}{C:LZr}{d:Int}(h:Eb n B X Q R T F C d)(h1:X*(n*B) ^ R.length<2 ^ s)(h2:n*((n*(n*B) ^ R.length)*B)<2 ^ s){q:Q1x}(hq:q∈Q)(x:Nat)(hx:x<n):Bq s (q x):=by
 have⟨M,M0,MX,hM⟩:=h.num hq;have⟨S,e,hS⟩:=hM x hx;have d0:=h.sp.d0;have hp:0<M*d.natAbs:=pC M0 (by omega)
 have ib:InB (M*d.natAbs) S.natAbs (q x):=by
  have:=zeZ (z:=(M:Int)*d) (w:=S) (t:=q x) (gZ (by omega) d0) (by rw[kd,kj];exact e);rwa [q9,kE] at this
 refine⟨j4 (qW (qB ib.num hS) h2),j4 ?_⟩;have h3:(q x).den<=M*d.natAbs:=gA hp ib.den;have h4:M*d.natAbs<=X*(n*B) ^ R.length:=km MX h.dabs
 show((q x).den:Int).natAbs<2 ^ s
 rw[kE];omega
def zmi{n B X s k:Nat}{Q:LQr}{R:LZr}{T F:LNt}{C:LZr}{d:Int}(h:Eb n B X Q R T F C d)(h1:X*(n*B) ^ R.length<2 ^ s)(h2:n*((n*(n*B) ^ R.length)*B)<2 ^ s){q b:Q1x}(hq:q∈Q)(hb:b∈Q)(hk:k<n)(hbk:b k≠0)(x:Nat)(hx:x<n):Bq (2*s) (q k*(b k)⁻¹*b x):=by
 have⟨M1,p1,q1,hM1⟩:=h.num hq;have⟨M2,p2,q2,hM2⟩:=h.num hb;have⟨S1,e1,b1⟩:=hM1 k hk;have⟨S2,e2,b2⟩:=hM2 k hk;have⟨S3,e3,b3⟩:=hM2 x hx;have d0:=h.sp.d0;have hd:(d:Rat)≠0:=λz=>d0 (by exact_mod_cast z)
 have hS2:S2≠0:=λz=>by
  rw[z] at e2;rcases kn.mp (show b k*((M2:Rat)*(d:Rat))=0 from e2) with w|w
  ·exact hbk w
  ·rcases kn.mp w with w|w
   ·exact jh p2 w
   ·exact hd w
 have hi:=Rat.mul_inv_cancel _ hbk;have ib:=zeZ (z:=(M1:Int)*d*S2) (w:=S1*S3) (t:=q k*(b k)⁻¹*b x) (gZ (gZ (by omega) d0) hS2) (by
  rw[kd,kd,kd,kj,<-e1,<-e2,<-e3];generalize (M1:Rat)=m1;generalize (M2:Rat)=m2;generalize (d:Rat)=dd;grind)
 have hp:0<((M1:Int)*d*S2).natAbs:=ib.pos;have t2:2*s=s+s:=by omega
 refine⟨j4 ?_,j4 ?_⟩
 ·refine qW ib.num ?_;rw[q9,t2,gx];exact Nat.mul_lt_mul'' (qW b1 h2) (qW b3 h2)
 ·rw[kE];refine qW (gA hp ib.den) ?_;rw[q9,q9,kE,t2,gx];exact Nat.mul_lt_mul'' (qW (km q1 h.dabs) h1) (qW b2 h2)
abbrev lrA:RFx:=sq (x8 4 (uR 1 [1,3] (ui (aC (gv 2) (aC (zd yb (aC (gb 1) a0)) a0))) (bN 0) (zA (op2 neD (op2 ixD (op2 ixD (op2 ixD (gb 1) (gv 0)) (gv 2)) (cst (.int 0))) (cst (.int 0)))) (gv 0)))
 (ifS (zA (op2 gtI (zd yb (aC (gb 4) a0)) (cst (.int 0)))) (sq (zd3 5 1 (op2 ixD (gb 4) (cst (.int 0))))
 (sq (inS 1 (gv 2) (gv 5))
 (sq (jv (ui (aC (op2 xb (gv 2) (cst (.int 1))) (aC (zd yb (aC (gb 1) a0)) a0))) (bN 6) lrB)
 (zO 2 (op2 xb (gv 2) (cst (.int 1))))))) s0)
def LS(n B X:Nat)(L:LQr)(x0:Sl)(k:Nat)(ρ:Ro):Prop:=∃(Dn:LPd)(Q:LQr)(R:LZr)(T F:LNt)(C:LZr)(d:Int)(o3 o4 o5 o6 o7 o8:Sl),ρ=[x0,.ow (Dn++zC n Q),.pu (zG Dn.length),o3,o4,o5,o6,o7,o8]/\Dn.length+Q.length=L.length/\Eb n B X Q R T F C d/\R.length=Dn.length/\rk (n - k) k Q+Dn.length=rk n 0 L
def zc9{n B X s k:Nat}{L:LQr}{x0:Sl}(hn:n<=42)(hk:k<n)(hl:L.length<500)(hs:3*s<=8999)(hz:∀j,j<=L.length->j<=n->X*(n*B) ^ j<2 ^ s/\n*((n*(n*B) ^ j)*B)<2 ^ s){ρ:Ro}(h:LS n B X L x0 k ρ):∃ρ2,lrA (ρ.set 3 (.pu (zG k)))=some (.nx ρ2)/\LS n B X L x0 (k+1) ρ2:=by
 obtain⟨Dn,Q,R,T,F,C,d,o3,o4,o5,o6,o7,o8,rfl,hlen,eb,hR,hrk⟩:=h;show ∃ρ2,lrA [x0,.ow (Dn++zC n Q),.pu (zG Dn.length),.pu (zG k),o4,o5,o6,o7,o8]=some (.nx ρ2)/\_
 have hzR:=hz R.length (by omega) eb.zmu;have bq:∀q∈Q,∀x,x<n->Bq s (q x):=λq hq x hx=>zlR eb hzR.1 hzR.2 hq x hx
 have hleft:(Dn++zC n Q).length=Dn.length+Q.length:=by rw[qx,qe]
 have hat:uR 1 [1,3] (ui (aC (gv 2) (aC (zd yb (aC (gb 1) a0)) a0))) (bN 0) (zA (op2 neD (op2 ixD (op2 ixD (op2 ixD (gb 1) (gv 0)) (gv 2)) (cst (.int 0))) (cst (.int 0)))) (gv 0) [x0,.ow (Dn++zC n Q),.pu (zG Dn.length),.pu (zG k),o4,o5,o6,o7,o8]
   =some (((List.range Q.length).filter (λi=>decide ((Q.getD i λ_=>0) k≠0))).map λi:Nat=>PyData.int ((Dn.length:Int)+(i:Int))):=by
  have hr:ui (aC (gv 2) (aC (zd yb (aC (gb 1) a0)) a0)) [x0,.ow (Dn++zC n Q),.pu (zG Dn.length),.pu (zG k),o4,o5,o6,o7,o8]=some (jP (Dn.length:Int) Q.length):=by
   refine(zcQ (a:=Dn.length) (b:=Dn.length+Q.length) (zk rfl (zk ((zc (zk rfl rfl)).trans ?_) rfl)) (by omega) (by omega)).trans (by rw[pZ]);show some (PyData.int ((Dn++zC n Q).length:Int))=_
   rw[hleft]
  unfold uR;rw[hr,qr,qg (by simp[jP];omega)];refine Y5 (e:=λi:Nat=>PyData.int ((Dn.length:Int)+(i:Int))) λi hi=>?_
  have hi:=qK.mp hi;obtain⟨q,hq⟩:∃q,Q[i]?=some q:=⟨_,qo hi⟩;have hg:Q.getD i (λ_=>0)=q:=by rw[qL,hq];rfl
  rw[show(Dn.length:Int)+(i:Int)=((Dn.length+i:Nat):Int) by omega];show((zA (op2 neD (op2 ixD (op2 ixD (op2 ixD (gb 1) (gv 0)) (gv 2)) (cst (.int 0))) (cst (.int 0)))) [.pu (zG (Dn.length+i)),.ow (Dn++zC n Q),.pu (zG k)]).bind _=_
  rw[UR (q:=q k) ((zb ((zb rfl rfl).trans (VD (zeM rfl hq))) rfl).trans (Vz (t:=false) hk)),qr,hg];by_cases z:decide (q k≠0)=true
  ·rw[qg z,qg z];rfl
  ·rw[qm z,qm z]
 have hkk:n - k=(n - (k+1))+1:=by omega
 rcases Wo k Q with⟨h1,h2⟩|⟨i,rest,q,h1,h2,h3⟩
 ·refine⟨_,(zq (yJ hat)).trans ((y4 ?_).trans rfl),Dn,Q,R,T,F,C,d,.pu (zG k),.ow [],o5,o6,o7,o8,?_,hlen,eb,hR,?_⟩
  ·rw[h1];exact zw rfl
  ·rw[h1];rfl
  ·rw[<-hrk,hkk];show _=(match pick k Q with |none=>rk (n - (k+1)) (k+1) Q|some p=>1+rk (n - (k+1)) (k+1) (p.2.map (el p.1 k)))+_
   rw[h2]
 ·have hi:i<Q.length:=(qf.mp h2).1;have hqm:=qH h2
  have⟨hb,_⟩:=uC h3;have⟨R',T',F',C',d',eb',hR'⟩:=eb.step hk h3;have hel:(Q.eraseIdx i).length=Q.length - 1:=by rw[mH,qg hi]
  have qs:∀q'∈Q.eraseIdx i,∀x,x<n->Bq s (q' x):=λq' hq'=>bq q' (gB hq')
  generalize hA:((List.range Q.length).filter (λi=>decide ((Q.getD i λ_=>0) k≠0))).map (λi:Nat=>PyData.int ((Dn.length:Int)+(i:Int)))=atD at hat;have hA0:atD=zG (Dn.length+i)::rest.map (λi:Nat=>PyData.int ((Dn.length:Int)+(i:Int))):=by
   rw[<-hA,h1];show PyData.int ((Dn.length:Int)+(i:Int))::_=_
   rw[show(Dn.length:Int)+(i:Int)=((Dn.length+i:Nat):Int) by omega]
  obtain⟨z6,z7,z8,el⟩:=zdq (n:=n) (k:=k) (a:=Dn.length) (s:=s) (Dn:=Dn) (b:=q) (Q:=Q.eraseIdx i) (x0:=x0) (x4:=.ow atD) hn hk hb rfl (by omega) hs (bq q hqm) qs (λq' hq' x hx=>zmi eb hzR.1 hzR.2 (gB hq') hqm hk hb x hx) o6 o7 o8;have e1:zA (op2 gtI (zd yb (aC (gb 4) a0)) (cst (.int 0))) [x0,.ow (Dn++zC n Q),.pu (zG Dn.length),.pu (zG k),.ow atD,o5,o6,o7,o8]=some true:=by
   refine zw ((zb (x:=.int (atD.length:Int)) rfl rfl).trans ?_);show some (PyData.bool (decide ((0:Int)<(atD.length:Int))))=_
   rw[qy (by rw[hA0,qU];omega)]
  have e2:zd3 5 1 (op2 ixD (gb 4) (cst (.int 0))) [x0,.ow (Dn++zC n Q),.pu (zG Dn.length),.pu (zG k),.ow atD,o5,o6,o7,o8]=some (.nx [x0,.ow (Dn++zC n (Q.eraseIdx i)),.pu (zG Dn.length),.pu (zG k),.ow atD,.pu (yx n q),o6,o7,o8]):=by
   refine(zhY (a:=Dn.length+i) (ds:=Dn++zC n Q) (d:=yx n q) rfl ?_ (zeM rfl h2) (by omega)).trans ?_
   ·refine(zb (x:=.list atD) rfl rfl).trans ?_;rw[hA0];exact VD (a:=0) rfl
   ·rw[erase_left rfl];rfl
  have e3:inS 1 (gv 2) (gv 5) [x0,.ow (Dn++zC n (Q.eraseIdx i)),.pu (zG Dn.length),.pu (zG k),.ow atD,.pu (yx n q),o6,o7,o8]=some (.nx [x0,.ow (Dn++yx n q::zC n (Q.eraseIdx i)),.pu (zG Dn.length),.pu (zG k),.ow atD,.pu (yx n q),o6,o7,o8]):=by
   refine(zhU (k:=Dn.length) (ds:=Dn++zC n (Q.eraseIdx i)) (d:=yx n q) rfl rfl rfl (by omega) (by rw[qx,qe];omega)).trans ?_;rw[List.take_left' rfl,List.drop_left' rfl];rfl
  refine⟨[x0,.ow (Dn++yx n q::zC n ((Q.eraseIdx i).map (WD.DT.el q k))),.pu (zG (Dn.length+1)),.pu (zG k),.ow atD,.pu (yx n q),z6,z7,z8],(zq (yJ hat)).trans ((jN e1).trans ((zq e2).trans ((zq e3).trans ((zq el).trans (zD (d:=zG (Dn.length+1)) rfl))))),?_⟩
  ·refine⟨Dn++[yx n q],(Q.eraseIdx i).map (WD.DT.el q k),R',T',F',C',d',.pu (zG k),.ow atD,.pu (yx n q),z6,z7,z8,?_,?_,eb',?_,?_⟩
   ·rw[kI,qx];rfl
   ·rw[qx,qe,kG];omega
   ·rw[hR',hR,qx];rfl
   ·rw[<-hrk,hkk,qx,kG];show _=(match pick k Q with |none=>rk (n - (k+1)) (k+1) Q|some p=>1+rk (n - (k+1)) (k+1) (p.2.map (WD.DT.el p.1 k)))+_
    rw[h3];show _=1+rk (n - (k+1)) (k+1) ((Q.eraseIdx i).map (WD.DT.el q k))+_
    omega
theorem zg8:∀m k,rk m k []=0
 |0,_=>rfl
 |m+1,k=>zg8 m (k+1)
structure Rb(n B X s:Nat)(L:LQr):Prop where
 ex:∀q∈L,∃(l:Z1x)(M:Nat),0<M/\M<=X/\∀x,x<n->(l x).natAbs<=B/\(l x:Rat)=(M:Rat)*q x
 hl:L.length<500
 hs:3*s<=8999
 hz:∀j,j<=L.length->j<=n->X*(n*B) ^ j<2 ^ s/\n*((n*(n*B) ^ j)*B)<2 ^ s
def WI{n B X s:Nat}{L:LQr}(hn:n<=42)(h:Rb n B X s L):u4 [.list (zC n L)]=some (zG (rk n 0 L)):=by
 have hl:=h.hl;have e1:zZ 1 [] (yI (gv 0)) (bN 0) (yB (xc vD (aC (gv 0) a0))) [.pu (.list (zC n L)),.no,.no,.no,.no,.no,.no,.no,.no]=some (zC n L):=yi (xs:=L) (e:=yx n) (vq rfl) (by omega) λq _=>yY.trans rfl
 have start:LS n B X L (.pu (.list (zC n L))) 0 [.pu (.list (zC n L)),.ow (zC n L),.pu (zG 0),.no,.no,.no,.no,.no,.no]:=⟨[],L,[],[],List.range n,(List.range n).map xG,1,.no,.no,.no,.no,.no,.no,rfl,by simp,zkb h.ex,rfl,rfl⟩;have hit:∃w,(w=n\/L=[])/\xl (aC (ifE (zA (op2 gtI (zd yb (aC (gb 1) a0)) (cst (.int 0)))) (zd yb (aC (op2 ixD (gb 1) (cst (.int 0))) a0)) (cst (.int 0))) a0) [.pu (.list (zC n L)),.ow (zC n L),.pu (zG 0),.no,.no,.no,.no,.no,.no]=some (jP 0 w)/\w<=n:=by
  cases L with
  |nil=>exact⟨0,.inr rfl,Vw (n:=0) (zk ((zjH (zw rfl)).trans rfl) rfl) (by omega),kK _⟩
  |cons q L=>
   refine⟨n,.inl rfl,Vw (n:=n) (zk ((zjI (zw ((zb (x:=.int ((zC n (q::L)).length:Int)) rfl rfl).trans ?_))).trans ((zc (zk ((zb rfl rfl).trans (VD (a:=0) (d:=yx n q) rfl)) rfl)).trans (Yy false n q))) rfl) (by omega),qk _⟩;show some (PyData.bool (decide ((0:Int)<((zC n (q::L)).length:Int))))=_
   rw[qy (by rw[qe,qU];omega)]
 obtain⟨w,hw,hit,hwn⟩:=hit;obtain⟨ρ',e2,P⟩:=w8 (ds:=jP 0 w) (it:=xl (aC (ifE (zA (op2 gtI (zd yb (aC (gb 1) a0)) (cst (.int 0)))) (zd yb (aC (op2 ixD (gb 1) (cst (.int 0))) a0)) (cst (.int 0))) a0)) (bd:=bN 3) (b:=lrA)
  (ρ0:=[.pu (.list (zC n L)),.ow (zC n L),.pu (zG 0),.no,.no,.no,.no,.no,.no]) (λk ρ=>LS n B X L (.pu (.list (zC n L))) k ρ) hit start λk d ρ hd hP=>by
   obtain⟨hk,rfl⟩:=UW hd;obtain⟨ρ2,a1,a2⟩:=zc9 hn (show k<n by omega) hl h.hs h.hz hP;refine⟨ρ.set 3 (.pu (zG k)),ρ2,?_,a1,a2⟩;rw[show(0:Int)+(k:Int)=(k:Int) by omega];rfl
 rw[show(jP 0 w).length=w by simp[jP]] at P;obtain⟨Dn,Q,R,T,F,C,d,o3,o4,o5,o6,o7,o8,rfl,hlen,_,_,hrk⟩:=P;have hfin:Dn.length=rk n 0 L:=by
  rcases hw with rfl|rfl
  ·rw[kZ] at hrk;rw[<-hrk];show _=0+_
   omega
  ·rw[zg8]
   have:Dn.length+Q.length=0:=hlen;omega
 refine zM rfl ?_;refine(zq (yJ e1)).trans ((zq (ρ':=[.pu (.list (zC n L)),.ow (zC n L),.pu (zG 0),.no,.no,.no,.no,.no,.no]) rfl).trans ((zq e2).trans (zF ?_)));rw[<-hfin];rfl
def zic{n:Nat}{x:Q1x}:InQ n [] x↔∀y,y<n->x y=0:=by
 constructor
 ·intro h y hy
  have:=h (λz=>if z=y then 1 else 0) λl hl=>by cases hl
  have e:dq n (λz=>if z=y then 1 else 0) x=x y:=by
   show sumTo n (λz=>(if z=y then (1:Rat) else 0)*x z)=x y
   rw[xU _ n hy λz _ hne=>by rw[qm hne,kg],qg rfl,Rat.one_mul]
  rw[e] at this;exact this
 ·intro h w _;show sumTo n (λz=>w z*x z)=0
  rw[zi n (g:=λ_=>0) λz hz=>by rw[h z hz,kR],yl]
def Js{n B X s:Nat}{L:LQr}{x:Q1x}(hn:n<=42)(h:Rb n B X s (L++[x]))(h':Rb n B X s L):∃b:Bool,yW [.list (zC n L),yx n x]=some (.bool b)/\(b=true↔InQ n L x):=by
 have hl:=h'.hl;have et:zA (op2 eqD (zd yb (aC (gv 0) a0)) (cst (.int 0))) [.pu (.list (zC n L)),.pu (yx n x)]=some (decide (L=[])):=by
  refine zw ((zb (x:=.int ((zC n L).length:Int)) rfl rfl).trans ((wD _ _).trans ?_));rw[qe];refine qG (λb=>some (PyData.bool b)) (k7.mpr ?_);constructor
  ·intro e;exact gD.mp (by omega)
  ·intro e;rw[e];rfl
 by_cases hL:L=[]
 ·subst hL;have hc:uR 1 [] (yI (gv 1)) (bN 0) (zA (op2 neD (op2 ixD (gv 0) (cst (.int 0))) (cst (.int 0)))) (gv 0) [.pu (.list (zC n [])),.pu (yx n x)]=some (((List.range n).filter λi=>decide (x i≠0)).map λi=>fr (x i)):=by
   unfold uR;rw[show yI (gv 1) [.pu (.list (zC n [])),.pu (yx n x)]=some ((List.range n).map λi=>fr (x i)) from vq rfl,qr,qg (by rw[qe,qu];omega)];refine Y5 (e:=λi:Nat=>fr (x i)) λi _=>?_
   show((zA (op2 neD (op2 ixD (gv 0) (cst (.int 0))) (cst (.int 0)))) [.pu (fr (x i))]).bind (λok=>if ok=true then Option.map some (gv 0 [.pu (fr (x i))]) else some none)=_
   rw[UR (q:=x i) rfl,qr];by_cases z:decide (x i≠0)=true
   ·rw[qg z,qg z];rfl
   ·rw[qm z,qm z]
  refine⟨_,zM rfl (J8 ((jN (et.trans (by rw[qy rfl]))).trans (zF ((zb ((zc (zk (yj hc) rfl)).trans rfl) rfl).trans (wD _ _))))),?_⟩;rw[qe,zic,mW];constructor
  ·intro e y hy;have e2:(List.range n).filter (λi=>decide (x i≠0))=[]:=gD.mp (by omega)
   have:=List.filter_eq_nil_iff.mp e2 y (qK.mpr hy);exact Classical.not_not.mp λz=>this (qy z)
  ·intro e;rw[List.filter_eq_nil_iff.mpr λy hy=>by rw[e y (qK.mp hy)];simp];rfl
 ·have ec:zkJ zgS (gv 0) (yB (vL (aC (gv 1) a0))) [.pu (.list (zC n L)),.pu (yx n x)]=some (zC n (L++[x])):=by
   show zgS (.list (zC n L)) (.list [yx n x])=_
   show(if (zC n L).length+[yx n x].length<=16777216 then some (zC n L++[yx n x]) else none)=_
   rw[qg (by rw[qe,kG];omega),show zC n (L++[x])=zC n L++[yx n x] from qS]
  refine⟨_,zM rfl ((zq ((y4 (et.trans (by rw[qF hL]))).trans rfl)).trans (zF ((zb ((zc (zk (yj ec) rfl)).trans (WI hn h)) ((zc rfl).trans (WI hn h'))).trans (wD _ _)))),?_⟩;rw[<-zfb (n:=n) L x,mW];omega
theorem zcF{bd:PyData->Ro->Option Ro}{b:RFx}{d:PdX}(P:Ro->Prop):∀{ds:LPd} {ρ0:Ro} (p:Nat->Prop),P ρ0->
  (∀i dd ρ,ds[i]?=some dd->P ρ->∃ρ1,bd dd ρ=some ρ1/\((p i/\∃ρ2,b ρ1=some (.nx ρ2)/\P ρ2)\/(¬p i/\b ρ1=some (.rt d))))->
  ((∀i,i<ds.length->p i)/\∃ρ',Ym bd b ds ρ0=some (.nx ρ')/\P ρ')\/((¬∀i,i<ds.length->p i)/\Ym bd b ds ρ0=some (.rt d))
 |[],ρ0,p,h0,_=>.inl ⟨λi hi=>absurd hi (kN i),ρ0,rfl,h0⟩
 |dd::r,ρ0,p,h0,h=>by
  have⟨ρ1,e1,q⟩:=h 0 dd ρ0 rfl h0;rcases q with⟨hp,ρ2,e2,hP⟩|⟨hp,e2⟩
  ·have st:Ym bd b (dd::r) ρ0=Ym bd b r ρ2:=by
    show(bd dd ρ0).bind _=_
    rw[e1,qr,e2]
   rcases zcF P (ds:=r) (ρ0:=ρ2) (λi=>p (i+1)) hP λi d' ρ e q=>h (i+1) d' ρ (by simpa using e) q with⟨a1,ρ',a2,a3⟩|⟨a1,a2⟩
   ·refine .inl ⟨λi hi=>?_,ρ',st.trans a2,a3⟩;cases i with
    |zero=>exact hp
    |succ i=>exact a1 i (by simpa using hi)
   ·exact .inr ⟨λz=>a1 λi hi=>z (i+1) (by simpa using hi),st.trans a2⟩
  ·refine .inr ⟨λz=>hp (z 0 (by simp)),?_⟩;show(bd dd ρ0).bind _=_
   rw[e1,qr,e2]
def zce{it:RLx}{bd:PyData->Ro->Option Ro}{b:RFx}{ds:LPd}{ρ0:Ro}{d:PdX}(P:Ro->Prop)(p:Nat->Prop)(hi:it ρ0=some ds)(h0:P ρ0)(h:∀i dd ρ,ds[i]?=some dd->P ρ->∃ρ1,bd dd ρ=some ρ1/\((p i/\∃ρ2,b ρ1=some (.nx ρ2)/\P ρ2)\/(¬p i/\b ρ1=some (.rt d)))):((∀i,i<ds.length->p i)/\∃ρ',jv it bd b ρ0=some (.nx ρ')/\P ρ')\/((¬∀i,i<ds.length->p i)/\jv it bd b ρ0=some (.rt d)):=by
 have e:jv it bd b ρ0=Ym bd b ds ρ0:=by
  unfold jv;rw[hi];rfl
 rw[e];exact zcF P p h0 h
section
variable{n m s:Nat}{fi gi la lb:Q1x}{st su:Q3x}
def zcw(hn:n<=42)(hm:m<=42)(hs:s<=42):uT [zm n s fi st la,zm m s gi su lb]=some (zm (n+m) s (jn n fi gi) (xT n st su) (jn n la λi=>-(lb i))):=by
 refine zM rfl ((zq (zD (d:=yy m λi=>-(lb i)) ?_)).trans (zF ?_))
 ·refine(zc (xs:=[.list ((List.range m).map λi=>fr (-(lb i)))]) (zk (yj (yi (xs:=List.range m) (e:=λi=>fr (lb i)) (Je ((zb rfl rfl).trans ug)) (by rw[qu];omega) λi _=>yY.trans (zjw (i:=0) rfl))) rfl)).trans rfl
 ·exact(zc (zk rfl (zk ((Ul ((zb rfl rfl).trans jT) ((zb rfl rfl).trans j7) rfl).trans rfl) rfl))).trans (wX hn hm hs)
end
def Ex(n B X:Nat)(q:Q1x):Prop:=∃(l:Z1x)(M:Nat),0<M/\M<=X/\∀x,x<n->(l x).natAbs<=B/\(l x:Rat)=(M:Rat)*q x
structure Rz(n B X s len:Nat):Prop where
 hl:len+1<500
 hs:3*s<=8999
 hz:∀j,j<=len+1->j<=n->X*(n*B) ^ j<2 ^ s/\n*((n*(n*B) ^ j)*B)<2 ^ s
def Rz.rb{n B X s:Nat}{L:LQr}(h:Rz n B X s L.length)(hL:∀q∈L,Ex n B X q):Rb n B X s L:=⟨hL,by have:=h.hl;omega,h.hs,λj hj hn=>h.hz j (by omega) hn⟩
def Rz.rb1{n B X s:Nat}{L:LQr}{x:Q1x}(h:Rz n B X s L.length)(hL:∀q∈L,Ex n B X q)(hx:Ex n B X x):Rb n B X s (L++[x]):=⟨λq hq=>by
 rcases qt.mp hq with z|z
 ·exact hL q z
 ·rw[qO.mp z];exact hx,by rw[qx];exact h.hl,h.hs,λj hj hn=>h.hz j (by rw[qx] at hj;exact hj) hn⟩
def Sw(n s:Nat)(fi:Q1x)(st:Q3x)(la:Q1x)(K:LQr):Prop:=InQ n K fi/\∀r∈K,sumTo n (λi=>r i*la i)=0/\∀g,g<s->InQ n K (led n r (st g))
def zbh{n s B X z kr ks kl:Nat}{x y:PdX}{fi la:Q1x}{st:Q3x}{K:LQr}(hb:uT [x,y]=some (zm n s fi st la))(hn:n<=42)(hs:s<=42)(hz:Rz n B X z K.length)(hK:∀q∈K,Ex n B X q)(hfi:Ex n B X fi)(hled:∀r∈K,∀g,g<s->Ex n B X (led n r (st g)))(hkr:∀r∈K,∀i,i<n->Sk kr (r i))(hks:∀g a b,g<s->a<n->b<n->Sk ks (st g a b))(hkl:∀i,i<n->Sk kl (la i))(k1:kr+ks<=398)(k2:kr+kl<=398):∃b:Bool,jH [x,y,.list (zC n K)]=some (.bool b)/\(b=true↔Sw n s fi st la K):=by
 have hl:=hz.hl;have rbK:=hz.rb hK
 obtain⟨b0,e0,i0⟩:=Js hn (hz.rb1 hK hfi) rbK;have ek:zZ 1 [] (yI (gv 2)) (bN 0) (yB (xc vD (aC (gv 0) a0))) [.pu x,.pu y,.pu (.list (zC n K)),.pu (zm n s fi st la),.no,.no,.no]=some (zC n K):=yi (xs:=K) (e:=yx n) (vq rfl) (by omega) λq _=>yY.trans rfl
 have et:vQ (zA (Vu yW (aC (gb 4) (aC (yB (xc vD (aC (op2 ixD (gv 3) (cst (.int 0))) a0))) a0)))) [.pu x,.pu y,.pu (.list (zC n K)),.pu (zm n s fi st la),.ow (zC n K),.no,.no]=some (!b0):=jk (zw (Y2 (r:=.bool b0) (zk rfl (zk (yj ((xr (zk ((zb rfl rfl).trans jT) rfl)).trans rfl)) rfl)) e0 rfl));have head:∀r,sq (ifS (vQ (zA (Vu yW (aC (gb 4) (aC (yB (xc vD (aC (op2 ixD (gv 3) (cst (.int 0))) a0))) a0))))) (retS (cst (.bool false))) s0) r [.pu x,.pu y,.pu (.list (zC n K)),.pu (zm n s fi st la),.ow (zC n K),.no,.no]=if b0=true then r [.pu x,.pu y,.pu (.list (zC n K)),.pu (zm n s fi st la),.ow (zC n K),.no,.no] else some (.rt (.bool false)):=λr=>by
  cases b0 with
  |true=>rw[qg rfl];exact zq ((y4 et).trans rfl)
  |false=>rw[qm qE];exact J8 ((jN et).trans (zF rfl))
 by_cases hb0:b0=true
 ·-- the rows one by one
  have loop:=zce (it:=yI (gv 4)) (bd:=bN 5) (ds:=zC n K) (d:=.bool false)
   (b:=sq (ifS (zA (op2 neD (op2 ixD (zd jq (aC (gv 5) (aC (op2 ixD (gv 3) (cst (.int 2))) a0))) (cst (.int 0))) (cst (.int 0)))) (retS (cst (.bool false))) s0)
 (jv (yI (op2 ixD (gv 3) (cst (.int 1)))) (bN 6) (ifS (vQ (zA (zd yW (aC (gv 4) (aC (yB (xc xY (aC (gv 5) (aC (gv 6) a0)))) a0))))) (retS (cst (.bool false))) s0)))
   (ρ0:=[.pu x,.pu y,.pu (.list (zC n K)),.pu (zm n s fi st la),.pu (.list (zC n K)),.no,.no]) (λρ=>∃o5 o6,ρ=[.pu x,.pu y,.pu (.list (zC n K)),.pu (zm n s fi st la),.pu (.list (zC n K)),o5,o6])
   (λi=>∀r,K[i]?=some r->sumTo n (λi=>r i*la i)=0/\∀g,g<s->InQ n K (led n r (st g))) (vq rfl) ⟨.no,.no,rfl⟩ (λi dd ρ hd ⟨o5,o6,e⟩=>by
    subst e;rw[qp] at hd;obtain⟨r,hr,rfl⟩:=map_some hd;have hrm:=qH hr;refine⟨_,rfl,?_⟩;have ed:jq [yx n r,yy n la]=some (fr (sumTo n λi=>r i*la i)):=Ut (t:=false) (u:=true) (k:=kr+kl) hn (by omega) λi hi=>⟨(hkr r hrm i hi).bq (by omega),(hkl i hi).bq (by omega),(hkr r hrm i hi).mul (hkl i hi)⟩
    have eT:zA (op2 neD (op2 ixD (zd jq (aC (gv 5) (aC (op2 ixD (gv 3) (cst (.int 2))) a0))) (cst (.int 0))) (cst (.int 0))) [.pu x,.pu y,.pu (.list (zC n K)),.pu (zm n s fi st la),.pu (.list (zC n K)),.pu (yx n r),o6]=some (decide (sumTo n (λi=>r i*la i)≠0)):=UR ((zc (zk rfl (zk ((zb rfl rfl).trans ug) rfl))).trans ed);by_cases hd0:sumTo n (λi=>r i*la i)=0
    ·have inner:=zce (it:=yI (op2 ixD (gv 3) (cst (.int 1)))) (bd:=bN 6) (ds:=(List.range s).map λg=>xy n (st g)) (d:=.bool false)
      (b:=ifS (vQ (zA (zd yW (aC (gv 4) (aC (yB (xc xY (aC (gv 5) (aC (gv 6) a0)))) a0))))) (retS (cst (.bool false))) s0)
      (ρ0:=[.pu x,.pu y,.pu (.list (zC n K)),.pu (zm n s fi st la),.pu (.list (zC n K)),.pu (yx n r),o6]) (λρ=>∃o6,ρ=[.pu x,.pu y,.pu (.list (zC n K)),.pu (zm n s fi st la),.pu (.list (zC n K)),.pu (yx n r),o6])
      (λg=>InQ n K (led n r (st g))) (Je ((zb rfl rfl).trans j7)) ⟨o6,rfl⟩ (λg dd ρ hd ⟨o6,e⟩=>by
       subst e;obtain⟨hg,rfl⟩:g<s/\dd=xy n (st g):=by
        rw[qp] at hd;obtain⟨g',hg',rfl⟩:=map_some hd;have hlt:=(qf.mp hg').1;rw[qu] at hlt;rw[ka hlt] at hg';cases hg';exact⟨hlt,rfl⟩
       refine⟨_,rfl,?_⟩;obtain⟨b1,e1,i1⟩:=Js hn (hz.rb1 hK (hled r hrm g hg)) rbK;have eg:vQ (zA (zd yW (aC (gv 4) (aC (yB (xc xY (aC (gv 5) (aC (gv 6) a0)))) a0)))) [.pu x,.pu y,.pu (.list (zC n K)),.pu (zm n s fi st la),.pu (.list (zC n K)),.pu (yx n r),.pu (xy n (st g))]=some (!b1):=jk (zw ((zc (zk rfl (zk (yj ((xr rfl).trans (Zp (t:=false) hn (hkr r hrm) (λa b ha hb=>hks g a b hg ha hb) (by omega)))) rfl))).trans e1));cases b1 with
       |true=>exact .inl ⟨i1.mp rfl,_,(y4 eg).trans rfl,_,rfl⟩
       |false=>exact .inr ⟨λz=>(by have:=i1.mpr z;cases this),(jN eg).trans (zF rfl)⟩)
     rw[qe,qu] at inner;rcases inner with⟨a1,ρ',a2,o6',rfl⟩|⟨a1,a2⟩
     ·exact .inl ⟨λr' hr'=>by rw[hr] at hr';cases hr';exact⟨hd0,λg hg=>a1 g hg⟩,_,(zq ((y4 (eT.trans (by rw[qF λz=>z hd0]))).trans rfl)).trans a2,_,_,rfl⟩
     ·exact .inr ⟨λz=>a1 λg hg=>(z r hr).2 g hg,(zq ((y4 (eT.trans (by rw[qF λz=>z hd0]))).trans rfl)).trans a2⟩
    ·exact .inr ⟨λz=>hd0 (z r hr).1,J8 ((jN (eT.trans (by rw[qy hd0]))).trans (zF rfl))⟩)
  rw[qe] at loop;have hi0:=i0.mp hb0;rcases loop with⟨a1,ρ',a2,o5,o6,rfl⟩|⟨a1,a2⟩
  ·refine⟨true,zM rfl ((zq (zD ((zc rfl).trans hb))).trans ((zq (yJ ek)).trans ((head _).trans ?_))),λ_=>⟨hi0,λr hr=>?_⟩,λ_=>rfl⟩
   ·rw[qg hb0];exact(zq (show frS 4 _ _=_ from a2)).trans (zF rfl)
   ·obtain⟨i,hi⟩:=qX hr;exact a1 i (qf.mp hi).1 r hi
  ·refine⟨false,zM rfl ((zq (zD ((zc rfl).trans hb))).trans ((zq (yJ ek)).trans ((head _).trans ?_))),λz=>(by cases z),λz=>absurd (λi _ r hr=>z.2 r (qH hr)) a1⟩;rw[qg hb0];exact J8 (show frS 4 _ _=_ from a2)
 ·refine⟨false,zM rfl ((zq (zD ((zc rfl).trans hb))).trans ((zq (yJ ek)).trans ((head _).trans (qm hb0)))),λz=>(by cases z),λz=>absurd (i0.mpr z.1) hb0⟩
abbrev KL(L:WR):List (Nat->Rat):=L.map λq=>rt q.2
section
variable{n s k B m:Nat}{st:Q3x}{fi la:Q1x}{L:WR}{CS:AdX}
def zfY{x y:PdX}(h:yp CS [x,y]=some (.tuple [.none,.list (L.map λq=>yu n q.2)]))(hn:n<=42)(hl:L.length<=1000):vb CS [x,y]=some (.list (zC n (KL L))):=by
 refine zM rfl ((zq (zD ((zc rfl).trans h))).trans ((zq ((y4 (zw ?_)).trans rfl)).trans (zF (yj ?_))))
 ·rfl
 ·refine(yi (xs:=L) (e:=λq=>yu n q.2) (d:=λq=>yx n (rt q.2)) (vq rfl) (by omega) λq _=>?_).trans (qG some (show _=(L.map λq=>rt q.2).map (yx n) by rw[kP];rfl));refine yY.trans (yj ?_);exact yi (xs:=List.range n) (e:=λi=>.int (q.2 i)) (d:=λi=>fr (rt q.2 i)) (vq rfl) (by rw[qu];omega) λi _=>yY.trans ((xR rfl (by show 2<=16777216;omega)).trans rfl)
def zeP{R:LZr}{x:Q1x}:In n R.reverse x↔InQ n (R.map rt) x:=by
 constructor
 ·intro h w hw;exact h w λr hr=>hw _ (qY.mpr ⟨r,gq.mp hr,rfl⟩)
 ·intro h w hw;refine h w λl hl=>?_
  obtain⟨r,hr,rfl⟩:=qY.mp hl;exact hw r (gq.mpr hr)
def zc6.sw(h:zc6 n s st fi la L)(hs:0<s):Sw n s fi st la (KL L):=by
 have⟨T,F,C,d,a,h1,h2,h3⟩:=h;have e:KL L=(L.map (·.2)).map rt:=by rw[kP];rfl
 rw[e];refine⟨zeP.mp (h1.rs.zkM hs h2 [] λg hg=>by cases hg),λr hr=>?_⟩;rw[<-e] at hr;obtain⟨q,hq,rfl⟩:=qY.mp hr;refine⟨?_,λg hg=>zeP.mp (h1.rs.zkx hs h2 g _ hg λw hw=>hw q.2 (gq.mpr (qY.mpr ⟨q,hq,rfl⟩)))⟩;have⟨c,hc,hr⟩:=h1.mult hq;have e2:sumTo n (λi=>rt q.2 i*la i)=wt n st fi la q.1*c:=by
  unfold wt;rw[<-zT];exact zi n λi hi=>by
   show(q.2 i:Rat)*la i=_
   rw[hr i hi];grind
 rw[e2,h3 q hq,kg]
def zc6.len(h:zc6 n s st fi la L):L.length<=n:=by
 have⟨T,F,C,d,a,h1,h2,h3⟩:=h;have l:=h1.lens;omega
def zc6.abs(h:zc6 n s st fi la L)(b:Bd n s st fi k B m):∀q∈L,∀x,x<n->(q.2 x).natAbs<=B:=by
 have⟨T,F,C,d,a,h1,h2,h3⟩:=h;exact λq hq=>h1.abs b hq
end
def Ex.mono{n B X B' X':Nat}{q:Q1x}(h:Ex n B X q)(hB:B<=B')(hX:X<=X'):Ex n B' X' q:=by
 have⟨l,M,h1,h2,h3⟩:=h;exact⟨l,M,h1,qB h2 hX,λx hx=>⟨qB (h3 x hx).1 hB,(h3 x hx).2⟩⟩
def zhm{n M N:Nat}{q:Q1x}(hM:0<M)(h:∀x,x<n->InB M N (q x)):Ex n N M q:=⟨λx=>vF (q x) M,M,hM,qk _,λx hx=>⟨(za3 (h x hx)).2,by rw[(za3 (h x hx)).1];exact k8 _ _⟩⟩
def zjR{n B:Nat}{r:Z1x}(h:∀x,x<n->(r x).natAbs<=B):Ex n B 1 (rt r):=⟨r,1,by decide,qk _,λx hx=>⟨h x hx,by show(r x:Rat)=((1:Nat):Rat)*(r x:Rat);rw[show((1:Nat):Rat)=1 from rfl,Rat.one_mul]⟩⟩
def Y8{B:Nat}{z:Int}(h:z.natAbs<=B):InB 1 B (z:Rat):=⟨by decide,z,by rw[show((1:Nat):Rat)=1 from rfl,Rat.mul_one],h⟩
def zhx{b k:Nat}{z:Int}(h:z.natAbs<=2 ^ b)(hk:b+3*k<=8*k):Sk k (z:Rat):=by
 have:=InB.up (Y8 h) (c:=6 ^ k) (xt k);rw[g9] at this;exact this.mono (YZ (qk _) (ziF k) hk)
end L2.Fu
namespace L2.Fu
open PySem WS WD WD.DT
def Tb(a b:Nat)(q:Rat):Prop:=InB (6 ^ a) (2 ^ b) q
def Tb.zero(a b:Nat):Tb a b 0:=InB.zero (xt a)
def Tb.mul{a b c d:Nat}{q r:Rat}(h:Tb a b q)(k:Tb c d r):Tb (a+c) (b+d) (q*r):=by
 have:=InB.mul h k;rw[<-Nat.pow_add,<-Nat.pow_add] at this;exact this
def Tb.up{a b c d:Nat}{q:Rat}(h:Tb a b q)(hc:a<=c)(hd:b+3*(c - a)<=d):Tb c d q:=by
 obtain⟨e,rfl⟩:=pY hc
 have:=InB.up h (c:=6 ^ e) (xt e);rw[<-Nat.pow_add] at this;exact this.mono (YZ (qk _) (ziF e) (by omega))
def Tb.sum{n a b v:Nat}{f:Q1x}(hn:n<=2 ^ v)(h:∀i,i<n->Tb a b (f i)):Tb a (b+v) (sumTo n f):=(J5 (xt a) n h).mono (YZ hn (qk _) (by omega))
def Tb.sk{a b k:Nat}{q:Rat}(h:Tb a b q)(hk:a<=k)(hb:b+3*(k - a)<=8*k):Sk k q:=Tb.up h hk hb
def Tb.neg{a b:Nat}{q:Rat}(h:Tb a b q):Tb a b (-q):=by
 have⟨x,e,hx⟩:=h.ex;exact⟨h.pos,-x,by rw[pE,<-e];grind,by rw[nK];exact hx⟩
def Fq.tb{q:Rat}(h:Fq q):Tb 1 5 q:=h
structure Wm(n s:Nat)(fi:Q1x)(st:Q3x)(p q:Nat)(α β:Nat->Nat):Prop where
 fi:∀x,x<n->Tb (α x) (β x) (fi x)
 st:∀g x y,g<s->x<n->y<n->st g x y=0\/(α x<=α y/\β x<=β y/\Tb (α y - α x+p) (β y - β x+q) (st g x y))
theorem Wm.row{n s p q v:Nat}{fi:Q1x}{st:Q3x}{α β:Nat->Nat}(h:Wm n s fi st p q α β)(hn:n<=2 ^ v):∀(l:Nat)(u:LNt),u.length=l->(∀g∈u,g<s)->∀y,y<n->Tb (α y+l*p) (β y+l*(q+v)) (zV n st fi u y)
 |0,u,hu,_,y,hy=>by
  have e:u=[]:=gD.mp hu;subst e;rw[Nat.zero_mul,Nat.zero_mul];exact h.fi y hy
 |l+1,u,hu,hg,y,hy=>by
  rcases Yb u with e|⟨w,g,e⟩
  ·rw[e] at hu;simp at hu
  subst e;have hw:w.length=l:=by simpa using hu
  have ih:=h.row hn l w hw λg' hg'=>hg g' (qt.mpr (.inl hg'))
  have hgs:g<s:=hg g (qt.mpr (.inr (qO.mpr rfl)));rw[ue]
  have:=Tb.sum (a:=α y+(l+1)*p) (b:=β y+l*(q+v)+q) (f:=λx=>zV n st fi w x*st g x y) hn λx hx=>by
   rcases h.st g x y hgs hx hy with z|⟨z1,z2,z3⟩
   ·rw[z,kR];exact Tb.zero _ _
   ·have e1:α x+l*p+(α y - α x+p)=α y+(l+1)*p:=by rw[gm];omega
    have e2:β x+l*(q+v)+(β y - β x+q)=β y+l*(q+v)+q:=by omega
    have:=(ih x hx).mul z3;rw[e1,e2] at this;exact this
  rw[show β y+(l+1)*(q+v)=β y+l*(q+v)+q+v by rw[gm];omega];exact this
def jnN(n:Nat)(f g:Nat->Nat):Nat->Nat:=λx=>if x<n then f x else g (x - n)
def Wm.add{n m s p q:Nat}{fi gi:Q1x}{st su:Q3x}{α β α' β':Nat->Nat}(A:Wm n s fi st p q α β)(B:Wm m s gi su p q α' β'):Wm (n+m) s (jn n fi gi) (xT n st su) p q (jnN n α α') (jnN n β β') where
 fi:=λx hx=>by
  unfold jn jnN;by_cases z:x<n
  ·rw[qg z,qg z,qg z];exact A.fi x z
  ·rw[qm z,qm z,qm z];exact B.fi (x - n) (by omega)
 st:=λg x y hg hx hy=>by
  unfold xT jnM jn jnN;by_cases z:x<n
  ·rw[qg z];by_cases w:y<n
   ·rw[qg w,qg z,qg w,qg z,qg w];exact A.st g x y hg z w
   ·rw[qm w];exact .inl rfl
  ·rw[qm z];by_cases w:y<n
   ·rw[qg w];exact .inl rfl
   ·rw[qm w,qm z,qm w,qm z,qm w];exact B.st g (x - n) (y - n) hg (by omega) (by omega)
structure j3(n s:Nat)(fi:Q1x)(st:Q3x)(la:Q1x)(a b:Nat):Prop where
 fi:∀x,x<n->Tb a b (fi x)
 st:∀g x y,g<s->x<n->y<n->Tb a b (st g x y)
 la:∀x,x<n->Tb a b (la x)
section
variable{n m s a b:Nat}{fi gi la lb:Q1x}{st su:Q3x}
def Z1.tb(h:Z1 n s fi st la):j3 n s fi st la 1 5:=⟨λx hx=>(h.fi x hx).tb,λg x y hg hx hy=>(h.st g x y hg hx hy).tb,λx hx=>(h.la x hx).tb⟩
def j3.up{c d:Nat}(h:j3 n s fi st la a b)(hc:a<=c)(hd:b+3*(c - a)<=d):j3 n s fi st la c d:=⟨λx hx=>(h.fi x hx).up hc hd,λg x y hg hx hy=>(h.st g x y hg hx hy).up hc hd,λx hx=>(h.la x hx).up hc hd⟩
def j3.wm(h:j3 n s fi st la a b):Wm n s fi st a b (λ_=>a) λ_=>b:=⟨h.fi,λg x y hg hx hy=>.inr ⟨qk _,qk _,by rw[kZ,kZ,mi,mi];exact h.st g x y hg hx hy⟩⟩
def zc2{f g:Q1x}(hf:∀x,x<n->Tb a b (f x))(hg:∀x,x<m->Tb a b (g x))(x:Nat)(hx:x<n+m):Tb a b (jn n f g x):=by
 unfold jn;by_cases z:x<n
 ·rw[qg z];exact hf x z
 ·rw[qm z];exact hg (x - n) (by omega)
def j3.add(A:j3 n s fi st la a b)(B:j3 m s gi su lb a b):j3 (n+m) s (jn n fi gi) (xT n st su) (jn n la lb) a b where
 fi:=zc2 A.fi B.fi
 st:=λg x y hg hx hy=>by
  unfold xT jnM;by_cases z:x<n
  ·rw[qg z];exact zc2 (λy hy=>A.st g x y hg z hy) (λy _=>Tb.zero _ _) y hy
  ·rw[qm z];exact zc2 (λy _=>Tb.zero _ _) (λy hy=>B.st g (x - n) y hg (by omega) hy) y hy
 la:=zc2 A.la B.la
end
end L2.Fu
namespace L2.Fu
open PySem WS WD WD.DT
open PySem.Builtin.Int (intBits)
section
variable{n m s β:Nat}{fi gi la lb:Q1x}{st su:Q3x}{CS:AdX}
def j3.mach{a b k:Nat}(h:j3 n s fi st la a b)(hk:a<=k)(hb:b+3*(k - a)<=8*k):Mach n s fi st la k:=⟨λx hx=>(h.fi x hx).sk hk hb,λg x y hg hx hy=>(h.st g x y hg hx hy).sk hk hb,λx hx=>(h.la x hx).sk hk hb⟩
def zeC(w:LNt):wt (n+m) (xT n st su) (jn n fi gi) (jn n la λi=>lb i*(-1)) w=wt n st fi la w - wt m su gi lb w:=by
 rw[VP w (jn n fi gi) fi gi λ_ _=>rfl];have e:wt m su gi (λi=>lb i*(-1)) w=wt m su gi lb w*(-1):=by
  unfold wt;rw[<-zT];exact zi m λi _=>by grind
 rw[e];grind
end
end L2.Fu
namespace L2.Fu
open PySem PySem.Spec PyProof.Rows WS WD WD.DT
section
variable{n s:Nat}{fi la:Q1x}{st:Q3x}{i j:Nat}{c:Rat}
theorem UD(hi:i<n)(hj:j<n)(hij:i≠j):∀(u:LNt)(r:Q1x),zV n (wU i j c st) (trn i j c r) u=trn i j c (zV n st r u)
 |[],_=>rfl
 |g::u,r=>by
  show zV n (wU i j c st) (led n (trn i j c r) (wU i j c st g)) u=trn i j c (zV n st (led n r (st g)) u)
  rw[show led n (trn i j c r) (wU i j c st g)=trn i j c (led n r (st g)) from funext λb=>zaj hi hj hij r g b];exact UD hi hj hij u _
def zbz{a b:Nat}{f:Q1x}(hi:i<n)(hj:j<n)(hf:∀x,x<n->Tb a b (f x))(hc:Tb 1 5 c)(x:Nat)(hx:x<n):Tb (a+1) (b+6) (trn i j c f x):=by
 unfold trn;split
 ·have h1:Tb (a+1) (b+5) (f j):=(hf j hj).up (by omega) (by omega);have h2:Tb (a+1) (b+5) (c*f i):=by
   have:=hc.mul (hf i hi);rw[pq 1 a,pq 5 b] at this;exact this
  have:=InB.add h1 h2;rw[<-Nat.two_mul,<-Nat.pow_succ'] at this;exact this
 ·exact(hf x hx).up (by omega) (by omega)
def zgh{a b:Nat}(hi:i<n)(hj:j<n)(A:j3 n s fi st la a b)(hc:Tb 1 5 c):j3 n s (trn i j c fi) (wU i j c st) (trn j i (-c) la) (a+2) (b+12) where
 fi:=λx hx=>(zbz hi hj A.fi hc x hx).up (by omega) (by omega)
 st:=λg x y hg hx hy=>by
  have R:∀x,x<n->∀y,y<n->Tb (a+1) (b+6) (trn i j c (st g x) y):=λx hx=>zbz hi hj (λy hy=>A.st g x y hg hx hy) hc
  unfold wU;split
  ·have h1:Tb (a+2) (b+11) (trn i j c (st g i) y):=(R i hi y hy).up (by omega) (by omega);have h2:Tb (a+2) (b+11) (-c*trn i j c (st g j) y):=by
    have:=hc.neg.mul (R j hj y hy);rw[show 1+(a+1)=a+2 by omega,show 5+(b+6)=b+11 by omega] at this;exact this
   have:=InB.add h1 h2;rw[<-Nat.two_mul,<-Nat.pow_succ'] at this;exact this
  ·exact(R x hx y hy).up (by omega) (by omega)
 la:=λx hx=>(zbz hj hi A.la hc.neg x hx).up (by omega) (by omega)
end
def zhX{n m:Nat}{st su:Q3x}(g:Nat)(r q:Q1x)(x:Nat)(hx:x<n+m):led (n+m) (jn n r q) (xT n st su g) x=jn n (led n r (st g)) (led m q (su g)) x:=by
 show sumTo (n+m) (λa=>jn n r q a*xT n st su g a x)=_
 rw[jA];have e1:∀a,a<n->jn n r q a*xT n st su g a x=if x<n then r a*st g a x else 0:=λa ha=>by
  unfold xT jnM jn;rw[qg ha,qg ha];split
  ·rfl
  ·exact kR _
 have e2:∀a,a<m->jn n r q (n+a)*xT n st su g (n+a) x=if x<n then 0 else q a*su g a (x - n):=λa ha=>by
  rw[zco];unfold xT jnM jn;rw[qm (show ¬n+a<n by omega),show n+a - n=a by omega];split
  ·exact kR _
  ·rfl
 rw[zi n e1,zi m e2];unfold jn;by_cases h:x<n
 ·simp only [qg h];rw[yl];show _=sumTo n λa=>r a*st g a x
  grind
 ·simp only [qm h];rw[yl];show _=sumTo m λa=>q a*su g a (x - n)
  grind
theorem Vf{n m:Nat}{st su:Q3x}:∀(u:LNt)(r q f:Q1x),(∀x,x<n+m->f x=jn n r q x)->∀x,x<n+m->zV (n+m) (xT n st su) f u x=jn n (zV n st r u) (zV m su q u) x
 |[],_,_,_,h,x,hx=>h x hx
 |g::u,r,q,f,h,x,hx=>by
  show zV (n+m) (xT n st su) (led (n+m) f (xT n st su g)) u x=jn n (zV n st (led n r (st g)) u) (zV m su (led m q (su g)) u) x
  refine Vf u _ _ _ (λy hy=>?_) x hx;rw[<-zhX g r q y hy];exact zi _ λa ha=>by rw[h a ha]
def zk5{c:Int}{r:Nat}(h:c.fmod 2=0)(e:yr (.int c) (.int 2)=some (.int (r:Int))):r=0:=by
 have e2:yr (.int c) (.int 2)=some (.int (c.fmod 2)):=yE (by decide);rw[e2,h] at e;have e3:PyData.int 0=PyData.int (r:Int):=qZ e
 have e4:(0:Int)=(r:Int):=by injection e3
 omega
theorem zah{m:Nat}{su:Q3x}:∀(u:LNt)(r:Q1x),(∀x,x<m->r x=0)->∀x,x<m->zV m su r u x=0
 |[],_,h,x,hx=>h x hx
 |g::u,r,h,x,hx=>zah u _ (λy _=>by
  show sumTo m (λa=>r a*su g a y)=0
  rw[zi m λa ha=>(by rw[h a ha,kg]:r a*su g a y=0),yl]) x hx
def zb3{n x:Nat}(f:Q1x)(hx:x<n):sumTo n (λa=>f a*if a=x then 1 else 0)=f x:=by
 rw[xU (λa=>f a*if a=x then 1 else 0) n hx λi _ hi=>by rw[qm hi,kR],qg rfl,Rat.mul_one]
def zgW{n x:Nat}(f:Q1x)(hx:¬x<n):sumTo n (λa=>f a*if a=x then 1 else 0)=0:=by
 rw[zi n λa ha=>(by rw[qm (by omega),kR]:f a*(if a=x then 1 else 0)=0),yl]
section
variable{n s:Nat}{fi la:Q1x}{st:Q3x}{i j:Nat}{c:Rat}{ev:Prop}{n0:Nat}{b0:List Nat->Nat->Rat}
structure Kw(ev:Prop)(n0:Nat)(b0:List Nat->Nat->Rat)(n s:Nat)(fi:Q1x)(st:Q3x)(la:Q1x)(t:Nat):Prop where
 row:∀u:List Nat,(∀g∈u,g<s)->∀x,x<n->Tb (1+u.length+t) (5+u.length*9+6*t) (zV n st fi u x)
 mt:j3 n s fi st la (1+2*t) (5+12*t)
 lin:ev->∃Bm:Nat->Nat->Rat,∀u x,x<n->zV n st fi u x=sumTo n0 λa=>b0 u a*Bm a x
def Kw.new(A:j3 n s fi st la 1 5)(hn:n<=16)(hl:ev->∃Bm:Nat->Nat->Rat,∀u x,x<n->zV n st fi u x=sumTo n0 λa=>b0 u a*Bm a x):Kw ev n0 b0 n s fi st la 0 where
 row:=λu hg x hx=>by
  have:=A.wm.row (v:=4) (by omega) u.length u rfl hg x hx;rw[Nat.mul_one] at this;exact this
 mt:=A
 lin:=hl
def Kw.mix{t:Nat}(A:Kw ev n0 b0 n s fi st la t)(hi:i<n)(hj:j<n)(hij:i≠j)(hc:Tb 1 5 c):Kw ev n0 b0 n s (trn i j c fi) (wU i j c st) (trn j i (-c) la) (t+1) where
 row:=λu hg x hx=>by
  rw[UD hi hj hij];exact zbz hi hj (A.row u hg) hc x hx
 mt:=zgh hi hj A.mt hc
 lin:=λh=>by
  have⟨Bm,e⟩:=A.lin h;refine⟨λa=>trn i j c (Bm a),λu x hx=>?_⟩;rw[UD hi hj hij];by_cases hx':x=j
  ·show(if x=j then zV n st fi u j+c*zV n st fi u i else zV n st fi u x)=sumTo n0 λa=>b0 u a*if x=j then Bm a j+c*Bm a i else Bm a x
   simp only [qg hx'];rw[e u j hj,e u i hi,k8 c,<-zT,<-JR];exact zi n0 λa _=>by grind
  ·show(if x=j then zV n st fi u j+c*zV n st fi u i else zV n st fi u x)=sumTo n0 λa=>b0 u a*if x=j then Bm a j+c*Bm a i else Bm a x
   simp only [qm hx'];exact e u x hx
def Kw.up{t:Nat}(A:Kw ev n0 b0 n s fi st la t):Kw ev n0 b0 n s fi st la (t+1) where
 row:=λu hg x hx=>(A.row u hg x hx).up (by omega) (by omega)
 mt:=A.mt.up (by omega) (by omega)
 lin:=A.lin
end
section
variable{n m s:Nat}{fi gi:Q1x}{st su:Q3x}{la lb:Q1x}
def Wb(c:Int){more:Nat}(hm:n+more<=16)(hs:s<=42)(A:Z1 n s fi st la):∃fi' st' la',ve [zm n s fi st la,.int c,.int (more:Int)]=some (zm (n+more) s fi' st' la')/\Kw (c.fmod 2=0) n (zV n st fi) (n+more) s fi' st' la' 3/\∀ws,wt (n+more) st' fi' la' ws=wt n st fi la ws:=by
 have ln0:∀(n':Nat)(fi:Q1x)(st:Q3x)(la:Q1x)(ρ:Ro),gv 0 ρ=some (zm n' s fi st la)->zd yb (aC (op2 ixD (gv 0) (cst (.int 0))) a0) ρ=some (.int (n':Int)):=λn' fi st la ρ h=>(zc (zk ((zb h rfl).trans jT) rfl)).trans (xN n' _)
 have step1:∃fi1 st1 la1 c5 c6,(ifS (zA (op2 gtI (gv 2) (cst (.int 0)))) (sq (zO 5 (zd yZ (aC (gv 1) (aC (gv 2) (aC (gv 4) a0)))))
   (sq (zO 6 (zd zX (aC (yB (zZ 1 [] (xl (aC (gv 2) a0)) (bN 0) (yM (aC (cst (.int 0)) (aC (cst (.int 1)) a0))))) a0)))
   (ifS (zA (op2 eqD (op2 yr (gv 1) (cst (.int 2))) (cst (.int 0)))) (zO 0 (zd xS (aC (gv 0) (aC (yM (aC (gv 6) (aC (op2 ixD (gv 5) (cst (.int 1))) (aC (op2 ixD (gv 5) (cst (.int 2))) a0)))) a0)))) (zO 0 (zd xS (aC (gv 0) (aC (yM (aC (op2 ixD (gv 5) (cst (.int 0))) (aC (op2 ixD (gv 5) (cst (.int 1))) (aC (gv 6) a0)))) a0))))))) s0)
   [.pu (zm n s fi st la),.pu (.int c),.pu (.int (more:Int)),.pu (.int (n:Int)),.pu (.int (s:Int)),.no,.no,.no,.no,.no]=some (.nx [.pu (zm (n+more) s fi1 st1 la1),.pu (.int c),.pu (.int (more:Int)),.pu (.int (n:Int)),.pu (.int (s:Int)),c5,c6,.no,.no,.no])/\Kw (c.fmod 2=0) n (zV n st fi) (n+more) s fi1 st1 la1 0/\∀ws,wt (n+more) st1 fi1 la1 ws=wt n st fi la ws:=by
  by_cases z:more=0
  ·subst z;exact⟨fi,st,la,.no,.no,(y4 (zw rfl)).trans rfl,Kw.new A.tb (by omega) (λ_=>⟨λa x=>if a=x then 1 else 0,λu x hx=>(zb3 _ hx).symm⟩),λws=>rfl⟩
  ·obtain⟨gi,su,lb,e,B⟩:=vx c (n:=more) (s:=s) (by omega) hs;have B1:=B.tb;have none:zd zX (aC (yB (zZ 1 [] (xl (aC (gv 2) a0)) (bN 0) (yM (aC (cst (.int 0)) (aC (cst (.int 1)) a0))))) a0) [.pu (zm n s fi st la),.pu (.int c),.pu (.int (more:Int)),.pu (.int (n:Int)),.pu (.int (s:Int)),.pu (zm more s gi su lb),.no,.no,.no,.no]=some (yy more λ_=>0):=(zc (xs:=[.list ((List.range more).map λ_=>fr 0)]) (zk (yj (j9 (n:=more) rfl (by omega) λi _=>yY.trans rfl)) rfl)).trans rfl
   obtain⟨r2,hr2,er2⟩:=U8 (i:=c) (m:=2) (by decide);have cond:zA (op2 eqD (op2 yr (gv 1) (cst (.int 2))) (cst (.int 0))) [.pu (zm n s fi st la),.pu (.int c),.pu (.int (more:Int)),.pu (.int (n:Int)),.pu (.int (s:Int)),.pu (zm more s gi su lb),.pu (yy more λ_=>0),.no,.no,.no]=some (decide ((r2:Int)=0)):=zw ((zb ((zb rfl rfl).trans er2) rfl).trans (wD _ _));have gt:zA (op2 gtI (gv 2) (cst (.int 0))) [.pu (zm n s fi st la),.pu (.int c),.pu (.int (more:Int)),.pu (.int (n:Int)),.pu (.int (s:Int)),.no,.no,.no,.no,.no]=some true:=(zw (show _=some (PyData.bool (decide ((0:Int)<(more:Int)))) from rfl)).trans (by rw[qy (by omega)])
   have pre:∀g:Ro->Option Fl,_:=λg=>(jN gt (f:=sq (zO 5 (zd yZ (aC (gv 1) (aC (gv 2) (aC (gv 4) a0))))) (sq (zO 6 (zd zX (aC (yB (zZ 1 [] (xl (aC (gv 2) a0)) (bN 0) (yM (aC (cst (.int 0)) (aC (cst (.int 1)) a0))))) a0))) g)) (g:=s0)).trans ((zq (zD ((zc rfl).trans e))).trans (zq (zD none)))
   by_cases q:r2=0
   ·refine⟨jn n fi λ_=>0,xT n st su,jn n la lb,_,_,(pre _).trans ((jN (cond.trans (by rw[qy (by omega)]))).trans ((zD (d:=zm (n+more) s (jn n fi λ_=>0) (xT n st su) (jn n la lb)) ((zc (zk rfl (zk (x:=zm more s (λ_=>0) su lb) (Ul rfl ((zb rfl rfl).trans j7) ((zb rfl rfl).trans ug)) rfl))).trans (wX (by omega) (by omega) hs))).trans rfl)),Kw.new (A.tb.add ⟨λ_ _=>Tb.zero 1 5,B1.st,B1.la⟩) (by omega) (λ_=>⟨λa x=>if a=x then 1 else 0,λu x hx=>by
     rw[Vf u fi (λ_=>0) _ (λ_ _=>rfl) x hx];unfold jn;split
     ·rename_i h;exact(zb3 _ h).symm
     ·rename_i h;rw[zgW _ h];exact zah u _ (λ_ _=>rfl) _ (by omega)⟩),λws=>?_⟩
    rw[VP ws _ fi (λ_=>0) λx _=>rfl,J9 ws _ λx _=>rfl];grind
   ·refine⟨jn n fi gi,xT n st su,jn n la λ_=>0,_,_,(pre _).trans ((y4 (cond.trans (by rw[qF (by omega)]))).trans ((zD (d:=zm (n+more) s (jn n fi gi) (xT n st su) (jn n la λ_=>0)) ((zc (zk rfl (zk (x:=zm more s gi su λ_=>0) (Ul ((zb rfl rfl).trans jT) ((zb rfl rfl).trans j7) rfl) rfl))).trans (wX (by omega) (by omega) hs))).trans rfl)),Kw.new (A.tb.add ⟨B1.fi,B1.st,λ_ _=>Tb.zero 1 5⟩) (by omega) (λh=>absurd (zk5 h er2) q),λws=>?_⟩;rw[VP ws _ fi gi λx _=>rfl,zbn];grind
 have⟨fi1,st1,la1,c5,c6,e1,A1,w1⟩:=step1;obtain⟨ρ1,e2,c',fi2,st2,la2,o7,o8,o9,A2,w2,rfl⟩:=u3 (n:=3) (g:=aC (cst (.int 3)) a0) (bd:=bN 7)
  (b:=sq (zO 1 (op2 yr (op2 xb (op2 yA (gv 1) (cst (.int 48271))) (cst (.int 31))) (cst (.int 2147483647))))
   (sq (zO 8 (op2 yr (op2 yg (gv 1) (cst (.int 5))) (zd maxD (aC (cst (.int 1)) (aC (gv 3) a0)))))
   (sq (zO 9 (op2 yr (op2 yg (gv 1) (cst (.int 35))) (zd maxD (aC (cst (.int 1)) (aC (gv 3) a0)))))
   (ifS (zA (op2 neD (gv 8) (gv 9))) (zO 0 (zd wK (aC (gv 0) (aC (gv 8) (aC (gv 9) (aC (zd xa (aC (op2 yg (gv 1) (cst (.int 300))) a0)) a0)))))) s0))))
  (ρ0:=[.pu (zm (n+more) s fi1 st1 la1),.pu (.int c),.pu (.int (more:Int)),.pu (.int ((n+more:Nat):Int)),.pu (.int (s:Int)),c5,c6,.no,.no,.no])
  (λi ρ=>∃(c':Int)(fi':Q1x)(st':Q3x)(la':Q1x)(o7 o8 o9:Sl),Kw (c.fmod 2=0) n (zV n st fi) (n+more) s fi' st' la' i/\(∀ws,wt (n+more) st' fi' la' ws=wt n st fi la ws)/\ρ=[.pu (zm (n+more) s fi' st' la'),.pu (.int c'),.pu (.int (more:Int)),.pu (.int ((n+more:Nat):Int)),.pu (.int (s:Int)),c5,c6,o7,o8,o9])
  rfl (by decide) ⟨c,fi1,st1,la1,.no,.no,.no,A1,w1,rfl⟩ λt ρ ht ⟨c',fi',st',la',o7,o8,o9,A',w',q⟩=>by
   subst q;obtain⟨u,hu,eu⟩:=U8 (i:=c'*48271+31) (m:=2147483647) (by decide);have mx:∀ρ:Ro,gv 3 ρ=some (.int ((n+more:Nat):Int))->zd maxD (aC (cst (.int 1)) (aC (gv 3) a0)) ρ=some (.int ((max 1 (n+more):Nat):Int)):=λρ h=>by
    refine(zc (zk rfl (zk h rfl))).trans ?_;show some (PyData.int (if ((n+more:Nat):Int)>1 then ((n+more:Nat):Int) else 1))=_
    congr 2
    split<;>omega
   obtain⟨i,hi,ei⟩:=U8 (i:=(u:Int).fdiv 5) (m:=max 1 (n+more)) (by omega);obtain⟨j,hj,ej⟩:=U8 (i:=(u:Int).fdiv 35) (m:=max 1 (n+more)) (by omega);obtain⟨qc,hqc,sqc⟩:=wk ((u:Int).fdiv 300);have pre:∀g:Ro->Option Fl,(sq (zO 1 (op2 yr (op2 xb (op2 yA (gv 1) (cst (.int 48271))) (cst (.int 31))) (cst (.int 2147483647))))
     (sq (zO 8 (op2 yr (op2 yg (gv 1) (cst (.int 5))) (zd maxD (aC (cst (.int 1)) (aC (gv 3) a0)))))
     (sq (zO 9 (op2 yr (op2 yg (gv 1) (cst (.int 35))) (zd maxD (aC (cst (.int 1)) (aC (gv 3) a0))))) g)))
     [.pu (zm (n+more) s fi' st' la'),.pu (.int c'),.pu (.int (more:Int)),.pu (.int ((n+more:Nat):Int)),.pu (.int (s:Int)),c5,c6,.pu (.int (t:Int)),o8,o9]=g [.pu (zm (n+more) s fi' st' la'),.pu (.int (u:Int)),.pu (.int (more:Int)),.pu (.int ((n+more:Nat):Int)),.pu (.int (s:Int)),c5,c6,.pu (.int (t:Int)),.pu (.int (i:Int)),.pu (.int (j:Int))]:=λg=>by
    refine(zq (zD (d:=.int (u:Int)) ((zb ((zb ((zb rfl rfl).trans (JK (j:=48271) (by decide))) rfl).trans rfl) rfl).trans eu))).trans ?_;refine(zq (zD (d:=.int (i:Int)) ((zb ((zb rfl rfl).trans (ym (j:=5) (by decide) (by decide))) (mx _ rfl)).trans ei))).trans ?_;exact zq (zD (d:=.int (j:Int)) ((zb ((zb rfl rfl).trans (ym (j:=35) (by decide) (by decide))) (mx _ rfl)).trans ej))
   have cond:zA (op2 neD (gv 8) (gv 9)) [.pu (zm (n+more) s fi' st' la'),.pu (.int (u:Int)),.pu (.int (more:Int)),.pu (.int ((n+more:Nat):Int)),.pu (.int (s:Int)),c5,c6,.pu (.int (t:Int)),.pu (.int (i:Int)),.pu (.int (j:Int))]=some (!decide ((i:Int)=(j:Int))):=zw ((zb rfl rfl).trans (vR _ _));by_cases z:i=j
   ·exact⟨_,_,rfl,(pre _).trans ((y4 (cond.trans (qG (λb=>some (!b)) (qy (by omega))))).trans rfl),(u:Int),fi',st',la',.pu (.int (t:Int)),.pu (.int (i:Int)),.pu (.int (j:Int)),A'.up,w',rfl⟩
   ·have hi':i<n+more:=by omega
    have hj':j<n+more:=by omega
    refine⟨_,_,rfl,(pre _).trans ((jN (cond.trans (qG (λb=>some (!b)) (qF (by omega))))).trans (zD ((zc (zk rfl (zk rfl (zk rfl (zk ((zc (zk ((zb rfl rfl).trans (ym (j:=300) (by decide) (by decide))) rfl)).trans hqc) rfl))))).trans (zhf (k:=13) (by omega) hs hi' hj' (by decide) (A'.mt.mach (by omega) (by omega)) sqc.sk)))),(u:Int),_,_,_,.pu (.int (t:Int)),.pu (.int (i:Int)),.pu (.int (j:Int)),A'.mix hi' hj' z sqc.tb,λws=>(zc1 hi' hj' z ws fi').trans (w' ws),rfl⟩
 refine⟨fi2,st2,la2,zM rfl ?_,A2,w2⟩;refine(zq (zD (ln0 n fi st la _ rfl))).trans ((zq (zD (U0 (i:=0) rfl))).trans ((zq e1).trans ((zq (zD (d:=.int ((n+more:Nat):Int)) ((zb rfl rfl).trans (by rw[pK];rfl)))).trans ((zq e2).trans (zF rfl)))))
end
end L2.Fu
namespace WD.DT
open WS WD
theorem zeB{n:Nat}:∀V:List (Nat->Rat),∃R T F C d,Sp n R T F C d/\R.length=T.length/\T.length<=V.length/\∀v∈V,In n R v
 |[]=>⟨[],[],List.range n,(List.range n).map xG,1,zd0 n,rfl,qk _,λv hv=>by cases hv⟩
 |v::V=>by
  have⟨R,T,F,C,d,h,l1,l2,hV⟩:=zeB (n:=n) V;by_cases hv:In n R v
  ·refine⟨R,T,F,C,d,h,l1,pj l2,λu hu=>?_⟩;rcases qw.mp hu with z|z
   ·rw[z];exact hv
   ·exact hV u z
  ·have hn:¬∀c∈C,dq n (rt c) v=0:=λq=>hv ((h.holds v).mp q)
   have⟨c,hc⟩:=Classical.not_forall.mp hn;have⟨hcm,hc0⟩:=Classical.not_imp.mp hc;obtain⟨i,hi⟩:=qX hcm;have hiF:i<F.length:=by rw[<-h.lenC];exact(qf.mp hi).1
   have hg:F[i]?=some F[i]:=qo hiF;have hD:0<x9 ((List.range n).map v):=YU _
   have hden:∀x,x<n->(v x).den ∣ x9 ((List.range n).map v):=λx hx=>Zg _ _ (qY.mpr ⟨x,qK.mpr hx,rfl⟩)
   let z:Nat->Int:=λx=>vF (v x) (x9 ((List.range n).map v))
   have hz:∀x,x<n->(z x:Rat)=v x*((x9 ((List.range n).map v):Nat):Rat):=λx hx=>vz (hden x hx)
   have ez:∀w:Nat->Rat,dq n w (rt z)=dq n w v*((x9 ((List.range n).map v):Nat):Rat):=λw=>by
    show sumTo n (λx=>w x*(z x:Rat))=sumTo n (λx=>w x*v x)*_
    rw[<-zT];exact zi n λx hx=>by rw[hz x hx];grind
   have hp:dt n c z≠0:=λq=>by
    have:=ez (rt c);rw[JG,q] at this;rcases kn.mp this.symm with y|y
    ·exact hc0 y
    ·exact jh hD y
   refine⟨_,_,_,_,_,h.take hi hg hp,by rw[qU,qx,l1];rfl,by rw[qx,qU];exact nj l2,λu hu w hw=>?_⟩;rcases qw.mp hu with y|y
   ·rw[y]
    have:=hw z (ki ..);rw[ez w] at this;rcases kn.mp this with q|q
    ·exact q
    ·exact absurd q (jh hD)
   ·exact hV u y w λr hr=>hw r (qD _ hr)
def zaI{k:Nat}(V:LQr)(h:V.length<k):∃w:Nat->Rat,(∃i,i<k/\w i≠0)/\∀v∈V,dq k w v=0:=by
 obtain⟨R,T,F,C,d,hs,l1,l2,hV⟩:=zeB (n:=k) V;have f:=hs.few;have hF:0<F.length:=by omega
 have hf:F[0]?=some F[0]:=qo hF;have hC:0<C.length:=by rw[hs.lenC];exact hF
 have hc:C[0]?=some C[0]:=qo hC;refine⟨rt C[0],⟨F[0],(hs.free hf).1,?_⟩,λv hv=>hV v hv _ λr hr=>?_⟩
 ·show((C[0] F[0]:Int):Rat)≠0
  rw[hs.at hc hf];intro q;exact hs.d0 (by exact_mod_cast q)
 ·rw[JG,hs.orth hc hf hr];rfl
def zgK{n n0:Nat}{R:LZr}{T F:LNt}{C:LZr}{d:Int}(h:Sp n R T F C d)(hl:R.length=T.length){β Bm:Q2x}(hr:∀i r,R[i]?=some r->∀x,x<n->(r x:Rat)=sumTo n0 λa=>β i a*Bm a x):R.length<=n0:=by
 refine kh λhk=>?_
 obtain⟨γ,⟨j,hj,gj⟩,gV⟩:=zaI (k:=R.length) ((List.range n0).map λa i=>β i a) (by rw[qe,qu];exact hk);let ri:Nat->Nat->Rat:=λi x=>((R.getD i λ_=>0) x:Rat)
 have eri:∀i,i<R.length->∀x,x<n->ri i x=sumTo n0 λa=>β i a*Bm a x:=λi hi x hx=>by
  have e:R[i]?=some R[i]:=qo hi;have e2:ri i x=(R[i] x:Rat):=by show(((R.getD i λ_=>0) x:Int):Rat)=_;rw[qL,e];rfl
  rw[e2];exact hr i _ e x hx
 have z0:∀x,x<n->sumTo R.length (λi=>γ i*ri i x)=0:=λx hx=>by
  have e1:∀i,i<R.length->γ i*ri i x=sumTo n0 λa=>γ i*β i a*Bm a x:=λi hi=>by
   rw[eri i hi x hx,k8,<-zT];exact zi n0 λa _=>by grind
  rw[zi _ e1,jE];rw[zi n0 (g:=λ_=>0) λa ha=>?_,yl];rw[zT (Bm a x) (λi=>γ i*β i a)]
  have:=gV _ (qY.mpr ⟨a,qK.mpr ha,rfl⟩);rw[show sumTo R.length (λi=>γ i*β i a)=0 from this,kg]
 obtain⟨y,⟨t0,ht0,yt0⟩,yV⟩:=zaI (k:=R.length) (((List.range R.length).filter λi=>i≠j).map λi t=>ri i (T.getD t 0)) (by
  rw[qe]
  have:((List.range R.length).filter λi=>i≠j).length<(List.range R.length).length:=by
   refine List.length_filter_lt_length_iff_exists.mpr ⟨j,qK.mpr hj,by simp⟩
  rw[qu] at this;exact this)
 have hT:∀t,t<R.length->T.getD t 0<n/\T[t]?=some (T.getD t 0):=λt ht=>by
  have e:T[t]?=some T[t]:=qo (by omega);have e2:T.getD t 0=T[t]:=by rw[qL,e];rfl
  rw[e2];exact⟨(h.mem _).mp (qt.mpr (.inl (qH e))),e⟩
 have ndT:T.Nodup:=(gJ.mp h.nd).1;let w:Nat->Rat:=λx=>sumTo R.length λt=>if T.getD t 0=x then y t else 0
 have wd:∀f:Nat->Rat,dq n w f=sumTo R.length λt=>y t*f (T.getD t 0):=λf=>by
  show sumTo n (λx=>(sumTo R.length λt=>if T.getD t 0=x then y t else 0)*f x)=_
  rw[zi n λx _=>(zT (f x) (λt=>if T.getD t 0=x then y t else 0) R.length).symm,jE];refine zi _ λt ht=>?_
  rw[xU (λx=>(if T.getD t 0=x then y t else 0)*f x) n (hT t ht).1 λx _ hx=>by rw[qm (gw hx),kg],qg rfl]
 have wi:∀i,i<R.length->i≠j->dq n w (ri i)=0:=λi hi hij=>by
  rw[wd];exact yV _ (qY.mpr ⟨i,ke.mpr ⟨qK.mpr hi,by simpa using hij⟩,rfl⟩)
 have wj:dq n w (ri j)=0:=by
  have s0:sumTo R.length (λi=>dq n w (ri i)*γ i)=0:=by
   have e1:∀i,i<R.length->dq n w (ri i)*γ i=sumTo n λx=>w x*(γ i*ri i x):=λi _=>by
    show sumTo n (λx=>w x*ri i x)*γ i=_
    rw[<-zT];exact zi n λx _=>by grind
   rw[zi _ e1,jE,zi n (g:=λ_=>0) λx hx=>?_,yl];have e2:∀i,i<R.length->w x*(γ i*ri i x)=γ i*ri i x*w x:=λi _=>k8 _ _
   rw[zi _ e2,zT,z0 x hx,kg]
  rw[xU (λi=>dq n w (ri i)*γ i) R.length hj λi hi hij=>by rw[wi i hi hij,kg]] at s0;rcases kn.mp s0 with q|q
  ·exact q
  ·exact absurd q gj
 have all0:=h.ind w (λx _ hx=>by
  show sumTo R.length (λt=>if T.getD t 0=x then y t else 0)=0
  rw[zi _ (g:=λ_=>0) λt ht=>qm λe=>hx (by rw[<-e];exact qH (hT t ht).2),yl]) λr hr'=>by
   obtain⟨i,hi⟩:=qX hr';have hil:=(qf.mp hi).1;have e:ri i=rt r:=by funext x;show(((R.getD i λ_=>0) x:Int):Rat)=_;rw[qL,hi];rfl
   rw[<-e];by_cases hij:i=j
   ·rw[hij];exact wj
   ·exact wi i hil hij
 have:=all0 (T.getD t0 0) (hT t0 ht0).1;have e:w (T.getD t0 0)=y t0:=by
  show sumTo R.length (λt=>if T.getD t 0=T.getD t0 0 then y t else 0)=_
  rw[xU (λt=>if T.getD t 0=T.getD t0 0 then y t else 0) R.length ht0 λt ht hne=>qm λq=>zhE ndT (hT t ht).2 (hT t0 ht0).2 hne q,qg rfl]
 exact yt0 (e.symm.trans this)
def zfc{n n0:Nat}{R:LZr}{T F:LNt}{C:LZr}{d:Int}(h:Sp n R T F C d)(hl:R.length=T.length){Bm:Q2x}(hr:∀r∈R,∃β:Nat->Rat,∀x,x<n->(r x:Rat)=sumTo n0 λa=>β a*Bm a x):R.length<=n0:=by
 have:∀i:Nat,∃β:Nat->Rat,∀r:Nat->Int,R[i]?=some r->∀x,x<n->(r x:Rat)=sumTo n0 λa=>β a*Bm a x:=λi=>by
  cases e:R[i]? with
  |none=>exact⟨λ_=>0,λr q=>by cases q⟩
  |some r=>
   obtain⟨β,hβ⟩:=hr r (qH e);exact⟨β,λr' q=>by cases q;exact hβ⟩
 exact zgK h hl (β:=λi=>Classical.choose (this i)) λi r e=>Classical.choose_spec (this i) r e
end WD.DT
namespace K09
open PySem PySem.Spec PyProof.Rows L2 L2.Fu
def WC(CS:AdX):RFx:=(sq (zO 2 (zd (yp CS) (aC (gv 0) (aC (gv 1) a0))))
 (sq (ifS (zA (op2 UH (op2 ixD (gv 2) (cst (.int 0))) (cst .none))) (retS (cst .none)) s0)
 (UJ (zZ 1 [] (yI (op2 ixD (gv 2) (cst (.int 1)))) (bN 0) (yB (zZ 1 [] (yI (gv 0)) (bN 0) (yM (aC (gv 0) (aC (cst (.int 1)) a0)))))))))
def y9(CS:AdX):List PyData->Option (Option (List PyData)):=fnU 3 2 (WC CS)
def WN:RFx:=(sq (zO 3 (zd yb (aC (op2 ixD (gv 0) (cst (.int 0))) a0)))
 (sq (ifS (zA (op2 eqD (op2 yr (gv 1) (cst (.int 4))) (cst (.int 0)))) (retS (zd yZ (aC (gv 2) (aC (op2 yr (op2 yg (gv 1) (cst (.int 4))) (cst (.int 5))) (aC (zd yb (aC (op2 ixD (gv 0) (cst (.int 1))) a0)) a0))))) s0)
 (sq (ifS (zA (op2 ltI (op2 yr (gv 1) (cst (.int 4))) (cst (.int 3)))) (retS (zd ve (aC (gv 0) (aC (gv 2) (aC (op2 yr (op2 yg (gv 1) (cst (.int 4))) (cst (.int 3))) a0))))) s0)
 (sq (x8 4 (xc vD (aC (op2 ixD (gv 0) (cst (.int 0))) a0)))
 (sq (ifS (zA (op2 gtI (gv 3) (cst (.int 0)))) (siS 4 (op2 yr (gv 2) (gv 3)) (zd xa (aC (op2 yg (gv 2) (cst (.int 7))) a0))) s0)
 (retS (yM (aC (zd zX (aC (gb 4) a0)) (aC (op2 ixD (gv 0) (cst (.int 1))) (aC (op2 ixD (gv 0) (cst (.int 2))) a0))))))))))
def Jq:LPx:=fnF 5 3 WN
def wz:RFx:=(sq (ifS (vQ (zA (op1 (YJ "list") (gv 0)))) (retS (cst (.bool false))) s0)
 (sq (jv (yI (gv 0)) (bN 2) (ifS (orT (vQ (zA (op1 (YJ "list") (gv 2)))) (vQ (zA (zd jj (aC (zd zX (aC (gv 2) a0)) (aC (gv 1) a0)))))) (retS (cst (.bool false))) s0))
 (retS (cst (.bool true)))))
def jV:LPx:=fnF 3 2 wz
def YB:RFx:=(sq (zO 2 (zd zH (aC (gv 0) (aC (cst (.int 2)) a0))))
 (sq (zO 3 (zd yZ (aC (zd zH (aC (gv 0) (aC (cst (.int 1)) a0))) (aC (op2 xb (cst (.int 1)) (op2 yr (gv 2) (cst (.int 3)))) (aC (gv 1) a0)))))
 (sq (zO 4 (zd ve (aC (gv 3) (aC (op2 yA (cst (.int 2)) (op2 yr (zd zH (aC (gv 0) (aC (cst (.int 1)) a0))) (op2 zbS (cst (.int 10)) (cst (.int 9))))) (aC (op2 xb (cst (.int 5)) (op2 yr (op2 yg (gv 2) (cst (.int 3))) (cst (.int 6)))) a0)))))
 (sq (zO 5 (zd ve (aC (gv 3) (aC (op2 yA (cst (.int 2)) (op2 yr (zd zH (aC (gv 0) (aC (cst (.int 3)) a0))) (op2 zbS (cst (.int 10)) (cst (.int 9))))) (aC (op2 xb (cst (.int 5)) (op2 yr (op2 yg (gv 2) (cst (.int 18))) (cst (.int 6)))) a0)))))
 (sq (x8 6 (xc vD (aC (op2 ixD (gv 5) (cst (.int 2))) a0)))
 (sq (ifS (zA (op2 eqD (op2 yr (op2 yg (gv 2) (cst (.int 108))) (cst (.int 2))) (cst (.int 1)))) (sq (zO 7 (op2 yr (op2 yg (zd zH (aC (gv 0) (aC (cst (.int 3)) a0))) (cst (.int 7))) (zd yb (aC (gb 6) a0))))
 (siS 6 (gv 7) (zd xu (aC (op2 ixD (gb 6) (gv 7)) (aC (yM (aC (cst (.int 1)) (aC (cst (.int 1)) a0))) a0))))) s0)
 (retS (yM (aC (gv 4) (aC (yM (aC (op2 ixD (gv 5) (cst (.int 0))) (aC (op2 ixD (gv 5) (cst (.int 1))) (aC (zd zX (aC (gb 6) a0)) a0)))) a0))))))))))
def wa:LPx:=fnF 8 2 YB
def zaD(CS:AdX):RFx:=(retS (op2 ixD (zd (yp CS) (aC (gv 0) (aC (gv 1) a0))) (cst (.int 0))))
def ud(CS:AdX):LPx:=fnF 2 2 (zaD CS)
def zjF(CS:AdX):RFx:=(sq (zO 1 (op2 xb (cst (.int 1)) (op2 yr (zd zH (aC (gv 0) (aC (cst (.int 0)) a0))) (cst (.int 3)))))
 (sq (zO 2 (zd yZ (aC (zd zH (aC (gv 0) (aC (cst (.int 1)) a0))) (aC (op2 yr (op2 yg (zd zH (aC (gv 0) (aC (cst (.int 0)) a0))) (cst (.int 3))) (cst (.int 5))) (aC (gv 1) a0)))))
 (sq (zO 3 (zd Jq (aC (gv 2) (aC (zd zH (aC (gv 0) (aC (cst (.int 2)) a0))) (aC (zd zH (aC (gv 0) (aC (cst (.int 3)) a0))) a0)))))
 (sq (ifS (zA (op2 eqD (op2 yr (op2 yg (zd zH (aC (gv 0) (aC (cst (.int 0)) a0))) (cst (.int 3))) (cst (.int 12))) (cst (.int 5)))) (zh3 (b2 (bN 2) (bN 3)) (zd wa (aC (gv 0) (aC (gv 1) a0)))) s0)
 (sq (zO 4 (op2 xb (zd yb (aC (op2 ixD (gv 2) (cst (.int 0))) a0)) (zd yb (aC (op2 ixD (gv 3) (cst (.int 0))) a0))))
 (sq (zO 5 (zd (ud CS) (aC (gv 2) (aC (gv 3) a0))))
 (sq (zji 6 (ze1 (y9 CS) (aC (gv 2) (aC (gv 3) a0))))
 (sq (ifS (zA (op2 isD (gv 5) (cst .none))) (sq (ifS (orT (vQ (zA (Vu jV (aC (gb 6) (aC (gv 4) a0))))) (vQ (zA (Vu jH (aC (gv 2) (aC (gv 3) (aC (gb 6) a0))))))) (retS (cst (.bool false))) s0)
 (sq (apS 6 (yB (vL a0)))
 (retS (zd jH (aC (gv 2) (aC (gv 3) (aC (zd (vb CS) (aC (gv 2) (aC (gv 3) a0))) a0))))))) s0)
 (sq (ifS (orT (zA (op2 UH (gb 6) (cst .none))) (orT (vQ (zA (op1 (YJ "tuple") (gv 5)))) (zA (op2 gtI (zd yb (aC (gv 5) a0)) (zd maxD (aC (cst (.int 0)) (aC (op2 Wk (gv 4) (cst (.int 1))) a0))))))) (retS (cst (.bool false))) s0)
 (sq (ifS (zA (op2 eqD (zd yX (aC (gv 2) (aC (gv 5) a0))) (zd yX (aC (gv 3) (aC (gv 5) a0))))) (retS (cst (.bool false))) s0)
 (sq (jv (xl (aC (cst (.int 3)) a0)) (bN 7) (sq (zO 8 (zd Ja (aC (zd zH (aC (gv 0) (aC (op2 xb (cst (.int 4)) (gv 7)) a0))) (aC (gv 1) (aC (cst (.int 4)) a0)))))
 (ifS (zdi (zA (op2 ltT (yM (aC (zd yb (aC (gv 8) a0)) (aC (gv 8) a0))) (yM (aC (zd yb (aC (gv 5) a0)) (aC (gv 5) a0))))) (zA (op2 neD (zd yX (aC (gv 2) (aC (gv 8) a0))) (zd yX (aC (gv 3) (aC (gv 8) a0)))))) (retS (cst (.bool false))) s0)))
 (retS (cst (.bool true))))))))))))))
def zjs(CS:AdX):LPx:=fnF 9 1 (zjF CS)
end K09
namespace K09
open PySem WS WD WD.DT L2 L2.Fu
open PySem.Builtin.Int (intBits)
def zll{n m:Nat}{b:RFx}{ds es:LPd}(hm:ds.length=m)(h:b (ds.map Sl.pu++List.replicate (n - m) .no)=some (.rl es)):fnU n m b ds=some (some es):=by unfold fnU;rw[qg hm,h]
def zky{n m:Nat}{b:RFx}{ds:LPd}(hm:ds.length=m)(h:b (ds.map Sl.pu++List.replicate (n - m) .no)=some (.rt .none)):fnU n m b ds=some none:=by unfold fnU;rw[qg hm,h]
section
variable{n m s β:Nat}{fi gi la lb:Q1x}{st su:Q3x}{CS:AdX}
def zdz{L:WR}{x y:PdX}(h:yp CS [x,y]=some (.tuple [.none,.list (L.map λq=>yu n q.2)]))(hn:n<=42)(hl:L.length<=1000):y9 CS [x,y]=some (some (zC n (KL L))):=by
 refine zll rfl ((zq (zD ((zc rfl).trans h))).trans ((zq ((y4 (zw ?_)).trans rfl)).trans (jX ?_)))
 ·rfl
 ·refine(yi (xs:=L) (e:=λq=>yu n q.2) (d:=λq=>yx n (rt q.2)) (vq rfl) (by omega) λq _=>?_).trans (qG some (show _=(L.map λq=>rt q.2).map (yx n) by rw[kP];rfl));refine yY.trans (yj ?_);exact yi (xs:=List.range n) (e:=λi=>.int (q.2 i)) (d:=λi=>fr (rt q.2 i)) (vq rfl) (by rw[qu];omega) λi _=>yY.trans ((xR rfl (by show 2<=16777216;omega)).trans rfl)
def zdN{x y:PdX}{u:LNt}{d:PdX}(h:yp CS [x,y]=some (.tuple [ya u,d])):y9 CS [x,y]=some none:=zky rfl ((zq (zD ((zc rfl).trans h))).trans (J8 ((jN (zw rfl)).trans (zF rfl))))
def zj2{a b v rk:Nat}(A:j3 n s fi st la a b)(B:j3 m s gi su lb a b)(ha:a<=13)(hb:b+3*(13 - a)<=104)(hN:n+m<=2 ^ v)(hN2:n+m<=42)(hs:s<=42)(hs0:0<s)(hrow:∀u:List Nat,(∀g∈u,g<s)->u.length<=n+m - 1->∃M,0<M/\∀x,x<n+m->InB M (2 ^ β) (zV (n+m) (xT n st su) (jn n fi gi) u x))(hrk:∀L T F C d a,RSL (n+m) s (xT n st su) (jn n fi gi) L T F C d a->L.length<=rk)(hβ:(β+b+2*v)*(rk+1)+(β+b+3*v+3*a)<=2980):(∃K:List (Nat->Rat),(∃d,yp CS [zm n s fi st la,zm m s gi su lb]=some (.tuple [.none,d]))/\vb CS [zm n s fi st la,zm m s gi su lb]=some (.list (zC (n+m) K))/\y9 CS [zm n s fi st la,zm m s gi su lb]=some (some (zC (n+m) K))/\K.length<=42/\(∀q∈K,∀x,x<n+m->Bq 4000 (q x))/\jH [zm n s fi st la,zm m s gi su lb,.list (zC (n+m) K)]=some (.bool true))\/
  ∃u d,yp CS [zm n s fi st la,zm m s gi su lb]=some (.tuple [ya u,d])/\y9 CS [zm n s fi st la,zm m s gi su lb]=some none/\wt n st fi la u≠wt m su gi lb u/\u.length<n+m/\(∀g∈u,g<s)/\∀w,(∀g∈w,g<s)->cd s w<cd s u->wt n st fi la w=wt m su gi lb w:=by
 have D:=A.add B;have h0:β+b+2*v<=(β+b+2*v)*(rk+1):=hJ _ (by omega)
 have h1:(v+β)*rk<=(β+b+2*v)*(rk+1):=km (by omega) (by omega);have hd:=difference_eq (fi:=fi) (st:=st) (la:=la) (B.mach (k:=13) ha hb) (by decide) (show n<=42 by omega) (show m<=42 by omega) hs
 have bd:Bd (n+m) s (xT n st su) (jn n fi gi) (6 ^ a) (2 ^ β) rk:={
  hn:=by omega
  hs:=hs
  hs0:=hs0
  hst:=λg x y hg hx hy=>InB.mono (D.st g x y hg hx hy) (kD (by decide) (by omega))
  hk0:=xt a
  hk:=qB (ziF a) (kD (by decide) (by omega))
  hB:=kD (by decide) (by omega)
  hP:=λj hj=>lt9 (zb0 (YZ hN (qk _) (qk _)) (qk _)) (by
   have:(v+β)*j<=(v+β)*rk:=mQ _ hj;omega)
  hw:=λu hg hu=>by
   have⟨M,hM,h⟩:=hrow u hg hu;exact⟨((M:Nat):Rat),λx=>vF (zV (n+m) (xT n st su) (jn n fi gi) u x) M,jh hM,λx hx=>za3 (h x hx)⟩
  hm:=hrk }
 have hla:∀i,i<n+m->Sk 13 (jn n la (λi=>lb i*(-1)) i):=λi hi=>(zc2 A.la (λx hx=>by rw[show lb x*(-1)=-(lb x) by grind];exact(B.la x hx).neg) i hi).sk ha hb
 rcases zbU (CS:=CS) (k0:=13) (l0:=13) hd bd (λi hi=>(D.fi i hi).sk ha hb) (by decide) hla (by decide) with⟨L,e,w⟩|⟨L,u,e,w⟩
 ·have hL:=w.len;have hLr:L.length<=rk:=by
   have⟨T,F,C,d,a',h1,_⟩:=w;exact hrk L T F C d a' h1.rs
  have habs:=w.abs bd;have hfn:(λi=>lb i*(-1))=λi=>-(lb i):=by funext i;grind
  have eb:=zcw (n:=n) (m:=m) (s:=s) (fi:=fi) (gi:=gi) (st:=st) (su:=su) (la:=la) (lb:=lb) (by omega) (by omega) hs;rw[<-hfn] at eb;have hKL:(KL L).length=L.length:=qe _
  have z:Rz (n+m) (2 ^ (β+b+v)) (6 ^ a) 2990 (KL L).length:=by
   refine⟨by rw[hKL];omega,by decide,λj hj hjn=>?_⟩;have b1:(n+m)*2 ^ (β+b+v)<=2 ^ (β+b+2*v):=YZ hN (qk _) (by omega);have b2:((n+m)*2 ^ (β+b+v)) ^ j<=2 ^ ((β+b+2*v)*(rk+1)):=zb0 b1 (mQ _ (by rw[hKL] at hj;omega))
   constructor
   ·refine qW (YZ (ziF a) b2 (qk _)) (kM (by decide) (by omega))
   ·refine qW (YZ hN (YZ (YZ hN b2 (qk _)) (qk (2 ^ (β+b+v))) (qk _)) (qk _)) (kM (by decide) (by omega))
  have one6:1<=6 ^ a:=xt a;have hsk:∀q∈KL L,∀i,i<n+m->Sk 385 (q i):=λq hq i hi=>by
   obtain⟨r,hr,rfl⟩:=qY.mp hq;exact zhx (habs r hr i hi) (by omega)
  obtain⟨c,e3,i3⟩:=zbh (kr:=385) (ks:=13) (kl:=13) eb (by omega) hs z
   (λq hq=>by
    obtain⟨r,hr,rfl⟩:=qY.mp hq;exact(zjR (habs r hr)).mono (kD (by decide) (by omega)) one6)
   ((zhm (xt a) λx hx=>D.fi x hx).mono (kD (by decide) (by omega)) (qk _))
   (λq hq g hg=>by
    obtain⟨r,hr,rfl⟩:=qY.mp hq;refine(zhm (M:=1*6 ^ a) (N:=(n+m)*(2 ^ β*2 ^ b)) (by rw[g9];exact xt a) λy hy=>J5 (by rw[g9];exact xt a) (n+m) λx hx=>(Y8 (habs r hr x hx)).mul (D.st g x y hg hx hy)).mono (YZ hN (YZ (qk _) (qk _) (qk _)) (by omega)) (by rw[g9];exact qk _))
   hsk (λg x y hg hx hy=>(D.st g x y hg hx hy).sk ha hb) hla (by omega) (by omega)
  rw[i3.mpr (w.sw hs0)] at e3;exact .inl ⟨KL L,⟨_,e⟩,zfY (n:=n+m) e (by omega) (by omega),zdz (n:=n+m) e (by omega) (by omega),by rw[hKL];omega,λq hq x hx=>(hsk q hq x hx).bq (by decide),e3⟩
 ·have⟨w1,w2,w3,w4⟩:=w.first hs0
  refine .inr ⟨u,_,e,zdN e,λq=>w1 ?_,w2,w3,λv hv hc=>?_⟩
  ·rw[zeC,q];grind
  ·have:=w4 v hv hc;rw[zeC] at this;grind
end
def zhn(q:Q1x)(j:Nat)(v:Rat):Nat->Rat:=λi=>if i=j then v else q i
def zen(N:Nat)(q:Q1x)(j:Nat)(v:Rat):((List.range N).map λi=>fr (q i)).set j (fr v)=(List.range N).map λi=>fr (zhn q j v i):=by
 refine gL λi=>?_
 by_cases hi:i<N
 ·rw[qp,ka hi];by_cases h:j=i
  ·subst h;rw[ku (by simpa using hi)];show some (fr v)=some (fr (if j=j then v else q j))
   rw[qg rfl]
  ·rw[qJ h,qp,ka hi];show some (fr (q i))=some (fr (if i=j then v else q i))
   rw[qm (gw h)]
 ·rw[kH (by simpa using hi),kH (by simpa using hi)]
structure Mq(n s:Nat)(fi:Q1x)(st:Q3x)(la:Q1x):Prop where
 mt:j3 n s fi st la 7 42
 row:∀u:List Nat,(∀g∈u,g<s)->∀x,x<n->Tb (4+u.length) (23+9*u.length) (zV n st fi u x)
section
variable{n m s:Nat}{fi gi la lb:Q1x}{st su:Q3x}{CS:AdX}
def Mq.zgd(h:Z1 n s fi st la)(hn:n<=16):Mq n s fi st la:=⟨h.tb.up (by decide) (by decide),λu hg x hx=>Tb.up ((Kw.new (ev:=False) (n0:=0) (b0:=λ_ _=>0) (la:=la) h.tb hn λz=>z.elim).row u hg x hx) (by omega) (by omega)⟩
def Mq.of_K{ev:Prop}{n0:Nat}{b0:List Nat->Nat->Rat}(h:Kw ev n0 b0 n s fi st la 3):Mq n s fi st la:=⟨h.mt.up (by decide) (by decide),λu hg x hx=>Tb.up (h.row u hg x hx) (by omega) (by omega)⟩
def Mq.sk(h:Mq n s fi st la):Mach n s fi st la 7:=h.mt.mach (by decide) (by decide)
def zbH(A:Z1 n s fi st la)(hn:n<=4)(hs:s<=42)(c c':Int):∃m gi su lb,m<=6/\Mq m s gi su lb/\Jq [zm n s fi st la,.int c,.int c']=some (zm m s gi su lb):=by
 obtain⟨w,hw,ew⟩:=yN c (m:=4) (by decide);obtain⟨r5,h5,e5⟩:=yN (c.fdiv 4) (m:=5) (by decide);obtain⟨r3,h3,e3⟩:=yN (c.fdiv 4) (m:=3) (by decide);obtain⟨g1,s1,l1,d1,D⟩:=vx c' (n:=r5) (s:=s) (by omega) hs;obtain⟨g2,s2,l2,d2,K,_⟩:=Wb c' (more:=r3) (by omega) hs A;have eN:zd yb (aC (op2 ixD (gv 0) (cst (.int 0))) a0) [.pu (zm n s fi st la),.pu (.int c),.pu (.int c'),.no,.no]=some (zG n):=(zc (zk ((zb rfl rfl).trans jT) rfl)).trans (xN _ _);have m4:op2 yr (gv 1) (cst (.int 4)) [.pu (zm n s fi st la),.pu (.int c),.pu (.int c'),.pu (zG n),.no]=some (zG w):=(zb rfl rfl).trans ((yE (by decide)).trans (qG (λz=>some (PyData.int z)) ew))
 have q4:∀{k:Nat},op2 yg (gv 1) (cst (.int 4)) [.pu (zm n s fi st la),.pu (.int c),.pu (.int c'),.pu (zG n),.no]=some (.int (c.fdiv 4)):=λ{k}=>(zb rfl rfl).trans (ym (j:=4) (by decide) (by decide))
 have t0:zA (op2 eqD (op2 yr (gv 1) (cst (.int 4))) (cst (.int 0))) [.pu (zm n s fi st la),.pu (.int c),.pu (.int c'),.pu (zG n),.no]=some (decide (w=0)):=by
  refine zw ((zb m4 rfl).trans ((wD _ _).trans ?_));congr 2;exact k7.mpr (by omega)
 have t3:zA (op2 ltI (op2 yr (gv 1) (cst (.int 4))) (cst (.int 3))) [.pu (zm n s fi st la),.pu (.int c),.pu (.int c'),.pu (zG n),.no]=some (decide (w<3)):=by
  refine zw ((zb m4 rfl).trans ?_);show some (PyData.bool (decide ((w:Int)<3)))=_
  congr 2
  exact k7.mpr (by omega)
 by_cases h0:w=0
 ·rw[qy h0] at t0;refine⟨r5,g1,s1,l1,by omega,Mq.zgd D (by omega),zM rfl ((zq (zD eN)).trans (J8 ((jN t0).trans (zF ?_))))⟩;exact(zc (zk rfl (zk ((zb (q4 (k:=0)) rfl).trans ((yE (by decide)).trans (qG (λz=>some (PyData.int z)) e5))) (zk (U0 (i:=0) rfl) rfl)))).trans d1
 ·rw[qF h0] at t0;by_cases h3':w<3
  ·rw[qy h3'] at t3;refine⟨n+r3,g2,s2,l2,by omega,Mq.of_K K,zM rfl ((zq (zD eN)).trans ((zq ((y4 t0).trans rfl)).trans (J8 ((jN t3).trans (zF ?_)))))⟩;exact(zc (zk rfl (zk rfl (zk ((zb (q4 (k:=0)) rfl).trans ((yE (by decide)).trans (qG (λz=>some (PyData.int z)) e3))) rfl)))).trans d2
  ·rw[qF h3'] at t3;have eL:xc vD (aC (op2 ixD (gv 0) (cst (.int 0))) a0) [.pu (zm n s fi st la),.pu (.int c),.pu (.int c'),.pu (zG n),.no]=some ((List.range n).map λi=>fr (fi i)):=(xr (zk ((zb rfl rfl).trans jT) rfl)).trans rfl;have tg:zA (op2 gtI (gv 3) (cst (.int 0))) [.pu (zm n s fi st la),.pu (.int c),.pu (.int c'),.pu (zG n),.ow ((List.range n).map λi=>fr (fi i))]=some (decide (0<n)):=by
    refine zw ?_;show some (PyData.bool (decide ((0:Int)<(n:Int))))=_
    congr 2
    exact k7.mpr (by omega)
   have fin:∀f':Nat->Rat,retS (yM (aC (zd zX (aC (gb 4) a0)) (aC (op2 ixD (gv 0) (cst (.int 1))) (aC (op2 ixD (gv 0) (cst (.int 2))) a0)))) [.pu (zm n s fi st la),.pu (.int c),.pu (.int c'),.pu (zG n),.ow ((List.range n).map λi=>fr (f' i))]=some (.rt (zm n s f' st la)):=λf'=>
    zF (Ul ((zc rfl).trans rfl) ((zb rfl rfl).trans j7) ((zb rfl rfl).trans ug))
   by_cases hn0:0<n
   ·obtain⟨j,hj,ej⟩:=yN c' (m:=n) hn0;obtain⟨v,ev,hv⟩:=wk (c'.fdiv 7);rw[qy hn0] at tg;refine⟨n,zhn fi j v,st,la,by omega,Mq.zgd ⟨λx hx=>?_,A.st,A.la⟩ (by omega),zM rfl ((zq (zD eN)).trans ((zq ((y4 t0).trans rfl)).trans ((zq ((y4 t3).trans rfl)).trans ((zq (yJ eL)).trans ((zq ((jN tg).trans (W0 (a:=j) (d:=fr v) rfl ((zc (zk ((zb rfl rfl).trans (ym (j:=7) (by decide) (by decide))) rfl)).trans ev) ((zb rfl rfl).trans ((yE (by omega)).trans (qG (λz=>some (PyData.int z)) ej))) (by rw[qe,qu];exact hj)))).trans ?_)))))⟩
    ·unfold zhn;split
     ·exact hv
     ·exact A.fi x hx
    ·rw[zen];exact fin _
   ·rw[qF hn0] at tg;exact⟨n,fi,st,la,by omega,Mq.zgd A (by omega),zM rfl ((zq (zD eN)).trans ((zq ((y4 t0).trans rfl)).trans ((zq ((y4 t3).trans rfl)).trans ((zq (yJ eL)).trans ((zq ((y4 tg).trans rfl)).trans (fin fi))))))⟩
def zcU(ns:List Int)(hs:s<=42):∃n1 f1 s1 l1 n2 f2 s2 l2,n1<=13/\n2<=13/\Mq n1 s f1 s1 l1/\Mq n2 s f2 s2 l2/\wa [.list (ns.map PyData.int),zG s]=some (.tuple [zm n1 s f1 s1 l1,zm n2 s f2 s2 l2])/\
  ∃(n0:Nat)(b0:List Nat->Nat->Rat)(B1 B2:Q2x),n0<=3/\(∀u x,x<n1->zV n1 s1 f1 u x=sumTo n0 λa=>b0 u a*B1 a x)/\∀u x,x<n2->zV n2 s2 f2 u x=sumTo n0 λa=>b0 u a*B2 a x:=by
 have⟨c1,h1⟩:=xH ns 1;have⟨c2,h2⟩:=xH ns 2;have⟨c3,h3⟩:=xH ns 3;obtain⟨r,hr,er⟩:=yN c2 (m:=3) (by decide);obtain⟨ma,hma,ema⟩:=yN (c2.fdiv 3) (m:=6) (by decide);obtain⟨mb,hmb,emb⟩:=yN (c2.fdiv 18) (m:=6) (by decide);obtain⟨tw,htw,etw⟩:=yN (c2.fdiv 108) (m:=2) (by decide);obtain⟨k1,hk1,ek1⟩:=yN c1 (m:=1000000000) (by decide);obtain⟨k3,hk3,ek3⟩:=yN c3 (m:=1000000000) (by decide);obtain⟨fi,st,la,eb,A⟩:=vx c1 (n:=1+r) (s:=s) (by omega) hs;obtain⟨f1,s1,l1,e1,K1,_⟩:=Wb (2*(k1:Int)) (more:=5+ma) (by omega) hs A;obtain⟨f2,s2,l2,e2,K2,_⟩:=Wb (2*(k3:Int)) (more:=5+mb) (by omega) hs A;obtain⟨B1,q1⟩:=K1.lin (Int.mul_fmod_right _ _);obtain⟨B2,q2⟩:=K2.lin (Int.mul_fmod_right _ _);have M1:=Mq.of_K K1;have M2:=Mq.of_K K2
 have mo:∀{ρ:Ro} {f:RPx} {c:Int} {k:Nat},f ρ=some (.int c)->c.fmod ((1000000000:Nat):Int)=(k:Int)->k<1000000000->op2 yA (cst (.int 2)) (op2 yr f (op2 zbS (cst (.int 10)) (cst (.int 9)))) ρ=some (.int (2*(k:Int))):=λ{ρ f c k} h e hk=>by
  refine(zb rfl ((zb h ((zb rfl rfl).trans (show zbS (.int 10) (.int 9)=some (.int 1000000000) from rfl))).trans ((yE (by decide)).trans (qG (λz=>some (PyData.int z)) e)))).trans (xf (ju (m:=1000) (n:=1000) (by decide+kernel) (j4 (m:=1000) ?_)));rw[kE];exact qN hk (qB (show 1000000000<=2 ^ 30 by decide) (kD (by decide) (by decide)))
 let ρ5:Ro:=[.pu (.list (ns.map PyData.int)),.pu (zG s),.pu (.int c2),.pu (zm (1+r) s fi st la),.pu (zm (1+r+(5+ma)) s f1 s1 l1),.pu (zm (1+r+(5+mb)) s f2 s2 l2),.no,.no]
 have pre:∀g:Ro->Option Fl,(sq (zO 2 (zd zH (aC (gv 0) (aC (cst (.int 2)) a0))))
   (sq (zO 3 (zd yZ (aC (zd zH (aC (gv 0) (aC (cst (.int 1)) a0))) (aC (op2 xb (cst (.int 1)) (op2 yr (gv 2) (cst (.int 3)))) (aC (gv 1) a0)))))
   (sq (zO 4 (zd ve (aC (gv 3) (aC (op2 yA (cst (.int 2)) (op2 yr (zd zH (aC (gv 0) (aC (cst (.int 1)) a0))) (op2 zbS (cst (.int 10)) (cst (.int 9))))) (aC (op2 xb (cst (.int 5)) (op2 yr (op2 yg (gv 2) (cst (.int 3))) (cst (.int 6)))) a0)))))
   (sq (zO 5 (zd ve (aC (gv 3) (aC (op2 yA (cst (.int 2)) (op2 yr (zd zH (aC (gv 0) (aC (cst (.int 3)) a0))) (op2 zbS (cst (.int 10)) (cst (.int 9))))) (aC (op2 xb (cst (.int 5)) (op2 yr (op2 yg (gv 2) (cst (.int 18))) (cst (.int 6)))) a0))))) g))))
   [.pu (.list (ns.map PyData.int)),.pu (zG s),.no,.no,.no,.no,.no,.no]=g ρ5:=λg=>by
  refine(zq (zD (d:=.int c2) ((zc rfl).trans h2))).trans ?_;refine(zq (zD (d:=zm (1+r) s fi st la) ((zc (zk ((zc rfl).trans h1) (zk ((zb rfl ((zb rfl rfl).trans ((yE (by decide)).trans (qG (λz=>some (PyData.int z)) er)))).trans (show xb (.int 1) (zG r)=some (.int ((1+r:Nat):Int)) from qG (λz=>some (PyData.int z)) (by omega))) (zk rfl rfl)))).trans eb))).trans ?_;refine(zq (zD (d:=zm (1+r+(5+ma)) s f1 s1 l1) ((zc (zk rfl (zk (mo ((zc rfl).trans h1) ek1 hk1) (zk ((zb rfl ((zb ((zb rfl rfl).trans (ym (j:=3) (by decide) (by decide))) rfl).trans ((yE (by decide)).trans (qG (λz=>some (PyData.int z)) ema)))).trans (show xb (.int 5) (zG ma)=some (.int ((5+ma:Nat):Int)) from qG (λz=>some (PyData.int z)) (by omega))) rfl)))).trans e1))).trans ?_;exact zq (zD (d:=zm (1+r+(5+mb)) s f2 s2 l2) ((zc (zk rfl (zk (mo ((zc rfl).trans h3) ek3 hk3) (zk ((zb rfl ((zb ((zb rfl rfl).trans (ym (j:=18) (by decide) (by decide))) rfl).trans ((yE (by decide)).trans (qG (λz=>some (PyData.int z)) emb)))).trans (show xb (.int 5) (zG mb)=some (.int ((5+mb:Nat):Int)) from qG (λz=>some (PyData.int z)) (by omega))) rfl)))).trans e2))
 have eL:xc vD (aC (op2 ixD (gv 5) (cst (.int 2))) a0) ρ5=some ((List.range (1+r+(5+mb))).map λi=>fr (l2 i)):=(xr (zk ((zb rfl rfl).trans ug) rfl)).trans rfl;have t2:zA (op2 eqD (op2 yr (op2 yg (gv 2) (cst (.int 108))) (cst (.int 2))) (cst (.int 1))) (ρ5.set 6 (.ow ((List.range (1+r+(5+mb))).map λi=>fr (l2 i))))=some (decide (tw=1)):=by
  refine zw ((zb ((zb ((zb rfl rfl).trans (ym (j:=108) (by decide) (by decide))) rfl).trans ((yE (by decide)).trans (qG (λz=>some (PyData.int z)) etw))) rfl).trans ((wD _ _).trans ?_));congr 2;exact k7.mpr (by omega)
 have fin:∀(l':Q1x)(o7:Sl),retS (yM (aC (gv 4) (aC (yM (aC (op2 ixD (gv 5) (cst (.int 0))) (aC (op2 ixD (gv 5) (cst (.int 1))) (aC (zd zX (aC (gb 6) a0)) a0)))) a0))) [.pu (.list (ns.map PyData.int)),.pu (zG s),.pu (.int c2),.pu (zm (1+r) s fi st la),.pu (zm (1+r+(5+ma)) s f1 s1 l1),.pu (zm (1+r+(5+mb)) s f2 s2 l2),.ow ((List.range (1+r+(5+mb))).map λi=>fr (l' i)),o7]=some (.rt (.tuple [zm (1+r+(5+ma)) s f1 s1 l1,zm (1+r+(5+mb)) s f2 s2 l'])):=λl' o7=>
  zF ((xR (zk rfl (zk (Ul ((zb rfl rfl).trans jT) ((zb rfl rfl).trans j7) ((zc rfl).trans rfl)) rfl)) (by show 2<=16777216;omega)).trans rfl)
 refine⟨1+r+(5+ma),f1,s1,l1,1+r+(5+mb),f2,s2,if tw=1 then zhn l2 ((c3.fdiv 7).fmod ((1+r+(5+mb):Nat):Int)).toNat (l2 ((c3.fdiv 7).fmod ((1+r+(5+mb):Nat):Int)).toNat+1) else l2,by omega,by omega,M1,⟨⟨M2.mt.fi,M2.mt.st,λx hx=>?_⟩,M2.row⟩,?_,1+r,zV (1+r) st fi,B1,B2,by omega,q1,q2⟩
 ·split
  ·unfold zhn;split
   ·rename_i _ hx';have h1:Tb 7 41 (l2 x):=K2.mt.la x hx;have h2:Tb 7 41 (1:Rat):=Tb.up (a:=0) (b:=0) (by
     show InB (6 ^ 0) (2 ^ 0) (1:Rat)
     exact Y8 (z:=1) (by decide)) (by decide) (by decide)
    have:=InB.add h1 h2;rw[<-Nat.two_mul,<-Nat.pow_succ'] at this;rw[<-hx'];exact this
   ·exact M2.mt.la x hx
  ·exact M2.mt.la x hx
 ·refine zM rfl ((pre _).trans ((zq (yJ eL)).trans ?_));obtain⟨j,hj,ej⟩:=yN (c3.fdiv 7) (m:=1+r+(5+mb)) (by omega);rw[ej,kq];by_cases h:tw=1
  ·rw[qy h] at t2;rw[qg h];refine(zq ((jN t2).trans ((zq (zD (d:=zG j) ?_)).trans (W0 (a:=j) (ds:=(List.range (1+r+(5+mb))).map λi=>fr (l2 i)) (d:=fr (l2 j+1)) rfl ?_ rfl (by rw[qe,qu];exact hj))))).trans ?_
   ·exact(zb ((zb ((zc rfl).trans h3) rfl).trans (ym (j:=7) (by decide) (by decide))) ((zc rfl).trans (show yb [.list ((List.range (1+r+(5+mb))).map λi=>fr (l2 i))]=some (zG (1+r+(5+mb))) by show some (PyData.int (((List.range (1+r+(5+mb))).map λi=>fr (l2 i)).length:Int))=_;rw[qe,qu]))).trans ((yE (by omega)).trans (qG (λz=>some (PyData.int z)) ej))
   ·exact(zc (zk ((zb rfl rfl).trans (uJ (n:=1+r+(5+mb)) (d:=λi=>fr (l2 i)) hj)) (zk ((xR rfl (by show 2<=16777216;omega)).trans rfl) rfl))).trans (wJ (r:=1) ((M2.sk.la j hj).bq (by decide)) ((zhx (z:=1) (b:=0) (k:=1) (by decide) (by decide)).bq (by decide)))
   ·rw[zen];exact fin _ _
  ·rw[qF h] at t2;rw[qm h];exact(zq ((y4 t2).trans rfl)).trans (fin _ _)
end
theorem zeF{e t:Nat->Bool}:∀(n a:Nat),lx e t false (List.range' a n)=true->∃k,a<=k/\k<a+n/\(∀i,a<=i->i<k->e i=true)/\t k=true
 |0,a,h=>by cases h
 |n+1,a,h=>by
  rw[List.range'_succ] at h;unfold lx at h;cases he:e a with
  |true=>
   rw[he,qg rfl] at h;obtain⟨k,h1,h2,h3,h4⟩:=zeF n (a+1) h;refine⟨k,by omega,by omega,λi hi hk=>?_,h4⟩;by_cases hia:i=a
   ·rw[hia];exact he
   ·exact h3 i (by omega) hk
  |false=>
   rw[he,qm qE] at h;exact⟨a,qk _,by omega,λi h1 h2=>absurd h2 (by omega),h⟩
theorem zge{s:Nat}:∀(x y v w:LNt),cd s v<cd s w->x.length=y.length->(∀g∈x,g<s)->cd s (v++x)<cd s (w++y)
 |[],[],v,w,h,_,_=>by rw[kf,kf];exact h
 |g::x,k::y,v,w,h,hl,hg=>by
  have:=zge x y (v++[g]) (w++[k]) (zaN h (hg g (ki ..))) (by simpa using hl) λa ha=>hg a (qD _ ha)
  rw[kI,kI] at this;exact this
 |[],_::_,_,_,_,hl,_=>by cases hl
 |_::_,[],_,_,_,hl,_=>by cases hl
def zls{s:Nat}{ws u:LNt}(hs:0<s)(hw:∀g∈ws,g<s)(h:ltW (ws.length:Int) (u.length:Int) (ws.map λg:Nat=>(g:Int)) (u.map λg:Nat=>(g:Int))=true):cd s ws<cd s u:=by
 unfold ltW at h;by_cases hl:(ws.length:Int)=(u.length:Int)
 ·rw[kU.mpr hl,qg rfl] at h;split at h
  ·cases h
  ·unfold lxI at h;have hl':ws.length=u.length:=by omega
   rw[qe,qe,hl',qF (kX _),Nat.min_self,List.range_eq_range'] at h;have⟨k,_,hk,h1,h2⟩:=zeF _ _ h;rw[mi] at hk;have get:∀(l:LNt)(i:Nat)(hi:i<l.length),(l.map λg:Nat=>(g:Int)).getD i 0=(l[i]:Int):=λl i hi=>by
    rw[qL,qp,qo hi];rfl
   have hkw:k<ws.length:=by omega
   have hlt:ws[k]<u[k]:=by
    have:=gI h2;rw[get ws k hkw,get u k hk] at this;omega
   have ht:ws.take k=u.take k:=by
    refine List.ext_getElem (by rw[kB,kB];omega) λi a b=>?_
    rw[List.getElem_take,List.getElem_take];have hi:i<k:=by rw[kB] at a;omega
    have:=h1 i (kK _) hi;rw[kU,get ws i (by omega),get u i (by omega)] at this;omega
   have ew:ws=ws.take k++[ws[k]]++ws.drop (k+1):=by
    rw[kI,List.singleton_append,<-List.drop_eq_getElem_cons hkw,List.take_append_drop]
   have eu:u=u.take k++[u[k]]++u.drop (k+1):=by
    rw[kI,List.singleton_append,<-List.drop_eq_getElem_cons hk,List.take_append_drop]
   rw[ew,eu,ht];refine zge _ _ _ _ ?_ (by rw[mC,mC];omega) λg hg=>hw g (List.mem_of_mem_drop hg)
   rw[jR,jR];omega
 ·rw[kv.mpr hl,qm qE] at h
  have:=gI h;exact zhz hs u.length ws u rfl (by omega) hw
theorem Wl:∀ws:List Nat,wx Vl (ws.map λg:Nat=>PyData.int (g:Int))=some (ws.map λg:Nat=>(g:Int))
 |[]=>rfl
 |w::ws=>by
  show(some (w:Int)).bind (λy=>(wx Vl (ws.map λg:Nat=>PyData.int (g:Int))).map (y::·))=_
  rw[Wl ws];rfl
def zfF(ws u:LNt):ltT (.tuple [zG ws.length,ya ws]) (.tuple [zG u.length,ya u])=some (.bool (ltW (ws.length:Int) (u.length:Int) (ws.map λg:Nat=>(g:Int)) (u.map λg:Nat=>(g:Int)))):=by
 show(wx Vl (ws.map λg:Nat=>PyData.int (g:Int))).bind _=_
 rw[Wl,qr,Wl];rfl
def zdV(u:LNt):yb [ya u]=some (zG u.length):=by
 show some (PyData.int ((u.map λg:Nat=>PyData.int (g:Int)).length:Int))=_
 rw[qe]
def Zb{N:Nat}{K:LQr}(h:∀q∈K,∀x,x<N->Bq 4000 (q x)):jV [.list (zC N K),zG N]=some (.bool true):=by
 obtain⟨ρ',e,o,rfl⟩:=w8 (ds:=zC N K) (it:=yI (gv 0)) (bd:=bN 2)
  (b:=ifS (orT (vQ (zA (op1 (YJ "list") (gv 2)))) (vQ (zA (zd jj (aC (zd zX (aC (gv 2) a0)) (aC (gv 1) a0)))))) (retS (cst (.bool false))) s0)
  (ρ0:=[.pu (.list (zC N K)),.pu (zG N),.no]) (λi ρ=>∃o,ρ=[.pu (.list (zC N K)),.pu (zG N),o]) (vq rfl) ⟨.no,rfl⟩ (λi d ρ hd ⟨o,e⟩=>by
   subst e;rw[qp] at hd;obtain⟨q,hq,rfl⟩:=map_some hd;refine⟨_,_,rfl,(y4 (Wy (b:=false) (jk (b:=true) (zw rfl)) (jk (b:=true) (zw ((zc (zk (x:=yy N q) ((zc rfl).trans rfl) rfl)).trans (Vj (h q (qH hq)))))))).trans rfl,.pu (yx N q),rfl⟩)
 exact zM rfl ((zq ((y4 (jk (b:=true) (zw rfl))).trans rfl)).trans ((zq e).trans (zF rfl)))
abbrev Told(CS:AdX)(n m s:Nat)(fi:Q1x)(st:Q3x)(la gi:Q1x)(su:Q3x)(lb:Q1x):Prop:=(∃K:List (Nat->Rat),(∃d,yp CS [zm n s fi st la,zm m s gi su lb]=some (.tuple [.none,d]))/\vb CS [zm n s fi st la,zm m s gi su lb]=some (.list (zC (n+m) K))/\y9 CS [zm n s fi st la,zm m s gi su lb]=some (some (zC (n+m) K))/\K.length<=42/\(∀q∈K,∀x,x<n+m->Bq 4000 (q x))/\jH [zm n s fi st la,zm m s gi su lb,.list (zC (n+m) K)]=some (.bool true))\/
  ∃u d,yp CS [zm n s fi st la,zm m s gi su lb]=some (.tuple [ya u,d])/\y9 CS [zm n s fi st la,zm m s gi su lb]=some none/\wt n st fi la u≠wt m su gi lb u/\u.length<n+m/\(∀g∈u,g<s)/\∀w,(∀g∈w,g<s)->cd s w<cd s u->wt n st fi la w=wt m su gi lb w
section
variable{n m s:Nat}{fi gi la lb:Q1x}{st su:Q3x}{CS:AdX}
def zhO{β v rk:Nat}(A:Mq n s fi st la)(B:Mq m s gi su lb)(hN:n+m<=2 ^ v)(hN2:n+m<=42)(hs:s<=42)(hs0:0<s)(h9:23+9*(n+m - 1)<=β)(hrk:∀L T F C d a,RSL (n+m) s (xT n st su) (jn n fi gi) L T F C d a->L.length<=rk)(hβ:(β+42+2*v)*(rk+1)+(β+42+3*v+21)<=2980):Told CS n m s fi st la gi su lb:=zj2 (β:=β) (a:=7) (b:=42) A.mt B.mt (by decide) (by decide) hN hN2 hs hs0 (λu hg hu=>⟨6 ^ (4+u.length),xt _,λx hx=>by
  rw[Vf u fi gi (jn n fi gi) (λ_ _=>rfl) x hx];unfold jn;by_cases q:x<n
  ·rw[qg q];exact Tb.up (A.row u hg x q) (by omega) (by omega)
  ·rw[qm q];exact Tb.up (B.row u hg (x - n) (by omega)) (by omega) (by omega)⟩) hrk hβ
def zjb{n0:Nat}{b0:List Nat->Nat->Rat}{B1 B2:Q2x}(q1:∀u x,x<n->zV n st fi u x=sumTo n0 λa=>b0 u a*B1 a x)(q2:∀u x,x<m->zV m su gi u x=sumTo n0 λa=>b0 u a*B2 a x):∀L T F C d a,RSL (n+m) s (xT n st su) (jn n fi gi) L T F C d a->L.length<=n0:=λL T F C d a h=>by
 have l:=zfc (Bm:=λa=>jn n (B1 a) (B2 a)) (n0:=n0) h.sp (by rw[mR];exact h.lenT.symm) λr hr=>by
  obtain⟨i,hi⟩:=qX (gq.mp hr);rw[qp] at hi;obtain⟨q,hq,rfl⟩:=map_some hi;obtain⟨c,_,e⟩:=h.mult i q.1 q.2 (by rw[qp,hq];rfl) (by rw[qp,hq];rfl);refine⟨λa=>c*b0 q.1 a,λx hx=>?_⟩;rw[e x hx,Vf q.1 fi gi (jn n fi gi) (λ_ _=>rfl) x hx,k8];unfold jn;by_cases z:x<n
  ·simp only [qg z];rw[q1 _ x z,<-zT];exact zi n0 λa _=>by grind
  ·simp only [qm z];rw[q2 _ (x - n) (by omega),<-zT];exact zi n0 λa _=>by grind
 rw[mR,qe] at l;exact l
end
def zkg(CS:AdX)(ns:List Int):zjs CS [.list (ns.map PyData.int)]=some (.bool true):=by
 have⟨c0,h0⟩:=xH ns 0;have⟨c1,h1⟩:=xH ns 1;have⟨c2,h2⟩:=xH ns 2;have⟨c3,h3⟩:=xH ns 3;obtain⟨r,hr,er⟩:=yN c0 (m:=3) (by decide);obtain⟨n,hn,en⟩:=yN (c0.fdiv 3) (m:=5) (by decide);obtain⟨p,hp,ep⟩:=yN (c0.fdiv 3) (m:=12) (by decide);obtain⟨fi,st,la,e1,A0⟩:=vx c1 (n:=n) (s:=1+r) (by omega) (by omega);obtain⟨m,gi,su,lb,hm,B0,e2⟩:=zbH A0 (by omega) (by omega) c2 c3;have es:(1:Int)+(r:Int)=((1+r:Nat):Int):=by omega
 obtain⟨x,y,n1,f1,s1,l1,n2,f2,s2,l2,hx,hy,hN,A,B,T,e3⟩:∃x y n1 f1 s1 l1 n2 f2 s2 l2,x=zm n1 (1+r) f1 s1 l1/\y=zm n2 (1+r) f2 s2 l2/\n1+n2<=26/\Mq n1 (1+r) f1 s1 l1/\Mq n2 (1+r) f2 s2 l2/\Told CS n1 n2 (1+r) f1 s1 l1 f2 s2 l2/\
   (ifS (zA (op2 eqD (op2 yr (op2 yg (zd zH (aC (gv 0) (aC (cst (.int 0)) a0))) (cst (.int 3))) (cst (.int 12))) (cst (.int 5)))) (zh3 (b2 (bN 2) (bN 3)) (zd wa (aC (gv 0) (aC (gv 1) a0)))) s0)
   [.pu (.list (ns.map PyData.int)),.pu (zG (1+r)),.pu (zm n (1+r) fi st la),.pu (zm m (1+r) gi su lb),.no,.no,.no,.no,.no]=some (.nx [.pu (.list (ns.map PyData.int)),.pu (zG (1+r)),.pu x,.pu y,.no,.no,.no,.no,.no]):=by
  have t:zA (op2 eqD (op2 yr (op2 yg (zd zH (aC (gv 0) (aC (cst (.int 0)) a0))) (cst (.int 3))) (cst (.int 12))) (cst (.int 5))) [.pu (.list (ns.map PyData.int)),.pu (zG (1+r)),.pu (zm n (1+r) fi st la),.pu (zm m (1+r) gi su lb),.no,.no,.no,.no,.no]=some (decide (p=5)):=by
   refine zw ((zb ((zb ((zb ((zc rfl).trans h0) rfl).trans (ym (j:=3) (by decide) (by decide))) rfl).trans ((yE (by decide)).trans (qG (λz=>some (PyData.int z)) ep))) rfl).trans ((wD _ _).trans ?_));congr 2;exact k7.mpr (by omega)
  by_cases h:p=5
  ·rw[qy h] at t;obtain⟨n1,f1,s1,l1,n2,f2,s2,l2,g1,g2,M1,M2,e,n0,b0,B1,B2,k0,q1,q2⟩:=zcU (s:=1+r) ns (by omega);refine⟨_,_,n1,f1,s1,l1,n2,f2,s2,l2,rfl,rfl,by omega,M1,M2,zhO (β:=248) (v:=5) (rk:=3) M1 M2 (by omega) (by omega) (by omega) (by omega) (by omega) (λL T F C d a h=>qB (zjb q1 q2 L T F C d a h) k0) (by decide),(jN t).trans ?_⟩;unfold zh3;rw[show zd wa (aC (gv 0) (aC (gv 1) a0)) [.pu (.list (ns.map PyData.int)),.pu (zG (1+r)),.pu (zm n (1+r) fi st la),.pu (zm m (1+r) gi su lb),.no,.no,.no,.no,.no]=_ from(zc rfl).trans e];rfl
  ·rw[qF h] at t;exact⟨_,_,n,fi,st,la,m,gi,su,lb,rfl,rfl,by omega,Mq.zgd A0 (by omega),B0,zhO (β:=104) (v:=4) (rk:=10) (Mq.zgd A0 (by omega)) B0 (by omega) (by omega) (by omega) (by omega) (by omega) (λL T F C d a h=>by
    have l1:=h.lenT;have l2:=h.sp.few
    rw[qe] at l1;omega) (by decide),(y4 t).trans rfl⟩
 subst hx hy;have W1:=A.sk;have W2:=B.sk
 have wg1:∀ws:List Nat,(∀g∈ws,g<1+r)->ws.length<=40->yX [zm n1 (1+r) f1 s1 l1,ya ws]=some (fr (wt n1 s1 f1 l1 ws)):=λws hw hl=>Uk (by omega) W1.fi W1.st W1.la hw (by omega)
 have wg2:∀ws:List Nat,(∀g∈ws,g<1+r)->ws.length<=40->yX [zm n2 (1+r) f2 s2 l2,ya ws]=some (fr (wt n2 s2 f2 l2 ws)):=λws hw hl=>Uk (by omega) W2.fi W2.st W2.la hw (by omega)
 refine zM rfl ?_;refine(zq (zD (d:=zG (1+r)) ?_)).trans ?_
 ·refine(zb rfl ((zb ((zc rfl).trans h0) rfl).trans (yE (by decide)))).trans ?_;show _=some (PyData.int ((1+r:Nat):Int))
  rw[<-es,<-er];rfl
 refine(zq (zD (d:=zm n (1+r) fi st la) ?_)).trans ?_
 ·refine(zc (zk ((zc rfl).trans h1) (zk ((zb ((zb ((zc rfl).trans h0) rfl).trans (ym (j:=3) (by decide) (by decide))) rfl).trans (yE (by decide))) (zk rfl rfl)))).trans ?_;rw[<-e1,<-en];rfl
 refine(zq (zD (d:=zm m (1+r) gi su lb) ((zc (zk rfl (zk ((zc rfl).trans h2) (zk ((zc rfl).trans h3) rfl)))).trans e2))).trans ?_;refine(zq e3).trans ?_;refine(zq (zD (d:=zG (n1+n2)) ?_)).trans ?_
 ·exact(zb ((zc (zk ((zb rfl rfl).trans jT) rfl)).trans (xN _ _)) ((zc (zk ((zb rfl rfl).trans jT) rfl)).trans (xN _ _))).trans (qG (λz=>some (PyData.int z)) (by omega))
 rcases T with⟨K,⟨d,ec⟩,eR,eU,lK,bK,eS⟩|⟨u,d,ec,eU,ne,lu,hu,first⟩
 ·have epa:ud CS [zm n1 (1+r) f1 s1 l1,zm n2 (1+r) f2 s2 l2]=some .none:=zM rfl (zF ((zb ((zc rfl).trans ec) rfl).trans rfl));refine(zq (zD ((zc rfl).trans epa))).trans ?_;refine(zq (ρ':=[.pu (.list (ns.map PyData.int)),.pu (zG (1+r)),.pu (zm n1 (1+r) f1 s1 l1),.pu (zm n2 (1+r) f2 s2 l2),.pu (zG (n1+n2)),.pu .none,.ow (zC (n1+n2) K),.no,.no]) ?_).trans ?_
  ·unfold zji ze1;show((y9 CS [zm n1 (1+r) f1 s1 l1,zm n2 (1+r) f2 s2 l2]).bind _)=_
   rw[eU];rfl
  refine J8 ((jN (zw rfl)).trans ?_);refine(zq ((y4 (Wy (b:=false) (jk (b:=true) (zw (Y2 (r:=.bool true) rfl (Zb bK) rfl))) (jk (b:=true) (zw (Y2 (r:=.bool true) rfl eS rfl))))).trans rfl)).trans ?_;refine(zq (JI (ds:=zC (n1+n2) K) (d:=.list []) rfl rfl (by rw[qe];omega))).trans (zF ?_);exact(zc (zk rfl (zk rfl (zk ((zc rfl).trans eR) rfl)))).trans eS
 ·have epa:ud CS [zm n1 (1+r) f1 s1 l1,zm n2 (1+r) f2 s2 l2]=some (ya u):=zM rfl (zF ((zb ((zc rfl).trans ec) rfl).trans rfl));refine(zq (zD ((zc rfl).trans epa))).trans ?_;refine(zq (ρ':=[.pu (.list (ns.map PyData.int)),.pu (zG (1+r)),.pu (zm n1 (1+r) f1 s1 l1),.pu (zm n2 (1+r) f2 s2 l2),.pu (zG (n1+n2)),.pu (ya u),.pu .none,.no,.no]) ?_).trans ?_
  ·unfold zji ze1;show((y9 CS [zm n1 (1+r) f1 s1 l1,zm n2 (1+r) f2 s2 l2]).bind _)=_
   rw[eU];rfl
  refine(zq ((y4 (zw rfl)).trans rfl)).trans ?_;refine(zq ((y4 (Wy (b:=false) (zw rfl) (Wy (b:=false) (jk (b:=true) (zw rfl)) (zw ((zb ((zc rfl).trans (zdV u)) ((zc (zk rfl (zk rfl rfl))).trans rfl)).trans ?_))))).trans rfl)).trans ?_
  ·show some (PyData.bool (decide ((if ((n1+n2:Nat):Int) - 1>0 then ((n1+n2:Nat):Int) - 1 else 0)<(u.length:Int))))=_
   congr 2
   refine qF ?_;split<;>omega
  refine(zq ((y4 (zw ((zb ((zc rfl).trans (wg1 u hu (by omega))) ((zc rfl).trans (wg2 u hu (by omega)))).trans ((zgD _ _).trans (by rw[qF ne]))))).trans rfl)).trans ?_;obtain⟨ρ',e,o7,o8,rfl⟩:=u3 (n:=3) (g:=aC (cst (.int 3)) a0) (bd:=bN 7) (b:=sq (zO 8 (zd Ja (aC (zd zH (aC (gv 0) (aC (op2 xb (cst (.int 4)) (gv 7)) a0))) (aC (gv 1) (aC (cst (.int 4)) a0)))))
    (ifS (zdi (zA (op2 ltT (yM (aC (zd yb (aC (gv 8) a0)) (aC (gv 8) a0))) (yM (aC (zd yb (aC (gv 5) a0)) (aC (gv 5) a0))))) (zA (op2 neD (zd yX (aC (gv 2) (aC (gv 8) a0))) (zd yX (aC (gv 3) (aC (gv 8) a0)))))) (retS (cst (.bool false))) s0))
   (ρ0:=[.pu (.list (ns.map PyData.int)),.pu (zG (1+r)),.pu (zm n1 (1+r) f1 s1 l1),.pu (zm n2 (1+r) f2 s2 l2),.pu (zG (n1+n2)),.pu (ya u),.pu .none,.no,.no])
   (λi ρ=>∃o7 o8,ρ=[.pu (.list (ns.map PyData.int)),.pu (zG (1+r)),.pu (zm n1 (1+r) f1 s1 l1),.pu (zm n2 (1+r) f2 s2 l2),.pu (zG (n1+n2)),.pu (ya u),.pu .none,o7,o8]) rfl (by decide) ⟨.no,.no,rfl⟩ (λi ρ hi ⟨o7,o8,e⟩=>by
    subst e;obtain⟨ci,hci⟩:=xH ns (4+i);obtain⟨ws,ew,hl,hw⟩:=zbZ ci (s:=1+r) (m:=4) (by omega) (by decide) (by omega);refine⟨_,_,rfl,(zq (zD ((zc (zk ((zc (zk rfl (zk ((zb rfl rfl).trans (show xb (.int 4) (zG i)=some (.int ((4+i:Nat):Int)) from qG (λz=>some (PyData.int z)) (by omega))) rfl))).trans hci) (zk rfl rfl))).trans ew))).trans ((y4 ?_).trans rfl),.pu (zG i),.pu (ya ws),rfl⟩;have tl:zA (op2 ltT (yM (aC (zd yb (aC (gv 8) a0)) (aC (gv 8) a0))) (yM (aC (zd yb (aC (gv 5) a0)) (aC (gv 5) a0)))) [.pu (.list (ns.map PyData.int)),.pu (zG (1+r)),.pu (zm n1 (1+r) f1 s1 l1),.pu (zm n2 (1+r) f2 s2 l2),.pu (zG (n1+n2)),.pu (ya u),.pu .none,.pu (zG i),.pu (ya ws)]=some (ltW (ws.length:Int) (u.length:Int) (ws.map λg:Nat=>(g:Int)) (u.map λg:Nat=>(g:Int))):=zw ((zb (xR (zk ((zc rfl).trans (zdV ws)) rfl) (by show 2<=16777216;omega)) (xR (zk ((zc rfl).trans (zdV u)) rfl) (by show 2<=16777216;omega))).trans (zfF ws u));cases hlt:ltW (ws.length:Int) (u.length:Int) (ws.map λg:Nat=>(g:Int)) (u.map λg:Nat=>(g:Int)) with
    |true=>
     rw[hlt] at tl;refine zkR tl (zw ((zb ((zc rfl).trans (wg1 ws hw (by omega))) ((zc rfl).trans (wg2 ws hw (by omega)))).trans ((zld _ _).trans ?_)));rw[qy (first ws hw (zls (by omega) hw hlt))];rfl
    |false=>
     rw[hlt] at tl;exact zkB tl)
  exact(zq e).trans (zF rfl)
end K09
namespace K09
open PySem PySem.Spec PyProof.Rows L2 L2.Fu
def top(i:Nat):Stmt:=PySem.Challenge.pw_wordscales_k09_whole_alike_or_parted.main.body.getD i (.Pass ⟨0,0,0,0⟩)
abbrev blts:List Str:=["len","abs","isinstance","int","bool","tuple","list","range","zip","sum","max","enumerate"]
abbrev vm:Stmt:=top 3
def xZ:zx ["one","other","rest"] ["one","other"] (ze vm):=scx
abbrev Yj:Stmt:=top 4
def V1:zx ["top","bottom","common"] ["top","bottom"] (ze Yj):=scx
abbrev zba:Stmt:=top 5
def zgu:zx ["one","other"] ["one","other"] (ze zba):=scx
abbrev vH:Stmt:=top 6
def jl:zx ["fractions","bottom","fraction"] ["fractions"] (ze vH):=scx
abbrev wQ:Stmt:=top 7
def za5:zx ["fractions","bottom"] ["fractions","bottom"] (ze wQ):=scx
abbrev jm:Stmt:=top 8
def x5:zx ["tops","common","top"] ["tops"] (ze jm):=scx
abbrev jr:Stmt:=top 9
def Vq:zx ["ones","others"] ["ones","others"] (ze jr):=scx
abbrev VN:Stmt:=top 14
def zfG:zx ["tops","columns"] ["tops","columns"] (ze VN):=scx
abbrev vV:Stmt:=top 15
def jx:zx ["step","numbers","row","bottom","columns"] ["step"] (ze vV):=scx
abbrev Vd:Stmt:=top 16
def zfU:zx ["step","room"] ["step","room"] (ze Vd):=scx
abbrev VO:Stmt:=top 18
def Z3:zx ["one","other","steps"] ["one","other"] (ze VO):=scx
abbrev vJ:Stmt:=top 19
def vc:zx ["one","other","one_signs","other_signs"] ["one","other"] (ze vJ):=scx
abbrev V3:Stmt:=top 20
def zdb:zx ["rooms"] ["rooms"] (ze V3):=scx
abbrev vT:Stmt:=top 21
def ZZ:zx ["row","fraction"] ["row","fraction"] (ze vT):=scx
abbrev uS:Stmt:=top 22
def Ua:zx ["one_step","other_step","crossings"] ["one_step","other_step"] (ze uS):=scx
abbrev jy:Stmt:=top 23
def v9:zx ["one_step","crossings","other_step","one_rows","other_rows"] ["one_step","crossings","other_step"] (ze jy):=scx
abbrev JE:Stmt:=top 25
def zaM:zx ["row"] ["row"] (ze JE):=scx
abbrev Uv:Stmt:=top 26
def WB:zx ["place","places","row"] ["place","places"] (ze Uv):=scx
abbrev u7:Stmt:=top 27
def zcs:zx ["check","number","gone","pivot","divisor"] ["check","number","gone","pivot","divisor"] (ze u7):=scx
abbrev Wa:Stmt:=top 32
def zdy:zx ["one","other"] ["one","other"] (ze Wa):=scx
abbrev vp:Stmt:=top 33
def wG:zx ["one","other","told"] ["one","other"] (ze vp):=scx
abbrev uI:Stmt:=top 34
def ZL:zx ["one","other"] ["one","other"] (ze uI):=scx
abbrev UK:Stmt:=top 35
def jL:zx ["one","other","machine","last","reach","row"] ["one","other"] (ze UK):=scx
abbrev uc:Stmt:=top 37
def Yd:zx ["script","k"] ["script","k"] (ze uc):=scx
abbrev Jv:Stmt:=top 38
def zaL:zx ["found"] ["found"] (ze Jv):=scx
abbrev V0:Stmt:=top 39
def vj:zx ["top","bottom","a","b","rest"] ["top","bottom"] (ze V0):=scx
abbrev Uz:Stmt:=top 40
def zcn:zx ["one","other"] ["one","other"] (ze Uz):=scx
abbrev Jo:Stmt:=top 41
def zbi:zx ["one","other"] ["one","other"] (ze Jo):=scx
abbrev V8:Stmt:=top 42
def uP:zx ["one","other","total","k"] ["one","other"] (ze V8):=scx
abbrev wb:Stmt:=top 43
def WY:zx ["cell"] ["cell"] (ze wb):=scx
abbrev wZ:Stmt:=top 44
def yL:zx ["cell","rooms","signs","out","k","steps","sign","rows","a","at"] ["cell","rooms","signs"] (ze wZ):=scx
abbrev UL:Stmt:=top 45
def wA:zx ["cell","signs","most","word","k"] ["cell","signs","most"] (ze UL):=scx
abbrev JP:Stmt:=top 46
def UA:zx ["row","step","out","b"] ["row","step"] (ze JP):=scx
abbrev V7:Stmt:=top 47
def u5:zx ["machine","word","row","sign"] ["machine","word"] (ze V7):=scx
abbrev uU:Stmt:=top 48
def Z0:zx ["machine","word"] ["machine","word"] (ze uU):=scx
abbrev uE:Stmt:=top 49
def ZJ:zx ["part"] ["part"] (ze uE):=scx
abbrev vi:Stmt:=top 50
def wN:zx ["row","many","part"] ["row","many"] (ze vi):=scx
abbrev xV:Stmt:=top 52
def xX:zx ["one","other","left","right","steps","k","rows"] ["one","other"] (ze xV):=scx
abbrev vh:Stmt:=top 53
def wM:zx ["row","i","j","c","out"] ["row","i","j","c"] (ze vh):=scx
abbrev jM:Stmt:=top 54
def xQ:zx ["machine","i","j","c","less","first","last","steps","step","rows"] ["machine","i","j","c"] (ze jM):=scx
abbrev J0:Stmt:=top 55
def yT:zx ["machine","cell","more","rooms","signs","idle","none","k","i","j"] ["machine","cell","more"] (ze J0):=scx
abbrev va:Stmt:=top 56
def xo:zx ["rows","left","done","k","at","base","r","part","less"] ["rows"] (ze va):=scx
abbrev Ux:Stmt:=top 57
def zcj:zx ["part"] ["part"] (ze Ux):=scx
abbrev vv:Stmt:=top 58
def Zo:zx ["rows","row"] ["rows","row"] (ze vv):=scx
abbrev uX:Stmt:=top 59
def WO:zx ["one","other","less"] ["one","other"] (ze uX):=scx
abbrev wH:Stmt:=top 60
def jZ:zx ["one","other","rows","both","known","row","step"] ["one","other","rows"] (ze wH):=scx
abbrev JC:Stmt:=top 61
def uK:zx ["one","cell","second","rooms","first"] ["one","cell","second"] (ze JC):=scx
abbrev jU:Stmt:=top 62
def v7:zx ["rows","many","row"] ["rows","many"] (ze jU):=scx
abbrev Uu:Stmt:=top 63
def je:zx ["script","signs","cell","base","one","other","last","at"] ["script","signs"] (ze Uu):=scx
abbrev YT:Stmt:=top 64
def wc:zx ["script","signs","one","other","many","word","rows","k","near"] ["script"] (ze YT):=scx
abbrev VQ:Stmt:=inClass (top 28) 3
def u9:zx ["self","row","sums","unmet","turn","pivot","gone","left"] ["self","row"] (ze VQ):=scx
abbrev zdH:Stmt:=inClass (top 28) 1
def ziH:zx ["self"] ["self"] (ze zdH):=scx
abbrev Yr:Stmt:=inClass (top 29) 1
def VX:zx ["self","word","row"] ["self"] (ze Yr):=scx
abbrev zf6:Stmt:=inClass (top 29) 2
def zkT:zx ["self","word","row"] ["self","word","row"] (ze zf6):=scx
abbrev zdB:Stmt:=inClass (top 29) 3
def zeh:zx ["self","word","row","sign"] ["self","word","row"] (ze zdB):=scx
abbrev Ya:Stmt:=inClass (top 29) 0
def zgJ:zx ["self","machine"] ["self","machine"] (ze Ya):=scx
abbrev W7:Stmt:=inClass (top 28) 0
def zhl:zx ["self","places"] ["self","places"] (ze W7):=scx
abbrev DX(k:Nat)(x:Str)(ps:List Str)(f:List PyData->Option PyData)(P:Program)(w:World)(K:PySem.W.Frag)(mg:Str->Option Value)(base:Heap):Prop:=yQ P w K mg base k x ps f
abbrev jo:=DX 1 "whole_pair_sum" ["ones","others"] yD
abbrev Vk:=DX 5 "difference" ["one","other"] vU
abbrev Vs:=DX 3 "whole_step" ["step"] vM
abbrev wV:=DX 1 "_law_cell_at" ["script","k"] zH
abbrev um:=DX 1 "_law_low" ["top","bottom"] vW
abbrev jQ:=DX 2 "_law_fraction" ["cell"] xa
abbrev jz:=DX 3 "_law_machine" ["cell","rooms","signs"] yZ
abbrev uV:=DX 1 "_law_beside" ["one","other"] xS
abbrev vA:=DX 2 "_law_times" ["one","other"] yC
abbrev vo:=DX 2 "_law_plus" ["one","other"] xu
abbrev WA:=DX 4 "_law_mixed" ["machine","i","j","c"] wK
abbrev VR:=DX 5 "_law_kin" ["machine","cell","more"] ve
abbrev Ws:=DX 6 "_law_other" ["one","cell","second"] Jq
abbrev Zf:=DX 6 "_law_wide" ["script","signs"] wa
abbrev Jg:=DX 1 "refuse_unlike" ["one","other"] vG
abbrev ji:=DX 1 "common_divisor" ["one","other"] yR
abbrev zci:=DX 2 "lowest" ["top","bottom"] Yl
abbrev ze6:=DX 3 "times" ["one","other"] zaS
abbrev Vp:=DX 4 "scaled_row" ["row","fraction"] uO
abbrev Wc:=DX 1 "noughts" ["rooms"] uq
abbrev Ud:=DX 2 "joined_step" ["one_step","crossings","other_step"] wW
abbrev U9:=DX 3 "added_step" ["one_step","other_step"] u6
abbrev zb1:=DX 4 "beside" ["one","other"] Yf
abbrev vK:=DX 2 "shared_bottom" ["fractions"] xh
abbrev zbR:=DX 1 "column" ["step","room"] VJ
abbrev WE:=DX 1 "_law_whole" ["found"] JJ
abbrev UY:=DX 2 "_law_proper" ["part"] vS
abbrev uy:=DX 3 "_law_proper_row" ["row","many"] jj
abbrev wC:=DX 4 "_law_proper_rows" ["rows","many"] jV
abbrev Y7:=DX 2 "_law_both" ["one","other"] uT
abbrev YR:=DX 1 "_law_over" ["part"] v5
abbrev Zz:=DX 3 "_law_rank" ["rows"] u4
abbrev J7:=DX 4 "_law_in_span" ["rows","row"] yW
abbrev JZ:=DX 3 "_law_dot" ["one","other"] jq
abbrev WU:=DX 5 "_law_shown" ["one","other","rows"] jH
abbrev Vy:=DX 6 "_law_weight" ["machine","word"] yX
abbrev YY:=DX 1 "_law_word" ["cell","signs","most"] Ja
abbrev NBP(P:Program)(w:World)(base:Heap)(mg:Str->Option Value):Prop:=NoB mg blts
section
variable{P:Program}{w:World}{K:FRx}{mg:Str->Option Value}{base:Heap}{CS CR:AdX}
theorem Um{f:Str×NameKind->Str×NameKind}(h1:∀p,(f p).1=p.1)(h2:∀p,(p.2=.cell\/p.2=.free)->((f p).2=.cell\/(f p).2=.free)):∀{names:List (Str×NameKind)} {x:Str},(names.lookup x=some .cell\/names.lookup x=some .free)->
  ((names.map f).lookup x=some .cell\/(names.map f).lookup x=some .free)
 |[],_,h=>by simp at h
 |p::r,x,h=>by
  have ih:=@Um f h1 h2 r x;have e:(f p)=(p.1,(f p).2):=Prod.ext (h1 p) rfl
  rw[gp,e];cases hb:x==p.1 with
  |false=>
   have h':r.lookup x=some .cell\/r.lookup x=some .free:=by simpa only [List.lookup,hb] using h
   simpa only [List.lookup,hb] using ih h'
  |true=>
   have h':some p.2=some .cell\/some p.2=some .free:=by simpa only [List.lookup,hb] using h
   have h3:=h2 p (h'.imp qZ qZ);simp only [List.lookup,hb];exact h3.imp (qG some) (qG some)
def Ww{X:Cx}{scope sc:Scope}{N:LSr}{cl C ex s H}(kind:scope.kind=.function)(nocell:∀y∈scope.names,y.2≠ .cell)(loc:∀y∈scope.names,y.2=.local->scope.names.lookup y.1=some .local)(free:∀y∈scope.names,y.2=.free->sc.names.lookup y.1=some .cell\/sc.names.lookup y.1=some .free):yq (yc X N sc cl C ex s H) scope:=Yu (sc:=PySem.relabel sc X.env) rfl kind nocell loc λy hy hf=>
 Um (λp=>by dsimp only;split<;>rfl) (λp hp=>by dsimp only;split;exact Or.inl rfl;exact hp) (free y hy hf)
def zle(h:W9 K mg CS "Span" "__init__" "Span.__init__" W7)(NB:NBP P w base mg)(cl:Cls K CS)(n1:zS K CS "free")(n2:zS K CS "taken")(n3:zS K CS "checks")(n4:zS K CS "pivot")(b8:x6 P w K mg base 1 "unit_row" ["place","places"] v3):Ini P w K mg base 3 CS "Span" ["self","places"] Vx:=(Ini.mk (N:=["self","places"]) (m:=1) h zhl (um2 λ_ _ _ _ _ _ _ _=>rfl) rfl (by decide) (λf cdv A outer s H E hr=>
  (zU (Jb cl n1 (FL.gl (zlq rfl rfl (nbg NB) rfl (nbg NB) (za (zg 1) zh))))
  (zU (Jb cl n2 (FL.gl (xO zh)))
  (zU (Jb cl n3 (FL.gl (yF (Ts:=["place"]) (F:=[1]) rfl (FI.fib (yO rfl (nbg NB) (za (zg 1) zh))) (csx (sc:=ze W7)) (jt rfl rfl ja) (fgc 0) (λ_ _ _ _ _=>(FL.fe (vw b8 hr rfl (za (zg 0) (za (zg 1) zh))))))))
  (xM (zbJ cl n4 (FE.ge zP))))))))
def zkl(h:uF K CS "take" "Span.take" VQ)(NB:NBP P w base mg)(cl:Cls K CS)(nF:zS K CS "free")(nT:zS K CS "taken")(nC:zS K CS "checks")(nP:zS K CS "pivot")(bF:jo P w K mg base)(b9:x6 P w K mg base 1 "narrowed" ["check","number","gone","pivot","divisor"] uZ):Met P w K mg base 4 CS "take" ["self","row"] Us:=(Met.mk (N:=["self","row","sums","unmet","turn","pivot","gone","left"]) (m:=1) h u9 (um2 λ_ _ _ _ _ _ _ _=>rfl) rfl (by decide) (λf cdv A outer s H E hr=>
  (zU (ziY 2 (Ts:=["check"]) (F:=[1]) u9.nd rfl (zh4 (ua cl nC)) (csx (sc:=ze VQ)) (jt rfl rfl ja) (fgc 0) (λ_ _ _ _ _=>(zo bF hr rfl (za (zg 0) (za (zg 1) zh)))))
  (zU (zfh 3 (Ts:=["turn","number"]) (F:=[]) u9.nd rfl (FIB.gib (zg5 false rfl (nbg NB) (zj (z9 2) zt))) (csx (sc:=ze VQ)) ja (λ_ _ _ _ _=>(uH rfl (zQ 0 (show(["turn","number"]:LSr).Nodup by decide+kernel)) (zQ 1 (show(["turn","number"]:LSr).Nodup by decide+kernel)))) (λ_ _ _ _ _=>(yd (vI hr.units) Jh (qv 1) qi (nomark _))) (λ_ _ _ _ _=>(zg 0)))
  (zU (zg0 (FT.gt (yd (vd hr.units) uo (z9 3) (FL.fb (xO zh)) (nomark _))) (xM (Jt (FE.ge j5))) W4)
  (zU (zhh 4 u9.nd (FE.ge (zu (z9 3) qi (λ_ _=>rfl))))
  (zU (zik 5 2 u9.nd (FE.ge (zg 4)))
  (zU (zjq 6 u9.nd cl nC (FE.ge (zg 4)))
  (zU (zgZ 7 0 (Ts:=["check","number"]) (F:=[0,5,6]) u9.nd rfl (zi5 false false rfl (nbg NB) (VA (ua cl nC) (VA (FB.gb (z9 2)) za4))) (csx (sc:=ze VQ)) (jt rfl rfl (jt rfl rfl (jt rfl rfl ja))) rfl (λ_ _ _ _ _=>(uH rfl (zQ 0 (show(["check","number","self","pivot","gone"]:LSr).Nodup by decide+kernel)) (zQ 1 (show(["check","number","self","pivot","gone"]:LSr).Nodup by decide+kernel)))) (λ_ _ _ _ _=>(zil b9.df hr rfl (JA (FE.gj (zg 0)) (JA (FE.gj (zg 1)) (JA (FE.gj (zg 4)) (JA (FE.gj (zg 3)) (JA (zkq (j:=2) cl nP) ziq))))))))
  (zU (ziw 7 cl nC)
  (zU (zbJ cl nP (FE.ge (zg 5)))
  (zU (zkm cl nT nF (FE.ge (zg 4)) (by decide+kernel))
  (xM (Jt (FE.ge j5)))))))))))))))
def zk2(h:uF K CS "full" "Span.full" zdH)(cl:Cls K CS)(nF:zS K CS "free"):Met P w K mg base 1 CS "full" ["self"] YH:=(Met.mk (N:=["self"]) (m:=0) h ziH (um1 λ_ _ _ _ _ _ _=>rfl) rfl (by decide) (λf cdv A outer s H E hr=>
  (xM (Jt (zlb (vd hr.units) uo (ua cl nF) (FB.gb (FL.fb (xO zh))) (nomark _))))))
def zlX(h:uF K CR "row_led_on" "Reach.row_led_on" zf6)(cl:Cls K CR)(nS:zS K CR "steps")(cb:x6 P w K mg base 2 "without_common" ["tops"] xq)(cc:x6 P w K mg base 2 "led_on" ["tops","columns"] U7):Met P w K mg base 4 CR "row_led_on" ["self","word","row"] Uq:=(Met.mk (N:=["self","word","row"]) (m:=2) h zkT (um3 λ_ _ _ _ _ _ _ _ _=>rfl) rfl (by decide) (λf cdv A outer s H E hr=>
  (zU (zg0 (FT.gt (yd (vd hr.units) uo (qv 1) (FE.fb (yn zh)) (nomark _))) (xM (Jt (FE.ge (zg 2)))) W4)
  (xM (Jt (zeV cb.df hr rfl (jW (zeV cc.df hr rfl (jW (FE.ge (zg 2)) (jW (Z8 (ua cl nS) (GE.gb (FE.ge (zu (qv 1) (FE.fb (zbs zP)) (λ_ _=>rfl)))) (λ_ _=>rfl)) UI))) UI)))))))
def zf0(h:uF K CR "onward" "Reach.onward" Yr)(NB:NBP P w base mg)(cl:Cls K CR)(cs:Cls K CS)(nA:zS K CR "asked")(nW:zS K CR "waiting")(nS:zS K CR "span")(mF:Met P w K mg base 1 CS "full" ["self"] YH)(mT:Met P w K mg base 4 CS "take" ["self","row"] Us)(mK:Met P w K mg base 1 CR "keep" ["self","word","row"] Wf)(mL:Met P w K mg base 4 CR "row_led_on" ["self","word","row"] Uq):Met P w K mg base 5 CR "onward" ["self"] (jb CS):=(Met.mk (N:=["self","word","row"]) (m:=0) h VX (um1 λ_ _ _ _ _ _ _=>rfl) rfl (by decide) (λf cdv A outer s H E hr=>
  (zU (zc4 (λ_ _=>1000000) qR (GWM.gtm (zh0 (GT.gtm (zko Z7 vg (GE.gb (za7 cl nA)) (GE.gb (zca zv y3 rfl (nbg NB) yo (VA (ua cl nW) za4))) (nomark _))) (zhb (ziC (zey (zhH cl nS cs mF hr))))))
   (zU (zhh 1 VX.nd (Z8 (GE.gb (Z8 (ua cl nW) (GE.gb (za7 cl nA)) (λ_ _=>rfl))) (FB.gb qi) (λ_ _=>rfl)))
   (zU (zbw 2 VX.nd (ze0 cl mL hr (jW (FE.ge (zg 1)) (jW (Z8 (GE.gb (Z8 (ua cl nW) (GE.gb (za7 cl nA)) (λ_ _=>rfl))) (FB.gb qi) (λ_ _=>rfl)) UI))))
   (zU (zbJ cl nA (zl3 xJ xW (GE.gb (za7 cl nA)) (FB.gb qi)))
   (xM (zks (zey (ziv cl nS cs mT hr (jW (FE.ge (zg 2)) UI))) (zU (zmc (ze0 cl mK hr (jW (FE.ge (zg 1)) (jW (FE.ge (zg 2)) UI)))) (xM (Jt (FE.ge (zg 2))))) W4))))))
  (xM (Jt (FE.ge uG))))))
def zjU(h:uF K CR "keep" "Reach.keep" zdB)(NB:NBP P w base mg)(cl:Cls K CR)(nWd:zS K CR "words")(nR:zS K CR "rows")(nS:zS K CR "steps")(nW:zS K CR "waiting"):Met P w K mg base 1 CR "keep" ["self","word","row"] Wf:=(Met.mk (N:=["self","word","row","sign"]) (m:=2) h zeh (um3 λ_ _ _ _ _ _ _ _ _=>rfl) rfl (by decide) (λf cdv A outer s H E hr=>
  (zU (zht cl nWd (FE.ge (zg 1)))
  (zU (zht cl nR (FE.ge (zg 2)))
  (xM (zkF qR rfl (zdK rfl (nbg NB) (jW (zca zv y3 rfl (nbg NB) yo (VA (ua cl nS) za4)) UI)) (zQ 3 zeh.nd)
   (xM (zht cl nW (FE.ge (yn (za (zy jY vN (qv 1) (FE.fb (yn (za (zg 3) zh)))) (za (zg 2) zh))))))))))))
def zcC(h:HasDef K mg "compared" UK)(bG:Vk P w K mg base)(bz:x6 P w K mg base 3 "whole_row" ["row"] xI)(bF:jo P w K mg base)(iR:Ini P w K mg base 5 CR "Reach" ["self","machine"] (J4 CS))(mO:Met P w K mg base 5 CR "onward" ["self"] (jb CS))(cl:Cls K CR)(nWd:zS K CR "words")(nR:zS K CR "rows"):yQ P w K mg base 8 "compared" ["one","other"] (yp CS):=(yQ.mk (N:=["one","other","machine","last","reach","row"]) (m:=2) h jL (um2 λ_ _ _ _ _ _ _ _=>rfl) rfl (λf cdv A outer s H E hr=>
  (zf (zK 2 jL.nd (zo bG hr rfl (za (zg 0) (za (zg 1) zh))))
  (zf (zK 3 jL.nd (zo bz.df hr rfl (za (zu (qv 2) qi (λ_ _=>rfl)) zh)))
  (ziN 4 jL.nd (zeo iR hr rfl (za (zg 2) zh))
  (zU (zbw 5 jL.nd (zb6 cl mO hr))
  (zU (zc4 (λ_ _=>1000) qR (GT.gtm (FT.gt (yd W6 Vt (qv 5) (FE.fb uG) (nomark _))))
   (zU (zg0 (FT.gt (yd (vI hr.units) Jh (FE.fb (zo bF hr rfl (za (zg 5) (za (zg 3) zh)))) qi (nomark _))) (xM (Jt (zlw (jW (Z8 (ua cl nWd) (FB.gb (FE.fb (zbs zP))) (λ_ _=>rfl)) (jW (GL.ge (zhw (ua cl nR) zeI (J3 (zbs zP)))) UI))))) W4)
   (xM (zbw 5 jL.nd (zb6 cl mO hr)))))
  (xM (ziy (zlc (zbP (FE.gz uG) (zbP (zln cl nR) ziI))))))))))))
def zio(h:W9 K mg CR "Reach" "__init__" "Reach.__init__" Ya)(NB:NBP P w base mg)(cl:Cls K CR)(n1:zS K CR "steps")(n2:zS K CR "span")(n3:zS K CR "words")(n4:zS K CR "rows")(n5:zS K CR "waiting")(n6:zS K CR "asked")(cj:Vs P w K mg base)(ck:x6 P w K mg base 3 "whole_row" ["row"] xI)(iS:Ini P w K mg base 3 CS "Span" ["self","places"] Vx):Ini P w K mg base 5 CR "Reach" ["self","machine"] (J4 CS):=(Ini.mk (N:=["self","machine"]) (m:=1) h zgJ (um2 λ_ _ _ _ _ _ _ _=>rfl) rfl (by decide) (λf cdv A outer s H E hr=>
  (zU (Jb cl n1 (FL.gl (yF (Ts:=["step"]) (F:=[]) rfl (y0 (FE.fb (zu (qv 1) qi (λ_ _=>rfl)))) (csx (sc:=ze Ya)) ja (fgc 0) (λ_ _ _ _ _=>(zu (FE.fb (zo cj hr rfl (za (zg 0) zh))) qi (λ_ _=>rfl))))))
  (zU (zi4 cl n2 (FN.gn (zeo iS hr rfl (za (zI zv y3 rfl (nbg NB) yo (zj (FE.fb (zu (qv 1) qi (λ_ _=>rfl))) zt)) zh))))
  (zU (Jb cl n3 (FL.gl (xO zh)))
  (zU (Jb cl n4 (FL.gl (xO zh)))
  (zU (Jb cl n5 (FL.gl (xO (za (yn (za (yn zh) (za (zo ck.df hr rfl (za (zu (qv 1) qi (λ_ _=>rfl)) zh)) zh))) zh))))
  (xM (zbJ cl n6 (FE.ge zP))))))))))
def Yo(h:HasDef K mg "_law_cell_at" uc)(NB:NBP P w base mg):wV P w K mg base:=yQ.mk (N:=["script","k"]) (m:=2) (b:=Uc) h Yd (um2 λ_ _ _ _ _ _ _ _=>rfl) rfl (λf cdv A outer s H E hr=> 
  (zf (xx (yd Z7 vg (qv 1) (FE.fb (zI zv y3 rfl (nbg NB) yo (zj (qv 0) zt))) (nomark _)) (zl (zJ (zu (qv 0) (qv 1)))) ye)
   (zl (zJ zP))))
def zdY(h:HasDef K mg "_law_low" V0)(NB:NBP P w base mg):um P w K mg base:=yQ.mk (N:=["top","bottom","a","b","rest"]) (m:=2) (b:=Z6) h vj (um2 λ_ _ _ _ _ _ _ _=>rfl) rfl (λf cdv A outer s H E hr=> 
  (zf (zK 2 vj.nd (zI zcz zjL rfl (nbg NB) zgC (zj (qv 0) zt)))
   (zf (zK 3 vj.nd (zg 1))
   (zf (zcc Zj qR (yd Za vg (qv 3) qi (nomark _)) (zf (zK 4 vj.nd (zy yk yP (qv 2) (qv 3)))
   (zf (zK 2 vj.nd (zg 3))
   (zl (zK 3 vj.nd (zg 4))))))
   (zl (zJ (yn (za (zy yf yG (qv 0) (qv 2)) (za (zy yf yG (qv 1) (qv 2)) zh)))))))))
def WX(h:HasDef K mg "_law_fraction" wb)(NB:NBP P w base mg)(p6:um P w K mg base):jQ P w K mg base:=yQ.mk (N:=["cell"]) (m:=1) (b:=Jp) h WY (um1 λ_ _ _ _ _ _ _=>rfl) rfl (λf cdv A outer s H E hr=> 
  (zl (zJ (zo p6 hr rfl (za (zy Ju Jm (FE.fb (zy yk yP (qv 0) qi)) qi) (za (zu (FL.fb (xO (za zP (za zP (za zP (za zP (za zP zh))))))) (FE.fb (zy yk yP (FE.fb (zy yf yG (qv 0) qi)) qi))) zh))))))
def YC(h:HasDef K mg "_law_machine" wZ)(NB:NBP P w base mg)(p9:jQ P w K mg base):jz P w K mg base:=yQ.mk (N:=["cell","rooms","signs","out","k","steps","sign","rows","a","at"]) (m:=3) (b:=vt) h yL (um3 λ_ _ _ _ _ _ _ _ _=>rfl) rfl (λf cdv A outer s H E hr=> 
  (zf (xm 3 yL.nd (xO zh))
   (zf (xE qR rfl (yO rfl (nbg NB) (za (zy yK xw (qv 1) (FE.fb (zy xJ xW qi (FE.fb (zy yK xw (qv 1) (qv 2)))))) zh)) (zQ 4 yL.nd) (zf (zK 0 yL.nd (zy yk yP (FE.fb (zy xJ xW (FE.fb (zy yK xw (qv 0) qi)) qi)) qi))
   (zl (jJ 3 (zcV (yd (vd hr.units) uo (FE.fb (zy yk yP (FE.fb (zy yf yG (qv 0) qi)) qi)) qi (nomark _)) (yn (za zP (za zP zh))) (zo p9 hr rfl (za (zy yf yG (qv 0) qi) zh)))))))
   (zf (xm 5 yL.nd (xO zh))
   (zf (xE qR rfl (yO rfl (nbg NB) (za (zg 2) zh)) (zQ 6 yL.nd) (zf (xm 7 yL.nd (xO zh))
   (zf (xE qR rfl (yO rfl (nbg NB) (za (zg 1) zh)) (zQ 8 yL.nd) (zf (zK 9 yL.nd (zy xJ xW (FE.fb (zy yK xw qi (qv 1))) (FE.fb (zy yK xw (FE.fb (zy xJ xW (FE.fb (zy yK xw (qv 6) (qv 1))) (qv 8))) (qv 1)))))
   (zl (jJ 7 (zW zE yH rfl (nbg NB) zY (zj (FL.fb (YL (z9 3) (J3 (zg 9)) (J3 (zy xJ xW (qv 9) (qv 1))))) zt))))))
   (zl (jJ 5 (zW zE yH rfl (nbg NB) zY (zj (z9 7) zt)))))))
   (zl (zJ (yn (za (zW zE yH rfl (nbg NB) zY (zj (FL.fb (YL (z9 3) zeI (J3 (zg 1)))) zt)) (za (zW zE yH rfl (nbg NB) zY (zj (z9 5) zt)) (za (zW zE yH rfl (nbg NB) zY (zj (FL.fb (YL (z9 3) (J3 (zg 1)) (J3 (zy yK xw qi (qv 1))))) zt)) zh)))))))))))
def ZH(h:HasDef K mg "_law_beside" xV)(NB:NBP P w base mg):uV P w K mg base:=yQ.mk (N:=["one","other","left","right","steps","k","rows"]) (m:=2) (b:=VB) h xX (um2 λ_ _ _ _ _ _ _ _=>rfl) rfl (λf cdv A outer s H E hr=> 
  (zf (zK 2 xX.nd (zW zE yH rfl (nbg NB) zY (zj (FL.fb (yF (Ts:=["k"]) (F:=[]) rfl (y0 (FE.fb (zu (qv 0) qi))) (csx (sc:=ze xV)) ja (fgc 0) (λ_ _ _ _ _=>(yn (za zP (za zP zh)))))) zt)))
   (zf (zK 3 xX.nd (zW zE yH rfl (nbg NB) zY (zj (FL.fb (yF (Ts:=["k"]) (F:=[]) rfl (y0 (FE.fb (zu (qv 1) qi))) (csx (sc:=ze xV)) ja (fgc 0) (λ_ _ _ _ _=>(yn (za zP (za zP zh)))))) zt)))
   (zf (xm 4 xX.nd (xO zh))
   (zf (xE qR rfl (yO rfl (nbg NB) (za (zI zv y3 rfl (nbg NB) yo (zj (FE.fb (zu (qv 0) qi)) zt)) zh)) (zQ 5 xX.nd) (zf (JX 6 (Ts:=["row"]) (F:=[3]) xX.nd rfl (y0 (FE.fb (zu (FE.fb (zu (qv 0) qi)) (qv 5)))) (csx (sc:=ze xV)) (jt rfl rfl ja) (fgc 0) (λ_ _ _ _ _=>(zy jY vN (qv 0) (qv 1))))
   (zl (jJ 4 (zW zE yH rfl (nbg NB) zY (zj (FL.fb (zhA (zde 6) (FL.fk (yF (Ts:=["row"]) (F:=[2]) rfl (y0 (FE.fb (zu (FE.fb (zu (qv 1) qi)) (qv 5)))) (csx (sc:=ze xV)) (jt rfl rfl ja) (fgc 0) (λ_ _ _ _ _=>(zy jY vN (qv 1) (qv 0))))))) zt))))))
   (zl (zJ (yn (za (zy jY vN (FE.fb (zu (qv 0) qi)) (FE.fb (zu (qv 1) qi))) (za (zW zE yH rfl (nbg NB) zY (zj (z9 4) zt)) (za (zy jY vN (FE.fb (zu (qv 0) qi)) (FE.fb (zu (qv 1) qi))) zh)))))))))))
def zaV(h:HasDef K mg "_law_times" Jo)(NB:NBP P w base mg)(p6:um P w K mg base):vA P w K mg base:=yQ.mk (N:=["one","other"]) (m:=2) (b:=WL) h zbi (um2 λ_ _ _ _ _ _ _ _=>rfl) rfl (λf cdv A outer s H E hr=> 
  (zl (zJ (zo p6 hr rfl (za (zy yK xw (FE.fb (zu (qv 0) qi)) (FE.fb (zu (qv 1) qi))) (za (zy yK xw (FE.fb (zu (qv 0) qi)) (FE.fb (zu (qv 1) qi))) zh))))))
def zcx(h:HasDef K mg "_law_plus" Uz)(NB:NBP P w base mg)(p6:um P w K mg base):vo P w K mg base:=yQ.mk (N:=["one","other"]) (m:=2) (b:=Yn) h zcn (um2 λ_ _ _ _ _ _ _ _=>rfl) rfl (λf cdv A outer s H E hr=> 
  (zl (zJ (zo p6 hr rfl (za (zy xJ xW (FE.fb (zy yK xw (FE.fb (zu (qv 0) qi)) (FE.fb (zu (qv 1) qi)))) (FE.fb (zy yK xw (FE.fb (zu (qv 1) qi)) (FE.fb (zu (qv 0) qi))))) (za (zy yK xw (FE.fb (zu (qv 0) qi)) (FE.fb (zu (qv 1) qi))) zh))))))
def Vi(h:HasDef K mg "_law_turned_row" vh)(NB:NBP P w base mg)(p5:vA P w K mg base)(p4:vo P w K mg base):x6 P w K mg base 3 "_law_turned_row" ["row","i","j","c"] yS:=x6.mk (N:=["row","i","j","c","out"]) (m:=4) (b:=uA) h wM (λ_ _ _ _ _ _ us hl=>match us,hl with |[_,_,_,_],_=>rfl) rfl (λf cdv A outer s H E hr=> 
  (zf (xm 4 wM.nd (jO xB JM rfl (nbg NB) j0 (zj (qv 0) zt)))
   (zf (JW 4 (zg 2) (zo p4 hr rfl (za (zu (z9 4) (qv 2)) (za (zo p5 hr rfl (za (zg 3) (za (zu (z9 4) (qv 1)) zh))) zh))))
   (zl (W3 4)))))
def zaW(h:HasDef K mg "_law_mixed" jM)(NB:NBP P w base mg)(bw:x6 P w K mg base 3 "_law_turned_row" ["row","i","j","c"] yS)(p5:vA P w K mg base)(p4:vo P w K mg base):WA P w K mg base:=yQ.mk (N:=["machine","i","j","c","less","first","last","steps","step","rows"]) (m:=4) (b:=Wt) h xQ (λ_ _ _ _ _ _ us hl=>match us,hl with |[_,_,_,_],_=>rfl) rfl (λf cdv A outer s H E hr=> 
  (zf (zK 4 xQ.nd (yn (za (zy Ju Jm qi (FE.fb (zu (qv 3) qi))) (za (zu (qv 3) qi) zh))))
   (zf (xm 5 xQ.nd (vw bw hr rfl (za (zu (qv 0) qi) (za (zg 1) (za (zg 2) (za (zg 3) zh))))))
   (zf (xm 6 xQ.nd (vw bw hr rfl (za (zu (qv 0) qi) (za (zg 2) (za (zg 1) (za (zg 4) zh))))))
   (zf (xm 7 xQ.nd (xO zh))
   (zf (xE qR rfl (uN (zu (qv 0) qi)) (zQ 8 xQ.nd) (zf (xm 9 xQ.nd (yF (Ts:=["row"]) (F:=[1,2,3]) rfl (y0 (qv 8)) (csx (sc:=ze jM)) (jt rfl rfl (jt rfl rfl (jt rfl rfl ja))) (fgc 0) (λ_ _ _ _ _=>(FL.fe (vw bw hr rfl (za (zg 0) (za (zg 1) (za (zg 2) (za (zg 3) zh)))))))))
   (zf (JW 9 (zg 1) (FL.fe (yF (Ts:=["b"]) (F:=[1,2,4,9]) rfl (FI.fib (yO rfl (nbg NB) (za (zI zv y3 rfl (nbg NB) yo (zj (z9 9) zt)) zh))) (csx (sc:=ze jM)) (jt rfl rfl (jt rfl rfl (jt rfl rfl (jt rfl rfl ja)))) (fgc 0) (λ_ _ _ _ _=>(zo p4 hr rfl (za (zu (FE.fb (zu (z9 4) (qv 1))) (qv 0)) (za (zo p5 hr rfl (za (zg 3) (za (zu (FE.fb (zu (z9 4) (qv 2))) (qv 0)) zh))) zh)))))))
   (zl (jJ 7 (zW zE yH rfl (nbg NB) zY (zj (FL.fb (yF (Ts:=["row"]) (F:=[]) rfl (y0 (z9 9)) (csx (sc:=ze jM)) ja (fgc 0) (λ_ _ _ _ _=>(zW zE yH rfl (nbg NB) zY (zj (qv 0) zt))))) zt)))))))
   (zl (zJ (yn (za (zW zE yH rfl (nbg NB) zY (zj (z9 5) zt)) (za (zW zE yH rfl (nbg NB) zY (zj (z9 7) zt)) (za (zW zE yH rfl (nbg NB) zY (zj (z9 6) zt)) zh))))))))))))
def zdU(h:HasDef K mg "_law_kin" J0)(NB:NBP P w base mg)(p7:jz P w K mg base)(bf:uV P w K mg base)(p9:jQ P w K mg base)(bH:WA P w K mg base):VR P w K mg base:=yQ.mk (N:=["machine","cell","more","rooms","signs","idle","none","k","i","j"]) (m:=3) (b:=zan) h yT (um3 λ_ _ _ _ _ _ _ _ _=>rfl) rfl (λf cdv A outer s H E hr=> 
  (zf (zK 3 yT.nd (zI zv y3 rfl (nbg NB) yo (zj (FE.fb (zu (qv 0) qi)) zt)))
   (zf (zK 4 yT.nd (zI zv y3 rfl (nbg NB) yo (zj (FE.fb (zu (qv 0) qi)) zt)))
   (zf (xx (yd Za vg (qv 2) qi (nomark _)) (zf (zK 5 yT.nd (zo p7 hr rfl (za (zg 1) (za (zg 2) (za (zg 4) zh)))))
   (zf (zK 6 yT.nd (zW zE yH rfl (nbg NB) zY (zj (FL.fb (yF (Ts:=["k"]) (F:=[]) rfl (FI.fib (yO rfl (nbg NB) (za (zg 2) zh))) (csx (sc:=ze J0)) ja (fgc 0) (λ_ _ _ _ _=>(yn (za zP (za zP zh)))))) zt)))
   (zl (xx (yd (vd hr.units) uo (FE.fb (zy yk yP (qv 1) qi)) qi (nomark _)) (zl (zK 0 yT.nd (zo bf hr rfl (za (zg 0) (za (yn (za (zg 6) (za (zu (qv 5) qi) (za (zu (qv 5) qi) zh)))) zh))))) (zl (zK 0 yT.nd (zo bf hr rfl (za (zg 0) (za (yn (za (zu (qv 5) qi) (za (zu (qv 5) qi) (za (zg 6) zh)))) zh))))))))) ye)
   (zf (zK 3 yT.nd (zy xJ xW (qv 3) (qv 2)))
   (zf (xE qR rfl (yO rfl (nbg NB) (za zP zh)) (zQ 7 yT.nd) (zf (zK 1 yT.nd (zy yk yP (FE.fb (zy xJ xW (FE.fb (zy yK xw (qv 1) qi)) qi)) qi))
   (zf (zK 8 yT.nd (zy yk yP (FE.fb (zy yf yG (qv 1) qi)) (FE.fb (zI (Wi rfl) zf1 rfl (nbg NB) zd8 (zj qi (zj (qv 3) zt))))))
   (zf (zK 9 yT.nd (zy yk yP (FE.fb (zy yf yG (qv 1) qi)) (FE.fb (zI (Wi rfl) zf1 rfl (nbg NB) zd8 (zj qi (zj (qv 3) zt))))))
   (zl (xx (yd (vI hr.units) Jh (qv 8) (qv 9) (nomark _)) (zl (zK 0 yT.nd (zo bH hr rfl (za (zg 0) (za (zg 8) (za (zg 9) (za (zo p9 hr rfl (za (zy yf yG (qv 1) qi) zh)) zh))))))) ye))))))
   (zl (zJ (zg 0)))))))))
def zbB(h:HasDef K mg "_law_other" JC)(NB:NBP P w base mg)(p7:jz P w K mg base)(bg:VR P w K mg base)(p9:jQ P w K mg base):Ws P w K mg base:=yQ.mk (N:=["one","cell","second","rooms","first"]) (m:=3) (b:=WN) h uK (um3 λ_ _ _ _ _ _ _ _ _=>rfl) rfl (λf cdv A outer s H E hr=> 
  (zf (zK 3 uK.nd (zI zv y3 rfl (nbg NB) yo (zj (FE.fb (zu (qv 0) qi)) zt)))
   (zf (xx (yd (vd hr.units) uo (FE.fb (zy yk yP (qv 1) qi)) qi (nomark _)) (zl (zJ (zo p7 hr rfl (za (zg 2) (za (zy yk yP (FE.fb (zy yf yG (qv 1) qi)) qi) (za (zI zv y3 rfl (nbg NB) yo (zj (FE.fb (zu (qv 0) qi)) zt)) zh)))))) ye)
   (zf (xx (yd Z7 vg (FE.fb (zy yk yP (qv 1) qi)) qi (nomark _)) (zl (zJ (zo bg hr rfl (za (zg 0) (za (zg 2) (za (zy yk yP (FE.fb (zy yf yG (qv 1) qi)) qi) zh)))))) ye)
   (zf (xm 4 uK.nd (jO xB JM rfl (nbg NB) j0 (zj (FE.fb (zu (qv 0) qi)) zt)))
   (zf (xx (yd Za vg (qv 3) qi (nomark _)) (zl (JW 4 (zy yk yP (qv 2) (qv 3)) (zo p9 hr rfl (za (zy yf yG (qv 2) qi) zh)))) ye)
   (zl (zJ (yn (za (zW zE yH rfl (nbg NB) zY (zj (z9 4) zt)) (za (zu (qv 0) qi) (za (zu (qv 0) qi) zh))))))))))))
def zcM(h:HasDef K mg "_law_wide" Uu)(NB:NBP P w base mg)(p3:wV P w K mg base)(p7:jz P w K mg base)(bg:VR P w K mg base)(p4:vo P w K mg base):Zf P w K mg base:=yQ.mk (N:=["script","signs","cell","base","one","other","last","at"]) (m:=2) (b:=YB) h je (um2 λ_ _ _ _ _ _ _ _=>rfl) rfl (λf cdv A outer s H E hr=> 
  (zf (zK 2 je.nd (zo p3 hr rfl (za (zg 0) (za zP zh))))
   (zf (zK 3 je.nd (zo p7 hr rfl (za (zo p3 hr rfl (za (zg 0) (za zP zh))) (za (zy xJ xW qi (FE.fb (zy yk yP (qv 2) qi))) (za (zg 1) zh)))))
   (zf (zK 4 je.nd (zo bg hr rfl (za (zg 3) (za (zy yK xw qi (FE.fb (zy yk yP (FE.fb (zo p3 hr rfl (za (zg 0) (za zP zh)))) (FE.fb (zy zhG zg3 qi qi))))) (za (zy xJ xW qi (FE.fb (zy yk yP (FE.fb (zy yf yG (qv 2) qi)) qi))) zh)))))
   (zf (zK 5 je.nd (zo bg hr rfl (za (zg 3) (za (zy yK xw qi (FE.fb (zy yk yP (FE.fb (zo p3 hr rfl (za (zg 0) (za zP zh)))) (FE.fb (zy zhG zg3 qi qi))))) (za (zy xJ xW qi (FE.fb (zy yk yP (FE.fb (zy yf yG (qv 2) qi)) qi))) zh)))))
   (zf (xm 6 je.nd (jO xB JM rfl (nbg NB) j0 (zj (FE.fb (zu (qv 5) qi)) zt)))
   (zf (xx (yd (vd hr.units) uo (FE.fb (zy yk yP (FE.fb (zy yf yG (qv 2) qi)) qi)) qi (nomark _)) (zf (zK 7 je.nd (zy yk yP (FE.fb (zy yf yG (FE.fb (zo p3 hr rfl (za (zg 0) (za zP zh)))) qi)) (FE.fb (zI zv y3 rfl (nbg NB) yo (zj (z9 6) zt)))))
   (zl (JW 6 (zg 7) (zo p4 hr rfl (za (zu (z9 6) (qv 7)) (za (yn (za zP (za zP zh))) zh)))))) ye)
   (zl (zJ (yn (za (zg 4) (za (yn (za (zu (qv 5) qi) (za (zu (qv 5) qi) (za (zW zE yH rfl (nbg NB) zY (zj (z9 6) zt)) zh)))) zh))))))))))))
def V2(h:HasDef K mg "refuse_unlike" vJ)(NB:NBP P w base mg):Jg P w K mg base:=yQ.mk (N:=["one","other","one_signs","other_signs"]) (m:=2) (b:=Jk) h vc (um2 λ_ _ _ _ _ _ _ _=>rfl) rfl (λf cdv A outer s H E hr=> 
  (zf (zK 2 vc.nd (zI zv y3 rfl (nbg NB) yo (zj (FE.fb (zu (qv 0) qi)) zt)))
   (zf (zK 3 vc.nd (zI zv y3 rfl (nbg NB) yo (zj (FE.fb (zu (qv 1) qi)) zt)))
   (zl (xx (yd (vI hr.units) Jh (qv 2) (qv 3) (nomark _)) (zl zgb) ye)))))
def Vm(h:HasDef K mg "common_divisor" vm)(NB:NBP P w base mg):ji P w K mg base:=yQ.mk (N:=["one","other","rest"]) (m:=2) (b:=uz) h xZ (um2 λ_ _ _ _ _ _ _ _=>rfl) rfl (λf cdv A outer s H E hr=> 
  (zf (zcc wL qR (yd (vI hr.units) Jh (qv 1) qi (nomark _)) (zf (zK 2 xZ.nd (zy yk yP (qv 0) (qv 1)))
   (zf (zK 0 xZ.nd (zg 1))
   (zl (zK 1 xZ.nd (zg 2))))))
   (zl (zJ (zI zcz zjL rfl (nbg NB) zgC (zj (qv 0) zt))))))
def zfP(h:HasDef K mg "lowest" Yj)(NB:NBP P w base mg)(ba:ji P w K mg base):zci P w K mg base:=yQ.mk (N:=["top","bottom","common"]) (m:=2) (b:=zcK) h V1 (um2 λ_ _ _ _ _ _ _ _=>rfl) rfl (λf cdv A outer s H E hr=> 
  (zf (zK 2 V1.nd (zo ba hr rfl (za (zg 0) (za (zg 1) zh))))
   (zf (xx (yd Z7 vg (qv 1) qi (nomark _)) (zl (zK 2 V1.nd (zbs (zg 2)))) ye)
   (zl (zJ (yn (za (zy yf yG (qv 0) (qv 2)) (za (zy yf yG (qv 1) (qv 2)) zh))))))))
def zf5(h:HasDef K mg "times" zba)(NB:NBP P w base mg)(bI:zci P w K mg base):ze6 P w K mg base:=yQ.mk (N:=["one","other"]) (m:=2) (b:=zeA) h zgu (um2 λ_ _ _ _ _ _ _ _=>rfl) rfl (λf cdv A outer s H E hr=> 
  (zl (zJ (zo bI hr rfl (za (zy yK xw (FE.fb (zu (qv 0) qi)) (FE.fb (zu (qv 1) qi))) (za (zy yK xw (FE.fb (zu (qv 0) qi)) (FE.fb (zu (qv 1) qi))) zh))))))
def ZX(h:HasDef K mg "scaled_row" vT)(NB:NBP P w base mg)(bJ:ze6 P w K mg base):Vp P w K mg base:=yQ.mk (N:=["row","fraction"]) (m:=2) (b:=UX) h ZZ (um2 λ_ _ _ _ _ _ _ _=>rfl) rfl (λf cdv A outer s H E hr=> 
  (zl (zJ (zW zE yH rfl (nbg NB) zY (zj (FL.fb (yF (Ts:=["number"]) (F:=[1]) rfl (y0 (qv 0)) (csx (sc:=ze vT)) (jt rfl rfl ja) (fgc 0) (λ_ _ _ _ _=>(zo bJ hr rfl (za (zg 0) (za (zg 1) zh)))))) zt)))))
def zdl(h:HasDef K mg "noughts" V3)(NB:NBP P w base mg)(c_NOUGHT:GC K mg "NOUGHT" (.tuple [.int 0,.int 1])):Wc P w K mg base:=yQ.mk (N:=["rooms"]) (m:=1) (b:=zak) h zdb (um1 λ_ _ _ _ _ _ _=>rfl) rfl (λf cdv A outer s H E hr=> 
  (zl (zJ (zy zi0 zhR (FE.fb (yn (za (zeH c_NOUGHT rfl) zh))) (qv 0)))))
def Yh(h:HasDef K mg "joined_step" jy)(NB:NBP P w base mg)(bh:Wc P w K mg base):Ud P w K mg base:=yQ.mk (N:=["one_step","crossings","other_step","one_rows","other_rows"]) (m:=3) (b:=Ui) h v9 (um3 λ_ _ _ _ _ _ _ _ _=>rfl) rfl (λf cdv A outer s H E hr=> 
  (zf (JX 3 (Ts:=["row","across"]) (F:=[]) v9.nd rfl (Yc true false rfl (nbg NB) (zj (qv 0) (zj (qv 1) zt))) (csx (sc:=ze jy)) ja (λ_ _ _ _ _=>(uH rfl (zQ 0 (show(["row","across"]:LSr).Nodup by decide+kernel)) (zQ 1 (show(["row","across"]:LSr).Nodup by decide+kernel)))) (λ_ _ _ _ _=>(zy jY vN (qv 0) (qv 1))))
   (zf (JX 4 (Ts:=["row"]) (F:=[0]) v9.nd rfl (y0 (qv 2)) (csx (sc:=ze jy)) (jt rfl rfl ja) (fgc 0) (λ_ _ _ _ _=>(zy jY vN (FE.fb (zo bh hr rfl (za (zI zv y3 rfl (nbg NB) yo (zj (qv 1) zt)) zh))) (qv 0))))
   (zl (zJ (zW zE yH rfl (nbg NB) zY (zj (FL.fb (zhA (zde 3) (zde 4))) zt)))))))
def ZD(h:HasDef K mg "added_step" uS)(NB:NBP P w base mg)(bh:Wc P w K mg base)(bM:Ud P w K mg base):U9 P w K mg base:=yQ.mk (N:=["one_step","other_step","crossings"]) (m:=2) (b:=Vn) h Ua (um2 λ_ _ _ _ _ _ _ _=>rfl) rfl (λf cdv A outer s H E hr=> 
  (zf (xm 2 Ua.nd (zgt (FL.fk (xO (za (zo bh hr rfl (za (zI zv y3 rfl (nbg NB) yo (zj (qv 1) zt)) zh)) zh))) (zI zv y3 rfl (nbg NB) yo (zj (qv 0) zt))))
   (zl (FS.frz 2 (zJ (zo bM hr rfl (za (zg 0) (za (zg 2) (za (zg 1) zh)))))))))
def zfL(h:HasDef K mg "beside" VO)(NB:NBP P w base mg)(bO:U9 P w K mg base):zb1 P w K mg base:=yQ.mk (N:=["one","other","steps"]) (m:=2) (b:=zcD) h Z3 (um2 λ_ _ _ _ _ _ _ _=>rfl) rfl (λf cdv A outer s H E hr=> 
  (zf (JX 2 (Ts:=["one_step","other_step"]) (F:=[]) Z3.nd rfl (Yc true true rfl (nbg NB) (zj (FE.fb (zu (qv 0) qi)) (zj (FE.fb (zu (qv 1) qi)) zt))) (csx (sc:=ze VO)) ja (λ_ _ _ _ _=>(uH rfl (zQ 0 (show(["one_step","other_step"]:LSr).Nodup by decide+kernel)) (zQ 1 (show(["one_step","other_step"]:LSr).Nodup by decide+kernel)))) (λ_ _ _ _ _=>(zo bO hr rfl (za (zg 0) (za (zg 1) zh)))))
   (zl (zJ (yn (za (zy jY vN (FE.fb (zu (qv 0) qi)) (FE.fb (zu (qv 1) qi))) (za (zW zE yH rfl (nbg NB) zY (zj (z9 2) zt)) (za (zy jY vN (FE.fb (zu (qv 0) qi)) (FE.fb (zu (qv 1) qi))) zh))))))))
def ZP(h:HasDef K mg "difference" uI)(NB:NBP P w base mg)(c_MINUS_ONE:GC K mg "MINUS_ONE" (.tuple [.int (-1),.int 1]))(bP:Jg P w K mg base)(bQ:Vp P w K mg base)(bR:zb1 P w K mg base):Vk P w K mg base:=yQ.mk (N:=["one","other"]) (m:=2) (b:=VI) h ZL (um2 λ_ _ _ _ _ _ _ _=>rfl) rfl (λf cdv A outer s H E hr=> 
  (zf (zjl (zo bP hr rfl (za (zg 0) (za (zg 1) zh))))
   (zl (zJ (zo bR hr rfl (za (zg 0) (za (yn (za (zu (qv 1) qi) (za (zu (qv 1) qi) (za (zo bQ hr rfl (za (zu (qv 1) qi) (za (zeH c_MINUS_ONE rfl) zh))) zh)))) zh)))))))
def VT(h:HasDef K mg "shared_bottom" vH)(NB:NBP P w base mg)(ba:ji P w K mg base):vK P w K mg base:=yQ.mk (N:=["fractions","bottom","fraction"]) (m:=1) (b:=Ji) h jl (um1 λ_ _ _ _ _ _ _=>rfl) rfl (λf cdv A outer s H E hr=> 
  (zf (zK 1 jl.nd zP)
   (zf (xE qR rfl (uN (zg 0)) (zQ 2 jl.nd) (zl (zK 1 jl.nd (zy yK xw (qv 1) (FE.fb (zy yf yG (FE.fb (zu (qv 2) qi)) (FE.fb (zo ba hr rfl (za (zg 1) (za (zu (qv 2) qi) zh))))))))))
   (zl (zJ (zg 1))))))
def zbq(h:HasDef K mg "tops_over" wQ)(NB:NBP P w base mg):x6 P w K mg base 1 "tops_over" ["fractions","bottom"] jd:=x6.mk (N:=["fractions","bottom"]) (m:=2) (b:=WJ) h za5 (um2 λ_ _ _ _ _ _ _ _=>rfl) rfl (λf cdv A outer s H E hr=> 
  (zl (uY (yF (Ts:=["fraction"]) (F:=[1]) rfl (y0 (qv 0)) (csx (sc:=ze wQ)) (jt rfl rfl ja) (fgc 0) (λ_ _ _ _ _=>(zy yK xw (FE.fb (zu (qv 0) qi)) (FE.fb (zy yf yG (qv 1) (FE.fb (zu (qv 0) qi))))))))))
def VC(h:HasDef K mg "without_common" jm)(NB:NBP P w base mg)(ba:ji P w K mg base):x6 P w K mg base 2 "without_common" ["tops"] xq:=x6.mk (N:=["tops","common","top"]) (m:=1) (b:=uu) h x5 (um1 λ_ _ _ _ _ _ _=>rfl) rfl (λf cdv A outer s H E hr=> 
  (zf (zK 1 x5.nd zP)
   (zf (xE qR rfl (uN (zg 0)) (zQ 2 x5.nd) (zl (zK 1 x5.nd (zo ba hr rfl (za (zg 2) (za (zg 1) zh))))))
   (zf (xx (yd Z7 vg (qv 1) qi (nomark _)) (zl (uY (jO xB JM rfl (nbg NB) j0 (zj (qv 0) zt)))) ye)
   (zl (uY (yF (Ts:=["top"]) (F:=[1]) rfl (y0 (qv 0)) (csx (sc:=ze jm)) (jt rfl rfl ja) (fgc 0) (λ_ _ _ _ _=>(zy yf yG (qv 0) (qv 1))))))))))
def zaQ(h:HasDef K mg "whole_row" JE)(NB:NBP P w base mg)(bj:vK P w K mg base)(bo:x6 P w K mg base 1 "tops_over" ["fractions","bottom"] jd)(bA:x6 P w K mg base 2 "without_common" ["tops"] xq):x6 P w K mg base 3 "whole_row" ["row"] xI:=x6.mk (N:=["row"]) (m:=1) (b:=Wr) h zaM (um1 λ_ _ _ _ _ _ _=>rfl) rfl (λf cdv A outer s H E hr=> 
  (zl (uY (vw bA hr rfl (za (FL.fe (vw bo hr rfl (za (zg 0) (za (zo bj hr rfl (za (zg 0) zh)) zh)))) zh)))))
def UT(h:HasDef K mg "whole_pair_sum" jr)(NB:NBP P w base mg):jo P w K mg base:=yQ.mk (N:=["ones","others"]) (m:=2) (b:=uj) h Vq (um2 λ_ _ _ _ _ _ _ _=>rfl) rfl (λf cdv A outer s H E hr=> 
  (zl (zJ (zI (zgl rfl) zl1 rfl (nbg NB) zkZ (zj (FL.fb (yF (Ts:=["one","other"]) (F:=[]) rfl (Yc false false rfl (nbg NB) (zj (qv 0) (zj (qv 1) zt))) (csx (sc:=ze jr)) ja (λ_ _ _ _ _=>(uH rfl (zQ 0 (show(["one","other"]:LSr).Nodup by decide+kernel)) (zQ 1 (show(["one","other"]:LSr).Nodup by decide+kernel)))) (λ_ _ _ _ _=>(zy yK xw (qv 0) (qv 1))))) zt)))))
def zfm(h:HasDef K mg "column" Vd)(NB:NBP P w base mg):zbR P w K mg base:=yQ.mk (N:=["step","room"]) (m:=2) (b:=zbQ) h zfU (um2 λ_ _ _ _ _ _ _ _=>rfl) rfl (λf cdv A outer s H E hr=> 
  (zl (zJ (zW zE yH rfl (nbg NB) zY (zj (FL.fb (yF (Ts:=["row"]) (F:=[1]) rfl (y0 (qv 0)) (csx (sc:=ze Vd)) (jt rfl rfl ja) (fgc 0) (λ_ _ _ _ _=>(zu (qv 0) (qv 1))))) zt)))))
def ZK(h:HasDef K mg "whole_step" vV)(NB:NBP P w base mg)(bj:vK P w K mg base)(bS:zbR P w K mg base)(bo:x6 P w K mg base 1 "tops_over" ["fractions","bottom"] jd):Vs P w K mg base:=yQ.mk (N:=["step","numbers","row","bottom","columns"]) (m:=1) (b:=U4) h jx (um1 λ_ _ _ _ _ _ _=>rfl) rfl (λf cdv A outer s H E hr=> 
  (zf (xm 1 jx.nd (xO zh))
   (zf (xE qR rfl (uN (zg 0)) (zQ 2 jx.nd) (zl (zd7 1 (qv 2))))
   (zf (zK 3 jx.nd (U5 bj hr rfl (zj (z9 1) zt)))
   (zf (JX 4 (Ts:=["room"]) (F:=[0,3]) jx.nd rfl (FI.fib (yO rfl (nbg NB) (za (zI zv y3 rfl (nbg NB) yo (zj (qv 0) zt)) zh))) (csx (sc:=ze vV)) (jt rfl rfl (jt rfl rfl ja)) (fgc 0) (λ_ _ _ _ _=>(FL.fe (vw bo hr rfl (za (zo bS hr rfl (za (zg 1) (za (zg 0) zh))) (za (zg 2) zh))))))
   (zl (FS.frz 4 (zJ (yn (za (zg 4) (za (zg 3) zh)))))))))))
def zcW(h:HasDef K mg "unit_row" Uv)(NB:NBP P w base mg):x6 P w K mg base 1 "unit_row" ["place","places"] v3:=x6.mk (N:=["place","places","row"]) (m:=2) (b:=YV) h WB (um2 λ_ _ _ _ _ _ _ _=>rfl) rfl (λf cdv A outer s H E hr=> 
  (zf (xm 2 WB.nd (zgt (FL.fk (xO (za zP zh))) (zg 1)))
   (zf (JW 2 (zg 0) zP)
   (zl (W3 2)))))
def zbV(h:HasDef K mg "narrowed" u7)(NB:NBP P w base mg):x6 P w K mg base 1 "narrowed" ["check","number","gone","pivot","divisor"] uZ:=x6.mk (N:=["check","number","gone","pivot","divisor"]) (m:=5) (b:=Yq) h zcs (λ_ _ _ _ _ _ us hl=>match us,hl with |[_,_,_,_,_],_=>rfl) rfl (λf cdv A outer s H E hr=> 
  (zl (uY (yF (Ts:=["mine","theirs"]) (F:=[1,3,4]) rfl (Yc false false rfl (nbg NB) (zj (qv 0) (zj (qv 2) zt))) (csx (sc:=ze u7)) (jt rfl rfl (jt rfl rfl (jt rfl rfl ja))) (λ_ _ _ _ _=>(uH rfl (zQ 0 (show(["mine","theirs","number","pivot","divisor"]:LSr).Nodup by decide+kernel)) (zQ 1 (show(["mine","theirs","number","pivot","divisor"]:LSr).Nodup by decide+kernel)))) (λ_ _ _ _ _=>(zy yf yG (FE.fb (zy Ju Jm (FE.fb (zy yK xw (qv 3) (qv 0))) (FE.fb (zy yK xw (qv 2) (qv 1))))) (qv 4)))))))
def zfi(h:HasDef K mg "led_on" VN)(NB:NBP P w base mg)(bx:jo P w K mg base):x6 P w K mg base 2 "led_on" ["tops","columns"] U7:=x6.mk (N:=["tops","columns"]) (m:=2) (b:=zc8) h zfG (um2 λ_ _ _ _ _ _ _ _=>rfl) rfl (λf cdv A outer s H E hr=> 
  (zl (uY (yF (Ts:=["entering"]) (F:=[0]) rfl (y0 (qv 1)) (csx (sc:=ze VN)) (jt rfl rfl ja) (fgc 0) (λ_ _ _ _ _=>(zo bx hr rfl (za (zg 1) (za (zg 0) zh))))))))
def zdm(h:HasDef K mg "parting" Wa)(NB:NBP P w base mg)(bb:yQ P w K mg base 8 "compared" ["one","other"] (yp CS)):yQ P w K mg base 9 "parting" ["one","other"] (ud CS):=yQ.mk (N:=["one","other"]) (m:=2) (b:=zaD CS) h zdy (um2 λ_ _ _ _ _ _ _ _=>rfl) rfl (λf cdv A outer s H E hr=> 
  (zl (zJ (zu (FE.fb (zo bb hr rfl (za (zg 0) (za (zg 1) zh)))) qi))))
def zbj(h:HasDef K mg "_law_whole" Jv)(NB:NBP P w base mg):WE P w K mg base:=yQ.mk (N:=["found"]) (m:=1) (b:=Wz) h zaL (um1 λ_ _ _ _ _ _ _=>rfl) rfl (λf cdv A outer s H E hr=> 
  (zl (zJ (zhk (Up (qv 0) rfl (nbg NB) rfl (nbg NB) zk4) (zg9 (zkP (Up (qv 0) rfl (nbg NB) rfl (nbg NB) ziB)))))))
def ZE(h:HasDef K mg "_law_proper" uE)(NB:NBP P w base mg)(bB:WE P w K mg base)(p6:um P w K mg base):UY P w K mg base:=yQ.mk (N:=["part"]) (m:=1) (b:=VF) h ZJ (um1 λ_ _ _ _ _ _ _=>rfl) rfl (λf cdv A outer s H E hr=> 
  (zf (xx (FW.ft (Wq (vf (vn (Up (qv 0) rfl (nbg NB) rfl (nbg NB) zY))) (Wq (yd (vI hr.units) Jh (FE.fb (zI zv y3 rfl (nbg NB) yo (zj (qv 0) zt))) qi (nomark _)) (Wq (vf (vn (zo bB hr rfl (za (zu (qv 0) qi) zh)))) (Zl (vf (vn (zo bB hr rfl (za (zu (qv 0) qi) zh))))))))) (zl (zJ j5)) ye)
   (zl (zJ (zhk (zbK Za vg (FE.fb (zu (qv 0) qi)) qi (nomark _)) (zg9 (zbK (vd hr.units) uo (FE.fb (zo p6 hr rfl (za (zu (qv 0) qi) (za (zu (qv 0) qi) zh)))) (qv 0) (nomark _))))))))
def US(h:HasDef K mg "_law_proper_row" vi)(NB:NBP P w base mg)(bT:UY P w K mg base):uy P w K mg base:=yQ.mk (N:=["row","many","part"]) (m:=2) (b:=ur) h wN (um2 λ_ _ _ _ _ _ _ _=>rfl) rfl (λf cdv A outer s H E hr=> 
  (zf (xx (FW.ft (Wq (vf (vn (Up (qv 0) rfl (nbg NB) rfl (nbg NB) zY))) (Zl (yd (vI hr.units) Jh (FE.fb (zI zv y3 rfl (nbg NB) yo (zj (qv 0) zt))) (qv 1) (nomark _))))) (zl (zJ j5)) ye)
   (zf (xE qR rfl (uN (zg 0)) (zQ 2 wN.nd) (zl (xx (vf (vn (zo bT hr rfl (za (zg 2) zh)))) (zl (zJ j5)) ye)))
   (zl (zJ j5)))))
def UO(h:HasDef K mg "_law_proper_rows" jU)(NB:NBP P w base mg)(bU:uy P w K mg base):wC P w K mg base:=yQ.mk (N:=["rows","many","row"]) (m:=2) (b:=wz) h v7 (um2 λ_ _ _ _ _ _ _ _=>rfl) rfl (λf cdv A outer s H E hr=> 
  (zf (xx (vf (vn (Up (qv 0) rfl (nbg NB) rfl (nbg NB) j0))) (zl (zJ j5)) ye)
   (zf (xE qR rfl (uN (zg 0)) (zQ 2 v7.nd) (zl (xx (FW.ft (Wq (vf (vn (Up (qv 2) rfl (nbg NB) rfl (nbg NB) j0))) (Zl (vf (vn (zo bU hr rfl (za (zW zE yH rfl (nbg NB) zY (zj (qv 2) zt)) (za (zg 1) zh)))))))) (zl (zJ j5)) ye)))
   (zl (zJ j5)))))
def zcp(h:HasDef K mg "_law_both" uX)(NB:NBP P w base mg)(bf:uV P w K mg base):Y7 P w K mg base:=yQ.mk (N:=["one","other","less"]) (m:=2) (b:=Zk) h WO (um2 λ_ _ _ _ _ _ _ _=>rfl) rfl (λf cdv A outer s H E hr=> 
  (zf (zK 2 WO.nd (zW zE yH rfl (nbg NB) zY (zj (FL.fb (yF (Ts:=["part"]) (F:=[]) rfl (y0 (FE.fb (zu (qv 1) qi))) (csx (sc:=ze uX)) ja (fgc 0) (λ_ _ _ _ _=>(yn (za (zy Ju Jm qi (FE.fb (zu (qv 0) qi))) (za (zu (qv 0) qi) zh)))))) zt)))
   (zl (zJ (zo bf hr rfl (za (zg 0) (za (yn (za (zu (qv 1) qi) (za (zu (qv 1) qi) (za (zg 2) zh)))) zh)))))))
def zcA(h:HasDef K mg "_law_over" Ux)(NB:NBP P w base mg):YR P w K mg base:=yQ.mk (N:=["part"]) (m:=1) (b:=Yz) h zcj (um1 λ_ _ _ _ _ _ _=>rfl) rfl (λf cdv A outer s H E hr=> 
  (zf (xx (yd Z7 vg (FE.fb (zu (qv 0) qi)) qi (nomark _)) (zl (zJ (yn (za (zy Ju Jm qi (FE.fb (zu (qv 0) qi))) (za (zy Ju Jm qi (FE.fb (zu (qv 0) qi))) zh))))) ye)
   (zl (zJ (yn (za (zu (qv 0) qi) (za (zu (qv 0) qi) zh)))))))
def zbW(h:HasDef K mg "_law_rank" va)(NB:NBP P w base mg)(bV:YR P w K mg base)(p5:vA P w K mg base)(p4:vo P w K mg base):Zz P w K mg base:=yQ.mk (N:=["rows","left","done","k","at","base","r","part","less"]) (m:=1) (b:=Zt) h xo (um1 λ_ _ _ _ _ _ _=>rfl) rfl (λf cdv A outer s H E hr=> 
  (zf (xm 1 xo.nd (yF (Ts:=["row"]) (F:=[]) rfl (y0 (qv 0)) (csx (sc:=ze va)) ja (fgc 0) (λ_ _ _ _ _=>(FL.fe (jO xB JM rfl (nbg NB) j0 (zj (qv 0) zt))))))
   (zf (zK 2 xo.nd zP)
   (zf (xE qR rfl (yO rfl (nbg NB) (za (zcV (yd Za vg (FE.fb (zI zv y3 rfl (nbg NB) yo (zj (z9 1) zt))) qi (nomark _)) (zI zv y3 rfl (nbg NB) yo (zj (FE.fb (zu (z9 1) qi)) zt)) zP) zh)) (zQ 3 xo.nd) (zf (ze9 4 (Ts:=["r"]) (F:=[1,3]) xo.nd rfl (FI.fib (zaG rfl (nbg NB) (za (zg 2) (za (zI zv y3 rfl (nbg NB) yo (zj (z9 1) zt)) zh)))) (csx (sc:=ze va)) (jt rfl rfl (jt rfl rfl ja)) (fgc 0) (λ_ _ _ _ _=>(yd (vI hr.units) Jh (FE.fb (zu (FE.fb (zu (FE.fb (zu (z9 1) (qv 0))) (qv 2))) qi)) qi (nomark _))) (λ_ _ _ _ _=>(zg 0)))
   (zl (xx (yd Za vg (FE.fb (zI zv y3 rfl (nbg NB) yo (zj (z9 4) zt))) qi (nomark _)) (zf (zlr 5 1 xo.nd (zu (z9 4) qi))
   (zf (zfO 1 (zg 2) (zg 5))
   (zf (xE qR rfl (zaG rfl (nbg NB) (za (zy xJ xW (qv 2) qi) (za (zI zv y3 rfl (nbg NB) yo (zj (z9 1) zt)) zh))) (zQ 6 xo.nd) (zl (xx (yd (vI hr.units) Jh (FE.fb (zu (FE.fb (zu (FE.fb (zu (z9 1) (qv 6))) (qv 3))) qi)) qi (nomark _)) (zf (zK 7 xo.nd (zo p5 hr rfl (za (zu (FE.fb (zu (z9 1) (qv 6))) (qv 3)) (za (zo bV hr rfl (za (zu (qv 5) (qv 3)) zh)) zh))))
   (zf (zK 8 xo.nd (yn (za (zy Ju Jm qi (FE.fb (zu (qv 7) qi))) (za (zu (qv 7) qi) zh))))
   (zl (JW 1 (zg 6) (FL.fe (yF (Ts:=["c"]) (F:=[1,5,6,8]) rfl (FI.fib (yO rfl (nbg NB) (za (zI zv y3 rfl (nbg NB) yo (zj (qv 5) zt)) zh))) (csx (sc:=ze va)) (jt rfl rfl (jt rfl rfl (jt rfl rfl (jt rfl rfl ja)))) (fgc 0) (λ_ _ _ _ _=>(zo p4 hr rfl (za (zu (FE.fb (zu (z9 1) (qv 3))) (qv 0)) (za (zo p5 hr rfl (za (zg 4) (za (zu (qv 2) (qv 0)) zh))) zh)))))))))) ye)))
   (zl (zK 2 xo.nd (zy xJ xW (qv 2) qi)))))) ye))))
   (zl (zJ (zg 2)))))))
def Yk(h:HasDef K mg "_law_in_span" vv)(NB:NBP P w base mg)(bC:Zz P w K mg base):J7 P w K mg base:=yQ.mk (N:=["rows","row"]) (m:=2) (b:=Ug) h Zo (um2 λ_ _ _ _ _ _ _ _=>rfl) rfl (λf cdv A outer s H E hr=> 
  (zf (xx (yd (vd hr.units) uo (FE.fb (zI zv y3 rfl (nbg NB) yo (zj (qv 0) zt))) qi (nomark _)) (zl (zJ (zbK (vd hr.units) uo (FE.fb (zI zv y3 rfl (nbg NB) yo (zj (FL.fb (zfC (Ts:=["part"]) (F:=[]) rfl (y0 (qv 1)) (csx (sc:=ze vv)) ja (fgc 0) (λ_ _ _ _ _=>(yd (vI hr.units) Jh (FE.fb (zu (qv 0) qi)) qi (nomark _))) (λ_ _ _ _ _=>(zg 0)))) zt))) qi (nomark _)))) ye)
   (zl (zJ (zbK (vd hr.units) uo (FE.fb (zo bC hr rfl (za (FL.fe (zl2 zin zhS (qv 0) (FL.fb (xO (za (zg 1) zh))))) zh))) (FE.fb (zo bC hr rfl (za (zg 0) zh))) (nomark _))))))
def zdo(h:HasDef K mg "_law_dot" V8)(NB:NBP P w base mg)(p5:vA P w K mg base)(p4:vo P w K mg base):JZ P w K mg base:=yQ.mk (N:=["one","other","total","k"]) (m:=2) (b:=zao) h uP (um2 λ_ _ _ _ _ _ _ _=>rfl) rfl (λf cdv A outer s H E hr=> 
  (zf (zK 2 uP.nd (yn (za zP (za zP zh))))
   (zf (xE qR rfl (yO rfl (nbg NB) (za (zI zv y3 rfl (nbg NB) yo (zj (qv 0) zt)) zh)) (zQ 3 uP.nd) (zl (zK 2 uP.nd (zo p4 hr rfl (za (zg 2) (za (zo p5 hr rfl (za (zu (qv 0) (qv 3)) (za (zu (qv 1) (qv 3)) zh))) zh))))))
   (zl (zJ (zg 2))))))
def zdI(h:HasDef K mg "_law_led" JP)(NB:NBP P w base mg)(bc:JZ P w K mg base):x6 P w K mg base 4 "_law_led" ["row","step"] xY:=x6.mk (N:=["row","step","out","b"]) (m:=2) (b:=zas) h UA (um2 λ_ _ _ _ _ _ _ _=>rfl) rfl (λf cdv A outer s H E hr=> 
  (zf (xm 2 UA.nd (xO zh))
   (zf (xE qR rfl (yO rfl (nbg NB) (za (zI zv y3 rfl (nbg NB) yo (zj (qv 0) zt)) zh)) (zQ 3 UA.nd) (zl (jJ 2 (zo bc hr rfl (za (zg 0) (za (FL.fe (yF (Ts:=["a"]) (F:=[1,3]) rfl (FI.fib (yO rfl (nbg NB) (za (zI zv y3 rfl (nbg NB) yo (zj (qv 0) zt)) zh))) (csx (sc:=ze JP)) (jt rfl rfl (jt rfl rfl ja)) (fgc 0) (λ_ _ _ _ _=>(zu (FE.fb (zu (qv 1) (qv 0))) (qv 2))))) zh))))))
   (zl (W3 2)))))
def zbt(h:HasDef K mg "_law_shown" wH)(NB:NBP P w base mg)(bW:Y7 P w K mg base)(bD:J7 P w K mg base)(bc:JZ P w K mg base)(br:x6 P w K mg base 4 "_law_led" ["row","step"] xY):WU P w K mg base:=yQ.mk (N:=["one","other","rows","both","known","row","step"]) (m:=3) (b:=Wu) h jZ (um3 λ_ _ _ _ _ _ _ _ _=>rfl) rfl (λf cdv A outer s H E hr=> 
  (zf (zK 3 jZ.nd (zo bW hr rfl (za (zg 0) (za (zg 1) zh))))
   (zf (JX 4 (Ts:=["row"]) (F:=[]) jZ.nd rfl (y0 (qv 2)) (csx (sc:=ze wH)) ja (fgc 0) (λ_ _ _ _ _=>(FL.fe (jO xB JM rfl (nbg NB) j0 (zj (qv 0) zt)))))
   (zf (xx (vf (vn (U5 bD hr rfl (zj (z9 4) (zj (FL.fb (jO xB JM rfl (nbg NB) j0 (zj (FE.fb (zu (qv 3) qi)) zt))) zt))))) (zl (zJ j5)) ye)
   (zf (FS.frz 4 (xE qR rfl (uN (zg 4)) (zQ 5 jZ.nd) (zf (xx (yd (vI hr.units) Jh (FE.fb (zu (FE.fb (zo bc hr rfl (za (zg 5) (za (zu (qv 3) qi) zh)))) qi)) qi (nomark _)) (zl (zJ j5)) ye)
   (zl (xE qR rfl (uN (zu (qv 3) qi)) (zQ 6 jZ.nd) (zl (xx (vf (vn (zo bD hr rfl (za (zg 4) (za (FL.fe (vw br hr rfl (za (zg 5) (za (zg 6) zh)))) zh))))) (zl (zJ j5)) ye)))))))
   (zl (zJ j5)))))))
def zcX(h:HasDef K mg "rows_for" vp)(NB:NBP P w base mg)(bb:yQ P w K mg base 8 "compared" ["one","other"] (yp CS)):yQ P w K mg base 9 "rows_for" ["one","other"] (vb CS):=yQ.mk (N:=["one","other","told"]) (m:=2) (b:=YE CS) h wG (um2 λ_ _ _ _ _ _ _ _=>rfl) rfl (λf cdv A outer s H E hr=> 
  (zf (zK 2 wG.nd (zo bb hr rfl (za (zg 0) (za (zg 1) zh))))
   (zf (xx (yd W6 Vt (FE.fb (zu (qv 2) qi)) (FE.fb uG) (nomark _)) (zl (zJ uG)) ye)
   (zl (zJ (FL.fe (yF (Ts:=["row"]) (F:=[]) rfl (y0 (FE.fb (zu (qv 2) qi))) (csx (sc:=ze vp)) ja (fgc 0) (λ_ _ _ _ _=>(FL.fe (yF (Ts:=["top"]) (F:=[]) rfl (y0 (qv 0)) (Ww rfl (by decide+kernel) (by decide+kernel) (by decide+kernel)) ja (fgc 0) (λ_ _ _ _ _=>(yn (za (zg 0) (za zP zh))))))))))))))
def zbx(h:HasDef K mg "rows_for" vp)(NB:NBP P w base mg)(bb:yQ P w K mg base 8 "compared" ["one","other"] (yp CS)):zfj P w K mg base 9 "rows_for" ["one","other"] (y9 CS):=zfj.mk (N:=["one","other","told"]) (m:=2) (b:=WC CS) h wG (um2 λ_ _ _ _ _ _ _ _=>rfl) rfl (λf cdv A outer s H E hr=> 
  (zf (zK 2 wG.nd (zo bb hr rfl (za (zg 0) (za (zg 1) zh))))
   (zf (xx (yd W6 Vt (FE.fb (zu (qv 2) qi)) (FE.fb uG) (nomark _)) (zl (zJ uG)) ye)
   (zl (uY (yF (Ts:=["row"]) (F:=[]) rfl (y0 (FE.fb (zu (qv 2) qi))) (csx (sc:=ze vp)) ja (fgc 0) (λ_ _ _ _ _=>(FL.fe (yF (Ts:=["top"]) (F:=[]) rfl (y0 (qv 0)) (Ww rfl (by decide+kernel) (by decide+kernel) (by decide+kernel)) ja (fgc 0) (λ_ _ _ _ _=>(yn (za (zg 0) (za zP zh)))))))))))))
def zdx(h:HasDef K mg "_law_row" V7)(NB:NBP P w base mg)(br:x6 P w K mg base 4 "_law_led" ["row","step"] xY):x6 P w K mg base 5 "_law_row" ["machine","word"] JT:=x6.mk (N:=["machine","word","row","sign"]) (m:=2) (b:=zal) h u5 (um2 λ_ _ _ _ _ _ _ _=>rfl) rfl (λf cdv A outer s H E hr=> 
  (zf (xm 2 u5.nd (jO xB JM rfl (nbg NB) j0 (zj (FE.fb (zu (qv 0) qi)) zt)))
   (zf (xE qR rfl (uN (zg 1)) (zQ 3 u5.nd) (zl (FS.frz 2 (xm 2 u5.nd (vw br hr rfl (za (zg 2) (za (zu (FE.fb (zu (qv 0) qi)) (qv 3)) zh)))))))
   (zl (W3 2)))))
def ZF(h:HasDef K mg "_law_weight" uU)(NB:NBP P w base mg)(bX:x6 P w K mg base 5 "_law_row" ["machine","word"] JT)(bc:JZ P w K mg base):Vy P w K mg base:=yQ.mk (N:=["machine","word"]) (m:=2) (b:=VE) h Z0 (um2 λ_ _ _ _ _ _ _ _=>rfl) rfl (λf cdv A outer s H E hr=> 
  (zl (zJ (zo bc hr rfl (za (FL.fe (vw bX hr rfl (za (zg 0) (za (zg 1) zh)))) (za (zu (qv 0) qi) zh))))))
def zc0(h:HasDef K mg "_law_word" UL)(NB:NBP P w base mg):YY P w K mg base:=yQ.mk (N:=["cell","signs","most","word","k"]) (m:=3) (b:=Zs) h wA (um3 λ_ _ _ _ _ _ _ _ _=>rfl) rfl (λf cdv A outer s H E hr=> 
  (zf (xm 3 wA.nd (xO zh))
   (zf (xE qR rfl (yO rfl (nbg NB) (za (zy yk yP (qv 0) (FE.fb (zy xJ xW (qv 2) qi))) zh)) (zQ 4 wA.nd) (zf (zK 0 wA.nd (zy yk yP (FE.fb (zy xJ xW (FE.fb (zy yK xw (qv 0) qi)) qi)) qi))
   (zl (jJ 3 (zy yk yP (FE.fb (zy yf yG (qv 0) qi)) (qv 1))))))
   (zl (zJ (zW zE yH rfl (nbg NB) zY (zj (z9 3) zt)))))))
def zkL{f:AdX}{fd:FuncData}(F:Fun K "law" "law" YT f fd)(NB:NBP P w base mg)(p3:wV P w K mg base)(p7:jz P w K mg base)(bY:Ws P w K mg base)(bZ:Zf P w K mg base)(b4:yQ P w K mg base 9 "parting" ["one","other"] (ud CS))(b5:wC P w K mg base)(bE:WU P w K mg base)(b6:yQ P w K mg base 9 "rows_for" ["one","other"] (vb CS))(dU_rows_for:zfj P w K mg base 9 "rows_for" ["one","other"] (y9 CS))(bu:Vy P w K mg base)(b7:YY P w K mg base):wy P w K mg base CX0 10 f fd ["script"] (spF K (zjs CS)):=FnF.mk (N:=["script","signs","one","other","many","word","rows","k","near"]) (m:=1) (b:=zjF CS) F wc rfl (λcdv A outer s H E hr=> 
  (zf (zK 1 wc.nd (zy xJ xW qi (FE.fb (zy yk yP (FE.fb (zo p3 hr rfl (za (zg 0) (za zP zh)))) qi))))
   (zf (zK 2 wc.nd (zo p7 hr rfl (za (zo p3 hr rfl (za (zg 0) (za zP zh))) (za (zy yk yP (FE.fb (zy yf yG (FE.fb (zo p3 hr rfl (za (zg 0) (za zP zh)))) qi)) qi) (za (zg 1) zh)))))
   (zf (zK 3 wc.nd (zo bY hr rfl (za (zg 2) (za (zo p3 hr rfl (za (zg 0) (za zP zh))) (za (zo p3 hr rfl (za (zg 0) (za zP zh))) zh)))))
   (zf (xx (yd (vd hr.units) uo (FE.fb (zy yk yP (FE.fb (zy yf yG (FE.fb (zo p3 hr rfl (za (zg 0) (za zP zh)))) qi)) qi)) qi (nomark _)) (zl (zlm (zo bZ hr rfl (za (zg 0) (za (zg 1) zh))) (uH rfl (zQ 2 wc.nd) (zQ 3 wc.nd)))) ye)
   (zf (zK 4 wc.nd (zy xJ xW (FE.fb (zI zv y3 rfl (nbg NB) yo (zj (FE.fb (zu (qv 2) qi)) zt))) (FE.fb (zI zv y3 rfl (nbg NB) yo (zj (FE.fb (zu (qv 3) qi)) zt)))))
   (zf (zK 5 wc.nd (zo b4 hr rfl (za (zg 2) (za (zg 3) zh))))
   (zf (zhQ 6 wc.nd dU_rows_for hr rfl (za (zg 2) (za (zg 3) zh)))
   (zf (xx (yd zk1 zmd (qv 5) (FE.fb uG) (nomark _)) (zf (xx (FW.ft (Wq (vf (vn (U5 b5 hr rfl (zj (z9 6) (zj (qv 4) zt))))) (Zl (vf (vn (U5 bE hr rfl (zj (qv 2) (zj (qv 3) (zj (z9 6) zt))))))))) (zl (zJ j5)) ye)
   (zf (jJ 6 (FL.fe (xO zh)))
   (zl (zJ (zo bE hr rfl (za (zg 2) (za (zg 3) (za (zo b6 hr rfl (za (zg 2) (za (zg 3) zh))) zh)))))))) ye)
   (zf (xx (FW.ft (Wq (yd W6 Vt (z9 6) (FE.fb uG) (nomark _)) (Wq (vf (vn (Up (qv 5) rfl (nbg NB) rfl (nbg NB) zY))) (Zl (yd Za vg (FE.fb (zI zv y3 rfl (nbg NB) yo (zj (qv 5) zt))) (FE.fb (zI (Wi rfl) zf1 rfl (nbg NB) zd8 (zj qi (zj (FE.fb (zy Ju Jm (qv 4) qi)) zt)))) (nomark _)))))) (zl (zJ j5)) ye)
   (zf (xx (yd (vd hr.units) uo (FE.fb (zo bu hr rfl (za (zg 2) (za (zg 5) zh)))) (FE.fb (zo bu hr rfl (za (zg 3) (za (zg 5) zh)))) (nomark _)) (zl (zJ j5)) ye)
   (zf (xE qR rfl (yO rfl (nbg NB) (za zP zh)) (zQ 7 wc.nd) (zf (zK 8 wc.nd (zo b7 hr rfl (za (zo p3 hr rfl (za (zg 0) (za (zy xJ xW qi (qv 7)) zh))) (za (zg 1) (za zP zh)))))
   (zl (xx (FW.ft (zkn (yd (zkU hr.units) zj9 (FE.fb (yn (za (zI zv y3 rfl (nbg NB) yo (zj (qv 8) zt)) (za (zg 8) zh)))) (FE.fb (yn (za (zI zv y3 rfl (nbg NB) yo (zj (qv 5) zt)) (za (zg 5) zh)))) (nomark _)) (ziR (yd (vI hr.units) Jh (FE.fb (zo bu hr rfl (za (zg 2) (za (zg 8) zh)))) (FE.fb (zo bu hr rfl (za (zg 3) (za (zg 8) zh)))) (nomark _))))) (zl (zJ j5)) ye))))
   (zl (zJ j5))))))))))))))
end
end K09
namespace K09
open PySem L2 L2.Fu
abbrev NI(K:FRx)(x:Str)(f:AdX):Prop:=W.nsIn K mainGlobals x=some (some (.ref f))
abbrev LK(K:FRx)(f:AdX)(x q:Str)(st:Stmt)(oc:Value)(od:Option Addr)(kV dc pm:Value)(an:Option Addr)(cd ct:Value)(sl:Array (Option Value)):Prop:=K.lookup f=some ⟨oc,od,.func (W.fnOf x q (jB st) (xg st) (ze st) .none kV dc pm an cd ct),sl⟩
abbrev CI(K:FRx)(c:Value)(x:Str):Prop:=W.codeIn K c x=true
abbrev KI(K:FRx)(f:AdX):Prop:=W.keepIn K (.ref f)=true
abbrev FI0(K:FRx)(C:AdX)(x:Str):Prop:=W.findIn K (.ref C) x=some none
abbrev HD(K:FRx)(x:Str)(st:Stmt):Prop:=∃f oc od kV dc pm an cd ct sl,NI K x f/\LK K f x x st oc od kV dc pm an cd ct sl/\CI K cd x/\KI K f
abbrev MD(K:FRx)(C:AdX)(m q:Str)(st:Stmt):Prop:=∃f oc od kV dc pm an cd ct sl,W.findIn K (.ref C) m=some (some (.ref f))/\W.isFn K (.ref f)=true/\LK K f m q st oc od kV dc pm an cd ct sl/\CI K cd q/\KI K f
def hdef{K:FRx}{h:Heap}{mg:Str->Option Value}{x:Str}{st:Stmt}(X:K.In h)(G:h.Ns mainGlobals mg)(a:HD K x st):HasDef K mg x st:=by
 obtain⟨_,_,_,_,_,_,_,_,_,_,a,l,c,k⟩:=a;exact⟨_,_,zbm (st:=st) l c k,W.mg_of X G a⟩
def hmeth{K:FRx}{C:AdX}{m q:Str}{st:Stmt}(a:MD K C m q st):uF K C m q st:=by
 obtain⟨_,_,_,_,_,_,_,_,_,_,a,i,l,c,k⟩:=a;exact⟨_,_,zbm (st:=st) l c k,⟨a,i,k⟩⟩
def hini{K:FRx}{h:Heap}{mg:Str->Option Value}{C:AdX}{n q:Str}{st:Stmt}(X:K.In h)(G:h.Ns mainGlobals mg)(a:MD K C "__init__" q st)(aC:W.nsIn K mainGlobals n=some (some (.ref C)))(mk:W.makesIn K C=true)(kc:W.keepIn K (.ref C)=true):W9 K mg C n "__init__" q st:=by
 obtain⟨_,_,_,_,_,_,_,_,_,_,a,i,l,c,k⟩:=a;exact⟨_,_,zbm (st:=st) l c k,⟨mk,a,i,kc⟩,W.mg_of X G aC⟩
def zlN{K:FRx}{x:Str}{st:Stmt}{f:AdX}{oc kV dc pm cd ct:Value}{od an:Option Addr}{sl:Array (Option Value)}(a:NI K x f)(l:LK K f x x st oc od kV dc pm an cd ct sl)(c:CI K cd x)(k:KI K f):HD K x st:=⟨f,oc,od,kV,dc,pm,an,cd,ct,sl,a,l,c,k⟩
def zmg{K:FRx}{C:AdX}{m q:Str}{st:Stmt}{f:AdX}{oc kV dc pm cd ct:Value}{od an:Option Addr}{sl:Array (Option Value)}(a:W.findIn K (.ref C) m=some (some (.ref f)))(i:W.isFn K (.ref f)=true)(l:LK K f m q st oc od kV dc pm an cd ct sl)(c:CI K cd q)(k:KI K f):MD K C m q st:=⟨f,oc,od,kV,dc,pm,an,cd,ct,sl,a,i,l,c,k⟩
def ziM(K:FRx)(l:LSr):Prop:=∀x∈l,W.nsIn K mainGlobals x=some none
def zhe{K:FRx}:ziM K []:=λ_ h=>by cases h
def zft{K:FRx}{x:Str}{l:LSr}(h:W.nsIn K mainGlobals x=some none)(r:ziM K l):ziM K (x::l):=λy hy=>by
 rcases qw.mp hy with rfl|hy
 ·exact h
 ·exact r y hy
def all_mk{l:W.OpenLaw}{w:World}{K:FRx}{h:Heap}{mg:Str->Option Value}{fa CS CR:AdX}(X:K.In h)(G:h.Ns mainGlobals mg)(hfa:mg "law"=some (.ref fa))(a1:HD K "_law_cell_at" uc)(a2:HD K "_law_low" V0)(a3:HD K "_law_fraction" wb)(a4:HD K "_law_machine" wZ)(a5:HD K "_law_beside" xV)(a6:HD K "_law_times" Jo)(a7:HD K "_law_plus" Uz)(a8:HD K "_law_turned_row" vh)(a9:HD K "_law_mixed" jM)(a10:HD K "_law_kin" J0)(a11:HD K "_law_other" JC)(a12:HD K "_law_wide" Uu)(a13:HD K "refuse_unlike" vJ)(a14:HD K "common_divisor" vm)(a15:HD K "lowest" Yj)(a16:HD K "times" zba)(a17:HD K "scaled_row" vT)(a18:HD K "noughts" V3)(a19:HD K "joined_step" jy)(a20:HD K "added_step" uS)(a21:HD K "beside" VO)(a22:HD K "difference" uI)(a23:HD K "shared_bottom" vH)(a24:HD K "tops_over" wQ)(a25:HD K "without_common" jm)(a26:HD K "whole_row" JE)(a27:HD K "whole_pair_sum" jr)(a28:HD K "column" Vd)(a29:HD K "whole_step" vV)(a30:HD K "unit_row" Uv)(a31:HD K "narrowed" u7)(a32:HD K "led_on" VN)(a33:HD K "compared" UK)(a34:HD K "parting" Wa)(a35:HD K "_law_whole" Jv)(a36:HD K "_law_proper" uE)(a37:HD K "_law_proper_row" vi)(a38:HD K "_law_proper_rows" jU)(a39:HD K "_law_both" uX)(a40:HD K "_law_over" Ux)(a41:HD K "_law_rank" va)(a42:HD K "_law_in_span" vv)(a43:HD K "_law_dot" V8)(a44:HD K "_law_led" JP)(a45:HD K "_law_shown" wH)(a46:HD K "rows_for" vp)(a47:HD K "_law_row" V7)(a48:HD K "_law_weight" uU)(a49:HD K "_law_word" UL)(a50:HD K "law" YT)(aCS:W.nsIn K mainGlobals "Span"=some (some (.ref CS)))(pgS:W.plainGet K CS Str.empty=true)(hdS:W.hasDictIn K CS=true)(poS:W.plainOver K CS=true)(saS:W.findIn K (.ref CS) "__setattr__"=some (some (.builtin "object.__setattr__")))(mkS:W.makesIn K CS=true)(kcS:W.keepIn K (.ref CS)=true)(nS_free:FI0 K CS "free")(nS_taken:FI0 K CS "taken")(nS_checks:FI0 K CS "checks")(nS_pivot:FI0 K CS "pivot")(aCR:W.nsIn K mainGlobals "Reach"=some (some (.ref CR)))(pgR:W.plainGet K CR Str.empty=true)(hdR:W.hasDictIn K CR=true)(poR:W.plainOver K CR=true)(saR:W.findIn K (.ref CR) "__setattr__"=some (some (.builtin "object.__setattr__")))(mkR:W.makesIn K CR=true)(kcR:W.keepIn K (.ref CR)=true)(nR_steps:FI0 K CR "steps")(nR_span:FI0 K CR "span")(nR_words:FI0 K CR "words")(nR_rows:FI0 K CR "rows")(nR_waiting:FI0 K CR "waiting")(nR_asked:FI0 K CR "asked")(m1:MD K CS "__init__" "Span.__init__" W7)(m2:MD K CS "full" "Span.full" zdH)(m3:MD K CS "take" "Span.take" VQ)(m4:MD K CR "__init__" "Reach.__init__" Ya)(m5:MD K CR "onward" "Reach.onward" Yr)(m6:MD K CR "row_led_on" "Reach.row_led_on" zf6)(m7:MD K CR "keep" "Reach.keep" zdB)(zs:ziM K blts){gt1_0 gt1_1:Tok}{ga1:AdX}{gd1:Option Addr}{gn1:Nat}{gs1:Array (Option Value)}(g_1:W.nsIn K mainGlobals "NOUGHT"=some (some (.ref ga1)))(gl1:K.lookup ga1=some ⟨.type "tuple",gd1,.seq #[.int 0 gt1_0,.int 1 gt1_1] gn1,gs1⟩){gt2_0 gt2_1:Tok}{ga2:AdX}{gd2:Option Addr}{gn2:Nat}{gs2:Array (Option Value)}(g_2:W.nsIn K mainGlobals "MINUS_ONE"=some (some (.ref ga2)))(gl2:K.lookup ga2=some ⟨.type "tuple",gd2,.seq #[.int (-1) gt2_0,.int 1 gt2_1] gn2,gs2⟩)
  :∃fd:FuncData,(∀(s:ShX)(v:Value),BindsTo s fd ⟨[v],[]⟩ [("script",v)])/\∀base:Heap,K.In base->base.Ns mainGlobals mg->wy l.prog w K mg base CX0 10 fa fd ["script"] (zeg K):=by
 have⟨_,_,_,kV,dc,pm,an,cd,ct,_,aL,lL,cL,kL⟩:=a50;have e:=hfa.symm.trans (W.mg_of X G aL);cases e;have c_NOUGHT:GC K mg "NOUGHT" (.tuple [.int 0,.int 1]):=zeL (W.mg_of X G g_1) gl1
 have c_MINUS_ONE:GC K mg "MINUS_ONE" (.tuple [.int (-1),.int 1]):=zeL (W.mg_of X G g_2) gl2;have clS:Cls K CS:=⟨pgS,hdS,poS,saS⟩
 have clR:Cls K CR:=⟨pgR,hdR,poR,saR⟩;refine⟨W.fnOf "law" "law" (jB YT) (xg YT) (ze YT) .none kV dc pm an cd ct,λs v=>.of_eq rfl,λbase _ _=>?_⟩;have NB:NBP l.prog w base mg:=λx hx=>W.mg_none_of X G (zs x hx)
 have p3:=Yo (hdef X G a1) NB ;have p6:=zdY (hdef X G a2) NB
 have p9:=WX (hdef X G a3) NB p6;have p7:=YC (hdef X G a4) NB p9
 have bf:=ZH (hdef X G a5) NB ;have p5:=zaV (hdef X G a6) NB p6
 have p4:=zcx (hdef X G a7) NB p6;have bw:=Vi (hdef X G a8) NB p5 p4
 have bH:=zaW (hdef X G a9) NB bw p5 p4;have bg:=zdU (hdef X G a10) NB p7 bf p9 bH
 have bY:=zbB (hdef X G a11) NB p7 bg p9;have bZ:=zcM (hdef X G a12) NB p3 p7 bg p4
 have bP:=V2 (hdef X G a13) NB ;have ba:=Vm (hdef X G a14) NB
 have bI:=zfP (hdef X G a15) NB ba;have bJ:=zf5 (hdef X G a16) NB bI
 have bQ:=ZX (hdef X G a17) NB bJ;have bh:=zdl (hdef X G a18) NB c_NOUGHT
 have bM:=Yh (hdef X G a19) NB bh;have bO:=ZD (hdef X G a20) NB bh bM
 have bR:=zfL (hdef X G a21) NB bO;have bG:=ZP (hdef X G a22) NB c_MINUS_ONE bP bQ bR
 have bj:=VT (hdef X G a23) NB ba;have bo:=zbq (hdef X G a24) NB
 have bA:=VC (hdef X G a25) NB ba;have bz:=zaQ (hdef X G a26) NB bj bo bA
 have bx:=UT (hdef X G a27) NB ;have bS:=zfm (hdef X G a28) NB
 have cm:=ZK (hdef X G a29) NB bj bS bo;have cn:=zcW (hdef X G a30) NB
 have cq:=zbV (hdef X G a31) NB ;have cu:=zfi (hdef X G a32) NB bx
 have iS:=zle (hini X G m1 aCS mkS kcS) NB clS nS_free nS_taken nS_checks nS_pivot cn;have mF:=zk2 (P:=l.prog) (w:=w) (base:=base) (mg:=mg) (hmeth m2) clS nS_free
 have mT:=zkl (hmeth m3) NB clS nS_free nS_taken nS_checks nS_pivot bx cq;have mL:=zlX (hmeth m6) clR nR_steps bA cu
 have mK:=zjU (hmeth m7) NB clR nR_words nR_rows nR_steps nR_waiting;have mO:=zf0 (hmeth m5) NB clR clS nR_asked nR_waiting nR_span mF mT mK mL
 have iR:=zio (hini X G m4 aCR mkR kcR) NB clR nR_steps nR_span nR_words nR_rows nR_waiting nR_asked cm bz iS;have bb:=zcC (hdef X G a33) bG bz bx iR mO clR nR_words nR_rows
 have b4:=zdm (hdef X G a34) NB bb;have bB:=zbj (hdef X G a35) NB
 have bT:=ZE (hdef X G a36) NB bB p6;have bU:=US (hdef X G a37) NB bT
 have b5:=UO (hdef X G a38) NB bU;have bW:=zcp (hdef X G a39) NB bf
 have bV:=zcA (hdef X G a40) NB ;have bC:=zbW (hdef X G a41) NB bV p5 p4
 have bD:=Yk (hdef X G a42) NB bC;have bc:=zdo (hdef X G a43) NB p5 p4
 have br:=zdI (hdef X G a44) NB bc;have bE:=zbt (hdef X G a45) NB bW bD bc br
 have b6:=zcX (hdef X G a46) NB bb;have dU_rows_for:=zbx (hdef X G a46) NB bb
 have bX:=zdx (hdef X G a47) NB br;have bu:=ZF (hdef X G a48) NB bX bc
 have b7:=zc0 (hdef X G a49) NB ;exact zis (λns _=>zkg _ ns) (zkL (zbm (st:=YT) lL cL kL) NB p3 p7 bY bZ b4 b5 bE b6 dU_rows_for bu b7)
def walk{l:W.OpenLaw}{q:Program}{loose:LSr}{XP:(Str->Option Value)->Heap->Prop}{YP:World->Heap->Prop}{d:DefRec}{K:Params->W.Frag}(hn:l.most=some 63)(hdf:d.params.defaults=[])(hY:∀(w:World)(h:Heap),YP w h->(K w.params).In h)(F:∀(w:World)(mg:Str->Option Value)(fa:AdX)(h:Heap),(K w.params).In h->h.Ns mainGlobals mg->mg d.name=some (.ref fa)->
   ∃fd:FuncData,(∀(s:ShX)(u:Value),BindsTo s fd ⟨[u],[]⟩ [("script",u)])/\∀base:Heap,(K w.params).In base->base.Ns mainGlobals mg->wy l.prog w (K w.params) mg base CX0 10 fa fd ["script"] (zeg (K w.params))):W.WalkO q loose XP YP l.row.toRowW d [] (λf vs=>PySem.call f vs):=L2.zjo (n:=63) (k:=10) (x:="script") (CX:=λ_=>CX0) (sp:=λw=>zeg (K w.params)) hn (by decide) hdf ⟨rfl,by decide,by decide⟩ hY F (λ_ _ a ns hl _ hS=>⟨a,ns,rfl,hS,hl,λ_=>rfl⟩) λ_ _ _ _ _ z=>z
end K09
open PySem PySem.W PyProof.Rows
namespace PySem.W.Fast
def tw8178333708434203457:=0
def tw3379589215482657171:=0
def tw3683418645231901341:=0
def tw6802090848064313094:=0
def tw17706628246837596709:=0
def tw2197713025630853000:=0
def tw7713650467466096487:=0
def tw9324196695072557250:=0
def tw92634327300840629:=0
def tw15420882246843138909:=0
def tw8161615318451821490:=0
def tw6233959980306496335:=0
def tw2723227461547894116:=0
def tw9348328088146336742:=0
def tw2170540735816914093:=0
def tw10922411592324295327:=0
def tw10616916456497185288:=0
def tw5085438695439987179:=0
def tw15917184897391445221:=0
def tw10035713421718030685:=0
def tw3458445078914870252:=0
def tw7735783675197867302:=0
end PySem.W.Fast
set_option maxRecDepth 100000 in
set_option maxHeartbeats 0 in
theorem PySem.Challenge.cw_wordscales_k09_whole_alike_or_parted_holds : PySem.Challenge.rw_wordscales_k09_whole_alike_or_parted.Holds := by
 w_on;o_law;k_head;(case hw=>w_witness2)
 k_fill
 refine K09.walk (l:=PySem.Challenge.rw_wordscales_k09_whole_alike_or_parted) rfl rfl (λw h Y=>PySem.W.kIn_of Y) ?F;case F=>
  intro w mg fa h KX G hmg;refine' K09.all_mk KX G hmg ?a1 ?a2 ?a3 ?a4 ?a5 ?a6 ?a7 ?a8 ?a9 ?a10 ?a11 ?a12 ?a13 ?a14 ?a15 ?a16 ?a17 ?a18 ?a19 ?a20 ?a21 ?a22 ?a23 ?a24 ?a25 ?a26 ?a27 ?a28 ?a29 ?a30 ?a31 ?a32 ?a33 ?a34 ?a35 ?a36 ?a37 ?a38 ?a39 ?a40 ?a41 ?a42 ?a43 ?a44 ?a45 ?a46 ?a47 ?a48 ?a49 ?a50 ?aCS ?pgS ?hdS ?poS ?saS ?mkS ?kcS ?nS_free ?nS_taken ?nS_checks ?nS_pivot ?aCR ?pgR ?hdR ?poR ?saR ?mkR ?kcR ?nR_steps ?nR_span ?nR_words ?nR_rows ?nR_waiting ?nR_asked ?m1 ?m2 ?m3 ?m4 ?m5 ?m6 ?m7 ?zs ?g_1 ?gl1 ?g_2 ?gl2;case a1|a2|a3|a4|a5|a6|a7|a8|a9|a10|a11|a12|a13|a14|a15|a16|a17|a18|a19|a20|a21|a22|a23|a24|a25|a26|a27|a28|a29|a30|a31|a32|a33|a34|a35|a36|a37|a38|a39|a40|a41|a42|a43|a44|a45|a46|a47|a48|a49|a50=>
   refine' K09.zlN ?a ?l ?c ?k;case a=>delta K09.NI;k_is
   case l=>delta K09.LK;k_is
   case c=>delta K09.CI;k_is
   case k=>delta K09.KI;k_is
  case aCS|pgS|hdS|poS|saS|mkS|kcS|aCR|pgR|hdR|poR|saR|mkR|kcR|g_1|gl1|g_2|gl2=>k_is
  case nS_free|nS_taken|nS_checks|nS_pivot|nR_steps|nR_span|nR_words|nR_rows|nR_waiting|nR_asked=>delta K09.FI0;k_is
  case m1|m2|m3|m4|m5|m6|m7=>
   refine' K09.zmg ?a ?i ?l ?c ?k;case a=>k_is
   case i=>k_is
   case l=>delta K09.LK;k_is
   case c=>delta K09.CI;k_is
   case k=>delta K09.KI;k_is
  case zs=>
   repeat (refine K09.zft (by k_is) ?_)
   exact K09.zhe
#print axioms PySem.Challenge.cw_wordscales_k09_whole_alike_or_parted_holds
