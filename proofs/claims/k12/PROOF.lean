import PyProof.Rows.All
import Wide.All
import OpenK.AllK
import Wide.FinOn
import Lean
import PyProof.EqAt
import PyProof.EqKinds
import PyProof.TupleCall
import PySem.Challenge.RW_wordscales_k12_whole_the_smallest_machin
abbrev LPd:=List PySem.PyData
abbrev LAd:=List PySem.Addr
abbrev LNt:=List Nat
abbrev LZr:=List (Nat->Int)
abbrev LQr:=List (Nat->Rat)
abbrev LSr:=List PySem.Str
abbrev LVl:=List PySem.Value
abbrev LSA:=List (PySem.Str×PySem.Addr)
abbrev ShX:=PySem.Shared
abbrev AdX:=PySem.Addr
abbrev PdX:=PySem.PyData
local macro_rules| `(tactic|trivial)=>`(tactic|first |exact .inl rfl|exact .inr rfl|assumption)
local macro_rules|`(tactic|trivial)=>`(tactic|first |exact Or.inl rfl|exact Or.inr (Or.inl rfl)|exact Or.inr (Or.inr rfl))
noncomputable section
abbrev NDx(x:PySem.Str):Prop:=(x==("__debug__":PySem.Str))=false
abbrev NCx(x:PySem.Str):Prop:=(x==("__classdict__":PySem.Str))=false
abbrev VSx:=PySem.Value->PySem.Shared->Prop
abbrev PNx:=List (PySem.Addr×PySem.Obj)
abbrev FRx:=PySem.W.Frag
abbrev Q1x:=Nat->Rat
abbrev Q2x:=Nat->Nat->Rat
abbrev Q3x:=Nat->Nat->Nat->Rat
abbrev Z1x:=Nat->Int
set_option Elab.async false
set_option linter.all false
set_option maxRecDepth 100000
def qe:=@Nat.le_refl
def qf:=@List.length_map
def qg:=@List.getElem?_eq_some_iff
def qj:=@if_pos
def qk:=@List.getElem?_eq_getElem
def qm:=@if_neg
def qo:=@PySem.Heap.get?_push_of_some
def qp:=@List.getElem?_map
def qq:=@Option.bind_some
def qr:=@Nat.le_trans
def qt:=@PySem.wpAny_bind
def qu:=@List.mem_append
def qw:=@List.length_range
def qx:=@List.mem_range
def qy:=@List.mem_cons
def qz:=@List.length_append
def qA:=@List.mem_cons_of_mem
def qB:=@List.getD_eq_getElem?_getD
def qE:=@List.mem_map
def qF:=@List.getElem?_append_right
def qG:=@decide_eq_true
def qH:=@List.size_toArray
def qI:=@List.mem_of_getElem?
def qJ:=@Nat.lt_of_le_of_lt
def qK:=@Nat.lt_of_lt_of_le
def qL:=@List.getElem?_set_ne
def qM:=@congrArg
def qN:=@decide_eq_false
def qO:=@PySem.Heap.get?_push_size
def qP:=@List.getElem?_of_mem
def qQ:=@List.getElem?_append_left
def qR:=@Bool.false_ne_true
def qS:=@PySem.wpAny_pure
def qT:=@Nat.pow_le_pow_right
def qU:=@Nat.mul_pos
def qW:=@PySem.PassesOwn.never
def qX:=@PySem.Heap.lt_size
def qY:=@List.mem_singleton
def qZ:=@List.mem_cons_self
def q9:=@List.map_append
def ka:=@List.mem_append_right
def kb:=@List.map_map
def kd:=@List.mem_reverse
def ke:=@List.length_cons
def kf:=@List.map_congr_left
def kg:=@Rat.mul_comm
def kh:=@Rat.mul_eq_zero
def ki:=@Rat.zero_mul
def kj:=@Option.some.inj
def kl:=@List.mem_filter
def km:=@List.append_nil
def kq:=@Rat.intCast_natCast
def ku:=@List.getElem?_range
def kv:=@List.nodup_cons
def kx:=@Nat.zero_le
def ky:=@Int.toNat_natCast
def kz:=@Nat.le_of_not_lt
def kA:=@List.lookup_cons
def kB:=@Int.natAbs_natCast
def kC:=@List.length_reverse
def kD:=@Nat.mul_le_mul_right
def kE:=@Int.natAbs_mul
def kG:=@Rat.intCast_mul
def kH:=@Classical.byContradiction
def kI:=@Rat.mul_zero
def kJ:=@List.length_singleton
def kK:=@List.getElem?_replicate
def kO:=@Nat.pow_lt_pow_right
def kP:=@List.reverse_reverse
def kQ:=@List.getElem?_set_self
def kR:=@Rat.mul_inv_cancel
def kS:=@List.getElem?_eq_none
def kT:=@PySem.mem_of_lookup
def kW:=@Nat.mul_le_mul_left
def kX:=@PySem.F.plainAttrs_list
def kY:=@Nat.mul_le_mul
def kZ:=@Nat.lt_succ_self
def k4:=@List.not_mem_nil
def k5:=@List.length_take
def k6:=@Nat.le_of_dvd
def k7:=@Rat.div_mul_cancel
def k8:=@beq_eq_false_iff_ne
def k9:=@List.getElem?_cons_succ
def gc:=@Nat.not_lt_zero
def gh:=@PySem.wpAny_loadPart'
def gm:=@List.nodup_append
def gp:=@Nat.lt_irrefl
def gq:=@Nat.ne_of_lt
def gr:=@List.length_set
def gu:=@List.getElem_mem
def gw:=@PySem.wpAny_field
def gx:=@PySem.intBits_le_of_natAbs
def gy:=@Nat.sub_self
def gA:=@List.pairwise_iff_getElem
def gB:=@PySem.wpAny_mono
def gC:=@PySem.Heap.size_push
def gD:=@List.length_filter_lt_length_iff_exists
def gE:=@Ne.symm
def gG:=@Nat.mul_comm
def gH:=@List.map_cons
def gI:=@List.length_eq_zero_iff
def gL:=@List.getElem?_set
def gM:=@List.range_succ
def gN:=@List.replicate_succ
def gO:=@PyProof.Rows.callWith_type1
def gP:=@List.take_length
def gQ:=@beq_iff_eq
def gR:=@List.length_eraseIdx_of_lt
def gS:=@Option.isNone_iff_eq_none
def gT:=@List.drop_eq_getElem_cons
def gU:=@Option.map_some
def gX:=@List.take_add_one
def gY:=@List.length_eraseIdx
def gZ:=@List.ext_getElem?
def g0:=@List.append_assoc
def g6:=@PySem.wpAny_truthy_bool
def g9:=@Bool.and_eq_true
def hX:=@Rat.div_def
def hZ:=@Nat.pow_add
def h9:=@Nat.succ_mul
def ma:=@PySem.wpAny_seqItems
def me:=@PySem.wpAny_callSpecial?_slot
def mf:=@List.reverse_cons
def mh:=@List.flatten_cons
def mi:=@Int.fdiv_eq_of_eq_mul_right
def mj:=@Int.ediv_eq_of_eq_mul_right
def ml:=@PySem.wpAny_setField_rec
def mr:=@PySem.call_meets
def mv:=@or_false
def mw:=@PySem.wpAny_passesOwn
def mz:=@Nat.le_add_right
def mB:=@Int.mul_zero
def mC:=@List.filterMap_cons
def mD:=@PySem.F.slot_tuple_iterator_next
def mE:=@List.mem_of_mem_eraseIdx
def mF:=@Rat.num_eq_zero
def mG:=@Rat.natCast_mul
def mH:=@Rat.num_divInt_den
def mI:=@Nat.one_mul
def mJ:=@Nat.le_succ
def mK:=@PySem.F.slot_tuple_mul
def mL:=@Rat.divInt_eq_div
def mM:=@PySem.wpAny_comprehension_free
def mN:=@Nat.ne_of_gt
def mO:=@Nat.lt_succ_of_lt
def mP:=@Nat.le_of_eq
def mQ:=@Nat.le_mul_of_pos_left
def mR:=@Int.fmod_nonneg_of_pos
def mS:=@PySem.F.type_list_pop
def mU:=@PySem.F.slot_list_pop
def mV:=@List.length_replicate
def mW:=@Nat.succ_le_succ
def mX:=@List.drop_length
def mY:=@PySem.wpAny_newObj_type
def mZ:=@PySem.intBits_mul_le
def m9:=@PySem.intBits_le_iff
def nc:=@Rat.intCast_neg
def ng:=@List.of_mem_zip
def ni:=@List.forIn_cons
def nj:=@Int.natCast_mul
def nk:=@Int.mul_ne_zero
def nr:=@Nat.pow_le_pow_left
def nt:=@Array.length_toList
def nv:=@PySem.wpAny_call_entry
def ny:=@PySem.AutoSeq1.idx_int
def nC:=@Nat.zero_add
def nD:=@Nat.le_of_lt
def nE:=@Int.natAbs_neg
def nG:=@of_decide_eq_true
def nH:=@Rat.one_mul
def nI:=@Nat.pow_pos
def nJ:=@Nat.mul_one
def nK:=@PySem.F.type_list_append
def nL:=@PySem.F.slot_list_append
def nM:=@PySem.F.args_tuple_add_2
def nN:=@Int.mul_fdiv_cancel_left
def nO:=@decide_eq_decide
def nP:=@PySem.wpAny_Call_Name_kw
def nQ:=@PySem.F.entry_tuple_add
def nT:=@Nat.le_mul_of_pos_right
def nU:=@List.nodup_range
def nV:=@PySem.F.slot_tuple_add
def nW:=@Nat.add_comm
def nX:=@List.take_of_length_le
def nY:=@Nat.min_eq_left
def nZ:=@PySem.wpAny_standAt
def n5:=@List.forIn_nil
def n6:=@List.length_pos_iff
def n8:=@List.flatMap_append
def pd:=@PySem.wpAny_execs_nil
def pf:=@PySem.F.slot_zip_next
def pq:=@PySem.F.slot_int_rmul
def pw:=@decide_eq_true_iff
def px:=@List.getElem_range
def pz:=@Int.fmod_lt_of_pos
def pC:=@List.eraseIdx_append_of_length_le
def pE:=@if_true
def pF:=@PySem.wpAny_updateSeq_pair
def pG:=@Nat.lt_trichotomy
def pH:=@Nat.lt_trans
def pI:=@Nat.le_succ_of_le
def pJ:=@List.map_nil
def pK:=@Classical.not_not
def pL:=@PyProof.Rows.slot_tuple_getitem
def pM:=@List.mem_flatMap
def pN:=@List.length_drop
def pO:=@PySem.wpAny_onRaise
def pP:=@PySem.wpAny_holding
def pQ:=@Nat.mul_add
def pR:=@Nat.log2_lt
def pS:=@List.eq_nil_of_length_eq_zero
def pU:=@PySem.typeIs_int
def pV:=@PySem.F.args_tuple_mul_2
def pW:=@List.nil_append
def pX:=@Int.natCast_add
def pY:=@PySem.wpAny_assign_Name
def pZ:=@PySem.concat_meets
def p5:=@PySem.codeAny_mono
def p7:=@PySem.F.entry_tuple_mul
def ba:=@List.perm_ext_iff_of_nodup
def bb:=@List.Perm.refl
def bc:=@Int.fdiv_eq_ediv_of_nonneg
def bf:=@Bool.false_and
def bg:=@Bool.and_false
def bh:=@List.extract_eq_take_drop
def bj:=@Rat.mul_assoc
def bo:=@PySem.noFill_tuple_add
def br:=@List.set_eq_of_length_le
def bu:=@List.getElem?_take_of_lt
def bw:=@Bool.true_and
def bx:=@PySem.F.slot_tuple_rmul
def bz:=@Nat.exists_eq_add_of_le
def bA:=@Nat.add_sub_cancel_left
variable{C C2 CS D a dx it j1 j2 l ti tu z:AdX}{sl:Array (Option PySem.Value)}{vs:Array PySem.Value}{t t1 t2:Bool}{K:FRx}{lo:Int}{B' ch ex fp os os':LAd}{F T is ws:LNt}{Dn ds rs:LPd}{Ts ps:LSr}{its us:LVl}{R Rw:LZr}{ns:List Int}{es tes:List PySem.Expr}{body rest:List PySem.Stmt}{B E2 M Mc Mr Ms N Nc Nr Ns b i j k k' k0 kk m n r1 s t' tk ℓ:Nat}{an od:Option PySem.Addr}{hi:Option PySem.Expr}{pins:PNx}{d:PdX}{A:PySem.Around}{op:PySem.CmpOp}{env:PySem.Env}{c e elt iter tg:PySem.Expr}{fd:PySem.FuncData}{base h h':PySem.Heap}{apos cpos p p0 p1 p2 pos pos' spos tp:PySem.Pos}{P prog:PySem.Program}{sc scope:PySem.Scope}{qual x y:PySem.Str}{mA mg:PySem.Str->Option PySem.Value}{ct oc pm u:PySem.Value}{w:PySem.World}{fi fi' gi la la' lb:Q1x}{S:Q2x}{st st' su:Q3x}{q:Rat}{E Q:VSx}{cg r r0:Z1x}
namespace L2
open PySem PySem.Spec PyProof.Rows
abbrev Key:=Sum Int Str
noncomputable def FC:Key->Value->Bool
 | .inl k,v=>Value.isInt k v
 | .inr x,v=>Value.isStrOf x v
noncomputable def Mv(w:World):Key->Int
 | .inl k=>hashInt k
 | .inr x=>hashStr w x
theorem xI:∀{k:Key} {v:Value},FC k v=true->(∃i t,k=Sum.inl i/\v=Value.int i t)\/(∃x t,k=Sum.inr x/\v=Value.str x t)
 | .inl i,v,h=>by
  obtain⟨t,e⟩:=Value.isInt_shape (k:=i) (v:=v) h;exact .inl ⟨i,t,rfl,e⟩
 | .inr x,v,h=>by
  obtain⟨t,e⟩:=Value.isStrOf_shape (x:=x) (v:=v) h;exact .inr ⟨x,t,rfl,e⟩
def Mw(a b:Int):decide ((Sum.inl a:Key)=Sum.inl b)=(a==b):=by
 by_cases e:a=b
 ·subst e;simp
 ·have h:¬(Sum.inl a:Key)=Sum.inl b:=λq=>e<|Sum.inl.inj q
  rw[qN h];exact(k8.mpr e).symm
def Mx(a b:Str):decide ((Sum.inr a:Key)=Sum.inr b)=decide (a=b):=by
 by_cases e:a=b
 ·subst e;simp
 ·have h:¬(Sum.inr a:Key)=Sum.inr b:=λq=>e<|Sum.inr.inj q
  rw[qN h,qN e]
def My(a:Int)(b:Str):decide ((Sum.inl a:Key)=Sum.inr b)=false:=qN λq=>nomatch q
def Mz(a:Str)(b:Int):decide ((Sum.inr a:Key)=Sum.inl b)=false:=qN λq=>nomatch q
def FD(prog:Program)(w:World):PySem.KeyKind prog w Key where
 is:=FC
 hash:=Mv w
 inj:=λv a b ha hb=>by
  rcases xI ha with⟨i,t,rfl,rfl⟩|⟨x,t,rfl,rfl⟩
  ·rcases xI hb with⟨j,u,rfl,e⟩|⟨y,u,rfl,e⟩
   ·injection e with e1 _;rw[e1]
   ·exact nomatch e
  ·rcases xI hb with⟨j,u,rfl,e⟩|⟨y,u,rfl,e⟩
   ·exact nomatch e
   ·injection e with e1 _;rw[e1]
 byValue:=λk v h=>by
  rcases xI h with⟨i,t,rfl,rfl⟩|⟨x,t,rfl,rfl⟩<;>rfl
 pyHash:=λhv h=>by
  rcases xI hv with⟨i,t,rfl,rfl⟩|⟨x,t,rfl,rfl⟩
  ·exact wpAny_pyHash_int h
  ·exact wpAny_pyHash_str h
 eqBool:=λhu hv h=>by
  rcases xI hu with⟨i,t,rfl,rfl⟩|⟨x,t,rfl,rfl⟩
  ·rcases xI hv with⟨j,u,rfl,rfl⟩|⟨y,u,rfl,rfl⟩
   ·rw[Mw] at h;exact wpAny_eqBool_int h
   ·rw[My] at h;exact SeqAt.EqAt.int_str i t y u _ _ _ _ h
  ·rcases xI hv with⟨j,u,rfl,rfl⟩|⟨y,u,rfl,rfl⟩
   ·rw[Mz] at h;exact SeqAt.EqAt.str_int x t j u _ _ _ _ h
   ·rw[Mx] at h;exact wpAny_eqBool_str h
 «strs»:=λk x t v h=>by
  rcases xI h with⟨i,u,rfl,e⟩|⟨y,u,rfl,e⟩
  ·exact nomatch e
  ·injection e with e1 _
   subst e1;cases v<;>rfl
inductive V where
 |non|bl (b:Bool)|int (i:Int)|str (x:Str)|byt (b:Array UInt8)|flt (b:UInt64)|ref (a:AdX)|ty (n:String)
 deriving DecidableEq
def RelV:V->Value->Prop
 | .non,u=>u=Value.none
 | .bl b,u=>u=Value.bool b
 | .int i,u=>∃t,u=Value.int i t
 | .str x,u=>∃t,u=Value.str x t
 | .byt b,u=>∃t,u=Value.bytes b t
 | .flt b,u=>∃t,u=Value.float b t
 | .ref a,u=>u=Value.ref a
 | .ty n,u=>u=Value.type n
abbrev Vals:List V->List Value->Prop:=Paired RelV
def Vals.length{xs:List V}(r:Vals xs us):xs.length=us.length:=Paired.length r
theorem Vals.get:∀{xs:List V} {us:LVl} {i:Nat} {x:V},Vals xs us->xs[i]?=some x->∃u,us[i]?=some u/\RelV x u
 |_,_,_,_,.nil,e=>by simp at e
 |_,_,0,_,.cons r _,e=>by simp at e;subst e;exact⟨_,rfl,r⟩
 |_,_,i+1,x,.cons _ t,e=>by
  obtain⟨u,h1,h2⟩:=Vals.get (i:=i) (x:=x) t (by simpa using e);exact⟨u,by simpa using h1,h2⟩
theorem Vals.set{x:V}{u:Value}(r:RelV x u):∀{xs:List V} {us:LVl} (i:Nat),Vals xs us->Vals (xs.set i x) (us.set i u)
 |_,_,_,.nil=>.nil
 |_,_,0,.cons _ t=>.cons r t
 |_,_,i+1,.cons q t=>.cons q<|Vals.set r i t
theorem Vals.append:∀{xs ys:List V} {us ws:LVl},Vals xs us->Vals ys ws->Vals (xs++ys) (us++ws)
 |_,_,_,_,.nil,s=>s
 |_,_,_,_,.cons r t,s=>.cons r<|Vals.append t s
theorem Vals.take:∀{xs:List V} {us:LVl} (n:Nat),Vals xs us->Vals (xs.take n) (us.take n)
 |_,_,0,_=>.nil
 |_,_,_+1,.nil=>.nil
 |_,_,n+1,.cons r t=>.cons r<|Vals.take n t
theorem Vals.drop:∀{xs:List V} {us:LVl} (n:Nat),Vals xs us->Vals (xs.drop n) (us.drop n)
 |_,_,0,r=>r
 |_,_,_+1,.nil=>.nil
 |_,_,n+1,.cons _ t=>Vals.drop n t
def vO:Option V->Option Value->Prop
 |some v,some u=>RelV v u
 |none,none=>True
 |_,_=>False
def KV{κ:Type}:List (κ×V)->List (κ×Value)->Prop:=Paired λ(p:κ×V) (q:κ×Value)=>p.1=q.1/\RelV p.2 q.2
noncomputable def kV:Key->V
 | .inl i=>.int i
 | .inr x=>.str x
inductive HO where
  |lst (xs:List V)
  |tup (xs:List V)
  |dK (eZ:List (Key×V))|dT (eZ:List (List Key×V))
  |set (S:Int->Bool) (n:Nat)
  |ins (C dx:AdX) (fs:List (Str×V))
  |own (x:AdX)
  |xd (fs:List (Str×V))
  |met (f x:AdX)
  |rng (lo hi:Int)
  |frz (o:Obj) (u:HO)
  |tbl (ps:Array Value)
  |ext (φ:Heap->Prop)
abbrev Hp:=Addr->Option HO
noncomputable def upd(H:Hp)(a:AdX)(o:HO):Hp:=λb=>if b=a then some o else H b
def zL{H:Hp}{o:HO}:upd H a o a=some o:=by unfold upd;rw[qj rfl]
def zY{H:Hp}{b:AdX}{o:HO}(h:b≠a):upd H a o b=H b:=by unfold upd;rw[qm h]
def jJ{H:Hp}{b:AdX}{o:HO}(h:H a=some o)(h':H b=none):a≠b:=by
 intro e;subst e;rw[h] at h';cases h'
section
variable(P:Program)(w:World)
def vH(H:Hp)(h:Heap)(a:AdX):HO->Prop
 | .lst xs=>xs.length<=sizeLine/\∃(its:LVl)(n:Nat),Vals xs its/\h.get? a=some { cls:=.type "list",data:=.seq its.toArray n }
 | .tup xs=>xs.length<=sizeLine/\∃its:List Value,Vals xs its/\IsTup h a its.toArray
 | .dK eZ=>eZ.length<=sizeLine/\(a==sysModules)=false/\∃vs,KV eZ vs/\h.DictOf (FD P w) a vs
 | .dT eZ=>eZ.length<=sizeLine/\(a==sysModules)=false/\∃xs:List (List Key×Addr×Value),
   Paired (λ(p:List Key×V) (q:List Key×Addr×Value)=>p.1=q.1/\H q.2.1=some (.tup<|p.1.map kV)/\RelV p.2 q.2.2) eZ xs/\
   ∃o es ep,h.get? a=some o/\o.ExactDict/\o.data=.dict es ep/\es.toList=xs.map (entryOfKey<|tupleKind<|FD P w)/\(xs.map (·.1)).Nodup
 | .set S n=>h.SetOf (intKind P w) a S n
 | .ins C dx fs=>H dx=some (.own a)/\fs.length<=1000/\dx≠a/\h.get? a=some (W.instObj C dx)/\
   ∃mA,h.Ns1 dx mA/\(∀f,vO (fs.lookup f)<|mA f)/\PySem.Within mA (fs.map (·.1))
 | .own _=>∃o,h.get? a=some o
 | .xd fs=>∃mA,h.Ns1 a mA/\∀f,vO (fs.lookup f)<|mA f
 | .rng lo hi=>∃t u v,h.get? a=some { cls:=.type "range",data:=.fields #[.int lo t,.int hi u,.int 1 v] }
 | .frz o u=>h.get? a=some o/\vH H h a u
 | .tbl ps=>h.get? a=some { cls:=.none,data:=.fields ps }
 | .met f x=>h.get? a=some (W.methodObj (.ref f)<|.ref x)
 | .ext φ=>φ h/\(∃o,h.get? a=some o)/\∀h1 h2:Heap,φ h1->(∀o,h1.get? a=some o->h2.get? a=some o)->φ h2
def dR(H:Hp)(h:Heap):Prop:=∀a o,H a=some o->vH P w H h a o
end
section
variable{H H':Hp}{o:HO}
def vH.lt(x:vH P w H h a o):a<h.objs.size:=by
 cases o with
 |lst xs=>obtain⟨_,_,_,_,e⟩:=x;exact qX e
 |tup xs=>obtain⟨_,_,_,p⟩:=x;exact p.lt
 |dK eZ=>obtain⟨_,_,_,_,o,_,_,e,_⟩:=x;exact qX e
 |dT eZ=>obtain⟨_,_,_,_,o,_,_,e,_⟩:=x;exact qX e
 |set S n=>obtain⟨o,_,_,_,e,_⟩:=x;exact qX e
 |ins C dx fs=>obtain⟨_,_,_,e,_⟩:=x;exact qX e
 |own y=>obtain⟨_,e⟩:=x;exact qX e
 |xd fs=>obtain⟨_,⟨_,_,_,e,_⟩,_⟩:=x;exact qX e
 |rng lo hi=>obtain⟨_,_,_,e⟩:=x;exact qX e
 |frz ob u=>obtain⟨e,_⟩:=x;exact qX e
 |tbl ps=>exact qX<|show h.get? a=some _ from x
 |met f y=>exact qX<|show h.get? a=some _ from x
 |ext φ=>obtain⟨_,⟨_,e⟩,_⟩:=x;exact qX e
theorem Paired.znU{α β:Type}{F G:α->β->Prop}:∀{td:List α} {tf:List β},Paired F td tf->(∀a b,F a b->G a b)->Paired G td tf
 |_,_,.nil,_=>.nil
 |_,_,.cons r t,f=>.cons (f _ _ r)<|Paired.znU t f
def vH.stay(x:vH P w H h a o)(k:∀b u,(b=a\/H b=some (.own a))->h.get? b=some u->h'.get? b=some u)(ho:∀b,H b=some (.own a)->H' b=some (.own a))(ht:∀b xs,H b=some (.tup xs)->H' b=some (.tup xs)):vH P w H' h' a o:=by
 induction o with
 |lst xs=>obtain⟨z,its,n,r,e⟩:=x;exact⟨z,its,n,r,k _ _ (.inl rfl) e⟩
 |tup xs=>obtain⟨z,its,r,ob,e,c⟩:=x;exact⟨z,its,r,ob,k _ _ (.inl rfl) e,c⟩
 |dK eZ=>obtain⟨z,y,vs,r,ob,es,ep,e,c⟩:=x;exact⟨z,y,vs,r,ob,es,ep,k _ _ (.inl rfl) e,c⟩
 |dT eZ=>
  obtain⟨z,y,xs,r,ob,es,ep,e,c⟩:=x;exact⟨z,y,xs,Paired.znU r λp q z=>⟨z.1,ht _ _ z.2.1,z.2.2⟩,ob,es,ep,k _ _ (.inl rfl) e,c⟩
 |set S n=>obtain⟨ob,es,ep,t,e,c⟩:=x;exact⟨ob,es,ep,t,k _ _ (.inl rfl) e,c⟩
 |ins C dx fs=>
  obtain⟨d,z,ne,e,mA,⟨od,es,ep,e2,c⟩,r⟩:=x;exact⟨ho _ d,z,ne,k _ _ (.inl rfl) e,mA,⟨od,es,ep,k _ _ (.inr d) e2,c⟩,r⟩
 |own y=>obtain⟨ob,e⟩:=x;exact⟨ob,k _ _ (.inl rfl) e⟩
 |xd fs=>obtain⟨mA,⟨od,es,ep,e,c⟩,r⟩:=x;exact⟨mA,⟨od,es,ep,k _ _ (.inl rfl) e,c⟩,r⟩
 |rng lo hi=>obtain⟨t,u,v,e⟩:=x;exact⟨t,u,v,k _ _ (.inl rfl) e⟩
 |frz ob u ih=>obtain⟨e,q⟩:=x;exact⟨k _ _ (.inl rfl) e,ih q⟩
 |tbl ps=>
  have e:h.get? a=some { cls:=.none,data:=.fields ps }:=x;show h'.get? a=some { cls:=.none,data:=.fields ps }
  exact k a _ (.inl rfl) e
 |met f y=>
  have e:h.get? a=some (W.methodObj (.ref f)<|.ref y):=x;show h'.get? a=some (W.methodObj (.ref f)<|.ref y)
  exact k a _ (.inl rfl) e
 |ext φ=>obtain⟨p,⟨o,e⟩,st⟩:=x;exact⟨st _ _ p λo q=>k _ _ (.inl rfl) q,⟨o,k _ _ (.inl rfl) e⟩,st⟩
def dR.lt(x:dR P w H h)(e:H a=some o):a<h.objs.size:=(x a o e).lt
def dR.fresh(x:dR P w H h)(e:h.objs.size<=a):H a=none:=by
 cases q:H a with
 |none=>rfl
 |some u=>exact absurd (qK (x.lt q) e)<|gp _
def dR.kept(x:dR P w H h)(k:∀b u,h.get? b=some u->h'.get? b=some u):dR P w H h':=λa o e=>
 (x a o e).stay (λb u _ q=>k b u q) (λ_ q=>q) λ_ _ q=>q
def dR.laid(x:dR P w H h)(k:∀b u,h.get? b=some u->h'.get? b=some u)(hp:h.objs.size<=a)(new:vH P w (upd H a o) h' a o):dR P w (upd H a o) h':=λb u e=>by
 have hn:=x.fresh hp;by_cases hb:b=a
 ·subst hb;rw[zL] at e;cases e;exact new
 ·rw[zY hb] at e;exact(x b u e).stay (λc v _ q=>k c v q) (λc q=>by rw[zY<|jJ q hn];exact q) λc xs q=>by rw[zY<|jJ q hn];exact q
end
def Rd(H:Hp)(a:AdX)(u:HO):Prop:=H a=some u\/∃o,H a=some (.frz o u)
def Rd.ok{H:Hp}{u:HO}(r:Rd H a u)(x:dR P w H h):vH P w H h a u:=by
 rcases r with r|⟨o,r⟩
 ·exact x a u r
 ·obtain⟨_,q⟩:=x a _ r;exact q
def A8:Option HO->Prop
 |some (.lst _)=>True
 |some (.dK _)=>True
 |some (.dT _)=>True
 |some (.set _ _)=>True
 |some (.ins _ _ _)=>True
 |some (.ext _)=>True
 |_=>False
section
variable{H:Hp}{x e:AdX}{o':HO}
def dR.write(ok:dR P w H h)(mu:A8 (H x))(he:e=x\/H e=some (.own x))(k:∀b u,b≠e->h.get? b=some u->h'.get? b=some u)(rL:∃u,h'.get? e=some u)(new:vH P w (upd H x o') h' x o'):dR P w (upd H x o') h':=λb u q=>by
 have tj:∀c y,H c=some (.own y)->c≠x:=λc y r z=>by subst z;rwa[r] at mu
 have CA:∀c xs,H c=some (.tup xs)->c≠x:=λc xs r z=>by subst z;rwa[r] at mu
 by_cases hb:b=x
 ·subst hb;rw[zL] at q;cases q;exact new
 ·rw[zY hb] at q;by_cases oC:b=e
  ·have q':H b=some (.own x):=by
    rcases he with z|z
    ·exact absurd (oC.trans z) hb
    ·rw[oC];exact z
   rw[q] at q';cases q';obtain⟨v,hv⟩:=rL;exact⟨v,by rw[oC];exact hv⟩
  ·refine(ok b u q).stay (λc v hc r=>k c v ?_ r) (λc r=>by rw[zY<|tj c b r];exact r) λc xs r=>by rw[zY<|CA c xs r];exact r
   rcases hc with rfl|hc
   ·exact oC
   ·rintro rfl;rcases he with z|z
    ·exact tj c b hc z
    ·rw[hc] at z;cases z;exact hb rfl
end
structure Un(fs ex:LAd)(H H':Hp)(h h':Heap):Prop where
 keep:∀b o,h.get? b=some o->H b=none->b∉fs->b∉ex->h'.get? b=some o
 slot:∀b o,h.get? b=some o->H b=none->b∈fs->b∉ex->∃sl,h'.get? b=some { o with slots:=sl }
 free:∀b o,h.get? b=some o->H b=none->b∉ex->H' b=none
 there:∀b o,h.get? b=some o->b∉ex->∃o',h'.get? b=some o'
 tups:∀b xs,H b=some (.tup xs)->H' b=some (.tup xs)
 frzs:∀b o u,H b=some (.frz o u)->H' b=some (.frz o u)
 tbls:∀b ps,H b=some (.tbl ps)->∃more,H' b=some (.tbl<|ps++more)
section
variable{fs bU ex':LAd}{H H1 H2:Hp}{h1 h2:Heap}{x e:AdX}{o:HO}
def Un.any(u:Un fs ex H H1 h h1){b:AdX}{ob:Obj}(q:h.get? b=some ob)(n:H b=none)(hx:b∉ex):∃sl,h1.get? b=some { ob with slots:=sl }:=by
 by_cases hb:b∈fs
 ·exact u.slot b ob q n hb hx
 ·exact⟨ob.slots,u.keep b ob q n hb hx⟩
def Un.kept(k:∀b u,h.get? b=some u->h'.get? b=some u):Un fs ex H H h h':=⟨λb ob q _ _ _=>k b ob q,λb ob q _ _ _=>⟨ob.slots,k b ob q⟩,λ_ _ _ n _=>n,λb ob q _=>⟨ob,k b ob q⟩,λ_ _ q=>q,λ_ _ _ q=>q,λ_ ps q=>⟨#[],by rw[q];simp⟩⟩
def Un.refl:Un fs ex H H h h:=Un.kept λ_ _ q=>q
def Un.laid(k:∀b u,h.get? b=some u->h'.get? b=some u)(hp:h.objs.size<=a)(hn:H a=none):Un fs ex H (upd H a o) h h' where
 keep:=λb u q _ _ _=>k b u q
 slot:=λb u q _ _ _=>⟨u.slots,k b u q⟩
 free:=λb u q n _=>by rw[zY<|gq<|qK (qX q) hp];exact n
 there:=λb u q _=>⟨u,k b u q⟩
 tups:=λb xs q=>by rw[zY<|jJ q hn];exact q
 frzs:=λb u xs q=>by rw[zY<|jJ q hn];exact q
 tbls:=λb ps q=>⟨#[],by rw[zY<|jJ q hn,q];simp⟩
def Un.write(mu:A8 (H x))(he:e=x\/H e=some (.own x))(k:∀b u,b≠e->h.get? b=some u->h'.get? b=some u)(rL:∃u,h'.get? e=some u):Un fs ex H (upd H x o) h h':=by
 have hx:∀b,H b=none->b≠x:=λb n z=>by subst z;rwa[n] at mu
 have hb:∀b,H b=none->b≠e:=λb n z=>by
  subst z;rcases he with r|r
  ·exact hx b n r
  ·rw[n] at r;cases r
 have hm:∀b u,H b=some u->¬A8 (some u)->b≠x:=λb u q nm z=>by subst z;rw[q] at mu;exact nm mu
 refine⟨λb u q n _ _=>k b u (hb b n) q,λb u q n _ _=>⟨u.slots,k b u (hb b n) q⟩,λb u q n _=>by rw[zY<|hx b n];exact n,λb u q _=>?_,
  λb xs q=>by rw[zY<|hm b _ q λz=>z];exact q,λb u xs q=>by rw[zY<|hm b _ q λz=>z];exact q,λb ps q=>⟨#[],by rw[zY<|hm b _ q λz=>z,q];simp⟩⟩
 by_cases oC:b=e
 ·subst oC;exact rL
 ·exact⟨u,k b u oC q⟩
end
noncomputable def A9(h:Heap)(H:Hp):List Addr:=(List.range h.objs.size).filter λa=>(H a).isSome
def iR(h:Heap)(H:Hp):Heap:=W.hideAll h<|A9 h H
def MA(h:Heap)(H:Hp):(iR h H).objs.size=h.objs.size:=W.hideAll_size _ _
def MB{H:Hp}{b:AdX}{o:Obj}(e:h.get? b=some o)(n:H b=none):(iR h H).get? b=some o:=W.hideAll_get _ e λhm=>by
  have q:(H b).isSome=true:=(kl.mp hm).2;rw[n] at q;simp at q
def MC{H:Hp}{b:AdX}{o:Obj}(e:(iR h H).get? b=some o):h.get? b=some o/\H b=none:=by
 have e':h.get? b=some o:=W.of_hideAll (A9 h H) e;refine⟨e',?_⟩;cases q:H b with
 |none=>rfl
 |some x=>
  have hm:b∈A9 h H:=kl.mpr ⟨qx.mpr<|qX e',by simp[q]⟩;have z:(iR h H).get? b=none:=W.hideAll_none (A9 h H) hm
  rw[z] at e;cases e
structure Mod(K:FRx)(mg:Str->Option Value)(base:Heap):Prop where
 kin:K.In base
 glob:base.Ns mainGlobals mg
 blt:∃mb,base.Ns builtinsNs mb/\∀x:Str,x≠"__name__"->mb x=bootBuiltins x
 nolimit:base.NoLimit
structure Cx where
 prog:Program
 w:World
 K:W.Frag
 mg:Str->Option Value
 base:Heap
 A:Around
 N:List Str
 s₀:Shared
 H₀:Hp
 env:Env
 outer:List Env
 stack:List Env
 ex:List Addr
 fn:Str->Bool
 calm:Bool
 pn:List (Addr×Obj)
 xe:Value->Shared->Prop
abbrev cT(X:Cx)(e:Expr)(es:List Expr):Prop:=starEach (e::es) X.env=(false,eval e X.env)::starEach es X.env
abbrev d4(X:Cx)(e:Expr)(f:Str):Prop:=attributeBase e f X.env (eval e X.env)=eval e X.env
abbrev fA(X:Cx)(x:Str):Prop:=X.fn x=true\/X.env.scope.names.lookup x=some .local
abbrev lz(X:Cx)(cpos:Pos)(es:List Expr):Prop:=((backTo cpos<|starEach es X.env).all (λx=>!x.1)&&(backToKw cpos<|keywordEach [] X.env).all (λx=>x.1.isSome)&&decide (es.length+([]:List Keyword).length+(if ([]:List Keyword).isEmpty then 0 else 1)<30))=true
abbrev d9(X:Cx)(pos:Pos)(es:List Expr):Prop:=(backTo pos<|starEach es X.env).any (·.1)=false
abbrev ee(X:Cx)(iter:Expr):Prop:=∀x,foldedSetIterable iter X.env x=pure x
noncomputable def iB(l:List Env):List Addr:=l.filterMap (·.frame)
abbrev Cx.fs(X:Cx):List Addr:=iB X.outer
def cY(sc:Scope)(x:Str):Prop:=sc.names.lookup x=some .local\/sc.names.lookup x=some .cell\/sc.names.lookup x=some .free
def Loc(sc:Scope)(x:Str):Prop:=sc.names.lookup x=some .local\/sc.names.lookup x=some .cell
def Look(env:Env)(h:Heap)(m:Str->Option Value)(x:Str)(u:Value):Prop:=(env.kindOf x=some .local/\m x=some u)\/((env.kindOf x=some .cell\/env.kindOf x=some .free)/\∃c,env.cells.lookup x=some c/\h.IsCell c (some u))
structure Cx.Ok(X:Cx):Prop where
 mod:Mod X.K X.mg X.base
 kind:X.env.scope.kind=.function
 glob:X.env.globals=mainGlobals
 blt:X.env.builtins=builtinsNs
 above:X.s₀.heap.objs.size<=X.env.locals
 inj:∀x y c,X.env.cells.lookup x=some c->X.env.cells.lookup y=some c->x=y
 has:∀x,(X.env.kindOf x=some .cell\/X.env.kindOf x=some .free)->∃c,X.env.cells.lookup x=some c
 cab:∀x c,X.fn x=true->X.env.cells.lookup x=some c->X.s₀.heap.objs.size<=c
 hd:X.calm=true->X.A.handled=none
 frames:X.A.frames=some X.stack
 stk:X.stack=X.outer\/(X.stack=X.env::X.outer/\X.env.frame=some X.env.locals)
 exf:∀b∈X.ex,b≠X.env.locals/\∀x c,X.env.cells.lookup x=some c->c≠b
 bs:∀b o,X.base.get? b=some o->X.s₀.heap.get? b=some o/\X.H₀ b=none
 bsz:X.base.objs.size<=X.s₀.heap.objs.size
 noex:∀b o,X.base.get? b=some o->b∉X.ex
 exfs:∀b∈X.ex,b∉X.fs
 funs:X.s₀.heap.FunFrames X.base X.outer
 frf:∀b∈X.fs,X.H₀ b=none
structure Inv(X:Cx)(pins:PNx)(σ:List (Option V))(H:Hp)(s:ShX):Prop where
 ok:X.Ok
 os:s.os=X.s₀.os
 bare:AllBare s.gens
 base:Un X.fs X.ex X.H₀ H X.s₀.heap s.heap
 loc:∃m,s.heap.Ns X.env.locals m/\∀(i:Nat)(x:Str)(v:V),X.N[i]?=some x->σ[i]?=some (some v)->cY X.env.scope x->∃u,RelV v u/\Look X.env s.heap m x u
 cell:∀x c,X.env.cells.lookup x=some c->∃v,s.heap.IsCell c v
 free:H X.env.locals=none
 freeC:∀x c,X.env.cells.lookup x=some c->H c=none
 pin:∀p∈X.pn++pins,s.heap.get? p.1=some p.2/\H p.1=none/\p.1≠X.env.locals/\p.1∉X.fs/\∀v,p.2.data≠ .cell v
 hok:dR X.prog X.w H s.heap
 len:σ.length=X.N.length
section
variable{X:Cx}{σ:List (Option V)}{H H':Hp}{s:ShX}
def Cx.Ok.nofr(ok:X.Ok){b:AdX}{o:Obj}(e:X.base.get? b=some o):b∉X.fs:=λhb=>by
 have:=(ok.funs.mem hb).1;rw[e] at this;cases this
def Inv.bs(I:Inv X pins σ H s):∀b o,X.base.get? b=some o->s.heap.get? b=some o/\H b=none:=λb o e=>
 ⟨I.base.keep b o (I.ok.bs b o e).1 (I.ok.bs b o e).2 (I.ok.nofr e)<|I.ok.noex b o e,I.base.free b o (I.ok.bs b o e).1 (I.ok.bs b o e).2<|I.ok.noex b o e⟩
def Inv.bk(I:Inv X pins σ H s):∀b o,X.base.get? b=some o->s.heap.get? b=some o:=λb o e=>(I.bs b o e).1
def Inv.mod(I:Inv X pins σ H s):Mod X.K X.mg X.base:=I.ok.mod
def Inv.kIn(I:Inv X pins σ H s):X.K.In s.heap:=I.ok.mod.kin.keeps I.bk
def Inv.nolimit(I:Inv X pins σ H s):s.heap.NoLimit:=I.ok.mod.nolimit.keeps I.bk
def Inv.lt(I:Inv X pins σ H s):X.env.locals<s.heap.objs.size:=let ⟨_,hn,_⟩:=I.loc;hn.lt
def Inv.sz(I:Inv X pins σ H s):X.s₀.heap.objs.size<=s.heap.objs.size:=qr I.ok.above<|nD I.lt
def Inv.nofs(I:Inv X pins σ H s)(h:s.heap.objs.size<=a):a∉X.fs:=λhb=>by
 obtain⟨_,o,ho,_⟩:=I.ok.funs.mem hb;exact absurd (qK (qX ho)<|qr I.sz h)<|gp _
def Inv.cne(I:Inv X pins σ H s):∀x c,X.env.cells.lookup x=some c->c≠X.env.locals:=λx c e z=>by
 obtain⟨v,o,ho,hd⟩:=I.cell x c e;obtain⟨m,⟨o',es,ep,fZ,eG,_⟩,_⟩:=I.loc;rw[z,fZ] at ho;cases ho;rw[eG] at hd;cases hd
def Inv.funs(I:Inv X pins σ H s):s.heap.FunFrames X.base X.outer:=by
 have all:∀(l:List Env),(∀b∈iB l,b∈X.fs)->X.s₀.heap.FunFrames X.base l->s.heap.FunFrames X.base l:=by
  intro l;induction l with
  |nil=>intro _ _;trivial
  |cons env r ih=>
   intro hs hl;obtain⟨hk,⟨L,o,hf,hn,ho,hd⟩,hr⟩:=hl;have hL:L∈X.fs:=hs L (by unfold iB;rw[mC,hf];exact qZ);obtain⟨sl,e⟩:=I.base.slot L o ho (I.ok.frf L hL) hL λz=>I.ok.exfs L z hL
   exact⟨hk,⟨L,_,hf,hn,e,hd⟩,ih (λb hb=>hs b<|by unfold iB;rw[mC,hf];exact qA _ hb) hr⟩
 exact all X.outer (λ_ hb=>hb) I.ok.funs
def Inv.stack(I:Inv X pins σ H s):s.heap.FunFrames X.base X.stack:=by
 rcases I.ok.stk with e|⟨e,hf⟩
 ·rw[e];exact I.funs
 ·rw[e];obtain⟨m,hn,_⟩:=I.loc;refine .cons (by rw[I.ok.kind];decide) hf hn ?_ I.funs;exact Heap.get?_none_of_le<|qr I.ok.bsz I.ok.above
def Inv.zem(I:Inv X pins σ H s):∀b∈iB X.stack,b∈X.env.locals::X.fs:=λb hb=>by
 rcases I.ok.stk with e|⟨e,hf⟩
 ·rw[e] at hb;exact qA _ hb
 ·rw[e] at hb;unfold iB at hb;rwa[mC,hf] at hb
def Inv.zfJ(I:Inv X pins σ H s):∀b∈iB X.stack,H b=none:=λb hb=>by
 rcases qy.mp (I.zem b hb) with e|hb
 ·rw[e];exact I.free
 ·obtain⟨_,o,ho,_⟩:=I.ok.funs.mem hb;exact I.base.free b o ho (I.ok.frf b hb) λz=>I.ok.exfs b z hb
def Inv.step{g':Array GenState}{d':Drawn}(I:Inv X pins σ H s)(lA:∀b∈ch,(b∈X.ex\/X.s₀.heap.objs.size<=b)/\b≠X.env.locals/\(∀x c,X.env.cells.lookup x=some c->c≠b)/\∀p∈X.pn++pins,p.1≠b)(keep:∀b o,b≠X.env.locals->b∉X.fs->b∉ch->s.heap.get? b=some o->H b=none->h'.get? b=some o)(slot:∀b o,b≠X.env.locals->b∈X.fs->b∉ch->s.heap.get? b=some o->H b=none->∃sl,h'.get? b=some { o with slots:=sl })(free:∀b o,b∉ch->s.heap.get? b=some o->H b=none->H' b=none)(there:∀b o,b∉ch->s.heap.get? b=some o->∃o',h'.get? b=some o')(tups:∀b xs,H b=some (.tup xs)->H' b=some (.tup xs))(frzs:∀b o u,H b=some (.frz o u)->H' b=some (.frz o u))(tbls:∀b ps,H b=some (.tbl ps)->∃more,H' b=some (.tbl<|ps++more))(ns:∀m,s.heap.Ns X.env.locals m->h'.Ns X.env.locals m)(hok:dR X.prog X.w H' h')(hg:AllBare g'):Inv X pins σ H' { s with heap:=h',gens:=g',drawn:=d',toks:=t' }:=by
 have FF:∀b o,X.s₀.heap.get? b=some o->b≠X.env.locals:=λb o e=>gq<|qK (qX e) I.ok.above
 have lC:∀b o,X.s₀.heap.get? b=some o->b∉X.ex->b∉ch:=λb o e hx hb=>by
  rcases(lA b hb).1 with z|z
  ·exact hx z
  ·exact absurd (qK (qX e) z)<|gp _
 have cellK:∀x c,X.env.cells.lookup x=some c->∀v,s.heap.IsCell c v->h'.IsCell c v:=λx c e v ⟨o,ho,hd⟩=>by
  have tm:c∉ch:=λz=>(lA c z).2.2.1 x c e rfl
  by_cases hc:c∈X.fs
  ·obtain⟨sl,q⟩:=slot c o (I.cne x c e) hc tm ho<|I.freeC x c e;exact⟨_,q,hd⟩
  ·exact⟨o,keep c o (I.cne x c e) hc tm ho<|I.freeC x c e,hd⟩
 refine⟨I.ok,I.os,hg,⟨λb o e n hb hx=>?_,λb o e n hb hx=>?_,λb o e n hx=>?_,λb o e hx=>?_,λb xs e=>tups b xs<|I.base.tups b xs e,λb o xs e=>frzs b o xs<|I.base.frzs b o xs e,λb ps e=>?_⟩,?_,λx c e=>?_,?_,λx c e=>?_,λp hp=>?_,hok,I.len⟩
 ·exact keep b o (FF b o e) hb (lC b o e hx) (I.base.keep b o e n hb hx)<|I.base.free b o e n hx
 ·obtain⟨sl,e1⟩:=I.base.slot b o e n hb hx;obtain⟨ME,e2⟩:=slot b _ (FF b o e) hb (lC b o e hx) e1<|I.base.free b o e n hx;exact⟨ME,e2⟩
 ·obtain⟨o',e1⟩:=I.base.there b o e hx;exact free b o' (lC b o e hx) e1<|I.base.free b o e n hx
 ·obtain⟨o',e1⟩:=I.base.there b o e hx;exact there b o' (lC b o e hx) e1
 ·obtain⟨m1,e1⟩:=I.base.tbls b ps e;obtain⟨m2,e2⟩:=tbls b _ e1;exact⟨m1++m2,by rw[e2,Array.append_assoc]⟩
 ·obtain⟨m,hn,hl⟩:=I.loc;refine⟨m,ns m hn,λi x v e1 e2 e3=>?_⟩;obtain⟨u,r,l⟩:=hl i x v e1 e2 e3;refine⟨u,r,?_⟩;rcases l with l|⟨k,c,e,z⟩
  ·exact .inl l
  ·exact .inr ⟨k,c,e,cellK x c e _ z⟩
 ·obtain⟨v,z⟩:=I.cell x c e;exact⟨v,cellK x c e v z⟩
 ·obtain⟨m,⟨o,_,_,ho,_⟩,_⟩:=I.loc;exact free _ o (λz=>(lA _ z).2.1 rfl) ho I.free
 ·obtain⟨v,o,ho,hd⟩:=I.cell x c e;exact free c o (λz=>(lA c z).2.2.1 x c e rfl) ho<|I.freeC x c e
 ·obtain⟨e,n,ne,nf,d⟩:=I.pin p hp;have tm:p.1∉ch:=λz=>(lA p.1 z).2.2.2 p hp rfl
  exact⟨keep p.1 p.2 ne nf tm e n,free p.1 p.2 tm e n,ne,nf,d⟩
def Inv.un(I:Inv X pins σ H s)(u:Un X.fs [] H H' s.heap h')(hok:dR X.prog X.w H' h'):Inv X pins σ H' { s with heap:=h',toks:=t' }:=by
 obtain⟨m,⟨o,es,ep,ho,r⟩,_⟩:=id I.loc;obtain⟨sl,hL⟩:=u.any ho I.free (by simp);exact I.step (g':=s.gens) (d':=s.drawn) (ch:=[]) (λ_ z=>nomatch z) (λb o _ hb _ e n=>u.keep b o e n hb<|by simp) (λb o _ hb _ e n=>u.slot b o e n hb<|by simp) (λb o _ e n=>u.free b o e n<|by simp) (λb o _ e=>u.there b o e<|by simp) u.tups u.frzs u.tbls (λm' hm=>by
  obtain⟨o',CB,CC,fZ,r'⟩:=hm;rw[ho] at fZ;cases fZ;exact⟨_,CB,CC,hL,r'⟩) hok I.bare
def Inv.call{g':Array GenState}{d':Drawn}(I:Inv X pins σ H s)(u:Un (iB X.stack) ch H H' s.heap h')(hok:dR X.prog X.w H' h')(hg:AllBare g')(lA:∀b∈ch,(b∈X.ex\/X.s₀.heap.objs.size<=b)/\b≠X.env.locals/\(∀x c,X.env.cells.lookup x=some c->c≠b)/\∀p∈X.pn++pins,p.1≠b):Inv X pins σ H' { s with heap:=h',gens:=g',drawn:=d',toks:=t' }:=by
 obtain⟨m,⟨o,es,ep,ho,r⟩,_⟩:=id I.loc;obtain⟨sl,hL⟩:=u.any ho I.free λz=>(lA _ z).2.1 rfl
 exact I.step (ch:=ch) lA (λb o hL hb hc e n=>u.keep b o e n (λz=>(qy.mp<|I.zem b z).elim hL hb) hc) (λb o _ _ hc e n=>u.any e n hc) (λb o hc e n=>u.free b o e n hc) (λb o hc e=>u.there b o e hc) u.tups u.frzs u.tbls (λm' hm=>by
  obtain⟨o',CB,CC,fZ,r'⟩:=hm;rw[ho] at fZ;cases fZ;exact⟨_,CB,CC,hL,r'⟩) hok hg
def Inv.turned(I:Inv X pins σ H s)(k:∀b o,b≠it->s.heap.get? b=some o->h'.get? b=some o)(hn:H it=none)(hL:it≠X.env.locals)(h1:it∈X.ex\/X.s₀.heap.objs.size<=it)(h2:∀x c,X.env.cells.lookup x=some c->c≠it)(h3:∀p∈X.pn++pins,p.1≠it):Inv X pins σ H { s with heap:=h',toks:=t' }:=by
 have FH:∀b u,H b=some u->b≠it:=λb u e z=>by rw[z,hn] at e;cases e
 refine I.step (g':=s.gens) (d':=s.drawn) (ch:=[it]) (λb hb=>?_) (λb o _ _ hc e _=>k b o (λz=>hc<|by simp[z]) e) (λb o _ _ hc e _=>⟨o.slots,k b o (λz=>hc<|by simp[z]) e⟩) (λ_ _ _ _ n=>n)
  (λb o hc e=>⟨o,k b o (λz=>hc<|by simp[z]) e⟩) (λ_ _ e=>e) (λ_ _ _ e=>e) (λb ps e=>⟨#[],by rw[e];simp⟩) (λm hm=>?_) (λb u e=>?_) I.bare
 ·have e:b=it:=by simpa using hb
  subst e;exact⟨h1,hL,h2,h3⟩
 ·obtain⟨o,es,ep,ho,r⟩:=hm;exact⟨o,es,ep,k _ o (gE hL) ho,r⟩
 ·refine(I.hok b u e).stay (λc v hc q=>k c v ?_ q) (λ_ q=>q) λ_ _ q=>q
  rcases hc with z|z
  ·rw[z];exact FH b u e
  ·exact FH c _ z
def Inv.tok(I:Inv X pins σ H s)(t:Nat):Inv X pins σ H { s with toks:=t }:=I.un (h':=s.heap) (t':=t) Un.refl I.hok
def Inv.kept(I:Inv X pins σ H s)(k:∀b u,s.heap.get? b=some u->h'.get? b=some u):Inv X pins σ H { s with heap:=h',toks:=t' }:=I.un (Un.kept k)<|I.hok.kept k
def Inv.laid{o:HO}(I:Inv X pins σ H s)(k:∀b u,s.heap.get? b=some u->h'.get? b=some u)(hp:s.heap.objs.size<=a)(new:vH X.prog X.w (upd H a o) h' a o):Inv X pins σ (upd H a o) { s with heap:=h',toks:=t' }:=I.un (Un.laid k hp<|I.hok.fresh hp)<|I.hok.laid k hp new
def Inv.write{x e:AdX}{o:HO}(I:Inv X pins σ H s)(mu:A8 (H x))(he:e=x\/H e=some (.own x))(k:∀b u,b≠e->s.heap.get? b=some u->h'.get? b=some u)(rL:∃u,h'.get? e=some u)(new:vH X.prog X.w (upd H x o) h' x o):Inv X pins σ (upd H x o) { s with heap:=h',toks:=t' }:=I.un (Un.write mu he k rL)<|I.hok.write mu he k rL new
def Inv.zfx{lD:PNx}(I:Inv X pins σ H s)(h:∀p∈lD,s.heap.get? p.1=some p.2/\H p.1=none/\p.1≠X.env.locals/\p.1∉X.fs/\∀v,p.2.data≠ .cell v):Inv X lD σ H s:=⟨I.ok,I.os,I.bare,I.base,I.loc,I.cell,I.free,I.freeC,λp hp=>(qu.mp hp).elim (λz=>I.pin p<|List.mem_append_left _ z)<|h p,I.hok,I.len⟩
def FJ{N:LSr}(hN:N.Nodup)(a:N[i]?=some x)(b:N[j]?=some x):i=j:=by
 obtain⟨h1,e1⟩:=qg.mp a;obtain⟨h2,e2⟩:=qg.mp b;exact(List.getElem_inj hN).mp<|e1.trans e2.symm
def Wh{M:Model}{v:V}{Q:Unit->Shared->Prop}(I:Inv X pins σ H s)(hN:X.N.Nodup)(hi:X.N[i]?=some x)(hx:Loc X.env.scope x)(r:RelV v u)(h:∀s',Inv X pins (σ.set i<|some v) H s'->(∃a,Heap.SameBut a s.heap s'.heap/\(a=X.env.locals\/X.env.cells.lookup x=some a))->Q () s')(hf:fA X x:=by trivial):wpAny M A (storeName X.env x u) Q E s:=by
 obtain⟨m,hn,hl⟩:=id I.loc;have CD:(X.env.scope.kind== .class || (X.env.scope.kind== .module&&X.env.locals != X.env.globals))=false:=by rw[I.ok.kind];rfl
 have tq:i<σ.length:=by rw[I.len];exact(qg.mp hi).1
 have cne:=I.cne;have tracked:∀{a:AdX} {h':Heap},(∃o,s.heap.get? a=some o/\H a=none)->Heap.SameBut a s.heap h'->dR X.prog X.w H h':=λ{a h'} ha hs b ob e=>by
  obtain⟨_,_,lE⟩:=ha;refine(I.hok b ob e).stay (λc w' hc q=>(hs.2 c ?_).trans q) (λ_ q=>q) λ_ _ q=>q
  rintro rfl;rcases hc with rfl|hc
  ·rw[lE] at e;cases e
  ·rw[lE] at hc;cases hc
 rcases hx with hk|hk
 ·refine wpAny_storeName_local hk hn (λh' CF hs=>?_) CD;obtain⟨oL,_,_,MF,_⟩:=id hn;refine h _ ⟨I.ok,I.os,I.bare,⟨λb o e n hb hx=>?_,λb o e n hb hx=>?_,I.base.free,λb o e hx=>?_,I.base.tups,I.base.frzs,I.base.tbls⟩,⟨_,CF,λj y v' e1 e2 e3=>?_⟩,λy c e=>?_,I.free,I.freeC,λp hp=>?_,tracked ⟨oL,MF,I.free⟩ hs,by simpa using I.len⟩ ⟨_,hs,.inl rfl⟩
  ·exact(hs.2 b<|gq<|qK (qX e) I.ok.above).trans<|I.base.keep b o e n hb hx
  ·obtain⟨sl,e1⟩:=I.base.slot b o e n hb hx;exact⟨sl,(hs.2 b<|gq<|qK (qX e) I.ok.above).trans e1⟩
  ·obtain⟨o',e1⟩:=I.base.there b o e hx;exact⟨o',(hs.2 b<|gq<|qK (qX e) I.ok.above).trans e1⟩
  ·by_cases hj:j=i
   ·subst hj;rw[hi] at e1;cases e1;rw[kQ tq] at e2;cases e2;exact⟨u,r,.inl ⟨hk,by simp⟩⟩
   ·rw[qL<|gE hj] at e2;obtain⟨u',r',q⟩:=hl j y v' e1 e2 e3;refine⟨u',r',?_⟩;rcases q with⟨k,e⟩|⟨k,c,e,z⟩
    ·refine .inl ⟨k,?_⟩
     have:y≠x:=λe=>hj<|FJ hN e1<|e▸hi
     simp[this,e]
    ·exact .inr ⟨k,c,e,z.sameBut hs<|cne y c e⟩
  ·obtain⟨w',z⟩:=I.cell y c e;exact⟨w',z.sameBut hs<|cne y c e⟩
  ·obtain⟨e,n,ne,nf,d⟩:=I.pin p hp;exact⟨(hs.2 p.1 ne).trans e,n,ne,nf,d⟩
 ·have oE:X.fn x=true:=by
   rcases hf with z|z
   ·exact z
   ·rw[z] at hk;cases hk
  obtain⟨c,hc⟩:=I.ok.has x<|.inl hk;obtain⟨w',z⟩:=I.cell x c hc;refine wpAny_storeName_cell I.ok.kind hk hc z λh' cO hs=>?_;obtain⟨oc,FP,CG⟩:=id z;refine h { s with heap:=h' } ⟨I.ok,I.os,I.bare,⟨λb o e n hb hx=>?_,λb o e n hb hx=>?_,I.base.free,λb o e hx=>?_,I.base.tups,I.base.frzs,I.base.tbls⟩,⟨m,hn.sameBut hs<|gE<|cne x c hc,λj y v' e1 e2 e3=>?_⟩,λy c' e=>?_,I.free,I.freeC,λp hp=>?_,tracked ⟨oc,FP,I.freeC x c hc⟩ hs,by simpa using I.len⟩ ⟨c,hs,.inr hc⟩
  ·exact(hs.2 b<|gq<|qK (qX e)<|I.ok.cab x c oE hc).trans<|I.base.keep b o e n hb hx
  ·obtain⟨sl,e1⟩:=I.base.slot b o e n hb hx;exact⟨sl,(hs.2 b<|gq<|qK (qX e)<|I.ok.cab x c oE hc).trans e1⟩
  ·obtain⟨o',e1⟩:=I.base.there b o e hx;exact⟨o',(hs.2 b<|gq<|qK (qX e)<|I.ok.cab x c oE hc).trans e1⟩
  ·by_cases hj:j=i
   ·subst hj;rw[hi] at e1;cases e1;rw[kQ tq] at e2;cases e2;exact⟨u,r,.inr ⟨.inl hk,c,hc,cO⟩⟩
   ·rw[qL<|gE hj] at e2;obtain⟨u',r',q⟩:=hl j y v' e1 e2 e3;refine⟨u',r',?_⟩;rcases q with q|⟨k,c',e,z'⟩
    ·exact .inl q
    ·refine .inr ⟨k,c',e,z'.sameBut hs ?_⟩;rintro rfl;exact hj<|FJ hN e1<|I.ok.inj _ _ _ e hc▸hi
  ·by_cases FQ:c'=c
   ·subst FQ;exact⟨_,cO⟩
   ·obtain⟨w2,z2⟩:=I.cell y c' e;exact⟨w2,z2.sameBut hs FQ⟩
  ·obtain⟨e,n,ne,nf,d⟩:=I.pin p hp;refine⟨(hs.2 p.1 ?_).trans e,n,ne,nf,d⟩;intro q;rw[q,FP] at e;have q':oc=p.2:=kj e;exact d w' (by rw[<-q'];exact CG)
def FR{M:Model}{v:V}{Q:Unit->Shared->Prop}(I:Inv X pins σ H s)(hN:X.N.Nodup)(hi:X.N[i]?=some x)(hx:Loc X.env.scope x)(r:RelV v u)(h:∀s',Inv X pins (σ.set i<|some v) H s'->Q () s')(hf:fA X x:=by trivial):wpAny M A (storeName X.env x u) Q E s:=Wh I hN hi hx r (λs' I' _=>h s' I') hf
end
abbrev XK:=Value->Option Addr->Hp->Prop
abbrev St:=List<|Option V
abbrev VK:=V->Hp->Prop
abbrev TE:=St->Hp->VK->Prop
abbrev TT:=St->Hp->(Bool->Hp->Prop)->Prop
abbrev TA:=St->Hp->(List V->Hp->Prop)->Prop
structure Ends where
 nx:St->Hp->Prop
 rt:VK
 bk:St->Hp->Prop:=λ_ _=>False
 ct:St->Hp->Prop:=λ_ _=>False
abbrev TS:=Ends->St->Hp->Prop
def EP(X:Cx)(pins:PNx)(σ:St)(Q:VK)(u:Value)(s':ShX):Prop:=∃v H',Inv X pins σ H' s'/\RelV v u/\Q v H'
def TP(X:Cx)(pins:PNx)(σ:St)(Q:Bool->Hp->Prop)(b:Bool)(s':ShX):Prop:=∃H',Inv X pins σ H' s'/\Q b H'
def AP(X:Cx)(pins:PNx)(σ:St)(Q:List V->Hp->Prop)(us:LVl)(s':ShX):Prop:=∃vs H',Inv X pins σ H' s'/\Vals vs us/\Q vs H'
def SP(X:Cx)(pins:PNx)(D:Ends)(f:Flow)(s':ShX):Prop:=match f with
 | .next=>∃bR H',Inv X pins bR H' s'/\D.nx bR H'
 | .brk=>∃bR H',Inv X pins bR H' s'/\D.bk bR H'
 | .cont=>∃bR H',Inv X pins bR H' s'/\D.ct bR H'
 | .ret u=>∃v bR H',Inv X pins bR H' s'/\RelV v u/\D.rt v H'
def PE(X:Cx)(e:Expr)(t:TE):Prop:=∀(pins:PNx)(s:ShX)(σ:St)(H:Hp)(Q:VK),Inv X pins σ H s->t σ H Q->wpAny (model X.prog X.w) X.A (eval e X.env) (EP X pins σ Q) X.xe s
def PT(X:Cx)(e:Expr)(t:TT):Prop:=∀(pins:PNx)(s:ShX)(σ:St)(H:Hp)(Q:Bool->Hp->Prop),Inv X pins σ H s->t σ H Q->wpAny (model X.prog X.w) X.A (isTrue e X.env<|eval e X.env) (TP X pins σ Q) X.xe s
def PW(X:Cx)(e:Expr)(t:TT):Prop:=∀(whole:Sem Value)(pins:PNx)(s:ShX)(σ:St)(H:Hp)(Q:Bool->Hp->Prop),Inv X pins σ H s->t σ H Q->wpAny (model X.prog X.w) X.A (isTrue e X.env whole) (TP X pins σ Q) X.xe s
def PW.pt{X:Cx}{t:TT}(h:PW X e t):PT X e t:=h _
def PA(X:Cx)(es:List Expr)(t:TA):Prop:=∀(pos:Pos)(pins:PNx)(s:ShX)(σ:St)(H:Hp)(Q:List V->Hp->Prop),Inv X pins σ H s->t σ H Q->wpAny (model X.prog X.w) X.A (spliced<|backTo pos<|starEach es X.env) (AP X pins σ Q) X.xe s
def PS(X:Cx)(st:Stmt)(t:TS):Prop:=∀(pins:PNx)(s:ShX)(σ:St)(H:Hp)(D:Ends),Inv X pins σ H s->t D σ H->wpAny (model X.prog X.w) X.A (exec st X.env) (SP X pins D) X.xe s
def eQ(X:Cx)(st:List Stmt)(t:TS):Prop:=∀(pins:PNx)(s:ShX)(σ:St)(H:Hp)(D:Ends),Inv X pins σ H s->t D σ H->wpAny (model X.prog X.w) X.A (execs st X.env) (SP X pins D) X.xe s
def b4{α:Type}{t:Sem α}{Q Q':α->Shared->Prop}{M:Model}{s:ShX}(h:wpAny M A t Q E s)(hQ:∀a s,Q a s->Q' a s):wpAny M A t Q' E s:=gB h hQ λ_ _ x=>x
section
variable{X:Cx}
def bin{a b:Expr}{ta tb:TE}(ha:PE X a ta)(hb:PE X b tb){s:ShX}{σ:St}{H:Hp}{R:V->V->Hp->Prop}(I:Inv X pins σ H s)(h:ta σ H λx H1=>tb σ H1 λy H2=>R x y H2){α:Type}{Q:α->Shared->Prop}{f:Value->Value->Sem α}(hf:∀v u s2 x y H2,Inv X pins σ H2 s2->RelV x v->RelV y u->R x y H2->wpAny (model X.prog X.w) X.A (f v u) Q X.xe s2):wpAny (model X.prog X.w) X.A (eval a X.env) (λv bV=>wpAny (model X.prog X.w) X.A (eval b X.env) (λu dN=>wpAny (model X.prog X.w) X.A (f v u) Q X.xe dN) X.xe bV) X.xe s:=by
 refine b4 (ha pins s σ H _ I h) λv s1 ⟨x,H1,I1,r1,q1⟩=>?_
 refine b4 (hb pins s1 σ H1 _ I1 q1) λu s2 ⟨y,H2,I2,r2,q2⟩=>?_
 exact hf v u s2 x y H2 I2 r1 r2 q2
def MG(i:Nat):TE:=λσ H Q=>∃v,σ[i]?=some (some v)/\Q v H
def tC(v:V):TE:=λ_ H Q=>Q v H
def yA(hN:X.N[i]?=some x)(hv:cY X.env.scope x)(hd:NDx x:=by decide)(b6:NCx x:=by decide):PE X (.Name x pos) (MG i):=by
 intro pins s σ H Q I h;obtain⟨v,e,h⟩:=h;obtain⟨m,hn,hl⟩:=I.loc;obtain⟨u,r,l⟩:=hl i x v hN e hv;have fin:EP X pins σ Q u s:=⟨v,H,I,r,h⟩;rcases l with⟨hk,hm⟩|⟨hk,c,hc,lG⟩
 ·exact wpAny_Name (wpAny_loadName_local I.ok.kind hk hn hm fin) hd
 ·rcases hk with hk|hk
  ·exact wpAny_Name (wpAny_loadName_cell I.ok.kind hk hc lG fin) hd
  ·exact wpAny_Name (wpAny_loadName_free I.ok.kind hk hc lG fin b6) hd
def FU{i j pos}:PE X (.Constant (.int i) j pos) (tC<|.int i):=λ_ _ _ H _ I h=>wpAny_Constant_int ⟨.int i,H,I.tok _,⟨_,rfl⟩,h⟩
def MH{b j pos}:PE X (.Constant (.bool b) j pos) (tC<|.bl b):=λ_ _ _ H _ I h=>Constant_bool ⟨.bl b,H,I,rfl,h⟩
def FV{j pos}:PE X (.Constant .none j pos) (tC .non):=λ_ _ _ H _ I h=>Constant_none ⟨.non,H,I,rfl,h⟩
def Gl(X:Cx)(x:Str):Prop:=X.env.kindOf x=some .globalImplicit
def CH{s:ShX}{σ:St}{H:Hp}(I:Inv X pins σ H s)(hg:Gl X x)(hm:X.mg x=some u)(h:Q u s)(hd:NDx x:=by decide):wpAny (model X.prog X.w) X.A (eval (.Name x pos) X.env) Q E s:=Calls.Name_function_global I.ok.kind hg (Calls.loadGlobal_global (by rw[I.ok.glob];exact I.mod.glob.keeps I.bk) hm h) hd
def UI{s:ShX}{σ:St}{H:Hp}(I:Inv X pins σ H s)(hg:Gl X x)(hm:X.mg x=none)(hv:bootBuiltins x=some u)(h:Q u s)(hn:x≠"__name__":=by decide)(hd:NDx x:=by decide):wpAny (model X.prog X.w) X.A (eval (.Name x pos) X.env) Q E s:=by
 obtain⟨mb,h1,h2⟩:=I.mod.blt;exact Calls.Name_function_global I.ok.kind hg (Calls.loadGlobal_builtin (by rw[I.ok.glob];exact I.mod.glob.keeps I.bk) hm (by rw[I.ok.blt];exact h1.keeps I.bk) ((h2 x hn).trans hv) h) hd
def MI{v:V}(hg:Gl X x)(hm:X.mg x=some u)(r:RelV v u)(hd:NDx x:=by decide):PE X (.Name x pos) (tC v):=λ_ _ _ H _ I h=>CH I hg hm ⟨v,H,I,r,h⟩ hd
def MJ{v:V}(hg:Gl X x)(hm:X.mg x=none)(hv:bootBuiltins x=some u)(r:RelV v u)(hn:x≠"__name__":=by decide)(hd:NDx x:=by decide):PE X (.Name x pos) (tC v):=λ_ _ _ H _ I h=>UI I hg hm hv ⟨v,H,I,r,h⟩ hn hd
variable{a b:Expr}{ta tb:TE}
def PC(X:Cx)(op:CmpOp)(a b:Expr)(t:TE):Prop:=∀(pins:PNx)(s:ShX)(σ:St)(H:Hp)(Q:VK),Inv X pins σ H s->t σ H Q->
  wpAny (model X.prog X.w) X.A (eval a X.env) (λv bV=>wpAny (model X.prog X.w) X.A (eval b X.env) (λu dN=>wpAny (model X.prog X.w) X.A (compareOp op v u) (EP X pins σ Q) X.xe dN) X.xe bV) X.xe s
def MK(b:Expr)(h:op≠ .In)(h2:op≠ .NotIn):behindInMarks op b=false:=by
 have e1:(op==CmpOp.In)=false:=by cases op<;>first |rfl|exact absurd rfl h
 have e2:(op==CmpOp.NotIn)=false:=by cases op<;>first |rfl|exact absurd rfl h2
 cases b<;>simp[behindInMarks,e1,e2]
def tB(t:TE):TT:=λσ H Q=>t σ H λx H1=>∃c,x=.bl c/\Q c H1
def zom{t:TE}(h:PC X op a b t)(h1:behindInMarks op b=false:=by first |exact MK _ (by decide) (by decide)|rfl):PT X (.Compare a [op] [b] pos) (tB t):=by
 intro pins s σ H Q I hw;refine wpAny_isTrue_Compare1 (b4 (h pins s σ H _ I hw) λv s1 h1=>b4 h1 λu s2 h2=>b4 h2 λc s3 ⟨x,H1,I1,r1,q1⟩=>?_) h1;obtain⟨d,rfl,q⟩:=q1;cases r1;exact g6 ⟨H1,I1,q⟩
def FX{t:TE}(h:PE X e t)(he:∀whole,isTrue e X.env whole=(do let v <-whole;standAt e.pos;holding [v] (truthy v)):=by intro _;rfl):PT X e (tB t):=by
 intro pins s σ H Q I hw;refine isTrue_plain (b4 (h pins s σ H _ I hw) λv s1 ⟨x,H1,I1,r1,q1⟩=>?_)<|he _;obtain⟨d,rfl,q⟩:=q1;cases r1;exact g6 ⟨H1,I1,q⟩
variable{tA Ba:TT}{rest:List Expr}
def ML(t u:TT):TT:=λσ H Q=>t σ H λc H1=>if c=true then u σ H1 Q else Q false H1
def MM(t u:TT):TT:=λσ H Q=>t σ H λc H1=>if c=true then Q true H1 else u σ H1 Q
def MN(t:TT):TT:=λσ H Q=>t σ H λc H1=>Q (!c) H1
def iS(ha:PT X a tA):PW X (.BoolOp .And [a] pos) tA:=by
 intro wh pins s σ H Q I h;refine isTrue_and<|b4 (ha pins s σ H Q I h) λc s1 e=>?_;cases c with
 |true=>exact isTrue_and_nil e
 |false=>exact e
def oF(ha:PT X a tA):PW X (.BoolOp .Or [a] pos) tA:=by
 intro wh pins s σ H Q I h;refine isTrue_or<|b4 (ha pins s σ H Q I h) λc s1 e=>?_;cases c with
 |false=>exact isTrue_or_nil e
 |true=>exact e
def oG(ha:PT X a tA)(hb:PW X (.BoolOp .And (b::rest) pos) Ba):PW X (.BoolOp .And (a::b::rest) pos) (ML tA Ba):=by
 intro wh pins s σ H Q I h;refine isTrue_and<|b4 (ha pins s σ H _ I h) λc s1 ⟨H1,I1,q1⟩=>?_;cases c with
 |true=>exact hb wh pins s1 σ H1 Q I1 q1
 |false=>exact⟨H1,I1,q1⟩
def tw(ha:PT X a tA)(hb:PW X (.BoolOp .Or (b::rest) pos) Ba):PW X (.BoolOp .Or (a::b::rest) pos) (MM tA Ba):=by
 intro wh pins s σ H Q I h;refine isTrue_or<|b4 (ha pins s σ H _ I h) λc s1 ⟨H1,I1,q1⟩=>?_;cases c with
 |true=>exact⟨H1,I1,q1⟩
 |false=>exact hb wh pins s1 σ H1 Q I1 q1
def FY(ha:PT X a tA):PT X (.UnaryOp .Not a pos) (MN tA):=by
 intro pins s σ H Q I h;exact isTrue_not<|ha pins s σ H (λc H1=>Q (!c) H1) I h
def MO(ta tb:TE):TE:=λσ H Q=>ta σ H λx H1=>∃c,x=.bl c/\if c=true then tb σ H1 Q else Q (.bl false) H1
def MP(ta:TE):TE:=λσ H Q=>ta σ H λx H1=>∃c,x=.bl c/\Q (.bl<|!c) H1
def MQ{op}{t:TE}(h:PE X a t):PE X (.BoolOp op [a] pos) t:=λpins s σ H Q I hw=>BoolOp_one<|h pins s σ H Q I hw
def MR(ha:PE X a ta)(hb:PE X (.BoolOp .And (b::rest) pos) tb):PE X (.BoolOp .And (a::b::rest) pos) (MO ta tb):=by
 intro pins s σ H Q I h;refine BoolOp_and<|b4 (ha pins s σ H _ I h) λv s1 ⟨x,H1,I1,r1,q1⟩=>?_;obtain⟨c,rfl,q1⟩:=q1;cases r1;refine g6 ?_;cases c with
 |true=>exact hb pins s1 σ H1 Q I1 q1
 |false=>exact⟨.bl false,H1,I1,rfl,q1⟩
def MS(ha:PE X a ta):PE X (.UnaryOp .Not a pos) (MP ta):=by
 intro pins s σ H Q I h;refine UnaryOp_<|b4 (ha pins s σ H _ I h) λv s1 ⟨x,H1,I1,r1,q1⟩=>?_;obtain⟨c,rfl,q1⟩:=q1;cases r1;exact not_of<|g6 ⟨.bl<|!c,H1,I1,rfl,q1⟩
def MT(t:TT)(ta tb:TE):TE:=λσ H Q=>t σ H λc H1=>if c=true then ta σ H1 Q else tb σ H1 Q
def MU(hc:PT X c tA)(ha:PE X a ta)(hb:PE X b tb):PE X (.IfExp c a b pos) (MT tA ta tb):=by
 intro pins s σ H Q I h;refine wpAny_IfExp<|b4 (hc pins s σ H _ I h) λd s1 ⟨H1,I1,q1⟩=>?_;cases d with
 |true=>exact ha pins s1 σ H1 Q I1 q1
 |false=>exact hb pins s1 σ H1 Q I1 q1
end
def cm(K:FRx)(H:Hp)(a:AdX)(xs:List V):Prop:=Rd H a (.lst xs)\/
  ∃(o:Obj)(its:Array Value)(n:Nat),K.lookup a=some o/\o.cls=.type "list"/\o.dict=none/\o.data=.seq its n/\its.size<=sizeLine/\Vals xs its.toList
def cP(K:FRx)(H:Hp)(a:AdX)(xs:List V):Prop:=Rd H a (.tup xs)\/
  ∃(o:Obj)(its:Array Value)(n:Nat),K.lookup a=some o/\o.cls=.type "tuple"/\o.data=.seq its n/\its.size<=sizeLine/\Vals xs its.toList
noncomputable def MV:Value->Option V
 | .none=>some .non
 | .bool b=>some<|.bl b
 | .int i _=>some<|.int i
 | .str x _=>some<|.str x
 | .bytes b _=>some<|.byt b
 | .float b _=>some<|.flt b
 | .ref a=>some<|.ref a
 | .type n=>some<|.ty n
 |_=>none
def RelV.abs{x:V}(r:RelV x u):MV u=some x:=by
 cases x with
 |non=>cases r;rfl
 |bl _=>cases r;rfl
 |int _=>obtain⟨t,rfl⟩:=r;rfl
 |str _=>obtain⟨t,rfl⟩:=r;rfl
 |byt _=>obtain⟨t,rfl⟩:=r;rfl
 |flt _=>obtain⟨t,rfl⟩:=r;rfl
 |ref _=>cases r;rfl
 |ty _=>cases r;rfl
def RelV.inj{x y:V}(r:RelV x u)(q:RelV y u):x=y:=kj<|r.abs.symm.trans q.abs
theorem Vals.inj:∀{xs ys:List V} {us:LVl},Vals xs us->Vals ys us->xs=ys
 |_,_,_,.nil,.nil=>rfl
 |_,_,_,.cons r t,.cons r' t'=>by rw[r.inj r',Vals.inj t t']
section
variable{X:Cx}{σ:St}{H:Hp}{s:ShX}{xs ys:List V}
def cm.of(h:H a=some (.lst xs)):cm K H a xs:=.inl<|.inl h
def cP.of(h:H a=some (.tup xs)):cP K H a xs:=.inl<|.inl h
def Inv.list(I:Inv X pins σ H s)(h:cm X.K H a xs):∃its:List Value,Vals xs its/\PlainL s.heap a its.toArray/\xs.length<=sizeLine:=by
 rcases h with h|⟨o,its,n,hk,hc,hd,hs,hz,r⟩
 ·obtain⟨z,its,n,r,e⟩:=h.ok I.hok;exact⟨its,r,⟨_,n,e,rfl,rfl,rfl⟩,z⟩
 ·refine⟨its.toList,r,⟨o,n,I.kIn a o hk,hc,hd,by simpa using hs⟩,?_⟩;have e:=r.length;simp only [nt] at e;omega
def Inv.tuple(I:Inv X pins σ H s)(h:cP X.K H a xs):∃its:List Value,Vals xs its/\IsTup s.heap a its.toArray/\xs.length<=sizeLine:=by
 rcases h with h|⟨o,its,n,hk,hc,hs,hz,r⟩
 ·obtain⟨z,its,r,p⟩:=h.ok I.hok;exact⟨its,r,p,z⟩
 ·refine⟨its.toList,r,⟨o,I.kIn a o hk,hc,n,by simpa using hs⟩,?_⟩;have e:=r.length;simp only [nt] at e;omega
def Inv.zcp(I:Inv X pins σ H s)(h:cm X.K H a xs)(h':cm X.K H a ys):xs=ys:=by
 obtain⟨its,r,⟨o,n,e,_,_,d⟩,_⟩:=I.list h;obtain⟨its',r',⟨o',n',e',_,_,d'⟩,_⟩:=I.list h';rw[e] at e';cases e';rw[d] at d';injection d' with d1 _
 have:its=its':=by simpa using qM Array.toList d1
 subst this;exact r.inj r'
def Inv.zaw(I:Inv X pins σ H s)(h:cP X.K H a xs)(h':cP X.K H a ys):xs=ys:=by
 obtain⟨its,r,⟨o,e,_,n,d⟩,_⟩:=I.tuple h;obtain⟨its',r',⟨o',e',_,n',d'⟩,_⟩:=I.tuple h';rw[e] at e';cases e';rw[d] at d';injection d' with d1 _
 have:its=its':=by simpa using qM Array.toList d1
 subst this;exact r.inj r'
end
noncomputable abbrev Cx.wish(X:Cx)(E:VSx):Cx:={ X with xe:=E }
abbrev Cx.nox(X:Cx):Cx:=X.wish λ_ _=>False
def Cx.Ok.wish{X:Cx}(ok:X.Ok)(E:VSx):(X.wish E).Ok:=⟨ok.mod,ok.kind,ok.glob,ok.blt,ok.above,ok.inj,ok.has,ok.cab,ok.hd,ok.frames,ok.stk,ok.exf,ok.bs,ok.bsz,ok.noex,ok.exfs,ok.funs,ok.frf⟩
def Cx.Ok.unwish{X:Cx}(ok:(X.wish E).Ok):X.Ok:=⟨ok.mod,ok.kind,ok.glob,ok.blt,ok.above,ok.inj,ok.has,ok.cab,ok.hd,ok.frames,ok.stk,ok.exf,ok.bs,ok.bsz,ok.noex,ok.exfs,ok.funs,ok.frf⟩
section
variable{X:Cx}{σ:St}{H:Hp}{s:ShX}
def Inv.wish(I:Inv X pins σ H s)(E:VSx):Inv (X.wish E) pins σ H s:=⟨I.ok.wish E,I.os,I.bare,I.base,I.loc,I.cell,I.free,I.freeC,I.pin,I.hok,I.len⟩
def Inv.unwish(I:Inv (X.wish E) pins σ H s):Inv X pins σ H s:=⟨I.ok.unwish,I.os,I.bare,I.base,I.loc,I.cell,I.free,I.freeC,I.pin,I.hok,I.len⟩
def SP.unwish{D:Ends}{f:Flow}{s':ShX}(h:SP (X.wish E) pins D f s'):SP X pins D f s':=by
 cases f with
 |next=>obtain⟨bR,H',I,q⟩:=h;exact⟨bR,H',I.unwish,q⟩
 |brk=>obtain⟨bR,H',I,q⟩:=h;exact⟨bR,H',I.unwish,q⟩
 |cont=>obtain⟨bR,H',I,q⟩:=h;exact⟨bR,H',I.unwish,q⟩
 |ret u=>obtain⟨v,bR,H',I,r,q⟩:=h;exact⟨v,bR,H',I.unwish,r,q⟩
def eQ.nox{st:List Stmt}{t:TS}(h:eQ X.nox st t):eQ X st t:=λpins s σ H D I hw=>
 gB (h pins s σ H D (I.wish _) hw) (λ_ _ q=>q.unwish) λ_ _ z=>False.elim z
end
section
variable{X:Cx}{st:Stmt}{t u:TS}{te:TE}
def FZ:TS:=λD σ H=>D.nx σ H
def MW(t u:TS):TS:=λD σ H=>t { D with nx:=u D } σ H
def CJ:eQ X [] FZ:=λ_ _ σ H _ I h=>pd ⟨σ,H,I,h⟩
def wq(h1:PS X st t)(h2:eQ X rest u):eQ X (st::rest) (MW t u):=by
 intro pins s σ H D I h;refine wpAny_execs_cons<|b4 (h1 pins s σ H { D with nx:=u D } I h) λf s1 q=>?_;cases f with
 |next=>
  obtain⟨bR,H',I',q⟩:=q;exact h2 pins s1 bR H' D I' q
 |ret v=>exact q
 |brk=>exact q
 |cont=>exact q
def CK(h1:PS X st t):eQ X [st] t:=by
 intro pins s σ H D I h;refine wpAny_execs_cons<|b4 (h1 pins s σ H D I h) λf s1 q=>?_;cases f with
 |next=>exact pd q
 |ret v=>exact q
 |brk=>exact q
 |cont=>exact q
def MY:PS X (.Pass pos) FZ:=λ_ _ σ H _ I h=>wpAny_Pass ⟨σ,H,I,h⟩
def Inv.quiet{σ:St}{H:Hp}{s:ShX}(I:Inv X pins σ H s):interactive X.env=false:=by simp[interactive,I.ok.kind]
def MZ(te:TE):TS:=λD σ H=>te σ H λ_ H1=>D.nx σ H1
def Jm(he:PE X e te)(hs:swapsWith e none pos.line X.env=pure false:=by rfl):PS X (.Expr e pos) (MZ te):=by
 intro pins s σ H D I h;exact wpAny_Expr_any (b4 (he pins s σ H _ I h) λv s1 ⟨x,H1,I1,r1,q1⟩=>⟨σ,H1,I1,q1⟩) I.quiet hs
def M3(te:TE):TS:=λD σ H=>te σ H D.rt
def UY(he:PE X e te):PS X (.Return (some e) pos) (M3 te):=by
 intro pins s σ H D I h;exact wpAny_Return_some<|b4 (he pins s σ H _ I h) λv s1 ⟨x,H1,I1,r1,q1⟩=>⟨x,σ,H1,I1,r1,q1⟩
def M4(c:TT)(t u:TS):TS:=λD σ H=>c σ H λb H1=>if b=true then t D σ H1 else u D σ H1
def CL{a b:List Stmt}{tc:TT}(hc:PT X c tc)(ha:eQ X a t)(hb:eQ X b u):PS X (.If c a b pos) (M4 tc t u):=by
 intro pins s σ H D I h;refine wpAny_If<|b4 (hc pins s σ H _ I h) λd s1 ⟨H1,I1,q1⟩=>?_;cases d with
 |true=>exact ha pins s1 σ H1 D I1 q1
 |false=>exact hb pins s1 σ H1 D I1 q1
def M5:TS:=λ_ _ _=>False
def M6:PS X st M5:=λ_ _ _ _ _ _ h=>h.elim
end
abbrev TG:=V->St->Hp->(St->Hp->Prop)->Prop
abbrev oH:=List V->St->Hp->(St->Hp->Prop)->Prop
def PG(X:Cx)(target:Expr)(t:TG):Prop:=∀(pins:PNx)(s:ShX)(σ:St)(H:Hp)(v:V)(u:Value)(Q:St->Hp->Prop),Inv X pins σ H s->RelV v u->t v σ H Q->
  wpAny (model X.prog X.w) X.A (assign target X.env u) (λ_ s'=>∃bR H',Inv X pins bR H' s'/\Q bR H') X.xe s
def Bb(X:Cx)(ts:List Expr)(t:oH):Prop:=∀(pins:PNx)(s:ShX)(σ:St)(H:Hp)(vs:List V)(us:LVl)(Q:St->Hp->Prop),Inv X pins σ H s->Vals vs us->t vs σ H Q->
  wpAny (model X.prog X.w) X.A (assignInOrder ((assignEach ts X.env).map (·.2)) us) (λ_ s'=>∃bR H',Inv X pins bR H' s'/\Q bR H') X.xe s
abbrev CM:=V->V->V->Hp->(Hp->Prop)->Prop
def F0(X:Cx)(t:CM):Prop:=∀(pins:PNx)(s:ShX)(σ:St)(H:Hp)(o i v:V)(ov iv u:Value)(Q:Hp->Prop),Inv X pins σ H s->RelV o ov->RelV i iv->RelV v u->t o i v H Q->
  wpAny (model X.prog X.w) X.A (setItem ov iv u) (λ_ s'=>∃H',Inv X pins σ H' s'/\Q H') X.xe s
section
variable{X:Cx}
def F1(i:Nat):TG:=λv σ H Q=>Q (σ.set i<|some v) H
def M7(hN:X.N.Nodup)(hi:X.N[i]?=some x)(hx:Loc X.env.scope x)(hf:fA X x:=by trivial):PG X (.Name x pos) (F1 i):=by
 intro pins s σ H v u Q I r h;exact pY<|FR I hN hi hx r (λs' I'=>⟨_,H,I',h⟩) hf
def M8:oH:=λvs σ H Q=>vs=[]/\Q σ H
def M9(t:TG)(u:oH):oH:=λvs σ H Q=>∃v r,vs=v::r/\t v σ H λbR H'=>u r bR H' Q
def Na:Bb X [] M8:=by
 intro pins s σ H vs us Q I r h;obtain⟨e,h⟩:=h;subst e;cases r;exact assignInOrder_nil ⟨σ,H,I,h⟩
def F2{t:TG}{u:oH}(h1:PG X e t)(h2:Bb X es u)(hs:(assignEach (e::es) X.env).map (·.2)=assign e X.env::(assignEach es X.env).map (·.2):=by rfl):Bb X (e::es) (M9 t u):=by
 intro pins s σ H vs us Q I r h;obtain⟨v,vr,e1,h⟩:=h;subst e1;cases r with
 |cons r rr=>
  rw[hs];refine assignInOrder_cons<|b4 (h1 pins s σ H _ _ _ I r h) λ_ s1 ⟨oI,H1,I1,q1⟩=>?_;exact h2 pins s1 oI H1 _ _ Q I1 rr q1
def Nb(K:FRx)(n:Nat)(t:oH):TG:=λv σ H Q=>∃a xs,v=.ref a/\cP K H a xs/\xs.length=n/\t xs σ H Q
def Nd{t:oH}(hc:X.calm=true)(h:Bb X es t)(hn:(assignEach es X.env).length=n:=by rfl)(hst:(assignEach es X.env).findIdx? (·.1)=none:=by rfl):PG X (.Tuple es k pos) (Nb X.K n t):=by
 intro pins s σ H v u Q I r hw;obtain⟨a,xs,e1,hq,hl,hw⟩:=hw;subst e1;cases r;obtain⟨its,rv,ht,hz⟩:=I.tuple hq;refine assign_Tuple_tuple (I.ok.hd hc) ht (by simp[hn,<-hl,rv.length]) hst λh' hx=>?_
 have I1:Inv X pins σ H { s with heap:=h' }:=I.kept (t':=s.toks) λb o e=>hx b o (gq<|qX e) e
 exact h pins _ σ H xs _ Q I1 (by simpa using rv) hw
def Nf(to ti:TE)(t:CM):TG:=λv σ H Q=>to σ H λo H1=>ti σ H1 λi H2=>t o i v H2 λH3=>Q σ H3
def F3{o i:Expr}{to ti:TE}{t:CM}(ho:PE X o to)(hi:PE X i ti)(hs:F0 X t)(ha:∀v,assign (.Subscript o i pos) X.env v=(do
   let ov <-holding [v] (eval o X.env)
   let iv <-holding [v,ov] (eval i X.env)
   standAt pos
   holding [v,ov,iv] (setItem ov iv v)
   release [v,ov,iv] []):=by intro _;rfl):PG X (.Subscript o i pos) (Nf to ti t):=by
 intro pins s σ H v u Q I r h;rw[ha];refine qt<|pP<|b4 (ho pins s σ H _ I h) λov s1 ⟨x,H1,I1,r1,q1⟩=>?_;refine qt<|pP<|b4 (hi pins s1 σ H1 _ I1 q1) λiv s2 ⟨y,H2,I2,r2,q2⟩=>?_;refine qt<|nZ<|qt<|pP<|b4 (hs pins s2 σ H2 x y v ov iv u _ I2 r1 r2 r q2) λ_ s3 ⟨H3,I3,q3⟩=>?_;exact wpAny_release ⟨σ,H3,I3,q3⟩
def F4(te:TE)(g:TG):TS:=λD σ H=>te σ H λx H1=>g x σ H1 D.nx
def F5{te:TE}{g:TG}(he:PE X e te)(hg:PG X tg g)(hs:swapsWithSole [tg] e pos.line X.env=pure false:=by rfl)(hw:swappedStores [tg] e X.env=pure none:=by rfl)(h1:(assignEach [tg] X.env).map (·.2)=[assign tg X.env]:=by rfl):PS X (.Assign [tg] e pos) (F4 te g):=by
 intro pins s σ H D I h;refine wpAny_Assign_stores (b4 (he pins s σ H _ I h) λv s1 ⟨x,H1,I1,r1,q1⟩=>?_) hs hw;rw[h1];exact b4 (hg pins s1 σ H1 x v _ I1 r1 q1) λ_ s2 q=>q
def uq{te:TE}(hN:X.N.Nodup)(hi:X.N[i]?=some x)(hx:Loc X.env.scope x)(he:PE X e te)(hs:swapsWith e (some<|.Name x pos') pos.line X.env=pure false:=by rfl)(hf:fA X x:=by trivial):PS X (.Assign [.Name x pos'] e pos) (F4 te<|F1 i):=by
 intro pins s σ H D I h;refine wpAny_Assign_Name (b4 (he pins s σ H _ I h) λv s1 ⟨y,H1,I1,r1,q1⟩=>?_) hs;exact FR I1 hN hi hx r1 (λs2 I2=>⟨_,H1,I2,q1⟩) hf
end
section
variable{X:Cx}
def Ng(c:TT)(tb:TS):TS:=λD σ H=>∃W:Nat->St->Hp->Prop,(∃m,W m σ H)/\∀m σ H,W m σ H->
 c σ H λb H1=>if b=true then ∃N:St->Hp->Prop,(∀bR H',N bR H'->∃m',m'<m/\W m' bR H')/\tb { D with nx:=N,ct:=N,bk:=D.nx } σ H1 else D.nx σ H1
def F6{tc:TT}{tb:TS}(hp:PassesOwn (model X.prog X.w) X.A X.env X.xe)(hc:PT X c tc)(hb:eQ X body tb):PS X (.While c body [] pos) (Ng tc tb):=by
 intro pins s σ H D I h;obtain⟨W,⟨m0,w0⟩,turn⟩:=h;refine wpAny_While<|codeAny_whileLoop (λn s'=>∃bR H',Inv X pins bR H' s'/\W n bR H') ?_ m0 ⟨σ,H,I,w0⟩;rintro n s1 ⟨oI,H1,I1,w1⟩;refine mw hp<|b4 (hc pins s1 oI H1 _ I1<|turn n oI H1 w1) λb s2 ⟨H2,I2,q2⟩=>?_;cases b with
 |true=>
  obtain⟨N,hN,q2⟩:=q2;rw[qj rfl];refine mw hp<|b4 (hb pins s2 oI H2 _ I2 q2) λf s3 q3=>?_;cases f with
  |next=>
   obtain⟨eH,H3,I3,n3⟩:=q3;obtain⟨m',hm,w3⟩:=hN eH H3 n3;exact⟨m',hm,eH,H3,I3,w3⟩
  |cont=>
   obtain⟨eH,H3,I3,n3⟩:=q3;obtain⟨m',hm,w3⟩:=hN eH H3 n3;exact⟨m',hm,eH,H3,I3,w3⟩
  |brk=>exact q3
  |ret v=>exact q3
 |false=>
  rw[qm qR];exact pd ⟨oI,H2,I2,q2⟩
end
structure It where
 go:Nat->Hp->Prop
 yld:Nat->Hp->V->Hp->Prop
 stop:Nat->Hp->Prop
def Jf(X:Cx)(pins:PNx)(H:Hp)(b:AdX):Prop:=H b=none/\b≠X.env.locals/\b∉X.fs/\(b∈X.ex\/X.s₀.heap.objs.size<=b)/\(∀x c,X.env.cells.lookup x=some c->c≠b)/\∀p∈X.pn++pins,p.1≠b
def Inv.zbT{X:Cx}{σ:St}{H H':Hp}{s:ShX}{b:AdX}(I:Inv X pins σ H s)(hb:s.heap.objs.size<=b)(hn:H' b=none):Jf X pins H' b:=by
 refine⟨hn,mN<|qK I.lt hb,I.nofs hb,.inr<|qr I.sz hb,λx c e z=>?_,λp hp z=>?_⟩
 ·obtain⟨v,q⟩:=I.cell x c e;exact absurd (qK q.lt<|by rw[z];exact hb)<|gp _
 ·exact absurd (qK (qX (I.pin p hp).1)<|by rw[z];exact hb)<|gp _
structure Turn(P:Program)(w:World)(K:FRx)(tg:Expr)(J:It)(fp:LAd)(it:AdX)(tn:Nat->Heap->Prop):Prop where
 mem:it∈fp
 obj:∀i h,tn i h->∀b∈fp,∃o,h.get? b=some o/\∀v,o.data≠ .cell v
 keep:∀i h h',tn i h->(∀b∈fp,∀o,h.get? b=some o->h'.get? b=some o)->tn i h'
 item:∀(X:Cx),X.prog=P->X.w=w->X.K=K->X.calm=true->∀(i:Nat)(pins:PNx)(s:ShX)(σ:St)(H:Hp)(E:VSx),Inv X pins σ H s->(∀b∈fp,Jf X pins H b)->tn i s.heap->J.go i H->
  wpAny (model P w) X.A (pyNext<|.ref it) (λr s1=>∃u,r=some u/\
   wpAny (model P w) X.A (letOwnedTupleGo tg (.ref it) u) (λ_ s2=>∃x H',Inv X pins σ H' s2/\RelV x u/\J.yld i H x H'/\tn (i+1) s2.heap/\∀b∈fp,H' b=none) E s1) E s
 done:∀(X:Cx),X.prog=P->X.w=w->X.K=K->X.calm=true->∀(i:Nat)(pins:PNx)(s:ShX)(σ:St)(H:Hp)(E:VSx),Inv X pins σ H s->(∀b∈fp,Jf X pins H b)->tn i s.heap->J.stop i H->
  wpAny (model P w) X.A (pyNext<|.ref it) (λr s1=>r=none/\Inv X pins σ H s1) E s
 self:∀(A:Around)(i:Nat)(s:ShX)(Q:VSx)(E:VSx),tn i s.heap->Q (.ref it) s->wpAny (model P w) A (pyIter<|.ref it) Q E s
abbrev TI:=St->Hp->(It->Hp->Prop)->Prop
def F7(X:Cx)(pins:PNx)(σ:St)(tg:Expr)(R:It->Hp->Prop)(Bc:Value)(s2:ShX):Prop:=∃(it:AdX)(fp:LAd)(tn:Nat->Heap->Prop)(J:It)(H':Hp),Bc=.ref it/\Inv X pins σ H' s2/\Turn X.prog X.w X.K tg J fp it tn/\tn 0 s2.heap/\(∀b∈fp,Jf X pins H' b)/\R J H'
def PI(X:Cx)(tg iter:Expr)(wi:TI):Prop:=∀(pins:PNx)(s:ShX)(σ:St)(H:Hp)(R:It->Hp->Prop),Inv X pins σ H s->wi σ H R->
  wpAny (model X.prog X.w) X.A (eval iter X.env) (λv s1=>wpAny (model X.prog X.w) X.A (pyIter v) (F7 X pins σ tg R) X.xe s1) X.xe s
def CN{M:Model}{s:ShX}{o:Obj}{n:String}{Q:Unit->Shared->Prop}(ho:s.heap.get? it=some o)(hc:o.cls=.type n)(hd:o.data=.fields vs)(hn:["enumerate","zip","dict_itemiterator","dict_reverseitemiterator","odict_iterator","itertools.zip_longest","itertools.pairwise"].contains n=false)(hQ:Q () s):wpAny M A (letOwnedTupleGo tg (.ref it) u) Q E s:=by
 unfold letOwnedTupleGo;cases tg<;>first
  |exact qS hQ
  |(cases u<;>first
    |exact qS hQ
    |(refine qt (wpAny_load ho ?_)
      rw[hc,hd];show wpAny M A (if (["enumerate","zip","dict_itemiterator","dict_reverseitemiterator","odict_iterator","itertools.zip_longest","itertools.pairwise"].contains n&&vs[0]?==some (rawInt _))=true then _ else _) Q E s
      rw[qm<|by intro h;rw[hn,bf] at h;cases h];exact qS hQ))
def F8(K:FRx)(a:AdX):It:=⟨λi H=>∃xs x,cm K H a xs/\xs[i]?=some x,λi H x H'=>H'=H/\∀xs,cm K H a xs->xs[i]?=some x,λi H=>∃xs,cm K H a xs/\xs.length<=i⟩
noncomputable def F9(K:FRx)(a:AdX):It:=⟨λi H=>∃xs x,cP K H a xs/\xs[i]?=some x,λi H x H'=>H'=H/\∀xs,cP K H a xs->xs[i]?=some x,λi H=>∃xs,cP K H a xs/\xs.length<=i⟩
def tx(lo:Int)(n:Nat):It:=⟨λi _=>i<n,λi H x H'=>H'=H/\x=.int (lo+i),λi _=>n<=i⟩
def Nh(a it:AdX):Turn P w K tg (F8 K a) [it] it (λi h=>h.IsListIter it a i) where
 mem:=by simp
 obj:=λi h st b hb=>by
  have e:b=it:=by simpa using hb
  subst e;obtain⟨o,e,c,d⟩:=st;exact⟨o,e,λv z=>by rw[d] at z;cases z⟩
 keep:=λi h h' st k=>st.at λo e=>k it (by simp) o e
 item:=by
  intro X hP hw hK hc i pins s σ H E I hf st hg;subst hP hw hK;obtain⟨xs,x,hq,hx⟩:=hg;obtain⟨its,rv,p,hz⟩:=I.list hq;obtain⟨u,hu,ru⟩:=rv.get hx;obtain⟨f0,f1,f2,f3,f4,f5⟩:=hf it (by simp);refine wpAny_pyNext_list_item st p.isList (x:=u) (by simpa using hu) λh' st' sb=>?_
  have I1:Inv X pins σ H { s with heap:=h' }:=I.turned (t':=s.toks) (λb o hb e=>(sb.2 b hb).trans e) f0 f1 f3 f4 f5;obtain⟨o,e,c,d⟩:=id st';exact⟨u,rfl,CN (s:={ s with heap:=h' }) e c d (by decide) ⟨x,H,I1,ru,⟨rfl,λys hy=>by rw[I.zcp hy hq];exact hx⟩,st',λb hb=>(hf b hb).1⟩⟩
 done:=by
  intro X hP hw hK hc i pins s σ H E I hf st hg;subst hP hw hK;obtain⟨xs,hq,hx⟩:=hg;obtain⟨its,rv,p,hz⟩:=I.list hq;obtain⟨f0,f1,f2,f3,f4,f5⟩:=hf it (by simp);have hl:=rv.length;exact wpAny_pyNext_list_end (I.ok.hd hc) st p.isList (by simp;omega) λh' eb=>⟨rfl,I.turned (t':=s.toks) (λb o hb e=>eb b o hb e) f0 f1 f3 f4 f5⟩
 self:=λ_ _ _ _ _ st h=>wpAny_pyIter_listiter st h
def Ni(a it:AdX):Turn P w K tg (F9 K a) [it] it (λi h=>h.IsTupleIter it a i) where
 mem:=by simp
 obj:=λi h st b hb=>by
  have e:b=it:=by simpa using hb
  subst e;obtain⟨o,e,c,d⟩:=st;exact⟨o,e,λv z=>by rw[d] at z;cases z⟩
 keep:=λi h h' st k=>st.at λo e=>k it (by simp) o e
 item:=by
  intro X hP hw hK hc i pins s σ H E I hf st hg;subst hP hw hK;obtain⟨xs,x,hq,hx⟩:=hg;obtain⟨its,rv,p,hz⟩:=I.tuple hq;obtain⟨u,hu,ru⟩:=rv.get hx;obtain⟨f0,f1,f2,f3,f4,f5⟩:=hf it (by simp);refine wpAny_pyNext_tuple_item st (show s.heap.IsTuple a its.toArray from p) (x:=u) (by simpa using hu) λh' st' sb=>?_
  have I1:Inv X pins σ H { s with heap:=h' }:=I.turned (t':=s.toks) (λb o hb e=>(sb.2 b hb).trans e) f0 f1 f3 f4 f5;obtain⟨o,e,c,d⟩:=id st';exact⟨u,rfl,CN (s:={ s with heap:=h' }) e c d (by decide) ⟨x,H,I1,ru,⟨rfl,λys hy=>by rw[I.zaw hy hq];exact hx⟩,st',λb hb=>(hf b hb).1⟩⟩
 done:=by
  intro X hP hw hK hc i pins s σ H E I hf st hg;subst hP hw hK;obtain⟨xs,hq,hx⟩:=hg;obtain⟨its,rv,p,hz⟩:=I.tuple hq;obtain⟨f0,f1,f2,f3,f4,f5⟩:=hf it (by simp);have hl:=rv.length;exact wpAny_pyNext_tuple_end (I.ok.hd hc) st (show s.heap.IsTuple a its.toArray from p) (by simp;omega) λh' eb=>⟨rfl,I.turned (t':=s.toks) (λb o hb e=>eb b o hb e) f0 f1 f3 f4 f5⟩
 self:=λ_ _ _ _ _ st h=>wpAny_pyIter_tupleiter st h
def Nj(it:AdX)(lo:Int)(n:Nat):Turn P w K tg (tx lo n) [it] it (λi h=>IsRangeIter h it (lo+(i:Nat)*1) ((n:Int) - (i:Nat)) 1) where
 mem:=by simp
 obj:=λi h st b hb=>by
  have e:b=it:=by simpa using hb
  subst e;exact⟨_,st,λv z=>by
   have z':Data.fields _=Data.cell v:=z;cases z'⟩
 keep:=λi h h' st k=>k it (by simp) _ st
 item:=by
  intro X hP hw hK hc i pins s σ H E I hf st hg;subst hP hw hK;obtain⟨f0,f1,f2,f3,f4,f5⟩:=hf it (by simp);have W:=Walks.range (prog:=X.prog) (w:=X.w) (I.ok.hd hc) it lo 1 n;refine W.item i s _ _ hg st λv h' tk hv st' kk=>?_
  obtain⟨t,rfl⟩:=hv;have I1:Inv X pins σ H { s with heap:=h',toks:=tk }:=I.turned (λb o hb e=>kk b o (by simpa using hb) e) f0 f1 f3 f4 f5;refine⟨_,rfl,CN (s:={ s with heap:=h',toks:=tk }) (n:="range_iterator") st' rfl rfl (by decide) ⟨.int<|lo+i,H,I1,⟨t,?_⟩,⟨rfl,rfl⟩,st',λb hb=>(hf b hb).1⟩⟩;rw[Int.mul_one]
 done:=by
  intro X hP hw hK hc i pins s σ H E I hf st hg;subst hP hw hK;obtain⟨f0,f1,f2,f3,f4,f5⟩:=hf it (by simp);exact wpAny_pyNext_range_end (I.ok.hd hc) st (by have:n<=i:=hg;omega) λh' eb=>⟨rfl,I.turned (t':=s.toks) (λb o hb e=>eb b o hb e) f0 f1 f3 f4 f5⟩
 self:=λ_ _ _ _ _ st h=>wpAny_pyIter_rangeiter st h
section
variable{X:Cx}
def Ga{σ:St}{H:Hp}{s:ShX}{R:It->Hp->Prop}{hi:Int}{t u v:Tok}(I:Inv X pins σ H s)(h1:-(2 ^ 62)<=lo)(h2:lo<2 ^ 62)(h3:-(2 ^ 62)<=hi)(h4:hi<2 ^ 62)(q:R (tx lo (hi - lo).toNat) H):wpAny (model X.prog X.w) X.A (pyIter<|.ref s.heap.objs.size) (F7 X pins σ tg R) E { s with heap:=s.heap.push { cls:=.type "range",data:=.fields #[.int lo t,.int hi u,.int 1 v] },toks:=tk }:=by
 refine wpAny_pyIter_range (IsRange.new ..) (small_one h1 h2 h3 h4) ?_;have I1:Inv X pins σ H { s with heap:=s.heap.push { cls:=.type "range",data:=.fields #[.int lo t,.int hi u,.int 1 v] },toks:=tk }:=I.kept λb o e=>qo _ e
 refine⟨(s.heap.push { cls:=.type "range",data:=.fields #[.int lo t,.int hi u,.int 1 v] }).objs.size,[(s.heap.push { cls:=.type "range",data:=.fields #[.int lo t,.int hi u,.int 1 v] }).objs.size],_,_,H,rfl,
  I1.kept (t':=tk) λb o e=>qo _ e,Nj _ lo (hi - lo).toNat,?_,λb hb=>?_,q⟩
 ·have e1:lo+((0:Nat):Int)*1=lo:=by simp
  have e2:(((hi - lo).toNat:Nat):Int) - ((0:Nat):Int)=Builtin.Range.rangeSize lo hi 1:=by rw[rangeSize_one];split<;>omega
  show IsRangeIter _ _ (lo+((0:Nat):Int)*1) ((((hi - lo).toNat:Nat):Int) - ((0:Nat):Int)) 1
  rw[e1,e2];exact qO _ rfl
 ·have e:b=(s.heap.push { cls:=.type "range",data:=.fields #[.int lo t,.int hi u,.int 1 v] }).objs.size:=by simpa using hb
  subst e;exact I1.zbT (qe _)<|I1.hok.fresh<|qe _
def Nk(ta:TA):TI:=λσ H R=>ta σ H λvs H1=>∃j:Int,vs=[.int j]/\-(2 ^ 62)<=j/\j<2 ^ 62/\R (tx 0 j.toNat) H1
def Nm(ta:TA):TI:=λσ H R=>ta σ H λvs H1=>∃i j:Int,vs=[.int i,.int j]/\(-(2 ^ 62)<=i/\i<2 ^ 62/\-(2 ^ 62)<=j/\j<2 ^ 62)/\R (tx i (j - i).toNat) H1
def Gb{a:Expr}{ta:TA}(hg:Gl X "range")(hm:X.mg "range"=none)(ha:PA X [a] ta)(hs:starEach [a] X.env=[(false,eval a X.env)]:=by rfl):PI X tg (.Call (.Name "range" p) [a] [] pos) (Nk ta):=by
 intro pins s σ H R I h;refine Call_<|UI I hg hm boot_range<|gO (b4 (ha pos pins s σ H _ I h) λus s1 ⟨vs,H1,I1,r1,q1⟩=>?_) hs rfl;obtain⟨j,e,q1,q2,q⟩:=q1;subst e;cases r1 with
 |cons r rr=>
  cases rr;obtain⟨t,rfl⟩:=r;exact call_range_1 (Ga I1 (by omega) (by omega) q1 q2<|by simpa using q)
def Nn{a b:Expr}{ta:TA}(hg:Gl X "range")(hm:X.mg "range"=none)(ha:PA X [a,b] ta)(hs:starEach [a,b] X.env=[(false,eval a X.env),(false,eval b X.env)]:=by rfl)(dS:starEach [b] X.env=[(false,eval b X.env)]:=by rfl):PI X tg (.Call (.Name "range" p) [a,b] [] pos) (Nm ta):=by
 intro pins s σ H R I h;refine Call_ (UI I hg hm boot_range<|gO (b4 (ha pos pins s σ H _ I h) λus s1 ⟨vs,H1,I1,r1,q1⟩=>?_) (by rw[hs,dS])<|by rw[dS];rfl);obtain⟨i,j,e,⟨q1,q2,q3,q4⟩,q⟩:=q1;subst e;cases r1 with
 |cons r rr=>
  cases rr with
  |cons r' rr=>
   cases rr;obtain⟨t,rfl⟩:=r;obtain⟨t',rfl⟩:=r';exact call_range_2<|Ga I1 q1 q2 q3 q4 q
def Np(wi:TI)(g:TG)(tb:TS):TS:=λD σ H=>wi σ H λJ H1=>∃W:Nat->Nat->St->Hp->Prop,(∃m,W 0 m σ H1)/\∀i m σ H,W i m σ H->
 (J.stop i H/\D.nx σ H)\/(J.go i H/\∃N:St->Hp->Prop,(∀bR H',N bR H'->∃m',m'<m/\W (i+1) m' bR H')/\∀x H',J.yld i H x H'->g x σ H' λcq H2=>tb { D with nx:=N,ct:=N,bk:=D.nx } cq H2)
noncomputable def Be(fp:LAd)(h:Heap):List (Addr×Obj):=fp.filterMap λb=>(h.get? b).map λo=>(b,o)
def jm{b:AdX}{o:Obj}(hb:b∈fp)(e:h.get? b=some o):(b,o)∈Be fp h:=List.mem_filterMap.mpr ⟨b,hb,by rw[e];rfl⟩
def Nq{p:Addr×Obj}(hp:p∈Be fp h):p.1∈fp/\h.get? p.1=some p.2:=by
 obtain⟨b,hb,e⟩:=List.mem_filterMap.mp hp;cases q:h.get? b with
 |none=>rw[q] at e;cases e
 |some o=>
  rw[q] at e;have e':(b,o)=p:=kj e;subst e';exact⟨hb,q⟩
def Inv.pinned{σ:St}{H:Hp}{s:ShX}(I:Inv X pins σ H s)(hf:∀b∈fp,Jf X pins H b)(ho:∀b∈fp,∃o,s.heap.get? b=some o/\∀v,o.data≠ .cell v):Inv X (pins++Be fp s.heap) σ H s:=I.zfx λp hp=>(qu.mp hp).elim (λz=>I.pin p<|ka _ z) λz=>by
  obtain⟨hb,e⟩:=Nq z;obtain⟨f0,f1,f2,_⟩:=hf p.1 hb;obtain⟨o,e',d⟩:=ho p.1 hb;rw[e] at e';cases e';exact⟨e,f0,f1,f2,d⟩
def Inv.uK{pl:PNx}{σ:St}{H:Hp}{s:ShX}(I:Inv X (pins++pl) σ H s):Inv X pins σ H s:=I.zfx λp hp=>I.pin p<|ka _<|List.mem_append_left _ hp
def CO{wi:TI}{g:TG}{tb:TS}(hp:PassesOwn (model X.prog X.w) X.A X.env X.xe)(hc:X.calm=true)(hi:PI X tg iter wi)(hg:PG X tg g)(hb:eQ X body tb)(hs:ee X iter:=by exact λ_=>rfl):PS X (.For tg iter body [] pos) (Np wi g tb):=by
 intro pins s σ H D I h;refine wpAny_For (b4 (hi pins s σ H _ I h) λv s1 h1=>b4 h1 λBc s2 h2=>?_) hs;obtain⟨it,fp,tn,J,H2,e,I2,T,fB,f2,W,⟨m0,w0⟩,turn⟩:=h2;subst e;have dU:∀{H':Hp},(∀b∈fp,H' b=none)->∀b∈fp,Jf X pins H' b:=λhn b hb=>⟨hn b hb,(f2 b hb).2⟩
 refine codeAny_forLoop_any (λn s'=>∃i bR H',Inv X pins bR H' s'/\tn i s'.heap/\(∀b∈fp,H' b=none)/\W i n bR H') ?_ m0 ⟨0,σ,H2,I2,fB,λb hb=>(f2 b hb).1,w0⟩;rintro n s3 ⟨i,eH,H3,I3,Gd,Ge,w3⟩;rcases turn i n eH H3 w3 with⟨stop,qn⟩|⟨go,N,hN,step⟩
 ·refine mw hp<|b4 (T.done X rfl rfl rfl hc i pins s3 eH H3 X.xe I3 (dU Ge) Gd stop) λr s4 ⟨hr,I4⟩=>?_;subst hr;exact pd ⟨eH,H3,I4,qn⟩
 ·refine mw hp<|b4 (T.item X rfl rfl rfl hc i pins s3 eH H3 X.xe I3 (dU Ge) Gd go) λr s4 ⟨u,hr,h4⟩=>?_;subst hr;refine mw hp<|b4 h4 λ_ s5 ⟨x,H5,I5,r5,y5,iT,oJ⟩=>?_;have Nt:=I5.pinned (dU oJ)<|T.obj _ _ iT;refine mw hp<|b4 (hg _ s5 eH H5 x u _ Nt r5<|step x H5 y5) λ_ s6 ⟨Nu,H6,I6,q6⟩=>?_;refine mw hp<|b4 (hb _ s6 Nu H6 _ I6 q6) λf s7 q7=>?_;have again:∀{f6:St} {H7:Hp},Inv X (pins++Be fp s5.heap) f6 H7 s7->N f6 H7->∃m,m<n/\∃i bR H',Inv X pins bR H' s7/\tn i s7.heap/\(∀b∈fp,H' b=none)/\W i m bR H':=λ{f6 H7} I7 n7=>by
   obtain⟨m',hm,w7⟩:=hN f6 H7 n7;refine⟨m',hm,i+1,f6,H7,I7.uK,T.keep _ _ _ iT λb hb o e=>(I7.pin (b,o)<|ka _<|ka _<|jm hb e).1,λb hb=>?_,w7⟩;obtain⟨o,e,d⟩:=T.obj _ _ iT b hb;exact(I7.pin (b,o)<|ka _<|ka _<|jm hb e).2.1
  cases f with
  |next=>obtain⟨f6,H7,I7,n7⟩:=q7;exact again I7 n7
  |cont=>obtain⟨f6,H7,I7,n7⟩:=q7;exact again I7 n7
  |brk=>obtain⟨f6,H7,I7,q7⟩:=q7;exact⟨f6,H7,I7.uK,q7⟩
  |ret v=>obtain⟨x7,f6,H7,I7,r7,q7⟩:=q7;exact⟨x7,f6,H7,I7.uK,r7,q7⟩
end
abbrev R2:=V->V->Hp->VK->Prop
def c4(X:Cx)(f:Value->Value->Sem Value)(r:R2):Prop:=∀(pins:PNx)(s:ShX)(σ:St)(H:Hp)(x y:V)(v u:Value)(Q:VK),Inv X pins σ H s->RelV x v->RelV y u->r x y H Q->
  wpAny (model X.prog X.w) X.A (f v u) (EP X pins σ Q) X.xe s
def CP(X:Cx)(f:Value->Sem Value)(r:V->Hp->VK->Prop):Prop:=∀(pins:PNx)(s:ShX)(σ:St)(H:Hp)(x:V)(v:Value)(Q:VK),Inv X pins σ H s->RelV x v->r x H Q->
  wpAny (model X.prog X.w) X.A (f v) (EP X pins σ Q) X.xe s
def vS(X:Cx)(f:Value)(r:List V->Hp->VK->Prop):Prop:=∀(pins:PNx)(s:ShX)(σ:St)(H:Hp)(xs:List V)(us:LVl)(Q:VK),Inv X pins σ H s->Vals xs us->r xs H Q->
  wpAny (model X.prog X.w) X.A (call f us) (EP X pins σ Q) X.xe s
def Bf(r:R2)(ta tb:TE):TE:=λσ H Q=>ta σ H λx H1=>tb σ H1 λy H2=>r x y H2 Q
def Nv(r:V->Hp->VK->Prop)(ta:TE):TE:=λσ H Q=>ta σ H λx H1=>r x H1 Q
def rI(C:Int->Int->Prop)(g:Int->Int->V):R2:=λx y H Q=>∃i j,x=.int i/\y=.int j/\C i j/\Q (g i j) H
def iC(g:Int->Int->V):R2:=λx y H Q=>∃i j,x=.int i/\y=.int j/\Q (g i j) H
def rU(g:Int->V):V->Hp->VK->Prop:=λx H Q=>∃i,x=.int i/\Q (g i) H
section
variable{X:Cx}{a b:Expr}{ta tb tc:TE}
def CQ(ha:PE X a ta)(hb:PE X b tb){s:ShX}{σ:St}{H:Hp}{R:V->V->Hp->Prop}(I:Inv X pins σ H s)(h:ta σ H λx H1=>tb σ H1 λy H2=>R x y H2){f:Value->Value->Sem Value}(hf:∀v u s2 x y H2,Inv X pins σ H2 s2->RelV x v->RelV y u->R x y H2->wpAny (model X.prog X.w) X.A (f v u) Q X.xe s2):wpAny (model X.prog X.w) X.A (eval a X.env) (λv bV=>wpAny (model X.prog X.w) X.A (eval b X.env) (λu dN=>wpAny (model X.prog X.w) X.A (f v u) Q X.xe dN) X.xe bV) X.xe s:=by
 refine b4 (ha pins s σ H _ I h) λv s1 ⟨x,H1,I1,r1,q1⟩=>?_
 refine b4 (hb pins s1 σ H1 _ I1 q1) λu s2 ⟨y,H2,I2,r2,q2⟩=>?_
 exact hf v u s2 x y H2 I2 r1 r2 q2
def rM{op:Operator}{r:R2}(ho:c4 X (binaryOp op) r)(ha:PE X a ta)(hb:PE X b tb):PE X (.BinOp a op b pos) (Bf r ta tb):=by
 intro pins s σ H Q I h;exact wpAny_BinOp<|CQ ha hb I h λv u s2 x y H2 I2 rx ry q=>ho pins s2 σ H2 x y v u Q I2 rx ry q
def Gf{op:UnaryOp}{r:V->Hp->VK->Prop}(ho:CP X (unaryOp op) r)(ha:PE X a ta):PE X (.UnaryOp op a pos) (Nv r ta):=by
 intro pins s σ H Q I h;exact UnaryOp_<|b4 (ha pins s σ H _ I h) λv s1 ⟨x,H1,I1,r1,q1⟩=>ho pins s1 σ H1 x v Q I1 r1 q1
def CT{f:Value->Value->Sem Value}{C:Int->Int->Prop}{g:Int->Int->Int}(rule:∀(i j:Int)(t u:Tok)(s:ShX)(Q:VSx)(E:VSx),C i j->Q (.int (g i j) s.toks) { s with toks:=s.toks+1 }->wpAny (model X.prog X.w) X.A (f (.int i t)<|.int j u) Q E s):c4 X f (rI C λi j=>.int<|g i j):=by
 intro pins s σ H x y v u Q I rx ry h;obtain⟨i,j,rfl,rfl,hc,q⟩:=h;obtain⟨t,rfl⟩:=rx;obtain⟨t',rfl⟩:=ry;exact rule i j t t' s _ _ hc ⟨.int<|g i j,H,I.tok _,⟨_,rfl⟩,q⟩
def Gg{f:Value->Value->Sem Value}{g:Int->Int->Int}(rule:∀(i j:Int)(t u:Tok)(s:ShX)(Q:VSx)(E:VSx),Q (.int (g i j) s.toks) { s with toks:=s.toks+1 }->wpAny (model X.prog X.w) X.A (f (.int i t)<|.int j u) Q E s):c4 X f (iC λi j=>.int<|g i j):=by
 intro pins s σ H x y v u Q I rx ry h;obtain⟨i,j,rfl,rfl,q⟩:=h;obtain⟨t,rfl⟩:=rx;obtain⟨t',rfl⟩:=ry;exact rule i j t t' s _ _ ⟨.int<|g i j,H,I.tok _,⟨_,rfl⟩,q⟩
def CU{f:Value->Value->Sem Value}{g:Int->Int->Bool}(rule:∀(i j:Int)(t u:Tok)(s:ShX)(Q:VSx)(E:VSx),Q (.bool<|g i j) s->wpAny (model X.prog X.w) X.A (f (.int i t)<|.int j u) Q E s):c4 X f (iC λi j=>.bl<|g i j):=by
 intro pins s σ H x y v u Q I rx ry h;obtain⟨i,j,rfl,rfl,q⟩:=h;obtain⟨t,rfl⟩:=rx;obtain⟨t',rfl⟩:=ry;exact rule i j t t' s _ _ ⟨.bl<|g i j,H,I,rfl,q⟩
def jI:c4 X (binaryOp .Add) (iC λi j=>.int<|i+j):=Gg λ_ _ _ _ _ _ _ q=>add_int q
def UB:c4 X (binaryOp .Sub) (iC λi j=>.int<|i - j):=Gg λ_ _ _ _ _ _ _ q=>sub_int q
def xJ:c4 X (binaryOp .Mod) (rI (λ_ j=>j≠0) λi j=>.int<|i.fmod j):=CT λ_ _ _ _ _ _ _ hc q=>mod_int' hc q
def Nw{f:Value->Sem Value}{g:Int->Int}(rule:∀(i:Int)(t:Tok)(s:ShX)(Q:VSx)(E:VSx),Q (.int (g i) s.toks) { s with toks:=s.toks+1 }->wpAny (model X.prog X.w) X.A (f<|.int i t) Q E s):CP X f (rU λi=>.int<|g i):=by
 intro pins s σ H x v Q I rx h;obtain⟨i,rfl,q⟩:=h;obtain⟨t,rfl⟩:=rx;exact rule i t s _ _ ⟨.int<|g i,H,I.tok _,⟨_,rfl⟩,q⟩
def Gh:CP X (unaryOp .USub) (rU λi=>.int<|-i):=Nw λ_ _ _ _ _ q=>neg_int q
end
section
variable{X:Cx}{a b:Expr}{ta tb tc:TE}
def Nx{σ:St}{H:Hp}{s:ShX}{Q:VK}{k k':Bool}(I:Inv X pins σ H s)(q:Q (.bl k) H)(e:k=k'):EP X pins σ Q (.bool k') s:=by
 subst e;exact⟨.bl k,H,I,rfl,q⟩
def rN:c4 X (compareOp .Lt) (iC λi j=>.bl<|decide (i<j)):=CU λ_ _ _ _ _ _ _ q=>lt_int q
def Ny:c4 X (compareOp .LtE) (iC λi j=>.bl<|decide (i<=j)):=CU λ_ _ _ _ _ _ _ q=>le_int q
def Zu:c4 X (compareOp .Gt) (iC λi j=>.bl<|decide (j<i)):=CU λ_ _ _ _ _ _ _ q=>gt_int q
def CV:c4 X (compareOp .IsNot) (λx y H Q=>y=.non/\Q (.bl<|!decide (x=.non)) H):=by
 intro pins s σ H x y v u Q I rx ry h;obtain⟨rfl,q⟩:=h;cases ry;refine isnot_none_gen<|Nx I q ?_;cases x<;>first
  |(cases rx;rfl)
  |(obtain⟨t,rfl⟩:=rx;rfl)
def bQ(b:Expr)(h:op≠ .In:=by decide)(h2:op≠ .NotIn:=by decide):behindInMarks op b=false:=by
 have e1:(op==CmpOp.In)=false:=by cases op<;>first |rfl|exact absurd rfl h
 have e2:(op==CmpOp.NotIn)=false:=by cases op<;>first |rfl|exact absurd rfl h2
 cases b<;>simp[behindInMarks,e1,e2]
def Gi{r:R2}(ho:c4 X (compareOp op) r)(ha:PE X a ta)(hb:PE X b tb)(hm:behindInMarks op b=false):PE X (.Compare a [op] [b] pos) (Bf r ta tb):=by
 intro pins s σ H Q I h;exact wpAny_Compare1 (CQ ha hb I h λv u s2 x y H2 I2 rx ry q=>ho pins s2 σ H2 x y v u Q I2 rx ry q) hm
def Gm(t:TE):TT:=λσ H Q=>t σ H λx H'=>∃k,x=.bl k/\Q k H'
def CW{r:R2}(ho:c4 X (compareOp op) r)(ha:PE X a ta)(hb:PE X b tb)(hm:behindInMarks op b=false):PT X (.Compare a [op] [b] pos) (Gm<|Bf r ta tb):=by
 intro pins s σ H Q I h;refine wpAny_isTrue_Compare1 (b4 (ha pins s σ H _ I h) λv s1 ⟨x,H1,I1,r1,q1⟩=>b4 (hb pins s1 σ H1 _ I1 q1) λu s2 ⟨y,H2,I2,r2,q2⟩=>
  b4 (ho pins s2 σ H2 x y v u _ I2 r1 r2 q2) λc s3 ⟨z,H3,I3,r3,k,e,q3⟩=>?_) hm
 subst e;cases r3;exact g6 ⟨H3,I3,q3⟩
def Nz(r r':R2)(ta tb tc:TE):TE:=λσ H Q=>ta σ H λx H1=>tb σ H1 λy H2=>r x y H2 λz H3=>∃k,z=.bl k/\
 (if k=true then tc σ H3 λw' H4=>r' y w' H4 Q else Q (.bl false) H3)
def NA{oK:CmpOp}{r r':R2}(ho:c4 X (compareOp op) r)(fZ:c4 X (compareOp oK) r')(ha:PE X a ta)(hb:PE X b tb)(hc:PE X c tc)(hm:lastMarks [op,oK] [b,c]=false:=by with_unfolding_all rfl):PT X (.Compare a [op,oK] [b,c] pos) (Gm<|Nz r r' ta tb tc):=by
 intro pins s σ H Q I h;refine isTrue_chain (b4 (ha pins s σ H _ I h) λv s1 ⟨x,H1,I1,r1,q1⟩=>test_link<|b4 (hb pins s1 σ H1 _ I1 q1) λu s2 ⟨y,H2,I2,r2,q2⟩=>
  b4 (ho pins s2 σ H2 x y v u _ I2 r1 r2 q2) λd s3 ⟨z,H3,I3,r3,k,e,q3⟩=>?_) hm
 subst e;cases r3;refine g6 ?_;cases k with
 |false=>
  obtain⟨k',e',q'⟩:=q3;cases e';exact ite_ff ⟨H3,I3,q'⟩
 |true=>
  refine ite_tt<|test_last<|b4 (hc pins s3 σ H3 _ I3 q3) λw' s4 ⟨z',H4,I4,r4,q4⟩=>b4 (fZ pins s4 σ H4 y z' u w' _ I4 r2 r4 q4) λd' s5 ⟨z2,H5,I5,r5,k2,e2,q5⟩=>?_;subst e2;cases r5;exact g6 ⟨H5,I5,q5⟩
def V0:(sizeLine:Nat)<2 ^ 63:=by rw[sizeLine_eq];decide
def vals1{x:V}(r:Vals [x] us):∃u,us=[u]/\RelV x u:=by
 cases r with
 |cons r1 r2=>cases r2;exact⟨_,rfl,r1⟩
def vals2{x y:V}(r:Vals [x,y] us):∃u w',us=[u,w']/\RelV x u/\RelV y w':=by
 cases r with
 |cons r1 r2=>
  cases r2 with
  |cons r3 r4=>cases r4;exact⟨_,_,rfl,r1,r3⟩
def Gn:vS X (.builtin "abs") (λxs H Q=>∃i,xs=[.int i]/\Q (.int<|if i<0 then -i else i) H):=by
 intro pins s σ H xs us Q I r h;obtain⟨i,rfl,q⟩:=h;obtain⟨u,rfl,t,rfl⟩:=vals1 r;exact call_abs_int λu tk=>⟨.int<|if i<0 then -i else i,H,I.tok _,⟨_,rfl⟩,q⟩
def Gp(hc:X.calm=true):vS X (.builtin "max") (λxs H Q=>∃i j,xs=[.int i,.int j]/\Q (.int<|if j>i then j else i) H):=by
 intro pins s σ H xs us Q I r h;obtain⟨i,j,rfl,q⟩:=h;obtain⟨u,w',rfl,⟨t,rfl⟩,⟨t',rfl⟩⟩:=vals2 r;refine max_two_ints (I.ok.hd hc) λh' tk k=>⟨_,H,I.kept k,?_,q⟩
 by_cases hj:j>i
 ·rw[qj hj,qj hj];exact⟨_,rfl⟩
 ·rw[qm hj,qm hj];exact⟨_,rfl⟩
end
structure oM(h:Heap)(x dx C:AdX)(mA:Str->Option Value):Prop where
 obj:h.get? x=some (W.instObj C dx)
 ns:h.Ns1 dx mA
 ne:dx≠x
def NB(n:h.Ns1 dx mA):∃od,h.get? dx=some od/\∀name,W.lookIn name od=some (mA name):=by
 obtain⟨o,es,ep,ho,hd,hk,_,hm⟩:=n;refine⟨o,ho,λname=>?_⟩;have e:=hm name;unfold nsFind findBy at e;rw[<-Array.find?_toList] at e;unfold W.lookIn;rw[hd];dsimp only;split
 ·rename_i y q;rw[q] at e;exact qM some e
 ·rename_i q;rw[q] at e;have a:es.toList.any (·.refKey)=false:=by
   rw[List.any_eq_false];intro y hy;obtain⟨z,t,CY⟩:=hk y<|Array.mem_toList_iff.mp hy;simp[DictEntry.refKey,CY]
  have a':¬es.toList.any (·.refKey)=true:=by rw[a];exact qR
  rw[qm a'];exact qM some e
def oM.look{x:AdX}(I:oM h x dx C mA):∃od,W.InstAt h x (W.instObj C dx) C (some od)/\∀name,W.lookIn name od=some (mA name):=let ⟨od,ho,hl⟩:=NB I.ns
 ⟨od,⟨I.obj,rfl,rfl,ho⟩,hl⟩
section
variable{s:ShX}{x f:AdX}{name:Str}{v:Value}
def get_map{expr:Bool}(X:K.In s.heap)(I:oM s.heap x dx C mA)(hg:W.plainGet K C name=true)(hh:W.hasDictIn K C=true)(ha:W.findIn K (.ref C) name=some none)(hv:mA name=some v)(NC:W.handedIn v=true)(h:Q v { s with toks:=s.toks+1 }):wpAny (model prog w) A (getAttr (.ref x) name expr) Q E s:=by
 obtain⟨od,J,hl⟩:=I.look;exact W.get_value X J (W.plainGet_of hg).1 (W.findObj_own hh ha rfl<|by rw[hl,hv]) NC h
def ND{pl:Sem Bool}{Q:Value×List Value->Shared->Prop}(X:K.In s.heap)(I:oM s.heap x dx C mA)(hg:W.plainGet K C name=true)(hf:W.findIn K (.ref C) name=some (some<|.ref f))(ht:W.isFn K (.ref f)=true)(hv:mA name=none)(h:Q (.ref f,[.ref x]) s):wpAny (model prog w) A (getMethod (.ref x) name pl) Q E s:=by
 obtain⟨od,J,hl⟩:=I.look;exact W.method_fn X J (W.plainGet_of hg).1 (W.plainGet_of hg).2 hf (gQ.mp ht) (by show(W.lookIn name od).map (·.isSome)=some false;rw[hl,hv];rfl) h
def NF{ns:LSr}{Q:Unit->Shared->Prop}(X:K.In s.heap)(I:oM s.heap x dx C mA)(hs:W.findIn K (.ref C) "__setattr__"=some (some<|.builtin "object.__setattr__"))(hp:W.plainOver K C=true)(ht:W.takerIn K C name=some none)(hh:W.hasDictIn K C=true)(hw:PySem.Within mA ns)(iD:ns.length<=sizeLine)(h:∀h',oM h' x dx C (λy=>if y=name then some v else mA y)->Heap.SameBut dx s.heap h'->Q () { s with heap:=h',toks:=s.toks+2 }):wpAny (model prog w) A (setAttr (.ref x) name v) Q E s:=by
 obtain⟨od,J,hl⟩:=I.look;refine W.set_plain X J hs<|W.osa_open (s:={ s with toks:=s.toks+1 }) (r:=none) X J hp ht λb=>?_;obtain⟨cd,hc,eG⟩:=W.any_some hh;have hx:s.heap.get? x=some ⟨.ref C,some dx,.plain,#[]⟩:=I.obj;refine qt<|qS<|qt<|qt<|wpAny_loadPart hx<|qt<|W.Looks.here (s:={ s with toks:=s.toks+1 }) (W.looks_clsIn X hc) ?_;rw[eG];refine qS (a:=some dx)<|qt<|qS<|qt ?_;refine wpAny_nsSet1 (s:={ s with toks:=s.toks+1 }) I.ns λh' oN dS=>?_
 obtain⟨oD,esD,epD,NG,NH,NJ⟩:=oN.count<|PySem.Within.cons name v hw;refine qt<|wpAny_lookBehind NG (by rw[NH];exact pastItsLine_dict<|qr NJ<|by rw[ke];omega) ?_;exact qS<|h _ ⟨(dS.2 _<|gE I.ne).trans I.obj,oN,I.ne⟩ dS
def NK{R:Result->Shared->Prop}{vs:LVl}{kw:List (Str×Value)}(X:K.In s.heap)(hm:W.makesIn K C=true)(hi:W.findIn K (.ref C) "__init__"=some (some<|.ref f))(hf:W.typeIn K (.ref f)=some (.type "function"))(h:codeAny (model prog w) (A.under<|.builtin "type.__call__" ⟨.ref C::vs,kw⟩) (.call (.ref f) ⟨.ref (s.heap.objs.size+1)::vs,kw⟩) (W.InitBack (s.heap.objs.size+1) R)
   { s with heap:=(s.heap.push W.emptyDict).push (W.instObj C s.heap.objs.size) }):codeAny (model prog w) A (.call (.ref C) ⟨vs,kw⟩) R s:=by
 obtain⟨hh,g,d,t,os⟩:=s;exact W.make_core (W.makes_of X hm) (W.looks_findIn X hi) (λself=>W.bind_fn X self hf) (.inl rfl) h
end
noncomputable def Ji(f:Str)(v:V):List (Str×V)->List (Str×V)
 |[]=>[(f,v)]
 |(g,x)::r=>if g=f then (g,v)::r else (g,x)::Ji f v r
theorem WG(f g:Str)(v:V):∀fs:List (Str×V),(Ji f v fs).lookup g=if g=f then some v else fs.lookup g
 |[]=>by
  show List.lookup g [(f,v)]=_
  by_cases h:g=f
  ·have hb:(g==f)=true:=gQ.mpr h;simp only [List.lookup,hb,qj h]
  ·have hb:(g==f)=false:=k8.mpr h;simp only [List.lookup,hb,qm h]
 |(k,x)::r=>by
  have ih:=WG f g v r;rw[show Ji f v ((k,x)::r)=(if k=f then (k,v)::r else (k,x)::Ji f v r) from rfl];by_cases hk:k=f
  ·rw[qj hk];by_cases h:g=k
   ·have hb:(g==k)=true:=gQ.mpr h;simp only [List.lookup,hb,qj<|h.trans hk]
   ·have hb:(g==k)=false:=k8.mpr h;simp only [List.lookup,hb,qm (λe:g=f=>h<|e.trans hk.symm)]
  ·rw[qm hk];by_cases h:g=k
   ·have hb:(g==k)=true:=gQ.mpr h;simp only [List.lookup,hb,qm (λe:g=f=>hk<|h.symm.trans e)]
   ·have hb:(g==k)=false:=k8.mpr h;simp only [List.lookup,hb];exact ih
theorem Wj(f:Str)(v:V):∀fs:List (Str×V),f∈(Ji f v fs).map (·.1)/\∀g,g∈fs.map (·.1)->g∈(Ji f v fs).map (·.1)
 |[]=>⟨by simp[Ji],λg h=>by simp at h⟩
 |(k,x)::r=>by
  obtain⟨i1,i2⟩:=Wj f v r;rw[show Ji f v ((k,x)::r)=(if k=f then (k,v)::r else (k,x)::Ji f v r) from rfl];by_cases hk:k=f
  ·rw[qj hk];subst hk;exact⟨by simp,λg h=>by simpa using h⟩
  ·rw[qm hk];refine⟨?_,λg h=>?_⟩
   ·rw[gH];exact qA _ i1
   ·rw[gH] at h ⊢;rcases qy.mp h with e|e
    ·exact List.mem_cons.mpr<|.inl e
    ·exact qA _<|i2 g e
theorem WL(f:Str)(v:V):∀fs:List (Str×V),(Ji f v fs).length<=fs.length+1
 |[]=>by simp[Ji]
 |(k,x)::r=>by
  have ih:=WL f v r;rw[show Ji f v ((k,x)::r)=(if k=f then (k,v)::r else (k,x)::Ji f v r) from rfl];by_cases hk:k=f
  ·rw[qj hk,ke,ke];omega
  ·rw[qm hk,ke,ke];omega
def vO.some_of{v:V}{o:Option Value}(r:vO (some v) o):∃u,o=some u/\RelV v u:=by
 cases o with
 |none=>exact(show False from r).elim
 |some u=>exact⟨u,rfl,r⟩
def vO.none_of{o:Option Value}(r:vO none o):o=none:=by
 cases o with
 |none=>rfl
 |some u=>exact(show False from r).elim
def NL{v:V}(r:RelV v u):W.handedIn u=true:=by
 cases v with
 |non=>cases (show u=Value.none from r);rfl
 |bl b=>cases (show u=Value.bool b from r);rfl
 |int i=>obtain⟨t,e⟩:=(show ∃t,u=Value.int i t from r);cases e;rfl
 |str x=>obtain⟨t,e⟩:=(show ∃t,u=Value.str x t from r);cases e;rfl
 |byt b=>obtain⟨t,e⟩:=(show ∃t,u=Value.bytes b t from r);cases e;rfl
 |flt b=>obtain⟨t,e⟩:=(show ∃t,u=Value.float b t from r);cases e;rfl
 |ref a=>cases (show u=Value.ref a from r);rfl
 |ty n=>cases (show u=Value.type n from r);rfl
section
variable{H H':Hp}{fs bU:List (Str×V)}
def CZ(hok:dR P w H h)(e:H a=some (.ins C dx fs)):∃mA,oM h a dx C mA/\(∀f,vO (fs.lookup f)<|mA f)/\PySem.Within mA (fs.map (·.1))/\fs.length<=1000/\H dx=some (.own a):=by
 obtain⟨d,z,ne,ob,mA,n,r,q⟩:=(show vH P w H h a (.ins C dx fs) from hok a _ e);exact⟨mA,⟨ob,n,ne⟩,r,q,z,d⟩
end
structure cV(K:FRx)(C:AdX):Prop where
 pg:W.plainGet K C Str.empty=true
 hd:W.hasDictIn K C=true
 po:W.plainOver K C=true
 sa:W.findIn K (.ref C) "__setattr__"=some (some<|.builtin "object.__setattr__")
def cV.get(c:cV K C)(f:Str):W.plainGet K C f=true:=c.pg
def yM(K:FRx)(C:AdX)(f:Str):Prop:=W.findIn K (.ref C) f=some none
def yM.taker{f:Str}(n:yM K C f):W.takerIn K C f=some none:=by
 unfold W.takerIn;rw[show W.findIn K (.ref C) f=some none from n];rfl
structure Meth(K:FRx)(C:AdX)(m:Str)(f:AdX):Prop where
 at_:W.findIn K (.ref C) m=some (some<|.ref f)
 fn:W.isFn K (.ref f)=true
 kp:W.keepIn K (.ref f)=true
section
variable{X:Cx}{σ:St}{H:Hp}{s:ShX}{fs:List (Str×V)}{f:Str}{v:V}
def NM{b:Bool}(I:Inv X pins σ H s)(e:H a=some (.ins C dx fs))(c:cV X.K C)(n:yM X.K C f)(l:fs.lookup f=some v)(h:∀u s',Inv X pins σ H s'->RelV v u->Q u s'):wpAny (model X.prog X.w) A (getAttr (.ref a) f b) Q E s:=by
 obtain⟨mA,O,r,_,_,_⟩:=CZ I.hok e;obtain⟨u,hu,ru⟩:=vO.some_of (v:=v) (o:=mA f) (by rw[<-l];exact r f);exact get_map I.kIn O (c.get f) c.hd n hu (NL ru)<|h u _ (I.tok _) ru
def UX{m:Str}{g:AdX}{pl:Sem Bool}{Q:Value×List Value->Shared->Prop}(I:Inv X pins σ H s)(e:H a=some (.ins C dx fs))(c:cV X.K C)(k:Meth X.K C m g)(l:fs.lookup m=none)(h:Q (.ref g,[.ref a]) s):wpAny (model X.prog X.w) A (getMethod (.ref a) m pl) Q E s:=by
 obtain⟨mA,O,r,_,_,_⟩:=CZ I.hok e;have hn:mA m=none:=vO.none_of (by rw[<-l];exact r m);exact ND I.kIn O (c.get m) k.at_ k.fn hn h
def NN{y:V}{Q:Unit->Shared->Prop}(I:Inv X pins σ H s)(e:H a=some (.ins C dx fs))(c:cV X.K C)(n:yM X.K C f)(hl:fs.length<1000)(ry:RelV y u)(h:∀s',Inv X pins σ (upd H a<|.ins C dx<|Ji f y fs) s'->Q () s'):wpAny (model X.prog X.w) A (setAttr (.ref a) f u) Q E s:=by
 obtain⟨mA,O,r,wi,_,ho⟩:=CZ I.hok e;have hz:(fs.map (·.1)).length<=sizeLine:=by rw[qf,sizeLine_eq];omega
 refine NF I.kIn O c.sa c.po n.taker c.hd wi hz λh' O' sb=>h _ ?_
 have hd:∃o,h'.get? dx=some o:=let ⟨o,_,_,e',_⟩:=O'.ns;⟨o,e'⟩
 refine I.write (x:=a) (e:=dx) (by rw[e];exact True.intro) (.inr ho) (λb q hb z=>(sb.2 b hb).trans z) hd ?_;refine⟨by rw[zY O.ne];exact ho,?_,O.ne,O'.obj,_,O'.ns,λg=>?_,λg hg=>?_⟩
 ·have:=WL f y fs;omega
 ·show vO ((Ji f y fs).lookup g) (if g=f then some u else mA g)
  rw[WG];by_cases q:g=f
  ·rw[qj q,qj q];exact ry
  ·rw[qm q,qm q];exact r g
 ·by_cases q:g=f
  ·rw[q];exact(Wj f y fs).1
  ·refine(Wj f y fs).2 g<|wi g λz=>hg ?_;show(if g=f then some u else mA g)=none
   rw[qm q];exact z
def Inv.made(I:Inv X pins σ H s):Inv X pins σ (upd (upd H s.heap.objs.size<|.own<|s.heap.objs.size+1) (s.heap.objs.size+1)<|.ins C s.heap.objs.size [])
  { s with heap:=(s.heap.push W.emptyDict).push (W.instObj C s.heap.objs.size) }:=by
 have e1:(s.heap.push W.emptyDict).get? s.heap.objs.size=some W.emptyDict:=qO s.heap rfl;have e2:((s.heap.push W.emptyDict).push<|W.instObj C s.heap.objs.size).get? (s.heap.objs.size+1)=some (W.instObj C s.heap.objs.size):=by
  have:=qO (s.heap.push W.emptyDict) (o:=W.instObj C s.heap.objs.size) rfl;rwa [gC] at this
 have e3:(s.heap.push W.emptyDict).Ns s.heap.objs.size (λ_=>none):=⟨W.emptyDict,#[],_,e1,rfl,(λe he=>absurd he<|by simp),λ_=>rfl⟩;have I1:=I.laid (a:=s.heap.objs.size) (o:=.own<|s.heap.objs.size+1) (h':=s.heap.push W.emptyDict) (t':=s.toks) (λb u q=>qo _ q) (qe _) ⟨_,e1⟩
 refine I1.laid (a:=s.heap.objs.size+1) (o:=.ins C s.heap.objs.size []) (t':=s.toks) (λb u q=>qo _ q) (mP<|gC _ _) ?_;have ne:s.heap.objs.size≠s.heap.objs.size+1:=gq<|kZ _;refine⟨by rw[zY ne,zL],kx _,ne,e2,λ_=>none,(Heap.Ns1.of_empty e3).at λo q=>qo _ q,λ_=>True.intro,λy hy=>absurd rfl hy⟩
def NO(hb:attributeBase e f env (eval e env)=eval e env)(h:wpAny (model prog w) A (eval e env) (λo bV=>wpAny (model prog w) A (getAttr o f true) Q E bV) E s):wpAny (model prog w) A (eval (.Attribute e f pos) env) Q E s:=Attribute_any_ h (by rw[arm_eval_Attribute,hb])
end
def NP(K:FRx)(ta:TE)(f:Str):TE:=λσ H Q=>ta σ H λx H1=>∃a C dx fs v,x=.ref a/\H1 a=some (.ins C dx fs)/\cV K C/\yM K C f/\fs.lookup f=some v/\Q v H1
def NQ(K:FRx)(ta tv:TE)(f:Str):TS:=λD σ H=>tv σ H λy H1=>ta σ H1 λx H2=>∃a C dx fs,x=.ref a/\H2 a=some (.ins C dx fs)/\cV K C/\yM K C f/\fs.length<1000/\
 D.nx σ (upd H2 a<|.ins C dx<|Ji f y fs)
section
variable{X:Cx}{o value:Expr}{f:Str}{c7:Pos}{ta tv:TE}
def va(he:PE X e ta)(hb:attributeBase e f X.env (eval e X.env)=eval e X.env):PE X (.Attribute e f pos) (NP X.K ta f):=by
 intro pins s σ H Q I h;refine NO hb<|b4 (he pins s σ H _ I h) λu s1 ⟨x,H1,I1,rx,a,C,dx,fs,v,ex,ea,c,n,l,q⟩=>?_;subst ex;obtain rfl:u=Value.ref a:=rx;exact NM I1 ea c n l λu' s2 I2 ru=>⟨v,H1,I2,ru,q⟩
def Bg(ha:PE X o ta)(hv:PE X value tv)(hs:swapsWith value (some<|.Attribute o f pos') pos.line X.env=pure false):PS X (.Assign [.Attribute o f pos'] value pos) (NQ X.K ta tv f):=by
 intro pins s σ H D I h;refine plainObj_wpAny_Assign_Attribute (b4 (hv pins s σ H _ I h) λu s1 ⟨y,H1,I1,ry,q⟩=>b4 (ha pins s1 σ H1 _ I1 q) λov s2 ⟨x,H2,I2,rx,a,C,dx,fs,ex,ea,c,n,l,q2⟩=>?_) hs;subst ex;obtain rfl:ov=Value.ref a:=rx;exact NN I2 ea c n l ry λs3 I3=>⟨σ,_,I3,q2⟩
def zlz{pl:Sem Bool}{m:Str}{apos:Pos}{args:List Expr}{pins:PNx}{s:ShX}{σ:St}{H:Hp}{Q:VSx}{te:TE}(he:PE X e te)(I:Inv X pins σ H s)(h:te σ H λx H1=>∃a C dx fs g,x=.ref a/\H1 a=some (.ins C dx fs)/\cV X.K C/\Meth X.K C m g/\fs.lookup m=none/\
   ∀s1,Inv X pins σ H1 s1->wpAny (model X.prog X.w) X.A (callWith pos (.ref g) [.ref a] (backTo pos<|starEach args X.env)<|backToKw pos<|keywordEach [] X.env) Q X.xe s1)(ht:eval (.Call (.Attribute e m apos) args [] pos) X.env=(do
   let ov <-eval e X.env
   standAt apos.atName
   let (f,first) <-holding [ov] (getMethod ov m pl)
   callWith pos f first (backTo pos<|starEach args X.env) (backToKw pos<|keywordEach [] X.env))):wpAny (model X.prog X.w) X.A (eval (.Call (.Attribute e m apos) args [] pos) X.env) Q X.xe s:=by
 refine W.methodCall_KW (pl:=pl) (b4 (he pins s σ H _ I h) λu s1 ⟨x,H1,I1,rx,a,C,dx,fs,g,ex,ea,c,k,l,q⟩=>?_) ht;subst ex;obtain rfl:u=Value.ref a:=rx;exact UX I1 ea c k l (q s1 I1)
end
structure bZ(k:Nat)(A:Around):Prop where
 hd:A.handled=none
 dp:A.depth+3*k+5<recursionLimit
 un:A.units+16*k+200<cLine
def bZ.mono(r:bZ k A)(h:j<=k):bZ j A:=⟨r.hd,by have:=r.dp;omega,by have:=r.un;omega⟩
def bZ.deeper(r:bZ (k+1) A)(env:Env):bZ k (A.deeper env):=⟨r.hd,by have:=r.dp;show A.depth+1+3*k+5<_;omega,by have:=r.un;show A.units+3+16*k+200<_;omega⟩
def NR{kw:List (Str×Value)}:(A.under<|.builtin "type.__call__" ⟨.ref C::us,kw⟩).depth=A.depth+1:=by
 first |rfl|simp[Around.under,Code.weight,Code.isCreation,Code.isGuard,Code.isCaller,Code.frames,Code.isFrame,guardIds]
def NS{kw:List (Str×Value)}:(A.under<|.builtin "type.__call__" ⟨.ref C::us,kw⟩).units=A.units+1:=by
 first |rfl|simp[Around.under,Code.cUnits,Code.frames,Code.isFrame]
def bZ.make(r:bZ (k+1) A)(C:AdX)(us:LVl)(kw:List (Str×Value)):bZ k (A.under<|.builtin "type.__call__" ⟨.ref C::us,kw⟩):=⟨r.hd,by have:=r.dp;rw[NR];omega,by have:=r.un;rw[NS];omega⟩
def bZ.depth(r:bZ k A):A.depth<recursionLimit:=by have:=r.dp;omega
def bZ.units(r:bZ k A):A.units+64<cLine:=by have:=r.un;omega
def Gq:TA:=λ_ H Q=>Q [] H
def NT(ta:TE)(tr:TA):TA:=λσ H Q=>ta σ H λx H1=>tr σ H1 λxs H2=>Q (x::xs) H2
section
variable{X:Cx}{te:TE}{t:TA}
def xW:PA X [] Gq:=λ_ _ _ _ H Q I h=>Calls.spliced_nil ⟨[],H,I,.nil,h⟩
def yQ(ha:PE X e te)(hr:PA X es t)(hs:cT X e es:=by rfl):PA X (e::es) (NT te t):=by
 intro pos pins s σ H Q I h;rw[hs];show wpAny _ _ (spliced<|(false,eval e X.env)::backTo pos (starEach es X.env)) _ _ s
 refine Calls.spliced_cons<|b4 (ha pins s σ H _ I h) λu s1 ⟨x,H1,I1,r1,q1⟩=>?_;exact b4 (hr pos pins s1 σ H1 _ I1 q1) λus s2 ⟨xs,H2,I2,r2,q2⟩=>⟨x::xs,H2,I2,.cons r1 r2,q2⟩
def NU(t:TA):TE:=λσ H Q=>t σ H λxs H1=>xs.length<=sizeLine/\∀p,H1 p=none->Q (.ref p) (upd H1 p<|.tup xs)
def NV(t:TA):TE:=λσ H Q=>t σ H λxs H1=>xs.length<=sizeLine/\∀p,H1 p=none->Q (.ref p) (upd H1 p<|.lst xs)
def C0{x1}(h:PA X es t):PE X (.Tuple es x1 pos) (NU t):=by
 intro pins s σ H Q I hq;refine wpAny_Tuple_spliced<|b4 (h pos pins s σ H _ I hq) λus s1 ⟨xs,H1,I1,r,z,q⟩=>⟨by rw[<-r.length];exact z,?_⟩;have hf:H1 s1.heap.objs.size=none:=I1.hok.fresh<|qe _;refine⟨.ref s1.heap.objs.size,upd H1 s1.heap.objs.size<|.tup xs,I1.laid (t':=s1.toks) (λb u e=>qo _ e) (qe _) ?_,rfl,q _ hf⟩;exact⟨z,us,r,⟨_,qO _ rfl,rfl,_,rfl⟩⟩
def NW(h:PA X es t):PE X (.List es pos) (NV t):=by
 intro pins s σ H Q I hq;refine wpAny_List_spliced<|b4 (h pos pins s σ H _ I hq) λus s1 ⟨xs,H1,I1,r,z,q⟩=>⟨by rw[<-r.length];exact z,?_⟩;have hf:H1 s1.heap.objs.size=none:=I1.hok.fresh<|qe _;refine⟨.ref s1.heap.objs.size,upd H1 s1.heap.objs.size<|.lst xs,I1.laid (t':=s1.toks) (λb u e=>qo _ e) (qe _) ?_,rfl,q _ hf⟩;exact⟨z,us,0,r,qO _ rfl⟩
end
abbrev Sp:=List V->Hp->VK->XK->Prop
abbrev CXT:=List Env->Hp->Shared->XK->Value->Shared->Prop
structure oO(P:Program)(w:World)(K:FRx)(mg:Str->Option Value)(base:Heap)(A:Around)(outer:List Env)(s:ShX)(H:Hp):Prop where
 frames:A.frames=some outer
 mod:Mod K mg base
 bs:∀b o,base.get? b=some o->s.heap.get? b=some o/\H b=none
 bsz:base.objs.size<=s.heap.objs.size
 funs:s.heap.FunFrames base outer
 frf:∀b∈iB outer,H b=none
 hok:dR P w H s.heap
 bare:AllBare s.gens
def CE(outer:List Env)(P:Program)(w:World)(H:Hp)(s:ShX)(Q:VK)(u:Value)(s':ShX):Prop:=∃v H',s'.os=s.os/\AllBare s'.gens/\Un (iB outer) [] H H' s.heap s'.heap/\dR P w H' s'.heap/\RelV v u/\Q v H'
def CR(CX:CXT)(outer:List Env)(P:Program)(w:World)(H:Hp)(s:ShX)(Q:VK)(E:XK)(r:Result)(s':ShX):Prop:=match r with
 | .ok (.ret u)=>CE outer P w H s Q u s'
 | .ok _=>False
 | .error e=>CX outer H s E e s'
structure wu(P:Program)(w:World)(K:FRx)(mg:Str->Option Value)(base:Heap)(CX:CXT)(k:Nat)(f:AdX)(fd:FuncData)(ps:LSr)(sp:Sp):Prop where
 len:∀vs H Q E,sp vs H Q E->vs.length=ps.length
 run:∀(A:Around)(outer:List Env)(s:ShX)(H:Hp)(args:Args)(us:LVl)(vs:List V)(Q:VK)(E:XK),bZ k A->oO P w K mg base A outer s H->BindsTo s fd args (ps.zip us)->Vals vs us->sp vs H Q E->
  codeAny (model P w) A (.call (.ref f) args) (CR CX outer P w H s Q E) s
def wu.imp{CX:CXT}{f:AdX}{sp tD:Sp}(F:wu P w K mg base CX k f fd ps sp)(h:∀vs H Q E,tD vs H Q E->sp vs H Q E):wu P w K mg base CX k f fd ps tD:=⟨λvs H Q E q=>F.len vs H Q E<|h _ _ _ _ q,λA outer s H args us vs Q E hr he hb hv hs=>F.run A outer s H args us vs Q E hr he hb hv<|h _ _ _ _ hs⟩
def oO.make{outer:List Env}{s:ShX}{H:Hp}(e:oO P w K mg base A outer s H)(C:AdX)(us:LVl)(kw:List (Str×Value)):oO P w K mg base (A.under<|.builtin "type.__call__" ⟨.ref C::us,kw⟩) outer s H:=⟨by first |exact e.frames|(simpa [Around.under,Code.envs,Code.isFrame,pushEnvs] using e.frames),e.mod,e.bs,e.bsz,e.funs,e.frf,e.hok,e.bare⟩
section
variable{X:Cx}{σ:St}{H:Hp}{s s':ShX}
def Inv.znz(I:Inv X pins σ H s):oO X.prog X.w X.K X.mg X.base X.A X.stack s H:=⟨I.ok.frames,I.ok.mod,I.bs,qr I.ok.bsz I.sz,I.stack,I.zfJ,I.hok,I.bare⟩
def Inv.after{Q:VK}(I:Inv X pins σ H s)(h:CE X.stack X.prog X.w H s Q u s'):EP X pins σ Q u s':=by
 obtain⟨v,H',os,bare,un,hok,r,q⟩:=h;obtain⟨hh,g,d,t,os'⟩:=s';obtain rfl:os'=s.os:=os;exact⟨v,H',I.call (h':=hh) (g':=g) (d':=d) (t':=t) (ch:=[]) un hok bare (λb z=>absurd z<|by simp),r,q⟩
end
def Gr(sp:Sp)(d5:List V)(E:XK)(t:TA):TE:=λσ H Q=>t σ H λvs H1=>sp (vs++d5) H1 Q E
def Gs(C:AdX)(m:Str)(sp:Sp)(d5:List V)(E:XK)(ta:TE)(t:TA):TE:=λσ H Q=>ta σ H λx H1=>∃a dx fs,x=.ref a/\H1 a=some (.ins C dx fs)/\fs.lookup m=none/\
 t σ H1 λvs H2=>sp (x::(vs++d5)) H2 Q E
def NX(C:AdX)(sp:Sp)(d5:List V)(E:XK)(t:TA):TE:=λσ H Q=>t σ H λvs H1=>∀x dx,H1 x=none->H1 dx=none->dx≠x->
 sp (.ref x::(vs++d5)) (upd (upd H1 dx<|.own x) x<|.ins C dx []) (λv H2=>v=.non/\Q (.ref x) H2) E
def Binds(K:FRx)(fd:FuncData)(ps:LSr)(ds:LVl):Prop:=∀(s:ShX)(us:LVl),K.In s.heap->(us++ds).length=ps.length->BindsTo s fd ⟨us,[]⟩ (ps.zip<|us++ds)
def Binds.all(h:∀us:List Value,us.length=ps.length->bindArgs fd ⟨us,[]⟩=pure (ps.zip us)):Binds K fd ps []:=λs us _ hl=>by
 rw[km] at hl ⊢;exact .of_eq<|h us hl
def Passes(CX:CXT)(X:Cx)(E:XK):Prop:=∀(pins:PNx)(σ:St)(H:Hp)(s:ShX)(e:Value)(s':ShX),Inv X pins σ H s->CX X.stack H s E e s'->X.xe e s'
section
variable{X:Cx}{CX:CXT}{f:AdX}{sp:Sp}{d5:List V}{ds:LVl}{E:XK}{m:Str}{o:Expr}{ta:TE}{t:TA}
def C1{σ:St}{H:Hp}{s:ShX}{Q:VK}{vs:List V}(F:wu X.prog X.w X.K X.mg X.base CX k f fd ps sp)(hr:bZ k X.A)(hb:Binds X.K fd ps ds)(hd:Vals d5 ds)(hx:Passes CX X E)(I:Inv X pins σ H s)(r:Vals vs us)(h:sp (vs++d5) H Q E):wpAny (model X.prog X.w) X.A (call (.ref f) us) (EP X pins σ Q) X.xe s:=by
 have r2:Vals (vs++d5) (us++ds):=r.append hd;have hl:(us++ds).length=ps.length:=by rw[<-r2.length];exact F.len _ _ _ _ h
 refine wpAny_call<|p5 (F.run X.A X.stack s H ⟨us,[]⟩ (us++ds) (vs++d5) Q E hr I.znz (hb s us I.kIn hl) r2 h) λr s' hq=>?_;cases r with
 |error e=>exact hx pins σ H s e s' I hq
 |ok fl=>
  cases fl with
  |ret u=>exact I.after hq
  |next=>exact False.elim hq
  |brk=>exact False.elim hq
  |cont=>exact False.elim hq
def NY(F:wu X.prog X.w X.K X.mg X.base CX k f fd ps sp)(hr:bZ k X.A)(hg:Gl X x)(hm:X.mg x=some (.ref f))(hk:W.keepIn X.K (.ref f)=true)(hb:Binds X.K fd ps ds)(hd:Vals d5 ds)(hx:Passes CX X E)(ha:PA X (e::es) t)(c8:NDx x:=by decide)(he:cT X e es:=by rfl)(cJ:d9 X pos es:=by rfl):PE X (.Call (.Name x p) (e::es) [] pos) (Gr sp d5 E t):=by
 intro pins s σ H Q I h;refine nP<|CH I hg hm ?_ c8;refine W.callWith_K (h₀:=X.base) I.ok.mod.kin hk (b4 (ha pos pins s σ H _ I h) λus s1 ⟨vs,H1,I1,r,q⟩=>⟨I1.kIn,?_⟩) he cJ;exact C1 F hr hb hd hx I1 r q
def C3{pl:Sem Bool}(he:PE X o ta)(c:cV X.K C)(hm:Meth X.K C m f)(F:wu X.prog X.w X.K X.mg X.base CX k f fd ps sp)(hr:bZ k X.A)(hb:Binds X.K fd ps ds)(hd:Vals d5 ds)(hx:Passes CX X E)(ha:PA X (e::es) t)(hst:cT X e es:=by rfl)(cJ:d9 X pos es:=by rfl)(ht:eval (.Call (.Attribute o m apos) (e::es) [] pos) X.env=(do
   let ov <-eval o X.env
   standAt apos.atName
   let (f,first) <-holding [ov] (getMethod ov m pl)
   callWith pos f first (backTo pos<|starEach (e::es) X.env) (backToKw pos<|keywordEach [] X.env)):=by rfl):PE X (.Call (.Attribute o m apos) (e::es) [] pos) (Gs C m sp d5 E ta t):=by
 intro pins s σ H Q I h;refine W.methodCall_KW (pl:=pl) (b4 (he pins s σ H _ I h) λu s1 ⟨x,H1,I1,rx,a,dx,fs,ex,ea,l,q⟩=>?_) ht;subst ex;obtain rfl:u=Value.ref a:=rx;refine UX I1 ea c hm l ?_;refine W.callWith_K (first:=[.ref a]) (h₀:=X.base) I.ok.mod.kin hm.kp (b4 (ha pos pins s1 σ H1 _ I1 q) λus s2 ⟨vs,H2,I2,r,q2⟩=>⟨I2.kIn,?_⟩) hst cJ;exact C1 (us:=.ref a::us) (vs:=.ref a::vs) F hr hb hd hx I2 (.cons rfl r) q2
def Gu{pl:Sem Bool}(he:PE X o ta)(c:cV X.K C)(hm:Meth X.K C m f)(F:wu X.prog X.w X.K X.mg X.base CX k f fd ps sp)(hr:bZ k X.A)(hb:Binds X.K fd ps ds)(hd:Vals d5 ds)(hx:Passes CX X E)(ht:eval (.Call (.Attribute o m apos) [] [] pos) X.env=(do
   let ov <-eval o X.env
   standAt apos.atName
   let (f,first) <-holding [ov] (getMethod ov m pl)
   callWith pos f first (backTo pos<|starEach [] X.env) (backToKw pos<|keywordEach [] X.env)):=by rfl):PE X (.Call (.Attribute o m apos) [] [] pos) (Gs C m sp d5 E ta Gq):=by
 intro pins s σ H Q I h;refine W.methodCall_KW (pl:=pl) (b4 (he pins s σ H _ I h) λu s1 ⟨x,H1,I1,rx,a,dx,fs,ex,ea,l,q⟩=>?_) ht;subst ex;obtain rfl:u=Value.ref a:=rx;refine UX I1 ea c hm l ?_;exact W.callWith_K0 (first:=[.ref a]) I1.kIn hm.kp<|C1 (us:=[.ref a]) (vs:=[.ref a]) F hr hb hd hx I1 (.cons rfl .nil) q
structure Mk(K:FRx)(C f:AdX):Prop where
 makes:W.makesIn K C=true
 init:W.findIn K (.ref C) "__init__"=some (some<|.ref f)
 fn:W.isFn K (.ref f)=true
 kp:W.keepIn K (.ref C)=true
def NZ{σ:St}{H:Hp}{s:ShX}{Q:VK}{vs:List V}(M:Mk X.K C f)(F:wu X.prog X.w X.K X.mg X.base CX k f fd ps sp)(hr:bZ (k+1) X.A)(hb:Binds X.K fd ps ds)(hd:Vals d5 ds)(hx:Passes CX X E)(I:Inv X pins σ H s)(r:Vals vs us)(h:∀x dx,H x=none->H dx=none->dx≠x->sp (.ref x::(vs++d5)) (upd (upd H dx<|.own x) x<|.ins C dx []) (λv H2=>v=.non/\Q (.ref x) H2) E):wpAny (model X.prog X.w) X.A (call (.ref C) us) (EP X pins σ Q) X.xe s:=by
 have hq:=h (s.heap.objs.size+1) s.heap.objs.size (I.hok.fresh<|mJ _) (I.hok.fresh<|qe _)<|gq<|kZ _;have I2:=Inv.made (C:=C) I
 have r2:Vals (V.ref (s.heap.objs.size+1)::(vs++d5)) (Value.ref (s.heap.objs.size+1)::(us++ds)):=.cons rfl<|r.append hd;have hl:(Value.ref (s.heap.objs.size+1)::us++ds).length=ps.length:=by
  have e:=r2.length;rw[F.len _ _ _ _ hq] at e;exact e.symm
 refine wpAny_call<|NK (f:=f) I.kIn M.makes M.init (gQ.mp M.fn)<|p5 (F.run _ X.stack _ _ ⟨Value.ref (s.heap.objs.size+1)::us,[]⟩ (Value.ref (s.heap.objs.size+1)::(us++ds)) _ _ E (hr.make C us [])
  (I2.znz.make C us []) (hb _ (Value.ref (s.heap.objs.size+1)::us) I2.kIn hl) r2 hq) λr s' eU=>?_
 cases r with
 |error e=>exact hx pins σ _ _ e s' I2 eU
 |ok fl=>
  cases fl with
  |ret u=>
   obtain⟨v,H',I3,rv,ev,q3⟩:=I2.after eU;subst ev;exact⟨rv,⟨V.ref<|s.heap.objs.size+1,H',I3,rfl,q3⟩⟩
  |next=>exact False.elim eU
  |brk=>exact False.elim eU
  |cont=>exact False.elim eU
def N1(M:Mk X.K C f)(F:wu X.prog X.w X.K X.mg X.base CX k f fd ps sp)(hr:bZ (k+1) X.A)(hg:Gl X x)(hm:X.mg x=some (.ref C))(hb:Binds X.K fd ps ds)(hd:Vals d5 ds)(hx:Passes CX X E)(ha:PA X (e::es) t)(c8:NDx x:=by decide)(he:cT X e es:=by rfl)(cJ:d9 X pos es:=by rfl):PE X (.Call (.Name x p) (e::es) [] pos) (NX C sp d5 E t):=by
 intro pins s σ H Q I h;refine nP<|CH I hg hm ?_ c8;refine W.callWith_K (h₀:=X.base) I.ok.mod.kin M.kp (b4 (ha pos pins s σ H _ I h) λus s1 ⟨vs,H1,I1,r,q⟩=>⟨I1.kIn,?_⟩) he cJ;exact NZ M F hr hb hd hx I1 r q
end
structure zx(N P:LSr)(sc:Scope):Prop where
 kind:sc.kind=.function
 co:sc.isCoroutine=false
 gen:sc.isGenerator=false
 nd:N.Nodup
 pre:N.take P.length=P
 par:∀x∈P,sc.names.lookup x=some .local\/sc.names.lookup x=some .cell
 nofree:∀y∈sc.names,y.2≠ .free
def cj{N P:LSr}(a:sc.kind=.function:=by rfl)(c:sc.isCoroutine=false:=by rfl)(g:sc.isGenerator=false:=by rfl)(p:N.take P.length=P:=by rfl)(h:N.Nodup/\(∀x∈P,sc.names.lookup x=some .local\/sc.names.lookup x=some .cell)/\∀y∈sc.names,y.2≠ .free:=by decide+kernel):zx N P sc:=⟨a,c,g,h.1,p,h.2.1,h.2.2⟩
theorem Gv{kindOf:Str->Option NameKind}{x:Str}:∀{binds:List (Str×Value)} {m:Str->Option Value},(∀v,(x,v)∉binds)->bindL kindOf binds m x=m x
 |[],_,_=>rfl
 |(n,v)::r,m,h=>by
  unfold bindL;rw[Gv λw hw=>h w<|qA _ hw];split
  ·have:x≠n:=by rintro rfl;exact h v qZ
   simp[this]
  ·rfl
theorem Gw{kindOf:Str->Option NameKind}{x:Str}:∀{binds:List (Str×Value)} {m:Str->Option Value},(∀v,(x,v)∉binds)->bindC kindOf binds m x=m x
 |[],_,_=>rfl
 |(n,v)::r,m,h=>by
  unfold bindC;rw[Gw λw hw=>h w<|qA _ hw];split
  ·rfl
  ·have:x≠n:=by rintro rfl;exact h v qZ
   simp[this]
theorem Gx{kindOf:Str->Option NameKind}{x:Str}{v:Value}:∀{P:LSr} {vs:LVl} {i:Nat} {m:Str->Option Value},P.Nodup->P[i]?=some x->vs[i]?=some v->kindOf x=some .local->
  bindL kindOf (P.zip vs) m x=some v
 |[],_,_,_,_,h,_,_=>by simp at h
 |_::_,[],_,_,_,_,h,_=>by simp at h
 |p::P,w::vs,0,m,nd,h1,h2,hk=>by
  simp at h1 h2;subst h1;subst h2
  show bindL kindOf ((p,w)::P.zip vs) m p=_
  unfold bindL;rw[Gv λv hv=>(kv.mp nd).1 (ng hv).1,qj hk];simp
 |p::P,w::vs,i+1,m,nd,h1,h2,hk=>by
  show bindL kindOf ((p,w)::P.zip vs) m x=_
  unfold bindL;exact Gx (i:=i) (kv.mp nd).2 (by simpa using h1) (by simpa using h2) hk
theorem Gy{kindOf:Str->Option NameKind}{x:Str}{v:Value}:∀{P:LSr} {vs:LVl} {i:Nat} {m:Str->Option Value},P.Nodup->P[i]?=some x->vs[i]?=some v->kindOf x≠some .local->
  bindC kindOf (P.zip vs) m x=some v
 |[],_,_,_,_,h,_,_=>by simp at h
 |_::_,[],_,_,_,_,h,_=>by simp at h
 |p::P,w::vs,0,m,nd,h1,h2,hk=>by
  simp at h1 h2;subst h1;subst h2
  show bindC kindOf ((p,w)::P.zip vs) m p=_
  unfold bindC;rw[Gw λv hv=>(kv.mp nd).1 (ng hv).1,qm hk];simp
 |p::P,w::vs,i+1,m,nd,h1,h2,hk=>by
  show bindC kindOf ((p,w)::P.zip vs) m x=_
  unfold bindC;exact Gy (i:=i) (kv.mp nd).2 (by simpa using h1) (by simpa using h2) hk
noncomputable def start(N:LSr)(vs:List V):St:=vs.map some++List.replicate (N.length - vs.length) none
noncomputable def Uh(CX:CXT)(P:Program)(w:World)(K:FRx)(mg:Str->Option Value)(base:Heap)(N:LSr)(qual:Str)(scope:Scope)(f:AdX)(cd:Value)(A:Around)(outer:List Env)(s:ShX)(H:Hp)(E:XK):Cx where
 prog:=P
 w:=w
 K:=K
 mg:=mg
 base:=base
 A:=A.deeper (envOfC qual scope s.heap.objs.size f cd)
 N:=N
 s₀:=s
 H₀:=H
 env:=envOfC qual scope s.heap.objs.size f cd
 outer:=outer
 stack:=envOfC qual scope s.heap.objs.size f cd::outer
 ex:=[]
 calm:=true
 fn:=λ_=>true
 pn:=[]
 xe:=λe s'=>wpAny (model P w) (A.deeper<|envOfC qual scope s.heap.objs.size f cd) (leaving (envOfC qual scope s.heap.objs.size f cd) e) (λ_ C4=>CX outer H s E e C4) (λe' C4=>CX outer H s E e' C4) s'
def GD(h:sc.names.lookup x=some .cell):∃c,(cellsFrom n sc.names []).lookup x=some c:=by
 have q:=W.cellsFrom_some sc.names n []<|.inl h;exact Option.isSome_iff_exists.mp q
def N2{CX:CXT}{N:LSr}{f:AdX}{cd:Value}{outer:List Env}{s s1:ShX}{H:Hp}{E:XK}{vs:List V}(S:zx N ps scope)(hd:A.handled=none)(e0:oO P w K mg base A outer s H)(hl:vs.length=ps.length)(r:Vals vs us)(x:InCallC s s.heap.objs.size (bindL (envOfC qual scope s.heap.objs.size f cd).kindOf (ps.zip us) λ_=>none) (cellsFrom (s.heap.objs.size+1) scope.names []) (bindC (envOfC qual scope s.heap.objs.size f cd).kindOf (ps.zip us) λ_=>none) s1):Inv (Uh CX P w K mg base N qual scope f cd A outer s H E) [] (start N vs) H s1:=by
 have cJ:ps.length<=N.length:=by have:=qM List.length S.pre;rw[k5] at this;omega
 obtain⟨h1,tk,rfl,hk⟩:=x.done;have tE:∀b:Addr,b∉(Uh CX P w K mg base N qual scope f cd A outer s H E).ex:=λb z=>absurd (show b∈([]:LAd) from z) (by simp)
 refine⟨⟨e0.mod,S.kind,rfl,rfl,qe _,λy z c h1 h2=>?_,λy hy=>?_,λy c _ h=>?_,λ_=>hd,Around.frames_deeper e0.frames,.inr ⟨rfl,rfl⟩,λb z=>absurd z<|tE b,e0.bs,e0.bsz,λb _ _=>tE b,λb z=>absurd z<|tE b,e0.funs,e0.frf⟩,
  rfl,e0.bare,Un.kept hk,⟨_,x.toInCall.ns,λi y v h1 h2 h3=>?_⟩,λy c h=>⟨_,x.cell y c h⟩,e0.hok.fresh<|qe _,λy c h=>?_,λp hp=>absurd (show p∈([]:PNx) from hp) (by simp),e0.hok.kept hk,?_⟩
 ·exact name_of_addr x.apart (kT h1)<|kT h2
 ·have hy:scope.names.lookup y=some .cell\/scope.names.lookup y=some .free:=hy;rcases hy with hy|hy
  ·exact GD hy
  ·exact absurd rfl<|S.nofree _<|kT hy
 ·exact nD<|x.above y c<|kT h
 ·have hi:i<vs.length:=by
   unfold start at h2;by_cases hi:i<vs.length
   ·exact hi
   ·rw[qF<|by simpa using hi] at h2;rw[kK] at h2;split at h2<;>cases h2
  have ha:vs[i]?=some v:=by
   unfold start at h2;rw[qQ (by simpa using hi),qp] at h2;cases e:vs[i]? with
   |none=>rw[e] at h2;cases h2
   |some a=>rw[e] at h2;cases h2;rfl
  obtain⟨u,hu,rv⟩:=r.get ha;have hp:ps[i]?=some y:=by
   rw[<-S.pre,bu<|by omega];exact h1
  have GF:ps.Nodup:=by rw[<-S.pre];exact S.nd.sublist<|List.take_sublist _ _
  refine⟨u,rv,?_⟩;rcases S.par y (qI hp) with k|k
  ·exact .inl ⟨k,Gx GF hp hu k⟩
  ·obtain⟨c,e⟩:=GD (n:=s.heap.objs.size+1) k;refine .inr ⟨.inl k,c,e,?_⟩;have q:=x.cell y c e;rw[Gy GF hp hu<|by show scope.names.lookup y≠_;rw[k];decide] at q;exact q
 ·exact e0.hok.fresh<|nD<|x.above y c<|kT h
 ·unfold start;show _=N.length
  rw[qz,qf,mV];omega
def N3{CX:CXT}{P:Program}{w:World}{K:FRx}{mg:Str->Option Value}{base:Heap}{k:Nat}{f:AdX}{name qual:Str}{params:Arguments}{body:List Stmt}{scope:Scope}{dV kV doc pm b5 ct oc:Value}{an od:Option Addr}{lH:Array (Option Value)}{N ps:LSr}{sp:Sp}(lk:K.lookup f=some ⟨oc,od,.func<|W.fnOf name qual params body scope dV kV doc pm an b5 ct,lH⟩)(b6:W.codeIn K b5 qual=true)(S:zx N ps scope)(len:∀vs H Q E,sp vs H Q E->vs.length=ps.length)(cv:∀(A:Around)(outer:List Env)(s:ShX)(H:Hp)(vs:List V)(Q:VK)(E:XK),bZ k (A.deeper<|envOfC qual scope s.heap.objs.size f b5)->sp vs H Q E->
   ∃t,eQ (Uh CX P w K mg base N qual scope f b5 A outer s H E) body t/\t { nx:=λ_ H'=>Q .non H',rt:=Q } (start N vs) H):wu P w K mg base CX (k+1) f (W.fnOf name qual params body scope dV kV doc pm an b5 ct) ps sp:=by
 refine⟨len,λA outer s H args us vs Q E hr e0 hb r fK=>?_⟩;have hl:=len _ _ _ _ fK;have KX:K.In s.heap:=e0.mod.kin.keeps λb o e=>(e0.bs b o e).1
 have lim:s.heap.NoLimit:=e0.mod.nolimit.keeps λb o e=>(e0.bs b o e).1
 have tG:∀y∈ps.zip us,scope.names.lookup y.1=some .local\/(scope.names.lookup y.1=some .cell/\((cellsFrom (s.heap.objs.size+1) scope.names []).lookup y.1).isSome=true):=λ⟨n,v⟩ hy=>by
  rcases S.par n (ng hy).1 with q|q
  ·exact .inl q
  ·exact .inr ⟨q,W.cellsFrom_some _ _ _<|.inl q⟩
 refine codeAny_call_function hr.depth (KX _ _ lk) rfl S.co S.gen rfl (W.codeRec_of KX b6)<|hb _ _ _ _ ?_;refine wpAny_newFunctionEnv_cells S.kind tG λenv he s1 x=>?_
 subst he;refine⟨lim.keeps x.toInCall.keep,codeAny_func ?_⟩;obtain⟨t,ht,hq⟩:=cv A outer s H vs Q E (hr.deeper _) fK;have I:Inv (Uh CX P w K mg base N qual scope f b5 A outer s H E) [] (start N vs) H s1:=N2 S hr.hd e0 hl r x;refine gB (ht [] s1 (start N vs) H _ I hq) (λfl s' hs=>?_) λe s' hs=>hs
 have fin:∀{bR:St} {H':Hp} {v:V} {u:Value},Inv (Uh CX P w K mg base N qual scope f b5 A outer s H E) [] bR H' s'->RelV v u->Q v H'->CE outer P w H s Q u s':=λ{bR H' v u} J rv q=>⟨v,H',J.os,J.bare,J.base,J.hok,rv,q⟩
 cases fl with
 |ret u=>
  obtain⟨v,bR,H',J,rv,q⟩:=hs;exact fin J rv q
 |next=>
  obtain⟨bR,H',J,q⟩:=hs;exact fin (v:=V.non) (u:=Value.none) J rfl q
 |brk=>
  obtain⟨_,_,_,q⟩:=hs;exact False.elim q
 |cont=>
  obtain⟨_,_,_,q⟩:=hs;exact False.elim q
section
variable{X:Cx}{t:TA}{id T:String}{r:List V->Hp->VK->Prop}
def GG(r:List V->Hp->VK->Prop)(t:TA):TE:=λσ H Q=>t σ H λvs H1=>r vs H1 Q
def U0(hc:vS X (.builtin id) r)(hg:Gl X x)(hm:X.mg x=none)(hv:bootBuiltins x=some (.builtin id))(ha:PA X (e::es) t)(hn:x≠"__name__":=by decide)(c8:NDx x:=by decide)(he:cT X e es:=by rfl)(cJ:d9 X pos es:=by rfl):PE X (.Call (.Name x p) (e::es) [] pos) (GG r t):=by
 intro pins s σ H Q I h;refine nP<|UI I hg hm hv ?_ hn c8;exact PyProof.Rows.callWith_builtin1 (b4 (ha pos pins s σ H _ I h) λus s1 ⟨vs,H1,I1,r1,q1⟩=>hc pins s1 σ H1 vs us Q I1 r1 q1) he cJ
def J0(hc:vS X (.type T) r)(hg:Gl X x)(hm:X.mg x=none)(hv:bootBuiltins x=some (.type T))(ha:PA X (e::es) t)(hn:x≠"__name__":=by decide)(c8:NDx x:=by decide)(he:cT X e es:=by rfl)(cJ:d9 X pos es:=by rfl):PE X (.Call (.Name x p) (e::es) [] pos) (GG r t):=by
 intro pins s σ H Q I h;refine nP<|UI I hg hm hv ?_ hn c8;exact gO (b4 (ha pos pins s σ H _ I h) λus s1 ⟨vs,H1,I1,r1,q1⟩=>hc pins s1 σ H1 vs us Q I1 r1 q1) he cJ
end
end L2
variable{CX:L2.CXT}{X:L2.Cx}{G G' G0 H H' H0 H1:L2.Hp}{J:L2.It}{r':L2.R2}{sp:L2.Sp}{σ bR:L2.St}{ta te:L2.TE}{wi:L2.TI}{tc:L2.TT}{v:L2.V}{xs ys:List L2.V}
namespace HT
open PySem PyProof.Rows
section
open PySem.SeqAt
open PySem.AutoSeq1 (wpAny_loadPart')
open PySem.MeetsSeq PySem.MeetsSeq2 PySem.MeetsSeq3
end
section
variable{s:ShX}
def zkd{t b:AdX}{vs ws:LVl}(ht:IsTup s.heap t vs.toArray)(hb:IsTup s.heap b ws.toArray)(hv:vs≠[])(h1:ws=[]->Q (.ref t) s)(h2:ws≠[]->Q (.ref s.heap.objs.size) { s with heap:=s.heap.push { cls:=.type "tuple",data:=.seq (vs++ws).toArray } })(iD:vs.length+ws.length<=sizeLine):wpAny (model prog w) A (binaryOp .Add (.ref t)<|.ref b) Q E s:=by
 obtain⟨⟨cls,dd,data,sl⟩,ho,hc,n,hd⟩:=id ht;obtain⟨⟨C5,Bh,data2,lI⟩,oP,lJ,n2,hd2⟩:=id hb;simp only at hc hd lJ hd2;subst hc hd lJ hd2;have e:vs.toArray++ws.toArray=(vs++ws).toArray:=by simp
 by_cases hw:ws=[]
 ·exact pZ ⟨_,ho,rfl⟩ ⟨_,oP,rfl⟩ bo seq_tuple_add nV nQ (nM _ _)
   (tuple_addW1 t b vs.toArray ws.toArray n n2 dd Bh sl lI (by simpa using hv)<|by simp[hw]) ⟨ho,oP,h1 hw⟩
 ·refine pZ ⟨_,ho,rfl⟩ ⟨_,oP,rfl⟩ bo seq_tuple_add nV nQ (nM _ _)
   (tuple_addW2 t b vs.toArray ws.toArray n n2 dd Bh sl lI (by simpa using hv) (by simpa using hw)<|by rw[qH,qH];exact iD) ⟨ho,oP,?_⟩
  rw[e];exact h2 hw
noncomputable def sIx(n d:Nat):Option Int->Nat
 |none=>d
 |some v=>if v<0 then (v+(n:Int)).toNat else min v.toNat n
def ziB(n d:Nat):sIx n d none=d:=rfl
def zch(n d k:Nat):sIx n d (some (k:Int))=min k n:=by
 show(if (k:Int)<0 then ((k:Int)+(n:Int)).toNat else min (k:Int).toNat n)=min k n
 rw[qm (by omega),ky]
end
end HT
namespace L2
open PySem PySem.Spec PyProof.Rows
abbrev TO:=St->Hp->(Option Int->Hp->Prop)->Prop
def PO(X:Cx)(e:Option Expr)(t:TO):Prop:=∀(pins:PNx)(s:ShX)(σ:St)(H:Hp)(Q:Option Int->Hp->Prop),Inv X pins σ H s->t σ H Q->
  wpAny (model X.prog X.w) X.A (evalPart e X.env) (λu s'=>∃o H',Inv X pins σ H' s'/\IsPart u o/\Q o H') X.xe s
def N5:TO:=λ_ H Q=>Q none H
def N6(t:TE):TO:=λσ H Q=>t σ H λx H1=>∃i,x=.int i/\Q (some i) H1
def intsAre_of:∀{us:LVl},Vals (ns.map V.int) us->IntsAre us ns:=by
 induction ns with
 |nil=>intro us r;rw[pJ] at r;cases r;exact .nil
 |cons n ns ih=>
  intro us r;rw[gH] at r;cases r with
  |cons r1 r2=>
   obtain⟨t,e⟩:=r1;subst e;exact .cons n t<|ih r2
section
variable{lo:Option Expr}{tl th:TO}
def N7:PO X none N5:=by
 intro pins s σ H Q I h;rw[evalPart_none];exact qS ⟨none,H,I,.none,h⟩
def N8(h:PE X e te):PO X (some e) (N6 te):=by
 intro pins s σ H Q I hw;rw[evalPart_some];refine b4 (h pins s σ H _ I hw) λu s1 ⟨x,H1,I1,r1,q1⟩=>?_
 obtain⟨i,rfl,q⟩:=q1;obtain⟨t,rfl⟩:=r1;exact⟨some i,H1,I1,.int i t,q⟩
def GH(X:Cx)(r:V->Option Int->Option Int->Hp->VK->Prop):Prop:=∀(pins:PNx)(s:ShX)(σ:St)(H:Hp)(x:V)(v vl vu:Value)(lo hi:Option Int)(sl:AdX)(Q:VK),Inv X pins σ H s->RelV x v->s.heap.IsSliceOf sl vl vu .none->IsPart vl lo->IsPart vu hi->r x lo hi H Q->
  ∃T id,typeLookup (.type T) "__getitem__"=pure (some<|.builtin id)/\s.TypeIs v T/\wpAny (model X.prog X.w) X.A (getItem v<|.ref sl) (EP X pins σ Q) X.xe s
def N9(r:V->Option Int->Option Int->Hp->VK->Prop)(te:TE)(tl th:TO):TE:=λσ H Q=>te σ H λx H1=>tl σ H1 λl H2=>th σ H2 λu H3=>r x l u H3 Q
def GI{r:V->Option Int->Option Int->Hp->VK->Prop}(hr:GH X r)(he:PE X e te)(hl:PO X lo tl)(hu:PO X hi th):PE X (.Subscript e (.Slice lo hi none p2) pos) (N9 r te tl th):=by
 intro pins s σ H Q I h;refine Subscript_<|b4 (he pins s σ H _ I h) λv s1 ⟨x,H1,I1,r1,q1⟩=>?_;refine wpAny_Slice<|b4 (hl pins s1 σ H1 _ I1 q1) λvl s2 ⟨l,H2,I2,pl,q2⟩=>b4 (hu pins s2 σ H2 _ I2 q2) λvu s3 ⟨u,H3,I3,pu,q3⟩=>?_;rw[evalPart_none];refine qS ?_;have I4:Inv X pins σ H3 { s3 with heap:=s3.heap.push { cls:=.type "slice",data:=.fields #[vl,vu,.none] } }:=I3.kept (t':=s3.toks) λb ob q=>qo _ q
 obtain⟨T,id,hT,ht,hg⟩:=hr pins { s3 with heap:=s3.heap.push { cls:=.type "slice",data:=.fields #[vl,vu,.none] } } σ H3 x v vl vu l u s3.heap.objs.size Q I4 r1 (Heap.IsSliceOf.new ..) pl pu q3;show wpAny (model X.prog X.w) X.A (subscriptTail e (.Slice lo hi none p2) v<|.ref s3.heap.objs.size) (EP X pins σ Q) X.xe { s3 with heap:=s3.heap.push { cls:=.type "slice",data:=.fields #[vl,vu,.none] } }
 exact tail_any (ops:=[.ref s3.heap.objs.size,v]) ht hT hg (by with_unfolding_all rfl)
def rO(xs:List V)(lo hi:Option Int):List V:=(xs.drop<|HT.sIx xs.length 0 lo).take<|HT.sIx xs.length xs.length hi - HT.sIx xs.length 0 lo
def Oa(xs:List V)(lo hi:Option Int):(rO xs lo hi).length<=xs.length:=by
 unfold rO;rw[k5,pN];omega
def Vals.Yk(r:Vals xs us):us=[]↔xs=[]:=by
 cases r with
 |nil=>simp
 |cons _ _=>simp
end
noncomputable def dZ(n:Nat)(i:Int):Option Nat:=if 0<=i then (if i<n then some i.toNat else none) else if -(n:Int)<=i then some (i+n).toNat else none
def eI{α:Type}(xs:List α)(i:Int):Option α:=(dZ xs.length i).bind λj=>xs[j]?
def GK{i:Int}(h:dZ n i=some j):seqIndex? i n=some j/\j<n/\-(n:Int)<=i/\i<n:=by
 unfold dZ at h;by_cases h0:0<=i
 ·rw[qj h0] at h;by_cases h1:i<n
  ·rw[qj h1] at h;have e:i.toNat=j:=kj h;exact⟨by rw[seqIndex_of h0 h1,e],by omega,by omega,h1⟩
  ·rw[qm h1] at h;cases h
 ·rw[qm h0] at h;by_cases h1:-(n:Int)<=i
  ·rw[qj h1] at h;have e:(i+n).toNat=j:=kj h;exact⟨by rw[seqIndex_neg (by omega) h1,e],by omega,h1,by omega⟩
  ·rw[qm h1] at h;cases h
def GO{α:Type}{xs:List α}{i:Int}{v:α}(h:eI xs i=some v):∃j,seqIndex? i xs.length=some j/\xs[j]?=some v/\j<xs.length/\-(xs.length:Int)<=i/\i<xs.length:=by
 unfold eI at h;cases e:dZ xs.length i with
 |none=>rw[e] at h;cases h
 |some j=>
  rw[e] at h;obtain⟨h1,h2,h3,h4⟩:=GK e;exact⟨j,h1,h,h2,h3,h4⟩
def VC{α:Type}{xs:List α}{v:α}(h:xs[j]?=some v):eI xs (j:Int)=some v:=by
 have hj:j<xs.length:=(qg.mp h).1;have e:dZ xs.length (j:Int)=some j:=by
  unfold dZ;rw[qj (by omega),qj<|by omega];simp
 unfold eI;rw[e];exact h
def C6(b:Expr):Prop:=∀o i,subscripted b false o i=operate [o,i] (getItem o i)
def lK(X:Cx)(r:R2):Prop:=∀(value slice:Expr)(pins:PNx)(s:ShX)(σ:St)(H:Hp)(x y:V)(v u:Value)(Q:VK),Inv X pins σ H s->RelV x v->RelV y u->r x y H Q->
  subscripted slice false v u=operate [v,u] (getItem v u)->wpAny (model X.prog X.w) X.A (subscriptTail value slice v u) (EP X pins σ Q) X.xe s
def Oc(X:Cx)(id:String)(r:V->List V->Hp->VK->Prop):Prop:=∀(pins:PNx)(s:ShX)(σ:St)(H:Hp)(x:V)(xs:List V)(v:Value)(us:LVl)(Q:VK),Inv X pins σ H s->RelV x v->Vals xs us->r x xs H Q->
  wpAny (model X.prog X.w) X.A (call (.builtin id)<|v::us) (EP X pins σ Q) X.xe s
section
variable{a b:Expr}{tb:TE}
def lK.or{r:R2}(h:lK X r)(h':lK X r'):lK X (λx y H Q=>r x y H Q\/r' x y H Q):=by
 intro value slice pins s σ H x y v u Q I rx ry q hs;rcases q with q|q
 ·exact h value slice pins s σ H x y v u Q I rx ry q hs
 ·exact h' value slice pins s σ H x y v u Q I rx ry q hs
def GP{r:R2}(hr:lK X r)(ha:PE X a ta)(hb:PE X b tb)(hs:C6 b):PE X (.Subscript a b pos) (Bf r ta tb):=by
 intro pins s σ H Q I h;exact Subscript_<|CQ ha hb I h λv u s2 x y H2 I2 rx ry q=>hr a b pins s2 σ H2 x y v u Q I2 rx ry q<|hs _ _
def GQ(K:FRx):R2:=λx y H Q=>∃p xs i v,x=.ref p/\y=.int i/\cm K H p xs/\eI xs i=some v/\Q v H
def GR(K:FRx):R2:=λx y H Q=>∃p xs i v,x=.ref p/\y=.int i/\cP K H p xs/\eI xs i=some v/\Q v H
def Od:lK X (GQ X.K):=by
 intro value slice pins s σ H x y v u Q I rx ry h hs;obtain⟨p,xs,i,z,rfl,rfl,hq,he,q⟩:=h;cases rx;obtain⟨t,rfl⟩:=ry;obtain⟨its,r,pl,hz⟩:=I.list hq;obtain⟨j,h1,h2,h3,h4,h5⟩:=GO he;obtain⟨w,ew,fL⟩:=r.get h2;have hl:=r.length;have hn:=V0
 have fin:EP X pins σ Q w s:=⟨z,H,I,fL,q⟩;by_cases h0:0<=i
 ·have hj:i.toNat=j:=by
   rw[seqIndex_of h0 h5] at h1;exact kj h1
  exact item_listR pl.isList h0 (by omega) (by rw[hj];simpa using ew) fin hs
 ·have hj:(i+(its.toArray.size:Int)).toNat=j:=by
   rw[seqIndex_neg (by omega) h4] at h1;rw[qH,<-hl];exact kj h1
  exact subscriptTail_builtinR (x:=w) pl.isList.typeIs slot_list_getitem.lookup
   (wpAny_getItem_list_neg (Q:=λr s'=>r=w/\EP X pins σ Q r s') pl.isList (by omega) (by rw[qH]<;>omega) (by omega) (by rw[hj];simpa using ew) ⟨rfl,fin⟩) hs
def Oe:lK X (GR X.K):=by
 intro value slice pins s σ H x y v u Q I rx ry h hs;obtain⟨p,xs,i,z,rfl,rfl,hq,he,q⟩:=h;cases rx;obtain⟨t,rfl⟩:=ry;obtain⟨its,r,pl,hz⟩:=I.tuple hq;obtain⟨j,h1,h2,h3,h4,h5⟩:=GO he;obtain⟨w,ew,fL⟩:=r.get h2;have hl:=r.length;have hn:=V0
 have fin:EP X pins σ Q w s:=⟨z,H,I,fL,q⟩;exact subscriptTail_builtinR (x:=w) pl.typeIs slot_tuple_getitem.lookup
  (getItem_tuple (j:=j) (Q:=λr s'=>r=w/\EP X pins σ Q r s') pl (by omega) (by omega) (by rw[qH,<-hl];exact h1) (by simpa using ew) ⟨rfl,fin⟩) hs
def Of(its:LVl)(n j:Nat)(u:Value):Obj.mapSeq (·.setIfInBounds j u) { cls:=.type "list",data:=.seq its.toArray n }={ cls:=.type "list",data:=.seq (its.set j u).toArray n }:=by
 simp[Obj.mapSeq]
def Inv.lst{s:ShX}{p:AdX}(I:Inv X pins σ H s)(h:H p=some (.lst xs)):∃(its:LVl)(n:Nat),Vals xs its/\s.heap.get? p=some { cls:=.type "list",data:=.seq its.toArray n }/\xs.length<=sizeLine:=by
 obtain⟨z,its,n,r,e⟩:=I.hok p _ h;exact⟨its,n,r,e,z⟩
def Inv.zmb{s:ShX}{p:AdX}{its':LVl}{n':Nat}{f:Obj->Obj}(I:Inv X pins σ H s)(h:H p=some (.lst xs))(ho:s.heap.get? p=some { cls:=.type "list",data:=.seq its.toArray n })(hf:f { cls:=.type "list",data:=.seq its.toArray n }={ cls:=.type "list",data:=.seq its'.toArray n' })(r:Vals ys its')(hz:ys.length<=sizeLine)(t:Nat):Inv X pins σ (upd H p<|.lst ys) { s with heap:=s.heap.update p f,toks:=t }:=by
 have e:(s.heap.update p f).get? p=some { cls:=.type "list",data:=.seq its'.toArray n' }:=by
  rw[Heap.get?_update_self f ho (by rw[hf]<;>rfl),hf]
 refine I.write (x:=p) (e:=p) (by rw[h];trivial) (.inl rfl) (λb u hb q=>(Heap.get?_update_other _ _<|gE hb).trans q) ⟨_,e⟩ ?_;exact⟨hz,its',n',r,e⟩
def Og:V->V->V->Hp->(Hp->Prop)->Prop:=λo i v H Q=>∃p xs k j,o=.ref p/\i=.int k/\H p=some (.lst xs)/\dZ xs.length k=some j/\Q (upd H p<|.lst<|xs.set j v)
def set_list:F0 X Og:=by
 intro pins s σ H o i v ov iv u Q I ro ri rv h;obtain⟨p,xs,k,j,rfl,rfl,hp,hj,q⟩:=h;cases ro;obtain⟨t,rfl⟩:=ri;obtain⟨its,n,r,ho,hz⟩:=I.lst hp;obtain⟨h1,h2,h3,h4⟩:=GK hj;have hl:=r.length;have hn:=V0
 have I':Inv X pins σ (upd H p<|.lst<|xs.set j v) { s with heap:=s.heap.update p (Obj.mapSeq (·.setIfInBounds j u)) }:=I.zmb hp ho (Of its n j u) (r.set rv j) (by rw[gr];exact hz) s.toks;by_cases h0:0<=k
 ·have hk:k.toNat=j:=by
   rw[seqIndex_of h0 h4] at h1;exact kj h1
  exact W.ki_setAt ho h0 (by omega) (by rw[qH,<-hl];exact h4) (by rw[hk];exact⟨_,I',q⟩)
 ·have hk:(k+(its.toArray.size:Int)).toNat=j:=by
   rw[seqIndex_neg (by omega) h3] at h1;rw[qH,<-hl];exact kj h1
  exact W.ki_setBack ho (by omega) (by rw[qH,<-hl];exact h3) (by omega) (by rw[hk];exact⟨_,I',q⟩)
def Oh(lo hi:Option Int)(n:Nat):(sliceBounds lo hi none n).1=((HT.sIx n 0 lo:Nat):Int)/\(sliceBounds lo hi none n).2.1=((HT.sIx n n hi:Nat):Int)/\(sliceBounds lo hi none n).2.2=1:=by
 refine⟨?_,?_,rfl⟩
 ·cases lo with
  |none=>simp[sliceBounds,HT.sIx]
  |some i=>
   simp only [sliceBounds,HT.sIx,Option.getD_none,show(1:Int)>0 by decide,pE];by_cases h:i<0
   ·simp only [h,pE]<;>omega
   ·simp only [h,if_false]<;>omega
 ·cases hi with
  |none=>simp[sliceBounds,HT.sIx]
  |some i=>
   simp only [sliceBounds,HT.sIx,Option.getD_none,show(1:Int)>0 by decide,pE];by_cases h:i<0
   ·simp only [h,pE]<;>omega
   ·simp only [h,if_false]<;>omega
def Oi(its:LVl)(lo hi:Option Int):slicePick its.toArray lo hi none=((its.drop<|HT.sIx its.length 0 lo).take<|HT.sIx its.length its.length hi - HT.sIx its.length 0 lo).toArray:=by
 obtain⟨h1,h2,h3⟩:=Oh lo hi its.toArray.size;unfold slicePick;rw[h1,h2,h3];simp only [sliceRange_one,pick_run,qH]<;>rfl
def Oj(K:FRx):V->Option Int->Option Int->Hp->VK->Prop:=λx lo hi H Q=>∃a xs,x=.ref a/\cm K H a xs/\∀p,H p=none->Q (.ref p) (upd H p<|.lst<|rO xs lo hi)
def GS:GH X (Oj X.K):=by
 intro pins s σ H x v vl vu lo hi sl Q I rx hs pl pu h;obtain⟨a,xs,rfl,hx,q⟩:=h;cases rx;obtain⟨its,r,ht,hz⟩:=I.list hx;have hlen:=r.length;refine⟨"list",_,slot_list_getitem.lookup,ht.isList.typeIs,?_⟩;refine wpAny_getItem_list_slice ht.isList hs pl pu .none (by simp) ?_ (by rw[qH]<;>omega);rw[Oi,<-hlen];refine⟨.ref s.heap.objs.size,_,I.laid (t':=s.toks) (o:=.lst<|rO xs lo hi) (λb ob q=>qo _ q) (qe _) ?_,rfl,q _<|I.hok.fresh<|qe _⟩;exact⟨qr (Oa xs lo hi) hz,_,0,(r.drop<|HT.sIx xs.length 0 lo).take<|HT.sIx xs.length xs.length hi - HT.sIx xs.length 0 lo,qO _ rfl⟩
def j5:vS X (.builtin "len") (λxs H Q=>∃p ys,xs=[.ref p]/\(cm X.K H p ys\/cP X.K H p ys)/\Q (.int ys.length) H):=by
 intro pins s σ H xs us Q I r h;obtain⟨p,ys,rfl,hq,q⟩:=h;obtain⟨u,rfl,rx⟩:=vals1 r;cases rx;have hn:=V0;rcases hq with hq|hq
 ·obtain⟨its,r',pl,hz⟩:=I.list hq;have hlen:=r'.length;exact Calls.call_len_list pl.isList (by simp only [qH]<;>omega) ⟨.int ys.length,H,I.tok _,⟨s.toks+1,by rw[qH,hlen]⟩,q⟩
 ·obtain⟨its,r',pl,hz⟩:=I.tuple hq;have hlen:=r'.length;exact len_tuple pl (by simp only [qH]<;>omega) ⟨.int ys.length,H,I.tok _,⟨s.toks+1,by rw[qH,hlen]⟩,q⟩
def xX:vS X (.type "list") (λxs H Q=>∃p ys,xs=[.ref p]/\(cm X.K H p ys\/cP X.K H p ys)/\∀l,H l=none->Q (.ref l) (upd H l<|.lst ys)):=by
 intro pins s σ H xs us Q I r h;obtain⟨p,ys,rfl,hq,q⟩:=h;obtain⟨u,rfl,rx⟩:=vals1 r;cases rx;have fin:∀(its:LVl),Vals ys its->ys.length<=sizeLine->∀(h':Heap)(c':Nat),(∀b o',s.heap.get? b=some o'->h'.get? b=some o')->
   h'.get? s.heap.objs.size=some { cls:=.type "list",dict:=none,data:=.seq its.toArray c',slots:=#[] }->EP X pins σ Q (.ref s.heap.objs.size) { s with heap:=h' }:=λits r' hz h' c' kp e=>
  ⟨.ref s.heap.objs.size,_,I.laid (t':=s.toks) kp (qe _)<|show vH X.prog X.w _ h' _ (.lst ys) from⟨hz,its,c',r',e⟩,rfl,q _<|I.hok.fresh<|qe _⟩
 rcases hq with hq|hq
 ·obtain⟨its,r',pl,hz⟩:=I.list hq;have hlen:=r'.length;obtain⟨o,ho,hc,n,hd⟩:=pl.isList;exact call_list_seq p (.inl rfl) ho hc hd (λh' c' kp e=>fin its r' hz h' c' kp e) (by simp only [qH]<;>omega)
 ·obtain⟨its,r',pl,hz⟩:=I.tuple hq;have hlen:=r'.length;obtain⟨o,ho,hc,n,hd⟩:=pl;exact call_list_seq p (.inr rfl) ho hc hd (λh' c' kp e=>fin its r' hz h' c' kp e) (by simp only [qH]<;>omega)
def Ol:vS X (.type "tuple") (λxs H Q=>∃p ys,xs=[.ref p]/\((cm X.K H p ys/\∀l,H l=none->Q (.ref l) (upd H l<|.tup ys))\/(cP X.K H p ys/\Q (.ref p) H))):=by
 intro pins s σ H xs us Q I r h;obtain⟨p,ys,rfl,h⟩:=h;obtain⟨u,rfl,rx⟩:=vals1 r;cases rx;rcases h with⟨hq,q⟩|⟨hq,q⟩
 ·obtain⟨its,r',pl,hz⟩:=I.list hq;have hlen:=r'.length;refine call_tuple_list pl.isList (λh' kp=>?_) (by simp only [qH]<;>omega);have I1:Inv X pins σ H { s with heap:=h' }:=I.kept (t':=s.toks) kp
  have I2:Inv X pins σ (upd H h'.objs.size<|.tup ys) { s with heap:=h'.push { cls:=.type "tuple",data:=.seq its.toArray } }:=I1.laid (t':=s.toks) (λb o e=>qo _ e) (qe _)<|show vH X.prog X.w _ _ _ (.tup ys) from⟨hz,its,r',IsTup.new _ _⟩;exact⟨.ref h'.objs.size,_,I2,rfl,q _<|I1.hok.fresh<|qe _⟩
 ·obtain⟨its,r',pl,hz⟩:=I.tuple hq;exact call_tuple_same pl ⟨.ref p,H,I,rfl,q⟩
def GU(K:FRx)(T:String)(x:V)(H:Hp):Prop:=match x with
 | .str _=>T="str"
 | .int _=>T="int"
 | .ref p=>(T="list"/\∃xs,cm K H p xs)\/(T="tuple"/\∃o,K.lookup p=some o/\o.cls=.type "tuple"/\o.dict=none)\/
   (T="dict"/\((∃eZ,H p=some (.dK eZ))\/∃eZ,H p=some (.dT eZ)))\/(T="set"/\∃S n,H p=some (.set S n))
 |_=>False
def Om{s:ShX}{T:String}{x:V}{v:Value}(I:Inv X pins σ H s)(r:RelV x v)(ty:GU X.K T x H):s.TypeIs v T/\∀a,v=.ref a->∃ob,s.heap.get? a=some ob/\ob.dict=none:=by
 cases x with
 |str z=>
  obtain⟨t,rfl⟩:=r;cases (show T="str" from ty);exact⟨typeIs_str s z t,λ_ e=>nomatch e⟩
 |int i=>
  obtain⟨t,rfl⟩:=r;cases (show T="int" from ty);exact⟨pU s i t,λ_ e=>nomatch e⟩
 |ref p=>
  cases r;rcases ty with⟨rfl,xs,hq⟩|⟨rfl,o,hk,hc,hd⟩|⟨rfl,hk⟩|⟨rfl,S,n,hk⟩
  ·obtain⟨its,_,pl,_⟩:=I.list hq;refine⟨pl.isList.typeIs,λa e=>?_⟩;cases e;obtain⟨o,n,e,c,hd,_⟩:=pl;exact⟨o,e,hd⟩
  ·refine⟨⟨o,I.kIn p o hk,hc⟩,λa e=>?_⟩;cases e;exact⟨o,I.kIn _ o hk,hd⟩
  ·have z:∃o,s.heap.get? p=some o/\o.ExactDict:=by
    rcases hk with⟨eZ,hk⟩|⟨eZ,hk⟩
    ·obtain⟨_,_,_,_,o,_,_,e,ex,_⟩:=I.hok p _ hk;exact⟨o,e,ex⟩
    ·obtain⟨_,_,_,_,o,_,_,e,ex,_⟩:=I.hok p _ hk;exact⟨o,e,ex⟩
   obtain⟨o,e,ex⟩:=z;refine⟨⟨o,e,ex.1⟩,λa e2=>?_⟩;cases e2;exact⟨o,e,ex.2.1⟩
  ·obtain⟨o,_,_,_,e,ex,_⟩:=I.hok p _ hk;refine⟨⟨o,e,ex.1⟩,λa e2=>?_⟩;cases e2;exact⟨o,e,ex.2.1⟩
 |_=>exact False.elim ty
def Oo(K:FRx)(T:String)(r:V->List V->Hp->VK->Prop)(to:TE)(t:TA):TE:=λσ H Q=>to σ H λx H1=>GU K T x H1/\t σ H1 λxs H2=>r x xs H2 Q
variable{o:Expr}{to:TE}{t:TA}{name:Str}{T id:String}{r:V->List V->Hp->VK->Prop}
def U5(pa:PlainAttrs T)(slot:Slot T name id)(Oq:typeOf (.builtin id)=pure (.type "method_descriptor"))(hm:Oc X id r)(ho:PE X o to)(ha:PA X (e::es) t)(cA:attributeBase o name X.env (eval o X.env)=eval o X.env:=by rfl)(cK:((backTo cpos<|starEach (e::es) X.env).all (λx=>!x.1)&&(backToKw cpos<|keywordEach [] X.env).all (λx=>x.1.isSome)
   &&decide ((e::es).length+([]:List Keyword).length+(if ([]:List Keyword).isEmpty then 0 else 1)<30))=true:=by rfl)(cB:(apos.endLine==cpos.line)=true:=by rfl)(hs:cT X e es:=by rfl)(oQ:(backTo cpos<|starEach es X.env).any (·.1)=false:=by rfl):PE X (.Call (.Attribute o name apos) (e::es) [] cpos) (Oo X.K T r to t):=by
 intro pins s σ H Q I h;refine wpAny_Call_method_late cA cK cB rfl<|b4 (ho pins s σ H _ I h) λv s1 ⟨x,H1,I1,r1,ty,q1⟩=>?_;obtain⟨h1,h2⟩:=Om I1 r1 ty;refine⟨T,id,pa,slot,Oq,h1,h2,?_⟩;have hA:=ha cpos pins s1 σ H1 _ I1 q1;rw[hs] at hA ⊢;refine Calls.callWith_builtin (by show(false || (backTo cpos<|starEach es X.env).any (·.1))=false;rw[oQ]<;>rfl)<|Calls.evalArgs_plain ?_;exact b4 hA λus s2 ⟨vs,H2,I2,r2,q2⟩=>hm pins s2 σ H2 x vs v us Q I2 r1 r2 q2
end
def tH(X:Cx)(id:String)(r:V->List V->Hp->VK->Prop):Prop:=∀(pins:PNx)(s:ShX)(σ:St)(H:Hp)(x:V)(xs:List V)(v:Value)(us:LVl)(Q:VK),Inv X pins σ H s->RelV x v->Vals xs us->r x xs H Q->
  wpAny (model X.prog X.w) X.A (call (.builtin id)<|v::us) (EP X pins σ Q) X.xe s
theorem Vals.one:∀{x:V} {us:LVl},Vals [x] us->∃u,us=[u]/\RelV x u
 |_,_,.cons r .nil=>⟨_,rfl,r⟩
theorem Vals.two:∀{x y:V} {us:LVl},Vals [x,y] us->∃u v,us=[u,v]/\RelV x u/\RelV y v
 |_,_,_,.cons r (.cons q .nil)=>⟨_,_,rfl,r,q⟩
theorem Vals.eraseIdx:∀{xs:List V} {us:LVl} (i:Nat),Vals xs us->Vals (xs.eraseIdx i) (us.eraseIdx i)
 |_,_,_,.nil=>.nil
 |_,_,0,.cons _ t=>t
 |_,_,i+1,.cons r t=>.cons r<|Vals.eraseIdx i t
theorem Vals.rep{xs:List V}{us:LVl}(h:Vals xs us):∀k:Nat,Vals (List.replicate k xs).flatten (List.replicate k us).flatten
 |0=>.nil
 |k+1=>by
  rw[gN,gN,mh,mh];exact Vals.append h<|Vals.rep h k
theorem GV{α:Type}:∀(l:List α)(i:Nat),(l.eraseIdx i).length<=l.length
 |[],_=>qe _
 |_::_,0=>mJ _
 |_::r,i+1=>mW<|GV r i
theorem foldl_rep(its:LVl):∀(k:Nat)(acc:LVl),
  List.foldl (λx1 x2=>x1++x2) acc.toArray (List.replicate k its.toArray)=(acc++(List.replicate k its).flatten).toArray
 |0,acc=>by simp
 |k+1,acc=>by
  have e:acc.toArray++its.toArray=(acc++its).toArray:=by simp
  have e2:(acc++its)++(List.replicate k its).flatten=acc++(List.replicate (k+1) its).flatten:=by
   rw[gN,mh,g0]
  rw[<-e2,<-foldl_rep its k (acc++its),<-e,gN,List.foldl_cons]
section
variable{s:ShX}{b:AdX}{zs:List V}
def Inv.lset{its':LVl}{f:Array Value->Array Value}(I:Inv X pins σ H s)(hH:H l=some (.lst xs))(e:s.heap.get? l=some { cls:=.type "list",data:=.seq its.toArray n })(hf:f its.toArray=its'.toArray)(hv:Vals ys its')(hz:ys.length<=sizeLine):Inv X pins σ (upd H l<|.lst ys) { s with heap:=s.heap.update l (Obj.mapSeq f),toks:=t' }:=by
 have q:=PySem.IsL.update e f;rw[hf] at q;refine I.write (x:=l) (e:=l) (by rw[hH];exact trivial) (.inl rfl) (λb' u hb hu=>(Heap.get?_update_other s.heap (Obj.mapSeq f)<|gE hb).trans hu) ⟨_,q⟩ ?_;exact⟨hz,its',_,hv,q⟩
def Inv.lnew(I:Inv X pins σ H s)(hv:Vals ys its)(hz:ys.length<=sizeLine):Inv X pins σ (upd H s.heap.objs.size<|.lst ys) { s with heap:=s.heap.push { cls:=.type "list",data:=.seq its.toArray },toks:=t' }:=I.laid (λ_ _ q=>qo _ q) (qe _) ⟨hz,its,0,hv,qO _ rfl⟩
def Inv.fresh(I:Inv X pins σ H s):H s.heap.objs.size=none:=I.hok.fresh<|qe _
def Inv.zbQ(I:Inv X pins σ H s)(hH:H l=some (.lst xs)):xs.length<=sizeLine/\∃(its:LVl)(n:Nat),Vals xs its/\xs.length=its.length/\s.heap.get? l=some { cls:=.type "list",data:=.seq its.toArray n }:=by
 obtain⟨z,its,n,r,e⟩:=I.hok l _ hH;exact⟨z,its,n,r,r.length,e⟩
def ZU(h:n<=sizeLine):Builtin.List.listTooLong n=false:=by
 unfold Builtin.List.listTooLong;exact qN (by omega)
end
section
def Ot:V->List V->Hp->VK->Prop:=λx vs H Q=>∃l xs y,x=.ref l/\vs=[y]/\H l=some (.lst xs)/\xs.length<sizeLine/\Q .non (upd H l<|.lst<|xs++[y])
def uP:tH X "list.append" Ot:=by
 intro pins s σ H x vs v us Q I rx rv h;obtain⟨l,xs,y,rfl,rfl,hH,hz,q⟩:=h;cases rx;obtain⟨u,rfl,ru⟩:=rv.one;obtain⟨z,its,n,r,hl,e⟩:=I.zbQ hH;refine mr PySem.F.slot_list_append ⟨_,e,rfl⟩ PySem.F.entry_list_append (PySem.F.args_list_append_2 _ _) (PySem.list_append l its.toArray n u<|by rw[qH];omega) ⟨e,?_⟩;refine⟨.non,_,I.lset (its':=its++[u]) hH e (by simp) (r.append<|.cons ru .nil) ?_,rfl,q⟩;rw[qz,kJ];omega
def Ou:V->List V->Hp->VK->Prop:=λx vs H Q=>∃l b xs zs,x=.ref l/\vs=[.ref b]/\H l=some (.lst xs)/\H b=some (.lst zs)/\xs.length+zs.length<=sizeLine/\Q .non (upd H l<|.lst<|xs++zs)
def zns:tH X "list.extend" Ou:=by
 intro pins s σ H x vs v us Q I rx rv h;obtain⟨l,b,xs,zs,rfl,rfl,hH,hB,hz,q⟩:=h;cases rx;obtain⟨u,rfl,ru⟩:=rv.one;cases ru;obtain⟨z,its,n,r,hl,e⟩:=I.zbQ hH;obtain⟨z2,cG,n2,r2,eV,e2⟩:=I.zbQ hB;have iD:its.toArray.size+cG.toArray.size<=sizeLine:=by rw[qH,qH];omega
 have e9:¬(!its.toArray.isEmpty&&Builtin.List.listTooLong (its.toArray.size+cG.toArray.size))=true:=by
  rw[ZU iD,bg];exact qR
 refine mr PySem.F.slot_list_extend ⟨_,e,rfl⟩ PySem.F.entry_list_extend (PySem.F.args_list_extend_2 _ _)
  (AutoSeq1.list_extend_list_list_0 l its.toArray n b cG.toArray n2 e9 (by rw[qH];omega)<|by omega) ⟨e,e2,?_⟩
 refine⟨.non,_,I.lset (its':=its++cG) hH e (by simp) (r.append r2) ?_,rfl,q⟩;rw[qz];omega
def Ov:V->List V->Hp->VK->Prop:=λx vs H Q=>∃l xs i k y,x=.ref l/\vs=[.int i]/\H l=some (.lst xs)/\-(2 ^ 63)<=i/\i<2 ^ 63/\seqIndex? i xs.length=some k/\xs[k]?=some y/\Q y (upd H l<|.lst<|xs.eraseIdx k)
def U8:tH X "list.pop" Ov:=by
 intro pins s σ H x vs v us Q I rx rv h;obtain⟨l,xs,i,k,y,rfl,rfl,hH,h1,h2,hk,hy,q⟩:=h;cases rx;obtain⟨u,rfl,ru⟩:=rv.one;obtain⟨t,rfl⟩:=ru;obtain⟨z,its,n,r,hl,e⟩:=I.zbQ hH;obtain⟨w,hw,fL⟩:=r.get hy;refine mr PySem.F.slot_list_pop ⟨_,e,rfl⟩ PySem.F.entry_list_pop (PySem.F.args_list_pop_2 _ _)
  (MeetsSeq.list_pop_at l its.toArray n i t k w (fitsIndex_both h1 h2) (by rw[qH,<-hl];exact hk) (by rw[<-Array.getElem?_toList];exact hw)<|by rw[qH];omega) ⟨e,?_⟩
 refine⟨y,_,I.lset (its':=its.eraseIdx k) hH e ?_ (r.eraseIdx k) ?_,fL,q⟩
 ·show its.toArray.eraseIdxIfInBounds k=(its.eraseIdx k).toArray
  rw[List.eraseIdxIfInBounds_toArray]
 ·have:=GV xs k;omega
def Ow:R2:=λx y H Q=>∃l b xs zs,x=.ref l/\y=.ref b/\H l=some (.lst xs)/\H b=some (.lst zs)/\xs.length+zs.length<=sizeLine/\∀p,H p=none->Q (.ref p) (upd H p<|.lst<|xs++zs)
def Ox:c4 X (binaryOp .Add) Ow:=by
 intro pins s σ H x y v u Q I rx ry h;obtain⟨l,b,xs,zs,rfl,rfl,hH,hB,hz,q⟩:=h;cases rx;cases ry;obtain⟨z,its,n,r,hl,e⟩:=I.zbQ hH;obtain⟨z2,cG,n2,r2,eV,e2⟩:=I.zbQ hB;refine PySem.P.add_list e e2 ?_ (by rw[qH,qH];omega);have ea:its.toArray++cG.toArray=(its++cG).toArray:=by simp
 rw[ea];exact⟨.ref _,_,I.lnew (t':=s.toks) (r.append r2) (by rw[qz];omega),rfl,q _ I.fresh⟩
def Oy:R2:=λx y H Q=>∃l k xs,x=.ref l/\y=.int k/\H l=some (.lst xs)/\-(2 ^ 63)<=k/\k<2 ^ 63/\xs.length*k.toNat<=sizeLine/\
 ∀p,H p=none->Q (.ref p) (upd H p<|.lst (List.replicate k.toNat xs).flatten)
def len_rep{α:Type}(xs:List α)(k:Nat):(List.replicate k xs).flatten.length=k*xs.length:=by
 induction k with
 |zero=>simp
 |succ k ih=>rw[gN,mh,qz,ih,h9,nW]
def GW:c4 X (binaryOp .Mult) Oy:=by
 intro pins s σ H x y v u Q I rx ry h;obtain⟨l,k,xs,rfl,rfl,hH,h1,h2,hz,q⟩:=h;cases rx;obtain⟨t,rfl⟩:=ry;obtain⟨z,its,n,r,hl,e⟩:=I.zbQ hH;have hlen:its.toArray.size*k.toNat<=sizeLine:=by rw[qH,<-hl];exact hz
 have C7:¬its.toArray.size*k.toNat>(2 ^ 63 - 1) / 8:=by
  have:(sizeLine:Nat)<=(2 ^ 63 - 1) / 8:=by decide
  omega
 have oR:¬(!Builtin.List.listFitsIndex k)=true:=by
  rw[fitsIndex_both h1 h2];exact qR
 have e9:¬Builtin.List.listTooLong (its.toArray.size*k.toNat)=true:=by
  rw[ZU hlen];exact qR
 have C8:List.foldl (λx1 x2=>x1++x2) #[] (List.replicate (if its.toArray.isEmpty=true then 0 else k.toNat) its.toArray)=(List.replicate k.toNat its).flatten.toArray:=by
  have f0:∀m:Nat,List.foldl (λx1 x2=>x1++x2) #[] (List.replicate m its.toArray)=(List.replicate m its).flatten.toArray:=λm=>by
   have:=foldl_rep its m [];rwa[pW] at this
  rw[f0];cases its with
  |nil=>simp
  |cons a r'=>rw[qm<|by simp]
 refine wpAny_binaryOp_repeat_ref (T:="list") (U:="int") (by decide) ⟨_,e,rfl⟩ (λs'=>pU s' k t) noFill_list_mul PySem.F.fills_int_mul pq repeat_list PySem.F.slot_int_index.lookup
  (mr pq (pU s k t) PySem.F.entry_int_rmul (PySem.F.args_int_rmul_2 _ _) (int___rmul___int_list k t l its.toArray n)
   ⟨e,rfl,⟨_,e,rfl⟩,mr PySem.F.slot_list_mul ⟨_,e,rfl⟩ PySem.F.entry_list_mul (PySem.F.args_list_mul_2 _ _) (AutoListH.list___mul___list_int_3 l its.toArray n k t oR C7 e9) ⟨e,?_⟩⟩)
 rw[C8];exact⟨.ref _,_,I.lnew (t':=s.toks) (r.rep k.toNat) (by rw[len_rep,gG];exact hz),rfl,q _ I.fresh⟩
end
end L2
namespace Att
open PySem PySem.W PySem.Calls PyProof.Rows
def W8{P:Params}:∀(ns:List Int)(vs:LVl),WellAll P h vs (ns.map WData.int)->IntsAre vs ns:=by
 intro ns;induction ns with
 |nil=>
  intro vs w;rw[pJ] at w;cases w;exact .nil
 |cons n ns ih=>
  intro vs w;rw[gH] at w;cases w with
  |cons a b=>
   cases a;exact .cons _ _<|ih _ b
def Oz{l:OpenLaw}(hn:l.most=some n){P:Params}{args:List WData}{vals:LVl}(iU:l.row.toRowW.claim.pre args=true)(C9:WellAll P h vals args):∃a vs ns,vals=[Value.ref a]/\args=[WData.list<|ns.map WData.int]/\h.get? a=some { cls:=.type "list",data:=.seq vs.toArray }/\IntsAre vs ns/\ns.length<=n:=by
 have OA:WShape.hasAll [] args [.list .int]=true:=(pre_splitW iU).1;have hc:l.pre.holds [] { args:=args }=true:=(pre_splitW iU).2
 obtain⟨d,r,rfl,h1,h2⟩:=hasAllW_cons OA;obtain rfl:=hasAllW_nil h2;obtain⟨xs,rfl,h3⟩:=hasW_list h1;obtain⟨ns,rfl⟩:=items_int h3;have hlen:ns.length<=n:=by
  unfold OpenLaw.pre at hc;have h4:(WTm.not<|.lt (.lit<|.int (n:Int))<|.len<|.arg 0).holds [] { args:=[.list<|ns.map .int] }=true:=by
   have h4:=(holds_andW hc).1;rwa[hn] at h4
  have h5:=condW_of h4<|w_not<|w_lt w_lit<|w_len_list<|w_arg rfl;rw[qf] at h5;refine kz λq=>?_
  have q':(n:Int)<((ns.length:Nat):Int):=by omega
  first
   |(rw[qG q'] at h5;exact absurd h5<|by decide)
   |(simp at h5;omega)
 cases C9 with
 |cons w1 w2=>
  cases w2;cases w1 with
  |list ho Dc=>exact⟨_,_,ns,rfl,rfl,ho,W8 ns _ Dc,hlen⟩
def OB(l:OpenLaw)(args:List WData):l.row.toRowW.claim.post args (.bool true) args=true:=postW_of (r:=l.row.toRowW) (X:=(true==true))
  (show WShape.has [] (.bool true) .bool=true by first |rfl|decide|simp[WShape.has,WShape.arms,WShape.armsAll])
  (show(WTm.eq .res<|.lit<|.bool true).value [] { args:=args,res:=some (.bool true),after:=args }=some (.bool<|true==true) from w_eq_bool (w_res rfl) w_lit) rfl
def zc8{l:OpenLaw}{n:Nat}{q:Program}{loose:LSr}{XP:(Str->Option Value)->Heap->Prop}{YP:World->Heap->Prop}{d:DefRec}(hn:l.most=some n)(tI:d.params.defaults=[])(call:∀(w:World)(s₀ bV:ShX)(mg mb:Str->Option Value)(fa:AdX)(o:Obj)(pm cd doc:Value)(a:AdX)(vs:LVl)(ns:List Int),
   Ground q loose [] XP w s₀ mg mb bV.heap->YP w bV.heap->
   bV.heap.get? fa=some o->o.data=.func (docDef d.name d.params d.body d.scope pm cd doc)->bV.heap.CodeRec cd d.name->mg d.name=some (.ref fa)->
   bV.heap.get? a=some { cls:=.type "list",data:=.seq vs.toArray }->IntsAre vs ns->ns.length<=n->bV.gens=#[]->
   codeAny (model l.prog w) callerA (.call (.ref fa) ⟨[.ref a],[]⟩) (λr s'=>r=.ok (.ret<|.bool true)/\OldK bV.heap s'.heap/\s'.os=bV.os/\AllBare s'.gens) bV):WalkO q loose XP YP l.row.toRowW d [] (λf vs=>PySem.call f vs):=by
 intro w s₀ bV mg mb G Y fa o pm cd doc dV kV ho hd b6 hD hmg hg args vals as iU OC hrd C9 hlo;obtain rfl:dV=.none:=Dflts.none hD tI;obtain rfl:kV=.none:=Dflts.noKw hD;obtain⟨a,vs,ns,rfl,rfl,oT,hints,hlen⟩:=Oz hn iU C9;refine enter_call<|p5 (call w s₀ bV mg mb fa o pm cd doc a vs ns G Y ho (fd_plain hd) b6 hmg oT hints hlen hg) λr s' hq=>?_;obtain⟨rfl,h2,h3,h4⟩:=hq;exact⟨.inl ⟨.bool true,.bool true,[],rfl,λ_=>rfl,.bool true,OB l _,λ_=>⟨List.Pairwise.nil,λ_ hm=>(nomatch hm)⟩⟩,h2,h3,h4⟩
end Att
namespace L2
open PySem PySem.Spec PyProof.Rows
theorem GX:∀{vs:LVl} {ns:List Int},IntsAre vs ns->Vals (ns.map V.int) vs
 |_,_,.nil=>.nil
 |_,_,.cons n t h=>.cons ⟨t,rfl⟩<|GX h
def oU(H:Hp):Prop:=∀b,H b=none\/∃o xs,H b=some (.frz o<|.lst xs)
def OD{mb:Str->Option Value}{fa:AdX}{bV:ShX}{vs:LVl}(KX:K.In bV.heap)(iE:bV.heap.Ns mainGlobals mg)(hb:bV.heap.Ns builtinsNs mb)(OE:∀x:Str,x≠"__name__"->mb x=bootBuiltins x)(Dd:bV.heap.NoLimit)(hg:bV.gens=#[])(ha:bV.heap.get? a=some { cls:=.type "list",data:=.seq vs.toArray })(hi:IntsAre vs ns)(hl:ns.length<=sizeLine)(hr:bZ k callerA)(F:∀base:Heap,K.In base->base.Ns mainGlobals mg->wu P w K mg base CX k fa fd [x] sp)(tK:∀(s:ShX)(u:Value),BindsTo s fd ⟨[u],[]⟩ [(x,u)])(fK:∀H:Hp,oU H->cm K H a (ns.map V.int)->sp [.ref a] H (λv _=>v=.bl true) λ_ _ _=>False)(De:∀H e s',CX [] H bV (λ_ _ _=>False) e s'->False):codeAny (model P w) callerA (.call (.ref fa) ⟨[.ref a],[]⟩) (λr s'=>r=.ok (.ret<|.bool true)/\OldK bV.heap s'.heap/\s'.os=bV.os/\AllBare s'.gens) bV:=by
 have rv:=GX hi;have Df:=hi.length
 have core:∀H:Hp,oU H->cm K H a (ns.map V.int)->dR P w H bV.heap->(∀b,H b≠none->b=a)->(H a≠none->K.lookup a=none)->
   codeAny (model P w) callerA (.call (.ref fa) ⟨[.ref a],[]⟩) (λr s'=>r=.ok (.ret<|.bool true)/\OldK bV.heap s'.heap/\s'.os=bV.os/\AllBare s'.gens) bV:=by
  intro H hO hS hok hA hK;have base_of:∀{b:AdX} {o:Obj},bV.heap.get? b=some o->H b=none->(iR bV.heap H).get? b=some o:=λe n=>MB e n
  have tE:∀{b:AdX} {o:Obj} {es:Array DictEntry} {ep:Nat},bV.heap.get? b=some o->o.data=.dict es ep->H b=none:=λ{b o es ep} e d=>by
   cases q:H b with
   |none=>rfl
   |some u=>
    have e':b=a:=hA b (by rw[q];simp);subst e';rw[ha] at e;cases e;have d':Data.seq vs.toArray _=Data.dict es ep:=d
    cases d'
  have Bi:∀{b:AdX} {m:Str->Option Value},bV.heap.Ns b m->(iR bV.heap H).Ns b m:=λ{b m} ⟨o,es,ep,e,d,r⟩=>⟨o,es,ep,base_of e<|tE e d,d,r⟩
  have GY:K.In (iR bV.heap H):=λb o e=>base_of (KX b o e) (by
   cases q:H b with
   |none=>rfl
   |some u=>
    have e':b=a:=hA b (by rw[q];simp);subst e';rw[hK<|by rw[q];simp] at e;cases e)
  have hM:Mod K mg (iR bV.heap H):=⟨GY,Bi iE,⟨mb,Bi hb,OE⟩,let ⟨mc,h1,h2⟩:=Dd;⟨mc,Bi h1,h2⟩⟩;have e0:oO P w K mg (iR bV.heap H) callerA [] bV H:=⟨rfl,hM,λb o e=>MC e,mP<|MA _ _,trivial,λb hb=>absurd (show b∈([]:LAd) from hb) (by simp),hok,.of_eq hg⟩
  refine p5 ((F _ GY<|Bi iE).run callerA [] bV H ⟨[.ref a],[]⟩ [.ref a] [.ref a] _ _ hr e0 (tK bV<|.ref a) (.cons rfl .nil)<|fK H hO hS) λr s' h=>?_
  cases r with
  |error e=>exact(De H e s' h).elim
  |ok fl=>
   cases fl with
   |next=>exact False.elim h
   |brk=>exact False.elim h
   |cont=>exact False.elim h
   |ret u=>
    obtain⟨v,H',os,bare,un,Dg,r',q⟩:=h;have q':v=.bl true:=q;subst q';obtain rfl:u=Value.bool true:=r';refine⟨rfl,OldK.of_keep λb o e=>?_,os,bare⟩;cases q:H b with
    |none=>exact un.keep b o e q (by intro z;exact absurd (show b∈([]:LAd) from z)<|by simp) (by simp)
    |some u=>
     rcases hO b with z|⟨ob,xs,z⟩
     ·rw[q] at z;cases z
     ·have z2:=un.frzs b ob _ z;obtain⟨e1,_⟩:=hok b _ z;obtain⟨e2,_⟩:=Dg b _ z2;rw[e] at e1;cases e1;exact e2
 cases hk:K.lookup a with
 |some o=>
  have e:=KX a o hk;rw[ha] at e;cases e;refine core (λ_=>none) (λ_=>.inl rfl) (.inr ⟨_,vs.toArray,_,hk,rfl,rfl,rfl,by rw[qH,Df];exact hl,by simpa using rv⟩) (λb u z=>by have z':(none:Option HO)=some u:=z;cases z') (λb z=>absurd rfl z) λz=>absurd rfl z
 |none=>
  refine core (λb=>if b=a then some (.frz { cls:=.type "list",data:=.seq vs.toArray }<|.lst<|ns.map V.int) else none) (λb=>?_) (.inl<|.inr ⟨{ cls:=.type "list",data:=.seq vs.toArray },qj rfl⟩) (λb u z=>?_) (λb z=>?_) λ_=>hk
  ·by_cases hb:b=a
   ·exact .inr ⟨_,_,qj hb⟩
   ·exact .inl<|qm hb
  ·by_cases hb:b=a
   ·have z':=(qj hb).symm.trans z;cases z';subst hb;exact⟨ha,by rw[qf];exact hl,vs,_,rv,ha⟩
   ·have z':=(qm hb).symm.trans z;cases z'
  ·by_cases hb:b=a
   ·exact hb
   ·exact absurd (qm hb) z
def zkr{l:W.OpenLaw}{n k:Nat}{q:Program}{loose:LSr}{XP:(Str->Option Value)->Heap->Prop}{YP:World->Heap->Prop}{d:DefRec}{K:Params->W.Frag}{CX:World->CXT}{sp:World->Sp}{x:Str}(hn:l.most=some n)(oN:n<=sizeLine)(tI:d.params.defaults=[])(hr:bZ k callerA)(hY:∀(w:World)(h:Heap),YP w h->(K w.params).In h)(F:∀(w:World)(mg:Str->Option Value)(fa:AdX)(h:Heap),(K w.params).In h->h.Ns mainGlobals mg->mg d.name=some (.ref fa)->
   ∃fd:FuncData,(∀(s:ShX)(u:Value),BindsTo s fd ⟨[u],[]⟩ [(x,u)])/\
    ∀base:Heap,(K w.params).In base->base.Ns mainGlobals mg->wu l.prog w (K w.params) mg base (CX w) k fa fd [x] (sp w))(fK:∀(w:World)(H:Hp)(a:AdX)(ns:List Int),ns.length<=n->oU H->cm (K w.params) H a (ns.map V.int)->sp w [.ref a] H (λv _=>v=.bl true) λ_ _ _=>False)(De:∀(w:World)(H:Hp)(s:ShX)(e:Value)(s':ShX),CX w [] H s (λ_ _ _=>False) e s'->False):W.WalkO q loose XP YP l.row.toRowW d [] (λf vs=>PySem.call f vs):=by
 refine Att.zc8 hn tI λw s₀ bV mg mb fa o pm cd doc a vs ns G Y ho hd b6 hmg oT hints hlen hg=>?_
 have KX:=hY w _ Y;obtain⟨fd,hb,hF⟩:=F w mg fa _ KX G.T.g hmg;exact OD KX G.T.g G.T.b G.T.builtins G.T.nolimit hg oT hints (qr hlen oN) hr hF hb (λH hO hS=>fK w H a ns hlen hO hS) λH e s'=>De w H bV e s'
noncomputable def inClass(s:Stmt)(j:Nat):Stmt:=match s with
 | .ClassDef _ _ _ body _ _ _ _ _ _ _=>body.getD j<|.Pass ⟨0,0,0,0⟩
 |_=>.Pass ⟨0,0,0,0⟩
noncomputable def jt(s:Stmt):Arguments:=match s with
 | .FunctionDef _ a _ _ _ _ _ _ _ _=>a
 |_=>{ posonlyargs:=[],args:=[],vararg:=none,kwonlyargs:=[],kw_defaults:=[],kwarg:=none,defaults:=[] }
noncomputable def yN(s:Stmt):List Stmt:=match s with
 | .FunctionDef _ _ b _ _ _ _ _ _ _=>b
 |_=>[]
noncomputable def zf(s:Stmt):Scope:=match s with
 | .FunctionDef _ _ _ _ _ _ sc _ _ _=>sc
 |_=>{ kind:=.function,names:=[],isGenerator:=false,isCoroutine:=false }
abbrev dO:CXT:=λ_ _ _ _ _ _=>False
abbrev E0:XK:=λ_ _ _=>False
def Js:Passes dO X E0:=λ_ _ _ _ _ _ _ h=>h.elim
structure iF(K:FRx)(x qual:Str)(st:Stmt)(f:AdX)(fd:FuncData):Prop where
 ex:∃(oc:Value) (od:Option Addr) (kV doc pm:Value) (an:Option Addr) (b5 ct:Value) (lH:Array (Option Value)),
  fd=W.fnOf x qual (jt st) (yN st) (zf st) .none kV doc pm an b5 ct/\K.lookup f=some ⟨oc,od,.func fd,lH⟩/\W.codeIn K b5 qual=true
 kp:W.keepIn K (.ref f)=true
section
def iF.ok{x qual:Str}{st:Stmt}{f:AdX}{fd:FuncData}{N ps:LSr}{k:Nat}{sp:Sp}(F:iF K x qual st f fd)(S:zx N ps (zf st))(len:∀vs H Q E,sp vs H Q E->vs.length=ps.length)(cv:∀(b5:Value)(A:Around)(outer:List Env)(s:ShX)(H:Hp)(vs:List V)(Q:VK)(E:XK),bZ k (A.deeper<|envOfC qual (zf st) s.heap.objs.size f b5)->sp vs H Q E->
   ∃t,eQ (Uh dO P w K mg base N qual (zf st) f b5 A outer s H E).nox (yN st) t/\t { nx:=λ_ H'=>Q .non H',rt:=Q } (start N vs) H):wu P w K mg base dO (k+1) f fd ps sp:=by
 obtain⟨oc,od,kV,doc,pm,an,b5,ct,lH,rfl,lk,b6⟩:=F.ex;refine N3 lk b6 S len λA outer s H vs Q E hr fK=>?_
 obtain⟨t,h,q⟩:=cv b5 A outer s H vs Q E hr fK;exact⟨t,h.nox,q⟩
def iF.binds{st:Stmt}{f:AdX}(F:iF K x qual st f fd)(h:∀(kV doc pm:Value)(an:Option Addr)(b5 ct:Value)(us:LVl),us.length=ps.length->bindArgs (W.fnOf x qual (jt st) (yN st) (zf st) .none kV doc pm an b5 ct) ⟨us,[]⟩=pure (ps.zip us)):Binds K fd ps []:=by
 obtain⟨oc,od,kV,doc,pm,an,b5,ct,lH,rfl,lk,b6⟩:=F.ex;exact .all<|h kV doc pm an b5 ct
def Bj{st:Stmt}{f:AdX}{lH:Array (Option Value)}{kV doc b5:Value}(l:K.lookup f=some ⟨oc,od,.func<|W.fnOf x qual (jt st) (yN st) (zf st) .none kV doc pm an b5 ct,lH⟩)(c:W.codeIn K b5 qual=true)(k:W.keepIn K (.ref f)=true):iF K x qual st f (W.fnOf x qual (jt st) (yN st) (zf st) .none kV doc pm an b5 ct):=⟨⟨oc,od,kV,doc,pm,an,b5,ct,lH,rfl,l,c⟩,k⟩
end
def bJ(H H':Hp):Prop:=∀b o,H b=some o->H' b=some o
def bJ.refl(H:Hp):bJ H H:=λ_ _ h=>h
def bJ.trans{H2:Hp}(a:bJ H H1)(b:bJ H1 H2):bJ H H2:=λc o h=>b c o<|a c o h
def bJ.free(e:bJ H H')(h:H' l=Option.none):H l=Option.none:=by
 cases q:H l with
 |none=>rfl
 |some o=>
  rw[e l o q] at h;cases h
def bJ.seq(e:bJ H H')(h:cm K H a xs):cm K H' a xs:=by
 rcases h with(h|⟨o,h⟩)|h
 ·exact .inl<|.inl<|e _ _ h
 ·exact .inl<|.inr ⟨o,e _ _ h⟩
 ·exact .inr h
end L2
set_option maxHeartbeats 4000000
namespace L2
open PySem PySem.Spec PyProof.Rows
mutual
inductive Rep(K:FRx)(H:Hp):V->PyData->Prop
 |non:Rep K H .non .none
 |bl (b:Bool):Rep K H (.bl b) (.bool b)
 |int (i:Int):Rep K H (.int i) (.int i)
 |str (x:Str):Rep K H (.str x) (.str x)
 |tup {a:AdX} {xs:List V} {ds:LPd}:cP K H a xs->bP K H xs ds->Rep K H (.ref a) (.tuple ds)
 |lst {a:AdX} {xs:List V} {ds:LPd}:cm K H a xs->bP K H xs ds->Rep K H (.ref a) (.list ds)
inductive bP(K:FRx)(H:Hp):List V->List PyData->Prop
 |nil:bP K H [] []
 |cons {v:V} {d:PdX} {vs:List V} {ds:LPd}:Rep K H v d->bP K H vs ds->bP K H (v::vs) (d::ds)
end
def bJ.tup(e:bJ H H')(h:cP K H a xs):cP K H' a xs:=by
 rcases h with(h|⟨o,h⟩)|h
 ·exact .inl<|.inl<|e _ _ h
 ·exact .inl<|.inr ⟨o,e _ _ h⟩
 ·exact .inr h
mutual
theorem Rep.same{K:FRx}{H H':Hp}(e:bJ H H'):∀{v:V} {d:PdX},Rep K H v d->Rep K H' v d
 |_,_,.non=>.non
 |_,_,.bl b=>.bl b
 |_,_,.int i=>.int i
 |_,_,.str x=>.str x
 |_,_,.tup h r=>.tup (e.tup h)<|bP.same e r
 |_,_,.lst h r=>.lst (e.seq h)<|bP.same e r
theorem bP.same{K:FRx}{H H':Hp}(e:bJ H H'):∀{vs:List V} {ds:LPd},bP K H vs ds->bP K H' vs ds
 |_,_,.nil=>.nil
 |_,_,.cons h r=>.cons (Rep.same e h) (bP.same e r)
end
theorem bP.length{K:FRx}{H:Hp}:∀{vs:List V} {ds:LPd},bP K H vs ds->vs.length=ds.length
 |_,_,.nil=>rfl
 |_,_,.cons _ r=>by simp[bP.length r]
theorem bP.getD{K:FRx}{H:Hp}:∀{vs:List V} {ds:LPd} {i:Nat} {d:PdX},bP K H vs ds->ds[i]?=some d->∃v,vs[i]?=some v/\Rep K H v d
 |_,_,_,_,.nil,e=>by simp at e
 |_,_,0,_,.cons h _,e=>by simp at e;subst e;exact⟨_,rfl,h⟩
 |_,_,i+1,_,.cons _ r,e=>by
  obtain⟨d,h1,h2⟩:=bP.getD (i:=i) r (by simpa using e);exact⟨d,by simpa using h1,h2⟩
theorem bP.append{K:FRx}{H:Hp}:∀{vs ws:List V} {ds es:LPd},bP K H vs ds->bP K H ws es->bP K H (vs++ws) (ds++es)
 |_,_,_,_,.nil,s=>s
 |_,_,_,_,.cons h r,s=>.cons h<|bP.append r s
theorem bP.take{K:FRx}{H:Hp}:∀{vs:List V} {ds:LPd} (n:Nat),bP K H vs ds->bP K H (vs.take n) (ds.take n)
 |_,_,0,_=>.nil
 |_,_,_+1,.nil=>.nil
 |_,_,n+1,.cons h r=>.cons h<|bP.take n r
theorem bP.drop{K:FRx}{H:Hp}:∀{vs:List V} {ds:LPd} (n:Nat),bP K H vs ds->bP K H (vs.drop n) (ds.drop n)
 |_,_,0,r=>r
 |_,_,_+1,.nil=>.nil
 |_,_,n+1,.cons _ r=>bP.drop n r
theorem bP.ints{K:FRx}{H:Hp}:∀ns:List Int,bP K H (ns.map V.int)<|ns.map PyData.int
 |[]=>.nil
 |n::r=>.cons (.int n)<|bP.ints r
section
variable{s:ShX}
mutual
theorem Inv.reads(I:Inv X pins σ H s):∀{v:V} {d:PdX} {u:Value},Rep X.K H v d->RelV v u->∃as,Reads s.heap u d as
 |_,_,_,.non,r=>by cases (show _=Value.none from r);exact⟨_,.none⟩
 |_,_,_,.bl b,r=>by cases (show _=Value.bool b from r);exact⟨_,.bool b⟩
 |_,_,_,.int i,r=>by obtain⟨t,rfl⟩:=r;exact⟨_,.int i t⟩
 |_,_,_,.str x,r=>by obtain⟨t,rfl⟩:=r;exact⟨_,.str x t⟩
 |_,_,_,.tup h q,r=>by
  cases (show _=Value.ref _ from r);obtain⟨its,rv,⟨o,ho,hc,n,hd⟩,_⟩:=I.tuple h;obtain⟨as,ra⟩:=Inv.readsAll I q rv;exact⟨as,.tuple ho hc hd ra⟩
 |_,_,_,.lst h q,r=>by
  cases (show _=Value.ref _ from r);obtain⟨its,rv,⟨o,n,ho,hc,_,hd⟩,_⟩:=I.list h;obtain⟨as,ra⟩:=Inv.readsAll I q rv;exact⟨_,.list ho hc hd ra⟩
theorem Inv.readsAll(I:Inv X pins σ H s):∀{vs:List V} {ds:LPd} {us:LVl},bP X.K H vs ds->Vals vs us->∃as,ReadsAll s.heap us ds as
 |_,_,_,.nil,.nil=>⟨_,.nil⟩
 |_,_,_,.cons h q,.cons r1 r2=>by
  obtain⟨as,a⟩:=Inv.reads I h r1;obtain⟨bs,b⟩:=Inv.readsAll I q r2;exact⟨_,.cons a b⟩
end
end
section
def yP:c4 X (binaryOp .Mult) (rI IntMulOk λi j=>.int<|i*j):=CT λ_ _ _ _ _ _ _ hc q=>mul_int q hc
def G1(_ j:Int):Prop:=j≠0/\j.natAbs.log2<9000
def yS:c4 X (binaryOp .FloorDiv) (rI G1 λi j=>.int<|i.fdiv j):=CT λ_ _ _ _ _ _ _ hc q=>floordiv_int hc.1 q<|.inl<|PyProof.noPylong_of_log2 hc.2
def G2(K:FRx):R2:=λx y H Q=>∃d e,Rep K H x d/\Rep K H y e/\SeqAt.shaped d=true/\SeqAt.shaped e=true/\Q (.bl<|PyData.eqv d e) H
def G3(K:FRx):R2:=λx y H Q=>∃d e,Rep K H x d/\Rep K H y e/\SeqAt.shaped d=true/\SeqAt.shaped e=true/\Q (.bl<|!PyData.eqv d e) H
def wK(hu:X.A.units+64<cLine):c4 X (compareOp .Eq) (G2 X.K):=by
 intro pins s σ H x y v u Q I rx ry h;obtain⟨d,e,hd,he,sd,se,q⟩:=h;obtain⟨as,ra⟩:=I.reads hd rx;obtain⟨bs,rb⟩:=I.reads he ry;exact eq_dataH ra rb sd se hu ⟨.bl _,H,I,rfl,q⟩
def jl(hu:X.A.units+64<cLine):c4 X (compareOp .NotEq) (G3 X.K):=by
 intro pins s σ H x y v u Q I rx ry h;obtain⟨d,e,hd,he,sd,se,q⟩:=h;obtain⟨as,ra⟩:=I.reads hd rx;obtain⟨bs,rb⟩:=I.reads he ry;exact ne_dataH ra rb sd se hu ⟨.bl _,H,I,rfl,q⟩
inductive fM(K:FRx)(H:Hp):V->String->Bool->Prop
 |int_int (i:Int):fM K H (.int i) "int" true
 |int_bool (i:Int):fM K H (.int i) "bool" false
 |int_tup (i:Int):fM K H (.int i) "tuple" false
 |bl_int (b:Bool):fM K H (.bl b) "int" true
 |bl_bool (b:Bool):fM K H (.bl b) "bool" true
 |tup_tup {a:AdX} {xs:List V}:cP K H a xs->fM K H (.ref a) "tuple" true
 |tup_lst {a:AdX} {xs:List V}:cP K H a xs->fM K H (.ref a) "list" false
 |tup_int {a:AdX} {xs:List V}:cP K H a xs->fM K H (.ref a) "int" false
 |lst_lst {a:AdX} {xs:List V}:cm K H a xs->fM K H (.ref a) "list" true
 |lst_tup {a:AdX} {xs:List V}:cm K H a xs->fM K H (.ref a) "tuple" false
 |lst_int {a:AdX} {xs:List V}:cm K H a xs->fM K H (.ref a) "int" false
def OF(K:FRx):List V->Hp->VK->Prop:=λxs H Q=>∃x T b,xs=[x,.ty T]/\fM K H x T b/\Q (.bl b) H
def OG:vS X (.builtin "isinstance") (OF X.K):=by
 intro pins s σ H xs us Q I r h;obtain⟨x,T,b,rfl,hi,q⟩:=h;obtain⟨u,w',rfl,rx,rT⟩:=vals2 r;cases (show w'=Value.type T from rT);have fin:∀tk,EP X pins σ Q (.bool b) { s with toks:=tk }:=λtk=>⟨.bl b,H,I.tok tk,rfl,q⟩
 have f7:EP X pins σ Q (.bool b) s:=⟨.bl b,H,I,rfl,q⟩;cases hi with
 |int_int i=>obtain⟨t,rfl⟩:=rx;exact IsiPair.int_int f7
 |int_bool i=>obtain⟨t,rfl⟩:=rx;exact IsiPair.int_bool<|fin _
 |int_tup i=>obtain⟨t,rfl⟩:=rx;exact IsiPair.int_tuple<|fin _
 |bl_int i=>cases (show u=Value.bool i from rx);exact IsiPair.bool_int f7
 |bl_bool i=>cases (show u=Value.bool i from rx);exact IsiPair.bool_bool f7
 |tup_tup h=>cases (show u=Value.ref _ from rx);obtain⟨its,rv,⟨o,ho,hc,n,hd⟩,_⟩:=I.tuple h;exact IsiPair.tuple_tuple ho hc f7
 |tup_lst h=>cases (show u=Value.ref _ from rx);obtain⟨its,rv,⟨o,ho,hc,n,hd⟩,_⟩:=I.tuple h;exact IsiPair.tuple_list ho hc<|fin _
 |tup_int h=>cases (show u=Value.ref _ from rx);obtain⟨its,rv,⟨o,ho,hc,n,hd⟩,_⟩:=I.tuple h;exact IsiPair.tuple_int ho hc<|fin _
 |lst_lst h=>cases (show u=Value.ref _ from rx);obtain⟨its,rv,⟨o,n,ho,hc,_,hd⟩,_⟩:=I.list h;exact IsiPair.list_list ho hc f7
 |lst_tup h=>cases (show u=Value.ref _ from rx);obtain⟨its,rv,⟨o,n,ho,hc,_,hd⟩,_⟩:=I.list h;exact IsiPair.list_tuple ho hc<|fin _
 |lst_int h=>cases (show u=Value.ref _ from rx);obtain⟨its,rv,⟨o,n,ho,hc,_,hd⟩,_⟩:=I.list h;exact IsiPair.list_int ho hc (fin _)
end
def YR:bootBuiltins "len"=some (.builtin "len"):=by decide+kernel
def G4:bootBuiltins "abs"=some (.builtin "abs"):=by decide+kernel
def OH:bootBuiltins "sum"=some (.builtin "sum"):=by decide+kernel
def OI:bootBuiltins "isinstance"=some (.builtin "isinstance"):=by decide+kernel
def OJ:bootBuiltins "int"=some (.type "int"):=by decide+kernel
def OK:bootBuiltins "bool"=some (.type "bool"):=by decide+kernel
def vK:bootBuiltins "tuple"=some (.type "tuple"):=by decide+kernel
def vz:bootBuiltins "list"=some (.type "list"):=by decide+kernel
def OL(mg:Str->Option Value)(l:LSr):Prop:=∀x∈l,mg x=none
def HasDef(K:FRx)(mg:Str->Option Value)(x:Str)(st:Stmt):Prop:=∃f fd,iF K x x st f fd/\mg x=some (.ref f)
def Def(P:Program)(w:World)(K:FRx)(mg:Str->Option Value)(base:Heap)(CX:CXT)(k:Nat)(x:Str)(ps:LSr)(sp:Sp):Prop:=∃f fd,wu P w K mg base CX k f fd ps sp/\Binds K fd ps []/\W.keepIn K (.ref f)=true/\mg x=some (.ref f)
section
def Def.mk{x:Str}{st:Stmt}{N ps:LSr}{k:Nat}{sp:Sp}(h:HasDef K mg x st)(S:zx N ps (zf st))(hb:∀(kV doc pm:Value)(an:Option Addr)(b5 ct:Value)(us:LVl),us.length=ps.length->bindArgs (W.fnOf x x (jt st) (yN st) (zf st) .none kV doc pm an b5 ct) ⟨us,[]⟩=pure (ps.zip us))(len:∀vs H Q E,sp vs H Q E->vs.length=ps.length)(cv:∀(f:AdX)(b5:Value)(A:Around)(outer:List Env)(s:ShX)(H:Hp)(vs:List V)(Q:VK)(E:XK),bZ k (A.deeper<|envOfC x (zf st) s.heap.objs.size f b5)->sp vs H Q E->
   ∃t,eQ (Uh dO P w K mg base N x (zf st) f b5 A outer s H E).nox (yN st) t/\t { nx:=λ_ H'=>Q .non H',rt:=Q } (start N vs) H):Def P w K mg base dO (k+1) x ps sp:=by
 obtain⟨f,fd,F,hm⟩:=h;exact⟨f,fd,F.ok S len λb5 A outer s H vs Q E hr hs=>cv f b5 A outer s H vs Q E hr hs,F.binds hb,F.kp,hm⟩
end
section
variable{E:XK}{t:TA}
def VT(D:Def X.prog X.w X.K X.mg X.base CX k x ps sp)(hr:bZ k' X.A)(hg:Gl X x)(hx:Passes CX X E)(ha:PA X (e::es) t)(hk:k<=k':=by decide)(c8:NDx x:=by decide)(he:cT X e es:=by rfl)(cJ:d9 X pos es:=by rfl):PE X (.Call (.Name x p) (e::es) [] pos) (Gr sp [] E t):=by
 obtain⟨f,fd,F,B,kp,m⟩:=D;exact NY F (hr.mono hk) hg m kp B .nil hx ha c8 he cJ
end
def yb{p:AdX}(h:H p=none)(o:HO):bJ H (upd H p o):=λb u q=>by rw[zY<|jJ q h];exact q
theorem Zb{env:Env}:∀(l:List (Str×NameKind)) (cs:LSA),(∀x∈l,x.2=.free->∃c,env.cells.lookup x.1=some c)->
  ∃cl,(forIn l cs λ(x:Str×NameKind) (cs:LSA)=>if (x.2==NameKind.free)=true then (do let c <-cellOf env x.1;pure (ForInStep.yield<|(x.1,c)::cs):Sem (ForInStep<|List<|Str×Addr)) else pure (ForInStep.yield cs))=(pure cl:Sem (List<|Str×Addr))
   /\(∀p∈cl,p∈cs\/env.cells.lookup p.1=some p.2)/\(∀p∈cs,p∈cl)/\∀n,(n,NameKind.free)∈l->∃c,(n,c)∈cl
 |[],cs,_=>⟨cs,rfl,λp hp=>.inl hp,λp hp=>hp,λn hn=>absurd hn<|by simp⟩
 |(n,k)::r,cs,h=>by
  by_cases hk:k=.free
  ·subst hk;obtain⟨c,hc⟩:=h (n,.free) qZ rfl;obtain⟨cl,e,h1,h2,h3⟩:=Zb r ((n,c)::cs) λx hx=>h x<|qA _ hx
   have ec:cellOf env n=pure c:=by
    unfold cellOf;rw[hc]
   refine⟨cl,?_,λp hp=>?_,λp hp=>h2 p<|qA _ hp,λm hm=>?_⟩
   ·rw[ni];show((do let c <-cellOf env n;pure (ForInStep.yield<|(n,c)::cs):Sem (ForInStep<|List<|Str×Addr)) >>= _)=_
    rw[ec,pure_bind,pure_bind];exact e
   ·rcases h1 p hp with z|z
    ·rcases qy.mp z with z|z
     ·subst z;exact .inr hc
     ·exact .inl z
    ·exact .inr z
   ·rcases qy.mp hm with z|z
    ·cases z;exact⟨c,h2 _ qZ⟩
    ·exact h3 m z
  ·obtain⟨cl,e,h1,h2,h3⟩:=Zb r cs λx hx=>h x<|qA _ hx
   have hb:(k==NameKind.free)=false:=by simpa using hk
   refine⟨cl,?_,h1,h2,λm hm=>?_⟩
   ·rw[ni];show((if (k==NameKind.free)=true then _ else pure (ForInStep.yield cs):Sem (ForInStep<|List<|Str×Addr)) >>= _)=_
    rw[hb,qm qR,pure_bind];exact e
   ·rcases qy.mp hm with z|z
    ·cases z;exact absurd rfl hk
    ·exact h3 m z
structure Up(scope:Scope)(env:Env)(cl:LSA):Prop where
 from_:∀p∈cl,env.cells.lookup p.1=some p.2
 all:∀n,(n,NameKind.free)∈scope.names->∃c,(n,c)∈cl
def u4(h:∀x∈scope.names,x.2=.free->∃c,env.cells.lookup x.1=some c):∃cl,closureFor scope env=pure cl/\Up scope env cl:=by
 obtain⟨cl,e,h1,_,h3⟩:=Zb (env:=env) scope.names [] h;refine⟨cl,?_,λp hp=>(h1 p hp).resolve_left (by simp),h3⟩;have e2:closureFor scope env=(forIn scope.names [] λ(x:Str×NameKind) (cs:LSA)=>if (x.2==NameKind.free)=true then (do let c <-cellOf env x.1;pure (ForInStep.yield<|(x.1,c)::cs):Sem (ForInStep<|List<|Str×Addr)) else pure (ForInStep.yield cs)) >>= pure:=by rfl
 rw[e2,e];exact pure_bind _ _
def Z8{cl:LSA}{n:Str}{c:AdX}(h:(n,c)∈cl):∃c',cl.lookup n=some c':=by
 induction cl with
 |nil=>cases h
 |cons p r ih=>
  obtain⟨m,d⟩:=p;rw[kA];by_cases e:n=m
  ·subst e;exact⟨d,by simp⟩
  ·have hb:(n==m)=false:=by simpa using e
   rw[hb];rcases qy.mp h with z|z
   ·cases z;exact absurd rfl e
   ·exact ih z
def Up.look{cl:LSA}(k:Up scope env cl){c:AdX}(h:cl.lookup x=some c):env.cells.lookup x=some c:=k.from_ _<|kT h
def Up.has{cl:LSA}(k:Up scope env cl)(h:(x,NameKind.free)∈scope.names):∃c,cl.lookup x=some c/\env.cells.lookup x=some c:=by
 obtain⟨c,hc⟩:=k.all x h;obtain⟨c',e⟩:=Z8 hc;exact⟨c',e,k.look e⟩
def Ve:∀{k:NameKind},(relabel scope env).names.lookup x=some k->scope.names.lookup x=some k\/(k=.cell/\scope.names.lookup x=some .free):=by
 unfold relabel;dsimp only;generalize scope.names=l;induction l with
 |nil=>intro k h;cases h
 |cons p r ih=>
  intro k h;obtain⟨n,j⟩:=p;rw[gH,kA] at h;rw[kA];by_cases hc:(j==NameKind.free&&env.scope.kind==ScopeKind.function&&env.kindOf n==some NameKind.cell)=true
  ·rw[qj hc] at h;dsimp only at h;cases e:x==n with
   |true=>
    rw[e] at h;dsimp only at h;cases h;have hj:j=.free:=by
     simp only [g9,beq_iff_eq] at hc;exact hc.1.1
    subst hj;exact .inr ⟨rfl,rfl⟩
   |false=>
    rw[e] at h;exact ih h
  ·rw[qm hc] at h;dsimp only at h;cases e:x==n with
   |true=>
    rw[e] at h;exact .inl h
   |false=>
    rw[e] at h;exact ih h
def OM(h:scope.names.lookup x=some .free):(relabel scope env).names.lookup x=some .cell\/(relabel scope env).names.lookup x=some .free:=by
 revert h
 unfold relabel;dsimp only;generalize scope.names=l;induction l with
 |nil=>intro h;cases h
 |cons p r ih=>
  intro h;obtain⟨n,j⟩:=p;rw[kA] at h;rw[gH,kA];by_cases hc:(j==NameKind.free&&env.scope.kind==ScopeKind.function&&env.kindOf n==some NameKind.cell)=true
  ·rw[qj hc];dsimp only;cases e:x==n with
   |true=>exact .inl rfl
   |false=>rw[e] at h;exact ih h
  ·rw[qm hc];dsimp only;cases e:x==n with
   |true=>rw[e] at h;exact .inr h
   |false=>rw[e] at h;exact ih h
noncomputable def oV(o:Option Str)(C:AdX):List (Str×Addr):=match o with |some x=>[(x,C+1)]|none=>[]
def vA(X:Cx)(o:Option Str)(N:LSr)(scope:Scope)(cl:LSA)(C:AdX)(ex:LAd)(s:ShX)(H:Hp):Cx:={ X with N:=N,s₀:=s,H₀:=H,env:=compEnvC scope (oV o C++cl) C X.env,outer:=X.stack,ex:=ex,fn:=λy=>o==some y,pn:=[],xe:=λ_ _=>False }
abbrev UC(X:Cx)(N:LSr)(scope:Scope)(cl:LSA)(C:AdX)(ex:LAd)(s:ShX)(H:Hp):Cx:=vA X none N scope cl C ex s H
abbrev f9(X:Cx)(o:Option Str)(Ts:List Str)(F:List Nat)(scope:Scope)(cl:List (Str×Addr))(C:Addr)(ex:List Addr)(s:Shared)(H:Hp):Cx:=vA X o (Ts++F.map λj=>X.N.getD j "") scope cl C ex s H
abbrev c9(X:Cx)(Ts:List Str)(F:List Nat)(scope:Scope)(cl:List (Str×Addr))(C:Addr)(ex:List Addr)(s:Shared)(H:Hp):Cx:=f9 X none Ts F scope cl C ex s H
abbrev eh(X:Cx)(F:List Nat)(scope:Scope):Prop:=∀j∈F,∃x,X.N[j]?=some x/\scope.names.lookup x=some .free
structure xo(X:Cx)(scope:Scope)(o:Option Str):Prop where
 kind:scope.kind=.function
 is:∀x,o=some x->scope.names.lookup x=some .cell
 only:∀y∈scope.names,y.2=.cell->o=some y.1
 cf:∀(n:Nat)(acc:LSA),cellsFrom (n+1) scope.names acc=oV o n++acc
 pc:∀h:Heap,pushCells h scope.names=match o with |some _=>h.push { cls:=.type "cell",data:=.cell none }|none=>h
 loc:∀y∈scope.names,y.2=.local->scope.names.lookup y.1=some .local
 free:∀y∈scope.names,y.2=.free->X.env.kindOf y.1=some .cell\/X.env.kindOf y.1=some .free
structure yn(X:Cx)(scope:Scope):Prop where
 kind:scope.kind=.function
 nocell:∀y∈scope.names,y.2≠ .cell
 loc:∀y∈scope.names,y.2=.local->scope.names.lookup y.1=some .local
 free:∀y∈scope.names,y.2=.free->X.env.kindOf y.1=some .cell\/X.env.kindOf y.1=some .free
theorem eJ:∀names:List (Str×NameKind),(∀y∈names,y.2≠ .cell)->(∀n acc,cellsFrom n names acc=acc)/\∀h,pushCells h names=h
 |[],_=>⟨λ_ _=>rfl,λ_=>rfl⟩
 |(x,k)::r,h=>by
  have hk:¬(k==NameKind.cell)=true:=λe=>h _ (.head _)<|gQ.mp e
  obtain⟨h1,h2⟩:=eJ r λy hy=>h y<|.tail _ hy
  refine⟨λn acc=>?_,λhh=>?_⟩
  ·unfold cellsFrom;rw[qm hk];exact h1 n acc
  ·unfold pushCells;rw[qm hk];exact h2 hh
def yn.o(S:yn X scope):xo X scope none:=⟨S.kind,λx h=>(by cases h),λy hy h=>absurd h<|S.nocell y hy,λn acc=>(eJ _ S.nocell).1 (n+1) acc,λh=>(eJ _ S.nocell).2 h,S.loc,S.free⟩
def uL{o:Option Str}{c:AdX}{cl:LSA}(h:(oV o C++cl).lookup y=some c):(o=some y/\C+1=c)\/(o≠some y/\cl.lookup y=some c):=by
 cases o with
 |none=>exact .inr ⟨by simp,h⟩
 |some x=>
  have h:((x,C+1)::cl).lookup y=some c:=h;rw[kA] at h;cases e:y==x with
  |true=>rw[e] at h;cases h;exact .inl ⟨by rw[gQ.mp e],rfl⟩
  |false=>rw[e] at h;exact .inr ⟨λz=>beq_eq_false_iff_ne.mp e (kj z).symm,h⟩
def G5{o:Option Str}{cl:LSA}(h:¬o=some y):(oV o C++cl).lookup y=cl.lookup y:=by
 cases o with
 |none=>rfl
 |some x=>
  show((x,C+1)::cl).lookup y=_
  rw[kA,k8.mpr λz=>h<|by rw[z]]
def ON{o:Option Str}{cl:LSA}(h:o=some y):(oV o C++cl).lookup y=some (C+1):=by
 subst h;show((y,C+1)::cl).lookup y=_
 rw[kA,beq_self_eq_true]
noncomputable def UH(T:Nat)(F:LNt)(σ:St):St:=List.replicate T none++F.map λj=>(σ[j]?).join
section
variable{o:Option Str}{s:ShX}
def JR(I:Inv X pins σ H s)(S:xo X scope o):∀x∈scope.names,x.2=.free->∃c,X.env.cells.lookup x.1=some c:=λx hx hf=>I.ok.has x.1<|S.free x hx hf
def ZM(I:Inv X pins σ H s)(S:yn X scope):∀x∈scope.names,x.2=.free->∃c,X.env.cells.lookup x.1=some c:=JR I S.o
def OO(I:Inv X pins σ H s)(S:xo X scope o){cl:LSA}(k:Up scope X.env cl){N:LSr}(hC:s.heap.objs.size<=C)(hex:∀b∈ex,Jf X pins H b)(ia:∀b∈ex,∃o,s.heap.get? b=some o):(vA X o N scope cl C ex s H).Ok where
 mod:=I.ok.mod
 kind:=S.kind
 glob:=I.ok.glob
 blt:=I.ok.blt
 above:=hC
 inj:=λx y c h1 h2=>by
  have lt:∀z,cl.lookup z=some (C+1)->False:=λz hz=>by
   obtain⟨v,o,e,_⟩:=I.cell z _<|k.look hz;exact gp C<|pH (kZ C)<|qK (qX e) hC
  rcases uL h1 with⟨e1,z1⟩|⟨_,z1⟩<;>rcases uL h2 with⟨e2,z2⟩|⟨_,z2⟩
  ·rw[e1] at e2;exact kj e2
  ·rw[<-z1] at z2;exact(lt y z2).elim
  ·rw[<-z2] at z1;exact(lt x z1).elim
  ·exact I.ok.inj x y c (k.look z1) (k.look z2)
 has:=λx hx=>by
  have iG:(relabel scope X.env).names.lookup x=some .cell\/(relabel scope X.env).names.lookup x=some .free:=hx;by_cases Dh:o=some x
  ·exact⟨C+1,ON Dh⟩
  ·have hf:(x,NameKind.free)∈scope.names:=by
    rcases iG with h|h
    ·rcases Ve h with h|⟨_,h⟩
     ·exact absurd (S.only _ (kT h) rfl) Dh
     ·exact kT h
    ·rcases Ve h with h|⟨h0,_⟩
     ·exact kT h
     ·cases h0
   obtain⟨c,e,_⟩:=k.has hf;exact⟨c,(G5 Dh).trans e⟩
 cab:=λx c h hc=>by
  have hx:o=some x:=gQ.mp<|show(o==some x)=true from h;rcases uL hc with⟨_,z⟩|⟨z,_⟩
  ·rw[<-z];exact pI hC
  ·exact absurd hx z
 hd:=I.ok.hd
 frames:=I.ok.frames
 stk:=.inl rfl
 exf:=λb hb=>by
  obtain⟨o,e⟩:=ia b hb;have cC:=qX e;refine⟨λz=>?_,λx c e' z=>?_⟩
  ·have e2:b=C:=z;rw[e2] at cC;exact gp C<|qK cC hC
  ·rcases uL e' with⟨_,q⟩|⟨_,q⟩
   ·have e2:C+1=b:=q.trans z;rw[<-e2] at cC;exact gp C<|pH (kZ C)<|qK cC hC
   ·exact(hex b hb).2.2.2.2.1 x c (k.look q) z
 bs:=I.bs
 bsz:=qr I.ok.bsz I.sz
 noex:=λb o e hb=>by
  rcases(hex b hb).2.2.2.1 with z|z
  ·exact I.ok.noex b o e z
  ·exact gp _ (qK (qX e)<|qr I.ok.bsz z)
 exfs:=λb hb z=>by
  rcases qy.mp (I.zem b z) with z|z
  ·exact(hex b hb).2.1 z
  ·exact(hex b hb).2.2.1 z
 funs:=I.stack
 frf:=I.zfJ
def WB(I:Inv X pins σ H s)(S:xo X scope o){cl:LSA}(k:Up scope X.env cl)(hex:∀b∈ex,Jf X pins H b)(ia:∀b∈ex,∃o,s.heap.get? b=some o)(hF:eh X F scope)(iE:h'.Ns s.heap.objs.size (λ_=>none))(hk:∀b o,s.heap.get? b=some o->h'.get? b=some o)(ff:∀x,o=some x->h'.IsCell (s.heap.objs.size+1) none):Inv (vA X o (Ts++F.map λj=>X.N.getD j "") scope cl s.heap.objs.size ex s H) [] (UH Ts.length F σ) H { s with heap:=h',toks:=tk }:=by
 refine⟨OO I S k (qe _) hex ia,rfl,I.bare,Un.kept hk,⟨_,iE,λi x v h1 h2 h3=>?_⟩,λx c h=>?_,I.hok.fresh<|qe _,λx c h=>(by
   rcases uL h with⟨_,z⟩|⟨_,z⟩
   ·rw[<-z];exact I.hok.fresh (mJ _)
   ·exact I.freeC x c<|k.look z),λp hp=>absurd (show p∈([]:PNx) from hp) (by simp),I.hok.kept hk,?_⟩
 ·have oW:(Ts++F.map λj=>X.N.getD j "")[i]?=some x:=h1;unfold UH at h2;have hi:Ts.length<=i:=by
   by_cases z:Ts.length<=i
   ·exact z
   ·rw[qQ (by simpa using Nat.lt_of_not_le z),kK] at h2;split at h2<;>cases h2
  rw[qF (by simpa using hi),mV,qp] at h2;rw[qF hi,qp] at oW;cases ej:F[i - Ts.length]? with
  |none=>rw[ej] at h2;cases h2
  |some j=>
   rw[ej] at h2 oW;obtain⟨y,hy,hf⟩:=hF j<|qI ej;have ex:x=y:=by
    have e1:X.N.getD j ""=x:=kj oW;rw[qB,hy] at e1;exact e1.symm
   subst ex;have hs:σ[j]?=some (some v):=by
    have Bk:(σ[j]?).join=some v:=kj h2;cases e:σ[j]? with
    |none=>rw[e] at Bk;cases Bk
    |some o=>rw[e] at Bk;exact qM some Bk
   have G6:=S.free _ (kT hf) rfl;obtain⟨m,hn,hl⟩:=I.loc;have hv:cY X.env.scope x:=.inr G6
   obtain⟨u,r,l⟩:=hl j x v hy hs hv;refine⟨u,r,.inr ⟨OM hf,?_⟩⟩;rcases l with⟨Bl,_⟩|⟨_,c,hc,⟨o,ho,hd⟩⟩
   ·rcases G6 with z|z<;>(rw[z] at Bl;cases Bl)
   ·obtain⟨c',e1,e2⟩:=k.has<|kT hf;rw[hc] at e2;cases e2;exact⟨c,(G5 λq=>by rw[S.is _ q] at hf;cases hf).trans e1,⟨o,hk _ _ ho,hd⟩⟩
 ·rcases uL h with⟨z0,z⟩|⟨_,z⟩
  ·rw[<-z];exact⟨none,ff x z0⟩
  ·obtain⟨v,o,ho,hd⟩:=I.cell x c<|k.look z;exact⟨v,o,hk _ _ ho,hd⟩
 ·show(UH Ts.length F σ).length=(Ts++F.map λj=>X.N.getD j "").length
  simp[UH]
def OP(I:Inv X pins σ H s)(S:yn X scope){cl:LSA}(k:Up scope X.env cl)(hex:∀b∈ex,Jf X pins H b)(ia:∀b∈ex,∃o,s.heap.get? b=some o)(hF:eh X F scope)(iE:h'.Ns s.heap.objs.size (λ_=>none))(hk:∀b o,s.heap.get? b=some o->h'.get? b=some o):Inv (UC X (Ts++F.map λj=>X.N.getD j "") scope cl s.heap.objs.size ex s H) [] (UH Ts.length F σ) H { s with heap:=h',toks:=tk }:=WB I S.o k hex ia hF iE hk λx h=>(by cases h)
end
theorem JO{prog:Program}{w:World}{A:Around}{R:Result->Shared->Prop}{s:ShX}{elt target iter:Expr}{scope:Scope}{pos:Pos}{it acc:Value}{env:Env}(I:Nat->Shared->Prop)(turn:∀n s,I n s->wpAny (model prog w) A (pyNext it) (λr bV=>match r with
   |none=>R (.ok .next) bV
   |some v=>wpAny (model prog w) A (letOwnedTupleGo target it v) (λ_ dN=>wpAny (model prog w) A (assign target env v) (λ_ fN=>wpAny (model prog w) A (eval elt env) (λx fO=>
     wpAny (model prog w) A (call (.builtin "list.append") [acc,x]) (λ_ tL=>∃m,m<n/\I m tL) (λ_ _=>False) fO) (λ_ _=>False) fN) (λ_ _=>False) dN) (λ_ _=>False) bV) (λ_ _=>False) s)(n:Nat)(h:I n s):codeAny (model prog w) A (.compLoop (.ListComp elt [⟨target,iter,[],0⟩] scope pos) 0 it acc env) R s:=by
 refine codeAny_loop rfl I (λn s hI=>?_) n h;show wpAny _ _ ((compTurn (.ListComp elt [⟨target,iter,[],0⟩] scope pos) 0 it acc env).onRaise λx=>do noteFrame x env;theTreesLotGoes x) _ _ s
 refine wpAny_noted ?_;rw[compTurn_list1];refine qt<|nZ<|qt<|gB (turn n s hI) (λr bV dy=>?_) λ_ _ h'=>h'.elim;cases r with
 |none=>exact qS dy
 |some v=>
  refine qt<|gB dy (λ_ dN Di=>?_) λ_ _ h'=>h'.elim;exact qt<|gB Di (λ_ fN Dj=>qt<|qt<|gB Dj (λx fO Dk=>qt<|gB Dk
   (λ_ tL Dl=>qS<|qS ⟨rfl,Dl⟩) λ_ _ h'=>h'.elim) λ_ _ h'=>h'.elim) λ_ _ h'=>h'.elim
def Dm(T:Nat)(F:LNt)(g:TG)(te:TE)(k:Addr->Hp->Prop)(σ:St)(H1:Hp)(D:AdX)(J:It):Prop:=∃W:Nat->Nat->St->Hp->Prop,(∃m,W 0 m (UH T F σ)<|upd H1 D<|.lst [])/\∀i m bR H',W i m bR H'->
  (J.stop i H'/\k D H')\/(J.go i H'/\∃N:St->Hp->Prop,(∀cq H2,N cq H2->∃m',m'<m/\W (i+1) m' cq H2)/\
   ∀x H2,J.yld i H' x H2->g x bR H2 λcq H3=>te cq H3 λv H4=>∃xs,H4 D=some (.lst xs)/\xs.length<sizeLine/\N cq (upd H4 D<|.lst<|xs++[v]))
def Dp(T:Nat)(F:LNt)(wi:TI)(g:TG)(te:TE)(k:Addr->Hp->Prop):St->Hp->Prop:=λσ H=>wi σ H λJ H1=>∀D,H1 D=none->Dm T F g te k σ H1 D J
def G7(T:Nat)(F:LNt)(wi:TI)(g:TG)(te:TE):TE:=λσ H Q=>Dp T F wi g te (λD H'=>Q (.ref D) H') σ H
def YK{M:Model}{s:ShX}{o:Option Str}{globals:AdX}{cl:LSA}{Q:Env->Shared->Prop}(S:xo X scope o)(hQ:∀h',h'.Ns s.heap.objs.size (λ_=>none)->(∀b o,s.heap.get? b=some o->h'.get? b=some o)->(∀x,o=some x->h'.IsCell (s.heap.objs.size+1) none)->Q (newEnv scope s.heap.objs.size globals (oV o s.heap.objs.size++cl) qual none .none (some env) builtinsNs) { s with heap:=h',toks:=s.toks }):wpAny M A (newFunctionEnv scope globals cl [] qual none .none<|some env) Q E s:=by
 simp only [newFunctionEnv,Option.isSome_some,pE];refine qt<|wpAny_alloc ?_;refine qt<|wpAny_layCells _ (λname kind cells=>by cases OQ:kind==NameKind.cell<;>simp[OQ]) _ _ _ _ ?_;rw[show({ s with heap:=s.heap.push { cls:=.type "dict",data:=.dict #[] } }:ShX).heap.objs.size=s.heap.objs.size+1 from gC ..,S.cf,S.pc,n5];refine qt<|qS<|qS<|hQ _ ?_ ?_ ?_
 ·cases o with
  |none=>exact Heap.Ns.new s.heap<|.type "dict"
  |some x=>exact(Heap.Ns.new s.heap<|.type "dict").keeps λb o e=>qo _ e
 ·cases o with
  |none=>exact λb o e=>qo _ e
  |some x=>exact λb o e=>qo _<|qo _ e
 ·intro x ho;subst ho;have e:((s.heap.push { cls:=.type "dict",data:=.dict #[] }).push { cls:=.type "cell",data:=.cell none }).get? (s.heap.push { cls:=.type "dict",data:=.dict #[] }).objs.size=some { cls:=.type "cell",data:=.cell none }:=qO _ rfl;rw[gC] at e;exact⟨_,e,rfl⟩
section
variable{o:Option Str}{g:TG}
def G8{cl:LSA}{use:Option (Value->Sem Unit)}{s:ShX}{k:Addr->Hp->Prop}(hc:X.calm=true)(hi:PI X tg iter wi)(S:xo X scope o)(hF:eh X F scope)(hg:∀cl C ex s H,PG (f9 X o Ts F scope cl C ex s H) tg g)(he:∀cl C ex s H,PE (f9 X o Ts F scope cl C ex s H) elt te)(ko:Up scope X.env cl)(I:Inv X pins σ H s)(h:Dp Ts.length F wi g te k σ H)(fin:∀(s':ShX)(H':Hp)(D C:AdX)(m:Str->Option Value),Inv X pins σ H' s'->Jf X pins H' C->s'.heap.Ns C m->k D H'->compPost (model X.prog X.w) X.A X.xe use Q (.ref D) C (.ok .next) s'):wpAny (model X.prog X.w) X.A (eval iter X.env) (λx bV=>wpAny (model X.prog X.w) X.A (pyIter x) (λit dN=>wpAny (model X.prog X.w) X.A (newList []) (λacc fN=>
   wpAny (model X.prog X.w) X.A (newFunctionEnv scope X.env.globals cl [] X.env.qual none .none<|some X.env) (λic fO=>
    codeAny (model X.prog X.w) X.A (.compStart (.ListComp elt [⟨tg,iter,[],0⟩] scope pos) 0 it acc { ic with scope:=relabel scope X.env }) (compPost (model X.prog X.w) X.A X.xe use Q acc ic.locals) fO) X.xe fN) X.xe dN) X.xe bV) X.xe s:=by
 refine b4 (hi pins s σ H _ I h) λv s1 h1=>b4 h1 λBc s2 h2=>?_
 obtain⟨it,fp,tn,J,H2,rfl,I2,T,fB,f2,hW⟩:=h2;refine mY<|YK S λdy dW lM lN=>?_;dsimp only at dW lM lN ⊢;have fw:H2 s2.heap.objs.size=none:=I2.hok.fresh<|qe _;obtain⟨W,⟨m0,w0⟩,turn⟩:=hW s2.heap.objs.size fw;generalize hD:s2.heap.objs.size=D at*;have I3:Inv X pins σ (upd H2 D<|.lst []) { s2 with heap:=s2.heap.push { cls:=.type "list",dict:=none,data:=.seq ([]:LVl).toArray } }:=by
  refine I2.laid (t':=s2.toks) (λb u e=>qo _ e) (mP hD) ?_;refine⟨by simp,[],0,.nil,?_⟩;rw[<-hD];exact qO _ rfl
 generalize iH:({ s2 with heap:=s2.heap.push { cls:=.type "list",dict:=none,data:=.seq ([]:LVl).toArray } }:ShX)=s3 at*;have tM:s3.heap=s2.heap.push { cls:=.type "list",dict:=none,data:=.seq ([]:LVl).toArray }:=by rw[<-iH]
 have objs:∀b∈fp,∃o,s3.heap.get? b=some o:=λb hb=>by
  obtain⟨o,e,_⟩:=T.obj _ _ fB b hb;exact⟨o,by rw[tM];exact qo _ e⟩
 have cM:∀b∈fp,b≠D:=λb hb z=>by
  obtain⟨o,e,_⟩:=T.obj _ _ fB b hb;have e1:=qX e;rw[hD,z] at e1;exact gp _ e1
 have f3:∀b∈fp,Jf X pins (upd H2 D<|.lst []) b:=λb hb=>⟨by rw[zY<|cM b hb];exact(f2 b hb).1,(f2 b hb).2⟩
 have iE:dy.Ns s3.heap.objs.size (λ_=>none):=by
  rw[<-iH];exact dW
 have keep:∀b o,s3.heap.get? b=some o->dy.get? b=some o:=by
  rw[<-iH];exact lM
 have oX:∀x,o=some x->dy.IsCell (s3.heap.objs.size+1) none:=by
  rw[<-iH];exact lN
 have IY:=WB (Ts:=Ts) (F:=F) (tk:=s3.toks) I3 S ko f3 objs hF iE keep oX;have tN:tn 0 dy:=T.keep _ _ _ fB λb hb o e=>keep b o (by rw[tM];exact qo _ e)
 have dU:∀{H':Hp},(∀b∈fp,H' b=none)->∀b∈fp,Jf (vA X o (Ts++F.map λj=>X.N.getD j "") scope cl s3.heap.objs.size fp s3<|upd H2 D<|.lst []) [] H' b:=λhn b hb=>
  ⟨hn b hb,(IY.ok.exf b hb).1,IY.ok.exfs b hb,.inl hb,(IY.ok.exf b hb).2,λp hp=>absurd (show p∈([]:PNx) from hp)<|by simp⟩
 have back:∀{bR:St} {H':Hp} {s':ShX},Inv (vA X o (Ts++F.map λj=>X.N.getD j "") scope cl s3.heap.objs.size fp s3<|upd H2 D<|.lst []) [] bR H' s'->k D H'->compPost (model X.prog X.w) X.A X.xe use Q (.ref D) s3.heap.objs.size (.ok .next) s':=λ{bR H' s'} J' q=>by
  have hI:Inv X pins σ H' s':=by
   obtain⟨hh,gg,dd,tt,os'⟩:=s';have ho:os'=s3.os:=J'.os;subst ho;exact I3.call (h':=hh) (g':=gg) (d':=dd) (t':=tt) (ch:=fp) J'.base J'.hok J'.bare λb hb=>⟨(f3 b hb).2.2.2.1,(f3 b hb).2.1,(f3 b hb).2.2.2.2.1,(f3 b hb).2.2.2.2.2⟩
  obtain⟨m,hm,_⟩:=J'.loc;exact fin s' H' D s3.heap.objs.size m hI (I3.zbT (qe _) J'.free) hm q
 have loop:∀s4:Shared,s4={ s3 with heap:=dy,toks:=s3.toks }->
   codeAny (model X.prog X.w) X.A (.compLoop (.ListComp elt [⟨tg,iter,[],0⟩] scope pos) 0 (.ref it) (.ref D)<|compEnvC scope (oV o s3.heap.objs.size++cl) s3.heap.objs.size X.env) (compPost (model X.prog X.w) X.A X.xe use Q (.ref D) s3.heap.objs.size) s4:=by
  rintro s4 rfl;refine JO (λn s'=>∃i bR H',Inv (vA X o (Ts++F.map λj=>X.N.getD j "") scope cl s3.heap.objs.size fp s3<|upd H2 D<|.lst []) [] bR H' s'/\tn i s'.heap/\(∀b∈fp,H' b=none)/\W i n bR H') ?_ m0
   ⟨0,_,_,IY,tN,λb hb=>(f3 b hb).1,w0⟩
  rintro n s5 ⟨i,iV,H5,I5,iT,oJ,w5⟩;rcases turn i n iV H5 w5 with⟨stop,qn⟩|⟨go,N,hN,step⟩
  ·refine b4 (T.done (vA X o (Ts++F.map λj=>X.N.getD j "") scope cl s3.heap.objs.size fp s3<|upd H2 D<|.lst []) rfl rfl rfl hc i [] s5 iV H5 _ I5 (dU oJ) iT stop) λr s6 ⟨hr,I6⟩=>?_
   subst hr;exact back I6 qn
  ·refine b4 (T.item (vA X o (Ts++F.map λj=>X.N.getD j "") scope cl s3.heap.objs.size fp s3<|upd H2 D<|.lst []) rfl rfl rfl hc i [] s5 iV H5 _ I5 (dU oJ) iT go) λr s6 ⟨u,hr,h6⟩=>?_
   subst hr;refine b4 h6 λ_ s7 ⟨x,H7,I7,r7,y7,iW,Dq⟩=>?_
   have Dr:=I7.pinned (dU Dq)<|T.obj _ _ iW;refine b4 (hg cl _ fp s3 _ _ s7 iV H7 x u _ Dr r7<|step x H7 y7) λ_ s8 ⟨fD,H8,I8,q8⟩=>?_
   refine b4 (he cl _ fp s3 _ _ s8 fD H8 _ I8 q8) λev s9 ⟨y,H9,I9,r9,xs,hx,hz,n9⟩=>?_
   refine b4 (uP _ s9 fD H9 (.ref D) [y] (.ref D) [ev] (λ_ H'=>N fD H') I9 rfl (.cons r9 .nil) ⟨D,xs,y,rfl,rfl,hx,hz,n9⟩) λ_ OR ⟨z,tO,oY,_,Ds⟩=>?_
   obtain⟨m',hm,tP⟩:=hN fD tO Ds;refine⟨m',hm,i+1,fD,tO,oY.uK,T.keep _ _ _ iW λb hb o e=>(oY.pin (b,o)<|ka _<|ka _<|jm hb e).1,λb hb=>?_,tP⟩;obtain⟨o,e,d⟩:=T.obj _ _ iW b hb;exact(oY.pin (b,o)<|ka _<|ka _<|jm hb e).2.1
 subst iH;subst hD;exact codeAny_compStart_list (loop _ rfl)<|T.self _ 0 _ _ _ tN<|loop _ rfl
def G9(hc:X.calm=true)(hi:PI X tg iter wi)(S:xo X scope o)(hF:eh X F scope)(hg:∀cl C ex s H,PG (f9 X o Ts F scope cl C ex s H) tg g)(he:∀cl C ex s H,PE (f9 X o Ts F scope cl C ex s H) elt te)(hs:ee X iter:=by exact λ_=>rfl):PE X (.ListComp elt [⟨tg,iter,[],0⟩] scope pos) (G7 Ts.length F wi g te):=by
 intro pins s σ H Q I h;obtain⟨cl,ff,ko⟩:=u4<|JR I S;rw[eval_ListComp];refine mM (use:=none) rfl hs ff S.kind S.loc<|G8 (use:=none) hc hi S hF hg he ko I h λs' H' D C m I' fC hm q=>?_;refine⟨m,hm,λh' fE=>⟨.ref D,H',?_,rfl,q⟩⟩;exact I'.turned (t':=s'.toks) (λb o hb e=>fE.extBut b o hb e) fC.1 fC.2.1 fC.2.2.2.1 fC.2.2.2.2.1 fC.2.2.2.2.2
def OT(hc:X.calm=true)(hi:PI X tg iter wi)(S:yn X scope)(hF:eh X F scope)(hg:∀cl C ex s H,PG (c9 X Ts F scope cl C ex s H) tg g)(he:∀cl C ex s H,PE (c9 X Ts F scope cl C ex s H) elt te)(hs:ee X iter:=by exact λ_=>rfl):PE X (.ListComp elt [⟨tg,iter,[],0⟩] scope pos) (G7 Ts.length F wi g te):=G9 hc hi S.o hF hg he hs
def Ha(T:Nat)(F:LNt)(wi:TI)(g:TG)(te:TE)(i:Nat):TS:=λD σ H=>Dp T F wi g te (λl H'=>D.nx (σ.set i<|some<|.ref l) H') σ H
def WV(hN:X.N.Nodup)(dP:X.N[i]?=some x)(hx:X.env.scope.names.lookup x=some .local)(hc:X.calm=true)(hi:PI X tg iter wi)(S:xo X scope o)(hF:eh X F scope)(hg:∀cl C ex s H,PG (f9 X o Ts F scope cl C ex s H) tg g)(he:∀cl C ex s H,PE (f9 X o Ts F scope cl C ex s H) elt te)(cW:swapsWith (.ListComp elt [⟨tg,iter,[],0⟩] scope pos) (some<|.Name x pos') spos.line X.env=pure true:=by rfl)(hs:ee X iter:=by exact λ_=>rfl):PS X (.Assign [.Name x pos'] (.ListComp elt [⟨tg,iter,[],0⟩] scope pos) spos) (Ha Ts.length F wi g te i):=by
 intro pins s σ H D I h;obtain⟨cl,ff,ko⟩:=u4<|JR I S;rw[exec_Assign_Name_used _ _ _ _ cW];refine qt<|nZ<|qt ?_;show wpAny _ X.A (do let _ <-comprehension (.ListComp elt [⟨tg,iter,[],0⟩] scope pos) scope X.env _ (newList []) false (eval iter X.env) (some<|assign (.Name x pos') X.env)) _ _ s
 refine qt<|gB (mM (use:=some<|assign (.Name x pos') X.env) (Q:=λ_ s'=>SP X pins D .next s') rfl hs ff S.kind S.loc
<|G8 (use:=some<|assign (.Name x pos') X.env) hc hi S hF hg he ko I h λs' H' l C m I' fC hm q=>?_) (λ_ s' hq=>qS<|qS hq) λ_ _ e=>e
 show wpAny _ X.A (assign (.Name x pos') X.env<|.ref l) _ _ s'
 refine pY<|Wh I' hN dP (.inl hx) (show RelV (.ref l) (.ref l) from rfl) (λs2 I2 ig=>?_)<|.inr hx;obtain⟨a,tQ,ha⟩:=ig;have lC:C≠a:=by
  rcases ha with rfl|ha
  ·exact fC.2.1
  ·exact λz=>fC.2.2.2.2.1 x a ha z.symm
 have tR:s2.heap.Ns C m:=hm.sameBut tQ lC;refine⟨m,tR,λh' fE=>⟨_,H',?_,q⟩⟩;exact I2.turned (t':=s2.toks) (λb o hb e=>fE.extBut b o hb e) fC.1 fC.2.1 fC.2.2.2.1 fC.2.2.2.2.1 fC.2.2.2.2.2
def ZJ(hN:X.N.Nodup)(dP:X.N[i]?=some x)(hx:X.env.scope.names.lookup x=some .local)(hc:X.calm=true)(hi:PI X tg iter wi)(S:yn X scope)(hF:eh X F scope)(hg:∀cl C ex s H,PG (c9 X Ts F scope cl C ex s H) tg g)(he:∀cl C ex s H,PE (c9 X Ts F scope cl C ex s H) elt te)(cW:swapsWith (.ListComp elt [⟨tg,iter,[],0⟩] scope pos) (some<|.Name x pos') spos.line X.env=pure true:=by rfl)(hs:ee X iter:=by exact λ_=>rfl):PS X (.Assign [.Name x pos'] (.ListComp elt [⟨tg,iter,[],0⟩] scope pos) spos) (Ha Ts.length F wi g te i):=WV hN dP hx hc hi S.o hF hg he cW hs
end
section
def OU(hc:X.calm=true):vS X (.builtin "sum") (λxs H Q=>∃(p:AdX)(ns:List Int),xs=[.ref p]/\cm X.K H p (ns.map V.int)/\Q (.int ns.sum) H):=by
 intro pins s σ H xs us Q I r h;obtain⟨p,ns,rfl,hS,q⟩:=h;obtain⟨u,rfl,ru⟩:=vals1 r;cases ru;obtain⟨its,rv,pl,hz⟩:=I.list hS;have hi:IntsAre its ns:=intsAre_of rv;have es:(numsOf its.toArray.toList).sum=ns.sum:=by rw[show its.toArray.toList=its from rfl,hi.numsOf]
 obtain⟨zs,e⟩:=hi.allInts.items;rw[e,nums_intItems] at es;have hL:=pl.isList;rw[e] at hL;refine sum_intListG (I.ok.hd hc) hL λh' tk t' hk=>?_
 rw[preSum_eq,nX<|by simp];exact⟨.int ns.sum,H,I.kept hk,⟨t',by rw[es]⟩,q⟩
end
def xk(t:Bool)(h:Heap)(a:AdX)(vs:Array Value):Prop:=match t with |true=>h.IsTuple a vs|false=>h.IsList a vs
def y3(t:Bool)(h:Heap)(j a:AdX)(i:Nat):Prop:=match t with |true=>h.IsTupleIter j a i|false=>h.IsListIter j a i
noncomputable def uX(t:Bool):String:=match t with |true=>"tuple_iterator" |false=>"list_iterator"
def xk.stay(x:xk t h a vs)(e:∀o,h.get? a=some o->h'.get? a=some o):xk t h' a vs:=by
 cases t
 ·obtain⟨o,ho,r⟩:=(show h.IsList a vs from x);exact(show h'.IsList a vs from⟨o,e _ ho,r⟩)
 ·obtain⟨o,ho,r⟩:=(show h.IsTuple a vs from x);exact(show h'.IsTuple a vs from⟨o,e _ ho,r⟩)
def y3.stay{j:AdX}(x:y3 t h j a i)(e:∀o,h.get? j=some o->h'.get? j=some o):y3 t h' j a i:=by
 cases t
 ·obtain⟨o,ho,r⟩:=(show h.IsListIter j a i from x);exact(show h'.IsListIter j a i from⟨o,e _ ho,r⟩)
 ·obtain⟨o,ho,r⟩:=(show h.IsTupleIter j a i from x);exact(show h'.IsTupleIter j a i from⟨o,e _ ho,r⟩)
def y3.obj{j:AdX}(x:y3 t h j a i):∃o,h.get? j=some o/\∀v,o.data≠ .cell v:=by
 cases t
 ·obtain⟨o,ho,hc,hd⟩:=(show h.IsListIter j a i from x);exact⟨o,ho,λv z=>by rw[hd] at z;cases z⟩
 ·obtain⟨o,ho,hc,hd⟩:=(show h.IsTupleIter j a i from x);exact⟨o,ho,λv z=>by rw[hd] at z;cases z⟩
def xk.lt(x:xk t h a vs):a<h.objs.size:=by
 cases t
 ·obtain⟨o,ho,_⟩:=(show h.IsList a vs from x);exact qX ho
 ·obtain⟨o,ho,_⟩:=(show h.IsTuple a vs from x);exact qX ho
section
variable{s:ShX}
def JZ{j:AdX}{v:Value}(hd:y3 t s.heap j a i)(hs:xk t s.heap a vs)(hv:vs[i]?=some v)(hQ:∀h',y3 t h' j a (i+1)->Heap.SameBut j s.heap h'->Q v { s with heap:=h' }):wpAny (model prog w) A (Builtin.SmallTypes.nextOf<|.ref j) Q E s:=by
 cases t
 ·exact wpAny_nextOf_list_item (show s.heap.IsListIter j a i from hd) (show s.heap.IsList a vs from hs) hv hQ
 ·have eG:s.heap.IsTupleIter j a i:=hd;obtain⟨ob,lO,ff,iX⟩:=id eG;obtain⟨oa,Dt,_,na,Du⟩:=(show s.heap.IsTuple a vs from hs);unfold Builtin.SmallTypes.nextOf;refine qt<|me (name:=Str.ofString "__next__") eG.typeIs mD<|nv mD eG.typeIs PySem.F.entry_tuple_iterator_next ?_<|PySem.F.args_tuple_iterator_next_1 _;show wpAny _ _ (field (.ref j) 0 >>= _) _ _ s
  refine qt<|gw lO iX (x:=.ref a) rfl ?_;show wpAny _ _ (if (Value.ref a==Value.none)=true then _ else _) _ _ s
  rw[qm<|show ¬((Value.ref a==Value.none)=true) from qR];show wpAny _ _ (field (.ref j) 1 >>= _) _ _ s
  refine qt<|gw lO iX (x:=.int i 0) rfl ?_;show wpAny _ _ (seqItems? (.ref a) >>= _) _ _ s
  refine qt<|ma Dt Du ?_;simp only [ky,hv];refine qt<|wpAny_setField lO iX (by simp)<|qS ⟨v,rfl,qS<|hQ _ ?_<|Heap.SameBut.update ..⟩;show Heap.IsTupleIter _ j a (i+1)
  exact⟨_,Heap.get?_update_self _ lO<|Obj.isFreed_of_fields<|Obj.data_mapFields iX _,(Obj.cls_mapFields ..).trans ff,by rw[Obj.data_mapFields iX];simp[rawInt]⟩
def J7{j:AdX}(hh:A.handled=none)(hd:y3 t s.heap j a i)(hs:xk t s.heap a vs)(hv:vs[i]?=none)(hE:∀h' e,Heap.ExtBut j s.heap h'->(∃o,h'.get? e=some o/\o.cls=.type "StopIteration")->E (.ref e) { s with heap:=h' }):wpAny (model prog w) A (Builtin.SmallTypes.nextOf<|.ref j) Q E s:=by
 cases t
 ·exact wpAny_nextOf_list_end hh (show s.heap.IsListIter j a i from hd) (show s.heap.IsList a vs from hs) hv hE
 ·have eG:s.heap.IsTupleIter j a i:=hd;obtain⟨ob,lO,ff,iX⟩:=id eG;obtain⟨oa,Dt,_,na,Du⟩:=(show s.heap.IsTuple a vs from hs);unfold Builtin.SmallTypes.nextOf;refine qt<|me (name:=Str.ofString "__next__") eG.typeIs mD<|nv mD eG.typeIs PySem.F.entry_tuple_iterator_next ?_<|PySem.F.args_tuple_iterator_next_1 _;show wpAny _ _ (field (.ref j) 0 >>= _) _ _ s
  refine qt<|gw lO iX (x:=.ref a) rfl ?_;show wpAny _ _ (if (Value.ref a==Value.none)=true then _ else _) _ _ s
  rw[qm<|show ¬((Value.ref a==Value.none)=true) from qR];show wpAny _ _ (field (.ref j) 1 >>= _) _ _ s
  refine qt<|gw lO iX (x:=.int i 0) rfl ?_;show wpAny _ _ (seqItems? (.ref a) >>= _) _ _ s
  refine qt<|ma Dt Du ?_;simp only [ky,hv];refine qt<|wpAny_rule<|qt<|wpAny_setField lO iX (by simp) ?_;show wpAny _ _ ((newExc (.type "StopIteration") []) >>= _) _ _ _
  refine qt ?_;simp only [newExc,newTuple];refine qt (mY ?_<|by size_fits);refine qt (m:=firstArgMember _ _)<|wpAny_of_eq (a:=Value.none) (by first |rfl|(simp only [firstArgMember]<;>rfl)) ?_;refine mY ?_ (by size_fits);simp only [raiseNew];refine qt<|wpAny_handled ?_;first |rw[show A.in1.handled=none from hh]|rw[hh]
  refine qt<|qS<|wpAny_throw ?_;exact hE _ _ (((Heap.SameBut.update ..).extBut.push _).push _) ⟨_,qO _ rfl,rfl⟩
end
section
variable{s:ShX}
def OV{t1 t2:Bool}{z ti tu j1 j2 a1 a2:AdX}{k1 k2:Nat}{xs ys:Array Value}{x y b1 b2:Value}{Q:VSx}(D:ZipApart z ti tu j1 j2 a1 a2)(hz:IsZip s.heap z ti tu .none)(Dv:IsPair s.heap ti (.ref j1) (.ref j2))(Dw:IsPair s.heap tu b1 b2)(d1:y3 t1 s.heap j1 a1 k1)(d2:y3 t2 s.heap j2 a2 k2)(c1:xk t1 s.heap a1 xs)(c2:xk t2 s.heap a2 ys)(hx:xs[k1]?=some x)(hy:ys[k2]?=some y)(hQ:∀h',IsZip h' z ti tu (rawInt s.heap.objs.size)->IsPair h' tu x y->y3 t1 h' j1 a1 (k1+1)->y3 t2 h' j2 a2 (k2+1)->IsPair h' s.heap.objs.size x y->h'.objs.size=s.heap.objs.size+1->
   (∀c o,c≠z->c≠tu->c≠j1->c≠j2->s.heap.get? c=some o->h'.get? c=some o)->Q (.ref s.heap.objs.size) { s with heap:=h' }):wpAny (model prog w) A (Builtin.«zip.__next__» ⟨[.ref z],[]⟩) (λfin s'=>∃v,fin=.done (.ret v)/\Q v s') E s:=by
 show wpAny _ _ (field (.ref z) 2 >>= _) _ _ s
 refine qt<|gw hz rfl (x:=.bool false) rfl ?_;show wpAny _ _ (field (.ref z) 3 >>= _) _ _ s
 refine qt<|gw hz rfl (x:=.ref ti) rfl ?_;refine qt<|ma Dv rfl ?_;show wpAny _ _ (Builtin.SmallTypes.ownedTupleIsFree (.ref z) >>= _) _ _ s
 refine qt ?_;unfold Builtin.SmallTypes.ownedTupleIsFree;refine qt<|gw hz rfl (x:=.none) rfl<|qS ?_;simp only [pE];refine qt<|wpAny_rule ?_;refine qt<|gw hz rfl (x:=.ref tu) rfl ?_;refine qt<|ml hz (by simp) λg1 z1 e1=>?_;replace z1:IsZip g1 z ti tu .ellipsis:=z1;refine qt ?_;simp only [List.zipIdx_cons,List.zipIdx_nil,ni,n5];refine qt<|qt<|pO ?_;show wpAny _ _ (Builtin.SmallTypes.nextOf (.ref j1) >>= _) _ _ _
 refine qt<|JZ (d1.stay λo e=>e1.extBut _ _ D.i1z e) (c1.stay λo e=>e1.extBut _ _ D.l1z e) hx λg2 Hb e2=>qS ?_;have tS:IsPair g2 tu b1 b2:=e2.extBut _ _ D.TOi1<|e1.extBut _ _ D.TOz Dw;refine qt<|ma tS rfl ?_;refine qt<|pF tS λg3 Bn e3=>?_;replace Bn:IsPair g3 tu x b2:=Bn;refine qt<|wpAny_letGo<|qS ?_;refine qt<|qt<|pO ?_;show wpAny _ _ (Builtin.SmallTypes.nextOf (.ref j2) >>= _) _ _ _
 refine qt<|JZ (d2.stay λo e=>e3.extBut _ _ D.TOi2.symm<|e2.extBut _ _ D.i12.symm<|e1.extBut _ _ D.i2z e) (c2.stay λo e=>e3.extBut _ _ D.l2TO<|e2.extBut _ _ D.l2i1<|e1.extBut _ _ D.l2z e) hy λg4 OW e4=>qS ?_;have Hc:IsPair g4 tu x b2:=e4.extBut _ _ D.TOi2 Bn;refine qt<|ma Hc rfl ?_;refine qt<|pF Hc λg5 Bo e5=>?_;replace Bo:IsPair g5 tu x y:=Bo;refine qt<|wpAny_letGo<|qS<|qS ?_;refine qt<|ma Bo rfl ?_;refine qt<|wpAny_newTuple ?_;have lP:g5.objs.size=s.heap.objs.size:=by rw[e5.1,e4.1,e3.1,e2.1,e1.1]
 have z5:IsZip g5 z ti tu .ellipsis:=e5.extBut _ _ D.TOz.symm<|e4.extBut _ _ D.i2z.symm<|e3.extBut _ _ D.TOz.symm<|e2.extBut _ _ D.i1z.symm z1;have tT:∀c o,c≠z->c≠tu->c≠j1->c≠j2->s.heap.get? c=some o->g5.get? c=some o:=λc o n1 n2 n3 n4 e=>
  e5.extBut _ _ n2 (e4.extBut _ _ n4<|e3.extBut _ _ n2<|e2.extBut _ _ n3<|e1.extBut _ _ n1 e)
 have OX:y3 t1 g5 j1 a1 (k1+1):=((Hb.stay λo e=>e3.extBut _ _ D.TOi1.symm e).stay λo e=>e4.extBut _ _ D.i12 e).stay λo e=>e5.extBut _ _ D.TOi1.symm e
 have OY:y3 t2 g5 j2 a2 (k2+1):=OW.stay λo e=>e5.extBut _ _ D.TOi2.symm e
 have Hd:z<g5.objs.size:=qX z5;show wpAny _ _ (Builtin.SmallTypes.ownedTupleHandOut (.ref z) (.ref g5.objs.size) >>= _) _ _ _
 refine qt ?_;unfold Builtin.SmallTypes.ownedTupleHandOut;have z6:IsZip (g5.push { cls:=.type "tuple",data:=.seq #[x,y] }) z ti tu .ellipsis:=qo _ z5;refine qt<|ml z6 (by simp) λg7 z7 e7=>?_;replace z7:IsZip g7 z ti tu (rawInt g5.objs.size):=z7;refine ml z7 (by simp) λg8 z8 e8=>?_
 replace z8:IsZip g8 z ti tu (rawInt g5.objs.size):=z8
 have up:∀c o,c≠z->g5.get? c=some o->g8.get? c=some o:=λc o n e=>e8.extBut _ _ n<|e7.extBut _ _ n<|qo _ e
 have p8:IsPair g8 g5.objs.size x y:=e8.extBut _ _ (mN Hd)<|e7.extBut _ _ (mN Hd)<|qO _ rfl;have lQ:g8.objs.size=g5.objs.size+1:=by rw[e8.1,e7.1,gC]
 rw[lP] at z8 p8 lQ;refine qS ⟨_,rfl,?_⟩;show Q (.ref g5.objs.size) _
 rw[lP];exact hQ g8 z8 (up _ _ D.TOz Bo) (OX.stay λo e=>up _ o D.i1z e) (OY.stay λo e=>up _ o D.i2z e) p8 lQ λc o n1 n2 n3 n4 e=>up c o n1<|tT c o n1 n2 n3 n4 e
def OZ{a1 a2:AdX}{k1 k2:Nat}{xs ys:Array Value}{b1 b2:Value}{Q:Fin->Shared->Prop}(hh:A.handled=none)(D:ZipApart z ti tu j1 j2 a1 a2)(hz:IsZip s.heap z ti tu .none)(Dv:IsPair s.heap ti (.ref j1) (.ref j2))(Dw:IsPair s.heap tu b1 b2)(d1:y3 t1 s.heap j1 a1 k1)(d2:y3 t2 s.heap j2 a2 k2)(c1:xk t1 s.heap a1 xs)(c2:xk t2 s.heap a2 ys)(fP:xs[k1]?=none\/ys[k2]?=none)(hE:∀h' e,(∀c o,c≠z->c≠tu->c≠j1->c≠j2->s.heap.get? c=some o->h'.get? c=some o)->(∃o,h'.get? e=some o/\o.cls=.type "StopIteration")->E (.ref e) { s with heap:=h' }):wpAny (model prog w) A (Builtin.«zip.__next__» ⟨[.ref z],[]⟩) Q E s:=by
 show wpAny _ _ (field (.ref z) 2 >>= _) _ _ s
 refine qt<|gw hz rfl (x:=.bool false) rfl ?_;show wpAny _ _ (field (.ref z) 3 >>= _) _ _ s
 refine qt<|gw hz rfl (x:=.ref ti) rfl ?_;refine qt<|ma Dv rfl ?_;show wpAny _ _ (Builtin.SmallTypes.ownedTupleIsFree (.ref z) >>= _) _ _ s
 refine qt ?_;unfold Builtin.SmallTypes.ownedTupleIsFree;refine qt<|gw hz rfl (x:=.none) rfl<|qS ?_;simp only [pE];refine qt<|wpAny_rule ?_;refine qt<|gw hz rfl (x:=.ref tu) rfl ?_;refine qt<|ml hz (by simp) λg1 z1 e1=>?_;replace z1:IsZip g1 z ti tu .ellipsis:=z1;refine qt ?_;simp only [List.zipIdx_cons,List.zipIdx_nil,ni,n5];refine qt<|qt<|pO ?_;show wpAny _ _ (Builtin.SmallTypes.nextOf (.ref j1) >>= _) _ _ _
 cases hx:xs[k1]? with
 |none=>
  refine qt<|J7 hh (d1.stay λo e=>e1.extBut _ _ D.i1z e) (c1.stay λo e=>e1.extBut _ _ D.l1z e) hx λg2 e e2 he=>?_;obtain⟨oe,oZ,tU⟩:=he;have z2:IsZip g2 z ti tu .ellipsis:=e2 _ _ D.i1z.symm z1;have Dx:e≠z:=λq=>by subst q;rw[z2] at oZ;cases oZ;simp at tU
  refine ml z2 (by simp) λg3 _ e3=>hE g3 e (λc o n1 _ n3 _ q=>e3.extBut _ _ n1<|e2 _ _ n3<|e1.extBut _ _ n1 q) ⟨oe,e3.extBut _ _ Dx oZ,tU⟩
 |some x=>
  have hy:ys[k2]?=none:=fP.resolve_left (by rw[hx];simp);refine qt<|JZ (d1.stay λo e=>e1.extBut _ _ D.i1z e) (c1.stay λo e=>e1.extBut _ _ D.l1z e) hx λg2 Hb e2=>qS ?_;have tS:IsPair g2 tu b1 b2:=e2.extBut _ _ D.TOi1<|e1.extBut _ _ D.TOz Dw
  refine qt<|ma tS rfl ?_;refine qt<|pF tS λg3 Bn e3=>?_;refine qt<|wpAny_letGo<|qS ?_;refine qt<|qt<|pO ?_;show wpAny _ _ (Builtin.SmallTypes.nextOf (.ref j2) >>= _) _ _ _
  refine qt<|J7 hh (d2.stay λo e=>e3.extBut _ _ D.TOi2.symm<|e2.extBut _ _ D.i12.symm<|e1.extBut _ _ D.i2z e) (c2.stay λo e=>e3.extBut _ _ D.l2TO<|e2.extBut _ _ D.l2i1<|e1.extBut _ _ D.l2z e) hy λg4 e e4 he=>?_;obtain⟨oe,oZ,tU⟩:=he;have z4:IsZip g4 z ti tu .ellipsis:=e4 _ _ D.i2z.symm<|e3.extBut _ _ D.TOz.symm<|e2.extBut _ _ D.i1z.symm z1;have Dx:e≠z:=λq=>by subst q;rw[z4] at oZ;cases oZ;simp at tU
  refine ml z4 (by simp) λg5 _ e5=>hE g5 e (λc o n1 n2 n3 n4 q=>e5.extBut _ _ n1<|e4 _ _ n4<|e3.extBut _ _ n2<|e2.extBut _ _ n3<|e1.extBut _ _ n1 q) ⟨oe,e5.extBut _ _ Dx oZ,tU⟩
structure Bp(t1 t2:Bool)(z ti tu j1 j2 a1 a2:AdX)(i:Nat)(h:Heap):Prop where
 zp:IsZip h z ti tu .none
 ip:IsPair h ti (.ref j1) (.ref j2)
 op:∃b1 b2,IsPair h tu b1 b2
 d1:y3 t1 h j1 a1 i
 d2:y3 t2 h j2 a2 i
def O0{t1 t2:Bool}{z ti tu j1 j2 a1 a2:AdX}{i:Nat}{xs ys:Array Value}{x y:Value}{Q:Option Value->Shared->Prop}(D:ZipApart z ti tu j1 j2 a1 a2)(S:Bp t1 t2 z ti tu j1 j2 a1 a2 i s.heap)(c1:xk t1 s.heap a1 xs)(c2:xk t2 s.heap a2 ys)(hx:xs[i]?=some x)(hy:ys[i]?=some y)(hQ:∀h',IsZip h' z ti tu (rawInt s.heap.objs.size)->IsPair h' tu x y->y3 t1 h' j1 a1 (i+1)->y3 t2 h' j2 a2 (i+1)->IsPair h' s.heap.objs.size x y->h'.objs.size=s.heap.objs.size+1->
   (∀c o,c≠z->c≠tu->c≠j1->c≠j2->s.heap.get? c=some o->h'.get? c=some o)->Q (some<|.ref s.heap.objs.size) { s with heap:=h' }):wpAny (model prog w) A (pyNext<|.ref z) Q E s:=by
 obtain⟨b1,b2,hb⟩:=S.op;have hT:s.TypeIs (.ref z) "zip":=⟨_,S.zp,rfl⟩;unfold pyNext;exact qt<|wpAny_attempt<|me (name:=Str.ofString "__next__") hT pf<|nv pf hT PySem.F.entry_zip_next
  (OV D S.zp S.ip hb S.d1 S.d2 c1 c2 hx hy λh' q1 q2 q3 q4 q5 q6 q7=>qS<|hQ h' q1 q2 q3 q4 q5 q6 q7)<|PySem.F.args_zip_next_1 _
def O1{a1 a2:AdX}{xs ys:Array Value}{Q:Option Value->Shared->Prop}(hh:A.handled=none)(D:ZipApart z ti tu j1 j2 a1 a2)(S:Bp t1 t2 z ti tu j1 j2 a1 a2 i s.heap)(c1:xk t1 s.heap a1 xs)(c2:xk t2 s.heap a2 ys)(fP:xs[i]?=none\/ys[i]?=none)(hQ:∀h',(∀c o,c≠z->c≠tu->c≠j1->c≠j2->s.heap.get? c=some o->h'.get? c=some o)->Q none { s with heap:=h' }):wpAny (model prog w) A (pyNext<|.ref z) Q E s:=by
 obtain⟨b1,b2,hb⟩:=S.op;have hT:s.TypeIs (.ref z) "zip":=⟨_,S.zp,rfl⟩;unfold pyNext;refine qt<|wpAny_attempt<|me (name:=Str.ofString "__next__") hT pf<|nv pf hT PySem.F.entry_zip_next
  (OZ hh D S.zp S.ip hb S.d1 S.d2 c1 c2 fP λh' e hk he=>?_)<|PySem.F.args_zip_next_1 _
 obtain⟨o,ho,hc⟩:=he;exact qt (wpAny_isInstance (T:="StopIteration") (b:=true) ⟨o,ho,hc⟩ isSubtype_stop<|qS<|hQ _ hk)
end
def Jy{s:ShX}(c:xk t s.heap a vs)(hQ:Q (.ref s.heap.objs.size) { s with heap:=s.heap.push { cls:=.type (uX t),data:=.fields #[.ref a,.int 0 0] } }):wpAny (model prog w) A (pyIter<|.ref a) Q E s:=by
 cases t
 ·exact wpAny_pyIter_list (show s.heap.IsList a vs from c) hQ
 ·exact wpAny_pyIter_tuple (show s.heap.IsTuple a vs from c) hQ
def xk.push(x:xk t h a vs)(o:Obj):xk t (h.push o) a vs:=x.stay λ_ e=>qo _ e
abbrev Br(t1:Bool)(h:Heap)(a1:AdX):Heap:=h.push { cls:=.type (uX t1),data:=.fields #[.ref a1,.int 0 0] }
abbrev Bs(t1 t2:Bool)(h:Heap)(a1 a2:AdX):Heap:=(Br t1 h a1).push { cls:=.type (uX t2),data:=.fields #[.ref a2,.int 0 0] }
abbrev Bu(t1 t2:Bool)(h:Heap)(a1 a2:AdX):Heap:=(Bs t1 t2 h a1 a2).push { cls:=.type "tuple",data:=.seq #[.ref h.objs.size,.ref (Br t1 h a1).objs.size] }
abbrev Bv(t1 t2:Bool)(h:Heap)(a1 a2:AdX):Heap:=(Bu t1 t2 h a1 a2).push { cls:=.type "tuple",data:=.seq #[.none,.none] }
abbrev qC(t1 t2:Bool)(h:Heap)(a1 a2:AdX):Heap:=(Bv t1 t2 h a1 a2).push { cls:=.type "zip",data:=.fields #[.none,.bool false,.bool false,.ref (Bs t1 t2 h a1 a2).objs.size,.ref (Bu t1 t2 h a1 a2).objs.size] }
def O2(t1 t2:Bool)(a1 a2:AdX)(xs ys:Array Value):Meets (Builtin.«zip.__new__» ⟨[.type "zip",.ref a1,.ref a2],[]⟩) (λ_ R s=>xk t1 s.heap a1 xs/\xk t2 s.heap a2 ys/\
   R (.ok<|.ret<|.ref (Bv t1 t2 s.heap a1 a2).objs.size) { s with heap:=qC t1 t2 s.heap a1 a2 }):=.of_wp λprog w A R s h=>by
  obtain⟨hp,g,d,tk,os⟩:=s;obtain⟨c1,c2,h⟩:=h;have Dy:=sub_zip;have q1:xk t1 (Shared.heap ⟨hp,g,d,tk,os⟩) a1 xs:=c1
  have q2:xk t2 (Shared.heap ⟨hp.push { cls:=.type (uX t1),data:=.fields #[.ref a1,.int 0 0] },g,d,tk,os⟩) a2 ys:=xk.push c2 _;wp_walk using Jy q1,Jy q2;exact⟨_,rfl,h⟩
def ZF{j:AdX}(e:h.get? j=some { cls:=.type (uX t),data:=.fields #[.ref a,.int 0 0] }):y3 t h j a 0:=by
 cases t
 ·exact(show h.IsListIter j a 0 from⟨_,e,rfl,rfl⟩)
 ·exact(show h.IsTupleIter j a 0 from⟨_,e,rfl,rfl⟩)
def O3{prog:Program}{w:World}{A:Around}{E:VSx}{s:ShX}{t1 t2:Bool}{a1 a2:AdX}{xs ys:Array Value}{Q:VSx}(c1:xk t1 s.heap a1 xs)(c2:xk t2 s.heap a2 ys)(h:∀h',Bp t1 t2 (s.heap.objs.size+4) (s.heap.objs.size+2) (s.heap.objs.size+3) s.heap.objs.size (s.heap.objs.size+1) a1 a2 0 h'->h'.objs.size=s.heap.objs.size+5->
   (∀c o,s.heap.get? c=some o->h'.get? c=some o)->Q (.ref<|s.heap.objs.size+4) { s with heap:=h' }):wpAny (model prog w) A (call (.type "zip") [.ref a1,.ref a2]) Q E s:=by
 refine callType_new PySem.F.called_zip (by decide) (PySem.F.typeCall_zip_2 _ _) (PySem.F.newCall_zip_2 _ _) (λobj=>PySem.F.args_object_init_3 obj _ _) PySem.F.entry_zip_new (O2 t1 t2 a1 a2 xs ys) ⟨c1,c2,?_⟩;have z1:(Br t1 s.heap a1).objs.size=s.heap.objs.size+1:=gC ..;have z2:(Bs t1 t2 s.heap a1 a2).objs.size=s.heap.objs.size+2:=by rw[gC,z1]
 have z3:(Bu t1 t2 s.heap a1 a2).objs.size=s.heap.objs.size+3:=by rw[gC,z2]
 have z4:(Bv t1 t2 s.heap a1 a2).objs.size=s.heap.objs.size+4:=by rw[gC,z3]
 have z5:(qC t1 t2 s.heap a1 a2).objs.size=s.heap.objs.size+5:=by rw[gC,z4]
 have g5:(qC t1 t2 s.heap a1 a2).get? (Bv t1 t2 s.heap a1 a2).objs.size=some _:=qO _ rfl;have g4:(qC t1 t2 s.heap a1 a2).get? (Bu t1 t2 s.heap a1 a2).objs.size=some _:=qo _<|qO _ rfl
 have g3:(qC t1 t2 s.heap a1 a2).get? (Bs t1 t2 s.heap a1 a2).objs.size=some _:=qo _<|qo _<|qO _ rfl;have g2:(qC t1 t2 s.heap a1 a2).get? (Br t1 s.heap a1).objs.size=some _:=qo _<|qo _<|qo _<|qO _ rfl
 have g1:(qC t1 t2 s.heap a1 a2).get? s.heap.objs.size=some _:=qo _<|qo _<|qo _<|qo _<|qO _ rfl;show _/\_
 rw[z2,z3,z4] at g5;rw[z1,z2] at g3;rw[z3] at g4;rw[z1] at g2;rw[z4];exact⟨⟨_,g5,rfl⟩,h _ ⟨g5,g3,⟨_,_,g4⟩,ZF g1,ZF g2⟩ z5 λc o q=>
  qo _<|qo _<|qo _<|qo _<|qo _ q⟩
def dF(K:FRx)(t:Bool)(H:Hp)(a:AdX)(xs:List V):Prop:=match t with |true=>cP K H a xs|false=>cm K H a xs
def bJ.sqB(e:bJ H H')(h:dF K t H a xs):dF K t H' a xs:=by
 cases t
 ·exact(show cm K H' a xs from e.seq h)
 ·exact(show cP K H' a xs from e.tup h)
def Dz(K:FRx)(t1 t2:Bool)(a b:AdX):It:=⟨λi H=>∃xs ys x y,dF K t1 H a xs/\dF K t2 H b ys/\xs[i]?=some x/\ys[i]?=some y,
  λi H v H'=>∃p,v=.ref p/\H p=none/\∀xs ys x y,dF K t1 H a xs->dF K t2 H b ys->xs[i]?=some x->ys[i]?=some y->H'=upd H p (.tup [x,y]),
  λi H=>∃xs ys,dF K t1 H a xs/\dF K t2 H b ys/\(xs.length<=i\/ys.length<=i)⟩
section
variable{s:ShX}
def Inv.sqB(I:Inv X pins σ H s)(h:dF X.K t H a xs):∃its:List Value,Vals xs its/\xk t s.heap a its.toArray:=by
 cases t
 ·obtain⟨its,r,pl,_⟩:=I.list<|show cm X.K H a xs from h;exact⟨its,r,(show s.heap.IsList a its.toArray from pl.isList)⟩
 ·obtain⟨its,r,pl,_⟩:=I.tuple<|show cP X.K H a xs from h;exact⟨its,r,(show s.heap.IsTuple a its.toArray from pl)⟩
def Inv.zbA(I:Inv X pins σ H s)(h:dF X.K t H a xs)(h':dF X.K t H a ys):xs=ys:=by
 cases t
 ·exact I.zcp (show cm X.K H a xs from h) h'
 ·exact I.zaw (show cP X.K H a xs from h) h'
def Inv.moved(I:Inv X pins σ H s)(hf:∀b∈ch,Jf X pins H b)(k:∀b o,b∉ch->s.heap.get? b=some o->h'.get? b=some o):Inv X pins σ H { s with heap:=h',toks:=t' }:=by
 have tr:∀b u,H b=some u->b∉ch:=λb u e z=>by rw[(hf b z).1] at e;cases e
 refine I.step (g':=s.gens) (d':=s.drawn) (ch:=ch) (λb hb=>⟨(hf b hb).2.2.2.1,(hf b hb).2.1,(hf b hb).2.2.2.2.1,(hf b hb).2.2.2.2.2⟩) (λb o _ _ hc e _=>k b o hc e) (λb o _ _ hc e _=>⟨o.slots,k b o hc e⟩) (λ_ _ _ _ n=>n)
  (λb o hc e=>⟨o,k b o hc e⟩) (λ_ _ e=>e) (λ_ _ _ e=>e) (λb ps e=>⟨#[],by rw[e];simp⟩) (λm hm=>?_) (λb u e=>?_) I.bare
 ·obtain⟨o,es,ep,ho,r⟩:=hm;exact⟨o,es,ep,k _ o (λz=>(hf _ z).2.1 rfl) ho,r⟩
 ·refine(I.hok b u e).stay (λc v hc q=>k c v ?_ q) (λ_ q=>q) λ_ _ q=>q
  rcases hc with z|z
  ·rw[z];exact tr b u e
  ·exact tr c _ z
def Inv.adopt{p:AdX}{o:HO}(I:Inv X pins σ H s)(hf:Jf X pins H p)(new:vH X.prog X.w (upd H p o) s.heap p o):Inv X pins σ (upd H p o) s:=by
 have tr:∀b u,H b=some u->b≠p:=λb u e z=>by rw[z,hf.1] at e;cases e
 refine I.step (h':=s.heap) (g':=s.gens) (d':=s.drawn) (t':=s.toks) (ch:=[p]) (λb hb=>?_) (λb o _ _ _ e _=>e) (λb o _ _ _ e _=>⟨o.slots,e⟩) (λb o hc _ n=>?_)
  (λb o _ e=>⟨o,e⟩) (λb xs e=>by rw[zY<|tr b _ e];exact e) (λb u xs e=>by rw[zY<|tr b _ e];exact e) (λb ps e=>⟨#[],by rw[zY<|tr b _ e,e];simp⟩) (λm hm=>hm) (λb u e=>?_) I.bare
 ·have e:b=p:=by simpa using hb
  subst e;exact⟨hf.2.2.2.1,hf.2.1,hf.2.2.2.2.1,hf.2.2.2.2.2⟩
 ·rw[zY λz=>hc<|by simp[z]];exact n
 ·by_cases hb:b=p
  ·subst hb;rw[zL] at e;cases e;exact new
  ·rw[zY hb] at e;exact(I.hok b u e).stay (λc v _ q=>q) (λc q=>by rw[zY<|tr c _ q];exact q) λc xs q=>by rw[zY<|tr c _ q];exact q
end
def uj(r:Vals xs its){x:V}(h:xs[i]?=some x):∃u,its.toArray[i]?=some u/\RelV x u:=by
 obtain⟨u,h1,h2⟩:=r.get h;exact⟨u,by simpa using h1,h2⟩
def O4{b:AdX}(D:ZipApart z ti tu j1 j2 a b):Turn P w K (.Tuple es kk tp) (Dz K t1 t2 a b) [z,ti,tu,j1,j2] z (λi h=>Bp t1 t2 z ti tu j1 j2 a b i h) where
 mem:=by simp
 obj:=λi h S c hc=>by
  simp only [qy,k4,mv] at hc;rcases hc with rfl|rfl|rfl|rfl|rfl
  ·exact⟨_,S.zp,λv q=>by cases q⟩
  ·exact⟨_,S.ip,λv q=>by cases q⟩
  ·obtain⟨b1,b2,e⟩:=S.op;exact⟨_,e,λv q=>by cases q⟩
  ·exact S.d1.obj
  ·exact S.d2.obj
 keep:=λi h h' S k=>by
  obtain⟨b1,b2,e⟩:=S.op;exact⟨k z (by simp) _ S.zp,k ti (by simp) _ S.ip,⟨b1,b2,k tu (by simp) _ e⟩,S.d1.stay λo q=>k j1 (by simp) o q,S.d2.stay λo q=>k j2 (by simp) o q⟩
 item:=λX hp hw hK hc i pins s σ H E I hf S go=>by
  subst hp hw hK;obtain⟨xs,ys,x,y,h1,h2,hx,hy⟩:=go;obtain⟨us,ru,c1⟩:=I.sqB h1;obtain⟨ws,fL,c2⟩:=I.sqB h2;obtain⟨u,eu,hu⟩:=uj ru hx;obtain⟨v,ev,hv⟩:=uj fL hy;refine O0 D S c1 c2 eu ev λh' q1 q2 q3 q4 q5 q6 q7=>⟨_,rfl,?_⟩
  refine wpAny_letOwnedTupleGo_zip q1 λrP z2 hs=>?_
  have lt:∀{c:AdX} {o:Obj},s.heap.get? c=some o->s.heap.objs.size≠c:=λe=>mN<|qX e
  have nz:s.heap.objs.size≠z:=lt S.zp;have O5:s.heap.objs.size≠tu:=by obtain⟨_,_,e⟩:=S.op;exact lt e
  have O6:s.heap.objs.size≠j1:=by obtain⟨o,e,_⟩:=S.d1.obj;exact lt e
  have O7:s.heap.objs.size≠j2:=by obtain⟨o,e,_⟩:=S.d2.obj;exact lt e
  have I1:Inv X pins σ H { s with heap:=rP,toks:=s.toks }:=I.moved (ch:=[z,tu,j1,j2]) (λc cO=>hf c (by
    simp only [qy,k4,mv] at cO ⊢;rcases cO with rfl|rfl|rfl|rfl<;>simp)) λc o cO e=>by
   simp only [qy,k4,mv,not_or] at cO;exact hs.extBut _ _ cO.1<|q7 c o cO.1 cO.2.1 cO.2.2.1 cO.2.2.2 e
  have pT:IsPair rP s.heap.objs.size u v:=hs.extBut _ _ nz q5;have fT:Jf X pins H s.heap.objs.size:=I.zbT (qe _)<|I.hok.fresh<|qe _
  have I2:Inv X pins σ (upd H s.heap.objs.size<|.tup [x,y]) { s with heap:=rP,toks:=s.toks }:=by
   refine I1.adopt fT ⟨by show 2<=sizeLine;decide,[u,v],.cons hu<|.cons hv .nil,?_⟩;exact⟨_,pT,rfl,_,rfl⟩
  refine⟨.ref s.heap.objs.size,_,I2,rfl,⟨_,rfl,fT.1,λO8 ys' x' y' g1 g2 ex ey=>?_⟩,?_,λc cO=>?_⟩
  ·rw[I.zbA g1 h1] at ex;rw[I.zbA g2 h2] at ey;rw[hx] at ex;rw[hy] at ey;cases ex;cases ey;rfl
  ·exact⟨z2,hs.extBut _ _ D.TIz<|q7 _ _ D.TIz D.TITO D.TIi1 D.TIi2 S.ip,⟨_,_,hs.extBut _ _ D.TOz q2⟩,q3.stay λo e=>hs.extBut _ _ D.i1z e,q4.stay λo e=>hs.extBut _ _ D.i2z e⟩
  ·have ne:c≠s.heap.objs.size:=by
    simp only [qy,k4,mv] at cO;rcases cO with rfl|rfl|rfl|rfl|rfl
    ·exact nz.symm
    ·exact(lt S.ip).symm
    ·exact O5.symm
    ·exact O6.symm
    ·exact O7.symm
   rw[zY ne];exact(hf c cO).1
 done:=λX hp hw hK hc i pins s σ H E I hf S st=>by
  subst hp hw hK;obtain⟨xs,ys,h1,h2,fP⟩:=st;obtain⟨us,ru,c1⟩:=I.sqB h1;obtain⟨ws,fL,c2⟩:=I.sqB h2;have l1:=ru.length;have l2:=fL.length
  refine O1 (I.ok.hd hc) D S c1 c2 ?_ λh' q=>⟨rfl,?_⟩
  ·rcases fP with g|g
   ·exact .inl (by simp;omega)
   ·exact .inr (by simp;omega)
  ·refine I.moved (t':=s.toks) (ch:=[z,tu,j1,j2]) (λc cO=>hf c ?_) λc o cO e=>?_
   ·simp only [qy,k4,mv] at cO ⊢;rcases cO with rfl|rfl|rfl|rfl<;>simp
   ·simp only [qy,k4,mv,not_or] at cO;exact q c o cO.1 cO.2.1 cO.2.2.1 cO.2.2.2 e
 self:=λA i s Q E S q=>wpAny_pyIter_zip S.zp q
def O9:bootBuiltins "zip"=some (.type "zip"):=by decide+kernel
def Pa(K:FRx)(t1 t2:Bool)(ta:TA):TI:=λσ H R=>ta σ H λvs H1=>∃a b,vs=[.ref a,.ref b]/\(∃xs,dF K t1 H1 a xs)/\(∃ys,dF K t2 H1 b ys)/\R (Dz K t1 t2 a b) H1
def DA(t1 t2:Bool){a b:Expr}{ta:TA}(hg:Gl X "zip")(hm:X.mg "zip"=none)(ha:PA X [a,b] ta)(hs:starEach [a,b] X.env=[(false,eval a X.env),(false,eval b X.env)]:=by rfl)(dS:starEach [b] X.env=[(false,eval b X.env)]:=by rfl):PI X (.Tuple es kk tp) (.Call (.Name "zip" p) [a,b] [] pos) (Pa X.K t1 t2 ta):=by
 intro pins s σ H R I h;refine Call_ (UI I hg hm O9<|gO (b4 (ha pos pins s σ H _ I h) λus s1 ⟨vs,H1,I1,r1,q1⟩=>?_) (by rw[hs,dS])<|by rw[dS];rfl);obtain⟨a',b',e,⟨xs,h1⟩,⟨ys,h2⟩,q⟩:=q1;subst e;obtain⟨u,w',rfl,ru,fL⟩:=vals2 r1;cases (show u=Value.ref a' from ru);cases (show w'=Value.ref b' from fL);obtain⟨its,_,c1⟩:=I1.sqB h1;obtain⟨cG,_,c2⟩:=I1.sqB h2;refine O3 c1 c2 λh' S hz hk=>?_
 have I2:Inv X pins σ H1 { s1 with heap:=h',toks:=s1.toks }:=I1.kept hk;refine wpAny_pyIter_zip S.zp ?_;refine⟨_,_,_,_,H1,rfl,I2,O4<|zipApart_new c1.lt c2.lt,S,λc hc=>?_,q⟩;simp only [qy,k4,mv] at hc;have ge:s1.heap.objs.size<=c:=by
  rcases hc with rfl|rfl|rfl|rfl|rfl
  ·exact mz _ 4
  ·exact mz _ 2
  ·exact mz _ 3
  ·exact qe _
  ·exact mz _ 1
 have f1:=I1.zbT ge<|I1.hok.fresh ge;exact f1
def bJ.V2(e:bJ H H')(h:H D=none)(o:HO):bJ H (upd H' D o):=λb u q=>by
 rw[zY<|jJ q h];exact e b u q
def He(K:FRx)(t:Bool)(a:AdX):It:=match t with |true=>F9 K a|false=>F8 K a
def Pb(K:FRx)(tl:TE):TI:=λσ H R=>tl σ H λx H1=>∃a t,x=.ref a/\(∃xs,dF K t H1 a xs)/\R (He K t a) H1
section
def DB{l:Expr}{tl:TE}(hl:PE X l tl):PI X tg l (Pb X.K tl):=by
 intro pins s σ H R I h;refine b4 (hl pins s σ H _ I h) λu s1 ⟨x,H1,I1,rx,a,t,ex,⟨xs,hx⟩,q⟩=>?_
 subst ex;cases (show u=Value.ref a from rx);cases t
 ·obtain⟨its,rv,pl,hz⟩:=I1.list<|show cm X.K H1 a xs from hx;refine wpAny_pyIter_list pl.isList ?_;refine⟨s1.heap.objs.size,[s1.heap.objs.size],_,_,H1,rfl,I1.kept (t':=s1.toks) λb o e=>qo _ e,Nh a _,⟨_,qO _ rfl,rfl,rfl⟩,λb hb=>?_,q⟩;have e:b=s1.heap.objs.size:=by simpa using hb
  subst e;exact I1.zbT (qe _)<|I1.hok.fresh<|qe _
 ·obtain⟨its,rv,pl,hz⟩:=I1.tuple<|show cP X.K H1 a xs from hx;refine wpAny_pyIter_tuple (show s1.heap.IsTuple a its.toArray from pl) ?_;refine⟨s1.heap.objs.size,[s1.heap.objs.size],_,_,H1,rfl,I1.kept (t':=s1.toks) λb o e=>qo _ e,Ni a _,⟨_,qO _ rfl,rfl,rfl⟩,λb hb=>?_,q⟩;have e:b=s1.heap.objs.size:=by simpa using hb
  subst e;exact I1.zbT (qe _) (I1.hok.fresh<|qe _)
end
def DC(K:FRx):R2:=λx y H Q=>∃t p xs i v,x=.ref p/\y=.int i/\dF K t H p xs/\eI xs i=some v/\Q v H
def Hf:lK X (DC X.K):=by
 have b:=Od.or Oe (X:=X);have f:∀x y H Q,DC X.K x y H Q->GQ X.K x y H Q\/GR X.K x y H Q:=by
  rintro x y H Q ⟨t,p,xs,i,v,e1,e2,h,e3,q⟩;cases t
  ·exact .inl ⟨p,xs,i,v,e1,e2,h,e3,q⟩
  ·exact .inr ⟨p,xs,i,v,e1,e2,h,e3,q⟩
 exact λvalue slice pins s σ H x y v u Q I r1 r2 h e=>b value slice pins s σ H x y v u Q I r1 r2 (f _ _ _ _ h) e
def Pc(l b:AdX)(its cG:Array Value)(n n2:Nat)(d2:Option Addr)(lI:Array (Option Value))(h0:¬(!its.isEmpty&&Builtin.List.listTooLong (its.size+cG.size))=true)(h1:its.size<=sizeLine)(h2:its.size+cG.size<=sizeLine+1):Meets (Builtin.«list.extend» ⟨[.ref l,.ref b],[]⟩) (λ_ R s=>s.heap.get? l=some { cls:=.type "list",dict:=none,data:=.seq its n,slots:=#[] }/\s.heap.get? b=some { cls:=.type "tuple",dict:=d2,data:=.seq cG n2,slots:=lI }/\
   R (.ok<|.ret Value.none) { s with heap:=s.heap.update l (Obj.mapSeq λx=>x++cG),toks:=s.toks }):=.of_wp λprog w A R s h=>by
  obtain⟨hp,g,d,tk,os⟩:=s;obtain⟨hl,hb,h⟩:=h;have f1:=ny;have f2:=AutoSeq1.sub_tuple_tuple
  have f3:=AutoSeq1.sub_list_list;have f4:=AutoSeq1.sub_tuple_list
  have f5:=AutoSeq1.sub_list_tuple;have hz:(its++cG).size<=sizeLine+1:=by rw[Array.size_append];exact h2
  wp_walk using (wpAny_updateSeq hl rfl (hz:=h1) (_hz':=hz)),gh hl,gh hb
  exact⟨_,rfl,h⟩
def Pd(K:FRx):V->List V->Hp->VK->Prop:=λx vs H Q=>∃l b xs zs,x=.ref l/\vs=[.ref b]/\H l=some (.lst xs)/\cP K H b zs/\xs.length+zs.length<=sizeLine/\Q .non (upd H l<|.lst<|xs++zs)
def Pe:tH X "list.extend" (Pd X.K):=by
 intro pins s σ H x vs v us Q I rx rv h;obtain⟨l,b,xs,zs,rfl,rfl,hH,hB,hz,q⟩:=h;cases rx;obtain⟨u,rfl,ru⟩:=rv.one;cases ru;obtain⟨z,its,n,r,hl,e⟩:=I.zbQ hH;obtain⟨cG,r2,⟨⟨cls,dd,data,sl⟩,ho,hc,n2,hd⟩,z2⟩:=I.tuple hB;simp only at hc hd;subst hc hd;have l2:=r2.length;have iD:its.toArray.size+cG.toArray.size<=sizeLine:=by rw[qH,qH];omega
 have e9:¬(!its.toArray.isEmpty&&Builtin.List.listTooLong (its.toArray.size+cG.toArray.size))=true:=by
  rw[ZU iD,bg];exact qR
 refine mr PySem.F.slot_list_extend ⟨_,e,rfl⟩ PySem.F.entry_list_extend (PySem.F.args_list_extend_2 _ _) (Pc l b its.toArray cG.toArray n n2 dd sl e9 (by rw[qH];omega)<|by omega) ⟨e,ho,?_⟩;refine⟨.non,_,I.lset (its':=its++cG) hH e (by simp) (r.append r2) ?_,rfl,q⟩;rw[qz];omega
def Hg(K:FRx):R2:=λx y H Q=>∃a b xs ys,x=.ref a/\y=.ref b/\cP K H a xs/\cP K H b ys/\xs.length+ys.length<=sizeLine/\
 (xs=[]->Q (.ref b) H)/\(xs≠[]->ys=[]->Q (.ref a) H)/\(xs≠[]->ys≠[]->∀p,H p=none->Q (.ref p) (upd H p<|.tup<|xs++ys))
def jD:c4 X (binaryOp .Add) (Hg X.K):=by
 intro pins s σ H x y v u Q I rx ry h;obtain⟨a,b,xs,ys,rfl,rfl,h1,h2,hz,q1,q2,q3⟩:=h;cases (show v=Value.ref a from rx);cases (show u=Value.ref b from ry);obtain⟨its,r1,p1,_⟩:=I.tuple h1;obtain⟨cG,r2,p2,_⟩:=I.tuple h2;have l1:=r1.length;have l2:=r2.length
 by_cases hx:xs=[]
 ·have hi:its=[]:=(Vals.Yk r1).mpr hx;obtain⟨⟨cls,dd,data,sl⟩,ho,hc,n,hd⟩:=id p1;obtain⟨⟨C5,Bh,data2,lI⟩,oP,lJ,n2,hd2⟩:=id p2;simp only at hc hd lJ hd2;subst hc hd lJ hd2;exact pZ ⟨_,ho,rfl⟩ ⟨_,oP,rfl⟩ bo seq_tuple_add nV nQ (nM _ _) (tuple_addW0 a b its.toArray cG.toArray n n2 dd Bh sl lI<|by simp[hi]) ⟨ho,oP,⟨.ref b,H,I,rfl,q1 hx⟩⟩
 ·have hi:its≠[]:=λz=>hx<|(Vals.Yk r1).mp z
  refine HT.zkd p1 p2 hi (λz=>?_) (λz=>?_) (by omega)
  ·exact⟨.ref a,H,I,rfl,q2 hx<|(Vals.Yk r2).mp z⟩
  ·have hf:H s.heap.objs.size=none:=I.hok.fresh<|qe _;refine⟨.ref s.heap.objs.size,_,I.laid (o:=.tup<|xs++ys) (t':=s.toks) (λc o e=>qo _ e) (qe _) ⟨by rw[qz];exact hz,its++cG,r1.append r2,⟨_,qO _ rfl,rfl,_,rfl⟩⟩,rfl,q3 hx (λw=>z<|(Vals.Yk r2).mpr w) _ hf⟩
def UO(tV:X.env.scope=sc)(kind:scope.kind=.function)(nocell:∀y∈scope.names,y.2≠ .cell)(loc:∀y∈scope.names,y.2=.local->scope.names.lookup y.1=some .local)(free:∀y∈scope.names,y.2=.free->sc.names.lookup y.1=some .cell\/sc.names.lookup y.1=some .free):yn X scope:=⟨kind,nocell,loc,λy hy hf=>by
  show X.env.scope.names.lookup y.1=_\/X.env.scope.names.lookup y.1=_
  rw[tV];exact free y hy hf⟩
def cU(tV:X.env.scope=sc:=by rfl)(kind:scope.kind=.function:=by rfl)(h:(∀y∈scope.names,y.2≠ .cell)/\(∀y∈scope.names,y.2=.local->scope.names.lookup y.1=some .local)/\∀y∈scope.names,y.2=.free->sc.names.lookup y.1=some .cell\/sc.names.lookup y.1=some .free:=by decide+kernel):yn X scope:=UO tV kind h.1 h.2.1 h.2.2
def xD:∀j∈([]:LNt),∃x,X.N[j]?=some x/\scope.names.lookup x=some .free:=λ_ h=>by cases h
def xy(h1:X.N[i]?=some x)(h2:scope.names.lookup x=some .free)(r:∀j∈F,∃x,X.N[j]?=some x/\scope.names.lookup x=some .free):∀j∈i::F,∃x,X.N[j]?=some x/\scope.names.lookup x=some .free:=λj hj=>by
 rcases qy.mp hj with z|z
 ·subst z;exact⟨x,h1,h2⟩
 ·exact r j z
end L2
namespace L2.Fu
open PySem PySem.Spec PyProof.Rows
inductive Sl where
 |no|pu (d:PdX)|ow (ds:LPd)|dk (ks:List (Int×PyData))
abbrev Ro:=List Sl
abbrev RPx:=Ro->Option PyData
abbrev bY:=Ro->Option (List PyData)
abbrev ck:=List PyData->Option PyData
abbrev eM:=List PyData->Option (List PyData)
noncomputable def isM:Sl->Bool
 | .ow _=>true
 | .dk _=>true
 |_=>false
noncomputable def bK(H:Hp)(os:LAd):Hp:=λb=>if b∈os then none else H b
section
variable{o:HO}
def zA(h:a∉os):bK H os a=H a:=by unfold bK;rw[qm h]
def x5(h:a∈os):bK H os a=none:=by unfold bK;rw[qj h]
def jd(H:Hp)(os:LAd):bJ (bK H os) H:=λb o e=>by
 by_cases h:b∈os
 ·rw[x5 h] at e;cases e
 ·rwa[zA h] at e
def zq(e:bJ H H')(os:LAd):bJ (bK H os) (bK H' os):=λb o q=>by
 by_cases h:b∈os
 ·rw[x5 h] at q;cases q
 ·rw[zA h] at q ⊢;exact e b o q
def xa(h:∀a∈os',a∈os):bJ (bK H os) (bK H os'):=λb o q=>by
 by_cases hb:b∈os
 ·rw[x5 hb] at q;cases q
 ·rw[zA hb] at q;rw[zA λz=>hb<|h b z];exact q
def yR(h:a∈os):bK (upd H a o) os=bK H os:=by
 funext b
 by_cases hb:b∈os
 ·rw[x5 hb,x5 hb]
 ·rw[zA hb,zA hb,zY λz=>hb<|by rw[z];exact h]
def jF:bK (upd H a o) (a::os)=bK H (a::os):=yR qZ
end
def Al(H:Hp)(os:LAd):Prop:=∀a∈os,∃o,H a=some o
def Al.same(h:Al H os)(e:bJ H H'):Al H' os:=λa ha=>by
 obtain⟨o,q⟩:=h a ha;exact⟨o,e a o q⟩
def Al.nil(H:Hp):Al H []:=λa h=>by cases h
def Al.new(h:Al H os)(n:H a=none):a∉os:=λz=>by
 obtain⟨o,q⟩:=h a z;rw[n] at q;cases q
section
def jN(K:FRx)(H:Hp)(os:LAd)(v:V)(d:PdX):Prop:=Rep K (bK H os) v d\/∃a xs ds,v=.ref a/\d=.list ds/\H a=some (.lst xs)/\bP K (bK H os) xs ds
def jN.same(e:bJ H H')(h:jN K H os v d):jN K H' os v d:=by
 rcases h with h|⟨a,xs,ds,e1,e2,h1,h2⟩
 ·exact .inl<|h.same<|zq e os
 ·exact .inr ⟨a,xs,ds,e1,e2,e _ _ h1,h2.same<|zq e os⟩
def jN.rep(h:jN K H os v d):Rep K H v d:=by
 rcases h with h|⟨a,xs,ds,rfl,rfl,h1,h2⟩
 ·exact h.same<|jd H os
 ·exact .lst (cm.of h1)<|h2.same<|jd H os
def jN.int{i:Int}(h:jN K H os v (.int i)):v=.int i:=by
 cases h.rep;rfl
def jN.bl{b:Bool}(h:jN K H os v (.bool b)):v=.bl b:=by
 cases h.rep;rfl
def jN.non(h:jN K H os v .none):v=.non:=by
 cases h.rep;rfl
def jN.tup(h:jN K H os v (.tuple ds)):∃a xs,v=.ref a/\cP K H a xs/\cP K (bK H os) a xs/\bP K (bK H os) xs ds:=by
 rcases h with h|⟨a,xs,es,e1,e2,h1,h2⟩
 ·cases h with
  |tup hS r=>exact⟨_,_,rfl,(jd H os).tup hS,hS,r⟩
 ·cases e2
def jN.lst(h:jN K H os v (.list ds)):∃a xs,v=.ref a/\cm K H a xs/\bP K (bK H os) xs ds:=by
 rcases h with h|⟨a,xs,es,e1,e2,h1,h2⟩
 ·cases h with
  |lst hS r=>exact⟨_,_,rfl,(jd H os).seq hS,r⟩
 ·cases e2;exact⟨a,xs,e1,cm.of h1,h2⟩
inductive vf(K:FRx)(H:Hp)(os:LAd):List V->List PyData->Prop
 |nil:vf K H os [] []
 |cons {v:V} {d:PdX} {vs:List V} {ds:LPd}:jN K H os v d->vf K H os vs ds->vf K H os (v::vs) (d::ds)
theorem vf.same(e:bJ H H'):∀{vs:List V} {ds:LPd},vf K H os vs ds->vf K H' os vs ds
 |_,_,.nil=>.nil
 |_,_,.cons h r=>.cons (h.same e)<|vf.same e r
def vf.one{vs:List V}(h:vf K H os vs [d]):∃v,vs=[v]/\jN K H os v d:=by
 cases h with
 |cons h r=>cases r;exact⟨_,rfl,h⟩
def vf.two{vs:List V}{e:PdX}(h:vf K H os vs [d,e]):∃v u,vs=[v,u]/\jN K H os v d/\jN K H os u e:=by
 cases h with
 |cons h r=>cases r with
  |cons h2 r=>cases r;exact⟨_,_,rfl,h,h2⟩
theorem vf.reps:∀{vs:List V} {ds:LPd},vf K H os vs ds->bP K H vs ds
 |_,_,.nil=>.nil
 |_,_,.cons h r=>.cons h.rep (vf.reps r)
end
inductive Vr(K:FRx)(G:Hp):List (Key×V)->List (Int×PyData)->Prop
 |nil:Vr K G [] []
 |cons {k:Int} {v:V} {d:PdX} {ws:List (Key×V)} {ks:List (Int×PyData)}:Rep K G v d->Vr K G ws ks->Vr K G ((Sum.inl k,v)::ws) ((k,d)::ks)
theorem Vr.same{K:FRx}{G G':Hp}(e:bJ G G'):∀{ws:List (Key×V)} {ks:List (Int×PyData)},Vr K G ws ks->Vr K G' ws ks
 |_,_,.nil=>.nil
 |_,_,.cons h r=>.cons (h.same e)<|Vr.same e r
def lR(K:FRx)(G:Hp):HO->Sl->Prop
 | .lst xs,.ow ds=>bP K G xs ds
 | .dK ws,.dk ks=>Vr K G ws ks
 |_,_=>False
def lR.same{o:HO}{c:Sl}(e:bJ G G')(h:lR K G o c):lR K G' o c:=by
 cases o<;>cases c<;>first |exact False.elim h|skip
 ·exact bP.same e h
 ·exact Vr.same e h
def lR.ow{o:HO}(h:lR K G o (.ow ds)):∃xs,o=.lst xs/\bP K G xs ds:=by
 cases o<;>first |exact False.elim h|skip
 exact⟨_,rfl,h⟩
structure xM(K:FRx)(H:Hp)(os:LAd)(σ:St)(ρ:Ro):Prop where
 pu:∀(i:Nat)(d:PdX),ρ[i]?=some (.pu d)->∃v,σ[i]?=some (some v)/\Rep K (bK H os) v d
 mu:∀(i:Nat)(c:Sl),ρ[i]?=some c->isM c=true->∃a o,σ[i]?=some (some<|.ref a)/\a∈os/\H a=some o/\lR K (bK H os) o c
 al:Al H os
 len:σ.length=ρ.length
def xM.ow{ρ:Ro}(h:xM K H os σ ρ)(i:Nat)(ds:LPd)(q:ρ[i]?=some (.ow ds)):∃a xs,σ[i]?=some (some<|.ref a)/\a∈os/\H a=some (.lst xs)/\bP K (bK H os) xs ds:=by
 obtain⟨a,o,h1,h2,h3,h4⟩:=h.mu i _ q rfl;obtain⟨xs,rfl,r⟩:=h4.ow;exact⟨a,xs,h1,h2,h3,r⟩
def xM.same{ρ:Ro}(e:bJ H H')(h:xM K H os σ ρ):xM K H' os σ ρ where
 pu:=λi d q=>by
  obtain⟨v,h1,h2⟩:=h.pu i d q;exact⟨v,h1,h2.same<|zq e os⟩
 mu:=λi c q m=>by
  obtain⟨a,o,h1,h2,h3,h4⟩:=h.mu i c q m;exact⟨a,o,h1,h2,e _ _ h3,h4.same<|zq e os⟩
 al:=h.al.same e
 len:=h.len
def FE(X:Cx)(e:Expr)(f:RPx):Prop:=∃t:TE,PE X e t/\∀(σ:St)(H:Hp)(os:LAd)(ρ:Ro)(d:PdX)(Q:VK),xM X.K H os σ ρ->f ρ=some d->
  (∀v H',bJ H H'->Rep X.K (bK H' os) v d->Q v H')->t σ H Q
def FB(X:Cx)(e:Expr)(f:RPx):Prop:=∃t:TE,PE X e t/\∀(σ:St)(H:Hp)(os:LAd)(ρ:Ro)(d:PdX)(Q:VK),xM X.K H os σ ρ->f ρ=some d->
  (∀v H',bJ H H'->jN X.K H' os v d->Q v H')->t σ H Q
def FL(X:Cx)(e:Expr)(f:bY):Prop:=∃t:TE,PE X e t/\∀(σ:St)(H:Hp)(os:LAd)(ρ:Ro)(ds:LPd)(Q:VK),xM X.K H os σ ρ->f ρ=some ds->
  (∀a xs H',H a=none->bJ H H'->H' a=some (.lst xs)->bP X.K (bK H'<|a::os) xs ds->Q (.ref a) H')->t σ H Q
def iY(X:Cx)(es:List Expr)(f:bY):Prop:=∃t:TA,PA X es t/\∀(σ:St)(H:Hp)(os:LAd)(ρ:Ro)(ds:LPd)(Q:List V->Hp->Prop),xM X.K H os σ ρ->f ρ=some ds->
  (∀vs H',bJ H H'->vf X.K H' os vs ds->Q vs H')->t σ H Q
def FA(X:Cx)(es:List Expr)(f:bY):Prop:=∃t:TA,PA X es t/\∀(σ:St)(H:Hp)(os:LAd)(ρ:Ro)(ds:LPd)(Q:List V->Hp->Prop),xM X.K H os σ ρ->f ρ=some ds->
  (∀vs H',bJ H H'->bP X.K (bK H' os) vs ds->Q vs H')->t σ H Q
def FT(X:Cx)(e:Expr)(f:Ro->Option Bool):Prop:=∃t:TT,PT X e t/\∀(σ:St)(H:Hp)(os:LAd)(ρ:Ro)(b:Bool)(Q:Bool->Hp->Prop),xM X.K H os σ ρ->f ρ=some b->
  (∀H',bJ H H'->Q b H')->t σ H Q
def FW(X:Cx)(e:Expr)(f:Ro->Option Bool):Prop:=∃t:TT,PW X e t/\∀(σ:St)(H:Hp)(os:LAd)(ρ:Ro)(b:Bool)(Q:Bool->Hp->Prop),xM X.K H os σ ρ->f ρ=some b->
  (∀H',bJ H H'->Q b H')->t σ H Q
noncomputable def yt(f:bY):RPx:=λρ=>(f ρ).map .list
def map_some{α β:Type}{o:Option α}{f:α->β}{b:β}(h:o.map f=some b):∃a,o=some a/\f a=b:=by
 cases o with
 |none=>cases h
 |some a=>exact⟨a,rfl,kj h⟩
def bind_some{α β:Type}{o:Option α}{f:α->Option β}{b:β}(h:o.bind f=some b):∃a,o=some a/\f a=some b:=by
 cases o with
 |none=>cases h
 |some a=>exact⟨a,rfl,h⟩
section
variable{f:RPx}
def FE.fb(h:FE X e f):FB X e f:=by
 obtain⟨t,h1,h2⟩:=h;exact⟨t,h1,λσ H os ρ d Q R q k=>h2 σ H os ρ d Q R q λv H' s r=>k v H' s<|.inl r⟩
def FL.fe{f:bY}(h:FL X e f):FE X e (yt f):=by
 obtain⟨t,h1,h2⟩:=h;refine⟨t,h1,λσ H os ρ d Q R q k=>?_⟩;obtain⟨ds,e1,e2⟩:=map_some q;subst e2;refine h2 σ H os ρ ds Q R e1 λa xs H' n s hx r=>k _ H' s<|.lst (cm.of ?_)<|r.same<|xa λb hb=>qA _ hb
 rw[zA<|R.al.new n];exact hx
def FL.fb{f:bY}(h:FL X e f):FB X e (yt f):=h.fe.fb
noncomputable def gv(i:Nat):RPx:=λρ=>match ρ[i]? with |some (.pu d)=>some d|_=>none
noncomputable def gb(i:Nat):RPx:=λρ=>match ρ[i]? with |some (.pu d)=>some d|some (.ow ds)=>some (.list ds)|_=>none
def Pf{ρ:Ro}(h:gv i ρ=some d):ρ[i]?=some (.pu d):=by
 unfold gv at h;split at h
 ·rename_i e;cases h;exact e
 ·cases h
def zh(i:Nat)(hN:X.N[i]?=some x:=by rfl)(hv:cY X.env.scope x:=by trivial)(hd:NDx x:=by decide)(b6:NCx x:=by decide):FE X (.Name x pos) (gv i):=by
 refine⟨_,yA hN hv hd b6,λσ H os ρ d Q R q k=>?_⟩;obtain⟨v,h1,h2⟩:=R.pu i d<|Pf q;exact⟨v,h1,k v H (bJ.refl H) h2⟩
def yv(i:Nat)(hN:X.N[i]?=some x:=by rfl)(hv:cY X.env.scope x:=by trivial)(hd:NDx x:=by decide)(b6:NCx x:=by decide):FB X (.Name x pos) (gb i):=by
 refine⟨_,yA hN hv hd b6,λσ H os ρ d Q R q k=>?_⟩;unfold gb at q;split at q
 ·rename_i e;cases q;obtain⟨v,h1,h2⟩:=R.pu i d e;exact⟨v,h1,k v H (bJ.refl H)<|.inl h2⟩
 ·rename_i ds e;cases q;obtain⟨a,xs,h1,h2,h3,h4⟩:=R.ow i ds e;exact⟨_,h1,k _ H (bJ.refl H)<|.inr ⟨a,xs,ds,rfl,rfl,h3,h4⟩⟩
 ·cases q
noncomputable def cst(d:PdX):RPx:=λ_=>some d
def ye{i j}:FE X (.Constant (.int i) j pos) (cst<|.int i):=⟨_,FU,λ_ H _ _ _ _ _ q k=>by cases q;exact k _ H (bJ.refl H)<|.int i⟩
def qv(i:Nat)(hN:X.N[i]?=some x:=by rfl)(hv:cY X.env.scope x:=by trivial)(hd:NDx x:=by decide)(b6:NCx x:=by decide):FB X (.Name x pos) (gv i):=FE.fb<|zh i hN hv hd b6
def qi{i j}:FB X (.Constant (.int i) j pos) (cst<|.int i):=FE.fb ye
def x9{b j}:FE X (.Constant (.bool b) j pos) (cst<|.bool b):=⟨_,MH,λ_ H _ _ _ _ _ q k=>by cases q;exact k _ H (bJ.refl H)<|.bl b⟩
def Yv{j}:FE X (.Constant .none j pos) (cst .none):=⟨_,FV,λ_ H _ _ _ _ _ q k=>by cases q;exact k _ H (bJ.refl H) .non⟩
def GC(K:FRx)(mg:Str->Option Value)(x:Str)(d:PdX):Prop:=∃v u,mg x=some u/\RelV v u/\∀H,Rep K H v d
def Ym(g:GC X.K X.mg x d)(hg:Gl X x)(hd:NDx x:=by decide):FE X (.Name x pos) (cst d):=by
 obtain⟨v,u,h1,h2,h3⟩:=g;exact⟨_,MI hg h1 h2 hd,λ_ H os _ _ _ _ q k=>by cases q;exact k _ H (bJ.refl H)<|h3 _⟩
noncomputable def bM(h:PyData->PyData->Option PyData)(f g:RPx):RPx:=λρ=>(f ρ).bind λx=>(g ρ).bind λy=>h x y
def eA(K:FRx)(r:R2)(h:PyData->PyData->Option PyData):Prop:=∀(x y:V)(H:Hp)(os:LAd)(d e c:PdX)(Q:VK),Al H os->jN K H os x d->jN K H os y e->h d e=some c->(∀v H',bJ H H'->Rep K (bK H' os) v c->Q v H')->r x y H Q
def Hh(K:FRx)(r:R2)(h:PyData->PyData->Option (List PyData)):Prop:=∀(x y:V)(H:Hp)(os:LAd)(d e:PdX)(c:LPd)(Q:VK),Al H os->jN K H os x d->jN K H os y e->h d e=some c->
  (∀a xs H',H a=none->bJ H H'->H' a=some (.lst xs)->bP K (bK H'<|a::os) xs c->Q (.ref a) H')->r x y H Q
variable{a b:Expr}{g:RPx}
def two{tb:TE}{ρ:Ro}{e:PdX}{R:V->V->Hp->Prop}(ha:∀(σ:St)(H:Hp)(os:LAd)(ρ:Ro)(d:PdX)(Q:VK),xM X.K H os σ ρ->f ρ=some d->(∀v H',bJ H H'->jN X.K H' os v d->Q v H')->ta σ H Q)(hb:∀(σ:St)(H:Hp)(os:LAd)(ρ:Ro)(d:PdX)(Q:VK),xM X.K H os σ ρ->g ρ=some d->(∀v H',bJ H H'->jN X.K H' os v d->Q v H')->tb σ H Q)(rel:xM X.K H os σ ρ)(e1:f ρ=some d)(e2:g ρ=some e)(k:∀x y H',bJ H H'->jN X.K H' os x d->jN X.K H' os y e->R x y H'):ta σ H λx H1=>tb σ H1 λy H2=>R x y H2:=ha σ H os ρ d _ rel e1 λx H1 s1 r1=>hb σ H1 os ρ e _ (rel.same s1) e2 λy H2 s2 r2=>k x y H2 (s1.trans s2) (r1.same s2) r2
def U7{h:PyData->PyData->Option PyData}{ρ:Ro}{c:PdX}(q:bM h f g ρ=some c):∃d e,f ρ=some d/\g ρ=some e/\h d e=some c:=by
 obtain⟨d,e1,q⟩:=bind_some q;obtain⟨e,e2,q⟩:=bind_some q;exact⟨d,e,e1,e2,q⟩
def zH{op:Operator}{r:R2}{h:PyData->PyData->Option PyData}(ho:c4 X (binaryOp op) r)(hr:eA X.K r h)(ha:FB X a f)(hb:FB X b g):FE X (.BinOp a op b pos) (bM h f g):=by
 obtain⟨ta,pa,qa⟩:=ha;obtain⟨tb,pb,qb⟩:=hb;refine⟨_,rM ho pa pb,λσ H os ρ c Q R q k=>?_⟩;obtain⟨d,e,e1,e2,e3⟩:=U7 q;refine two qa qb R e1 e2 λx y H' s r1 r2=>hr x y H' os d e c Q (R.al.same s) r1 r2 e3 λv H2 s2=>k v H2<|s.trans s2
noncomputable def DD(h:PyData->PyData->Option (List PyData))(f g:RPx):bY:=λρ=>(f ρ).bind λx=>(g ρ).bind λy=>h x y
def Pg{op:Operator}{r:R2}{h:PyData->PyData->Option (List PyData)}(ho:c4 X (binaryOp op) r)(hr:Hh X.K r h)(ha:FB X a f)(hb:FB X b g):FL X (.BinOp a op b pos) (DD h f g):=by
 obtain⟨ta,pa,qa⟩:=ha;obtain⟨tb,pb,qb⟩:=hb;refine⟨_,rM ho pa pb,λσ H os ρ c Q R q k=>?_⟩;obtain⟨d,e1,q⟩:=bind_some q;obtain⟨e,e2,e3⟩:=bind_some q;refine two qa qb R e1 e2 λx y H' s r1 r2=>hr x y H' os d e c Q (R.al.same s) r1 r2 e3 λa xs H2 n s2=>k a xs H2 (s.free n)<|s.trans s2
def Zk{r:R2}{h:PyData->PyData->Option PyData}(ho:c4 X (compareOp op) r)(hr:eA X.K r h)(ha:FB X a f)(hb:FB X b g)(hm:behindInMarks op b=false):FE X (.Compare a [op] [b] pos) (bM h f g):=by
 obtain⟨ta,pa,qa⟩:=ha;obtain⟨tb,pb,qb⟩:=hb;refine⟨_,Gi ho pa pb hm,λσ H os ρ c Q R q k=>?_⟩;obtain⟨d,e,e1,e2,e3⟩:=U7 q;refine two qa qb R e1 e2 λx y H' s r1 r2=>hr x y H' os d e c Q (R.al.same s) r1 r2 e3 λv H2 s2=>k v H2<|s.trans s2
noncomputable def zy(f:RPx):Ro->Option Bool:=λρ=>match f ρ with |some (.bool b)=>some b|_=>none
def UK{ρ:Ro}{b:Bool}(h:zy f ρ=some b):f ρ=some (.bool b):=by
 unfold zy at h;split at h
 ·rename_i e;cases h;exact e
 ·cases h
def yw{r:R2}{h:PyData->PyData->Option PyData}(ho:c4 X (compareOp op) r)(hr:eA X.K r h)(ha:FB X a f)(hb:FB X b g)(hm:behindInMarks op b=false):FT X (.Compare a [op] [b] pos) (zy<|bM h f g):=by
 obtain⟨ta,pa,qa⟩:=ha;obtain⟨tb,pb,qb⟩:=hb;refine⟨_,CW ho pa pb hm,λσ H os ρ c Q R q k=>?_⟩;obtain⟨d,e,e1,e2,e3⟩:=U7<|UK q;refine two qa qb R e1 e2 λx y H' s r1 r2=>hr x y H' os d e (.bool c) _ (R.al.same s) r1 r2 e3 λv H2 s2 rv=>?_
 cases rv;exact⟨c,rfl,k H2<|s.trans s2⟩
def xr(ha:FE X e f)(he:∀whole,isTrue e X.env whole=(do let v <-whole;standAt e.pos;holding [v] (truthy v)):=by intro _;rfl):FT X e (zy f):=by
 obtain⟨ta,pa,qa⟩:=ha;refine⟨_,FX pa he,λσ H os ρ c Q R q k=>?_⟩;refine qa σ H os ρ _ _ R (UK q) λv H' s rv=>?_
 cases rv;exact⟨c,rfl,k H' s⟩
noncomputable def xP(f:Ro->Option Bool):Ro->Option Bool:=λρ=>(f ρ).map (!·)
noncomputable def d6(f g:Ro->Option Bool):Ro->Option Bool:=λρ=>(f ρ).bind λc=>if c then some true else g ρ
def xg{f:Ro->Option Bool}(ha:FT X a f):FT X (.UnaryOp .Not a pos) (xP f):=by
 obtain⟨ta,pa,qa⟩:=ha;refine⟨_,FY pa,λσ H os ρ c Q R q k=>?_⟩;obtain⟨b,e1,e2⟩:=map_some q;subst e2;exact qa σ H os ρ b _ R e1 k
def FW.ft{f:Ro->Option Bool}(h:FW X e f):FT X e f:=by
 obtain⟨t,p,q⟩:=h;exact⟨t,p.pt,q⟩
def wN{f:Ro->Option Bool}(ha:FT X a f):FW X (.BoolOp .Or [a] pos) f:=by
 obtain⟨t,p,q⟩:=ha;exact⟨t,oF p,q⟩
def vR{f g:Ro->Option Bool}{rest:List Expr}(ha:FT X a f)(hb:FW X (.BoolOp .Or (b::rest) pos) g):FW X (.BoolOp .Or (a::b::rest) pos) (d6 f g):=by
 obtain⟨ta,pa,qa⟩:=ha;obtain⟨tb,pb,qb⟩:=hb;refine⟨_,tw pa pb,λσ H os ρ c Q R q k=>?_⟩;obtain⟨b,e1,e2⟩:=bind_some q;refine qa σ H os ρ b _ R e1 λH' s=>?_
 cases b with
 |true=>rw[qj rfl] at e2 ⊢;cases e2;exact k H' s
 |false=>rw[qm qR] at e2 ⊢;exact qb σ H' os ρ c Q (R.same s) e2 λH2 s2=>k H2<|s.trans s2
noncomputable def rQ(f g:RPx):RPx:=λρ=>match f ρ with |some (.bool true)=>g ρ|some (.bool false)=>some (.bool false)|_=>none
noncomputable def DE(f:RPx):RPx:=λρ=>match f ρ with |some (.bool b)=>some (.bool<|!b)|_=>none
def Hi{op}(h:FE X a f):FE X (.BoolOp op [a] pos) f:=by
 obtain⟨t,p,q⟩:=h;exact⟨t,MQ p,q⟩
def Hj{rest:List Expr}(ha:FE X a f)(hb:FE X (.BoolOp .And (b::rest) pos) g):FE X (.BoolOp .And (a::b::rest) pos) (rQ f g):=by
 obtain⟨ta,pa,qa⟩:=ha;obtain⟨tb,pb,qb⟩:=hb;refine⟨_,MR pa pb,λσ H os ρ c Q R q k=>?_⟩;unfold rQ at q;split at q
 ·rename_i e1;refine qa σ H os ρ _ _ R e1 λv H' s rv=>?_
  cases rv;refine⟨true,rfl,?_⟩;rw[qj rfl];exact qb σ H' os ρ c Q (R.same s) q λv H2 s2=>k v H2<|s.trans s2
 ·rename_i e1;cases q;refine qa σ H os ρ _ _ R e1 λv H' s rv=>?_
  cases rv;refine⟨false,rfl,?_⟩;rw[qm qR];exact k _ H' s<|.bl _
 ·cases q
def Ph(ha:FE X a f):FE X (.UnaryOp .Not a pos) (DE f):=by
 obtain⟨ta,pa,qa⟩:=ha;refine⟨_,MS pa,λσ H os ρ c Q R q k=>?_⟩;unfold DE at q;split at q
 ·rename_i e1;cases q;refine qa σ H os ρ _ _ R e1 λv H' s rv=>?_
  cases rv;exact⟨_,rfl,k _ H' s<|.bl _⟩
 ·cases q
noncomputable def iZ(c:Ro->Option Bool)(f g:RPx):RPx:=λρ=>(c ρ).bind λb=>if b then f ρ else g ρ
def Hk{fc:Ro->Option Bool}(hc:FT X c fc)(ha:FE X a f)(hb:FE X b g):FE X (.IfExp c a b pos) (iZ fc f g):=by
 obtain⟨tc,pc,qc⟩:=hc;obtain⟨ta,pa,qa⟩:=ha;obtain⟨tb,pb,qb⟩:=hb;refine⟨_,MU pc pa pb,λσ H os ρ d Q R q k=>?_⟩;obtain⟨b,e1,e2⟩:=bind_some q;refine qc σ H os ρ b _ R e1 λH' s=>?_
 cases b with
 |true=>rw[qj rfl] at e2 ⊢;exact qa σ H' os ρ d Q (R.same s) e2 λv H2 s2=>k v H2<|s.trans s2
 |false=>rw[qm qR] at e2 ⊢;exact qb σ H' os ρ d Q (R.same s) e2 λv H2 s2=>k v H2<|s.trans s2
noncomputable def dI(h:PyData->Option PyData)(f:RPx):RPx:=λρ=>(f ρ).bind h
noncomputable def Z1:PyData->Option PyData
 | .int i=>some<|.int<|-i
 |_=>none
def ZL(ha:FE X a f):FE X (.UnaryOp .USub a pos) (dI Z1 f):=by
 obtain⟨ta,pa,qa⟩:=ha;refine⟨_,Gf Gh pa,λσ H os ρ c Q R q k=>?_⟩;obtain⟨d,e1,e2⟩:=bind_some q;refine qa σ H os ρ _ _ R e1 λv H' s rv=>?_
 unfold Z1 at e2;split at e2
 ·cases e2;cases rv;exact⟨_,rfl,k _ H' s<|.int _⟩
 ·cases e2
noncomputable def a0:bY:=λ_=>some []
noncomputable def aC(f:RPx)(g:bY):bY:=λρ=>(f ρ).bind λx=>(g ρ).map (x::·)
variable{ga:bY}
def zk:FA X [] a0:=⟨_,xW,λ_ H _ _ _ _ _ q k=>by cases q;exact k [] H (bJ.refl H) .nil⟩
def yO:iY X [] a0:=⟨_,xW,λ_ H _ _ _ _ _ q k=>by cases q;exact k [] H (bJ.refl H) .nil⟩
def za(ha:FE X e f)(hr:FA X es ga)(hs:cT X e es:=by rfl):FA X (e::es) (aC f ga):=by
 obtain⟨ta,pa,qa⟩:=ha;obtain⟨tb,pb,qb⟩:=hr;refine⟨_,yQ pa pb hs,λσ H os ρ ds Q R q k=>?_⟩;obtain⟨d,e1,q⟩:=bind_some q;obtain⟨r,e2,e3⟩:=map_some q;subst e3;exact qa σ H os ρ d _ R e1 λx H1 s1 r1=>qb σ H1 os ρ r _ (R.same s1) e2 λxs H2 s2 r2=>k _ H2 (s1.trans s2)<|.cons (r1.same<|zq s2 os) r2
def z9(ha:FB X e f)(hr:iY X es ga)(hs:cT X e es:=by rfl):iY X (e::es) (aC f ga):=by
 obtain⟨ta,pa,qa⟩:=ha;obtain⟨tb,pb,qb⟩:=hr;refine⟨_,yQ pa pb hs,λσ H os ρ ds Q R q k=>?_⟩;obtain⟨d,e1,q⟩:=bind_some q;obtain⟨r,e2,e3⟩:=map_some q;subst e3;exact qa σ H os ρ d _ R e1 λx H1 s1 r1=>qb σ H1 os ρ r _ (R.same s1) e2 λxs H2 s2 r2=>k _ H2 (s1.trans s2)<|.cons (r1.same s2) r2
noncomputable def xm(g:bY):RPx:=λρ=>(g ρ).bind λds=>if ds.length<=16777216 then some (.tuple ds) else none
def yC{x1}(h:FA X es ga):FE X (.Tuple es x1 pos) (xm ga):=by
 obtain⟨t,p,q⟩:=h;refine⟨_,C0 p,λσ H os ρ d Q R e k=>?_⟩;obtain⟨ds,e1,e2⟩:=bind_some e;by_cases hl:ds.length<=16777216
 ·rw[qj hl] at e2;cases e2;refine q σ H os ρ ds _ R e1 λvs H' s r=>⟨by rw[r.length];exact hl,λp hp=>k _ _ (s.trans<|yb hp _)<|.tup (cP.of ?_)<|r.same<|zq (yb hp _) os⟩
  rw[zA<|(R.al.same s).new hp];exact zL
 ·rw[qm hl] at e2;cases e2
noncomputable def vI(g:bY):bY:=λρ=>(g ρ).bind λds=>if ds.length<=16777216 then some ds else none
def xZ(h:FA X es ga):FL X (.List es pos) (vI ga):=by
 obtain⟨t,p,q⟩:=h;refine⟨_,NW p,λσ H os ρ d Q R e k=>?_⟩;obtain⟨ds,e1,e2⟩:=bind_some e;by_cases hl:ds.length<=16777216
 ·rw[qj hl] at e2;cases e2;refine q σ H os ρ d _ R e1 λvs H' s r=>⟨by rw[r.length];exact hl,λp hp=>k p vs _ (s.free hp) (s.trans<|yb hp _) zL ?_⟩
  rw[jF];refine r.same λb o z=>?_
  by_cases hb:b∈os
  ·rw[x5 hb] at z;cases z
  ·rw[zA hb] at z;rw[zA]
   ·exact z
   ·intro w;rcases qy.mp w with w|w
    ·rw[w,hp] at z;cases z
    ·exact hb w
 ·rw[qm hl] at e2;cases e2
end
end L2.Fu
variable{f g:L2.Fu.RPx}{ρ ρ' ρ0:L2.Fu.Ro}{fc:L2.Fu.Ro->Option Bool}
namespace L2.Fu
open PySem PySem.Spec PyProof.Rows
open PySem.Builtin.Int (intBits)
noncomputable def xN:PyData->PyData->Option PyData
 | .int i,.int j=>some<|.int<|i+j
 |_,_=>none
noncomputable def W9:PyData->PyData->Option PyData
 | .int i,.int j=>some<|.int<|i - j
 |_,_=>none
def yD:PyData->PyData->Option PyData
 | .int i,.int j=>open Classical in if IntMulOk i j then some (.int<|i*j) else none
 |_,_=>none
noncomputable def yJ:PyData->PyData->Option PyData
 | .int i,.int j=>if j≠0/\j.natAbs.log2<9000 then some (.int<|i.fdiv j) else none
 |_,_=>none
noncomputable def xB:PyData->PyData->Option PyData
 | .int i,.int j=>if j≠0 then some (.int<|i.fmod j) else none
 |_,_=>none
noncomputable def lS(p:Int->Int->Bool):PyData->PyData->Option PyData
 | .int i,.int j=>some<|.bool<|p i j
 |_,_=>none
section
def jK:eA K (iC λi j=>.int<|i+j) xN:=by
 intro x y H os d e c Q al r1 r2 h k;unfold xN at h;split at h
 ·cases h;exact⟨_,_,r1.int,r2.int,k _ H (bJ.refl H)<|.int _⟩
 ·cases h
def UN:eA K (iC λi j=>.int<|i - j) W9:=by
 intro x y H os d e c Q al r1 r2 h k;unfold W9 at h;split at h
 ·cases h;exact⟨_,_,r1.int,r2.int,k _ H (bJ.refl H)<|.int _⟩
 ·cases h
def xF:eA K (rI IntMulOk λi j=>.int<|i*j) yD:=by
 intro x y H os d e c Q al r1 r2 h k;unfold yD at h;split at h
 ·split at h
  ·rename_i hc;cases h;exact⟨_,_,r1.int,r2.int,hc,k _ H (bJ.refl H)<|.int _⟩
  ·cases h
 ·cases h
def xu:eA K (rI G1 λi j=>.int<|i.fdiv j) yJ:=by
 intro x y H os d e c Q al r1 r2 h k;unfold yJ at h;split at h
 ·split at h
  ·rename_i hc;cases h;exact⟨_,_,r1.int,r2.int,hc,k _ H (bJ.refl H)<|.int _⟩
  ·cases h
 ·cases h
def jo:eA K (rI (λ_ j=>j≠0) λi j=>.int<|i.fmod j) xB:=by
 intro x y H os d e c Q al r1 r2 h k;unfold xB at h;split at h
 ·split at h
  ·rename_i hc;cases h;exact⟨_,_,r1.int,r2.int,hc,k _ H (bJ.refl H)<|.int _⟩
  ·cases h
 ·cases h
def jV{p:Int->Int->Bool}:eA K (iC λi j=>.bl<|p i j) (lS p):=by
 intro x y H os d e c Q al r1 r2 h k;unfold lS at h;split at h
 ·cases h;exact⟨_,_,r1.int,r2.int,k _ H (bJ.refl H)<|.bl _⟩
 ·cases h
noncomputable def dA(d e:PdX):Option PyData:=if SeqAt.shaped d=true/\SeqAt.shaped e=true then some (.bool<|PyData.eqv d e) else none
noncomputable def cM(d e:PdX):Option PyData:=if SeqAt.shaped d=true/\SeqAt.shaped e=true then some (.bool<|!PyData.eqv d e) else none
def JA:eA K (G2 K) dA:=by
 intro x y H os d e c Q al r1 r2 h k;unfold dA at h;split at h
 ·rename_i hc;cases h;exact⟨d,e,r1.rep,r2.rep,hc.1,hc.2,k _ H (bJ.refl H)<|.bl _⟩
 ·cases h
def vG:eA K (G3 K) cM:=by
 intro x y H os d e c Q al r1 r2 h k;unfold cM at h;split at h
 ·rename_i hc;cases h;exact⟨d,e,r1.rep,r2.rep,hc.1,hc.2,k _ H (bJ.refl H)<|.bl _⟩
 ·cases h
def isNone:PyData->Bool
 | .none=>true
 |_=>false
noncomputable def isD:PyData->PyData->Option PyData
 |d,.none=>some<|.bool<|isNone d
 |_,_=>none
noncomputable def Zp:PyData->PyData->Option PyData
 |d,.none=>some<|.bool<|!isNone d
 |_,_=>none
def Pj{x:V}(h:Rep K H x d):decide (x=.non)=isNone d:=by
 cases h<;>rfl
def ZI:eA K (λx y H Q=>y=.non/\Q (.bl<|!decide (x=.non)) H) Zp:=by
 intro x y H os d e c Q al r1 r2 h k;unfold Zp at h;split at h
 ·cases h;refine⟨r2.non,?_⟩;rw[Pj r1.rep];exact k _ H (bJ.refl H)<|.bl _
 ·cases h
def bS:PyData->PyData->Option PyData
 | .tuple ds,.int i=>eI ds i
 | .list ds,.int i=>eI ds i
 |_,_=>none
def Hl{i:Int}(r:bP K G xs ds)(h:eI ds i=some d):∃v,eI xs i=some v/\Rep K G v d:=by
 unfold eI at h ⊢;rw[r.length];cases e:dZ ds.length i with
 |none=>rw[e] at h;cases h
 |some j=>
  rw[e] at h;exact r.getD h
def Hm:eA K (DC K) bS:=by
 intro x y H os d e c Q al r1 r2 h k;unfold bS at h;split at h
 ·obtain⟨a,xs,rfl,hS,_,r⟩:=r1.tup;obtain⟨v,e,rv⟩:=Hl r h;exact⟨true,a,xs,_,v,rfl,r2.int,hS,e,k v H (bJ.refl H) rv⟩
 ·obtain⟨a,xs,rfl,hS,r⟩:=r1.lst;obtain⟨v,e,rv⟩:=Hl r h;exact⟨false,a,xs,_,v,rfl,r2.int,hS,e,k v H (bJ.refl H) rv⟩
 ·cases h
noncomputable def uY:PyData->PyData->Option PyData
 | .tuple ds,.tuple es=>if ds.length+es.length<=16777216 then some (.tuple<|ds++es) else none
 |_,_=>none
def vv:eA K (Hg K) uY:=by
 intro x y H os d e c Q al r1 r2 h k;unfold uY at h;split at h
 ·rename_i ds es;split at h
  ·rename_i hc;cases h;obtain⟨a,xs,rfl,hS,rR,r⟩:=r1.tup;obtain⟨b,ys,rfl,hT,Pl,q⟩:=r2.tup;have l1:=r.length;have l2:=q.length
   refine⟨a,b,xs,ys,rfl,rfl,hS,hT,by rw[l1,l2];exact hc,λz=>?_,λz w=>?_,λz w p hp=>?_⟩
   ·subst z;cases r;exact k _ H (bJ.refl H)<|.tup Pl q
   ·subst w;cases q;rw[km] at k;exact k _ H (bJ.refl H)<|.tup rR r
   ·have s:=yb hp<|.tup<|xs++ys;refine k _ _ s<|.tup (cP.of ?_)<|(r.append q).same<|zq s os;rw[zA<|al.new hp];exact zL
  ·cases h
 ·cases h
def j8{p:AdX}{o:HO}(hp:H p=none)(r:bP K (bK H os) xs ds):bP K (bK (upd H p o)<|p::os) xs ds:=by
 rw[jF];refine r.same λb o z=>?_
 by_cases hb:b∈os
 ·rw[x5 hb] at z;cases z
 ·rw[zA hb] at z;rw[zA]
  ·exact z
  ·intro w;rcases qy.mp w with w|w
   ·rw[w,hp] at z;cases z
   ·exact hb w
end
def FK(X:Cx)(e:Expr)(f:bY):Prop:=∃t:TE,PE X e t/\∀(σ:St)(H:Hp)(os:LAd)(ρ:Ro)(ds:LPd)(Q:VK),xM X.K H os σ ρ->f ρ=some ds->
  (∀a xs H',bJ H H'->H' a=some (.lst xs)->bP X.K (bK H' os) xs ds->Q (.ref a) H')->t σ H Q
noncomputable def gk(i:Nat):bY:=λρ=>match ρ[i]? with |some (.ow ds)=>some ds|_=>none
section
variable{a b:Expr}
def FL.fk{f:bY}(h:FL X e f):FK X e f:=by
 obtain⟨t,h1,h2⟩:=h;exact⟨t,h1,λσ H os ρ ds Q R q k=>h2 σ H os ρ ds Q R q λa xs H' n s hx r=>k a xs H' s hx<|r.same<|xa λb hb=>qA _ hb⟩
def ub(q:gk i ρ=some ds):ρ[i]?=some (.ow ds):=by
 unfold gk at q;split at q
 ·rename_i e;cases q;exact e
 ·cases q
def DF(i:Nat)(hN:X.N[i]?=some x:=by rfl)(hv:cY X.env.scope x:=by trivial)(hd:NDx x:=by decide)(b6:NCx x:=by decide):FK X (.Name x pos) (gk i):=by
 refine⟨_,yA hN hv hd b6,λσ H os ρ d Q R q k=>?_⟩;obtain⟨a,xs,h1,h2,h3,h4⟩:=R.ow i d<|ub q;exact⟨_,h1,k _ _ H (bJ.refl H) h3 h4⟩
noncomputable def tW(f g:bY):bY:=λρ=>(f ρ).bind λx=>(g ρ).bind λy=>if x.length+y.length<=16777216 then some (x++y) else none
def Hn{f g:bY}(ha:FK X a f)(hb:FK X b g):FL X (.BinOp a .Add b pos) (tW f g):=by
 obtain⟨ta,pa,qa⟩:=ha;obtain⟨tb,pb,qb⟩:=hb;refine⟨_,rM Ox pa pb,λσ H os ρ c Q R q k=>?_⟩;obtain⟨x,e1,q⟩:=bind_some q;obtain⟨y,e2,q⟩:=bind_some q;split at q
 ·rename_i hl;cases q;refine qa σ H os ρ x _ R e1 λa xs H1 s1 h1 r1=>qb σ H1 os ρ y _ (R.same s1) e2 λb ys H2 s2 h2 r2=>?_
  have l1:=r1.length;have l2:=r2.length
  refine⟨a,b,xs,ys,rfl,rfl,s2 _ _ h1,h2,by rw[l1,l2];exact hl,λp hp=>?_⟩;exact k p _ _ (s1.free<|s2.free hp) ((s1.trans s2).trans<|yb hp _) zL<|j8 hp<|(r1.same<|zq s2 os).append r2
 ·cases q
noncomputable def tX(f:bY)(g:RPx):bY:=λρ=>(f ρ).bind λx=>match g ρ with
 |some (.int k)=>if -(2 ^ 63)<=k/\k<2 ^ 63/\x.length*k.toNat<=16777216 then some (List.replicate k.toNat x).flatten else none
 |_=>none
theorem UZ{K:FRx}{H:Hp}{xs:List V}{ds:LPd}(r:bP K H xs ds):∀k:Nat,bP K H (List.replicate k xs).flatten (List.replicate k ds).flatten
 |0=>.nil
 |k+1=>by
  rw[gN,gN,mh,mh];exact r.append<|UZ r k
def Ho{f:bY}(ha:FK X a f)(hb:FE X b g):FL X (.BinOp a .Mult b pos) (tX f g):=by
 obtain⟨ta,pa,qa⟩:=ha;obtain⟨tb,pb,qb⟩:=hb;refine⟨_,rM GW pa pb,λσ H os ρ c Q R q k=>?_⟩;obtain⟨x,e1,q⟩:=bind_some q;split at q
 ·rename_i n e2;split at q
  ·rename_i hl;cases q;refine qa σ H os ρ x _ R e1 λa xs H1 s1 h1 r1=>qb σ H1 os ρ _ _ (R.same s1) e2 λv H2 s2 r2=>?_
   cases r2;have l1:=r1.length;refine⟨a,n,xs,rfl,rfl,s2 _ _ h1,hl.1,hl.2.1,by rw[l1];exact hl.2.2,λp hp=>?_⟩;exact k p _ _ (s1.free<|s2.free hp) ((s1.trans s2).trans<|yb hp _) zL<|j8 hp<|UZ (r1.same<|zq s2 os) _
  ·cases q
 ·cases q
def FO(X:Cx)(e:Option Expr)(f:Ro->Option (Option Int)):Prop:=∃t:TO,PO X e t/\∀(σ:St)(H:Hp)(os:LAd)(ρ:Ro)(d:Option Int)(Q:Option Int->Hp->Prop),xM X.K H os σ ρ->f ρ=some d->(∀H',bJ H H'->Q d H')->t σ H Q
noncomputable def o0:Ro->Option (Option Int):=λ_=>some none
noncomputable def oS(f:RPx):Ro->Option (Option Int):=λρ=>match f ρ with |some (.int i)=>some (some i)|_=>none
def Hq:FO X none o0:=⟨_,N7,λ_ H _ _ _ _ _ q k=>by cases q;exact k H<|bJ.refl H⟩
def J6(h:FE X e f):FO X (some e) (oS f):=by
 obtain⟨t,p,q⟩:=h;refine⟨_,N8 p,λσ H os ρ d Q R e k=>?_⟩;unfold oS at e;split at e
 ·rename_i i e1;cases e;refine q σ H os ρ _ _ R e1 λv H' s r=>?_
  cases r;exact⟨i,rfl,k H' s⟩
 ·cases e
def cut(ds:LPd)(lo hi:Option Int):List PyData:=(ds.drop<|HT.sIx ds.length 0 lo).take<|HT.sIx ds.length ds.length hi - HT.sIx ds.length 0 lo
def Hr(r:bP K H xs ds)(lo hi:Option Int):bP K H (rO xs lo hi) (cut ds lo hi):=by
 unfold rO cut;rw[r.length];exact(r.drop _).take _
def lU(f:RPx)(l h:Ro->Option (Option Int)):bY:=λρ=>match f ρ with
 |some (.list ds)=>(l ρ).bind λlo=>(h ρ).bind λhi=>some<|cut ds lo hi
 |_=>none
variable{lo:Option Expr}{l h:Ro->Option (Option Int)}
def ZE(ha:FB X e f)(hl:FO X lo l)(hh:FO X hi h):FL X (.Subscript e (.Slice lo hi none p2) pos) (lU f l h):=by
 obtain⟨ta,pa,qa⟩:=ha;obtain⟨tl,pl,ql⟩:=hl;obtain⟨th,ph,qh⟩:=hh;refine⟨_,GI GS pa pl ph,λσ H os ρ c Q R q k=>?_⟩;unfold lU at q;split at q
 ·rename_i ds e1;obtain⟨a,e2,q⟩:=bind_some q;obtain⟨b,e3,q⟩:=bind_some q;cases q;refine qa σ H os ρ _ _ R e1 λv H1 s1 r1=>ql σ H1 os ρ a _ (R.same s1) e2 λH2 s2=>qh σ H2 os ρ b _ (R.same<|s1.trans s2) e3 λH3 s3=>?_
  obtain⟨p,xs,rfl,hS,r⟩:=(r1.same<|s2.trans s3).lst;exact⟨p,xs,rfl,hS,λq hq=>k q _ _ ((s1.trans s2).trans s3 |>.free hq) (((s1.trans s2).trans s3).trans<|yb hq _) zL<|j8 hq<|Hr r a b⟩
 ·cases q
def lV(K:FRx)(r:List V->Hp->VK->Prop)(h:ck):Prop:=∀(xs:List V)(H:Hp)(os:LAd)(ds:LPd)(c:PdX)(Q:VK),Al H os->vf K H os xs ds->h ds=some c->(∀v H',bJ H H'->Rep K (bK H' os) v c->Q v H')->r xs H Q
def Hs(K:FRx)(r:List V->Hp->VK->Prop)(h:eM):Prop:=∀(xs:List V)(H:Hp)(os:LAd)(ds:LPd)(c:LPd)(Q:VK),Al H os->vf K H os xs ds->h ds=some c->
  (∀a xs H',H a=none->bJ H H'->H' a=some (.lst xs)->bP K (bK H'<|a::os) xs c->Q (.ref a) H')->r xs H Q
noncomputable def zi(h:ck)(g:bY):RPx:=λρ=>(g ρ).bind h
noncomputable def xf(h:eM)(g:bY):bY:=λρ=>(g ρ).bind h
variable{ga:bY}{id T:String}{r:List V->Hp->VK->Prop}
def uF{h:ck}(hc:vS X (.builtin id) r)(hr:lV X.K r h)(hg:Gl X x)(hm:X.mg x=none)(hv:bootBuiltins x=some (.builtin id))(ha:iY X (e::es) ga)(hn:x≠"__name__":=by decide)(c8:NDx x:=by decide)(he:cT X e es:=by rfl)(cJ:d9 X pos es:=by rfl):FE X (.Call (.Name x p) (e::es) [] pos) (zi h ga):=by
 obtain⟨t,pa,qa⟩:=ha;refine⟨_,U0 hc hg hm hv pa hn c8 he cJ,λσ H os ρ c Q R q k=>?_⟩;obtain⟨ds,e1,e2⟩:=bind_some q;exact qa σ H os ρ ds _ R e1 λvs H' s rv=>hr vs H' os ds c Q (R.al.same s) rv e2 λv H2 s2=>k v H2<|s.trans s2
def Pm{h:ck}(hc:vS X (.type T) r)(hr:lV X.K r h)(hg:Gl X x)(hm:X.mg x=none)(hv:bootBuiltins x=some (.type T))(ha:iY X (e::es) ga)(hn:x≠"__name__":=by decide)(c8:NDx x:=by decide)(he:cT X e es:=by rfl)(cJ:d9 X pos es:=by rfl):FE X (.Call (.Name x p) (e::es) [] pos) (zi h ga):=by
 obtain⟨t,pa,qa⟩:=ha;refine⟨_,J0 hc hg hm hv pa hn c8 he cJ,λσ H os ρ c Q R q k=>?_⟩;obtain⟨ds,e1,e2⟩:=bind_some q;exact qa σ H os ρ ds _ R e1 λvs H' s rv=>hr vs H' os ds c Q (R.al.same s) rv e2 λv H2 s2=>k v H2<|s.trans s2
def vn{h:eM}(hc:vS X (.type T) r)(hr:Hs X.K r h)(hg:Gl X x)(hm:X.mg x=none)(hv:bootBuiltins x=some (.type T))(ha:iY X (e::es) ga)(hn:x≠"__name__":=by decide)(c8:NDx x:=by decide)(he:cT X e es:=by rfl)(cJ:d9 X pos es:=by rfl):FL X (.Call (.Name x p) (e::es) [] pos) (xf h ga):=by
 obtain⟨t,pa,qa⟩:=ha;refine⟨_,J0 hc hg hm hv pa hn c8 he cJ,λσ H os ρ c Q R q k=>?_⟩;obtain⟨ds,e1,e2⟩:=bind_some q;exact qa σ H os ρ ds _ R e1 λvs H' s rv=>hr vs H' os ds c Q (R.al.same s) rv e2 λa xs H2 n s2=>k a xs H2 (s.free n)<|s.trans s2
noncomputable def yh:List PyData->Option PyData
 |[.list ds]=>some<|.int ds.length
 |[.tuple ds]=>some<|.int ds.length
 |_=>none
noncomputable def zZ:List PyData->Option PyData
 |[.list ds]=>some<|.tuple ds
 |[.tuple ds]=>some<|.tuple ds
 |_=>none
noncomputable def wF:List PyData->Option (List PyData)
 |[.list ds]=>some ds
 |[.tuple ds]=>some ds
 |_=>none
noncomputable def Bw:List PyData->Option PyData
 |[.int i]=>some<|.int<|if i<0 then -i else i
 |_=>none
noncomputable def maxD:List PyData->Option PyData
 |[.int i,.int j]=>some<|.int<|if j>i then j else i
 |_=>none
noncomputable def tY:PyData->Option Int
 | .int i=>some i
 |_=>none
noncomputable def Jt{α β:Type}(h:α->Option β):List α->Option (List β)
 |[]=>some []
 |x::r=>(h x).bind λy=>(Jt h r).map (y::·)
def tZ:List PyData->Option PyData
 |[.list ds]=>(Jt tY ds).map λns=>.int ns.sum
 |_=>none
theorem YF{K:FRx}{H:Hp}:∀{ds:LPd} {xs:List V} {ns:List Int},bP K H xs ds->Jt tY ds=some ns->xs=ns.map V.int
 |[],_,_,r,h=>by cases r;cases h;rfl
 |d::r,_,_,q,h=>by
  cases q with
  |cons h1 h2=>
   obtain⟨y,e1,h⟩:=bind_some h;obtain⟨ys,e2,e3⟩:=map_some h;subst e3;rw[YF h2 e2];cases d<;>cases e1
   cases h1;rfl
end
section
def t6:lV K (λxs H Q=>∃p ys,xs=[.ref p]/\(cm K H p ys\/cP K H p ys)/\Q (.int ys.length) H) yh:=by
 intro xs H os ds c Q al rv h k;unfold yh at h;split at h
 ·cases h;obtain⟨v,rfl,r⟩:=rv.one;obtain⟨a,ys,rfl,hS,r⟩:=r.lst;exact⟨a,ys,rfl,.inl hS,by rw[r.length];exact k _ H (bJ.refl H)<|.int _⟩
 ·cases h;obtain⟨v,rfl,r⟩:=rv.one;obtain⟨a,ys,rfl,hS,_,r⟩:=r.tup;exact⟨a,ys,rfl,.inr hS,by rw[r.length];exact k _ H (bJ.refl H)<|.int _⟩
 ·cases h
def Pn:lV K (λxs H Q=>∃p ys,xs=[.ref p]/\((cm K H p ys/\∀l,H l=none->Q (.ref l) (upd H l<|.tup ys))\/(cP K H p ys/\Q (.ref p) H))) zZ:=by
 intro xs H os ds c Q al rv h k;unfold zZ at h;split at h
 ·cases h;obtain⟨v,rfl,r⟩:=rv.one;obtain⟨a,ys,rfl,hS,r⟩:=r.lst;refine⟨a,ys,rfl,.inl ⟨hS,λl hl=>?_⟩⟩;have s:=yb hl<|.tup ys;refine k _ _ s<|.tup (cP.of ?_)<|r.same<|zq s os;rw[zA<|al.new hl];exact zL
 ·cases h;obtain⟨v,rfl,r⟩:=rv.one;obtain⟨a,ys,rfl,hS,rR,r⟩:=r.tup;exact⟨a,ys,rfl,.inr ⟨hS,k _ H (bJ.refl H)<|.tup rR r⟩⟩
 ·cases h
def UJ:Hs K (λxs H Q=>∃p ys,xs=[.ref p]/\(cm K H p ys\/cP K H p ys)/\∀l,H l=none->Q (.ref l) (upd H l<|.lst ys)) wF:=by
 intro xs H os ds c Q al rv h k;unfold wF at h;split at h
 ·cases h;obtain⟨v,rfl,r⟩:=rv.one;obtain⟨a,ys,rfl,hS,r⟩:=r.lst;exact⟨a,ys,rfl,.inl hS,λl hl=>k l ys _ hl (yb hl _) zL<|j8 hl r⟩
 ·cases h;obtain⟨v,rfl,r⟩:=rv.one;obtain⟨a,ys,rfl,hS,_,r⟩:=r.tup;exact⟨a,ys,rfl,.inr hS,λl hl=>k l ys _ hl (yb hl _) zL<|j8 hl r⟩
 ·cases h
def Ht:lV K (λxs H Q=>∃i,xs=[.int i]/\Q (.int<|if i<0 then -i else i) H) Bw:=by
 intro xs H os ds c Q al rv h k;unfold Bw at h;split at h
 ·cases h;obtain⟨v,rfl,r⟩:=rv.one;cases r.int;exact⟨_,rfl,k _ H (bJ.refl H)<|.int _⟩
 ·cases h
def Hu:lV K (λxs H Q=>∃i j,xs=[.int i,.int j]/\Q (.int<|if j>i then j else i) H) maxD:=by
 intro xs H os ds c Q al rv h k;unfold maxD at h;split at h
 ·cases h;obtain⟨v,u,rfl,r,r'⟩:=rv.two;cases r.int;cases r'.int;exact⟨_,_,rfl,k _ H (bJ.refl H)<|.int _⟩
 ·cases h
def Po:lV K (λxs H Q=>∃(p:AdX)(ns:List Int),xs=[.ref p]/\cm K H p (ns.map V.int)/\Q (.int ns.sum) H) tZ:=by
 intro xs H os ds c Q al rv h k;unfold tZ at h;split at h
 ·obtain⟨ns,e1,e2⟩:=map_some h;subst e2;obtain⟨v,rfl,r⟩:=rv.one;obtain⟨a,ys,rfl,hS,r⟩:=r.lst;rw[YF r e1] at hS;exact⟨a,ns,rfl,hS,k _ H (bJ.refl H)<|.int _⟩
 ·cases h
end
noncomputable def Ue(T:String):PyData->Option PyData
 | .int _=>if T="int" then some (.bool true) else if T="bool" then some (.bool false) else if T="tuple" then some (.bool false) else none
 | .bool _=>if T="int" then some (.bool true) else if T="bool" then some (.bool true) else none
 | .tuple _=>if T="tuple" then some (.bool true) else if T="list" then some (.bool false) else if T="int" then some (.bool false) else none
 | .list _=>if T="list" then some (.bool true) else if T="tuple" then some (.bool false) else if T="int" then some (.bool false) else none
 |_=>none
def Pp{T:String}{c:PdX}(r:jN K H os v d)(h:Ue T d=some c):∃b,c=.bool b/\fM K H v T b:=by
 unfold Ue at h;split at h
 ·cases r.int;split at h
  ·rename_i e;subst e;cases h;exact⟨_,rfl,.int_int _⟩
  ·split at h
   ·rename_i e;subst e;cases h;exact⟨_,rfl,.int_bool _⟩
   ·split at h
    ·rename_i e;subst e;cases h;exact⟨_,rfl,.int_tup _⟩
    ·cases h
 ·cases r.bl;split at h
  ·rename_i e;subst e;cases h;exact⟨_,rfl,.bl_int _⟩
  ·split at h
   ·rename_i e;subst e;cases h;exact⟨_,rfl,.bl_bool _⟩
   ·cases h
 ·obtain⟨a,xs,rfl,hS,_,_⟩:=r.tup;split at h
  ·rename_i e;subst e;cases h;exact⟨_,rfl,.tup_tup hS⟩
  ·split at h
   ·rename_i e;subst e;cases h;exact⟨_,rfl,.tup_lst hS⟩
   ·split at h
    ·rename_i e;subst e;cases h;exact⟨_,rfl,.tup_int hS⟩
    ·cases h
 ·obtain⟨a,xs,rfl,hS,_⟩:=r.lst;split at h
  ·rename_i e;subst e;cases h;exact⟨_,rfl,.lst_lst hS⟩
  ·split at h
   ·rename_i e;subst e;cases h;exact⟨_,rfl,.lst_tup hS⟩
   ·split at h
    ·rename_i e;subst e;cases h;exact⟨_,rfl,.lst_int hS⟩
    ·cases h
 ·cases h
section
variable{T:String}{tn:Str}
def wx(ha:FB X e f)(hg:Gl X "isinstance")(hm:X.mg "isinstance"=none)(Pr:Gl X tn)(Pt:X.mg tn=none)(ht:bootBuiltins tn=some (.type T))(hn:tn≠"__name__":=by decide)(c8:NDx tn:=by decide)(he:starEach [e,.Name tn p2] X.env=(false,eval e X.env)::starEach [.Name tn p2] X.env:=by rfl)(DG:starEach [.Name tn p2] X.env=(false,eval (.Name tn p2) X.env)::starEach [] X.env:=by rfl)(cJ:(backTo pos<|starEach [.Name tn p2] X.env).any (·.1)=false:=by rfl):FE X (.Call (.Name "isinstance" p) [e,.Name tn p2] [] pos) (dI (Ue T) f):=by
 obtain⟨t,pa,qa⟩:=ha;refine⟨_,U0 OG hg hm OI (yQ pa (yQ (MJ (v:=.ty T) Pr Pt ht rfl hn c8) xW DG) he) (by decide) (by decide) he cJ,λσ H os ρ c Q R q k=>?_⟩;obtain⟨d,e1,e2⟩:=bind_some q;refine qa σ H os ρ d _ R e1 λv H' s rv=>?_
 obtain⟨b,rfl,hi⟩:=Pp rv e2;exact⟨v,T,b,rfl,hi,k _ H' s<|.bl b⟩
end
end L2.Fu
namespace L2.Fu
open PySem PySem.Spec PyProof.Rows
def Bx(K:FRx)(f:ck):Sp:=λvs H Q _=>∃os ds r,Al H os/\bP K (bK H os) vs ds/\f ds=some r/\∀v H',bJ H H'->Rep K (bK H' os) v r->Q v H'
def Pu(K:FRx)(f:eM):Sp:=λvs H Q _=>∃os ds r,Al H os/\bP K (bK H os) vs ds/\f ds=some r/\
 ∀a xs H',H a=none->bJ H H'->H' a=some (.lst xs)->bP K (bK H'<|a::os) xs r->Q (.ref a) H'
abbrev zU(P:Program)(w:World)(K:FRx)(mg:Str->Option Value)(base:Heap)(k:Nat)(x:Str)(ps:LSr)(f:ck):Prop:=Def P w K mg base dO k x ps<|Bx K f
abbrev wy(P:Program)(w:World)(K:FRx)(mg:Str->Option Value)(base:Heap)(k:Nat)(x:Str)(ps:LSr)(f:eM):Prop:=Def P w K mg base dO k x ps<|Pu K f
noncomputable def By:PyData->Bool
 | .int _=>true
 | .bool _=>true
 | .none=>true
 | .str _=>true
 |_=>false
def Pw(h:By d=true)(r:Rep K H v d):Rep K H' v d:=by
 cases r with
 |non=>exact .non
 |bl b=>exact .bl b
 |int i=>exact .int i
 |str x=>exact .str x
 |tup _ _=>cases h
 |lst _ _=>cases h
def WX(h:ck)(g:bY):RPx:=λρ=>(g ρ).bind λds=>(h ds).bind λr=>if By r=true then some r else none
section
variable{ga:bY}
def zo{f:ck}(D:zU X.prog X.w X.K X.mg X.base k x ps f)(hr:bZ k' X.A)(hg:Gl X x)(ha:FA X (e::es) ga)(hk:k<=k':=by decide)(c8:NDx x:=by decide)(he:cT X e es:=by rfl)(cJ:d9 X pos es:=by rfl):FE X (.Call (.Name x p) (e::es) [] pos) (zi f ga):=by
 obtain⟨t,pa,qa⟩:=ha;refine⟨_,VT D hr hg Js pa hk c8 he cJ,λσ H os ρ c Q R q k=>?_⟩;obtain⟨ds,e1,e2⟩:=bind_some q;refine qa σ H os ρ ds _ R e1 λvs H' s rv=>?_
 rw[km];exact⟨os,ds,c,R.al.same s,rv,e2,λv H2 s2=>k v H2<|s.trans s2⟩
def jG{f:eM}(D:wy X.prog X.w X.K X.mg X.base k x ps f)(hr:bZ k' X.A)(hg:Gl X x)(ha:FA X (e::es) ga)(hk:k<=k':=by decide)(c8:NDx x:=by decide)(he:cT X e es:=by rfl)(cJ:d9 X pos es:=by rfl):FL X (.Call (.Name x p) (e::es) [] pos) (xf f ga):=by
 obtain⟨t,pa,qa⟩:=ha;refine⟨_,VT D hr hg Js pa hk c8 he cJ,λσ H os ρ c Q R q k=>?_⟩;obtain⟨ds,e1,e2⟩:=bind_some q;refine qa σ H os ρ ds _ R e1 λvs H' s rv=>?_
 rw[km];exact⟨os,ds,c,R.al.same s,rv,e2,λa xs H2 n s2=>k a xs H2 (s.free n)<|s.trans s2⟩
def Y7{f:ck}(D:zU X.prog X.w X.K X.mg X.base k x ps f)(hr:bZ k' X.A)(hg:Gl X x)(ha:iY X (e::es) ga)(hk:k<=k':=by decide)(c8:NDx x:=by decide)(he:cT X e es:=by rfl)(cJ:d9 X pos es:=by rfl):FE X (.Call (.Name x p) (e::es) [] pos) (WX f ga):=by
 obtain⟨t,pa,qa⟩:=ha;refine⟨_,VT D hr hg Js pa hk c8 he cJ,λσ H os ρ c Q R q k=>?_⟩;obtain⟨ds,e1,q⟩:=bind_some q;obtain⟨r,e2,q⟩:=bind_some q;split at q
 ·rename_i hs;cases q;refine qa σ H os ρ ds _ R e1 λvs H' s rv=>?_
  rw[km];have e0:bK H' []=H':=by funext b;exact zA (by simp)
  refine⟨[],ds,c,Al.nil _,by rw[e0];exact rv.reps,e2,λv H2 s2 rr=>k v H2 (s.trans s2)<|Pw hs rr⟩
 ·cases q
end
def Walks(K:FRx)(G G0:Hp)(J:It)(ds:LPd):Prop:=∀(H1:Hp)(fS:LAd),Al H1 fS->bJ G H1->bJ G0 (bK H1 fS)->
  (∀(i:Nat)(d:PdX),ds[i]?=some d->J.go i H1/\∀x H2,J.yld i H1 x H2->bJ H1 H2/\Rep K (bK H2 fS) x d)/\J.stop ds.length H1
def FI(X:Cx)(tg iter:Expr)(f:bY):Prop:=∃wi:TI,PI X tg iter wi/\∀(σ:St)(H:Hp)(os:LAd)(ρ:Ro)(ds:LPd)(R:It->Hp->Prop),xM X.K H os σ ρ->f ρ=some ds->
  (∀J H',bJ H H'->Walks X.K (bK H' os) (bK H' os) J ds->R J H')->wi σ H R
def fF(X:Cx)(tg iter:Expr)(f:bY):Prop:=∃wi:TI,PI X tg iter wi/\∀(σ:St)(H:Hp)(os:LAd)(ρ:Ro)(ds:LPd)(R:It->Hp->Prop),xM X.K H os σ ρ->f ρ=some ds->
  (∀J H',bJ H H'->Walks X.K H' (bK H' os) J ds->R J H')->wi σ H R
def Walks.mono(h:Walks K G G0 J ds)(e:bJ G G'):Walks K G' G0 J ds:=λH1 fS a s s0=>h H1 fS a (e.trans s) s0
section
variable{l:Expr}{f:bY}
def FI.fib(h:FI X tg iter f):fF X tg iter f:=by
 obtain⟨wi,p,q⟩:=h;exact⟨wi,p,λσ H os ρ ds R rel e k=>q σ H os ρ ds R rel e λJ H' s w=>k J H' s<|w.mono<|jd H' os⟩
noncomputable def yc(g:RPx):bY:=λρ=>match g ρ with
 |some (.list ds)=>some ds
 |some (.tuple ds)=>some ds
 |_=>none
def vj(hS:dF K t G a xs)(r:bP K G0 xs ds):Walks K G G0 (He K t a) ds:=by
 intro H1 fS al s s0;have h1:dF K t H1 a xs:=s.sqB hS;refine⟨λi d hd=>?_,?_⟩
 ·obtain⟨v,e,rv⟩:=r.getD hd;cases t
  ·refine⟨⟨xs,v,h1,e⟩,λx H2 hy=>?_⟩;obtain⟨rfl,hy⟩:=hy
   have:=hy xs h1;rw[e] at this;cases this;exact⟨bJ.refl _,rv.same s0⟩
  ·refine⟨⟨xs,v,h1,e⟩,λx H2 hy=>?_⟩;obtain⟨rfl,hy⟩:=hy
   have:=hy xs h1;rw[e] at this;cases this;exact⟨bJ.refl _,rv.same s0⟩
 ·cases t
  ·exact⟨xs,h1,by rw[r.length];exact qe _⟩
  ·exact⟨xs,h1,by rw[r.length];exact qe _⟩
def vP(hl:FE X l g):FI X tg l (yc g):=by
 obtain⟨t,pl,ql⟩:=hl;refine⟨_,DB pl,λσ H os ρ ds R rel e k=>?_⟩;unfold yc at e;split at e
 ·rename_i es e1;cases e;refine ql σ H os ρ _ _ rel e1 λv H' s r=>?_
  cases r with
  |lst hS r=>exact⟨_,false,rfl,⟨_,(jd H' os).seq hS⟩,k _ H' s<|vj (t:=false) hS r⟩
 ·rename_i es e1;cases e;refine ql σ H os ρ _ _ rel e1 λv H' s r=>?_
  cases r with
  |tup hS r=>exact⟨_,true,rfl,⟨_,(jd H' os).tup hS⟩,k _ H' s<|vj (t:=true) hS r⟩
 ·cases e
def yk(hl:FB X l g):fF X tg l (yc g):=by
 obtain⟨t,pl,ql⟩:=hl;refine⟨_,DB pl,λσ H os ρ ds R rel e k=>?_⟩;unfold yc at e;split at e
 ·rename_i es e1;cases e;refine ql σ H os ρ _ _ rel e1 λv H' s r=>?_
  obtain⟨a,xs,rfl,hS,r⟩:=r.lst;exact⟨_,false,rfl,⟨_,hS⟩,k _ H' s<|vj (t:=false) hS r⟩
 ·rename_i es e1;cases e;refine ql σ H os ρ _ _ rel e1 λv H' s r=>?_
  obtain⟨a,xs,rfl,hS,_,r⟩:=r.tup;exact⟨_,true,rfl,⟨_,hS⟩,k _ H' s<|vj (t:=true) hS r⟩
 ·cases e
noncomputable def jT(lo:Int)(n:Nat):List PyData:=(List.range n).map λi:Nat=>PyData.int<|lo+i
def xl(g:bY):bY:=λρ=>match g ρ with
 |some [.int j]=>if -(2 ^ 62)<=j/\j<2 ^ 62 then some (jT 0 j.toNat) else none
 |_=>none
def uS(g:bY):bY:=λρ=>match g ρ with
 |some [.int i,.int j]=>if -(2 ^ 62)<=i/\i<2 ^ 62/\-(2 ^ 62)<=j/\j<2 ^ 62 then some (jT i (j - i).toNat) else none
 |_=>none
def Vx(h:(jT lo n)[i]?=some d):i<n/\d=.int (lo+i):=by
 unfold jT at h;rw[qp] at h;by_cases hi:i<n
 ·rw[ku hi] at h;cases h;exact⟨hi,rfl⟩
 ·rw[kS<|by simpa using kz hi] at h;cases h
def Hv:(jT lo n).length=n:=by simp[jT]
def Wu:Walks K G G0 (tx lo n) (jT lo n):=by
 intro H1 fS al s s0;refine⟨λi d hd=>?_,?_⟩
 ·obtain⟨h1,h2⟩:=Vx hd;subst h2;refine⟨h1,λx H2 hy=>?_⟩;obtain⟨rfl,rfl⟩:=hy;exact⟨bJ.refl _,.int _⟩
 ·rw[Hv];exact qe n
variable{a b:Expr}{ga:bY}
def yL(hg:Gl X "range")(hm:X.mg "range"=none)(ha:FA X [a] ga)(hs:starEach [a] X.env=[(false,eval a X.env)]:=by rfl):FI X tg (.Call (.Name "range" p) [a] [] pos) (xl ga):=by
 obtain⟨t,pa,qa⟩:=ha;refine⟨_,Gb hg hm pa hs,λσ H os ρ ds R rel e k=>?_⟩;unfold xl at e;split at e
 ·rename_i j e1;split at e
  ·rename_i hc;cases e;refine qa σ H os ρ _ _ rel e1 λvs H' s r=>?_
   cases r with
   |cons h r=>cases r;cases h;exact⟨j,rfl,hc.1,hc.2,k _ H' s Wu⟩
  ·cases e
 ·cases e
def Hw(hg:Gl X "range")(hm:X.mg "range"=none)(ha:FA X [a,b] ga)(hs:starEach [a,b] X.env=[(false,eval a X.env),(false,eval b X.env)]:=by rfl)(dS:starEach [b] X.env=[(false,eval b X.env)]:=by rfl):FI X tg (.Call (.Name "range" p) [a,b] [] pos) (uS ga):=by
 obtain⟨t,pa,qa⟩:=ha;refine⟨_,Nn hg hm pa hs dS,λσ H os ρ ds R rel e k=>?_⟩;unfold uS at e;split at e
 ·rename_i i j e1;split at e
  ·rename_i hc;cases e;refine qa σ H os ρ _ _ rel e1 λvs H' s r=>?_
   cases r with
   |cons h r=>cases r with
    |cons h2 r=>cases r;cases h;cases h2;exact⟨i,j,rfl,hc,k _ H' s Wu⟩
  ·cases e
 ·cases e
noncomputable def Ju(xs ys:LPd):List PyData:=(xs.zip ys).map λp=>.tuple [p.1,p.2]
def Hx{xs ys:LPd}(h:(Ju xs ys)[i]?=some d):∃x y,xs[i]?=some x/\ys[i]?=some y/\d=.tuple [x,y]:=by
 unfold Ju at h;rw[qp] at h;obtain⟨z,e1,e2⟩:=map_some h;obtain⟨h1,h2⟩:=List.getElem?_zip_eq_some.mp e1;exact⟨z.1,z.2,h1,h2,e2.symm⟩
def Hy{xs ys:LPd}:(Ju xs ys).length=min xs.length ys.length:=by simp[Ju]
def V6{a b:AdX}{es:LPd}(h1:dF K t1 G a xs)(h2:dF K t2 G b ys)(r1:bP K G0 xs ds)(r2:bP K G0 ys es):Walks K G G0 (Dz K t1 t2 a b) (Ju ds es):=by
 intro H1 fS al s s0;have k1:dF K t1 H1 a xs:=s.sqB h1;have k2:dF K t2 H1 b ys:=s.sqB h2
 refine⟨λi d hd=>?_,?_⟩
 ·obtain⟨d1,d2,g1,g2,rfl⟩:=Hx hd;obtain⟨v1,e1,q1⟩:=r1.getD g1;obtain⟨v2,e2,q2⟩:=r2.getD g2;refine⟨⟨xs,ys,v1,v2,k1,k2,e1,e2⟩,λx H2 hy=>?_⟩;obtain⟨p,rfl,hp,hy⟩:=hy;have e:=hy xs ys v1 v2 k1 k2 e1 e2;subst e;have s2:=yb hp<|.tup [v1,v2]
  refine⟨s2,.tup (cP.of ?_)<|.cons ((q1.same s0).same<|zq s2 fS)<|.cons ((q2.same s0).same<|zq s2 fS) .nil⟩;rw[zA<|al.new hp];exact zL
 ·refine⟨xs,ys,k1,k2,?_⟩;rw[Hy,r1.length,r2.length];omega
noncomputable def kindOf:PyData->Option (Bool×List PyData)
 | .list xs=>some (false,xs)
 | .tuple xs=>some (true,xs)
 |_=>none
def Ug(t1 t2:Bool)(g:bY):bY:=λρ=>match g ρ with
 |some [x,y]=>match kindOf x,kindOf y with
  |some (k1,xs),some (k2,ys)=>if k1=t1/\k2=t2 then some (Ju xs ys) else none
  |_,_=>none
 |_=>none
def uW{k:Bool}{xs:LPd}(r:jN K H os v d)(h:kindOf d=some (k,xs)):∃a us,v=.ref a/\dF K k H a us/\bP K (bK H os) us xs:=by
 unfold kindOf at h;split at h
 ·cases h;obtain⟨a,us,e,hS,r⟩:=r.lst;exact⟨a,us,e,hS,r⟩
 ·cases h;obtain⟨a,us,e,hS,_,r⟩:=r.tup;exact⟨a,us,e,hS,r⟩
 ·cases h
def Yf(t1 t2:Bool)(hg:Gl X "zip")(hm:X.mg "zip"=none)(ha:iY X [a,b] ga)(hs:starEach [a,b] X.env=[(false,eval a X.env),(false,eval b X.env)]:=by rfl)(dS:starEach [b] X.env=[(false,eval b X.env)]:=by rfl):fF X (.Tuple tes kk tp) (.Call (.Name "zip" p) [a,b] [] pos) (Ug t1 t2 ga):=by
 obtain⟨t,pa,qa⟩:=ha;refine⟨_,DA t1 t2 hg hm pa hs dS,λσ H os ρ ds R rel e k=>?_⟩;unfold Ug at e;split at e
 ·rename_i x y e1;split at e
  ·rename_i k1 xs k2 ys e2 e3;split at e
   ·rename_i hc;cases e;obtain⟨rfl,rfl⟩:=hc;refine qa σ H os ρ _ _ rel e1 λvs H' s r=>?_
    obtain⟨v,u,rfl,r1,r2⟩:=r.two;obtain⟨a1,us,rfl,h1,q1⟩:=uW r1 e2;obtain⟨a2,ws,rfl,h2,q2⟩:=uW r2 e3;exact⟨a1,a2,rfl,⟨_,h1⟩,⟨_,h2⟩,k _ H' s<|V6 h1 h2 q1 q2⟩
   ·cases e
  ·cases e
 ·cases e
end
inductive Sets(K:FRx)(G:Hp):List Nat->St->Ro->St->Ro->Prop
 |nil {σ:St} {ρ:Ro}:Sets K G [] σ ρ σ ρ
 |set {is:LNt} {σ bR:St} {ρ ρ':Ro} {i:Nat} {v:V} {d:PdX}:Rep K G v d->Sets K G is (σ.set i<|some v) (ρ.set i<|.pu d) bR ρ'->Sets K G (i::is) σ ρ bR ρ'
def Sets.trans{js:LNt}{cq:St}{ρ2:Ro}(h:Sets K G is σ ρ bR ρ')(h2:Sets K G js bR ρ' cq ρ2):Sets K G (is++js) σ ρ cq ρ2:=by
 induction h with
 |nil=>exact h2
 |set r _ ih=>exact .set r<|ih h2
def Sets.tail{T:Nat}(h:Sets K G is σ ρ bR ρ')(hT:∀i∈is,i<T):∀{ts c:St},ts.length=T->σ=ts++c->∃fU:St,fU.length=T/\bR=fU++c:=by
 induction h with
 |nil=>exact λht e=>⟨_,ht,e⟩
 |set r _ ih=>
  intro ts c ht e;rename_i is σ bR ρ ρ' i v d _;refine ih (λj hj=>hT j<|qA _ hj) (ts:=ts.set i<|some v) (c:=c) (by rw[gr];exact ht) ?_;have hi:i<ts.length:=by rw[ht];exact hT i qZ
  rw[e,List.set_append_left _ _ hi]
def xM.set(h:xM K H os σ ρ)(r:Rep K (bK H os) v d):xM K H os (σ.set i<|some v) (ρ.set i<|.pu d) where
 pu:=λj e q=>by
  rw[gL] at q ⊢;by_cases hj:i=j
  ·subst hj;rw[qj rfl] at q ⊢;by_cases hl:i<ρ.length
   ·rw[qj hl] at q;cases q;rw[qj<|by rw[h.len];exact hl];exact⟨v,rfl,r⟩
   ·rw[qm hl] at q;cases q
  ·rw[qm hj] at q ⊢;exact h.pu j e q
 mu:=λj e q m=>by
  rw[gL] at q ⊢;by_cases hj:i=j
  ·subst hj;rw[qj rfl] at q;by_cases hl:i<ρ.length
   ·rw[qj hl] at q;cases q;cases m
   ·rw[qm hl] at q;cases q
  ·rw[qm hj] at q ⊢;exact h.mu j e q m
 al:=h.al
 len:=by rw[gr,gr];exact h.len
def xM.sets(s:Sets K (bK H os) is σ ρ bR ρ')(h:xM K H os σ ρ):xM K H os bR ρ':=by
 induction s with
 |nil=>exact h
 |set r _ ih=>exact ih<|h.set r
def gF(K:FRx)(is:LNt)(b:PyData->Ro->Option Ro):TG:=λv σ H Q=>∃os d ρ ρ',Rep K (bK H os) v d/\b d ρ=some ρ'/\∀bR,Sets K (bK H os) is σ ρ bR ρ'->Q bR H
def FG(X:Cx)(tg:Expr)(is:LNt)(b:PyData->Ro->Option Ro):Prop:=PG X tg<|gF X.K is b
def Hz{g g':TG}(h:PG X tg g)(w:∀v σ H Q,g' v σ H Q->g v σ H Q):PG X tg g':=λpins s σ H v u Q I r q=>h pins s σ H v u Q I r<|w _ _ _ _ q
noncomputable def bN(i:Nat):PyData->Ro->Option Ro:=λd ρ=>some<|ρ.set i<|.pu d
noncomputable def b2(b c:PyData->Ro->Option Ro):PyData->Ro->Option Ro:=λd ρ=>match d with
 | .tuple [x,y]=>(b x ρ).bind λρ'=>c y ρ'
 |_=>none
section
def zP(i:Nat)(hN:X.N.Nodup)(hi:X.N[i]?=some x:=by rfl)(hx:Loc X.env.scope x:=by trivial)(hf:fA X x:=by trivial):FG X (.Name x pos) [i] (bN i):=by
 refine Hz (M7 hN hi hx hf) λv σ H Q h=>?_
 obtain⟨os,d,ρ,ρ',r,e,k⟩:=h;cases e;exact k _<|.set r .nil
def Jn{t1 t2:Expr}{js:LNt}{b c:PyData->Ro->Option Ro}(hc:X.calm=true)(h1:FG X t1 is b)(h2:FG X t2 js c)(hn:(assignEach [t1,t2] X.env).length=2:=by rfl)(hst:(assignEach [t1,t2] X.env).findIdx? (·.1)=none:=by rfl)(he:(assignEach [t1,t2] X.env).map (·.2)=assign t1 X.env::(assignEach [t2] X.env).map (·.2):=by rfl)(DG:(assignEach [t2] X.env).map (·.2)=assign t2 X.env::(assignEach [] X.env).map (·.2):=by rfl):FG X (.Tuple [t1,t2] kk pos) (is++js) (b2 b c):=by
 refine Hz (Nd (n:=2) hc (F2 h1 (F2 h2 Na DG) he) hn hst) λv σ H Q h=>?_
 obtain⟨os,d,ρ,ρ',r,e,k⟩:=h;unfold b2 at e;split at e
 ·rename_i x y;obtain⟨bX,e1,e2⟩:=bind_some e;cases r with
  |tup hS r=>cases r with
   |cons r1 r=>cases r with
    |cons r2 r=>
     cases r;refine⟨_,_,rfl,(jd H os).tup hS,rfl,_,_,rfl,os,x,ρ,bX,r1,e1,λoI s1=>?_⟩;exact⟨_,_,rfl,os,y,bX,ρ',r2,e2,λcq s2=>⟨rfl,k cq<|s1.trans s2⟩⟩
 ·cases e
end
noncomputable def compEnv(T:Nat)(F:LNt)(ρ:Ro):Ro:=List.replicate T .no++F.map λj=>(ρ[j]?).getD .no
def tF(K:FRx)(f:RPx):TE:=λσ H Q=>∃os ρ d,xM K H os σ ρ/\f ρ=some d/\∀v H',bJ H H'->Rep K (bK H' os) v d->Q v H'
def FE.pe(h:FE X e f):PE X e (tF X.K f):=by
 obtain⟨t,p,q⟩:=h;intro pins s σ H Q I z;obtain⟨os,ρ,d,R,e1,k⟩:=z;exact p pins s σ H Q I<|q σ H os ρ d Q R e1 k
def zQ(T:Nat)(F:LNt)(fi:bY)(b:PyData->Ro->Option Ro)(fe:RPx):bY:=λρ=>
 (fi ρ).bind λds=>if ds.length<=16777216 then Jt (λd=>(b d<|compEnv T F ρ).bind fe) ds else none
theorem ZN{α β:Type}{h:α->Option β}:∀{xs:List α} {ys:List β},Jt h xs=some ys->ys.length=xs.length
 |[],_,e=>by cases e;rfl
 |x::r,_,e=>by
  obtain⟨y,e1,e⟩:=bind_some e;obtain⟨ys,e2,e3⟩:=map_some e;subst e3;simp[ZN e2]
theorem Yu{α β:Type}{h:α->Option β}:∀{xs:List α} {ys:List β} {i:Nat} {x:α},Jt h xs=some ys->xs[i]?=some x->∃y,ys[i]?=some y/\h x=some y
 |[],_,_,_,_,e=>by simp at e
 |x::r,_,i,_,e,g=>by
  obtain⟨y,e1,e⟩:=bind_some e;obtain⟨ys,e2,e3⟩:=map_some e;subst e3;cases i with
  |zero=>simp at g;subst g;exact⟨y,rfl,e1⟩
  |succ i=>
   obtain⟨z,h1,h2⟩:=Yu (i:=i) e2 (by simpa using g);exact⟨z,by simpa using h1,h2⟩
def ZK{ts:St}(T:Nat)(F:LNt)(R:xM K H os σ ρ)(hD:H D=none)(s:bJ H H')(hx:H' D=some (.lst xs))(ht:ts.length=T):xM K H' (D::os) (ts++F.map λj=>(σ[j]?).join) (compEnv T F ρ):=by
 have so:bJ (bK H os) (bK H'<|D::os):=λb o z=>by
  by_cases hb:b∈os
  ·rw[x5 hb] at z;cases z
  ·rw[zA hb] at z;rw[zA]
   ·exact s b o z
   ·intro w;rcases qy.mp w with w|w
    ·rw[w,hD] at z;cases z
    ·exact hb w
 refine⟨λi d q=>?_,λi c q m=>?_,λa ha=>?_,?_⟩
 ·unfold compEnv at q;by_cases hi:i<T
  ·rw[qQ (by simpa using hi),kK,qj hi] at q;cases q
  ·rw[qF (by simpa using kz hi),mV,qp] at q;rw[qF (by rw[ht];exact kz hi),ht,qp];cases ej:F[i - T]? with
   |none=>rw[ej] at q;cases q
   |some j=>
    rw[ej] at q;cases er:ρ[j]? with
    |none=>rw[gU,er] at q;cases q
    |some c=>
     rw[gU,er] at q;have ec:c=.pu d:=kj q;subst ec;obtain⟨v,h1,h2⟩:=R.pu j d er;exact⟨v,by rw[gU,h1];rfl,h2.same so⟩
 ·unfold compEnv at q;by_cases hi:i<T
  ·rw[qQ (by simpa using hi),kK,qj hi] at q;cases q;cases m
  ·rw[qF (by simpa using kz hi),mV,qp] at q;rw[qF (by rw[ht];exact kz hi),ht,qp];cases ej:F[i - T]? with
   |none=>rw[ej] at q;cases q
   |some j=>
    rw[ej] at q;cases er:ρ[j]? with
    |none=>rw[gU,er] at q;cases q;cases m
    |some c'=>
     rw[gU,er] at q;have ec:c'=c:=kj q;subst ec;obtain⟨a,o,h1,h2,h3,h4⟩:=R.mu j c' er m;exact⟨a,o,by rw[gU,h1];rfl,qA _ h2,s _ _ h3,h4.same so⟩
 ·rcases qy.mp ha with z|z
  ·subst z;exact⟨_,hx⟩
  ·obtain⟨o,e⟩:=R.al a z;exact⟨o,s _ _ e⟩
 ·simp[compEnv,ht]
def UP{T:Nat}{b:PyData->Ro->Option Ro}{fe:RPx}{k:Addr->Hp->Prop}(dC:∀i∈is,i<T)(R:xM K H1 os σ ρ)(hn:ds.length<=16777216)(hD:H1 D=none)(W:Walks K H1 (bK H1 os) J ds)(hm:Jt (λd=>(b d<|compEnv T F ρ).bind fe) ds=some rs)(fin:∀H' xs,bJ H1 H'->H' D=some (.lst xs)->bP K (bK H'<|D::os) xs rs->k D H'):Dm T F (gF K is b) (tF K fe) k σ H1 D J:=by
 have t7:=ZN hm;have so:∀H',bJ H1 H'->bJ (bK H1 os) (bK H'<|D::os):=λH' s c o z=>by
  by_cases hb:c∈os
  ·rw[x5 hb] at z;cases z
  ·rw[zA hb] at z;rw[zA]
   ·exact s c o z
   ·intro w;rcases qy.mp w with w|w
    ·rw[w,hD] at z;cases z
    ·exact hb w
 have al:∀H' xs,bJ H1 H'->H' D=some (.lst xs)->Al H' (D::os):=λH' xs s hx a ha=>by
  rcases qy.mp ha with z|z
  ·subst z;exact⟨_,hx⟩
  ·obtain⟨o,e⟩:=R.al a z;exact⟨o,s _ _ e⟩
 refine⟨λi m bR H'=>m=ds.length - i/\i<=ds.length/\(∃ts:St,ts.length=T/\bR=ts++F.map λj=>(σ[j]?).join)/\bJ H1 H'/\∃xs,H' D=some (.lst xs)/\bP K (bK H'<|D::os) xs (rs.take i),
  ⟨ds.length,rfl,kx _,⟨List.replicate T none,by simp,rfl⟩,yb hD _,[],zL,.nil⟩,?_⟩
 rintro i m bR H' ⟨rfl,hi,⟨ts,lX,rfl⟩,sm,xs,hx,rp⟩;have hl:xs.length=i:=by
  have:=rp.length;rw[k5,t7] at this;omega
 obtain⟨w1,w2⟩:=W H' (D::os) (al H' xs sm hx) sm<|so H' sm;by_cases cC:i<ds.length
 ·obtain⟨d,hd⟩:∃d,ds[i]?=some d:=⟨_,qk cC⟩;obtain⟨g1,g2⟩:=w1 i d hd;obtain⟨r,hr,e⟩:=Yu hm hd;obtain⟨ρ',e1,e2⟩:=bind_some e;refine .inr ⟨g1,λcq H2=>i+1<=ds.length/\(∃ts:St,ts.length=T/\cq=ts++F.map λj=>(σ[j]?).join)/\bJ H1 H2/\∃xs,H2 D=some (.lst xs)/\bP K (bK H2<|D::os) xs (rs.take<|i+1),?_,?_⟩
  ·rintro cq H2 ⟨h1,h2,h3,h4⟩;exact⟨ds.length - (i+1),by omega,rfl,h1,h2,h3,h4⟩
  ·intro x H2 hy;obtain⟨s2,rx⟩:=g2 x H2 hy;refine⟨D::os,d,compEnv T F ρ,ρ',rx,e1,λcq st=>?_⟩;have R2:xM K H2 (D::os) (ts++F.map λj=>(σ[j]?).join) (compEnv T F ρ):=ZK T F R hD (sm.trans s2) (s2 _ _ hx) lX;have fx:∃fU:St,fU.length=T/\cq=fU++F.map λj=>(σ[j]?).join:=st.tail dC lX rfl
   refine⟨D::os,ρ',r,R2.sets st,e2,λv H4 s4 rv=>?_⟩;refine⟨xs,s4 _ _<|s2 _ _ hx,?_,cC,fx,((sm.trans s2).trans s4).V2 hD _,_,zL,?_⟩
   ·rw[hl];show i<16777216
    omega
   ·rw[jF,gX,hr];exact(rp.same<|zq (s2.trans s4) _).append<|.cons rv .nil
 ·have e:i=ds.length:=by omega
  subst e;refine .inl ⟨w2,fin H' xs sm hx ?_⟩;rwa[<-t7,gP] at rp
section
variable{fi:bY}{b:PyData->Ro->Option Ro}{fe:RPx}
def HA{o:Option Str}(hc:X.calm=true)(hi:fF X tg iter fi)(S:xo X scope o)(hF:eh X F scope)(hg:∀cl C ex s H,FG (f9 X o Ts F scope cl C ex s H) tg is b)(he:∀{cl C ex s H},FE (f9 X o Ts F scope cl C ex s H) elt fe)(dC:∀i∈is,i<Ts.length:=by decide)(hs:ee X iter:=by exact λ_=>rfl):FL X (.ListComp elt [⟨tg,iter,[],0⟩] scope pos) (zQ Ts.length F fi b fe):=by
 obtain⟨wi,pi,qi⟩:=hi;refine⟨_,G9 (Ts:=Ts) (F:=F) (g:=gF X.K is b) (te:=tF X.K fe) hc pi S hF hg (λ_ _ _ _ _=>he.pe) hs,λσ H os ρ rs Q R q k=>?_⟩;obtain⟨ds,e1,q⟩:=bind_some q;split at q
 ·rename_i hl;refine qi σ H os ρ ds _ R e1 λJ H' s W D hD=>?_
  exact UP dC (R.same s) hl hD W q λH2 xs s2 hx r=>k D xs H2 (s.free hD) (s.trans s2) hx r
 ·cases q
def yj(hc:X.calm=true)(hi:fF X tg iter fi)(S:yn X scope)(hF:eh X F scope)(hg:∀cl C ex s H,FG (c9 X Ts F scope cl C ex s H) tg is b)(he:∀{cl C ex s H},FE (c9 X Ts F scope cl C ex s H) elt fe)(dC:∀i∈is,i<Ts.length:=by decide)(hs:ee X iter:=by exact λ_=>rfl):FL X (.ListComp elt [⟨tg,iter,[],0⟩] scope pos) (zQ Ts.length F fi b fe):=HA hc hi S.o hF hg he dC hs
end
structure cH(K:FRx)(H0:Hp)(bO:LAd)(H:Hp)(os:LAd)(σ:St)(ρ:Ro):Prop where
 rel:xM K H os σ ρ
 sm:bJ H0 H
 sub:∀a∈bO,a∈os
 new:∀a∈os,a∈bO\/H0 a=none
 al0:Al H0 bO
 own:∀(i:Nat)(c:Sl),ρ[i]?=some c->isM c=true->∀a,σ[i]?=some (some<|.ref a)->H0 a=none
 ap:∀(i j:Nat)(c c':Sl),i≠j->ρ[i]?=some c->ρ[j]?=some c'->isM c=true->isM c'=true->∀a,σ[i]?=some (some<|.ref a)->σ[j]?≠some (some<|.ref a)
inductive Fl where
 |nx (ρ:Ro)|rt (d:PdX)|rl (ds:LPd)
abbrev bW:=Ro->Option Fl
def Y1(K:FRx)(H0:Hp)(bO:LAd)(G:Hp)(D:Ends):Fl->Prop
 | .nx ρ'=>∀bR H' os',cH K H0 bO H' os' bR ρ'->bJ G (bK H' os')->D.nx bR H'
 | .rt d=>∀v H',bJ H0 H'->Rep K (bK H' bO) v d->D.rt v H'
 | .rl ds=>∀a xs H',H0 a=none->bJ H0 H'->H' a=some (.lst xs)->bP K (bK H'<|a::bO) xs ds->D.rt (.ref a) H'
def Y1.mono{bO:LAd}{D:Ends}{r:Fl}(k:Y1 K H0 bO G D r)(s:bJ G G'):Y1 K H0 bO G' D r:=by
 cases r with
 |nx ρ=>exact λbR H' os' R z=>k bR H' os' R<|s.trans z
 |rt d=>exact k
 |rl d=>exact k
def FS(X:Cx)(st:Stmt)(f:bW):Prop:=∃t:TS,PS X st t/\∀(H0:Hp)(bO:LAd)(D:Ends)(σ:St)(H:Hp)(os:LAd)(ρ:Ro)(r:Fl),cH X.K H0 bO H os σ ρ->f ρ=some r->Y1 X.K H0 bO (bK H os) D r->t D σ H
def fV(X:Cx)(iI:List Stmt)(f:bW):Prop:=∃t:TS,eQ X iI t/\∀(H0:Hp)(bO:LAd)(D:Ends)(σ:St)(H:Hp)(os:LAd)(ρ:Ro)(r:Fl),cH X.K H0 bO H os σ ρ->f ρ=some r->Y1 X.K H0 bO (bK H os) D r->t D σ H
section
variable{bO:LAd}
def jA(n:H a=none)(s:bJ H H'):bJ (bK H os) (bK H'<|a::os):=λb o z=>by
 by_cases hb:b∈os
 ·rw[x5 hb] at z;cases z
 ·rw[zA hb] at z;rw[zA]
  ·exact s b o z
  ·intro w;rcases qy.mp w with w|w
   ·rw[w,n] at z;cases z
   ·exact hb w
def cH.same(h:cH K H0 bO H os σ ρ)(e:bJ H H'):cH K H0 bO H' os σ ρ:=⟨h.rel.same e,h.sm.trans e,h.sub,h.new,h.al0,h.own,h.ap⟩
def vE{c:Sl}(q:(ρ.set i<|.pu d)[j]?=some c)(m:isM c=true):i≠j/\ρ[j]?=some c:=by
 rw[gL] at q;by_cases hj:i=j
 ·subst hj;rw[qj rfl] at q;by_cases hl:i<ρ.length
  ·rw[qj hl] at q;cases q;cases m
  ·rw[qm hl] at q;cases q
 ·rw[qm hj] at q;exact⟨hj,q⟩
def cH.set(h:cH K H0 bO H os σ ρ)(r:Rep K (bK H os) v d):cH K H0 bO H os (σ.set i<|some v) (ρ.set i<|.pu d) where
 rel:=h.rel.set r
 sm:=h.sm
 sub:=h.sub
 new:=h.new
 al0:=h.al0
 own:=λj c q m a e=>by
  obtain⟨hj,q⟩:=vE q m;rw[qL hj] at e;exact h.own j c q m a e
 ap:=λj k c c' fy q1 q2 m1 m2 a e1 e2=>by
  obtain⟨h1,q1⟩:=vE q1 m1;obtain⟨h2,q2⟩:=vE q2 m2;rw[qL h1] at e1;rw[qL h2] at e2;exact h.ap j k c c' fy q1 q2 m1 m2 a e1 e2
def cH.sets(s:Sets K (bK H os) is σ ρ bR ρ')(h:cH K H0 bO H os σ ρ):cH K H0 bO H os bR ρ':=by
 induction s with
 |nil=>exact h
 |set r _ ih=>exact ih<|h.set r
def yy{d c:Sl}(q:(ρ.set i d)[j]?=some c):(i=j/\i<ρ.length/\d=c)\/(i≠j/\ρ[j]?=some c):=by
 rw[gL] at q;by_cases hj:i=j
 ·subst hj;rw[qj rfl] at q;by_cases hl:i<ρ.length
  ·rw[qj hl] at q;cases q;exact .inl ⟨rfl,hl,rfl⟩
  ·rw[qm hl] at q;cases q
 ·rw[qm hj] at q;exact .inr ⟨hj,q⟩
def Y6{d:Sl}{c:PdX}(m:isM d=true)(q:(ρ.set i d)[j]?=some (.pu c)):i≠j/\ρ[j]?=some (.pu c):=by
 rcases yy q with⟨rfl,hl,rfl⟩|⟨hj,q⟩
 ·cases m
 ·exact⟨hj,q⟩
def cH.setM(h:cH K H0 bO H os σ ρ){o:HO}{d:Sl}(md:isM d=true)(n:H a=none)(s:bJ H H')(hx:H' a=some o)(r:lR K (bK H'<|a::os) o d):cH K H0 bO H' (a::os) (σ.set i<|some<|.ref a) (ρ.set i d):=by
 have na:a∉os:=h.rel.al.new n;have so:bJ (bK H os) (bK H'<|a::os):=jA n s
 have n0:H0 a=none:=h.sm.free n;refine⟨⟨λj c q=>?_,λj c q m=>?_,λb hb=>?_,?_⟩,h.sm.trans s,λb hb=>qA _<|h.sub b hb,λb hb=>?_,h.al0,λj c q m b e=>?_,λj k c c' fy q1 q2 m1 m2 b e1 e2=>?_⟩
 ·obtain⟨hj,q⟩:=Y6 md q;obtain⟨v,h1,h2⟩:=h.rel.pu j c q;exact⟨v,by rw[qL hj];exact h1,h2.same so⟩
 ·rcases yy q with⟨rfl,hl,rfl⟩|⟨hj,q⟩
  ·exact⟨a,o,by rw[kQ<|by rw[h.rel.len];exact hl],qZ,hx,r⟩
  ·obtain⟨b,o',h1,h2,h3,h4⟩:=h.rel.mu j c q m;exact⟨b,o',by rw[qL hj];exact h1,qA _ h2,s _ _ h3,h4.same so⟩
 ·rcases qy.mp hb with z|z
  ·subst z;exact⟨_,hx⟩
  ·obtain⟨o,e⟩:=h.rel.al b z;exact⟨o,s _ _ e⟩
 ·rw[gr,gr];exact h.rel.len
 ·rcases qy.mp hb with z|z
  ·subst z;exact .inr n0
  ·exact h.new b z
 ·rcases yy q with⟨rfl,hl,rfl⟩|⟨hj,q⟩
  ·rw[kQ<|by rw[h.rel.len];exact hl] at e;cases e;exact n0
  ·rw[qL hj] at e;exact h.own j c q m b e
 ·rcases yy q1 with⟨rfl,hl,rfl⟩|⟨hj,q1⟩
  ·rw[kQ<|by rw[h.rel.len];exact hl] at e1;cases e1;rcases yy q2 with⟨z,_,_⟩|⟨hk,q2⟩
   ·exact fy z
   ·rw[qL hk] at e2;obtain⟨b,o',h1,h2,h3,h4⟩:=h.rel.mu k c' q2 m2;rw[e2] at h1;cases h1;exact na h2
  ·rw[qL hj] at e1;rcases yy q2 with⟨z,hl,_⟩|⟨hk,q2⟩
   ·subst z;rw[kQ<|by rw[h.rel.len];exact hl] at e2;cases e2;obtain⟨b,o',h1,h2,h3,h4⟩:=h.rel.mu j c q1 m1;rw[e1] at h1;cases h1;exact na h2
   ·rw[qL hk] at e2;exact h.ap j k c c' fy q1 q2 m1 m2 b e1 e2
def cH.W6(h:cH K H0 bO H os σ ρ)(n:H a=none)(s:bJ H H')(hx:H' a=some (.lst xs))(r:bP K (bK H'<|a::os) xs ds):cH K H0 bO H' (a::os) (σ.set i<|some<|.ref a) (ρ.set i<|.ow ds):=h.setM (d:=.ow ds) rfl n s hx r
def cH.zot(h:cH K H0 bO H os σ ρ){o':HO}{d d':Sl}(md:isM d=true)(Px:isM d'=true)(q:ρ[i]?=some d)(e:σ[i]?=some (some<|.ref a))(r:lR K (bK H os) o' d'):cH K H0 bO (upd H a o') os σ (ρ.set i d'):=by
 obtain⟨a',o,e',ha,hx,rx⟩:=h.rel.mu i d q md;rw[e] at e';cases e';have n0:=h.own i d q md a e;have hi:i<ρ.length:=(qg.mp q).1
 have eo:bK (upd H a o') os=bK H os:=yR ha;refine⟨⟨λj c q=>?_,λj c q' m=>?_,λb hb=>?_,?_⟩,λb o z=>?_,h.sub,h.new,h.al0,λj c q' m b z=>?_,λj k c c' fy q1 q2 m1 m2 b z1 z2=>?_⟩
 ·obtain⟨hj,q⟩:=Y6 Px q;rw[eo];exact h.rel.pu j c q
 ·rcases yy q' with⟨rfl,hl,rfl⟩|⟨hj,q'⟩
  ·exact⟨a,o',e,ha,zL,by rw[eo];exact r⟩
  ·obtain⟨b,o2,h1,h2,h3,h4⟩:=h.rel.mu j c q' m;have ne:b≠a:=λz=>h.ap i j d c hj q q' md m a e (by rw[h1,z])
   exact⟨b,o2,h1,h2,by rw[zY ne];exact h3,by rw[eo];exact h4⟩
 ·by_cases fg:b=a
  ·subst fg;exact⟨_,zL⟩
  ·rw[zY fg];exact h.rel.al b hb
 ·rw[gr];exact h.rel.len
 ·rw[zY λw=>by rw[w,n0] at z;cases z];exact h.sm b o z
 ·rcases yy q' with⟨rfl,hl,rfl⟩|⟨hj,q'⟩
  ·exact h.own i d q md b z
  ·exact h.own j c q' m b z
 ·rcases yy q1 with⟨rfl,hl,rfl⟩|⟨hj,q1⟩
  ·rcases yy q2 with⟨z,_,_⟩|⟨hk,q2⟩
   ·exact fy z
   ·exact h.ap i k d c' fy q q2 md m2 b z1 z2
  ·rcases yy q2 with⟨z,hl,_⟩|⟨hk,q2⟩
   ·subst z;exact h.ap j i c d fy q1 q m1 md b z1 z2
   ·exact h.ap j k c c' fy q1 q2 m1 m2 b z1 z2
def cH.chg(h:cH K H0 bO H os σ ρ){es:LPd}(q:ρ[i]?=some (.ow ds))(e:σ[i]?=some (some<|.ref a))(r:bP K (bK H os) ys es):cH K H0 bO (upd H a<|.lst ys) os σ (ρ.set i<|.ow es):=h.zot (d:=.ow ds) (d':=.ow es) rfl rfl q e r
noncomputable def frz(i:Nat)(ρ:Ro):Ro:=match ρ[i]? with |some (.ow ds)=>ρ.set i (.pu<|.list ds)|_=>ρ
def cH.frz(h:cH K H0 bO H os σ ρ)(i:Nat):∃os',cH K H0 bO H os' σ (Fu.frz i ρ)/\bJ (bK H os) (bK H os'):=by
 unfold Fu.frz;split
 ·rename_i ds q;obtain⟨a,xs,e,ha,hx,r⟩:=h.rel.ow i ds q;have n0:=h.own i _ q rfl a e;have sub:∀b∈os.filter (λc=>c≠a),b∈os:=λb hb=>(kl.mp hb).1
  have so:bJ (bK H os) (bK H<|os.filter λc=>c≠a):=xa sub;have hi:i<ρ.length:=(qg.mp q).1
  have an:a∉os.filter (λc=>c≠a):=λz=>by simpa using (kl.mp z).2
  refine⟨os.filter λc=>c≠a,⟨⟨λj c q'=>?_,λj c q' m=>?_,λb hb=>h.rel.al b<|sub b hb,?_⟩,h.sm,λb hb=>?_,λb hb=>h.new b<|sub b hb,h.al0,λj c q' m b z=>?_,λj k c c' fy q1 q2 m1 m2 b z1 z2=>?_⟩,so⟩
  ·rw[gL] at q';by_cases hj:i=j
   ·subst hj;rw[qj rfl,qj hi] at q';cases q';exact⟨.ref a,e,.lst (cm.of<|by rw[zA an];exact hx)<|r.same so⟩
   ·rw[qm hj] at q';obtain⟨v,h1,h2⟩:=h.rel.pu j c q';exact⟨v,h1,h2.same so⟩
  ·obtain⟨hj,q'⟩:=vE q' m;obtain⟨b,o2,h1,h2,h3,h4⟩:=h.rel.mu j c q' m;have ne:b≠a:=λz=>h.ap i j _ c hj q q' rfl m a e (by rw[h1,z])
   exact⟨b,o2,h1,kl.mpr ⟨h2,by simpa using ne⟩,h3,h4.same so⟩
  ·rw[gr];exact h.rel.len
  ·refine kl.mpr ⟨h.sub b hb,?_⟩
   have:b≠a:=λz=>by
    obtain⟨o,w⟩:=h.al0 b hb;rw[z,n0] at w;cases w
   simpa using this
  ·obtain⟨hj,q'⟩:=vE q' m;exact h.own j c q' m b z
  ·obtain⟨h1,q1⟩:=vE q1 m1;obtain⟨h2,q2⟩:=vE q2 m2;exact h.ap j k c c' fy q1 q2 m1 m2 b z1 z2
 ·exact⟨os,h,bJ.refl _⟩
end
section
variable{st:Stmt}{f g:bW}
noncomputable def sq(f g:bW):bW:=λρ=>match f ρ with |some (.nx ρ')=>g ρ'|r=>r
noncomputable def s0:bW:=λρ=>some<|.nx ρ
def yd:fV X [] s0:=⟨_,CJ,λ_ _ _ _ _ _ _ _ R q k=>by cases q;exact k _ _ _ R<|bJ.refl _⟩
def zl(h:FS X st f):fV X [st] f:=by
 obtain⟨t,p,q⟩:=h;exact⟨t,CK p,q⟩
def zj(h:FS X st f)(h2:fV X rest g):fV X (st::rest) (sq f g):=by
 obtain⟨t,p,q⟩:=h;obtain⟨t2,p2,q2⟩:=h2;refine⟨_,wq p p2,λH0 bO D σ H os ρ r R e k=>?_⟩;unfold sq at e;split at e
 ·rename_i ρ' e1;exact q H0 bO { D with nx:=t2 D } σ H os ρ _ R e1 λbR H' os' R' z=>q2 H0 bO D bR H' os' ρ' r R' e<|k.mono z
 ·cases r with
  |nx ρ'=>rename_i hn;exact absurd e<|hn ρ'
  |rt d=>exact q H0 bO { D with nx:=t2 D } σ H os ρ _ R e k
  |rl d=>exact q H0 bO { D with nx:=t2 D } σ H os ρ _ R e k
def FS.frz(i:Nat)(h:FS X st f):FS X st (λρ=>f<|frz i ρ):=by
 obtain⟨t,p,q⟩:=h;refine⟨t,p,λH0 bO D σ H os ρ r R e k=>?_⟩;obtain⟨os',R',z⟩:=R.frz i;exact q H0 bO D σ H os' _ r R' e<|k.mono z
def Py:FS X st (λ_=>none):=⟨_,M6,λ_ _ _ _ _ _ _ _ _ q _=>by cases q⟩
noncomputable def Bz(f:RPx):bW:=λρ=>(f ρ).bind λ_=>some<|.nx ρ
def Pz{f:RPx}(h:FE X e f)(hs:swapsWith e none pos.line X.env=pure false:=by rfl):FS X (.Expr e pos) (Bz f):=by
 obtain⟨t,p,q⟩:=h;refine⟨_,Jm p hs,λH0 bO D σ H os ρ r R e k=>?_⟩;obtain⟨d,e1,e2⟩:=bind_some e;cases e2;exact q σ H os ρ d _ R.rel e1 λv H' s _=>k _ _ _ (R.same s)<|zq s os
noncomputable def retS(f:RPx):bW:=λρ=>(f ρ).bind λd=>some<|.rt d
def zF{f:RPx}(h:FE X e f):FS X (.Return (some e) pos) (retS f):=by
 obtain⟨t,p,q⟩:=h;refine⟨_,UY p,λH0 bO D σ H os ρ r R e k=>?_⟩;obtain⟨d,e1,e2⟩:=bind_some e;cases e2;exact q σ H os ρ d _ R.rel e1 λv H' s rv=>k v H' (R.sm.trans s)<|rv.same<|xa R.sub
noncomputable def Ui(f:bY):bW:=λρ=>(f ρ).bind λd=>some<|.rl d
def J4{f:bY}(h:FL X e f):FS X (.Return (some e) pos) (Ui f):=by
 obtain⟨t,p,q⟩:=h;refine⟨_,UY p,λH0 bO D σ H os ρ r R e k=>?_⟩;obtain⟨d,e1,e2⟩:=bind_some e;cases e2;refine q σ H os ρ d _ R.rel e1 λa xs H' n s hx rv=>k a xs H' (R.sm.free n) (R.sm.trans s) hx<|rv.same<|xa λb hb=>?_
 rcases qy.mp hb with z|z
 ·exact z▸qZ
 ·exact qA _<|R.sub b z
def Yd(i:Nat)(hN:X.N[i]?=some x:=by rfl)(hv:cY X.env.scope x:=by trivial)(hd:NDx x:=by decide)(b6:NCx x:=by decide):FS X (.Return (some<|.Name x p) pos) (Ui<|gk i):=by
 refine⟨_,UY<|yA hN hv hd b6,λH0 bO D σ H os ρ r R e k=>?_⟩;obtain⟨ds,e1,e2⟩:=bind_some e;cases e2;have q:=ub e1;obtain⟨a,xs,e,ha,hx,r⟩:=R.rel.ow i ds q;refine⟨_,e,k a xs H (R.own i _ q rfl a e) R.sm hx<|r.same<|xa λb hb=>?_⟩;rcases qy.mp hb with z|z
 ·exact z▸ha
 ·exact R.sub b z
noncomputable def zW(i:Nat)(f:RPx):bW:=λρ=>(f ρ).bind λd=>some<|.nx<|ρ.set i<|.pu d
def zK(i:Nat){f:RPx}(hN:X.N.Nodup)(he:FE X e f)(hi:X.N[i]?=some x:=by rfl)(hx:Loc X.env.scope x:=by trivial)(hs:swapsWith e (some<|.Name x pos') pos.line X.env=pure false:=by rfl)(hf:fA X x:=by trivial):FS X (.Assign [.Name x pos'] e pos) (zW i f):=by
 obtain⟨t,p,q⟩:=he;refine⟨_,uq hN hi hx p hs hf,λH0 bO D σ H os ρ r R e k=>?_⟩;obtain⟨d,e1,e2⟩:=bind_some e;cases e2;exact q σ H os ρ d _ R.rel e1 λv H' s rv=>k _ _ _ ((R.same s).set rv)<|zq s os
noncomputable def x6(i:Nat)(f:bY):bW:=λρ=>(f ρ).bind λd=>some<|.nx<|ρ.set i<|.ow d
def xw(i:Nat){f:bY}(hN:X.N.Nodup)(he:FL X e f)(hi:X.N[i]?=some x:=by rfl)(hx:Loc X.env.scope x:=by trivial)(hs:swapsWith e (some<|.Name x pos') pos.line X.env=pure false:=by rfl)(hf:fA X x:=by trivial):FS X (.Assign [.Name x pos'] e pos) (x6 i f):=by
 obtain⟨t,p,q⟩:=he;refine⟨_,uq hN hi hx p hs hf,λH0 bO D σ H os ρ r R e k=>?_⟩;obtain⟨d,e1,e2⟩:=bind_some e;cases e2;exact q σ H os ρ d _ R.rel e1 λa xs H' n s hx rv=>k _ _ _ (R.W6 n s hx rv)<|jA n s
noncomputable def cD(c:Ro->Option Bool)(f g:bW):bW:=λρ=>(c ρ).bind λb=>if b then f ρ else g ρ
def xj{a b:List Stmt}(hc:FT X c fc)(ha:fV X a f)(hb:fV X b g):FS X (.If c a b pos) (cD fc f g):=by
 obtain⟨tc,pc,qc⟩:=hc;obtain⟨ta,pa,qa⟩:=ha;obtain⟨tb,pb,qb⟩:=hb;refine⟨_,CL pc pa pb,λH0 bO D σ H os ρ r R e k=>?_⟩;obtain⟨b,e1,e2⟩:=bind_some e;refine qc σ H os ρ b _ R.rel e1 λH' s=>?_
 cases b with
 |true=>rw[qj rfl] at e2 ⊢;exact qa H0 bO D σ H' os ρ r (R.same s) e2<|k.mono<|zq s os
 |false=>rw[qm qR] at e2 ⊢;exact qb H0 bO D σ H' os ρ r (R.same s) e2<|k.mono<|zq s os
noncomputable def wL(c:Ro->Option Bool)(b:bW):Nat->Ro->Option Fl
 |0,_=>none
 |n+1,ρ=>(c ρ).bind λt=>if t then (match b ρ with |some (.nx ρ')=>wL c b n ρ'|r=>r) else some (.nx ρ)
def DH(m:Ro->Nat)(c:Ro->Option Bool)(b:bW):bW:=λρ=>wL c b (m ρ) ρ
def HB(m:Ro->Nat){fb:bW}(hp:PassesOwn (model X.prog X.w) X.A X.env X.xe)(hc:FT X c fc)(hb:fV X body fb):FS X (.While c body [] pos) (DH m fc fb):=by
 obtain⟨tc,pc,qc⟩:=hc;obtain⟨tb,pb,qb⟩:=hb;refine⟨_,F6 hp pc pb,λH0 bO D σ H os ρ r R e k=>?_⟩;refine⟨λn bR H'=>∃os' ρ',cH X.K H0 bO H' os' bR ρ'/\bJ (bK H os) (bK H' os')/\wL fc fb n ρ'=some r,⟨m ρ,os,ρ,R,bJ.refl _,e⟩,?_⟩;rintro n bR H' ⟨os',ρ',R',z',e'⟩;cases n with
 |zero=>cases e'
 |succ n=>
  obtain⟨b,e1,e2⟩:=bind_some e';refine qc bR H' os' ρ' b _ R'.rel e1 λH2 s=>?_
  cases b with
  |false=>rw[qm qR] at e2 ⊢;cases e2;exact k _ _ _ (R'.same s)<|z'.trans<|zq s os'
  |true=>
   rw[qj rfl] at e2 ⊢;refine⟨λcq H2=>∃os' ρ',cH X.K H0 bO H2 os' cq ρ'/\bJ (bK H os) (bK H2 os')/\wL fc fb n ρ'=some r,λcq H2 h=>⟨n,kZ n,h⟩,?_⟩;split at e2
   ·rename_i ρ2 e3;exact qb H0 bO _ bR H2 os' ρ' _ (R'.same s) e3 λeH H3 i4 R3 z3=>⟨i4,ρ2,R3,(z'.trans<|zq s os').trans z3,e2⟩
   ·cases r with
    |nx ρ2=>rename_i hn;exact absurd e2<|hn ρ2
    |rt d=>exact qb H0 bO _ bR H2 os' ρ' _ (R'.same s) e2 k
    |rl d=>exact qb H0 bO _ bR H2 os' ρ' _ (R'.same s) e2 k
noncomputable def ZR(bd:PyData->Ro->Option Ro)(b:bW):List PyData->Ro->Option Fl
 |[],ρ=>some<|.nx ρ
 |d::ds,ρ=>(bd d ρ).bind λbX=>match b bX with |some (.nx ρ')=>ZR bd b ds ρ'|r=>r
def je(it:bY)(bd:PyData->Ro->Option Ro)(b:bW):bW:=λρ=>(it ρ).bind λds=>ZR bd b ds ρ
def xE{fi:bY}{bd:PyData->Ro->Option Ro}{fb:bW}(hp:PassesOwn (model X.prog X.w) X.A X.env X.xe)(hc:X.calm=true)(hi:FI X tg iter fi)(hg:FG X tg is bd)(hb:fV X body fb)(hs:ee X iter:=by exact λ_=>rfl):FS X (.For tg iter body [] pos) (je fi bd fb):=by
 obtain⟨wi,pi,qi⟩:=hi;obtain⟨tb,pb,qb⟩:=hb;refine⟨_,CO hp hc pi hg pb hs,λH0 bO D σ H os ρ r R e k=>?_⟩;obtain⟨ds,e1,e2⟩:=bind_some e;refine qi σ H os ρ ds _ R.rel e1 λJ H1 s1 W=>?_
 refine⟨λi m bR H'=>m=ds.length - i/\i<=ds.length/\∃os' ρ',cH X.K H0 bO H' os' bR ρ'/\bJ (bK H1 os) (bK H' os')/\ZR bd fb (ds.drop i) ρ'=some r,
  ⟨ds.length,rfl,kx _,os,ρ,R.same s1,bJ.refl _,e2⟩,?_⟩
 rintro i m bR H' ⟨rfl,hi,os',ρ',R',so,e'⟩;obtain⟨w1,w2⟩:=W H' os' R'.rel.al (so.trans<|jd H' os') so;by_cases cC:i<ds.length
 ·obtain⟨d,hd⟩:∃d,ds[i]?=some d:=⟨_,qk cC⟩;obtain⟨g1,g2⟩:=w1 i d hd;have ed:ds.drop i=d::ds.drop (i+1):=by
   rw[gT cC];rw[qk cC] at hd;cases hd;rfl
  rw[ed] at e';obtain⟨bX,e3,e4⟩:=bind_some e';refine .inr ⟨g1,λcq H2=>i+1<=ds.length/\∃os' ρ',cH X.K H0 bO H2 os' cq ρ'/\bJ (bK H1 os) (bK H2 os')/\ZR bd fb (ds.drop<|i+1) ρ'=some r,?_,?_⟩
  ·rintro cq H2 ⟨h1,h2⟩;exact⟨ds.length - (i+1),by omega,rfl,h1,h2⟩
  ·intro x H2 hy;obtain⟨s2,rx⟩:=g2 x H2 hy;refine⟨os',d,ρ',bX,rx,e3,λcq st=>?_⟩;have R2:cH X.K H0 bO H2 os' cq bX:=(R'.same s2).sets st;split at e4
   ·rename_i ρ2 e5;exact qb H0 bO _ cq H2 os' bX _ R2 e5 λeH H3 i4 R3 z3=>⟨cC,i4,ρ2,R3,(so.trans<|zq s2 os').trans z3,e4⟩
   ·cases r with
    |nx ρ2=>rename_i hn;exact absurd e4<|hn ρ2
    |rt d=>exact qb H0 bO _ cq H2 os' bX _ R2 e4 k
    |rl d=>exact qb H0 bO _ cq H2 os' bX _ R2 e4 k
 ·have e:i=ds.length:=by omega
  subst e;rw[mX] at e';cases e';exact .inl ⟨w2,k _ _ _ R'<|(zq s1 os).trans so⟩
end
section
def fh(i:Nat)(f:RPx):bW:=λρ=>(gk i ρ).bind λds=>(f ρ).bind λd=>if ds.length<16777216 then some (.nx<|ρ.set i<|.ow<|ds++[d]) else none
def vp(i:Nat)(he:FE X e f)(hN:X.N[i]?=some x:=by rfl)(hv:cY X.env.scope x:=by trivial)(hd:NDx x:=by decide)(b6:NCx x:=by decide)(cA:d4 X (.Name x p1) "append":=by rfl)(cK:lz X cpos [e]:=by rfl)(cB:(apos.endLine==cpos.line)=true:=by rfl)(hs:cT X e []:=by rfl)(cW:swapsWith (.Call (.Attribute (.Name x p1) "append" apos) [e] [] cpos) none pos.line X.env=pure false:=by rfl):FS X (.Expr (.Call (.Attribute (.Name x p1) "append" apos) [e] [] cpos) pos) (fh i f):=by
 obtain⟨t,p,q⟩:=he;refine⟨_,Jm (U5 kX nL nK uP (yA hN hv hd b6) (yQ p xW hs) cA cK cB hs) cW,λH0 bO D σ H os ρ r R e k=>?_⟩;obtain⟨ds,e1,e⟩:=bind_some e;obtain⟨d,e2,e⟩:=bind_some e;split at e
 ·rename_i hl;cases e;have g:=ub e1;obtain⟨a,xs,h1,h2,h3,h4⟩:=R.rel.ow i ds g;refine⟨_,h1,.inl ⟨rfl,_,cm.of h3⟩,q σ H os ρ d _ R.rel e2 λv H' s rv=>?_⟩;refine⟨a,xs,v,rfl,rfl,s _ _ h3,by rw[h4.length];exact hl,?_⟩;refine k _ _ os ((R.same s).chg g h1<|(h4.same<|zq s os).append<|.cons rv .nil) ?_;rw[yR h2];exact zq s os
 ·cases e
def t8(i:Nat)(f:RPx):bW:=λρ=>(gk i ρ).bind λds=>match f ρ with
 |some (.tuple es)=>if ds.length+es.length<=16777216 then some (.nx<|ρ.set i<|.ow<|ds++es) else none
 |_=>none
def PB(i:Nat)(he:FB X e f)(hN:X.N[i]?=some x:=by rfl)(hv:cY X.env.scope x:=by trivial)(hd:NDx x:=by decide)(b6:NCx x:=by decide)(cA:d4 X (.Name x p1) "extend":=by rfl)(cK:lz X cpos [e]:=by rfl)(cB:(apos.endLine==cpos.line)=true:=by rfl)(hs:cT X e []:=by rfl)(cW:swapsWith (.Call (.Attribute (.Name x p1) "extend" apos) [e] [] cpos) none pos.line X.env=pure false:=by rfl):FS X (.Expr (.Call (.Attribute (.Name x p1) "extend" apos) [e] [] cpos) pos) (t8 i f):=by
 obtain⟨t,p,q⟩:=he;refine⟨_,Jm (U5 kX PySem.F.slot_list_extend PySem.F.type_list_extend Pe (yA hN hv hd b6) (yQ p xW hs) cA cK cB hs) cW,λH0 bO D σ H os ρ r R e k=>?_⟩;obtain⟨ds,e1,e⟩:=bind_some e;split at e
 ·rename_i es e2;split at e
  ·rename_i hl;cases e;have g:=ub e1;obtain⟨a,xs,h1,h2,h3,h4⟩:=R.rel.ow i ds g;refine⟨_,h1,.inl ⟨rfl,_,cm.of h3⟩,q σ H os ρ _ _ R.rel e2 λv H' s rv=>?_⟩;obtain⟨b,ys,rfl,hS,_,ry⟩:=rv.tup;refine⟨a,b,xs,ys,rfl,rfl,s _ _ h3,hS,by rw[h4.length,ry.length];exact hl,?_⟩;refine k _ _ os ((R.same s).chg g h1<|(h4.same<|zq s os).append ry) ?_;rw[yR h2];exact zq s os
  ·cases e
 ·cases e
def i5(i:Nat)(fi f:RPx):bW:=λρ=>(gk i ρ).bind λds=>(f ρ).bind λd=>match fi ρ with
 |some (.int k)=>(dZ ds.length k).bind λj=>some<|.nx<|ρ.set i<|.ow<|ds.set j d
 |_=>none
theorem Zi{K:FRx}{H:Hp}{v:V}{d:PdX}(r:Rep K H v d):∀{xs:List V} {ds:LPd} (j:Nat),bP K H xs ds->bP K H (xs.set j v) (ds.set j d)
 |_,_,_,.nil=>.nil
 |_,_,0,.cons _ q=>.cons r q
 |_,_,j+1,.cons h q=>.cons h<|Zi r j q
def Ye(i:Nat){x:Str}{ie:Expr}{fi f:RPx}{c7:Pos}(hi:FE X ie fi)(he:FE X e f)(hN:X.N[i]?=some x:=by rfl)(hv:cY X.env.scope x:=by trivial)(hd:NDx x:=by decide)(b6:NCx x:=by decide)(ha:∀v,assign (.Subscript (.Name x p1) ie c7) X.env v=(do
   let ov <-holding [v] (eval (.Name x p1) X.env)
   let iv <-holding [v,ov] (eval ie X.env)
   standAt c7
   holding [v,ov,iv] (setItem ov iv v)
   release [v,ov,iv] []):=by intro _;rfl)(hs:swapsWithSole [.Subscript (.Name x p1) ie c7] e pos.line X.env=pure false:=by rfl)(hw:swappedStores [.Subscript (.Name x p1) ie c7] e X.env=pure none:=by rfl)(h1:(assignEach [.Subscript (.Name x p1) ie c7] X.env).map (·.2)=[assign (.Subscript (.Name x p1) ie c7) X.env]:=by rfl):FS X (.Assign [.Subscript (.Name x p1) ie c7] e pos) (i5 i fi f):=by
 obtain⟨t,p,q⟩:=he;obtain⟨ti,pi,qi⟩:=hi;refine⟨_,F5 p (F3 (yA hN hv hd b6) pi set_list ha) hs hw h1,λH0 bO D σ H os ρ r R e k=>?_⟩;obtain⟨ds,e1,e⟩:=bind_some e;obtain⟨d,e2,e⟩:=bind_some e;split at e
 ·rename_i n e3;obtain⟨j,e4,e⟩:=bind_some e;cases e;have g:=ub e1;obtain⟨a,xs,h1,h2,h3,h4⟩:=R.rel.ow i ds g;refine q σ H os ρ d _ R.rel e2 λv H' s rv=>⟨_,h1,qi σ H' os ρ _ _ (R.rel.same s) e3 λu H2 s2 ru=>?_⟩
  cases ru;have s3:=s.trans s2;refine⟨a,xs,n,j,rfl,rfl,s3 _ _ h3,by rw[h4.length];exact e4,?_⟩;refine k _ _ os ((R.same s3).chg g h1<|Zi (rv.same<|zq s2 os) j<|h4.same<|zq s3 os) ?_;rw[yR h2];exact zq s3 os
 ·cases e
def HC(i:Nat){o:Option Str}{fi:bY}{b:PyData->Ro->Option Ro}{fe:RPx}(hN:X.N.Nodup)(hc:X.calm=true)(hi:fF X tg iter fi)(S:xo X scope o)(hF:eh X F scope)(hg:∀cl C ex s H,FG (f9 X o Ts F scope cl C ex s H) tg is b)(he:∀{cl C ex s H},FE (f9 X o Ts F scope cl C ex s H) elt fe)(dC:∀i∈is,i<Ts.length:=by decide)(dP:X.N[i]?=some x:=by rfl)(hx:X.env.scope.names.lookup x=some .local:=by rfl)(cW:swapsWith (.ListComp elt [⟨tg,iter,[],0⟩] scope pos) (some<|.Name x pos') spos.line X.env=pure true:=by rfl)(hs:ee X iter:=by exact λ_=>rfl):FS X (.Assign [.Name x pos'] (.ListComp elt [⟨tg,iter,[],0⟩] scope pos) spos) (x6 i<|zQ Ts.length F fi b fe):=by
 obtain⟨wi,pi,qi⟩:=hi;refine⟨_,WV (Ts:=Ts) (F:=F) (g:=gF X.K is b) (te:=tF X.K fe) hN dP hx hc pi S hF hg (λ_ _ _ _ _=>he.pe) cW hs,λH0 bO D σ H os ρ r R q k=>?_⟩;obtain⟨ds,e1,q⟩:=bind_some q;cases q;obtain⟨es,e1,q⟩:=bind_some e1;split at q
 ·rename_i hl;refine qi σ H os ρ es _ R.rel e1 λJ H' s W D hD=>?_
  exact UP dC (R.rel.same s) hl hD W q λH2 xs s2 hx r=>k _ _ _ (R.W6 (s.free hD) (s.trans s2) hx r)<|jA (s.free hD)<|s.trans s2
 ·cases q
def Jk(i:Nat){fi:bY}{b:PyData->Ro->Option Ro}{fe:RPx}(hN:X.N.Nodup)(hc:X.calm=true)(hi:fF X tg iter fi)(S:yn X scope)(hF:eh X F scope)(hg:∀cl C ex s H,FG (c9 X Ts F scope cl C ex s H) tg is b)(he:∀{cl C ex s H},FE (c9 X Ts F scope cl C ex s H) elt fe)(dC:∀i∈is,i<Ts.length:=by decide)(dP:X.N[i]?=some x:=by rfl)(hx:X.env.scope.names.lookup x=some .local:=by rfl)(cW:swapsWith (.ListComp elt [⟨tg,iter,[],0⟩] scope pos) (some<|.Name x pos') spos.line X.env=pure true:=by rfl)(hs:ee X iter:=by exact λ_=>rfl):FS X (.Assign [.Name x pos'] (.ListComp elt [⟨tg,iter,[],0⟩] scope pos) spos) (x6 i<|zQ Ts.length F fi b fe):=HC i hN hc hi S.o hF hg he dC dP hx cW hs
end
noncomputable def cw(n m:Nat)(b:bW)(ds:LPd):Option PyData:=if ds.length=m then (match b (ds.map Sl.pu++List.replicate (n - m) .no) with
  |some (.rt d)=>some d
  |some (.rl es)=>some (.list es)
  |some (.nx _)=>some .none
  |none=>none) else none
noncomputable def fG(n m:Nat)(b:bW)(ds:LPd):Option (List PyData):=if ds.length=m then (match b (ds.map Sl.pu++List.replicate (n - m) .no) with
  |some (.rl es)=>some es
  |_=>none) else none
section
def J1{N:LSr}{vs:List V}(al:Al H os)(r:bP K (bK H os) vs ds)(m:Nat)(hm:ds.length=m):cH K H os H os (start N vs) (ds.map Sl.pu++List.replicate (N.length - m) .no):=by
 have hl:=r.length;have no:∀(i:Nat)(c:Sl),(ds.map Sl.pu++List.replicate (N.length - m) .no)[i]?=some c->isM c=true->False:=λi c q m=>by
  by_cases hi:i<ds.length
  ·rw[qQ (by simpa using hi),qp] at q;obtain⟨d,_,e2⟩:=map_some q;subst e2;cases m
  ·rw[qF (by simpa using kz hi),kK] at q;split at q
   ·cases q;cases m
   ·cases q
 refine⟨⟨λi d q=>?_,λi c q m=>(no i c q m).elim,al,?_⟩,bJ.refl _,λa h=>h,λa h=>.inl h,al,λi c q m=>(no i c q m).elim,λi j c c' _ q _ m=>(no i c q m).elim⟩
 ·unfold start;by_cases hi:i<ds.length
  ·rw[qQ (by simpa using hi),qp] at q;obtain⟨c,e1,e2⟩:=map_some q;cases e2;obtain⟨v,e3,e4⟩:=r.getD e1;refine⟨v,?_,e4⟩;rw[qQ (by rw[qf,hl];exact hi),qp,e3];rfl
  ·rw[qF (by simpa using kz hi),kK] at q;split at q<;>cases q
 ·unfold start;simp[hl,hm]
def zU.mk{x:Str}{st:Stmt}{N ps:LSr}{k m:Nat}{b:bW}(h:HasDef K mg x st)(S:zx N ps (zf st))(hb:∀(kV doc pm:Value)(an:Option Addr)(b5 ct:Value)(us:LVl),us.length=ps.length->bindArgs (W.fnOf x x (jt st) (yN st) (zf st) .none kV doc pm an b5 ct) ⟨us,[]⟩=pure (ps.zip us))(hm:ps.length=m)(cv:∀{f:AdX} {b5:Value} {A:Around} {outer:List Env} {s:ShX} {H:Hp} {E:XK},bZ k (A.deeper<|envOfC x (zf st) s.heap.objs.size f b5)->
   fV (Uh dO P w K mg base N x (zf st) f b5 A outer s H E).nox (yN st) b):zU P w K mg base (k+1) x ps (cw N.length m b):=by
 refine Def.mk h S hb (λvs H Q E q=>?_) λf b5 A outer s H vs Q E hr q=>?_
 ·obtain⟨os,ds,r,_,hr,e,_⟩:=q;unfold cw at e;split at e
  ·rename_i hl;rw[hr.length,hl,hm]
  ·cases e
 ·obtain⟨t,p,q'⟩:=cv hr;obtain⟨os,ds,r,al,hr,e,kk⟩:=q;unfold cw at e;split at e
  ·rename_i hl;refine⟨t,p,?_⟩;have R:=J1 (N:=N) al hr m hl;split at e
   ·rename_i d e1;cases e;exact q' H os _ _ H os _ _ R e1 λv H' s r=>kk v H' s r
   ·rename_i es e1;cases e;refine q' H os _ _ H os _ _ R e1 λa xs H' n s hx r=>kk _ H' s<|.lst (cm.of ?_)<|r.same<|xa λb hb=>qA _ hb
    rw[zA<|al.new n];exact hx
   ·rename_i ρ' e1;cases e;exact q' H os _ _ H os _ _ R e1 λbR H' os' R' z=>kk _ H' R'.sm .non
   ·cases e
  ·cases e
def wy.mk{x:Str}{st:Stmt}{N ps:LSr}{k m:Nat}{b:bW}(h:HasDef K mg x st)(S:zx N ps (zf st))(hb:∀(kV doc pm:Value)(an:Option Addr)(b5 ct:Value)(us:LVl),us.length=ps.length->bindArgs (W.fnOf x x (jt st) (yN st) (zf st) .none kV doc pm an b5 ct) ⟨us,[]⟩=pure (ps.zip us))(hm:ps.length=m)(cv:∀{f:AdX} {b5:Value} {A:Around} {outer:List Env} {s:ShX} {H:Hp} {E:XK},bZ k (A.deeper<|envOfC x (zf st) s.heap.objs.size f b5)->
   fV (Uh dO P w K mg base N x (zf st) f b5 A outer s H E).nox (yN st) b):wy P w K mg base (k+1) x ps (fG N.length m b):=by
 refine Def.mk h S hb (λvs H Q E q=>?_) λf b5 A outer s H vs Q E hr q=>?_
 ·obtain⟨os,ds,r,_,hr,e,_⟩:=q;unfold fG at e;split at e
  ·rename_i hl;rw[hr.length,hl,hm]
  ·cases e
 ·obtain⟨t,p,q'⟩:=cv hr;obtain⟨os,ds,r,al,hr,e,kk⟩:=q;unfold fG at e;split at e
  ·rename_i hl;refine⟨t,p,?_⟩;have R:=J1 (N:=N) al hr m hl;split at e
   ·rename_i es e1;cases e;exact q' H os _ _ H os _ _ R e1 λa xs H' n s hx r=>kk a xs H' n s hx r
   ·cases e
  ·cases e
end
end L2.Fu
namespace L2.Fu
open PySem PySem.Spec PyProof.Rows
abbrev ltI:PyData->PyData->Option PyData:=lS λi j=>decide (i<j)
abbrev HE:PyData->PyData->Option PyData:=lS λi j=>decide (i<=j)
abbrev fW:PyData->PyData->Option PyData:=lS λi j=>decide (j<i)
abbrev lY(i:Nat)(f:bW):bW:=λρ=>f<|frz i ρ
section
variable{a b:Expr}
def zv(ha:FB X a f)(hb:FB X b g)(hs:C6 b:=by exact λ_ _=>rfl):FE X (.Subscript a b pos) (bM bS f g):=by
 obtain⟨ta,pa,qa⟩:=ha;obtain⟨tb,pb,qb⟩:=hb;refine⟨_,GP Hf pa pb hs,λσ H os ρ c Q R q k=>?_⟩;obtain⟨d,e,e1,e2,e3⟩:=U7 q;refine two qa qb R e1 e2 λx y H' s r1 r2=>Hm x y H' os d e c Q (R.al.same s) r1 r2 e3 λv H2 s2=>k v H2 (s.trans s2)
end
section
def PD.mk{x:Str}{st:Stmt}{f:AdX}{fd:FuncData}{N ps:LSr}{k m:Nat}{b:bW}(F:iF K x x st f fd)(S:zx N ps (zf st))(hm:ps.length=m)(cv:∀(b5:Value)(A:Around)(outer:List Env)(s:ShX)(H:Hp)(E:XK),bZ k (A.deeper<|envOfC x (zf st) s.heap.objs.size f b5)->
   fV (Uh dO P w K mg base N x (zf st) f b5 A outer s H E).nox (yN st) b):wu P w K mg base dO (k+1) f fd ps (Bx K<|cw N.length m b):=by
 refine F.ok S (λvs H Q E q=>?_) λb5 A outer s H vs Q E hr q=>?_
 ·obtain⟨os,ds,r,_,hr,e,_⟩:=q;unfold cw at e;split at e
  ·rename_i hl;rw[hr.length,hl,hm]
  ·cases e
 ·obtain⟨t,p,q'⟩:=cv b5 A outer s H E hr;obtain⟨os,ds,r,al,hr,e,kk⟩:=q;unfold cw at e;split at e
  ·rename_i hl;refine⟨t,p,?_⟩;have R:=J1 (N:=N) al hr m hl;split at e
   ·rename_i d e1;cases e;exact q' H os _ _ H os _ _ R e1 λv H' s r=>kk v H' s r
   ·rename_i es e1;cases e;refine q' H os _ _ H os _ _ R e1 λa xs H' n s hx r=>kk _ H' s<|.lst (cm.of ?_)<|r.same<|xa λb hb=>qA _ hb
    rw[zA<|al.new n];exact hx
   ·rename_i ρ' e1;cases e;exact q' H os _ _ H os _ _ R e1 λbR H' os' R' z=>kk _ H' R'.sm .non
   ·cases e
  ·cases e
def BB(K:FRx):Sp:=λvs H Q _=>∃(a:AdX)(ns:List Int),vs=[.ref a]/\cm K H a (ns.map V.int)/\ns.length<=63/\∀H',Q (.bl true) H'
def PF{f:AdX}{F:ck}(h:∀ns:List Int,ns.length<=63->F [.list<|ns.map PyData.int]=some (.bool true))(o:wu P w K mg base CX k f fd ps (Bx K F)):wu P w K mg base CX k f fd ps (BB K):=o.imp λvs H Q E q=>by
 obtain⟨a,ns,rfl,hS,hl,k⟩:=q;have e0:bK H []=H:=by funext b;exact zA (by simp)
 refine⟨[],[.list<|ns.map PyData.int],.bool true,Al.nil _,.cons (.lst (by rw[e0];exact hS)<|bP.ints ns) .nil,h ns hl,λv H' s r=>?_⟩;cases r;exact k H'
def DI{ga:AdX}{gd:Option Addr}{a b:Int}{t u:Tok}(h:mg x=some (.ref ga))(l:K.lookup ga=some ⟨.type "tuple",gd,.seq #[.int a t,.int b u] n,sl⟩):GC K mg x (.tuple [.int a,.int b]):=⟨.ref ga,_,h,rfl,λH=>.tup (xs:=[.int a,.int b]) (.inr ⟨_,#[.int a t,.int b u],n,l,rfl,rfl,(by show 2<=sizeLine;decide),.cons ⟨t,rfl⟩<|.cons ⟨u,rfl⟩ .nil⟩)<|.cons (.int a)<|.cons (.int b) .nil⟩
end
def Wi:fillsNumberSlot (.type "tuple") "mul"=pure false:=PySem.fillsNumberSlot_seq (id:="tuple.__mul__") (r:=some<|.builtin "tuple.__rmul__") mK.lookup (by decide+kernel) bx.lookup (by decide+kernel)
def PH:seqRepeat? (.type "tuple")=pure (some<|.builtin "tuple.__mul__"):=by
 unfold seqRepeat?;rw[PySem.seqSlot_of (T:="tuple") (name:="__mul__") (id:="tuple.__mul__") mK.lookup (by decide+kernel),PySem.seqSlot_of (T:="tuple") (name:="__rmul__") (id:="tuple.__rmul__") bx.lookup<|by decide+kernel];rfl
def Y3(a:Int)(t:Tok)(l:AdX)(items:Array Value)(n:Nat)(dd:Option Addr)(sl:Array (Option Value)):Meets (Builtin.«int.__rmul__» ⟨[.int a t,.ref l],[]⟩) (λ_ R s=>s.heap.get? l=some { cls:=.type "tuple",dict:=dd,data:=.seq items n,slots:=sl }/\R (.ok<|.ret Value.notImplemented) s):=.of_wp λprog w A R s h=>by obtain⟨hp,g,d,tk,os⟩:=s;obtain⟨hl,h⟩:=h;wp_walk;exact⟨_,rfl,h⟩
def PJ(l:AdX)(items:Array Value)(n:Nat)(dd:Option Addr)(sl:Array (Option Value))(u:Tok):Meets (Builtin.«tuple.__mul__» ⟨[.ref l,.int 1 u],[]⟩) (λ_ R s=>s.heap.get? l=some { cls:=.type "tuple",dict:=dd,data:=.seq items n,slots:=sl }/\R (.ok<|.ret<|.ref l) s):=.of_wp λprog w A R s h=>by
  obtain⟨hp,g,d,tk,os⟩:=s;obtain⟨hl,h⟩:=h;have f1:=ny;have hc:(items.isEmpty || (1:Int)==1)=true:=by simp
  wp_walk using gh hl
  exact⟨_,rfl,h⟩
def PK(l:AdX)(items:Array Value)(n:Nat)(dd:Option Addr)(sl:Array (Option Value))(x:Int)(u:Tok)(h0:x<=0)(h1:-(2 ^ 63)<=x)(hi:items.isEmpty=false):Meets (Builtin.«tuple.__mul__» ⟨[.ref l,.int x u],[]⟩) (λ_ R s=>s.heap.get? l=some { cls:=.type "tuple",dict:=dd,data:=.seq items n,slots:=sl }/\R (.ok<|.ret<|.ref s.heap.objs.size) { s with heap:=s.heap.push { cls:=Value.type "tuple",data:=Data.seq #[] },toks:=s.toks }):=.of_wp λprog w A R s h=>by
  obtain⟨hp,g,d,tk,os⟩:=s;obtain⟨hl,h⟩:=h;have f1:=ny;have hc:¬((items.isEmpty || x==1)=true):=by rw[hi];simp;omega
  have DJ:¬((decide (x< -(2 ^ 63)) || decide (x>=2 ^ 63))=true):=by simp;omega
  have lJ:((decide (x<=0) || items.isEmpty)=true):=by simp;omega
  wp_walk using gh hl
  rw[qm DJ];wp_walk using gh hl;rw[qm hc];wp_walk using gh hl;exact⟨_,rfl,h⟩
def PL(l:AdX)(items:Array Value)(n:Nat)(dd:Option Addr)(sl:Array (Option Value))(x:Int)(u:Tok)(h0:1<x)(h1:x<2 ^ 63)(hi:items.isEmpty=false)(hz:items.size*x.toNat<=sizeLine):Meets (Builtin.«tuple.__mul__» ⟨[.ref l,.int x u],[]⟩) (λ_ R s=>s.heap.get? l=some { cls:=.type "tuple",dict:=dd,data:=.seq items n,slots:=sl }/\R (.ok<|.ret<|.ref s.heap.objs.size) { s with heap:=s.heap.push { cls:=Value.type "tuple",data:=Data.seq (List.foldl (λx1 x2=>x1++x2) #[] (List.replicate x.toNat items)) },toks:=s.toks }):=.of_wp λprog w A R s h=>by
  obtain⟨hp,g,d,tk,os⟩:=s;obtain⟨hl,h⟩:=h;have f1:=ny;have PM:((items.size*x.toNat:Nat):Int)<=16777216:=by
   have:(sizeLine:Nat)=16777216:=rfl;omega
  have hx:(items.size:Int)*x=((items.size*x.toNat:Nat):Int):=by
   rw[nj,Int.toNat_of_nonneg<|by omega]
  have hc:¬((items.isEmpty || x==1)=true):=by rw[hi];simp;omega
  have DJ:¬((decide (x< -(2 ^ 63)) || decide (x>=2 ^ 63))=true):=by simp;omega
  have lJ:¬((decide (x<=0) || items.isEmpty)=true):=by rw[hi];simp;omega
  have PN:¬((items.size:Int)*x>(2 ^ 63 - 1) / 8):=by rw[hx];omega
  have PQ:¬(Builtin.Tuple.tupleTooMany ((items.size:Int)*x)=true):=by
   rw[hx];unfold Builtin.Tuple.tupleTooMany
   have:(sizeLine:Int)=16777216:=rfl;rw[pw];omega
  have hz':(List.foldl (λx1 x2=>x1++x2) #[] (List.replicate x.toNat items)).size<=sizeLine:=by
   rw[AutoListH.size_joined];simp only [Array.size_empty];rw[gG] at hz;omega
  wp_walk using gh hl
  rw[qm DJ];wp_walk using gh hl;rw[qm hc];wp_walk using gh hl;rw[qm lJ];wp_walk using gh hl;rw[qm PN];wp_walk using gh hl;rw[qm PQ];wp_walk using gh hl;exact⟨_,rfl,h⟩
def HF(K:FRx):R2:=λx y H Q=>∃a k xs,x=.ref a/\y=.int k/\cP K H a xs/\xs≠[]/\-(2 ^ 63)<=k/\k<2 ^ 63/\xs.length*k.toNat<=sizeLine/\
 (k=1->Q (.ref a) H)/\(k≠1->∀p,H p=none->Q (.ref p) (upd H p<|.tup (List.replicate k.toNat xs).flatten))
def PU:c4 X (binaryOp .Mult) (HF X.K):=by
 intro pins s σ H x y v u Q I rx ry h;obtain⟨a,k,xs,rfl,rfl,hx,cQ,h1,h2,hz,q1,q2⟩:=h;cases (show v=Value.ref a from rx);obtain⟨t,rfl⟩:=ry;obtain⟨its,r,⟨⟨cls,dd,data,sl⟩,ho,hc,n,hd⟩,PM⟩:=I.tuple hx;simp only at hc hd;subst hc hd;have hl:=r.length;have HG:its.toArray.isEmpty=false:=by
  cases its with
  |nil=>cases r;exact absurd rfl cQ
  |cons _ _=>rfl
 have PV:its.toArray.size*k.toNat<=sizeLine:=by rw[qH,<-hl];exact hz
 have hf:∀m:Nat,List.foldl (λx1 x2=>x1++x2) #[] (List.replicate m its.toArray)=(List.replicate m its).flatten.toArray:=λm=>by
  have:=foldl_rep its m [];rwa[pW] at this
 refine wpAny_binaryOp_repeat_ref (T:="tuple") (U:="int") (by decide) ⟨_,ho,rfl⟩ (λs'=>pU s' k t) Wi PySem.F.fills_int_mul pq PH PySem.F.slot_int_index.lookup
  (mr pq (pU s k t) PySem.F.entry_int_rmul (PySem.F.args_int_rmul_2 _ _) (Y3 k t a its.toArray n dd sl) ⟨ho,rfl,⟨_,ho,rfl⟩,?_⟩)
 by_cases qV:k=1
 ·subst qV;exact mr mK ⟨_,ho,rfl⟩ p7 (pV _ _) (PJ a its.toArray n dd sl t) ⟨ho,⟨.ref a,H,I,rfl,q1 rfl⟩⟩
 ·by_cases hk0:k<=0
  ·refine mr mK ⟨_,ho,rfl⟩ p7 (pV _ _) (PK a its.toArray n dd sl k t hk0 h1 HG) ⟨ho,?_⟩;have e:(List.replicate k.toNat xs).flatten=[]:=by
    have:k.toNat=0:=by omega
    rw[this];rfl
   have q:=q2 qV _<|I.hok.fresh<|qe _;rw[e] at q;exact⟨.ref s.heap.objs.size,_,I.laid (o:=.tup []) (t':=s.toks) (λc o e=>qo _ e) (qe _) ⟨kx _,[],.nil,⟨_,qO _ rfl,rfl,_,rfl⟩⟩,rfl,q⟩
  ·refine mr mK ⟨_,ho,rfl⟩ p7 (pV _ _) (PL a its.toArray n dd sl k t (by omega) h2 HG PV) ⟨ho,?_⟩;rw[hf];refine⟨.ref s.heap.objs.size,_,I.laid (o:=.tup (List.replicate k.toNat xs).flatten) (t':=s.toks) (λc o e=>qo _ e) (qe _) ⟨?_,_,r.rep k.toNat,⟨_,qO _ rfl,rfl,_,rfl⟩⟩,rfl,q2 qV _<|I.hok.fresh<|qe _⟩;rw[len_rep,gG];exact hz
noncomputable def BC:PyData->PyData->Option PyData
 | .tuple ds,.int k=>if ds≠[]/\-(2 ^ 63)<=k/\k<2 ^ 63/\ds.length*k.toNat<=16777216 then some (.tuple (List.replicate k.toNat ds).flatten) else none
 |_,_=>none
def PX:eA K (HF K) BC:=by
 intro x y H os d e c Q al r1 r2 h k;unfold BC at h;split at h
 ·rename_i ds n;split at h
  ·rename_i hc;cases h;obtain⟨a,xs,rfl,hS,rR,r⟩:=r1.tup;refine⟨a,n,xs,rfl,r2.int,hS,λz=>hc.1 ?_,hc.2.1,hc.2.2.1,by rw[r.length];exact hc.2.2.2,λz=>?_,λz p hp=>?_⟩
   ·have:=r.length;rw[z] at this;exact pS this.symm
   ·subst z;have e:(List.replicate (1:Int).toNat ds).flatten=ds:=by simp
    rw[e] at k;exact k _ H (bJ.refl H)<|.tup rR r
   ·have s:=yb hp<|.tup (List.replicate n.toNat xs).flatten;refine k _ _ s<|.tup (cP.of ?_)<|(UZ r _).same<|zq s os;rw[zA<|al.new hp];exact zL
  ·cases h
 ·cases h
end L2.Fu
namespace L2.Fu
open PySem PySem.Spec PyProof.Rows
def HH(h:Heap)(a l:AdX)(i:Int):Prop:=∃o,h.get? a=some o/\o.cls=.type "reversed"/\o.data=.fields #[.ref l,rawInt i]
section
variable{s:ShX}
def HH.typeIs{i:Int}(x:HH s.heap a l i):s.TypeIs (.ref a) "reversed":=let ⟨o,ho,hc,_⟩:=x;⟨o,ho,hc⟩
end
end L2.Fu
namespace L2.Fu
open PySem
noncomputable def HI(i:Nat):Ro->Nat:=λρ=>match ρ[i]? with |some (.pu<|.int b)=>b.natAbs+1|_=>0
abbrev uh:Ro->Nat:=HI 1
abbrev Yw:Ro->Nat:=HI 3
end L2.Fu
namespace L2.Fu
open PySem PySem.Spec PyProof.Rows
abbrev af:=gv 0
abbrev ag:=gv 1
def PY:bW:=(sq (cD (zy<|bM ltI ag<|zi yh<|aC af a0) (retS<|bM bS af<|gv 1) s0)<|retS<|cst<|.int 0)
def yo:ck:=cw 2 2 PY
abbrev am:=gv 2
abbrev aO:=gv 3
def PZ:bW:=(sq (zW 2<|zi Bw<|aC af a0)<|sq (zW 3<|gv 1)<|sq (DH Yw (zy<|bM fW aO<|cst<|.int 0)<|sq (zW 4<|bM xB am<|gv 3)<|sq (zW 2<|gv 3)<|zW 3<|gv 4)<|retS<|xm<|aC (bM yJ af<|gv 2)<|aC (bM yJ ag<|gv 2) a0)
def wa:ck:=cw 5 2 PZ
abbrev aj:=cst<|.int 1
abbrev aM:=cst<|.int 2
def ZV:bW:=(retS<|zi wa<|aC (bM W9 (bM xB af<|cst<|.int 9)<|cst<|.int 4)<|aC (bM bS (yt<|vI<|aC aj<|aC aj<|aC aM<|aC aj<|aC (cst<|.int 3) a0)<|bM xB (bM yJ af<|cst<|.int 9)<|cst<|.int 5) a0)
def xq:ck:=cw 1 1 ZV
abbrev ak:=cst<|.int 0
abbrev aX:=zW 9<|bM xN (bM yD aM<|gv 1)<|bM yD (bM xN (bM yD (gv 6)<|gv 1)<|gv 8)<|gv 1
abbrev av:=je (xl<|aC ag a0) (bN 8)<|sq aX<|fh 7<|zi zZ<|aC (yt<|lU (gb 3) (oS<|gv 9)<|oS<|bM xN (gv 9)<|gv 1) a0
abbrev aI:=bM xB (bM yJ af<|cst<|.int 11)<|cst<|.int 3
abbrev aK:=bM yD af<|cst<|.int 48271
abbrev bD:=zW 0<|bM xB (bM xN aK<|cst<|.int 29)<|cst<|.int 2147483647
def uw:bW:=(sq (x6 3<|vI a0)<|sq (je (xl<|aC (bM yD ag<|bM xN aM<|bM yD ag<|gv 2) a0) (bN 4)<|sq bD<|fh 3<|iZ (zy<|bM dA aI<|cst<|.int 0) (xm<|aC ak<|aC aj a0)<|zi xq<|aC (bM yJ af<|cst<|.int 33) a0)<|sq (x6 5<|vI a0)<|sq (je (xl<|aC am a0) (bN 6)<|sq (x6 7<|vI a0)<|sq av<|fh 5<|zi zZ<|aC (gb 7) a0)<|retS<|xm<|aC (zi zZ<|aC (yt<|lU (gb 3) o0<|oS<|gv 1) a0)<|aC (zi zZ<|aC (gb 5) a0)<|aC (zi zZ<|aC (yt<|lU (gb 3) (oS<|gv 1)<|oS<|bM yD aM<|gv 1) a0) a0)
def jb:ck:=cw 10 3 uw
abbrev bE:=zW 0<|bM xB (bM xN aK<|cst<|.int 17)<|cst<|.int 2147483647
def P0:bW:=(sq (x6 3<|vI a0)<|sq (je (xl<|aC (bM xB af<|bM xN am<|cst<|.int 1) a0) (bN 4)<|sq bE<|fh 3<|bM xB (bM yJ af<|cst<|.int 5)<|gv 1)<|retS<|zi zZ<|aC (gb 3) a0)
def UD:ck:=cw 5 3 P0
abbrev aa:=bM bS af<|cst<|.int 0
abbrev ac:=bM bS af<|cst<|.int 1
abbrev bi:=bM yD ac<|bM bS ag<|cst<|.int 1
def P1:bW:=(retS<|zi wa<|aC (bM yD aa<|bM bS ag<|cst<|.int 0)<|aC bi a0)
def yE:ck:=cw 2 2 P1
abbrev au:=bM bS ag<|cst<|.int 0
def P2:bW:=(retS<|zi wa<|aC (bM xN (bM yD aa<|bM bS ag<|cst<|.int 1)<|bM yD au<|bM bS af<|cst<|.int 1)<|aC bi a0)
def xK:ck:=cw 2 2 P2
def Wt:bW:=(sq (DH uh (zy<|bM cM ag<|cst<|.int 0)<|sq (zW 2<|bM xB af<|gv 1)<|sq (zW 0<|gv 1)<|zW 1<|gv 2)<|retS<|zi Bw<|aC af a0)
def yW:ck:=cw 3 2 Wt
abbrev aZ:=yc<|gv 0
abbrev a9:=bM bS am<|cst<|.int 1
def W5:bW:=(sq (zW 1<|cst<|.int 1)<|sq (je aZ (bN 2)<|zW 1<|bM yD ag<|bM yJ a9<|zi yW<|aC ag<|aC a9 a0)<|retS<|gv 1)
def yx:ck:=cw 3 1 W5
abbrev aq:=bN 0
def P4:bW:=(Ui<|zQ 1 [1] aZ aq<|bM yD aa<|bM yJ ag<|bM bS af<|cst<|.int 1)
def xR:eM:=fG 2 2 P4
def P5:bW:=(retS<|zi zZ<|aC (yt<|zQ 1 [1] aZ aq<|bM bS af<|gv 1) a0)
def JF:ck:=cw 2 2 P5
abbrev ax:=zi yh<|aC af a0
abbrev bH:=gv 4
def P6:bW:=(sq (x6 1<|vI a0)<|sq (je aZ (bN 2)<|t8 1<|gv 2)<|sq (zW 3<|WX yx<|aC (gb 1) a0)<|sq (x6 4<|zQ 1 [0,3] (xl<|aC ax a0) aq<|yt<|xf xR<|aC (zi JF<|aC ag<|aC af a0)<|aC am a0)<|lY 4<|retS<|xm<|aC bH<|aC aO a0)
def v5:ck:=cw 5 1 P6
abbrev aS:=b2 aq<|bN 1
abbrev bC:=Ug false false<|aC af<|aC ag a0
def VM:bW:=(retS<|zi tZ<|aC (yt<|zQ 2 [] bC aS<|bM yD af<|gv 1) a0)
def yp:ck:=cw 2 2 VM
def P7:bW:=(Ui<|zQ 1 [0] (yc<|gv 1) aq<|zi yp<|aC ag<|aC af a0)
def Zn:eM:=fG 2 2 P7
def P8:bW:=(sq (zW 2<|zi yW<|aC af<|aC ag a0)<|sq (cD (zy<|bM ltI ag<|cst<|.int 0) (zW 2<|dI Z1<|gv 2) s0)<|retS<|xm<|aC (bM yJ af<|gv 2)<|aC (bM yJ ag<|gv 2) a0)
def uT:ck:=cw 3 2 P8
def P9:bW:=(retS<|rQ (dI (Ue "int")<|gv 0)<|DE<|dI (Ue "bool")<|gv 0)
def jq:ck:=cw 1 1 P9
def Qa:bW:=(sq (zW 2<|xm<|aC ak<|aC aj a0)<|sq (je (xl<|aC ax a0) (bN 3)<|zW 2<|zi xK<|aC am<|aC (zi yE<|aC (bM bS af<|gv 3)<|aC (bM bS ag<|gv 3) a0) a0)<|retS<|gv 2)
def xQ:ck:=cw 4 2 Qa
abbrev bn:=yt<|zQ 1 [1,3] (xl<|aC ax a0) aq<|bM bS (bM bS ag<|gv 0)<|gv 2
def Qb:bW:=(sq (x6 2<|vI a0)<|sq (je (xl<|aC ax a0) (bN 3)<|fh 2<|zi xQ<|aC af<|aC bn a0)<|Ui<|gk 2)
def jz:eM:=fG 4 2 Qb
def Qc:bW:=(sq (x6 2<|xf wF<|aC aa a0)<|sq (je (yc<|gv 1) (bN 3)<|lY 2<|x6 2<|xf jz<|aC am<|aC (bM bS ac<|gv 3) a0)<|Ui<|gk 2)
def VZ:eM:=fG 4 2 Qc
abbrev aN:=bM bS af<|cst<|.int 2
def Qd:bW:=(retS<|zi xQ<|aC (yt<|xf VZ<|aC af<|aC ag a0)<|aC aN a0)
def xY:ck:=cw 2 2 Qd
abbrev ai:=bM bS ag<|cst<|.int 1
def W4:bW:=(sq (zW 2<|zi yh<|aC ac a0)<|sq (zW 3<|zi yh<|aC ai a0)<|cD (zy<|bM cM am<|gv 3) (λ_=>none) s0)
def vN:ck:=cw 4 2 W4
def Qe:bW:=(retS<|zi uT<|aC (bM yD aa<|bM bS ag<|cst<|.int 0)<|aC bi a0)
def DK:ck:=cw 2 2 Qe
def Qf:bW:=(retS<|zi zZ<|aC (yt<|zQ 1 [1] aZ aq<|zi DK<|aC af<|aC ag a0) a0)
def Jd:ck:=cw 2 2 Qf
def Qg:bW:=(sq (cD (d6 (xP<|zy<|dI (Ue "tuple")<|gv 0)<|d6 (zy<|bM cM ax<|cst<|.int 2)<|d6 (xP<|zy<|zi jq<|aC aa a0)<|xP<|zy<|zi jq<|aC ac a0) (retS<|cst<|.bool false) s0)<|retS<|rQ (bM fW ac<|cst<|.int 0)<|bM dA (zi wa<|aC aa<|aC ac a0)<|gv 0)
def vZ:ck:=cw 1 1 Qg
def Wf:bW:=(sq (cD (d6 (xP<|zy<|dI (Ue "tuple")<|gv 0)<|zy<|bM cM ax<|gv 1) (retS<|cst<|.bool false) s0)<|sq (je aZ (bN 2)<|cD (xP<|zy<|zi vZ<|aC am a0) (retS<|cst<|.bool false) s0)<|retS<|cst<|.bool true)
def yT:ck:=cw 3 2 Wf
abbrev aQ:=yc<|bM bS af<|cst<|.int 1
abbrev be:=xP<|zy<|zi yT<|aC bH<|aC ag a0
def Wx:bW:=(sq (cD (d6 (xP<|zy<|dI (Ue "tuple")<|gv 0)<|d6 (zy<|bM cM ax<|cst<|.int 3)<|xP<|zy<|dI (Ue "tuple")<|bM bS af<|cst<|.int 1) (retS<|cst<|.bool false) s0)<|sq (cD (d6 (xP<|zy<|zi yT<|aC aa<|aC ag a0)<|xP<|zy<|zi yT<|aC aN<|aC ag a0) (retS<|cst<|.bool false) s0)<|sq (cD (zy<|bM cM (zi yh<|aC ac a0)<|gv 2) (retS<|cst<|.bool false) s0)<|sq (je aQ (bN 3)<|sq (cD (d6 (xP<|zy<|dI (Ue "tuple")<|gv 3)<|zy<|bM cM (zi yh<|aC aO a0)<|gv 1) (retS<|cst<|.bool false) s0)<|je (yc<|gv 3) (bN 4)<|cD be (retS<|cst<|.bool false) s0)<|retS<|cst<|.bool true)
def jv:ck:=cw 5 3 Wx
def Qh:bW:=(retS<|zi zZ<|aC (yt<|zQ 1 [0] (xl<|aC ax a0) aq<|zi JF<|aC ag<|aC af a0) a0)
def uA:ck:=cw 1 1 Qh
def Qi:bW:=(retS<|xm<|aC aN<|aC (zi zZ<|aC (yt<|zQ 1 [] aQ aq<|zi uA<|aC af a0) a0)<|aC aa a0)
def Jw:ck:=cw 1 1 Qi
def Qj:bW:=(sq (zW 2<|zi yx<|aC af a0)<|sq (zW 3<|zi yx<|aC ag a0)<|sq (zW 4<|zi yp<|aC (yt<|xf xR<|aC af<|aC am a0)<|aC (yt<|xf xR<|aC ag<|aC aO a0) a0)<|retS<|zi uT<|aC bH<|aC (bM yD am<|gv 3) a0)
def wI:ck:=cw 5 2 Qj
def Qk:bW:=(retS<|bM BC (xm<|aC (cst<|.tuple [.int 0,.int 1]) a0)<|gv 0)
def uM:ck:=cw 1 1 Qk
abbrev bF:=zi uM<|aC (zi yh<|aC ag a0) a0
def Ql:bW:=(sq (x6 3<|zQ 2 [] (Ug true false<|aC af<|aC ag a0) aS<|bM uY af<|gv 1)<|sq (x6 4<|zQ 1 [0] (yc<|gv 2) aq<|bM uY bF<|gv 0)<|retS<|zi zZ<|aC (yt<|tW (gk 3)<|gk 4) a0)
def ux:ck:=cw 5 3 Ql
end L2.Fu
namespace WS
open Rat
def HJ(a b:Int):Int.gcd b (a.fmod b)=Int.gcd a b:=by
 rw[Int.fmod_def,Int.gcd_comm a b];have h:a - b*a.fdiv b=a+b*(-(a.fdiv b)):=by rw[Int.mul_neg];rfl
 rw[h];exact Int.gcd_add_mul_left_right ..
def HK{a b:Int}(h:b≠0):(a.fmod b).natAbs<b.natAbs:=by
 rcases Int.lt_or_gt_of_ne h with hb|hb
 ·have h3:=mR (-a) (b:=-b) (by omega);have h4:=pz (-a) (b:=-b) (by omega)
  rw[Int.neg_fmod_neg] at h3 h4;omega
 ·have h1:=mR a hb;have h2:=pz a hb
  omega
def v7{t b:Int}(hb:b≠0):(0:Int)<(Int.gcd t b:Int):=by
 have:=Int.gcd_pos_of_ne_zero_right t hb;omega
def DL{t b c:Int}(hb:b≠0)(hc:c=if b<0 then -(Int.gcd t b:Int) else (Int.gcd t b:Int)):t.fdiv c=(divInt t b).num:=by
 have hg:=v7 (t:=t) hb;have h1:(Int.gcd t b:Int) ∣ t:=Int.gcd_dvd_left ..
 obtain⟨k,hk⟩:=h1;rw[num_divInt,Int.gcd_comm b t];by_cases h:b<0
 ·rw[qj h] at hc;subst hc;rw[Int.sign_eq_neg_one_of_neg h];have e1:t.fdiv (-(Int.gcd t b:Int))=-k:=mi (by omega) (by rw[Int.neg_mul_neg];exact hk);have e2:(-1*t) / (Int.gcd t b:Int)=-k:=mj (by omega) (by rw[Int.mul_neg,<-hk];omega)
  rw[e1,e2]
 ·rw[qm h] at hc;subst hc;rw[Int.sign_eq_one_of_pos (by omega),Int.one_mul];have e1:t.fdiv (Int.gcd t b:Int)=k:=mi (by omega) hk;have e2:t / (Int.gcd t b:Int)=k:=mj (by omega) hk
  rw[e1,e2]
def DM{t b c:Int}(hb:b≠0)(hc:c=if b<0 then -(Int.gcd t b:Int) else (Int.gcd t b:Int)):b.fdiv c=((divInt t b).den:Int):=by
 have hg:=v7 (t:=t) hb;have h1:(Int.gcd t b:Int) ∣ b:=Int.gcd_dvd_right ..
 obtain⟨k,hk⟩:=h1;rw[den_divInt,qm hb,Int.gcd_comm b t];have e3:((b.natAbs / Int.gcd t b:Nat):Int)=(b.natAbs:Int) / (Int.gcd t b:Int):=rfl;rw[e3];by_cases h:b<0
 ·rw[qj h] at hc;subst hc;have e1:b.fdiv (-(Int.gcd t b:Int))=-k:=mi (by omega) (by rw[Int.neg_mul_neg];exact hk);have e2:(b.natAbs:Int) / (Int.gcd t b:Int)=-k:=mj (by omega) (by rw[Int.mul_neg,<-hk];omega)
  rw[e1,e2]
 ·rw[qm h] at hc;subst hc;have e1:b.fdiv (Int.gcd t b:Int)=k:=mi (by omega) hk;have e2:(b.natAbs:Int) / (Int.gcd t b:Int)=k:=mj (by omega) (by rw[<-hk];omega)
  rw[e1,e2]
def HL(q r:Rat):divInt (q.num*(r.den:Int)+r.num*(q.den:Int)) ((q.den:Int)*(r.den:Int))=q+r:=by
 have h1:(q.den:Int)≠0:=by have:=q.den_pos;omega
 have h2:(r.den:Int)≠0:=by have:=r.den_pos;omega
 have e:=divInt_add_divInt q.num r.num h1 h2;rw[mH,mH] at e;exact e.symm
def Vu(q r:Rat):divInt (q.num*r.num) ((q.den:Int)*(r.den:Int))=q*r:=by
 have e:=divInt_mul_divInt q.num r.num (d₁:=(q.den:Int)) (d₂:=(r.den:Int));rw[mH,mH] at e;exact e.symm
def Yx(q:Rat):(q.den:Int)≠0:=by have:=q.den_pos;omega
def Vf(q:Rat):(0:Int)<(q.den:Int):=by have:=q.den_pos;omega
def HM(t b:Int):(divInt t b).num.natAbs<=t.natAbs:=by
 rw[num_divInt];have h:(b.sign*t / (b.gcd t:Int)).natAbs<=(b.sign*t).natAbs:=Int.natAbs_ediv_le_natAbs ..;rw[kE,Int.natAbs_sign] at h;split at h<;>omega
def Qm{t b:Int}(hb:b≠0):(divInt t b).den<=b.natAbs:=by
 rw[den_divInt,qm hb];exact Nat.div_le_self ..
end WS
namespace WD
open PySem L2 WS
open PySem.Builtin.Int (intBits)
noncomputable def fr(q:Rat):PyData:=.tuple [.int q.num,.int (q.den:Int)]
def HN(q r:Rat):PyData.eqv (fr q) (fr r)=decide (q=r):=by
 simp only [fr,PyData.eqv,PyData.eqvAll];by_cases h:q=r
 ·subst h;simp
 ·rw[qN h];by_cases h1:q.num=r.num
  ·by_cases h2:q.den=r.den
   ·exact absurd (Rat.ext h1 h2) h
   ·simp[h1]
    omega
  ·simp[h1]
def Wz{x:Int}(hx:x≠0)(h:intBits x<=m):x.natAbs.log2<m:=by
 have h1:=(intBits_le_iff (m:=m) (x:=x)).mp h;exact(pR<|by omega).mpr h1
def Qn{t b:Int}(hb:b≠0)(h:intBits b<=m):intBits (Int.gcd t b:Int)<=m:=by
 refine gx ?_ h;exact Int.gcd_le_natAbs_right (a:=t) hb
def yZ{x:Int}(h:x.natAbs<2 ^ m):intBits x<=m:=m9.mpr h
def jk{a b:Int}(ha:intBits a<=m)(hb:intBits b<=n)(h:m+n<=134217728:=by decide):IntMulOk a b:=IntMulOk.of_le ha hb h
structure Bq(m:Nat)(q:Rat):Prop where
 n:intBits q.num<=m
 d:intBits (q.den:Int)<=m
def Bq.mono(b:Bq m q)(h:m<=n):Bq n q:=⟨qr b.n h,qr b.d h⟩
def Zv{r:Rat}(hq:Bq 4000 q)(hr:Bq 4000 r):IntMulOk q.num (r.den:Int)/\IntMulOk r.num (q.den:Int)/\IntMulOk (q.den:Int) (r.den:Int)/\IntMulOk q.num r.num/\IntMulOk (q.den:Int) r.num:=⟨jk hq.n hr.d,jk hr.n hq.d,jk hq.d hr.d,jk hq.n hr.n,jk hq.d hr.n⟩
def Qo(q r:Rat):(q.den:Int)*(r.den:Int)≠0:=nk (Yx q)<|Yx r
def Sz(m:Nat):Prop:=intBits (m:Int)<=4000
def Sz.mono(h:m<=n)(s:Sz n):Sz m:=gx (y:=(n:Int)) h s
def Sz.bits{x:Int}(s:Sz B)(h:x.natAbs<=B):intBits x<=4000:=gx (y:=(B:Int)) h s
def Sz.wG(h:k<4000):Sz (2 ^ k):=by
 refine m9.mpr ?_;exact kO (by decide) h
def yq(n:Nat)(f:Q1x):PyData:=.tuple<|(List.range n).map λi=>fr<|f i
def yi(n:Nat)(f:Q1x):PyData:=.list<|(List.range n).map λi=>fr<|f i
def yG(n:Nat)(f:Q2x):PyData:=.tuple<|(List.range n).map λa=>yq n<|f a
def Wr(n s:Nat)(st:Q3x):PyData:=.tuple<|(List.range s).map λg=>yG n<|st g
def zt(n s:Nat)(fi:Q1x)(st:Q3x)(la:Q1x):PyData:=.tuple [yq n fi,Wr n s st,yq n la]
noncomputable def zO(ws:LNt):PyData:=.tuple<|ws.map λ(g:Nat)=>PyData.int (g:Int)
section
def get_map{d:Nat->PyData}(h:i<n):((List.range n).map d)[i]?=some (d i):=by
 rw[qp,ku h];rfl
end
structure bT(m B:Nat)(q:Rat):Prop where
 pos:0<m
 ex:∃x:Int,q*(m:Rat)=(x:Rat)/\x.natAbs<=B
def y0(h:0<m):(m:Rat)≠0:=by
 intro z
 have:(m:Rat)=((0:Nat):Rat):=by rw[z];rfl
 have:=Rat.natCast_inj.mp this;omega
def bT.eq(h:bT m B q):∃x:Int,q=Rat.divInt x (m:Int)/\x.natAbs<=B:=by
 obtain⟨x,e,hx⟩:=h.ex;refine⟨x,?_,hx⟩;have hm:=y0 h.pos;rw[mL];have e2:((m:Int):Rat)=(m:Rat):=kq m
 rw[e2];grind
def bT.num(h:bT m B q):q.num.natAbs<=B:=by
 obtain⟨x,rfl,hx⟩:=h.eq;exact qr (HM _ _) hx
def bT.den(h:bT m B q):q.den ∣ m:=by
 obtain⟨x,rfl,hx⟩:=h.eq;have hp:=h.pos;rw[Rat.den_divInt,qm<|by omega];have h1:Int.gcd (m:Int) x ∣ (m:Int).natAbs:=Int.gcd_dvd_natAbs_left _ _
 exact Nat.div_dvd_of_dvd h1
def bT.bq(h:bT m B q)(hm:Sz m)(hB:Sz B):Bq 4000 q:=⟨hB.bits h.num,hm.bits<|k6 h.pos h.den⟩
def bT.zero(h:0<m):bT m B 0:=⟨h,0,by grind,kx _⟩
def bT.add{C:Nat}{r:Rat}(h:bT m B q)(k:bT m C r):bT m (B+C) (q+r):=by
 obtain⟨x,e,hx⟩:=h.ex;obtain⟨y,f,hy⟩:=k.ex;refine⟨h.pos,x+y,?_,by omega⟩;rw[Rat.intCast_add];grind
def bT.mul{C:Nat}{r:Rat}(h:bT m B q)(k:bT n C r):bT (m*n) (B*C) (q*r):=by
 obtain⟨x,e,hx⟩:=h.ex;obtain⟨y,f,hy⟩:=k.ex;refine⟨qU h.pos k.pos,x*y,?_,?_⟩
 ·rw[kG,mG];grind
 ·rw[kE];exact kY hx hy
def bT.mono{C:Nat}(h:bT m B q)(k:B<=C):bT m C q:=by
 obtain⟨x,e,hx⟩:=h.ex;exact⟨h.pos,x,e,qr hx k⟩
def bT.up(h:bT m B q){c:Nat}(hc:0<c):bT (m*c) (B*c) q:=by
 obtain⟨x,e,hx⟩:=h.ex;refine⟨qU h.pos hc,x*c,?_,?_⟩
 ·rw[kG,mG,kq];grind
 ·rw[kE];exact kY hx (mP<|by simp)
noncomputable def sumTo:Nat->(Nat->Rat)->Rat
 |0,_=>0
 |n+1,f=>sumTo n f+f n
theorem xH{m B:Nat}{f:Q1x}(hm:0<m):∀n,(∀i,i<n->bT m B (f i))->bT m (n*B) (sumTo n f)
 |0,_=>bT.zero hm
 |n+1,h=>by
  have:=(xH hm n λi hi=>h i<|by omega).add (h n<|by omega);rw[h9];exact this
theorem zb{f g:Q1x}:∀n,(∀i,i<n->f i=g i)->sumTo n f=sumTo n g
 |0,_=>rfl
 |n+1,h=>by
  show sumTo n f+f n=sumTo n g+g n
  rw[zb n λi hi=>h i (by omega),h n<|by omega]
theorem zC(c:Rat)(f:Q1x):∀n,sumTo n (λi=>f i*c)=sumTo n f*c
 |0=>by
  show(0:Rat)=0*c
  grind
 |n+1=>by
  show sumTo n (λi=>f i*c)+f n*c=(sumTo n f+f n)*c
  rw[zC c f n];grind
theorem J3(f g:Q1x):∀n,sumTo n (λi=>f i+g i)=sumTo n f+sumTo n g
 |0=>by
  show(0:Rat)=0+0
  grind
 |n+1=>by
  show sumTo n (λi=>f i+g i)+(f n+g n)=(sumTo n f+f n)+(sumTo n g+g n)
  rw[J3 f g n];grind
def led(n:Nat)(r:Q1x)(M:Q2x):Nat->Rat:=λb=>sumTo n λa=>r a*M a b
noncomputable def zE(n:Nat)(st:Q3x):(Nat->Rat)->List Nat->Nat->Rat
 |r,[]=>r
 |r,g::w=>zE n st (led n r<|st g) w
def wt(n:Nat)(st:Q3x)(fi la:Q1x)(w:LNt):Rat:=sumTo n λa=>zE n st fi w a*la a
theorem jR(n:Nat)(st:Q3x):∀(r:Q1x)(u w:LNt),zE n st r (u++w)=zE n st (zE n st r u) w
 |_,[],_=>rfl
 |r,g::u,w=>jR n st (led n r<|st g) u w
noncomputable def xx(qs:List Rat):Nat:=qs.foldl (λb q=>Nat.lcm b q.den) 1
def Qp(qs:List Rat)(q:Rat):xx (qs++[q])=Nat.lcm (xx qs) q.den:=by
 unfold xx;rw[List.foldl_append];rfl
def Vm(qs:List Rat):0<xx qs:=by
 unfold xx;generalize hb:(1:Nat)=b;have hp:0<b:=by omega
 clear hb;induction qs generalizing b with
 |nil=>exact hp
 |cons q r ih=>exact ih _<|Nat.lcm_pos hp q.den_pos
def Vv(qs:List Rat)(h:∀q∈qs,q.den ∣ M):xx qs ∣ M:=by
 unfold xx;generalize hb:(1:Nat)=b;have hp:b ∣ M:=by rw[<-hb];exact Nat.one_dvd _
 clear hb;induction qs generalizing b with
 |nil=>exact hp
 |cons q r ih=>exact ih (λx hx=>h x<|qA _ hx) _<|Nat.lcm_dvd hp<|h q qZ
def Qq(qs:List Rat):∀b:Nat,b ∣ qs.foldl (λb q=>Nat.lcm b q.den) b:=by
 induction qs with
 |nil=>intro b;exact Nat.dvd_refl _
 |cons q r ih=>intro b;exact Nat.dvd_trans (Nat.dvd_lcm_left _ _)<|ih _
def Vy(qs:List Rat):∀q∈qs,q.den ∣ xx qs:=by
 unfold xx;generalize (1:Nat)=b;induction qs generalizing b with
 |nil=>intro q h;cases h
 |cons x r ih=>
  intro q h;rcases qy.mp h with rfl|h
  ·exact Nat.dvd_trans (Nat.dvd_lcm_right _ _)<|Qq r _
  ·exact ih _ q h
def Qr(b d:Nat):(b:Int)*((d:Int).fdiv (Int.gcd (b:Int) (d:Int):Int))=((Nat.lcm b d:Nat):Int):=by
 have e1:Int.gcd (b:Int) (d:Int)=Nat.gcd b d:=rfl;rw[e1,bc _<|by omega];have e2:(d:Int) / ((Nat.gcd b d:Nat):Int)=((d / Nat.gcd b d:Nat):Int):=rfl
 rw[e2];have e3:b*(d / Nat.gcd b d)=Nat.lcm b d:=by
  rw[Nat.lcm,Nat.mul_div_assoc _<|Nat.gcd_dvd_right b d]
 rw[<-e3];rfl
noncomputable def x8(q:Rat)(B:Nat):Int:=q.num*((B / q.den:Nat):Int)
def j9(h:q.den ∣ B):(x8 q B:Rat)=q*(B:Rat):=by
 obtain⟨c,rfl⟩:=h;unfold x8;rw[Nat.mul_div_cancel_left _ q.den_pos];have e:=mH q;rw[mL,kq] at e;have hd:=y0 q.den_pos
 rw[kG,mG,kq];have e2:(q.num:Rat)=q*(q.den:Rat):=by
  generalize (q.num:Rat)=x at e;grind
 rw[e2];grind
def Qs(q:Rat)(B:Nat):q.num*((B:Int).fdiv (q.den:Int))=x8 q B:=by
 unfold x8;rw[bc _<|by omega];rfl
noncomputable def yz:Nat->(Nat->Int)->Int
 |0,_=>0
 |n+1,f=>yz n f+f n
theorem VW(f:Z1x):∀n,((List.range n).map f).sum=yz n f
 |0=>rfl
 |n+1=>by
  rw[gM,q9,List.sum_append,VW f n];simp[yz]
theorem JV(f:Z1x):∀n,((yz n f:Int):Rat)=sumTo n λi=>(f i:Rat)
 |0=>rfl
 |n+1=>by
  show((yz n f+f n:Int):Rat)=sumTo n (λi=>(f i:Rat))+(f n:Rat)
  rw[Rat.intCast_add,JV f n]
theorem JC{f:Z1x}{B:Nat}:∀n,(∀i,i<n->(f i).natAbs<=B)->(yz n f).natAbs<=n*B
 |0,_=>by simp[yz]
 |n+1,h=>by
  have h1:=JC n λi hi=>h i (by omega)
  have h2:=h n (by omega);show(yz n f+f n).natAbs<=_
  rw[h9];omega
end WD
namespace L2.Fu
open PySem WS WD
open PySem.Builtin.Int (intBits)
def WC(c:Ro->Option Bool)(b:bW)(n:Nat)(ρ:Ro):wL c b (n+1) ρ=(c ρ).bind λt=>if t then (match b ρ with |some (.nx ρ')=>wL c b n ρ'|r=>r) else some (.nx ρ):=rfl
def HP{c:Ro->Option Bool}{b:bW}(h1:c ρ=some true)(h2:b ρ=some (.nx ρ')):wL c b (n+1) ρ=wL c b n ρ':=by
 rw[WC,h1,qq,qj rfl,h2]
def Zf{c:Ro->Option Bool}{b:bW}(h1:c ρ=some false):wL c b (n+1) ρ=some (.nx ρ):=by
 rw[WC,h1,qq,qm qR]
def zw{f g:bW}(h:f ρ=some (.nx ρ')):sq f g ρ=g ρ':=by
 unfold sq;rw[h]
def rS{f g:bW}(h:f ρ=some (.rt d)):sq f g ρ=some (.rt d):=by
 unfold sq;rw[h]
def Qt{f g:bW}{d:LPd}(h:f ρ=some (.rl d)):sq f g ρ=some (.rl d):=by
 unfold sq;rw[h]
def HQ(i j:Int):PyData.eqv (.int i) (.int j)=decide (i=j):=by
 simp[PyData.eqv]
 by_cases h:i=j<;>simp[h]
def ji{i j:Int}(h:j≠0):xB (.int i) (.int j)=some (.int<|i.fmod j):=by
 show(if j≠0 then _ else _)=_
 rw[qj h]
def jr{i j:Int}(h:j≠0)(h2:j.natAbs.log2<9000):yJ (.int i) (.int j)=some (.int<|i.fdiv j):=by
 show(if j≠0/\j.natAbs.log2<9000 then _ else _)=_
 rw[qj ⟨h,h2⟩]
def yY{i j:Int}(h:IntMulOk i j):yD (.int i) (.int j)=some (.int<|i*j):=by
 show(open Classical in if IntMulOk i j then _ else _)=_
 rw[qj h]
def jW(i j:Int):cM (.int i) (.int j)=some (.bool<|!decide (i=j)):=by
 show(if SeqAt.shaped (.int i)=true/\SeqAt.shaped (.int j)=true then _ else _)=_
 rw[qj ⟨rfl,rfl⟩,HQ]
def Jq(i j:Int):dA (.int i) (.int j)=some (.bool<|decide (i=j)):=by
 show(if SeqAt.shaped (.int i)=true/\SeqAt.shaped (.int j)=true then _ else _)=_
 rw[qj ⟨rfl,rfl⟩,HQ]
def zB{b:Bool}(h:f ρ=some (.bool b)):zy f ρ=some b:=by
 unfold zy;rw[h]
def ue{c:Ro->Option Bool}{f g:bW}(h:c ρ=some true):cD c f g ρ=f ρ:=by
 unfold cD;rw[h];rfl
def xb{c:Ro->Option Bool}{f g:bW}(h:c ρ=some false):cD c f g ρ=g ρ:=by
 unfold cD;rw[h];rfl
def zI(h:f ρ=some d):zW i f ρ=some (.nx<|ρ.set i<|.pu d):=by
 unfold zW;rw[h];rfl
def yK{f:bY}{d:LPd}(h:f ρ=some d):x6 i f ρ=some (.nx<|ρ.set i<|.ow d):=by
 unfold x6;rw[h];rfl
def zG(h:f ρ=some d):retS f ρ=some (.rt d):=by
 unfold retS;rw[h];rfl
def vw{f:bY}{d:LPd}(h:f ρ=some d):Ui f ρ=some (.rl d):=by
 unfold Ui;rw[h];rfl
def Qu(h:f ρ=some d):Bz f ρ=some (.nx ρ):=by
 unfold Bz;rw[h];rfl
def zg{h:PyData->PyData->Option PyData}{x y:PdX}(h1:f ρ=some x)(h2:g ρ=some y):bM h f g ρ=h x y:=by
 unfold bM;rw[h1,h2];rfl
def HR{h:PyData->Option PyData}{x:PdX}(h1:f ρ=some x):dI h f ρ=h x:=by
 unfold dI;rw[h1];rfl
def zm{g:bY}{x:PdX}{xs:LPd}(h1:f ρ=some x)(h2:g ρ=some xs):aC f g ρ=some (x::xs):=by
 unfold aC;rw[h1,h2];rfl
def ze{h:ck}{g:bY}{xs:LPd}(h1:g ρ=some xs):zi h g ρ=h xs:=by
 unfold zi;rw[h1];rfl
def xc{h:eM}{g:bY}{xs:LPd}(h1:g ρ=some xs):xf h g ρ=h xs:=by
 unfold xf;rw[h1];rfl
def j3{g:bY}{xs:LPd}(h1:g ρ=some xs)(h2:xs.length<=16777216):xm g ρ=some (.tuple xs):=by
 unfold xm;rw[h1,qq,qj h2]
def t9{x y:PdX}(h1:f ρ=some x)(h2:g ρ=some y):xm (aC f<|aC g a0) ρ=some (.tuple [x,y]):=j3 (zm h1<|zm h2 rfl) (show 2<=16777216 by decide)
def U2{h:RPx}{x y z:PdX}(h1:f ρ=some x)(h2:g ρ=some y)(h3:h ρ=some z):xm (aC f<|aC g<|aC h a0) ρ=some (.tuple [x,y,z]):=j3 (zm h1<|zm h2<|zm h3 rfl) (show 3<=16777216 by decide)
def zM{b:bW}(hm:ds.length=m)(h:b (ds.map Sl.pu++List.replicate (n - m) .no)=some (.rt d)):cw n m b ds=some d:=by
 unfold cw;rw[qj hm,h]
def Qv{b:bW}(hm:ds.length=m)(h:b (ds.map Sl.pu++List.replicate (n - m) .no)=some (.nx ρ)):cw n m b ds=some .none:=by
 unfold cw;rw[qj hm,h]
def um{b:bW}{d:LPd}(hm:ds.length=m)(h:b (ds.map Sl.pu++List.replicate (n - m) .no)=some (.rl d)):fG n m b ds=some d:=by
 unfold fG;rw[qj hm,h]
theorem HS:∀(n:Nat)(a b:Int)(o:Sl),b.natAbs<n->∃g o',wL (zy<|bM cM ag<|cst<|.int 0) (sq (zW 2<|bM xB af<|gv 1)<|sq (zW 0<|gv 1)<|zW 1<|gv 2) n [.pu<|.int a,.pu<|.int b,o]=some (.nx [.pu<|.int g,.pu<|.int 0,o'])/\g.natAbs=Int.gcd a b
 |0,_,_,_,h=>by omega
 |n+1,a,b,o,h=>by
  by_cases hb:b=0
  ·subst hb;refine⟨a,o,?_,by rw[Int.gcd_zero_right]⟩;exact Zf (zB<|(zg rfl rfl).trans<|by rw[jW];rfl)
  ·obtain⟨g,o',e1,e2⟩:=HS n b (a.fmod b) (.pu<|.int<|a.fmod b) (by have:=HK (a:=a) hb;omega);refine⟨g,o',?_,by rw[e2];exact HJ a b⟩;rw[<-e1];refine HP (zB<|(zg rfl rfl).trans<|by rw[jW,qN hb];rfl) ?_;rw[zw<|zI<|(zg rfl rfl).trans<|ji hb];rfl
def ve(a b:Int):yW [.int a,.int b]=some (.int<|Int.gcd a b):=by
 obtain⟨g,o',e1,e2⟩:=HS (b.natAbs+1) a b .no (by omega);refine zM rfl ?_;refine(zw e1).trans<|zG ?_;show some (PyData.int<|if g<0 then -g else g)=_
 rw[<-e2];congr 2;split<;>omega
def DN{t b:Int}(hb:b≠0)(hx:intBits b<=8999):(Int.gcd t b:Int).natAbs.log2<9000/\(-(Int.gcd t b:Int)).natAbs.log2<9000:=by
 have hg:=v7 (t:=t) hb;have h:=Wz (by omega)<|Qn (t:=t) hb hx
 rw[nE];omega
def Wg{t b:Int}(hb:b≠0)(hx:intBits b<=8999):uT [.int t,.int b]=some (fr<|Rat.divInt t b):=by
 have hg:=v7 (t:=t) hb;obtain⟨l1,l2⟩:=DN (t:=t) hb hx;refine zM rfl ?_;refine(zw<|zI<|(ze rfl).trans<|ve t b).trans ?_;by_cases h:b<0
 ·refine(zw (ρ':=[.pu<|.int t,.pu<|.int b,.pu<|.int<|-(Int.gcd t b:Int)]) ?_).trans ?_
  ·rw[ue<|zB<|show _=some (PyData.bool true) from qM some<|qM PyData.bool<|qG h];rfl
  ·refine zG (t9 ((zg rfl rfl).trans<|jr (by omega) l2)<|(zg rfl rfl).trans<|jr (by omega) l2) |>.trans ?_;have hc:-(Int.gcd t b:Int)=(if b<0 then -(Int.gcd t b:Int) else (Int.gcd t b:Int)):=by rw[qj h]
   rw[DL hb hc,DM hb hc];rfl
 ·refine(zw (ρ':=[.pu<|.int t,.pu<|.int b,.pu<|.int (Int.gcd t b:Int)]) ?_).trans ?_
  ·rw[xb<|zB<|show _=some (PyData.bool false) from qM some<|qM PyData.bool<|qN h];rfl
  ·refine zG (t9 ((zg rfl rfl).trans<|jr (by omega) l1)<|(zg rfl rfl).trans<|jr (by omega) l1) |>.trans ?_;have hc:(Int.gcd t b:Int)=(if b<0 then -(Int.gcd t b:Int) else (Int.gcd t b:Int)):=by rw[qm h]
   rw[DL hb hc,DM hb hc];rfl
theorem HU:∀(n:Nat)(t b0 a b:Int)(o:Sl),0<=a->0<=b->b.natAbs<n->∃g o',wL (zy<|bM fW aO<|cst<|.int 0) (sq (zW 4<|bM xB am<|gv 3)<|sq (zW 2<|gv 3)<|zW 3<|gv 4) n [.pu<|.int t,.pu<|.int b0,.pu<|.int a,.pu<|.int b,o]=some (.nx [.pu<|.int t,.pu<|.int b0,.pu<|.int g,.pu<|.int 0,o'])/\g=(Int.gcd a b:Int)
 |0,_,_,_,_,_,_,_,h=>by omega
 |n+1,t,b0,a,b,o,ha,fH,h=>by
  by_cases hb:b=0
  ·subst hb;refine⟨a,o,?_,by rw[Int.gcd_zero_right];omega⟩;exact Zf<|zB<|show _=some (PyData.bool false) from rfl
  ·obtain⟨g,o',e1,e2⟩:=HU n t b0 b (a.fmod b) (.pu<|.int<|a.fmod b) fH (mR a<|by omega) (by have:=HK (a:=a) hb;omega);refine⟨g,o',?_,by rw[e2,HJ a b]⟩;rw[<-e1];refine HP (zB<|show _=some (PyData.bool true) from qM some<|qM PyData.bool<|qG<|show(0:Int)<b by omega) ?_;rw[zw<|zI<|(zg rfl rfl).trans<|ji hb];rfl
def vo{t b:Int}(hb:0<b)(hx:intBits b<=8999):wa [.int t,.int b]=some (fr<|Rat.divInt t b):=by
 have fH:b≠0:=by omega
 obtain⟨l1,l2⟩:=DN (t:=t) fH hx;have hg:=v7 (t:=t) fH;have ea:(Int.gcd (if t<0 then -t else t) b:Int)=(Int.gcd t b:Int):=by
  split
  ·rw[Int.neg_gcd]
  ·rfl
 obtain⟨g,o',e1,e2⟩:=HU (b.natAbs+1) t b (if t<0 then -t else t) b .no (by split<;>omega) (by omega) (by omega);rw[ea] at e2;subst e2;refine zM rfl ?_;refine(zw (ρ':=[.pu<|.int t,.pu<|.int b,.pu<|.int<|if t<0 then -t else t,.no,.no]) rfl).trans<|(zw (ρ':=[.pu<|.int t,.pu<|.int b,.pu<|.int<|if t<0 then -t else t,.pu<|.int b,.no]) rfl).trans<|(zw e1).trans ?_;refine zG (t9 ((zg rfl rfl).trans<|jr (by omega) l1)<|(zg rfl rfl).trans<|jr (by omega) l1) |>.trans ?_;have hc:(Int.gcd t b:Int)=(if b<0 then -(Int.gcd t b:Int) else (Int.gcd t b:Int)):=by rw[qm<|by omega]
 rw[DL fH hc,DM fH hc];rfl
def eX(q:Rat):bS (fr q) (.int 0)=some (.int q.num):=rfl
def dX(q:Rat):bS (fr q) (.int 1)=some (.int (q.den:Int)):=rfl
def vJ(q r:Rat):0<(q.den:Int)*(r.den:Int):=Int.mul_pos (Vf q)<|Vf r
def DO{r:Rat}(hq:Bq 4000 q)(hr:Bq 4000 r):intBits ((q.den:Int)*(r.den:Int))<=8999:=qr (mZ hq.d hr.d) (by decide)
def WQ{r:Rat}(hq:Bq 4000 q)(hr:Bq 4000 r):xK [fr q,fr r]=some (fr<|q+r):=by
 obtain⟨m1,m2,m3,m4,m5⟩:=Zv hq hr;refine zM rfl<|zG ?_;have e1:bM yD aa ai [.pu<|fr q,.pu<|fr r]=some (.int<|q.num*(r.den:Int)):=(zg (eX q)<|dX r).trans<|yY m1;have e2:bM yD au ac [.pu<|fr q,.pu<|fr r]=some (.int<|r.num*(q.den:Int)):=(zg (eX r)<|dX q).trans<|yY m2
 have e3:bM yD ac ai [.pu<|fr q,.pu<|fr r]=some (.int<|(q.den:Int)*(r.den:Int)):=(zg (dX q)<|dX r).trans<|yY m3;refine(ze<|zm ((zg e1 e2).trans rfl)<|zm e3 rfl).trans ?_;rw[vo (vJ q r)<|DO hq hr,HL]
def Vd{r:Rat}(hq:Bq 4000 q)(hr:Bq 4000 r):yE [fr q,fr r]=some (fr<|q*r):=by
 obtain⟨m1,m2,m3,m4,m5⟩:=Zv hq hr;refine zM rfl<|zG ?_;have e1:bM yD aa au [.pu<|fr q,.pu<|fr r]=some (.int<|q.num*r.num):=(zg (eX q)<|eX r).trans<|yY m4;have e3:bM yD ac ai [.pu<|fr q,.pu<|fr r]=some (.int<|(q.den:Int)*(r.den:Int)):=(zg (dX q)<|dX r).trans<|yY m3
 refine(ze<|zm e1<|zm e3 rfl).trans ?_;rw[vo (vJ q r)<|DO hq hr,Vu]
def Qw{r:Rat}(hq:Bq 4000 q)(hr:Bq 4000 r):DK [fr q,fr r]=some (fr<|q*r):=by
 obtain⟨m1,m2,m3,m4,m5⟩:=Zv hq hr;refine zM rfl<|zG ?_;have e1:bM yD aa au [.pu<|fr q,.pu<|fr r]=some (.int<|q.num*r.num):=(zg (eX q)<|eX r).trans<|yY m4;have e3:bM yD ac ai [.pu<|fr q,.pu<|fr r]=some (.int<|(q.den:Int)*(r.den:Int)):=(zg (dX q)<|dX r).trans<|yY m3
 refine(ze<|zm e1<|zm e3 rfl).trans ?_;rw[Wg (Int.ne_of_gt<|vJ q r)<|DO hq hr,Vu]
def Sk(k:Nat)(q:Rat):Prop:=bT (6 ^ k) (2 ^ (8*k)) q
def zV(k:Nat):0<6 ^ k:=nI (by decide)
def Sk.mono{l:Nat}(h:Sk k q)(hl:k<=l):Sk l q:=by
 obtain⟨d,rfl⟩:=bz hl;have h1:=bT.up h (c:=6 ^ d)<|zV d;unfold Sk;rw[hZ];refine h1.mono ?_;have e:2 ^ (8*(k+d))=2 ^ (8*k)*256 ^ d:=by
  rw[pQ,hZ,Nat.pow_mul 2 8 d]
 rw[e];exact kW _<|nr (by decide) d
def Sk.mul{l:Nat}{r:Rat}(h:Sk k q)(h':Sk l r):Sk (k+l) (q*r):=by
 have:=bT.mul h h';unfold Sk;rw[hZ,pQ,hZ];exact this
def Sk.add{r:Rat}(h:Sk k q)(h':Sk k r):Sk (k+1) (q+r):=by
 have h2:=bT.up (bT.add h h') (c:=6) (by decide);unfold Sk;rw[Nat.pow_succ];refine h2.mono ?_;have e:2 ^ (8*(k+1))=2 ^ (8*k)*256:=by rw[pQ,hZ]
 rw[e];omega
def Sk.bq(h:Sk k q)(hk:k<=400):Bq 4000 q:=by
 refine bT.bq h ?_ (Sz.wG<|by omega);refine Sz.mono (n:=2 ^ (3*k)) ?_ (Sz.wG<|by omega);rw[Nat.pow_mul];exact nr (by decide) k
theorem HV{bd:PyData->Ro->Option Ro}{b:bW}:∀{ds:LPd} {ρ0:Ro} (P:Nat->Ro->Prop),P 0 ρ0->
  (∀i d ρ,ds[i]?=some d->P i ρ->∃bX ρ2,bd d ρ=some bX/\b bX=some (.nx ρ2)/\P (i+1) ρ2)->∃ρ',ZR bd b ds ρ0=some (.nx ρ')/\P ds.length ρ'
 |[],ρ0,P,h0,_=>⟨ρ0,rfl,h0⟩
 |d::r,ρ0,P,h0,h=>by
  obtain⟨bX,ρ2,e1,e2,p⟩:=h 0 d ρ0 rfl h0;obtain⟨ρ',e3,p'⟩:=HV (ds:=r) (ρ0:=ρ2) (λi=>P<|i+1) p λi d ρ e q=>h (i+1) d ρ (by simpa using e) q
  refine⟨ρ',?_,p'⟩;show((bd d ρ0).bind λbX=>match b bX with |some (.nx ρ')=>ZR bd b r ρ'|r=>r)=_
  rw[e1,qq,e2];exact e3
def vm{it:bY}{bd:PyData->Ro->Option Ro}{b:bW}(P:Nat->Ro->Prop)(hi:it ρ0=some ds)(h0:P 0 ρ0)(h:∀i d ρ,ds[i]?=some d->P i ρ->∃bX ρ2,bd d ρ=some bX/\b bX=some (.nx ρ2)/\P (i+1) ρ2):∃ρ',je it bd b ρ0=some (.nx ρ')/\P ds.length ρ':=by
 obtain⟨ρ',e,p⟩:=HV P h0 h;refine⟨ρ',?_,p⟩;unfold je;rw[hi];exact e
def Vk{g:bY}(h:g ρ=some [.int n])(hn:n<4611686018427387904):xl g ρ=some (jT 0 n):=by
 unfold xl;rw[h];show(if -(2 ^ 62)<=(n:Int)/\(n:Int)<2 ^ 62 then _ else _)=_
 rw[qj (by constructor<;>omega),ky]
def HW(h:(jT 0 n)[i]?=some d):i<n/\d=.int (i:Int):=by
 obtain⟨h1,h2⟩:=Vx h;rw[Int.zero_add] at h2;exact⟨h1,h2⟩
def JK{g:bY}{bd:PyData->Ro->Option Ro}{b:bW}(P:Nat->Ro->Prop)(hg:g ρ0=some [.int n])(hn:n<4611686018427387904)(h0:P 0 ρ0)(h:∀i ρ,i<n->P i ρ->∃bX ρ2,bd (.int (i:Int)) ρ=some bX/\b bX=some (.nx ρ2)/\P (i+1) ρ2):∃ρ',je (xl g) bd b ρ0=some (.nx ρ')/\P n ρ':=by
 have:=vm P (Vk hg hn) h0 (bd:=bd) (b:=b) λi d ρ e p=>by
  obtain⟨h1,rfl⟩:=HW e;exact h i ρ h1 p
 rwa[Hv] at this
def qd(t:Bool)(n:Nat)(f:Q1x):PyData:=match t with |true=>yq n f|false=>yi n f
def YV(t:Bool)(n:Nat)(f:Q1x):yh [qd t n f]=some (.int n):=by
 cases t
 ·show some (PyData.int ((((List.range n).map λi=>fr<|f i).length:Nat):Int))=_
  simp
 ·show some (PyData.int ((((List.range n).map λi=>fr<|f i).length:Nat):Int))=_
  simp
def JW{d:Nat->PyData}(h:i<n):eI ((List.range n).map d) (i:Int)=some (d i):=VC<|WD.get_map h
def Ul{f:Q1x}(h:i<n):bS (qd t n f) (.int (i:Int))=some (fr<|f i):=by
 cases t<;>exact JW h
def Qx{f:Q2x}(h:i<n):bS (yG n f) (.int (i:Int))=some (yq n<|f i):=JW h
def Zw{f:Q3x}(h:i<s):bS (Wr n s f) (.int (i:Int))=some (yG n<|f i):=JW h
def vB(c:Int)(hm:0<m):∃r:Nat,r<m/\c.fmod (m:Int)=(r:Int):=by
 have h1:=mR c (b:=(m:Int)) (by omega);have h2:=pz c (b:=(m:Int)) (by omega)
 exact⟨(c.fmod (m:Int)).toNat,by omega,by omega⟩
def xh{i:Int}(h:0<j)(h2:j<1073741824):yJ (.int i) (.int (j:Int))=some (.int<|i.fdiv (j:Int)):=by
 refine jr (by omega) ?_;rw[kB];exact pH ((pR<|by omega).mpr<|show j<2 ^ 30 by omega) (by decide)
def Qy(h:j<1073741824):intBits (j:Int)<=30:=yZ (show j<2 ^ 30 by omega)
def Fq(q:Rat):Prop:=bT 6 32 q
def Fq.zero:Fq 0:=bT.zero (by decide)
def Fq.sk(h:Fq q):Sk 1 q:=bT.mono h (by decide)
def Fq.small{t:Int}(ht:t.natAbs<=5)(hb:b=1\/b=2\/b=3\/b=6):Fq (Rat.divInt t (b:Int)):=by
 have key:∀c:Nat,b*c=6->c<=6->0<b->Fq (Rat.divInt t (b:Int)):=λc hc h6 fH=>by
  refine⟨by decide,t*(c:Int),?_,?_⟩
  ·have fg:(b:Rat)≠0:=y0 fH;rw[mL,kG,<-hc,mG,kq,kq]
   have:=k7 (a:=(t:Rat)) fg;rw[<-Rat.mul_assoc,this]
  ·rw[kE,kB];exact qr (kY ht h6) (by decide)
 rcases hb with rfl|rfl|rfl|rfl
 ·exact key 6 rfl (by decide) (by decide)
 ·exact key 3 rfl (by decide) (by decide)
 ·exact key 2 rfl (by decide) (by decide)
 ·exact key 1 rfl (by decide) (by decide)
def JH(c:Int):∃q,xq [.int c]=some (fr q)/\Fq q:=by
 obtain⟨r,hr,er⟩:=vB c (m:=9) (by decide);obtain⟨u,hu,eu⟩:=vB (c.fdiv 9) (m:=5) (by decide);obtain⟨b,hb,eb⟩:∃b:Nat,(b=1\/b=2\/b=3\/b=6)/\eI [PyData.int 1,.int 1,.int 2,.int 1,.int 3] (u:Int)=some (.int (b:Int)):=by
  have:u=0\/u=1\/u=2\/u=3\/u=4:=by omega
  rcases this with rfl|rfl|rfl|rfl|rfl
  ·exact⟨1,.inl rfl,rfl⟩
  ·exact⟨1,.inl rfl,rfl⟩
  ·exact⟨2,.inr<|.inl rfl,rfl⟩
  ·exact⟨1,.inl rfl,rfl⟩
  ·exact⟨3,.inr<|.inr<|.inl rfl,rfl⟩
 refine⟨Rat.divInt ((r:Int) - 4) (b:Int),zM rfl<|zG ?_,Fq.small (by omega) hb⟩;have e1:bM W9 (bM xB af<|cst<|.int 9) (cst<|.int 4) [.pu<|.int c]=some (.int<|(r:Int) - 4):=by
  rw[<-er];exact(zg ((zg rfl rfl).trans<|ji<|by decide) rfl).trans rfl
 have e2:bM xB (bM yJ af<|cst<|.int 9) (cst<|.int 5) [.pu<|.int c]=some (.int (u:Int)):=by
  rw[<-eu];exact(zg ((zg rfl rfl).trans<|xh (j:=9) (by decide)<|by decide) rfl).trans (ji<|by decide)
 refine(ze<|zm e1<|zm ((zg rfl e2).trans eb) rfl).trans ?_;refine vo (by omega) (qr (Qy<|by omega)<|by decide)
def Jz{i:Int}(h:j<18446744073709551616):yD (.int i) (.int (j:Int))=some (.int<|i*(j:Int)):=yY (IntMulOk.of_right<|intBits_le_64 (by omega)<|by omega)
def Qz{j:Int}(h:i<18446744073709551616):yD (.int (i:Int)) (.int j)=some (.int<|(i:Int)*j):=yY (IntMulOk.of_left<|intBits_le_64 (by omega)<|by omega)
def HX(d:Nat->PyData){lo:Nat}(h:lo+m<=N):cut ((List.range N).map d) (some (lo:Int)) (some ((lo+m:Nat):Int))=(List.range m).map λi=>d (lo+i):=by
 unfold cut;rw[HT.zch,HT.zch,qf,qw,nY (show lo<=N by omega),nY h];refine gZ λi=>?_
 rw[List.getElem?_take,List.getElem?_drop,qp,qp];by_cases hi:i<m
 ·rw[qj (by omega),ku (by omega),ku hi];rfl
 ·rw[qm (by omega),kS<|by simpa using kz hi];rfl
def QA(d:Nat->PyData)(h:m<=N):cut ((List.range N).map d) none (some (m:Int))=(List.range m).map d:=by
 unfold cut;rw[HT.zch,HT.ziB,qf,qw,nY h];refine gZ λi=>?_
 rw[List.getElem?_take,List.getElem?_drop,qp,qp];by_cases hi:i<m
 ·rw[qj (by omega),ku (by omega),ku hi,nC]
 ·rw[qm (by omega),kS<|by simpa using kz hi];rfl
def Ux(d:Nat->PyData)(n:Nat):(List.range n).map d++[d n]=(List.range<|n+1).map d:=by
 rw[gM,q9];rfl
def list_range(qs:List Rat):qs.map fr=(List.range qs.length).map λi=>fr (qs.getD i 0):=by
 refine gZ λi=>?_
 rw[qp,qp];by_cases hi:i<qs.length
 ·rw[ku hi,qk hi];simp[hi]
 ·rw[kS (by omega),kS<|by simpa using kz hi];rfl
def Uw(h1:gk i ρ=some ds)(h2:f ρ=some d)(h3:ds.length<16777216):fh i f ρ=some (.nx<|ρ.set i<|.ow<|ds++[d]):=by
 unfold fh;rw[h1,qq,h2,qq,qj h3]
def HY{c:Ro->Option Bool}(h:c ρ=some true):iZ c f g ρ=f ρ:=by
 unfold iZ;rw[h];rfl
def HZ{c:Ro->Option Bool}(h:c ρ=some false):iZ c f g ρ=g ρ:=by
 unfold iZ;rw[h];rfl
def DP{l h:Ro->Option (Option Int)}{lo hi:Option Int}(h1:f ρ=some (.list ds))(h2:l ρ=some lo)(h3:h ρ=some hi):lU f l h ρ=some (cut ds lo hi):=by
 unfold lU;rw[h1];show((l ρ).bind λlo=>(h ρ).bind λhi=>some<|cut ds lo hi)=_
 rw[h2,qq,h3];rfl
def Aa{i:Int}(h:f ρ=some (.int i)):oS f ρ=some (some i):=by
 unfold oS;rw[h]
def zX{f:bY}(h:f ρ=some ds):yt f ρ=some (.list ds):=by
 unfold yt;rw[h];rfl
structure Ab(n s:Nat)(fi:Q1x)(st:Q3x)(la:Q1x)(k:Nat):Prop where
 fi:∀a,a<n->Sk k (fi a)
 st:∀g a b,g<s->a<n->b<n->Sk k (st g a b)
 la:∀a,a<n->Sk k (la a)
structure BD(n s:Nat)(fi:Q1x)(st:Q3x)(la:Q1x):Prop where
 fi:∀a,a<n->Fq (fi a)
 st:∀g a b,g<s->a<n->b<n->Fq (st g a b)
 la:∀a,a<n->Fq (la a)
def Uu(c:Int)(hn:n<=42)(hs:s<=42):∃fi st la,jb [.int c,.int (n:Int),.int (s:Int)]=some (zt n s fi st la)/\BD n s fi st la:=by
 have QB:n*(2+n*s)<=42*(2+42*42):=kY hn<|Nat.add_le_add_left (kY hn hs) 2;have h0:uw ([.int c,.int (n:Int),.int (s:Int)].map Sl.pu++List.replicate (10 - 3) .no)=uw [.pu<|.int c,.pu<|.int (n:Int),.pu<|.int (s:Int),.no,.no,.no,.no,.no,.no,.no]:=rfl
 obtain⟨bX,e1,c1,o1,qs,l1,q1,rfl⟩:=JK (n:=n*(2+n*s)) (g:=aC (bM yD ag<|bM xN aM<|bM yD ag<|gv 2) a0) (bd:=bN 4)
  (b:=sq bD<|fh 3<|iZ (zy<|bM dA aI<|cst<|.int 0) (xm<|aC ak<|aC aj a0)<|zi xq<|aC (bM yJ af<|cst<|.int 33) a0)
  (ρ0:=[.pu<|.int c,.pu<|.int (n:Int),.pu<|.int (s:Int),.ow [],.no,.no,.no,.no,.no,.no])
  (λi ρ=>∃(c':Int)(o:Sl)(qs:List Rat),qs.length=i/\(∀x∈qs,Fq x)/\ρ=[.pu<|.int c',.pu<|.int (n:Int),.pu<|.int (s:Int),.ow<|qs.map fr,o,.no,.no,.no,.no,.no])
  (zm (by
   refine(zg rfl<|(zg rfl<|(zg rfl rfl).trans<|Jz (j:=s)<|by omega).trans rfl).trans<|(Qz (i:=n)<|by omega).trans ?_;simp only [nj,pX];rfl) rfl) (by omega) ⟨c,.no,[],rfl,(λx h=>by cases h),rfl⟩
  λi ρ hi ⟨c',o,qs,l,q,e⟩=>by
   subst e;have e1:zW 0 (bM xB (bM xN aK<|cst<|.int 29)<|cst<|.int 2147483647) [.pu<|.int c',.pu<|.int (n:Int),.pu<|.int (s:Int),.ow<|qs.map fr,.pu<|.int (i:Int),.no,.no,.no,.no,.no]=some (.nx [.pu<|.int<|(c'*48271+29).fmod 2147483647,.pu<|.int (n:Int),.pu<|.int (s:Int),.ow<|qs.map fr,.pu<|.int (i:Int),.no,.no,.no,.no,.no]):=zI ((zg ((zg ((zg rfl rfl).trans<|Jz (j:=48271)<|by omega) rfl).trans rfl) rfl).trans<|ji<|by decide);generalize (c'*48271+29).fmod 2147483647=c2 at e1;obtain⟨x,hx,ex⟩:∃x,Fq x/\iZ (zy<|bM dA aI<|cst<|.int 0) (xm<|aC ak<|aC aj a0) (zi xq<|aC (bM yJ af<|cst<|.int 33) a0) [.pu<|.int c2,.pu<|.int (n:Int),.pu<|.int (s:Int),.ow<|qs.map fr,.pu<|.int (i:Int),.no,.no,.no,.no,.no]=some (fr x):=by
    have et:∀ρ:Ro,gv 0 ρ=some (.int c2)->zy (bM dA aI<|cst<|.int 0) ρ=some (decide ((c2.fdiv 11).fmod 3=0)):=λρ h=>
     zB ((zg ((zg ((zg h rfl).trans<|xh (j:=11) (by decide)<|by decide) rfl).trans<|ji<|by decide) rfl).trans<|Jq _ _)
    by_cases hz:(c2.fdiv 11).fmod 3=0
    ·refine⟨0,Fq.zero,?_⟩;rw[HY<|(et _ rfl).trans<|by rw[qG hz]];rfl
    ·obtain⟨x,ex,hx⟩:=JH<|c2.fdiv 33;refine⟨x,hx,?_⟩;rw[HZ<|(et _ rfl).trans<|by rw[qN hz]];exact(ze<|zm ((zg rfl rfl).trans<|xh (j:=33) (by decide)<|by decide) rfl).trans ex
   refine⟨_,_,rfl,(zw e1).trans (Uw rfl ex<|by rw[qf,l];omega),c2,.pu<|.int (i:Int),qs++[x],by simp[l],λy hy=>?_,by rw[q9];rfl⟩;rcases qu.mp hy with h|h
   ·exact q y h
   ·have:y=x:=by simpa using h
    rw[this];exact hx
 have hQ:∀i,Fq (qs.getD i 0):=λi=>by
  by_cases hi:i<qs.length
  ·have:qs.getD i 0=qs[i]:=by simp[hi]
   rw[this];exact q1 _<|gu hi
  ·have:qs.getD i 0=0:=by simp[kz hi]
   rw[this];exact Fq.zero
 rw[list_range qs,l1] at e1;generalize Ia:(λi=>qs.getD i 0)=Q at e1;have DQ:∀i,Fq (Q i):=λi=>by rw[<-Ia];exact hQ i
 have QC:(List.map (λi=>fr<|qs.getD i 0)<|List.range<|n*(2+n*s))=(List.range<|n*(2+n*s)).map λi=>fr (Q i):=by
  rw[<-Ia]
 rw[QC] at e1;have i6:∀x,x<=s*n->2*n+x*n<=n*(2+n*s):=λx hx=>by
  have:x*n<=s*n*n:=kD n hx;have e:n*(2+n*s)=2*n+s*n*n:=by
   rw[pQ,gG n 2,gG n<|n*s,gG n s]
  omega
 obtain⟨ρ2,e2,o2,o3,o4,o5,rfl⟩:=JK (n:=s) (g:=aC am a0) (bd:=bN 6)
  (b:=sq (x6 7<|vI a0)<|sq av<|fh 5<|zi zZ<|aC (gb 7) a0)
  (ρ0:=[.pu<|.int c1,.pu<|.int (n:Int),.pu<|.int (s:Int),.ow<|(List.range<|n*(2+n*s)).map λi=>fr<|Q i,o1,.ow [],.no,.no,.no,.no])
  (λi ρ=>∃o2 o3 o4 o5,ρ=[.pu<|.int c1,.pu<|.int (n:Int),.pu<|.int (s:Int),.ow<|(List.range<|n*(2+n*s)).map λi=>fr<|Q i,o1,.ow<|(List.range i).map λg=>yG n λa b=>Q<|2*n+(g*n+a)*n+b,o2,o3,o4,o5])
  (zm rfl rfl) (by omega) ⟨.no,.no,.no,.no,rfl⟩
  λg ρ hg ⟨o2,o3,o4,o5,e⟩=>by
   subst e;obtain⟨ρ3,e3,o6,o7,rfl⟩:=JK (n:=n) (g:=aC ag a0) (bd:=bN 8)
    (b:=sq aX<|fh 7<|zi zZ<|aC (yt<|lU (gb 3) (oS<|gv 9)<|oS<|bM xN (gv 9)<|gv 1) a0)
    (ρ0:=[.pu<|.int c1,.pu<|.int (n:Int),.pu<|.int (s:Int),.ow<|(List.range<|n*(2+n*s)).map λi=>fr<|Q i,o1,.ow<|(List.range g).map λg=>yG n λa b=>Q<|2*n+(g*n+a)*n+b,.pu<|.int (g:Int),.ow [],o4,o5])
    (λa ρ=>∃o6 o7,ρ=[.pu<|.int c1,.pu<|.int (n:Int),.pu<|.int (s:Int),.ow<|(List.range<|n*(2+n*s)).map λi=>fr<|Q i,o1,.ow<|(List.range g).map λg=>yG n λa b=>Q<|2*n+(g*n+a)*n+b,.pu<|.int (g:Int),.ow<|(List.range a).map λa=>yq n λb=>Q<|2*n+(g*n+a)*n+b,o6,o7])
    (zm rfl rfl) (by omega) ⟨o4,o5,rfl⟩
    λa ρ ha ⟨o6,o7,e⟩=>by
     subst e;have cC:2*n+(g*n+a)*n+n<=n*(2+n*s):=by
      have h1:g*n+a+1<=s*n:=by
       have h2:(g+1)*n<=s*n:=kD n hg;have h3:(g+1)*n=g*n+n:=h9 _ _
       omega
      have h2:=i6 (g*n+a+1) h1;have h3:(g*n+a+1)*n=(g*n+a)*n+n:=h9 _ _
      omega
     have hgn:g*n+a<18446744073709551616:=by
      have:g*n<=42*42:=kY (by omega) hn;omega
     have e4:bM xN (bM yD aM<|gv 1) (bM yD (bM xN (bM yD (gv 6)<|gv 1)<|gv 8)<|gv 1) [.pu<|.int c1,.pu<|.int (n:Int),.pu<|.int (s:Int),.ow<|(List.range<|n*(2+n*s)).map λi=>fr<|Q i,o1,.ow<|(List.range g).map λg=>yG n λa b=>Q<|2*n+(g*n+a)*n+b,.pu<|.int (g:Int),.ow<|(List.range a).map λa=>yq n λb=>Q<|2*n+(g*n+a)*n+b,.pu<|.int (a:Int),o7]
       =some (.int ((2*n+(g*n+a)*n:Nat):Int)):=by
      have m1:bM yD aM ag [.pu<|.int c1,.pu<|.int (n:Int),.pu<|.int (s:Int),.ow<|(List.range<|n*(2+n*s)).map λi=>fr<|Q i,o1,.ow<|(List.range g).map λg=>yG n λa b=>Q<|2*n+(g*n+a)*n+b,.pu<|.int (g:Int),.ow<|(List.range a).map λa=>yq n λb=>Q<|2*n+(g*n+a)*n+b,.pu<|.int (a:Int),o7]=some (.int ((2*n:Nat):Int)):=by
       refine(zg rfl rfl).trans<|(Jz (j:=n)<|by omega).trans ?_;rw[nj];rfl
      have m2:bM xN (bM yD (gv 6)<|gv 1) (gv 8) [.pu<|.int c1,.pu<|.int (n:Int),.pu<|.int (s:Int),.ow<|(List.range<|n*(2+n*s)).map λi=>fr<|Q i,o1,.ow<|(List.range g).map λg=>yG n λa b=>Q<|2*n+(g*n+a)*n+b,.pu<|.int (g:Int),.ow<|(List.range a).map λa=>yq n λb=>Q<|2*n+(g*n+a)*n+b,.pu<|.int (a:Int),o7]=some (.int ((g*n+a:Nat):Int)):=by
       refine(zg ((zg rfl rfl).trans<|Jz (j:=n)<|by omega) rfl).trans ?_;rw[pX,nj];rfl
      refine(zg m1<|(zg m2 rfl).trans<|Jz (j:=n)<|by omega).trans ?_;rw[<-Int.natCast_mul];show some (PyData.int _)=_
      rw[<-Int.natCast_add]
     refine⟨_,_,rfl,(zw<|zI e4).trans (Uw (d:=yq n λb=>Q<|2*n+(g*n+a)*n+b) rfl ?_<|by rw[qf,qw];omega),.pu<|.int (a:Int),.pu<|.int ((2*n+(g*n+a)*n:Nat):Int),?_⟩
     ·refine(ze<|zm (zX<|DP rfl (Aa rfl)<|Aa (i:=((2*n+(g*n+a)*n+n:Nat):Int)) ?_) rfl).trans ?_
      ·show some (PyData.int<|((2*n+(g*n+a)*n:Nat):Int)+(n:Int))=_
       rw[<-Int.natCast_add]
      ·rw[HX _ cC];rfl
     ·rw[<-Ux];rfl
   refine⟨_,_,rfl,(zw rfl).trans ((zw e3).trans<|Uw (d:=yG n λa b=>Q<|2*n+(g*n+a)*n+b) rfl rfl<|by rw[qf,qw];omega),.pu<|.int (g:Int),.ow<|(List.range n).map λa=>yq n λb=>Q<|2*n+(g*n+a)*n+b,o6,o7,?_⟩
   ·rw[<-Ux];rfl
 refine⟨λa=>Q a,λg a b=>Q<|2*n+(g*n+a)*n+b,λa=>Q<|n+a,zM rfl ?_,⟨λa _=>DQ _,λg a b _ _ _=>DQ _,λa _=>DQ _⟩⟩;rw[h0];refine(zw (ρ':=[.pu<|.int c,.pu<|.int (n:Int),.pu<|.int (s:Int),.ow [],.no,.no,.no,.no,.no,.no]) rfl).trans<|(zw e1).trans<|(zw (ρ':=[.pu<|.int c1,.pu<|.int (n:Int),.pu<|.int (s:Int),.ow<|(List.range<|n*(2+n*s)).map λi=>fr<|Q i,o1,.ow [],.no,.no,.no,.no]) rfl).trans<|(zw e2).trans<|zG ?_;have h2n:2*n<=n*(2+n*s):=by have:=i6 0<|kx _;omega
 refine(U2 (x:=yq n λa=>Q a) (y:=Wr n s λg a b=>Q<|2*n+(g*n+a)*n+b) (z:=yq n λa=>Q<|n+a) ?_ ?_ ?_).trans rfl
 ·refine(ze<|zm (zX<|DP rfl rfl<|Aa rfl) rfl).trans ?_;rw[QA _<|by omega];rfl
 ·rfl
 ·refine(ze<|zm (zX<|DP rfl (Aa rfl)<|Aa (i:=((n+n:Nat):Int)) ?_) rfl).trans ?_
  ·refine(zg rfl rfl).trans<|(Jz (j:=n)<|by omega).trans ?_;rw[show(2:Int)*(n:Int)=((n+n:Nat):Int) by omega]
  ·rw[HX _<|by omega];rfl
theorem JL{α β:Type}{h:α->Option β}{f:α->β}:∀{xs:List α},(∀x∈xs,h x=some (f x))->Jt h xs=some (xs.map f)
 |[],_=>rfl
 |x::r,hf=>by
  show(h x).bind (λy=>(Jt h r).map (y::·))=_
  rw[hf x qZ,qq,JL λy hy=>hf y<|qA _ hy];rfl
theorem uR{α β γ:Type}{h:β->Option γ}{e:α->β}:∀{xs:List α},Jt h (xs.map e)=Jt (λx=>h<|e x) xs
 |[]=>rfl
 |x::r=>by
  show(h<|e x).bind (λy=>(Jt h<|r.map e).map (y::·))=_
  rw[uR];rfl
def zS{T:Nat}{fi:bY}{b:PyData->Ro->Option Ro}{fe:RPx}{α:Type}{xs:List α}{e d:α->PyData}(h1:fi ρ=some (xs.map e))(hl:xs.length<=16777216)(h2:∀x∈xs,(b (e x)<|compEnv T F ρ).bind fe=some (d x)):zQ T F fi b fe ρ=some (xs.map d):=by
 unfold zQ;rw[h1,qq,qj (by rw[qf];exact hl),uR];exact JL h2
def vg{T:Nat}{g:bY}{b:PyData->Ro->Option Ro}{fe:RPx}{d:Nat->PyData}(h1:g ρ=some [.int (n:Int)])(hl:n<=16777216)(h2:∀i,i<n->(b (.int (i:Int))<|compEnv T F ρ).bind fe=some (d i)):zQ T F (xl g) b fe ρ=some ((List.range n).map d):=by
 refine zS (xs:=List.range n) (e:=λi:Nat=>PyData.int<|0+(i:Int)) (Vk h1<|by omega) (by simpa using hl) λi hi=>?_
 rw[Int.zero_add];exact h2 i<|qx.mp hi
def vL(h:g ρ=some (.tuple ds)):yc g ρ=some ds:=by
 unfold yc;rw[h]
def xV(h:g ρ=some (.list ds)):yc g ρ=some ds:=by
 unfold yc;rw[h]
def QD(c:Int)(hs:0<s)(hm:m<=1000)(dS:s<=1000):∃ws:List Nat,UD [.int c,.int (s:Int),.int (m:Int)]=some (zO ws)/\ws.length<=m/\∀g∈ws,g<s:=by
 obtain⟨r,hr,er⟩:=vB c (m:=m+1) (by omega);obtain⟨bX,e1,c1,o1,ws,l1,q1,rfl⟩:=JK (n:=r) (g:=aC (bM xB af<|bM xN am<|cst<|.int 1) a0) (bd:=bN 4)
  (b:=sq bE<|fh 3<|bM xB (bM yJ af<|cst<|.int 5)<|gv 1)
  (ρ0:=[.pu<|.int c,.pu<|.int (s:Int),.pu<|.int (m:Int),.ow [],.no])
  (λi ρ=>∃(c':Int)(o:Sl)(ws:LNt),ws.length=i/\(∀g∈ws,g<s)/\ρ=[.pu<|.int c',.pu<|.int (s:Int),.pu<|.int (m:Int),.ow<|ws.map λ(g:Nat)=>PyData.int (g:Int),o])
  (zm (by
   refine(zg rfl rfl).trans<|(ji<|show((m:Int)+1)≠0 by omega).trans ?_;rw[<-er];rfl) rfl) (by omega) ⟨c,.no,[],rfl,(λx h=>by cases h),rfl⟩
  λi ρ hi ⟨c',o,ws,l,q,e⟩=>by
   subst e;have e1:zW 0 (bM xB (bM xN aK<|cst<|.int 17)<|cst<|.int 2147483647) [.pu<|.int c',.pu<|.int (s:Int),.pu<|.int (m:Int),.ow<|ws.map λ(g:Nat)=>PyData.int (g:Int),.pu<|.int (i:Int)]=some (.nx [.pu<|.int<|(c'*48271+17).fmod 2147483647,.pu<|.int (s:Int),.pu<|.int (m:Int),.ow<|ws.map λ(g:Nat)=>PyData.int (g:Int),.pu<|.int (i:Int)]):=zI ((zg ((zg ((zg rfl rfl).trans<|Jz (j:=48271)<|by omega) rfl).trans rfl) rfl).trans<|ji<|by decide);generalize (c'*48271+17).fmod 2147483647=c2 at e1;obtain⟨u,hu,eu⟩:=vB (c2.fdiv 5) hs;have e2:bM xB (bM yJ af<|cst<|.int 5) ag [.pu<|.int c2,.pu<|.int (s:Int),.pu<|.int (m:Int),.ow<|ws.map λ(g:Nat)=>PyData.int (g:Int),.pu<|.int (i:Int)]=some (.int (u:Int)):=by
    rw[<-eu];exact(zg ((zg rfl rfl).trans<|xh (j:=5) (by decide)<|by decide) rfl).trans (ji<|by omega)
   refine⟨_,_,rfl,(zw e1).trans (Uw rfl e2<|by rw[qf,l];omega),c2,.pu<|.int (i:Int),ws++[u],by simp[l],λy hy=>?_,by rw[q9];rfl⟩;rcases qu.mp hy with h|h
   ·exact q y h
   ·have:y=u:=by simpa using h
    rw[this];exact hu
 refine⟨ws,zM rfl ?_,by omega,q1⟩;exact(zw (ρ':=[.pu<|.int c,.pu<|.int (s:Int),.pu<|.int (m:Int),.ow [],.no]) rfl).trans<|(zw e1).trans<|zG rfl
def vb:bS (zt n s fi st la) (.int 0)=some (yq n fi):=rfl
def jB:bS (zt n s fi st la) (.int 1)=some (Wr n s st):=rfl
def w8:bS (zt n s fi st la) (.int 2)=some (yq n la):=rfl
def QE{g:Nat}(h:ws[i]?=some g):zE n st fi (ws.take<|i+1)=led n (zE n st fi<|ws.take i) (st g):=by
 rw[gX,h];show zE n st fi (ws.take i++[g])=_
 rw[jR];rfl
def yF{f:Ro->Option Bool}{b:Bool}(h:f ρ=some b):xP f ρ=some (!b):=by
 unfold xP;rw[h];rfl
def vQ{f g:Ro->Option Bool}{b:Bool}(h:f ρ=some false)(h2:g ρ=some b):d6 f g ρ=some b:=by
 unfold d6;rw[h,qq,qm qR];exact h2
def QF(h:f ρ=some (.bool true))(h2:g ρ=some d):rQ f g ρ=some d:=by
 unfold rQ;rw[h];exact h2
def QG(q r:Rat):dA (fr q) (fr r)=some (.bool<|decide (q=r)):=by
 unfold dA;rw[qj ⟨rfl,rfl⟩,HN]
def QH(q r:Rat):cM (fr q) (fr r)=some (.bool<|!decide (q=r)):=by
 unfold cM;rw[qj ⟨rfl,rfl⟩,HN]
def Z3(h:Bq 4000 q):vZ [fr q]=some (.bool true):=by
 refine zM rfl ?_;refine(zw (ρ':=[.pu<|fr q]) ?_).trans<|zG ?_
 ·refine(xb ?_).trans rfl;refine vQ (yF (b:=true) rfl)<|vQ (b:=false) (zB<|(zg rfl rfl).trans<|jW _ _)<|vQ (yF (b:=true)<|zB<|(ze<|zm ((zg rfl rfl).trans<|eX q) rfl).trans rfl)<|yF (b:=true)<|zB<|(ze<|zm ((zg rfl rfl).trans<|dX q) rfl).trans rfl
 ·refine QF ?_ ?_
  ·refine(zg ((zg rfl rfl).trans<|dX q) rfl).trans ?_;exact qM some<|qM PyData.bool<|qG<|Vf q
  ·refine(zg ((ze<|zm ((zg rfl rfl).trans<|eX q)<|zm ((zg rfl rfl).trans<|dX q) rfl).trans<|vo (Vf q)<|qr h.d<|by decide) rfl).trans ?_;rw[QG,mH,qG rfl]
def xO(n:Nat)(d:Nat->PyData):yh [.tuple<|(List.range n).map d]=some (.int (n:Int)):=by
 show some (PyData.int ((((List.range n).map d).length:Nat):Int))=_
 rw[qf,qw]
def jZ{f:Q1x}(h:∀i,i<n->Bq 4000 (f i)):yT [yq n f,.int (n:Int)]=some (.bool true):=by
 obtain⟨bX,e1,o,rfl⟩:=vm (ds:=(List.range n).map λi=>fr<|f i) (it:=yc<|gv 0) (bd:=bN 2) (b:=cD (xP<|zy<|zi vZ<|aC am a0) (retS<|cst<|.bool false) s0)
  (ρ0:=[.pu<|yq n f,.pu<|.int (n:Int),.no]) (λi ρ=>∃o,ρ=[.pu<|yq n f,.pu<|.int (n:Int),o]) rfl ⟨.no,rfl⟩
  λi d ρ hd ⟨o,e⟩=>by
   subst e;rw[qp] at hd;obtain⟨j,hj,rfl⟩:=map_some hd;have QI:j<n:=by
    have:=qI hj;exact qx.mp this
   exact⟨_,_,rfl,(xb<|yF (b:=true)<|zB<|(ze rfl).trans<|Z3<|h j QI).trans rfl,.pu<|fr<|f j,rfl⟩
 refine zM rfl ?_;refine(zw (ρ':=[.pu<|yq n f,.pu<|.int (n:Int),.no]) ?_).trans<|(zw e1).trans<|zG rfl;refine(xb<|vQ (yF (b:=true) rfl)<|zB<|(zg ((ze rfl).trans<|xO n _) rfl).trans<|(jW _ _).trans ?_).trans rfl;rw[qG rfl];rfl
def wV(ns:List Int)(i:Nat):∃c:Int,yo [.list<|ns.map PyData.int,.int (i:Int)]=some (.int c):=by
 by_cases h:i<ns.length
 ·refine⟨ns[i],zM rfl ?_⟩;refine rS<|(ue<|zB<|show _=some (PyData.bool true) from ?_).trans<|zG ?_
  ·refine qM some<|qM PyData.bool<|qG ?_;rw[qf];omega
  ·refine(zg (x:=.list<|ns.map PyData.int) (y:=.int (i:Int)) rfl rfl).trans ?_;show eI (ns.map PyData.int) (i:Int)=_
   refine VC ?_;rw[qp,qk h];rfl
 ·refine⟨0,zM rfl ?_⟩;refine(zw<|(xb<|zB<|show _=some (PyData.bool false) from ?_).trans rfl).trans<|zG rfl;refine qM some<|qM PyData.bool<|qN ?_;rw[qf];omega
def Z9{f:Q1x}{c:Rat}(hn:n<=1000)(h:∀i,i<n->Bq 4000 (f i))(hc:Bq 4000 c):Jd [yq n f,fr c]=some (yq n λi=>f i*c):=by
 refine zM rfl<|zG ?_;refine(ze (xs:=[.list<|(List.range n).map λi=>fr<|f i*c])<|zm (zX<|zS (xs:=List.range n) (e:=λi=>fr<|f i) (d:=λi=>fr<|f i*c) rfl (by simpa using qr hn (by decide)) λi hi=>?_) rfl).trans rfl;exact(ze (g:=aC af<|aC ag a0) (ρ:=[.pu<|fr<|f i,.pu<|fr c]) rfl).trans<|Qw (h i<|qx.mp hi) hc
def QJ{es:LPd}(h1:gk i ρ=some ds)(h2:f ρ=some (.tuple es))(h3:ds.length+es.length<=16777216):t8 i f ρ=some (.nx<|ρ.set i<|.ow<|ds++es):=by
 unfold t8;rw[h1,qq,h2];show(if ds.length+es.length<=16777216 then _ else _)=_
 rw[qj h3]
def QK{it:bY}{bd:PyData->Ro->Option Ro}{b:bW}{d:Nat->PyData}(P:Nat->Ro->Prop)(hi:it ρ0=some ((List.range n).map d))(h0:P 0 ρ0)(h:∀i ρ,i<n->P i ρ->∃bX ρ2,bd (d i) ρ=some bX/\b bX=some (.nx ρ2)/\P (i+1) ρ2):∃ρ',je it bd b ρ0=some (.nx ρ')/\P n ρ':=by
 have:=vm P hi h0 (bd:=bd) (b:=b) λi x ρ e p=>by
  rw[qp] at e;obtain⟨j,hj,rfl⟩:=map_some e;have hi:i<n:=by
   have:=(qg.mp hj).1;simpa using this
  rw[ku hi] at hj;cases hj;exact h i ρ hi p
 rwa[qf,qw] at this
def VO:vN [zt n s fi st la,zt m s gi su lb]=some .none:=by
 refine Qv (ρ:=[.pu<|zt n s fi st la,.pu<|zt m s gi su lb,.pu<|.int (s:Int),.pu<|.int (s:Int)]) rfl ?_;refine(zw<|zI<|(ze<|zm ((zg rfl rfl).trans jB) rfl).trans<|xO s _).trans<|(zw<|zI<|(ze<|zm ((zg rfl rfl).trans jB) rfl).trans<|xO s _).trans ?_;refine(xb<|zB<|(zg rfl rfl).trans<|(jW _ _).trans ?_).trans rfl;rw[qG rfl];rfl
def Ud(d e:Nat->PyData)(n:Nat):Ju ((List.range n).map d) ((List.range n).map e)=(List.range n).map λi=>.tuple [d i,e i]:=by
 unfold Ju;rw[List.zip_map',kb];rfl
def QM{g:bY}{xs ys:LPd}(h:g ρ=some [.tuple xs,.tuple ys]):Ug true true g ρ=some (Ju xs ys):=by
 unfold Ug;rw[h];rfl
theorem jH(f:Q1x)(a:Nat):∀m,sumTo (a+m) f=sumTo a f+sumTo m (λj=>f<|a+j)
 |0=>by show sumTo a f=sumTo a f+0;grind
 |m+1=>by
  show sumTo (a+m) f+f (a+m)=sumTo a f+(sumTo m (λj=>f<|a+j)+f (a+m))
  rw[jH f a m];grind
noncomputable def i7(t:Bool)(xs:LPd):PyData:=match t with |true=>.tuple xs|false=>.list xs
def QN(h:g ρ=some (i7 t ds)):yc g ρ=some ds:=by
 cases t
 ·exact xV h
 ·exact vL h
def vM{qs:List Rat}(hM:0<M)(sM:Sz M)(h:∀q∈qs,q.den ∣ M):yx [i7 t<|qs.map fr]=some (.int (xx qs:Int)):=by
 obtain⟨bX,e1,o,rfl⟩:=vm (ds:=qs.map fr) (it:=yc<|gv 0) (bd:=bN 2)
  (b:=zW 1<|bM yD ag<|bM yJ a9<|zi yW<|aC ag<|aC a9 a0)
  (ρ0:=[.pu<|i7 t<|qs.map fr,.pu<|.int 1,.no]) (λi ρ=>∃o,ρ=[.pu<|i7 t<|qs.map fr,.pu<|.int (xx (qs.take i):Int),o]) (QN rfl) ⟨.no,rfl⟩
  λi d ρ hd ⟨o,e⟩=>by
   subst e;rw[qp] at hd;obtain⟨q,hq,rfl⟩:=map_some hd;have QO:=h q<|qI hq;have hL:xx (qs.take i) ∣ M:=Vv _ λz hz=>h z<|List.mem_of_mem_take hz
   have lZ:=Yx q;have bd:intBits (q.den:Int)<=4000:=sM.bits<|k6 hM QO
   have bL:intBits (xx (qs.take i):Int)<=4000:=sM.bits<|k6 hM hL;obtain⟨l1,_⟩:=DN (t:=(xx (qs.take i):Int)) lZ (qr bd<|by decide);have hg:=v7 (t:=(xx (qs.take i):Int)) lZ
   refine⟨_,_,rfl,zI (d:=.int (xx (qs.take<|i+1):Int)) ?_,.pu<|fr q,rfl⟩;refine(zg rfl<|(zg ((zg rfl rfl).trans<|dX q)<|(ze<|zm rfl<|zm ((zg rfl rfl).trans<|dX q) rfl).trans<|ve _ _).trans<|jr (by omega) l1).trans<|(yY<|jk bL<|intBits_fdiv_le bd).trans ?_;rw[Qr,gX,hq];exact qM (λz:Nat=>some<|PyData.int (z:Int)) (Qp (qs.take i) q).symm
 refine zM rfl ?_;refine(zw (ρ':=[.pu<|i7 t<|qs.map fr,.pu<|.int 1,.no]) rfl).trans<|(zw e1).trans<|zG ?_;rw[qf,gP];rfl
def u3{f:Q1x}(hn:n<=1000)(hB:0<B)(sB:Sz B)(hf:∀i,i<n->(f i).den ∣ B/\intBits (f i).num<=4000):xR [qd t n f,.int (B:Int)]=some ((List.range n).map λi=>.int<|x8 (f i) B):=by
 refine um rfl<|vw ?_;refine zS (xs:=List.range n) (e:=λi=>fr<|f i) ?_ (by simpa using qr hn (by decide)) λi hi=>?_
 ·cases t
  ·exact xV rfl
  ·exact vL rfl
 ·have hi:=qx.mp hi;obtain⟨hd,hb⟩:=hf i hi;have bd:intBits ((f i).den:Int)<=4000:=sB.bits<|k6 hB hd
  have lg:=Wz (Yx<|f i) bd;rw[<-Qs];show bM yD aa (bM yJ ag<|bM bS af<|cst<|.int 1) [.pu<|fr<|f i,.pu<|.int (B:Int)]=_
  exact(zg ((zg rfl rfl).trans<|eX<|f i)<|(zg rfl<|(zg rfl rfl).trans<|dX<|f i).trans<|jr (Yx _)<|by omega).trans<|yY<|jk hb<|intBits_fdiv_le<|show intBits (B:Int)<=4000 from sB
noncomputable def xA(n:Nat)(f:Z1x):List PyData:=(List.range n).map λi=>.int<|f i
def ZG(n:Nat)(f:Z1x):Jt tY (xA n f)=some ((List.range n).map f):=by
 unfold xA;rw[uR];exact JL λ_ _=>rfl
def Ib{g:bY}{xs ys:LPd}(h:g ρ=some [.list xs,.list ys]):Ug false false g ρ=some (Ju xs ys):=by
 unfold Ug;rw[h];rfl
def Ub{x y:PdX}{fe:RPx}:(b2 aq (bN 1) (.tuple [x,y])<|compEnv 2 F ρ).bind fe=fe (.pu x::.pu y::F.map λj=>(ρ[j]?).getD .no):=rfl
def yr{x:PdX}{fe:RPx}:(bN 0 x<|compEnv 1 F ρ).bind fe=fe (.pu x::F.map λj=>(ρ[j]?).getD .no):=rfl
def Ic{f g:Z1x}(ρ:Ro)(h0:ρ=[.pu<|.list<|xA n f,.pu<|.list<|xA n g]):Ug false false (aC af<|aC ag a0) ρ=some ((List.range n).map λi=>.tuple [.int<|f i,.int<|g i]):=by
 subst h0;exact(Ib rfl).trans<|qM some<|Ud _ _ n
def Vh{f g:Z1x}(hn:n<=1000)(h:∀i,i<n->intBits (f i)<=8000/\intBits (g i)<=8000):yp [.list<|xA n f,.list<|xA n g]=some (.int<|yz n λi=>f i*g i):=by
 have hl:(List.range n).length<=16777216:=by rw[qw];omega
 have ec:zQ 2 [] bC aS (bM yD af<|gv 1) [.pu<|.list<|xA n f,.pu<|.list<|xA n g]=some (xA n λi=>f i*g i):=zS (xs:=List.range n) (e:=λi=>.tuple [.int<|f i,.int<|g i]) (d:=λi=>.int<|f i*g i) (Ic _ rfl) hl λi hi=>by
   have hi:=qx.mp hi;exact Ub.trans ((zg rfl rfl).trans<|yY<|jk (h i hi).1 (h i hi).2<|by omega)
 have es:tZ [.list<|xA n λi=>f i*g i]=some (.int<|yz n λi=>f i*g i):=by
  show(Jt tY<|xA n λi=>f i*g i).map (λns=>PyData.int ns.sum)=_
  rw[ZG,gU,VW]
 exact zM rfl<|zG<|(ze<|zm (zX ec) rfl).trans es
def VV{f:Q2x}(hn:n<=1000)(hb:b<n):JF [yG n f,.int (b:Int)]=some (yq n λa=>f a b):=by
 refine zM rfl<|zG ?_;refine(ze (xs:=[.list<|(List.range n).map λa=>fr<|f a b])<|zm (zX<|zS (xs:=List.range n) (e:=λa=>yq n<|f a) rfl (by simpa using qr hn (by decide)) λa ha=>?_) rfl).trans rfl;show bM bS af ag [.pu<|yq n<|f a,.pu<|.int (b:Int)]=_
 exact(zg rfl rfl).trans<|Ul (t:=true) hb
noncomputable def ug(n:Nat)(f:Q2x)(i:Nat):List Rat:=(List.range i).flatMap λa=>(List.range n).map<|f a
def YD(n:Nat)(f:Q2x)(i:Nat):ug n f (i+1)=ug n f i++(List.range n).map (f i):=by
 unfold ug;rw[gM,n8];simp
def QP{f:Q2x}(h:q∈ug n f i):∃a b,a<i/\b<n/\q=f a b:=by
 unfold ug at h;obtain⟨a,ha,h⟩:=pM.mp h;obtain⟨b,hb,e⟩:=qE.mp h;exact⟨a,b,qx.mp ha,qx.mp hb,e.symm⟩
def QQ{f:Q2x}{a:Nat}(ha:a<i)(hb:b<n):f a b∈ug n f i:=by
 unfold ug;exact List.mem_flatMap.mpr ⟨a,qx.mpr ha,qE.mpr ⟨b,qx.mpr hb,rfl⟩⟩
theorem Ie(n:Nat)(f:Q2x):∀i,(ug n f i).length=i*n
 |0=>by simp[ug]
 |i+1=>by
  rw[YD,qz,Ie n f i,h9];simp
def jg(n:Nat)(f:Q2x):Nat:=xx<|ug n f n
def QR(n:Nat)(f:Q2x):PyData:=.tuple [.list<|(List.range n).map λb=>.list<|xA n λa=>x8 (f a b)<|jg n f,.int (jg n f:Int)]
def Vl{f:Q2x}(hn:n<=42)(hM:0<M)(sM:Sz M)(sN:Sz N)(h:∀a b,a<n->b<n->bT M N (f a b)):v5 [yG n f]=some (QR n f)/\0<jg n f/\jg n f ∣ M/\∀a b,a<n->b<n->(f a b).den ∣ jg n f:=by
 have hd:∀q∈ug n f n,q.den ∣ M:=λq hq=>by
  obtain⟨a,b,ha,hb,rfl⟩:=QP hq;exact(h a b ha hb).den
 have hp:0<jg n f:=Vm _;have hv:jg n f ∣ M:=Vv _ hd
 have Ig:∀a b,a<n->b<n->(f a b).den ∣ jg n f:=λa b ha hb=>Vy _ _<|QQ ha hb
 refine⟨?_,hp,hv,Ig⟩;obtain⟨bX,e1,o,rfl⟩:=QK (n:=n) (d:=λa=>yq n<|f a) (it:=yc<|gv 0) (bd:=bN 2) (b:=t8 1<|gv 2) (ρ0:=[.pu<|yG n f,.ow [],.no,.no,.no])
  (λi ρ=>∃o,ρ=[.pu<|yG n f,.ow<|(ug n f i).map fr,o,.no,.no]) rfl ⟨.no,rfl⟩
  λi ρ hi ⟨o,e⟩=>by
   subst e;refine⟨_,_,rfl,QJ (es:=(List.range n).map λb=>fr<|f i b) rfl rfl ?_,.pu<|yq n<|f i,?_⟩
   ·rw[qf,qf,qw,Ie]
    have:i*n<=42*42:=kY (by omega) hn;omega
   ·rw[YD,q9,kb];rfl
 refine zM rfl ?_;refine(zw (ρ':=[.pu<|yG n f,.ow [],.no,.no,.no]) rfl).trans<|(zw e1).trans<|(zw<|zI (d:=.int (jg n f:Int)) ?_).trans<|(zw<|yK (d:=(List.range n).map λb=>.list<|xA n λa=>x8 (f a b)<|jg n f) ?_).trans ?_
 ·show((yx [.list<|(ug n f n).map fr]).bind λr=>if By r=true then some r else none)=_
  rw[show yx [.list<|(ug n f n).map fr]=some (.int (jg n f:Int)) from vM (t:=false) hM sM hd];rfl
 ·refine vg (n:=n) (zm ((ze rfl).trans<|xO n _) rfl) (by omega) λb hb=>?_
  refine zX (ρ:=[.pu<|.int (b:Int),.pu<|yG n f,.pu<|.int (jg n f:Int)])<|(xc<|zm ((ze rfl).trans<|VV (by omega) hb) rfl).trans ?_;exact u3 (t:=true) (by omega) hp (Sz.mono (k6 hM hv) sM) λa ha=>⟨Ig a b ha hb,((h a b ha hb).bq sM sN).n⟩
 ·exact zG<|t9 rfl rfl
def BE{C:Nat}{t:Int}(h:bT M C q)(hB:B ∣ M)(e:(t:Rat)=q*(B:Rat)):t.natAbs<=C:=by
 obtain⟨x,ex,hx⟩:=h.ex;obtain⟨c,rfl⟩:=hB;have hc:0<c:=Nat.pos_of_mul_pos_left h.pos;have e1:(t:Rat)*(c:Rat)=(x:Rat):=by
  rw[e,<-ex,mG];grind
 have e2:t*(c:Int)=x:=by
  have:((t*(c:Int):Int):Rat)=(x:Rat):=by
   rw[kG,kq];exact e1
  exact Rat.intCast_inj.mp this
 have e3:t.natAbs*c=x.natAbs:=by
  rw[<-e2,kE];rfl
 have:t.natAbs<=t.natAbs*c:=nT _ hc;omega
def QS{r:Q1x}{tops:Z1x}{Bt L:Nat}(ht:∀a,a<n->(tops a:Rat)=r a*(Bt:Rat))(hd:∀a,a<n->(la a).den ∣ L):((yz n λa=>tops a*x8 (la a) L:Int):Rat)=sumTo n (λa=>r a*la a)*((Bt*L:Nat):Rat):=by
 rw[JV];have e:sumTo n (λa=>r a*la a)*((Bt*L:Nat):Rat)=sumTo n λa=>r a*la a*((Bt*L:Nat):Rat):=(zC _ _ n).symm
 rw[e];refine zb n λa ha=>?_
 rw[kG,ht a ha,j9<|hd a ha,mG];grind
def QT{t:Int}(hB:0<B)(e:(t:Rat)=q*(B:Rat)):Rat.divInt t (B:Int)=q:=by
 rw[mL,kq,e]
 have:=y0 hB;grind
end L2.Fu
namespace L2.Fu
open PySem WS WD
def Ih{h:ck}{g:bY}{xs:LPd}{r:PdX}(h1:g ρ=some xs)(h2:h xs=some r)(h3:By r=true):WX h g ρ=some r:=by
 unfold WX;rw[h1,qq,h2,qq,qj h3]
def VE{i:Int}(hm:0<m):∃r:Nat,r<m/\xB (.int i) (.int (m:Int))=some (.int (r:Int)):=by
 obtain⟨r,hr,e⟩:=vB i hm;exact⟨r,hr,(ji<|by omega).trans<|by rw[e]⟩
end L2.Fu
namespace L2.Fu
open PySem WS WD
open PySem.Builtin.Int (intBits)
theorem jQ:∀n,sumTo n (λ_=>(0:Rat))=0
 |0=>rfl
 |n+1=>by
  show sumTo n (λ_=>(0:Rat))+0=0
  rw[jQ n];grind
def ZX{f:Q2x}(hn:n<=1000):uA [yG n f]=some (yG n λa b=>f b a):=by
 refine zM rfl<|zG ?_;refine(ze (xs:=[.list<|(List.range n).map λb=>yq n λa=>f a b])<|zm (zX<|vg (n:=n) (zm ((ze rfl).trans<|xO n _) rfl) (by omega) λb hb=>?_) rfl).trans rfl;exact yr.trans<|(ze rfl).trans<|VV hn hb
def VJ(hn:n<=1000)(hs:s<=1000):Jw [zt n s fi st la]=some (zt n s la (λg a b=>st g b a) fi):=by
 refine zM rfl<|zG ?_;refine(U2 ((zg rfl rfl).trans w8) ((ze (xs:=[.list<|(List.range s).map λg=>yG n λa b=>st g b a])<|zm (zX<|zS (xs:=List.range s) (e:=λg=>yG n<|st g) (vL<|(zg rfl rfl).trans jB) (by simpa using qr hs (by decide)) λg hg=>?_) rfl).trans rfl)<|(zg rfl rfl).trans vb).trans rfl;exact yr.trans<|(ze rfl).trans<|ZX hn
noncomputable def jn(n:Nat)(f g:Q1x):Nat->Rat:=λx=>if x<n then f x else g (x - n)
def l6{x:Nat}{f g:Q1x}(h:x<n):jn n f g x=f x:=qj h
def l7{x:Nat}{f g:Q1x}:jn n f g (n+x)=g x:=by
 unfold jn;rw[qm (by omega),show n+x - n=x by omega]
def V7{α:Type}(n m:Nat)(d f g:Nat->α)(h1:∀i,i<n->f i=d i)(h2:∀i,i<m->g i=d (n+i)):(List.range n).map f++(List.range m).map g=(List.range<|n+m).map d:=by
 rw[List.range_add,q9,kb];congr 1
 ·exact kf λi hi=>h1 i<|qx.mp hi
 ·exact kf λi hi=>h2 i<|qx.mp hi
def wZ{f g:Q1x}(h:n+m<=16777216):uY (yq n f) (yq m g)=some (yq (n+m)<|jn n f g):=by
 show(if ((List.range n).map λi=>fr<|f i).length+((List.range m).map λi=>fr<|g i).length<=16777216 then some (PyData.tuple _) else none)=_
 rw[qj<|by rw[qf,qf,qw,qw];exact h];exact qM some (qM PyData.tuple<|V7 n m (λi=>fr<|jn n f g i) _ _ (λi hi=>by rw[l6 hi]) λi hi=>by rw[l7])
theorem VD(d:PdX):∀n,(List.replicate n [d]).flatten=(List.range n).map λ_=>d
 |0=>rfl
 |n+1=>by
  rw[List.replicate_succ',List.flatten_append,VD d n,gM,q9];rfl
def ZT(hn:n<=1000):uM [.int (n:Int)]=some (yq n λ_=>0):=by
 refine zM rfl<|zG ?_;refine(zg (x:=.tuple [fr 0]) (y:=.int (n:Int)) rfl rfl).trans ?_;unfold BC;dsimp only;rw[qj ⟨by simp,by omega,by omega,by simp;omega⟩,ky,VD];rfl
def Za{u:Bool}{M' N':Nat}{f g:Q1x}(hn:n<=42)(hM:0<M)(sM:Sz M)(sN:Sz N)(rV:0<M')(rW:Sz M')(BF:Sz N')(hf:∀i,i<n->bT M N (f i))(hg:∀i,i<n->bT M' N' (g i)):wI [qd t n f,qd u n g]=some (fr<|sumTo n λi=>f i*g i):=by
 have hd:∀(f:Q1x)(M N:Nat),(∀i,i<n->bT M N (f i))->∀q∈(List.range n).map f,q.den ∣ M:=λf M N hf q hq=>by
  obtain⟨a,ha,rfl⟩:=qE.mp hq;exact(hf a<|qx.mp ha).den
 have i8:∀f:Nat->Rat,0<xx ((List.range n).map f):=λf=>Vm _
 have rX:∀(f:Q1x)(M N:Nat),(∀i,i<n->bT M N (f i))->xx ((List.range n).map f) ∣ M:=λf M N hf=>Vv _<|hd f M N hf
 have l8:∀(f:Q1x) a,a<n->(f a).den ∣ xx ((List.range n).map f):=λf a ha=>Vy _ _<|qE.mpr ⟨a,qx.mpr ha,rfl⟩
 have eb:∀(t:Bool)(f:Q1x)(M N:Nat),0<M->Sz M->(∀i,i<n->bT M N (f i))->yx [qd t n f]=some (.int (xx ((List.range n).map f):Int)):=λt f M N hM sM hf=>by
  rw[show qd t n f=i7 t (((List.range n).map f).map fr) by rw[kb];cases t<;>rfl];exact vM hM sM<|hd f M N hf
 have et:∀(t:Bool)(f:Q1x)(M N:Nat),0<M->Sz M->Sz N->(∀i,i<n->bT M N (f i))->xR [qd t n f,.int (xx ((List.range n).map f):Int)]=some (xA n λi=>x8 (f i)<|xx<|(List.range n).map f):=λt f M N hM sM sN hf=>
  u3 (t:=t) (n:=n) (f:=f) (by omega) (i8 f) (Sz.mono (k6 hM<|rX f M N hf) sM) λa ha=>⟨l8 f a ha,((hf a ha).bq sM sN).n⟩
 have bt:∀(f:Q1x)(M N:Nat),Sz N->(∀i,i<n->bT M N (f i))->∀a,a<n->intBits (x8 (f a)<|xx<|(List.range n).map f)<=8000:=λf M N sN hf a ha=>
  qr (sN.bits<|BE (hf a ha) (rX f M N hf)<|j9<|l8 f a ha) (by decide)
 have bB:∀(f:Q1x)(M N:Nat),0<M->Sz M->(∀i,i<n->bT M N (f i))->intBits (xx ((List.range n).map f):Int)<=4000:=λf M N hM sM hf=>sM.bits<|k6 hM<|rX f M N hf
 have es:=Vh (n:=n) (f:=λa=>x8 (f a)<|xx<|(List.range n).map f) (g:=λa=>x8 (g a)<|xx<|(List.range n).map g) (by omega) λa ha=>⟨bt f M N sN hf a ha,bt g M' N' BF hg a ha⟩
 refine zM rfl ?_;refine(zw<|zI<|(ze rfl).trans<|eb t f M N hM sM hf).trans<|(zw<|zI<|(ze rfl).trans<|eb u g M' N' rV rW hg).trans<|(zw<|zI<|(ze<|zm (zX<|(xc rfl).trans<|et t f M N hM sM sN hf)<|zm (zX<|(xc rfl).trans<|et u g M' N' rV rW BF hg) rfl).trans es).trans<|zG ?_;refine(ze<|zm rfl<|zm ((zg rfl rfl).trans<|yY<|jk (bB f M N hM sM hf)<|bB g M' N' rV rW hg) rfl).trans ?_;have p1:=i8 f;have p2:=i8 g
 rw[Wg (nk (by omega)<|by omega)<|qr (mZ (bB f M N hM sM hf)<|bB g M' N' rV rW hg)<|by decide];have e:=QS (r:=f) (la:=g) (tops:=λa=>x8 (f a)<|xx<|(List.range n).map f) (λa ha=>j9<|l8 f a ha)<|l8 g;rw[<-Int.natCast_mul];exact qM some<|qM fr<|QT (qU p1 p2) e
def fz(n:Nat)(f:Q2x)(c:Q2x)(g:Q2x):Nat->Nat->Rat:=λx=>if x<n then jn n (f x) (c x) else jn n (λ_=>0) (g<|x - n)
def QU{g:bY}{xs ys:LPd}(h:g ρ=some [.tuple xs,.list ys]):Ug true false g ρ=some (Ju xs ys):=by
 unfold Ug;rw[h];rfl
def Ii{f g:bY}{x y:LPd}(h1:f ρ=some x)(h2:g ρ=some y)(h3:x.length+y.length<=16777216):tW f g ρ=some (x++y):=by
 unfold tW;rw[h1,qq,h2,qq,qj h3]
def Y2{f c g:Q2x}(hn:n<=42)(hm:m<=42):ux [yG n f,.list<|(List.range n).map λa=>yq m<|c a,yG m g]=some (yG (n+m)<|fz n f c g):=by
 have e1:zQ 2 [] (Ug true false<|aC af<|aC ag a0) aS (bM uY af<|gv 1) [.pu<|yG n f,.pu<|.list<|(List.range n).map λa=>yq m<|c a,.pu<|yG m g,.no,.no]=some ((List.range n).map λa=>yq (n+m)<|jn n (f a)<|c a):=zS (xs:=List.range n) (e:=λa=>.tuple [yq n<|f a,yq m<|c a]) ((QU rfl).trans<|qM some<|Ud _ _ n) (by rw[qw];omega) λa ha=>Ub.trans ((zg rfl rfl).trans<|wZ<|by omega)
 have e2:∀o,zQ 1 [0] (yc<|gv 2) aq (bM uY bF<|gv 0) [.pu<|yG n f,.pu<|.list<|(List.range n).map λa=>yq m<|c a,.pu<|yG m g,o,.no]=some ((List.range m).map λb=>yq (n+m)<|jn n (λ_=>0)<|g b):=λo=>
  zS (xs:=List.range m) (e:=λb=>yq m<|g b) rfl (by rw[qw];omega) λb hb=>yr.trans ((zg ((ze<|zm ((ze rfl).trans<|xO n _) rfl).trans<|ZT<|by omega) rfl).trans<|wZ<|by omega)
 refine zM rfl ?_;refine(zw<|yK e1).trans<|(zw<|yK<|e2 _).trans<|zG ?_;refine(ze<|zm (zX<|Ii rfl rfl<|by rw[qf,qf,qw,qw];omega) rfl).trans ?_;refine qM some<|qM PyData.tuple<|V7 n m _ _ _ (λa ha=>?_) λb hb=>?_
 ·unfold fz;rw[qj ha]
 ·unfold fz;rw[qm (by omega),show n+b - n=b by omega]
end L2.Fu
namespace L2.Fu
open PySem PySem.Spec PyProof.Rows
section
theorem Ij:∀{xs:List V} {us:LVl} (k:Nat),Vals xs us->Vals (xs.take k) (us.take k)
 |_,_,0,_=>.nil
 |_,_,_+1,.nil=>.nil
 |_,_,k+1,.cons h q=>.cons h<|Ij k q
theorem Ik:∀{xs:List V} {us:LVl} (k:Nat),Vals xs us->Vals (xs.drop k) (us.drop k)
 |_,_,0,q=>q
 |_,_,_+1,.nil=>.nil
 |_,_,k+1,.cons _ q=>Ik k q
def QV:V->List V->Hp->VK->Prop:=λx vs H Q=>∃l xs i y,x=.ref l/\vs=[.int i,y]/\H l=some (.lst xs)/\0<=i/\i<2 ^ 63/\xs.length<sizeLine/\Q .non (upd H l<|.lst<|xs.take i.toNat++y::xs.drop i.toNat)
def QW(its:LVl)(i:Int)(h:0<=i)(u:Value):(its.toArray.extract 0<|if i<0 then (i+((its.toArray.size:Nat):Int)).toNat else min i.toNat its.toArray.size).push u++its.toArray.extract (if i<0 then (i+((its.toArray.size:Nat):Int)).toNat else min i.toNat its.toArray.size)=(its.take i.toNat++u::its.drop i.toNat).toArray:=by
 rw[qm<|by omega];apply Array.toList_inj.mp;rw[Array.toList_append,Array.toList_push,Array.toList_extract,Array.toList_extract,bh,bh,qH,Nat.sub_zero,List.drop_zero,g0];by_cases hh:i.toNat<=its.length
 ·rw[nY hh];have k:=nX (l:=its.drop i.toNat) (i:=its.length - i.toNat) (by rw[pN];exact qe _);simp[k]
 ·rw[Nat.min_eq_right<|by omega];rw[nX (show its.length<=i.toNat by omega),List.drop_of_length_le<|show its.length<=i.toNat by omega];simp
def QX:tH X "list.insert" QV:=by
 intro pins s σ H x vs v us Q I rx rv h;obtain⟨l,xs,i,y,rfl,rfl,hH,h1,h2,hz,q⟩:=h;cases rx;obtain⟨u,w,rfl,ru,fL⟩:=rv.two;obtain⟨t,rfl⟩:=ru;obtain⟨z,its,n,r,hl,e⟩:=I.zbQ hH;have oR:¬(!Builtin.List.listFitsIndex i)=true:=by
  rw[fitsIndex_both (by omega) h2];exact qR
 have iD:its.toArray.size<=sizeLine:=by rw[qH];omega
 refine mr PySem.F.slot_list_insert ⟨_,e,rfl⟩ PySem.F.entry_list_insert (PySem.F.args_list_insert_3 _ _ _) (AutoSeq1.list_insert_list_int_val_1 l its.toArray n i t w oR iD) ⟨e,?_⟩;refine⟨.non,_,I.lset (its':=its.take i.toNat++w::its.drop i.toNat) hH e (QW its i h1 w) ((Ij _ r).append<|.cons fL<|Ik _ r) ?_,rfl,q⟩;rw[qz,ke,k5,pN];omega
variable{ei:Expr}
theorem Il{K:FRx}{H:Hp}:∀{xs:List V} {ds:LPd} (k:Nat),bP K H xs ds->bP K H (xs.take k) (ds.take k)
 |_,_,0,_=>.nil
 |_,_,_+1,.nil=>.nil
 |_,_,k+1,.cons h q=>.cons h<|Il k q
theorem Im{K:FRx}{H:Hp}:∀{xs:List V} {ds:LPd} (k:Nat),bP K H xs ds->bP K H (xs.drop k) (ds.drop k)
 |_,_,0,q=>q
 |_,_,_+1,.nil=>.nil
 |_,_,k+1,.cons _ q=>Im k q
def rY(i:Nat)(fi f:RPx):bW:=λρ=>(gk i ρ).bind λds=>match fi ρ with
 |some (.int k)=>(f ρ).bind λd=>if 0<=k/\k<9223372036854775808/\ds.length<16777216 then some (.nx<|ρ.set i<|.ow<|ds.take k.toNat++d::ds.drop k.toNat) else none
 |_=>none
def QY(i:Nat){fi:RPx}(hi:FE X ei fi)(he:FE X e f)(hN:X.N[i]?=some x:=by rfl)(hv:cY X.env.scope x:=by trivial)(hd:NDx x:=by decide)(b6:NCx x:=by decide)(cA:d4 X (.Name x p1) "insert":=by rfl)(cK:lz X cpos [ei,e]:=by rfl)(cB:(apos.endLine==cpos.line)=true:=by rfl)(hs:starEach [ei,e] X.env=(false,eval ei X.env)::starEach [e] X.env:=by rfl)(dS:cT X e []:=by rfl)(cJ:(backTo cpos<|starEach [e] X.env).any (·.1)=false:=by rfl)(cW:swapsWith (.Call (.Attribute (.Name x p1) "insert" apos) [ei,e] [] cpos) none pos.line X.env=pure false:=by rfl):FS X (.Expr (.Call (.Attribute (.Name x p1) "insert" apos) [ei,e] [] cpos) pos) (rY i fi f):=by
 obtain⟨t,p,q⟩:=he;obtain⟨ti,pi,qi⟩:=hi;refine⟨_,Jm (U5 kX PySem.F.slot_list_insert PySem.F.type_list_insert QX (yA hN hv hd b6) (yQ pi (yQ p xW dS) hs) cA cK cB hs cJ) cW,λH0 bO D σ H os ρ r R e k=>?_⟩;obtain⟨ds,e1,e⟩:=bind_some e;split at e
 ·rename_i n e3;obtain⟨d,e2,e⟩:=bind_some e;split at e
  ·rename_i hl;obtain⟨fj,eV,hl⟩:=hl;cases e;have g:=ub e1;obtain⟨a,xs,h1,h2,h3,h4⟩:=R.rel.ow i ds g;refine⟨_,h1,.inl ⟨rfl,_,cm.of h3⟩,qi σ H os ρ _ _ R.rel e3 λv H' s rv=>?_⟩;refine q σ H' os ρ _ _ (R.same s).rel e2 λv2 H2 s2 Ac=>?_
   cases rv;refine⟨a,xs,n,v2,rfl,rfl,s2 _ _<|s _ _ h3,fj,eV,by rw[h4.length];exact hl,?_⟩;refine k _ _ os (((R.same s).same s2).chg g h1<|(Il _<|(h4.same<|zq s os).same<|zq s2 os).append<|.cons Ac<|Im _<|(h4.same<|zq s os).same<|zq s2 os) ?_;rw[yR h2];exact λp o h=>zq s2 os _ _<|zq s os _ _ h
  ·cases e
 ·cases e
end
section
variable{a b:Expr}
noncomputable def Ad:PyData->PyData->Option (List PyData)
 | .list xs,.list ys=>if xs.length+ys.length<=16777216 then some (xs++ys) else none
 |_,_=>none
def Io(K:FRx):R2:=λx y H Q=>∃l b xs zs,x=.ref l/\y=.ref b/\cm K H l xs/\cm K H b zs/\xs.length+zs.length<=sizeLine/\∀p,H p=none->Q (.ref p) (upd H p<|.lst<|xs++zs)
def QZ(l b:AdX)(us vs:Array Value)(n m:Nat)(so sp:Array (Option Value))(hz:us.size+vs.size<=sizeLine):Meets (Builtin.«list.__add__» ⟨[.ref l,.ref b],[]⟩) (λ_ R s=>s.heap.get? l=some { cls:=.type "list",dict:=none,data:=.seq us n,slots:=so }/\
   s.heap.get? b=some { cls:=.type "list",dict:=none,data:=.seq vs m,slots:=sp }/\
   R (.ok<|.ret<|Value.ref s.heap.objs.size) { s with heap:=s.heap.push { cls:=.type "list",data:=.seq (us++vs) } }):=by
 refine .of_wp λprog w A R s h=>?_
 obtain⟨hp,g,d,tk,os⟩:=s;obtain⟨q1,q2,h⟩:=h;have f1:=ny;have f2:=AutoSeq1.sub_tuple_tuple
 have f3:=AutoSeq1.sub_list_list;have f4:=AutoSeq1.sub_tuple_list
 have f5:=AutoSeq1.sub_list_tuple;wp_walk using AutoSeq1.wpAny_loadPart' q1,AutoSeq1.wpAny_loadPart' q2;exact⟨_,rfl,h⟩
def Ip{its:Array Value}(pl:PlainL h l its):∃n sl,h.get? l=some { cls:=.type "list",dict:=none,data:=.seq its n,slots:=sl }:=by
 obtain⟨o,n,e,hc,hd,hs⟩:=pl;obtain⟨c,d,t,sl⟩:=o;dsimp only at hc hd hs;subst hc hd hs;exact⟨n,sl,e⟩
def Q0:c4 X (binaryOp .Add) (Io X.K):=by
 intro pins s σ H x y v u Q I rx ry h;obtain⟨l,b,xs,zs,rfl,rfl,hH,hB,hz,q⟩:=h;cases rx;cases ry;obtain⟨its,r,pl,z⟩:=I.list hH;obtain⟨cG,r2,Q1,z2⟩:=I.list hB;obtain⟨n,sl,e⟩:=Ip pl;obtain⟨n2,lI,e2⟩:=Ip Q1;have hl:=r.length;have eV:=r2.length
 refine pZ ⟨_,e,rfl⟩ ⟨_,e2,rfl⟩ noFill_list_add seq_list_add PySem.F.slot_list_add PySem.F.entry_list_add (PySem.F.args_list_add_2 _ _) (QZ l b _ _ n n2 sl lI<|by rw[qH,qH];omega) ⟨e,e2,?_⟩;have ea:its.toArray++cG.toArray=(its++cG).toArray:=by simp
 rw[ea];exact⟨.ref _,_,I.lnew (t':=s.toks) (r.append r2) (by rw[qz];omega),rfl,q _ I.fresh⟩
def Q2:Hh K (Io K) Ad:=by
 intro x y H os d e c Q al r1 r2 h k;unfold Ad at h;split at h
 ·split at h
  ·rename_i hc;cases h;obtain⟨l,xs,rfl,h1,q1⟩:=r1.lst;obtain⟨b,zs,rfl,h2,q2⟩:=r2.lst;refine⟨l,b,xs,zs,rfl,rfl,h1,h2,by rw[q1.length,q2.length];exact hc,λp hp=>?_⟩;have s:=yb hp<|.lst<|xs++zs;exact k p (xs++zs) _ hp s zL<|j8 hp<|q1.append q2
  ·cases h
 ·cases h
end
end L2.Fu
namespace L2
open PySem PySem.Spec PyProof.Rows
def Q3(hh:A.handled=none)(it a:AdX)(cQ:a≠it)(vs:Array Value):Draws prog w A it [it,a] vs.size (λi v=>vs[i]?=some v) (λi h=>y3 t h it a i/\xk t h a vs) where
 live:=λ_ _ st=>by
  obtain⟨o,ho,_⟩:=st.1.obj;exact⟨o,ho⟩
 frame:=λ_ _ _ st hk=>⟨st.1.stay λo e=>hk it (by simp) o e,st.2.stay λo e=>hk a (by simp) o e⟩
 item:=λi s Q E hi st hQ=>by
  refine JZ st.1 st.2 (v:=vs[i]) (by simp[hi]) λh' d hs=>?_
  exact hQ _ h' s.toks (by simp[hi]) ⟨d,st.2.stay λo e=>hs.extBut _ _ cQ e⟩ hs
 done:=λs Q E st hE=>J7 hh st.1 st.2 (by simp) hE
def Q4(hh:A.handled=none)(it a:AdX)(vs:Array Value)(n:Nat)(hv:vs[n]?=none):Draws prog w A it [it,a] n (λ_ _=>False) (λi h=>i=n/\y3 t h it a n/\xk t h a vs) where
 live:=λ_ _ st=>by
  obtain⟨o,ho,_⟩:=st.2.1.obj;exact⟨o,ho⟩
 frame:=λ_ _ _ st hk=>⟨st.1,st.2.1.stay λo e=>hk it (by simp) o e,st.2.2.stay λo e=>hk a (by simp) o e⟩
 item:=λi s Q E hi st hQ=>absurd st.1 (by omega)
 done:=λs Q E st hE=>J7 hh st.2.1 st.2.2 hv hE
abbrev BG(t:Bool)(h:Heap)(a:AdX):Heap:=h.push { cls:=.type (uX t),data:=.fields #[.ref a,.int 0 0] }
abbrev DR(t:Bool)(h:Heap)(a:AdX):Heap:=(BG t h a).push { cls:=.type "enumerate",data:=.fields #[.none,.bool false,.ref h.objs.size,rawInt 0,.none,.none] }
def Q5(t:Bool)(a:AdX)(vs:Array Value):Meets (Builtin.«enumerate.__new__» ⟨[.type "enumerate",.ref a],[]⟩) (λ_ R s=>xk t s.heap a vs/\
   R (.ok<|.ret<|.ref (BG t s.heap a).objs.size) { s with heap:=DR t s.heap a }):=.of_wp λprog w A R s h=>by
  obtain⟨hp,g,d,tk,os⟩:=s;obtain⟨c1,h⟩:=h;have Dy:=sub_enumerate;have q1:xk t (Shared.heap ⟨hp,g,d,tk,os⟩) a vs:=c1
  wp_walk using Jy q1
  refine wpAny_stack_any λst=>qS ?_
  split
  ·rename_i c _ _ _ _ _;cases (c==Value.type "enumerate")<;>(wp_walk using Jy q1;exact⟨_,rfl,h⟩)
  ·wp_walk using Jy q1
   exact⟨_,rfl,h⟩
def Q6{prog:Program}{w:World}{A:Around}{E:VSx}{s:ShX}{t:Bool}{a:AdX}{vs:Array Value}{Q:VSx}(c:xk t s.heap a vs)(h:∀h',IsEnum h' (s.heap.objs.size+1) s.heap.objs.size 0 .none->y3 t h' s.heap.objs.size a 0->
   (∀c o,s.heap.get? c=some o->h'.get? c=some o)->Q (.ref<|s.heap.objs.size+1) { s with heap:=h' }):wpAny (model prog w) A (call (.type "enumerate") [.ref a]) Q E s:=by
 refine callType_new PySem.F.called_enumerate (by decide) (PySem.F.typeCall_enumerate_1 _) (PySem.F.newCall_enumerate_1 _) (λobj=>PySem.F.args_object_init_2 obj _) PySem.F.entry_enumerate_new (Q5 t a vs) ⟨c,?_⟩;have z1:(BG t s.heap a).objs.size=s.heap.objs.size+1:=gC ..;have g2:(DR t s.heap a).get? (BG t s.heap a).objs.size=some _:=qO _ rfl
 have g1:(DR t s.heap a).get? s.heap.objs.size=some _:=qo _<|qO _ rfl;show _/\_
 rw[z1] at g2 ⊢;exact⟨⟨_,g2,rfl⟩,h _ g2 (ZF g1) λc o q=>qo _<|qo _ q⟩
def DS(K:FRx)(t:Bool)(a:AdX):It:=⟨λi H=>∃xs x,dF K t H a xs/\xs[i]?=some x,
  λi H v H'=>∃p,v=.ref p/\H p=none/\∀xs x,dF K t H a xs->xs[i]?=some x->H'=upd H p (.tup [.int (i:Int),x]),
  λi H=>∃xs,dF K t H a xs/\xs.length<=i⟩
structure Q7(t:Bool)(e it a:AdX)(i:Nat)(h:Heap):Prop where
 en:∃old,IsEnum h e it (i:Int) old
 dr:y3 t h it a i
def Q8{e:AdX}(DU:e≠it)(Q9:a≠e)(Ra:a≠it):Turn P w K (.Tuple es kk tp) (DS K t a) [e,it] e (λi h=>Q7 t e it a i h) where
 mem:=by simp
 obj:=λi h S c hc=>by
  simp only [qy,k4,mv] at hc;rcases hc with rfl|rfl
  ·obtain⟨old,q⟩:=S.en;exact⟨_,q,λv q=>by cases q⟩
  ·exact S.dr.obj
 keep:=λi h h' S k=>by
  obtain⟨old,q⟩:=S.en;exact⟨⟨old,k e (by simp) _ q⟩,S.dr.stay λo q=>k it (by simp) o q⟩
 item:=λX hp hw hK hc i pins s σ H E I hf S go=>by
  subst hp hw hK;obtain⟨xs,x,h1,hx⟩:=go;obtain⟨us,ru,c1⟩:=I.sqB h1;obtain⟨u,eu,hu⟩:=uj ru hx;obtain⟨old,he⟩:=S.en;have cC:i<us.toArray.size:=(Array.getElem?_eq_some_iff.mp eu).1;refine wpAny_pyNext_enum_itemD (Q3 (t:=t) (A:=X.A.in1) (I.ok.hd hc) it a Ra us.toArray) he ⟨S.dr,c1⟩ cC DU (by simp[DU,gE Q9]) λx' h' tk iG q1 q2 q3 q4 q5=>⟨_,rfl,?_⟩
  rw[eu] at iG;cases iG;refine wpAny_letOwnedTupleGo_enum q1 λrP z2 hs=>?_
  have ne1:s.heap.objs.size≠e:=mN<|qX he;have ne2:s.heap.objs.size≠it:=by obtain⟨o,q,_⟩:=S.dr.obj;exact mN<|qX q
  have I1:Inv X pins σ H { s with heap:=rP,toks:=tk+1 }:=I.moved (ch:=[e,it]) (λc cO=>hf c cO) λc o cO q=>by
   simp only [qy,k4,mv,not_or] at cO;exact hs.extBut _ _ cO.1<|q5 c o cO.1 cO.2 q
  have fT:Jf X pins H s.heap.objs.size:=I.zbT (qe _)<|I.hok.fresh<|qe _;have pT:=hs.extBut _ _ ne1 q3
  have I2:Inv X pins σ (upd H s.heap.objs.size<|.tup [.int (i:Int),x]) { s with heap:=rP,toks:=tk+1 }:=by
   refine I1.adopt fT ⟨by show 2<=sizeLine;decide,[.int (i:Int) tk,u],.cons ⟨_,rfl⟩<|.cons hu .nil,?_⟩;exact⟨_,pT,rfl,_,rfl⟩
  refine⟨.ref s.heap.objs.size,_,I2,rfl,⟨_,rfl,fT.1,λO8 x' g1 ex=>?_⟩,?_,λc cO=>?_⟩
  ·rw[I.zbA g1 h1] at ex;rw[hx] at ex;cases ex;rfl
  ·exact⟨⟨_,by have:=z2;rw[show((i+1:Nat):Int)=(i:Int)+1 from rfl];exact this⟩,q2.1.stay λo q=>hs.extBut _ _ (gE DU) q⟩
  ·have ne:c≠s.heap.objs.size:=by
    simp only [qy,k4,mv] at cO;rcases cO with rfl|rfl
    ·exact ne1.symm
    ·exact ne2.symm
   rw[zY ne];exact(hf c cO).1
 done:=λX hp hw hK hc i pins s σ H E I hf S st=>by
  subst hp hw hK;obtain⟨xs,h1,fP⟩:=st;obtain⟨us,ru,c1⟩:=I.sqB h1;have l1:=ru.length;obtain⟨old,he⟩:=S.en;refine wpAny_pyNext_enum_endD (Q4 (t:=t) (A:=X.A.in1) (I.ok.hd hc) it a us.toArray i<|by simp;omega) he ⟨rfl,S.dr,c1⟩ λh' q=>⟨rfl,?_⟩
  exact I.moved (t':=s.toks) (ch:=[it]) (λc cO=>hf c<|by simp at cO;simp[cO]) λc o cO e=>q c o (by simpa using cO) e
 self:=λA i s Q E S q=>by
  obtain⟨old,he⟩:=S.en;exact wpAny_pyIter_enum he q
def Rb:bootBuiltins "enumerate"=some (.type "enumerate"):=by decide+kernel
def Rf(K:FRx)(t:Bool)(ta:TA):TI:=λσ H R=>ta σ H λvs H1=>∃a,vs=[.ref a]/\(∃xs,dF K t H1 a xs)/\R (DS K t a) H1
def Rg(t:Bool){a:Expr}{ta:TA}(hg:Gl X "enumerate")(hm:X.mg "enumerate"=none)(ha:PA X [a] ta)(hs:starEach [a] X.env=[(false,eval a X.env)]:=by rfl):PI X (.Tuple es kk tp) (.Call (.Name "enumerate" p) [a] [] pos) (Rf X.K t ta):=by
 intro pins s σ H R I h;refine Call_ (UI I hg hm Rb<|gO (b4 (ha pos pins s σ H _ I h) λus s1 ⟨vs,H1,I1,r1,q1⟩=>?_) (by rw[hs];rfl)<|by rfl);obtain⟨a',e,⟨xs,h1⟩,q⟩:=q1;subst e;obtain⟨u,rfl,ru⟩:=vals1 r1;cases (show u=Value.ref a' from ru);obtain⟨its,_,c1⟩:=I1.sqB h1;refine Q6 c1 λh' S d hk=>?_
 have I2:Inv X pins σ H1 { s1 with heap:=h',toks:=s1.toks }:=I1.kept hk;refine wpAny_pyIter_enum S ?_;have lt:=c1.lt
 refine⟨_,_,_,_,H1,rfl,I2,Q8 (t:=t) (e:=s1.heap.objs.size+1) (it:=s1.heap.objs.size) (a:=a') (Nat.succ_ne_self _) (gq<|mO lt)<|gq lt,⟨⟨_,S⟩,d⟩,λc hc=>?_,q⟩;simp only [qy,k4,mv] at hc;have ge:s1.heap.objs.size<=c:=by
  rcases hc with rfl|rfl
  ·exact mz _ 1
  ·exact qe _
 exact I1.zbT ge (I1.hok.fresh ge)
end L2
namespace L2.Fu
open PySem PySem.Spec PyProof.Rows
noncomputable def WI(xs:LPd):List PyData:=xs.mapIdx λi d=>.tuple [.int (i:Int),d]
def Rh{xs:LPd}(h:(WI xs)[i]?=some d):∃x,xs[i]?=some x/\d=.tuple [.int (i:Int),x]:=by
 unfold WI at h;rw[List.getElem?_mapIdx] at h;obtain⟨z,e1,e2⟩:=map_some h;exact⟨z,e1,e2.symm⟩
def Ri(h1:dF K t G a xs)(r1:bP K G0 xs ds):Walks K G G0 (DS K t a) (WI ds):=by
 intro H1 fS al s s0;have k1:dF K t H1 a xs:=s.sqB h1;refine⟨λi d hd=>?_,?_⟩
 ·obtain⟨d1,g1,rfl⟩:=Rh hd;obtain⟨v1,e1,q1⟩:=r1.getD g1;refine⟨⟨xs,v1,k1,e1⟩,λx H2 hy=>?_⟩;obtain⟨p,rfl,hp,hy⟩:=hy;have e:=hy xs v1 k1 e1;subst e;have s2:=yb hp<|.tup [.int (i:Int),v1]
  refine⟨s2,.tup (cP.of ?_)<|.cons (.int _)<|.cons ((q1.same s0).same<|zq s2 fS) .nil⟩;rw[zA<|al.new hp];exact zL
 ·refine⟨xs,k1,?_⟩;rw[r1.length];simp[WI]
def BH(t:Bool)(g:bY):bY:=λρ=>match g ρ with
 |some [x]=>match kindOf x with
  |some (k,xs)=>if k=t then some (WI xs) else none
  |_=>none
 |_=>none
end L2.Fu
namespace L2
open PySem PySem.Spec PyProof.Rows
theorem Rj{prog:Program}{w:World}{A:Around}{R:Result->Shared->Prop}{s:ShX}{elt target iter c:Expr}{scope:Scope}{pos:Pos}{it acc:Value}{env:Env}(I:Nat->Shared->Prop)(turn:∀n s,I n s->wpAny (model prog w) A (pyNext it) (λr t1=>match r with
   |none=>R (.ok .next) t1
   |some v=>wpAny (model prog w) A (letOwnedTupleGo target it v) (λ_ t2=>wpAny (model prog w) A (assign target env v) (λ_ t3=>wpAny (model prog w) A (isTrue c env<|eval c env) (λok DV=>
     if ok=true then wpAny (model prog w) A (eval elt env) (λx t4=>wpAny (model prog w) A (call (.builtin "list.append") [acc,x]) (λ_ t5=>∃m,m<n/\I m t5) (λ_ _=>False) t4) (λ_ _=>False) DV
     else ∃m,m<n/\I m DV) (λ_ _=>False) t3) (λ_ _=>False) t2) (λ_ _=>False) t1) (λ_ _=>False) s)(n:Nat)(h:I n s):codeAny (model prog w) A (.compLoop (.ListComp elt [⟨target,iter,[c],0⟩] scope pos) 0 it acc env) R s:=by
 refine codeAny_loop rfl I (λn s hI=>?_) n h;show wpAny _ _ ((compTurn (.ListComp elt [⟨target,iter,[c],0⟩] scope pos) 0 it acc env).onRaise λx=>do noteFrame x env;theTreesLotGoes x) _ _ s
 refine wpAny_noted ?_;rw[compTurn_list];refine qt<|nZ<|qt<|gB (turn n s hI) (λr t1 h1=>?_) λ_ _ z=>z.elim;cases r with
 |none=>exact qS h1
 |some v=>
  refine qt<|gB h1 (λ_ t2 h2=>?_) λ_ _ z=>z.elim;refine qt<|gB h2 (λ_ t3 h3=>?_) λ_ _ z=>z.elim;refine qt ?_;rw[ni];refine qt ?_;rw[qj rfl];refine qt<|gB h3 (λok DV BI=>?_) λ_ _ z=>z.elim;refine qS ?_;dsimp only;rw[n5];refine qS ?_;cases ok with
  |true=>
   rw[qj rfl] at BI ⊢;exact qt<|qt<|gB BI (λx t4 h4=>qt<|gB h4 (λ_ t5 h5=>qS<|qS ⟨rfl,h5⟩) λ_ _ z=>z.elim) λ_ _ z=>z.elim
  |false=>
   rw[qm qR] at BI ⊢;exact qS ⟨rfl,BI⟩
def Iq(T:Nat)(F:LNt)(g:TG)(tc:TT)(te:TE)(k:Addr->Hp->Prop)(σ:St)(H1:Hp)(D:AdX)(J:It):Prop:=∃W:Nat->Nat->St->Hp->Prop,(∃m,W 0 m (UH T F σ)<|upd H1 D<|.lst [])/\∀i m bR H',W i m bR H'->
  (J.stop i H'/\k D H')\/(J.go i H'/\∃N:St->Hp->Prop,(∀cq H2,N cq H2->∃m',m'<m/\W (i+1) m' cq H2)/\
   ∀x H2,J.yld i H' x H2->g x bR H2 λcq H3=>tc cq H3 λok DW=>if ok=true then te cq DW λv H4=>∃xs,H4 D=some (.lst xs)/\xs.length<sizeLine/\N cq (upd H4 D<|.lst<|xs++[v]) else N cq DW)
def DX(T:Nat)(F:LNt)(wi:TI)(g:TG)(tc:TT)(te:TE)(k:Addr->Hp->Prop):St->Hp->Prop:=λσ H=>wi σ H λJ H1=>∀D,H1 D=none->Iq T F g tc te k σ H1 D J
section
variable{g:TG}
def ZH{cl:LSA}{use:Option (Value->Sem Unit)}{s:ShX}{k:Addr->Hp->Prop}(hc:X.calm=true)(hi:PI X tg iter wi)(S:yn X scope)(hF:eh X F scope)(hg:∀cl C ex s H,PG (c9 X Ts F scope cl C ex s H) tg g)(he:∀cl C ex s H,PE (c9 X Ts F scope cl C ex s H) elt te)(ht:∀cl C ex s H,PT (c9 X Ts F scope cl C ex s H) c tc)(ko:Up scope X.env cl)(I:Inv X pins σ H s)(h:DX Ts.length F wi g tc te k σ H)(fin:∀(s':ShX)(H':Hp)(D C:AdX)(m:Str->Option Value),Inv X pins σ H' s'->Jf X pins H' C->s'.heap.Ns C m->k D H'->compPost (model X.prog X.w) X.A X.xe use Q (.ref D) C (.ok .next) s'):wpAny (model X.prog X.w) X.A (eval iter X.env) (λx bV=>wpAny (model X.prog X.w) X.A (pyIter x) (λit dN=>wpAny (model X.prog X.w) X.A (newList []) (λacc fN=>
   wpAny (model X.prog X.w) X.A (newFunctionEnv scope X.env.globals cl [] X.env.qual none .none<|some X.env) (λic fO=>
    codeAny (model X.prog X.w) X.A (.compStart (.ListComp elt [⟨tg,iter,[c],0⟩] scope pos) 0 it acc { ic with scope:=relabel scope X.env }) (compPost (model X.prog X.w) X.A X.xe use Q acc ic.locals) fO) X.xe fN) X.xe dN) X.xe bV) X.xe s:=by
 refine b4 (hi pins s σ H _ I h) λv s1 h1=>b4 h1 λBc s2 h2=>?_
 obtain⟨it,fp,tn,J,H2,rfl,I2,T,fB,f2,hW⟩:=h2;refine mY<|wpAny_newFunctionEnv S.nocell (by intro y hy;simp at hy) (λdy dW ij=>?_) S.kind;dsimp only at dW ij ⊢;have fw:H2 s2.heap.objs.size=none:=I2.hok.fresh<|qe _;obtain⟨W,⟨m0,w0⟩,turn⟩:=hW s2.heap.objs.size fw;generalize hD:s2.heap.objs.size=D at*;have I3:Inv X pins σ (upd H2 D<|.lst []) { s2 with heap:=s2.heap.push { cls:=.type "list",dict:=none,data:=.seq ([]:LVl).toArray } }:=by
  refine I2.laid (t':=s2.toks) (λb u e=>qo _ e) (mP hD) ?_;refine⟨by simp,[],0,.nil,?_⟩;rw[<-hD];exact qO _ rfl
 generalize iH:({ s2 with heap:=s2.heap.push { cls:=.type "list",dict:=none,data:=.seq ([]:LVl).toArray } }:ShX)=s3 at*;have tM:s3.heap=s2.heap.push { cls:=.type "list",dict:=none,data:=.seq ([]:LVl).toArray }:=by rw[<-iH]
 have objs:∀b∈fp,∃o,s3.heap.get? b=some o:=λb hb=>by
  obtain⟨o,e,_⟩:=T.obj _ _ fB b hb;exact⟨o,by rw[tM];exact qo _ e⟩
 have cM:∀b∈fp,b≠D:=λb hb z=>by
  obtain⟨o,e,_⟩:=T.obj _ _ fB b hb;have e1:=qX e;rw[hD,z] at e1;exact gp _ e1
 have f3:∀b∈fp,Jf X pins (upd H2 D<|.lst []) b:=λb hb=>⟨by rw[zY<|cM b hb];exact(f2 b hb).1,(f2 b hb).2⟩
 have tQ:Heap.SameBut s3.heap.objs.size (s3.heap.push { cls:=.type "dict",data:=.dict #[] }) dy:=by
  rw[<-iH];exact ij
 have iE:dy.Ns s3.heap.objs.size (λ_=>none):=by
  rw[<-iH];exact dW
 have keep:∀b o,s3.heap.get? b=some o->dy.get? b=some o:=λb o e=>tQ.extBut b o (gq<|qX e)<|qo _ e
 have IY:=OP (Ts:=Ts) (F:=F) (tk:=s3.toks) I3 S ko f3 objs hF iE keep;have tN:tn 0 dy:=T.keep _ _ _ fB λb hb o e=>keep b o (by rw[tM];exact qo _ e)
 have dU:∀{H':Hp},(∀b∈fp,H' b=none)->∀b∈fp,Jf (UC X (Ts++F.map λj=>X.N.getD j "") scope cl s3.heap.objs.size fp s3<|upd H2 D<|.lst []) [] H' b:=λhn b hb=>
  ⟨hn b hb,(IY.ok.exf b hb).1,IY.ok.exfs b hb,.inl hb,(IY.ok.exf b hb).2,λp hp=>absurd (show p∈([]:PNx) from hp)<|by simp⟩
 have back:∀{bR:St} {H':Hp} {s':ShX},Inv (UC X (Ts++F.map λj=>X.N.getD j "") scope cl s3.heap.objs.size fp s3<|upd H2 D<|.lst []) [] bR H' s'->k D H'->compPost (model X.prog X.w) X.A X.xe use Q (.ref D) s3.heap.objs.size (.ok .next) s':=λ{bR H' s'} J' q=>by
  have hI:Inv X pins σ H' s':=by
   obtain⟨hh,gg,dd,tt,os'⟩:=s';have ho:os'=s3.os:=J'.os;subst ho;exact I3.call (h':=hh) (g':=gg) (d':=dd) (t':=tt) (ch:=fp) J'.base J'.hok J'.bare λb hb=>⟨(f3 b hb).2.2.2.1,(f3 b hb).2.1,(f3 b hb).2.2.2.2.1,(f3 b hb).2.2.2.2.2⟩
  obtain⟨m,hm,_⟩:=J'.loc;exact fin s' H' D s3.heap.objs.size m hI (I3.zbT (qe _) J'.free) hm q
 have loop:∀s4:Shared,s4={ s3 with heap:=dy,toks:=s3.toks }->
   codeAny (model X.prog X.w) X.A (.compLoop (.ListComp elt [⟨tg,iter,[c],0⟩] scope pos) 0 (.ref it) (.ref D)<|compEnvC scope cl s3.heap.objs.size X.env) (compPost (model X.prog X.w) X.A X.xe use Q (.ref D) s3.heap.objs.size) s4:=by
  rintro s4 rfl;refine Rj (λn s'=>∃i bR H',Inv (UC X (Ts++F.map λj=>X.N.getD j "") scope cl s3.heap.objs.size fp s3<|upd H2 D<|.lst []) [] bR H' s'/\tn i s'.heap/\(∀b∈fp,H' b=none)/\W i n bR H') ?_ m0
   ⟨0,_,_,IY,tN,λb hb=>(f3 b hb).1,w0⟩
  rintro n s5 ⟨i,iV,H5,I5,iT,oJ,w5⟩;rcases turn i n iV H5 w5 with⟨stop,qn⟩|⟨go,N,hN,step⟩
  ·refine b4 (T.done (UC X (Ts++F.map λj=>X.N.getD j "") scope cl s3.heap.objs.size fp s3<|upd H2 D<|.lst []) rfl rfl rfl hc i [] s5 iV H5 _ I5 (dU oJ) iT stop) λr s6 ⟨hr,I6⟩=>?_
   subst hr;exact back I6 qn
  ·refine b4 (T.item (UC X (Ts++F.map λj=>X.N.getD j "") scope cl s3.heap.objs.size fp s3<|upd H2 D<|.lst []) rfl rfl rfl hc i [] s5 iV H5 _ I5 (dU oJ) iT go) λr s6 ⟨u,hr,h6⟩=>?_
   subst hr;refine b4 h6 λ_ s7 ⟨x,H7,I7,r7,y7,iW,Dq⟩=>?_
   have Dr:=I7.pinned (dU Dq)<|T.obj _ _ iW;refine b4 (hg cl _ fp s3 _ _ s7 iV H7 x u _ Dr r7<|step x H7 y7) λ_ s8 ⟨fD,H8,I8,q8⟩=>?_
   refine b4 (ht cl _ fp s3 _ _ s8 fD H8 _ I8 q8) λok Rk ⟨DY,BJ,BK⟩=>?_
   cases ok with
   |true=>
    rw[qj rfl] at BK ⊢;refine b4 (he cl _ fp s3 _ _ Rk fD DY _ BJ BK) λev s9 ⟨y,H9,I9,r9,xs,hx,hz,n9⟩=>?_
    refine b4 (uP _ s9 fD H9 (.ref D) [y] (.ref D) [ev] (λ_ H'=>N fD H') I9 rfl (.cons r9 .nil) ⟨D,xs,y,rfl,rfl,hx,hz,n9⟩) λ_ OR ⟨z,tO,oY,_,Ds⟩=>?_
    obtain⟨m',hm,tP⟩:=hN fD tO Ds;refine⟨m',hm,i+1,fD,tO,oY.uK,T.keep _ _ _ iW λb hb o e=>(oY.pin (b,o)<|ka _<|ka _<|jm hb e).1,λb hb=>?_,tP⟩;obtain⟨o,e,d⟩:=T.obj _ _ iW b hb;exact(oY.pin (b,o)<|ka _<|ka _<|jm hb e).2.1
   |false=>
    rw[qm qR] at BK ⊢;obtain⟨m',hm,tP⟩:=hN fD DY BK;refine⟨m',hm,i+1,fD,DY,BJ.uK,T.keep _ _ _ iW λb hb o e=>(BJ.pin (b,o)<|ka _<|ka _<|jm hb e).1,λb hb=>?_,tP⟩;obtain⟨o,e,d⟩:=T.obj _ _ iW b hb;exact(BJ.pin (b,o)<|ka _<|ka _<|jm hb e).2.1
 subst iH;subst hD;exact codeAny_compStart_list (loop _ rfl)<|T.self _ 0 _ _ _ tN<|loop _ rfl
def Rl(hc:X.calm=true)(hi:PI X tg iter wi)(S:yn X scope)(hF:eh X F scope)(hg:∀cl C ex s H,PG (c9 X Ts F scope cl C ex s H) tg g)(he:∀cl C ex s H,PE (c9 X Ts F scope cl C ex s H) elt te)(ht:∀cl C ex s H,PT (c9 X Ts F scope cl C ex s H) c tc)(hs:ee X iter:=by exact λ_=>rfl):PE X (.ListComp elt [⟨tg,iter,[c],0⟩] scope pos) (λσ H Q=>DX Ts.length F wi g tc te (λD H'=>Q (.ref D) H') σ H):=by
 intro pins s σ H Q I h;obtain⟨cl,ff,ko⟩:=u4<|ZM I S;rw[eval_ListComp];refine mM (use:=none) rfl hs ff S.kind S.loc<|ZH (use:=none) hc hi S hF hg he ht ko I h λs' H' D C m I' fC hm q=>?_;refine⟨m,hm,λh' fE=>⟨.ref D,H',?_,rfl,q⟩⟩;exact I'.turned (t':=s'.toks) (λb o hb e=>fE.extBut b o hb e) fC.1 fC.2.1 fC.2.2.2.1 fC.2.2.2.2.1 fC.2.2.2.2.2
def Rm(T:Nat)(F:LNt)(wi:TI)(g:TG)(tc:TT)(te:TE)(i:Nat):TS:=λD σ H=>DX T F wi g tc te (λl H'=>D.nx (σ.set i<|some<|.ref l) H') σ H
def Vo(hN:X.N.Nodup)(dP:X.N[i]?=some x)(hx:X.env.scope.names.lookup x=some .local)(hc:X.calm=true)(hi:PI X tg iter wi)(S:yn X scope)(hF:eh X F scope)(hg:∀cl C ex s H,PG (c9 X Ts F scope cl C ex s H) tg g)(he:∀cl C ex s H,PE (c9 X Ts F scope cl C ex s H) elt te)(ht:∀cl C ex s H,PT (c9 X Ts F scope cl C ex s H) c tc)(cW:swapsWith (.ListComp elt [⟨tg,iter,[c],0⟩] scope pos) (some<|.Name x pos') spos.line X.env=pure true:=by rfl)(hs:ee X iter:=by exact λ_=>rfl):PS X (.Assign [.Name x pos'] (.ListComp elt [⟨tg,iter,[c],0⟩] scope pos) spos) (Rm Ts.length F wi g tc te i):=by
 intro pins s σ H D I h;obtain⟨cl,ff,ko⟩:=u4<|ZM I S;rw[exec_Assign_Name_used _ _ _ _ cW];refine qt<|nZ<|qt ?_;show wpAny _ X.A (do let _ <-comprehension (.ListComp elt [⟨tg,iter,[c],0⟩] scope pos) scope X.env _ (newList []) false (eval iter X.env) (some<|assign (.Name x pos') X.env)) _ _ s
 refine qt<|gB (mM (use:=some<|assign (.Name x pos') X.env) (Q:=λ_ s'=>SP X pins D .next s') rfl hs ff S.kind S.loc
<|ZH (use:=some<|assign (.Name x pos') X.env) hc hi S hF hg he ht ko I h λs' H' l C m I' fC hm q=>?_) (λ_ s' hq=>qS<|qS hq) λ_ _ e=>e
 show wpAny _ X.A (assign (.Name x pos') X.env<|.ref l) _ _ s'
 refine pY<|Wh I' hN dP (.inl hx) (show RelV (.ref l) (.ref l) from rfl) (λs2 I2 ig=>?_)<|.inr hx;obtain⟨a,tQ,ha⟩:=ig;have lC:C≠a:=by
  rcases ha with rfl|ha
  ·exact fC.2.1
  ·exact λz=>fC.2.2.2.2.1 x a ha z.symm
 have tR:s2.heap.Ns C m:=hm.sameBut tQ lC;refine⟨m,tR,λh' fE=>⟨_,H',?_,q⟩⟩;exact I2.turned (t':=s2.toks) (λb o hb e=>fE.extBut b o hb e) fC.1 fC.2.1 fC.2.2.2.1 fC.2.2.2.2.1 fC.2.2.2.2.2
end
end L2
namespace L2.Fu
open PySem PySem.Spec PyProof.Rows
noncomputable def w6{α β:Type}(h:α->Option (Option β)):List α->Option (List β)
 |[]=>some []
 |d::r=>(h d).bind λo=>(w6 h r).map λys=>match o with |some y=>y::ys|none=>ys
def u6(T:Nat)(F:LNt)(fi:bY)(b:PyData->Ro->Option Ro)(fc:Ro->Option Bool)(fe:RPx):bY:=λρ=>
 (fi ρ).bind λds=>if ds.length<=16777216 then w6 (λd=>(b d<|compEnv T F ρ).bind λbX=>(fc bX).bind λok=>if ok then (fe bX).map some else some none) ds else none
def Ae(K:FRx)(f:Ro->Option Bool):TT:=λσ H Q=>∃os ρ b,xM K H os σ ρ/\f ρ=some b/\∀H',bJ H H'->Q b H'
def FT.pt{f:Ro->Option Bool}(h:FT X e f):PT X e (Ae X.K f):=by
 obtain⟨t,p,q⟩:=h;intro pins s σ H Q I z;obtain⟨os,ρ,d,R,e1,k⟩:=z;exact p pins s σ H Q I<|q σ H os ρ d Q R e1 k
def JE{T:Nat}{b:PyData->Ro->Option Ro}{fe:RPx}{k:Addr->Hp->Prop}(dC:∀i∈is,i<T)(R:xM K H1 os σ ρ)(hn:ds.length<=16777216)(hD:H1 D=none)(W:Walks K H1 (bK H1 os) J ds)(hm:w6 (λd=>(b d<|compEnv T F ρ).bind λbX=>(fc bX).bind λok=>if ok then (fe bX).map some else some none) ds=some rs)(fin:∀H' xs,bJ H1 H'->H' D=some (.lst xs)->bP K (bK H'<|D::os) xs rs->k D H'):Iq T F (gF K is b) (Ae K fc) (tF K fe) k σ H1 D J:=by
 have so:∀H',bJ H1 H'->bJ (bK H1 os) (bK H'<|D::os):=λH' s c o z=>by
  by_cases hb:c∈os
  ·rw[x5 hb] at z;cases z
  ·rw[zA hb] at z;rw[zA]
   ·exact s c o z
   ·intro w;rcases qy.mp w with w|w
    ·rw[w,hD] at z;cases z
    ·exact hb w
 have al:∀H' xs,bJ H1 H'->H' D=some (.lst xs)->Al H' (D::os):=λH' xs s hx a ha=>by
  rcases qy.mp ha with z|z
  ·subst z;exact⟨_,hx⟩
  ·obtain⟨o,e⟩:=R.al a z;exact⟨o,s _ _ e⟩
 refine⟨λi m bR H'=>m=ds.length - i/\i<=ds.length/\(∃ts:St,ts.length=T/\bR=ts++F.map λj=>(σ[j]?).join)/\bJ H1 H'/\∃xs done rest,H' D=some (.lst xs)/\xs.length<=i/\bP K (bK H'<|D::os) xs done/\w6 (λd=>(b d<|compEnv T F ρ).bind λbX=>(fc bX).bind λok=>if ok then (fe bX).map some else some none) (ds.drop i)=some rest/\done++rest=rs,
  ⟨ds.length,rfl,kx _,⟨List.replicate T none,by simp,rfl⟩,yb hD _,[],[],rs,zL,qe _,.nil,hm,rfl⟩,?_⟩
 rintro i m bR H' ⟨rfl,hi,⟨ts,lX,rfl⟩,sm,xs,done,rest,hx,hl,rp,hf,BL⟩;obtain⟨w1,w2⟩:=W H' (D::os) (al H' xs sm hx) sm<|so H' sm;by_cases cC:i<ds.length
 ·obtain⟨d,hd⟩:∃d,ds[i]?=some d:=⟨_,qk cC⟩;obtain⟨g1,g2⟩:=w1 i d hd;have ed:ds.drop i=d::ds.drop (i+1):=by
   rw[gT cC];rw[qk cC] at hd;cases hd;rfl
  rw[ed] at hf;obtain⟨o,e,hf⟩:=bind_some hf;obtain⟨ys,Ir,ho⟩:=map_some hf;obtain⟨ρ',e1,e2⟩:=bind_some e;obtain⟨ok,e3,e4⟩:=bind_some e2;refine .inr ⟨g1,λcq H2=>i+1<=ds.length/\(∃ts:St,ts.length=T/\cq=ts++F.map λj=>(σ[j]?).join)/\bJ H1 H2/\∃xs done rest,H2 D=some (.lst xs)/\xs.length<=i+1/\bP K (bK H2<|D::os) xs done/\w6 (λd=>(b d<|compEnv T F ρ).bind λbX=>(fc bX).bind λok=>if ok then (fe bX).map some else some none) (ds.drop<|i+1)=some rest/\done++rest=rs,?_,?_⟩
  ·rintro cq H2 ⟨h1,h2,h3,h4⟩;exact⟨ds.length - (i+1),by omega,rfl,h1,h2,h3,h4⟩
  ·intro x H2 hy;obtain⟨s2,rx⟩:=g2 x H2 hy;refine⟨D::os,d,compEnv T F ρ,ρ',rx,e1,λcq st=>?_⟩;have R2:xM K H2 (D::os) (ts++F.map λj=>(σ[j]?).join) (compEnv T F ρ):=ZK T F R hD (sm.trans s2) (s2 _ _ hx) lX;have fx:∃fU:St,fU.length=T/\cq=fU++F.map λj=>(σ[j]?).join:=st.tail dC lX rfl
   refine⟨D::os,ρ',ok,R2.sets st,e3,λDW rg=>?_⟩;cases ok with
   |true=>
    rw[qj rfl] at e4 ⊢;obtain⟨r,e5,e6⟩:=map_some e4;subst e6;refine⟨D::os,ρ',r,(R2.sets st).same rg,e5,λv H4 s4 rv=>?_⟩;refine⟨xs,s4 _ _<|rg _ _<|s2 _ _ hx,?_,cC,fx,(((sm.trans s2).trans rg).trans s4).V2 hD _,xs++[v],done++[r],ys,zL,by rw[qz];exact mW hl,?_,Ir,?_⟩
    ·show xs.length<16777216
     omega
    ·rw[jF];exact(rp.same<|zq ((s2.trans rg).trans s4) _).append<|.cons rv .nil
    ·rw[<-BL,<-ho,g0];rfl
   |false=>
    rw[qm qR] at e4 ⊢;cases e4;refine⟨cC,fx,(sm.trans s2).trans rg,xs,done,ys,rg _ _<|s2 _ _ hx,pI hl,rp.same<|zq (s2.trans rg) _,Ir,?_⟩;rw[<-BL,<-ho]
 ·have e:i=ds.length:=by omega
  subst e;rw[mX] at hf;cases hf;rw[km] at BL;subst BL;exact .inl ⟨w2,fin H' xs sm hx rp⟩
section
variable{fi:bY}{b:PyData->Ro->Option Ro}{fe:RPx}
def Rn(hc:X.calm=true)(hi:fF X tg iter fi)(S:yn X scope)(hF:eh X F scope)(hg:∀cl C ex s H,FG (c9 X Ts F scope cl C ex s H) tg is b)(ht:∀{cl C ex s H},FT (c9 X Ts F scope cl C ex s H) c fc)(he:∀{cl C ex s H},FE (c9 X Ts F scope cl C ex s H) elt fe)(dC:∀i∈is,i<Ts.length:=by decide)(hs:ee X iter:=by exact λ_=>rfl):FL X (.ListComp elt [⟨tg,iter,[c],0⟩] scope pos) (u6 Ts.length F fi b fc fe):=by
 obtain⟨wi,pi,qi⟩:=hi;refine⟨_,Rl (Ts:=Ts) (F:=F) (g:=gF X.K is b) (tc:=Ae X.K fc) (te:=tF X.K fe) hc pi S hF hg (λ_ _ _ _ _=>he.pe) (λ_ _ _ _ _=>ht.pt) hs,λσ H os ρ rs Q R q k=>?_⟩;obtain⟨ds,e1,q⟩:=bind_some q;split at q
 ·rename_i hl;refine qi σ H os ρ ds _ R e1 λJ H' s W D hD=>?_
  exact JE dC (R.same s) hl hD W q λH2 xs s2 hx r=>k D xs H2 (s.free hD) (s.trans s2) hx r
 ·cases q
def Rp(i:Nat)(hN:X.N.Nodup)(hc:X.calm=true)(hi:fF X tg iter fi)(S:yn X scope)(hF:eh X F scope)(hg:∀cl C ex s H,FG (c9 X Ts F scope cl C ex s H) tg is b)(ht:∀{cl C ex s H},FT (c9 X Ts F scope cl C ex s H) c fc)(he:∀{cl C ex s H},FE (c9 X Ts F scope cl C ex s H) elt fe)(dC:∀i∈is,i<Ts.length:=by decide)(dP:X.N[i]?=some x:=by rfl)(hx:X.env.scope.names.lookup x=some .local:=by rfl)(cW:swapsWith (.ListComp elt [⟨tg,iter,[c],0⟩] scope pos) (some<|.Name x pos') spos.line X.env=pure true:=by rfl)(hs:ee X iter:=by exact λ_=>rfl):FS X (.Assign [.Name x pos'] (.ListComp elt [⟨tg,iter,[c],0⟩] scope pos) spos) (x6 i<|u6 Ts.length F fi b fc fe):=by
 obtain⟨wi,pi,qi⟩:=hi;refine⟨_,Vo (Ts:=Ts) (F:=F) (g:=gF X.K is b) (tc:=Ae X.K fc) (te:=tF X.K fe) hN dP hx hc pi S hF hg (λ_ _ _ _ _=>he.pe) (λ_ _ _ _ _=>ht.pt) cW hs,λH0 bO D σ H os ρ r R q k=>?_⟩;obtain⟨ds,e1,q⟩:=bind_some q;cases q;obtain⟨es,e1,q⟩:=bind_some e1;split at q
 ·rename_i hl;refine qi σ H os ρ es _ R.rel e1 λJ H' s W D hD=>?_
  exact JE dC (R.rel.same s) hl hD W q λH2 xs s2 hx r=>k _ _ _ (R.W6 (s.free hD) (s.trans s2) hx r)<|jA (s.free hD)<|s.trans s2
 ·cases q
end
section
theorem wz{K:FRx}{H:Hp}:∀{xs:List V} {ds:LPd} (j:Nat),bP K H xs ds->bP K H (xs.eraseIdx j) (ds.eraseIdx j)
 |_,_,_,.nil=>.nil
 |_,_,0,.cons _ q=>q
 |_,_,j+1,.cons h q=>.cons h (wz j q)
end
def Iu:bootBuiltins "max"=some (.builtin "max"):=by decide+kernel
def Rq:bW:=(sq (x6 2<|tX (vI<|aC bF a0)<|zi yh<|aC af a0)<|lY 2<|retS<|zi ux<|aC af<|aC am<|aC ag a0)
def Jj:ck:=cw 3 2 Rq
def Rr:bW:=(sq (x6 2<|zQ 2 [] (Ug true true<|aC ac<|aC ai a0) aS<|zi Jj<|aC af<|aC ag a0)<|retS<|xm<|aC (bM uY aa<|bM bS ag<|cst<|.int 0)<|aC (zi zZ<|aC (gb 2) a0)<|aC (bM uY aN<|bM bS ag<|cst<|.int 2) a0)
def ZS:ck:=cw 3 2 Rr
end L2.Fu
namespace L2.Fu
open PySem WS WD
open PySem.Builtin.Int (intBits)
def Iv{f:bY}(h1:f ρ=some [d])(h2:g ρ=some (.int (n:Int)))(hn:n<=1000):tX f g ρ=some ((List.range n).map λ_=>d):=by
 unfold tX;rw[h1,qq,h2];dsimp only;rw[qj (by refine⟨?_,?_,?_⟩<;>first |omega|simp;omega),ky,VD]
def J8{g:bY}(h:g ρ=some ds)(hl:ds.length<=16777216):vI g ρ=some ds:=by
 unfold vI;rw[h,qq,qj hl]
def Rt{f g:Q2x}(hn:n<=42)(hm:m<=42):Jj [yG n f,yG m g]=some (yG (n+m)<|fz n f (λ_ _=>0) g):=by
 refine zM rfl ?_;refine(zw<|yK (d:=(List.range n).map λ_=>yq m λ_=>0) ?_).trans ?_
 ·refine Iv (d:=yq m λ_=>0) ?_ ((ze rfl).trans<|xO n _) (by omega);exact J8 (zm ((ze<|zm ((ze rfl).trans<|xO m _) rfl).trans<|ZT<|by omega) rfl) (by show 1<=16777216;decide)
 ·exact zG<|(ze rfl).trans<|Y2 hn hm
def y4(n:Nat)(st su:Q3x):Nat->Nat->Nat->Rat:=λg=>fz n (st g) (λ_ _=>0)<|su g
def Ru(hn:n<=42)(hm:m<=42)(hs:s<=42):ZS [zt n s fi st la,zt m s gi su lb]=some (zt (n+m) s (jn n fi gi) (y4 n st su)<|jn n la lb):=by
 refine zM rfl ?_;refine(zw<|yK (d:=(List.range s).map λg=>yG (n+m)<|y4 n st su g) ?_).trans<|zG ?_
 ·refine zS (xs:=List.range s) (e:=λg=>.tuple [yG n<|st g,yG m<|su g]) ((QM<|zm ((zg rfl rfl).trans jB)<|zm ((zg rfl rfl).trans jB) rfl).trans<|qM some<|Ud _ _ s) (by simpa using qr hs (by decide)) λg hg=>?_
  exact Ub.trans<|(ze rfl).trans<|Rt hn hm
 ·exact(U2 ((zg ((zg rfl rfl).trans vb)<|(zg rfl rfl).trans vb).trans<|wZ<|by omega) ((ze rfl).trans rfl)<|(zg ((zg rfl rfl).trans w8)<|(zg rfl rfl).trans w8).trans<|wZ<|by omega).trans rfl
theorem Vs{n m:Nat}{st su:Q3x}{la lb:Q1x}:∀(ws:LNt)(r u v:Q1x),(∀x,x<n+m->r x=jn n u v x)->wt (n+m) (y4 n st su) r (jn n la lb) ws=wt n st u la ws+wt m su v lb ws
 |[],r,u,v,h=>by
  show sumTo (n+m) (λx=>r x*jn n la lb x)=sumTo n (λx=>u x*la x)+sumTo m (λx=>v x*lb x)
  rw[jH,zb n (g:=λx=>u x*la x) λx hx=>by rw[h x (by omega),l6 hx,l6 hx],zb m (g:=λx=>v x*lb x) λx hx=>by rw[h _ (by omega),l7,l7]]
 |g::ws,r,u,v,h=>by
  show wt (n+m) (y4 n st su) (led (n+m) r<|y4 n st su g) (jn n la lb) ws=wt n st (led n u<|st g) la ws+wt m su (led m v<|su g) lb ws
  refine Vs ws _ _ _ λx hx=>?_
  show sumTo (n+m) (λa=>r a*y4 n st su g a x)=_
  rw[jH];have c1:∀a,a<n->y4 n st su g a=jn n (st g a) λ_=>0:=λa ha=>qj ha
  have c2:∀b,y4 n st su g (n+b)=jn n (λ_=>0) (su g b):=λb=>by
   unfold y4 fz;rw[qm (by omega),show n+b - n=b by omega]
  by_cases i9:x<n
  ·rw[l6 i9,zb n (g:=λa=>u a*st g a x) λa ha=>by rw[h a (by omega),l6 ha,c1 a ha,l6 i9],zb m (g:=λ_=>0) λb hb=>by rw[c2,l6 i9];grind,jQ];show led n u (st g) x+0=led n u (st g) x
   grind
  ·obtain⟨y,rfl⟩:∃y,x=n+y:=⟨x - n,by omega⟩;rw[l7,zb n (g:=λ_=>0) λa ha=>by rw[c1 a ha,l7];grind,jQ,zb m (g:=λb=>v b*su g b y) λb hb=>by rw[h _ (by omega),l7,c2,l7]];show 0+led m v (su g) y=led m v (su g) y
   grind
section
variable{s':Nat}
def Rv(h:gv i ρ=some (zt n s fi st la)):zi yh (aC (bM bS (gv i)<|cst<|.int 1) a0) ρ=some (.int (s:Int)):=(ze<|zm ((zg h rfl).trans jB) rfl).trans (xO s _)
end
end L2.Fu
namespace L2.Fu
open PySem PySem.Spec PyProof.Rows
abbrev bm:=yt<|tW (gk 6)<|zQ 1 [2] (yc<|bM bS ai<|gv 5) aq<|bM uY ag<|gv 0
abbrev bI:=x6 6<|zQ 1 [3] (yc<|bM bS ac<|gv 5) aq<|bM uY af<|gv 1
def Rx:bW:=(sq (zW 2<|zi zZ<|aC (yt<|zQ 1 [] (yc<|bM bS af<|cst<|.int 0) aq<|xm<|aC ak<|aC aj a0) a0)<|sq (zW 3<|zi zZ<|aC (yt<|zQ 1 [] (yc<|bM bS ag<|cst<|.int 0) aq<|xm<|aC ak<|aC aj a0) a0)<|sq (x6 4<|vI a0)<|sq (je (xl<|aC (zi yh<|aC ac a0) a0) (bN 5)<|sq bI<|fh 4<|zi zZ<|aC bm a0)<|retS<|xm<|aC (bM uY aa<|bM bS ag<|cst<|.int 0)<|aC (zi zZ<|aC (gb 4) a0)<|aC (bM uY aN<|bM bS ag<|cst<|.int 2) a0)
def xU:ck:=cw 7 2 Rx
def V1:bW:=(sq (x6 4<|xf wF<|aC af a0)<|sq (i5 4 am<|zi xK<|aC (bM bS (gb 4)<|gv 2)<|aC (zi yE<|aC aO<|aC (bM bS (gb 4)<|gv 1) a0) a0)<|Ui<|gk 4)
def xn:eM:=fG 5 4 V1
abbrev aw:=i5 9 ag<|yt<|zQ 1 [1,2,4,9] (xl<|aC (zi yh<|aC (gb 9) a0) a0) aq<|zi xK<|aC (bM bS (bM bS (gb 4)<|gv 1)<|gv 0)<|aC (zi yE<|aC aO<|aC (bM bS (bM bS (gb 4)<|gv 2)<|gv 0) a0) a0
abbrev a8:=x6 9<|zQ 1 [1,2,3] (yc<|gv 8) aq<|yt<|xf xn<|aC af<|aC ag<|aC am<|aC aO a0
def Ry:bW:=(sq (zW 4<|xm<|aC (bM W9 ak<|bM bS aO<|cst<|.int 0)<|aC (bM bS aO<|cst<|.int 1) a0)<|sq (x6 5<|xf xn<|aC aa<|aC ag<|aC am<|aC aO a0)<|sq (x6 6<|xf xn<|aC aN<|aC am<|aC ag<|aC bH a0)<|sq (x6 7<|vI a0)<|sq (je aQ (bN 8)<|sq a8<|sq aw<|fh 7<|zi zZ<|aC (yt<|zQ 1 [] (yc<|gb 9) aq<|zi zZ<|aC af a0) a0)<|retS<|xm<|aC (zi zZ<|aC (gb 5) a0)<|aC (zi zZ<|aC (gb 7) a0)<|aC (zi zZ<|aC (gb 6) a0) a0)
def ua:ck:=cw 10 4 Ry
abbrev aR:=yt<|zQ 1 [] (xl<|aC am a0) aq<|xm<|aC ak<|aC aj a0
abbrev bv:=gv 5
abbrev ae:=cD (zy<|bM fW am<|cst<|.int 0) (sq (zW 5<|zi jb<|aC ag<|aC am<|aC bH a0)<|sq (zW 6<|zi zZ<|aC aR a0)<|cD (zy<|bM dA (bM xB ag<|cst<|.int 2)<|cst<|.int 0) (zW 0<|zi xU<|aC af<|aC (xm<|aC (gv 6)<|aC (bM bS bv<|cst<|.int 1)<|aC (bM bS bv<|cst<|.int 2) a0) a0)<|zW 0<|zi xU<|aC af<|aC (xm<|aC (bM bS bv<|cst<|.int 0)<|aC (bM bS bv<|cst<|.int 1)<|aC (gv 6) a0) a0) s0
abbrev az:=zW 1<|bM xB (bM xN (bM yD ag<|cst<|.int 48271)<|cst<|.int 31)<|cst<|.int 2147483647
abbrev aG:=zW 9<|bM xB (bM yJ ag<|cst<|.int 35)<|zi maxD<|aC aj<|aC aO a0
abbrev aJ:=zW 8<|bM xB (bM yJ ag<|cst<|.int 5)<|zi maxD<|aC aj<|aC aO a0
abbrev aT:=zW 0<|zi ua<|aC af<|aC (gv 8)<|aC (gv 9)<|aC (zi xq<|aC (bM yJ ag<|cst<|.int 300) a0) a0
def Rz:bW:=(sq (zW 3<|zi yh<|aC aa a0)<|sq (zW 4<|zi yh<|aC ac a0)<|sq ae<|sq (zW 3<|bM xN aO<|gv 2)<|sq (je (xl<|aC (cst<|.int 3) a0) (bN 7)<|sq az<|sq aJ<|sq aG<|cD (zy<|bM cM (gv 8)<|gv 9) aT s0)<|retS<|gv 0)
def Ua:ck:=cw 10 3 Rz
end L2.Fu
namespace L2.Fu
open PySem PySem.Spec PyProof.Rows WS WD
def Iw{fi:RPx}{a:Nat}(h1:gk i ρ=some ds)(h2:f ρ=some d)(h3:fi ρ=some (.int (a:Int)))(h4:a<ds.length):i5 i fi f ρ=some (.nx<|ρ.set i<|.ow<|ds.set a d):=by
 unfold i5;rw[h1,qq,h2,qq,h3];show(dZ ds.length (a:Int)).bind _=_
 have e:dZ ds.length (a:Int)=some a:=by
  unfold dZ;rw[qj (by omega),qj<|by omega];simp
 rw[e];rfl
def set_range{α:Type}(n p:Nat)(f:Nat->α)(x:α):((List.range n).map f).set p x=(List.range n).map λi=>if i=p then x else f i:=by
 refine gZ λi=>?_
 rw[gL,qp,qp,qf,qw];by_cases hi:i<n
 ·rw[ku hi];by_cases rZ:p=i
  ·subst rZ;rw[qj rfl,qj hi];show some x=some (if p=p then x else f p)
   rw[qj rfl]
  ·rw[qm rZ];show some (f i)=some (if i=p then x else f i)
   rw[qm<|gE rZ]
 ·rw[kS (l:=List.range n)<|by simpa using kz hi];by_cases rZ:p=i
  ·subst rZ;rw[qj rfl,qm hi];rfl
  ·rw[qm rZ];rfl
section
def Uc{d:Nat->PyData}(h:i<n):bS (.list<|(List.range n).map d) (.int (i:Int))=some (d i):=VC (by rw[qp,ku h];rfl)
def uo(hn:n<=42)(hm:m<=42)(hs:s<=42):xU [zt n s fi st la,zt m s gi su lb]=some (zt (n+m) s (jn n fi gi) (y4 n st su)<|jn n la lb):=by
 have nz:∀(k:Nat)(f:Q1x)(it:RPx)(ρ:Ro),k<=42->it ρ=some (yq k f)->zi zZ (aC (yt<|zQ 1 [] (yc it) aq<|xm<|aC ak<|aC aj a0) a0) ρ=some (yq k λ_=>0):=λk f it ρ hk h=>
  (ze (xs:=[.list<|(List.range k).map λ_=>fr 0])<|zm (zX<|zS (xs:=List.range k) (e:=λi=>fr<|f i) (vL h) (by rw[qw];omega) λi _=>yr.trans rfl) rfl).trans rfl
 obtain⟨bX,e1,o5,o6,rfl⟩:=JK (n:=s) (g:=aC (zi yh<|aC ac a0) a0) (bd:=bN 5)
  (b:=sq bI<|fh 4<|zi zZ<|aC bm a0)
  (ρ0:=[.pu<|zt n s fi st la,.pu<|zt m s gi su lb,.pu<|yq n λ_=>0,.pu<|yq m λ_=>0,.ow [],.no,.no])
  (λi ρ=>∃o5 o6,ρ=[.pu<|zt n s fi st la,.pu<|zt m s gi su lb,.pu<|yq n λ_=>0,.pu<|yq m λ_=>0,.ow<|(List.range i).map λg=>yG (n+m)<|y4 n st su g,o5,o6])
  (zm ((ze<|zm ((zg rfl rfl).trans jB) rfl).trans<|xO s _) rfl) (by omega) ⟨.no,.no,rfl⟩ λg ρ hg ⟨o5,o6,q⟩=>by
   subst q;refine⟨_,_,rfl,(zw<|yK (d:=(List.range n).map λa=>yq (n+m)<|jn n (st g a) λ_=>0) ?_).trans (Uw (d:=yG (n+m)<|y4 n st su g) rfl ?_<|by rw[qf,qw];omega),.pu<|.int (g:Int),.ow<|(List.range n).map λa=>yq (n+m)<|jn n (st g a) λ_=>0,?_⟩
   ·exact zS (xs:=List.range n) (e:=λa=>yq n<|st g a) (vL<|(zg ((zg rfl rfl).trans jB) rfl).trans<|Zw hg) (by rw[qw];omega) λa _=>yr.trans ((zg rfl rfl).trans<|wZ<|by omega)
   ·refine(ze (xs:=[.list<|(List.range<|n+m).map λx=>yq (n+m)<|y4 n st su g x])<|zm (zX ?_) rfl).trans rfl;refine(Ii rfl (zS (xs:=List.range m) (e:=λb=>yq m<|su g b) (d:=λb=>yq (n+m)<|jn n (λ_=>0)<|su g b) (vL<|(zg ((zg rfl rfl).trans jB) rfl).trans<|Zw hg) (by rw[qw];omega) λb _=>yr.trans<|(zg rfl rfl).trans<|wZ<|by omega)<|by rw[qf,qf,qw,qw];omega).trans<|qM some ?_;refine V7 n m _ _ _ (λi hi=>?_) λi hi=>?_
    ·show _=yq (n+m) (fz n (st g) (λ_ _=>0) (su g) i)
     unfold fz;rw[qj hi]
    ·show _=yq (n+m) (fz n (st g) (λ_ _=>0) (su g)<|n+i)
     unfold fz;rw[qm (by omega),show n+i - n=i by omega]
   ·rw[gM,q9];rfl
 refine zM rfl ?_;refine(zw<|zI<|nz n fi _ _ hn<|(zg rfl rfl).trans vb).trans<|(zw<|zI<|nz m gi _ _ hm<|(zg rfl rfl).trans vb).trans<|(zw<|yK (d:=[]) rfl).trans<|(zw e1).trans<|zG ?_;exact(U2 ((zg ((zg rfl rfl).trans vb)<|(zg rfl rfl).trans vb).trans<|wZ<|by omega) ((ze rfl).trans rfl)<|(zg ((zg rfl rfl).trans w8)<|(zg rfl rfl).trans w8).trans<|wZ<|by omega).trans rfl
noncomputable def b9(i j:Nat)(c:Rat)(f:Q1x):Nat->Rat:=λx=>if x=j then f j+c*f i else f x
def uB{c:Rat}{f:Q1x}(hn:n<=42)(hi:i<n)(hj:j<n)(hk:k<=300)(hf:∀x,x<n->Sk k (f x))(hc:Sk 1 c):xn [qd t n f,.int (i:Int),.int (j:Int),fr c]=some ((List.range n).map λx=>fr<|b9 i j c f x):=by
 have hl:wF [qd t n f]=some ((List.range n).map λx=>fr<|f x):=by cases t<;>rfl
 refine um rfl ?_;refine(zw<|yK<|(xc rfl).trans hl).trans<|(zw<|Iw (a:=j) (d:=fr<|f j+c*f i) rfl ?_ rfl<|by rw[qf,qw];exact hj).trans<|vw ?_
 ·exact(ze<|zm ((zg rfl rfl).trans<|Uc hj)<|zm ((ze<|zm rfl<|zm ((zg rfl rfl).trans<|Uc hi) rfl).trans<|Vd (hc.bq<|by omega)<|(hf i hi).bq<|by omega) rfl).trans (WQ ((hf j hj).bq<|by omega)<|(hc.mul<|hf i hi).bq<|by omega)
 ·rw[set_range];show some _=_
  refine qM some<|kf λx _=>?_;unfold b9;by_cases q:x=j
  ·rw[qj q,qj q]
  ·rw[qm q,qm q]
def RA{c:Rat}{f:Q1x}(hi:i<n)(hj:j<n)(hf:∀x,x<n->Sk k (f x))(hc:Sk 1 c):∀x,x<n->Sk (k+2) (b9 i j c f x):=λx hx=>by
 unfold b9;split
 ·have a:Sk (k+1) (c*f i):=by
   have:=hc.mul<|hf i hi;rwa[nW] at this
  exact((hf j hj).mono<|by omega).add a
 ·exact(hf x hx).mono (by omega)
def vD(i j:Nat)(c:Rat)(st:Q3x):Nat->Nat->Nat->Rat:=λg a b=>if a=i then b9 i j c (st g i) b+-c*b9 i j c (st g j) b else b9 i j c (st g a) b
def DZ(h:Sk k q):Sk k (-q):=by
 obtain⟨hm,x,e,hx⟩:=h;refine⟨hm,-x,?_,by rw[nE];exact hx⟩;rw[nc];grind
def RB(c:Rat):PyData.tuple [.int<|0 - c.num,.int (c.den:Int)]=fr (-c):=by
 unfold fr;rw[Rat.neg_num,Rat.neg_den];congr 3;omega
def RC{c:Rat}(hn:n<=42)(hs:s<=42)(hi:i<n)(hj:j<n)(hk:k<=300)(A:Ab n s fi st la k)(hc:Sk 1 c):ua [zt n s fi st la,.int (i:Int),.int (j:Int),fr c]=some (zt n s (b9 i j c fi) (vD i j c st)<|b9 j i (-c) la):=by
 obtain⟨bX,e1,o8,o9,rfl⟩:=vm (ds:=(List.range s).map λg=>yG n<|st g) (it:=yc<|bM bS af<|cst<|.int 1) (bd:=bN 8)
  (b:=sq a8<|sq aw<|fh 7<|zi zZ<|aC (yt<|zQ 1 [] (yc<|gb 9) aq<|zi zZ<|aC af a0) a0)
  (ρ0:=[.pu<|zt n s fi st la,.pu<|.int (i:Int),.pu<|.int (j:Int),.pu<|fr c,.pu<|fr<|-c,.ow<|(List.range n).map λx=>fr<|b9 i j c fi x,.ow<|(List.range n).map λx=>fr<|b9 j i (-c) la x,.ow [],.no,.no])
  (λg ρ=>∃o8 o9,ρ=[.pu<|zt n s fi st la,.pu<|.int (i:Int),.pu<|.int (j:Int),.pu<|fr c,.pu<|fr<|-c,.ow<|(List.range n).map λx=>fr<|b9 i j c fi x,.ow<|(List.range n).map λx=>fr<|b9 j i (-c) la x,.ow<|(List.range g).map λg=>yG n<|vD i j c st g,o8,o9])
  (vL<|(zg rfl rfl).trans jB) ⟨.no,.no,rfl⟩ λg d ρ hd ⟨o8,o9,q⟩=>by
   subst q;rw[qp] at hd;obtain⟨g',dg,rfl⟩:=map_some hd;have iJ:g'<s:=qx.mp<|qI dg
   have:g'=g:=by
    obtain⟨h1,h2⟩:=qg.mp dg;rw[px] at h2;exact h2.symm
   subst this;have R:∀a,a<n->∀x,x<n->Sk (k+2) (b9 i j c (st g' a) x):=λa ha=>RA hi hj (λx hx=>A.st g' a x iJ ha hx) hc
   refine⟨_,_,rfl,(zw<|yK (d:=(List.range n).map λa=>.list<|(List.range n).map λx=>fr<|b9 i j c (st g' a) x) ?_).trans<|(zw<|Iw (a:=i) (d:=.list<|(List.range n).map λb=>fr<|b9 i j c (st g' i) b+-c*b9 i j c (st g' j) b) rfl (zX ?_) rfl<|by rw[qf,qw];exact hi).trans<|Uw (d:=yG n<|vD i j c st g') rfl ?_ ?_,.pu<|yG n<|st g',.ow<|((List.range n).map λa=>PyData.list<|(List.range n).map λx=>fr<|b9 i j c (st g' a) x).set i<|.list<|(List.range n).map λb=>fr<|b9 i j c (st g' i) b+-c*b9 i j c (st g' j) b,?_⟩
   ·exact zS (xs:=List.range n) (e:=λa=>yq n<|st g' a) rfl (by rw[qw];omega) λa ha=>yr.trans<|zX<|(xc rfl).trans<|uB (t:=true) hn hi hj hk (λx hx=>A.st g' a x iJ (qx.mp ha) hx) hc
   ·refine vg (n:=n) (zm ((ze rfl).trans<|show yh [.list<|(List.range n).map _]=_ from ?_) rfl) (by omega) λb hb=>yr.trans ?_
    ·show some (PyData.int (((List.range n).map _).length:Int))=_
     rw[qf,qw]
    ·exact(ze<|zm ((zg ((zg rfl rfl).trans<|Uc hi) rfl).trans<|Uc hb)<|zm ((ze<|zm rfl<|zm ((zg ((zg rfl rfl).trans<|Uc hj) rfl).trans<|Uc hb) rfl).trans<|Vd ((DZ hc).bq<|by omega)<|(R j hj b hb).bq<|by omega) rfl).trans (WQ ((R i hi b hb).bq<|by omega)<|((DZ hc).mul<|R j hj b hb).bq<|by omega)
   ·rw[set_range];refine(ze (xs:=[.list<|(List.range n).map λa=>yq n<|vD i j c st g' a])<|zm (zX<|zS (xs:=List.range n) (e:=λa=>if a=i then PyData.list ((List.range n).map λb=>fr<|b9 i j c (st g' i) b+-c*b9 i j c (st g' j) b) else PyData.list ((List.range n).map λx=>fr<|b9 i j c (st g' a) x)) rfl (by rw[qw];omega) λa ha=>yr.trans ?_) rfl).trans rfl;show zi zZ (aC af a0) [.pu<|if a=i then _ else _]=some (yq n λb=>vD i j c st g' a b)
    unfold vD;by_cases q:a=i
    ·rw[qj q];refine((ze rfl).trans rfl).trans ?_;show some (PyData.tuple _)=some (PyData.tuple _)
     refine qM (λl=>some<|PyData.tuple l)<|kf λb _=>?_;exact qM fr (qj q).symm
    ·rw[qm q];refine((ze rfl).trans rfl).trans ?_;show some (PyData.tuple _)=some (PyData.tuple _)
     refine qM (λl=>some<|PyData.tuple l)<|kf λb _=>?_;exact qM fr (qm q).symm
   ·rw[qf,qw];omega
   ·rw[gM,q9];rfl
 rw[qf,qw] at e1;refine zM rfl ?_;refine(zw<|zI (d:=fr<|-c)<|(t9 (x:=.int<|0 - c.num) (y:=.int (c.den:Int)) rfl rfl).trans<|qM some<|RB c).trans ?_;refine(zw<|yK<|(xc<|zm ((zg rfl rfl).trans vb) rfl).trans<|uB (t:=true) hn hi hj hk A.fi hc).trans ?_;refine(zw<|yK<|(xc<|zm ((zg rfl rfl).trans w8) rfl).trans<|uB (t:=true) hn hj hi hk A.la<|DZ hc).trans ?_;refine(zw<|yK (d:=[]) rfl).trans<|(zw e1).trans<|zG ?_;exact(U2 ((ze rfl).trans rfl) ((ze rfl).trans rfl)<|(ze rfl).trans rfl).trans rfl
end
section
theorem wA(F:Q1x)(G:Rat){p:Nat}:∀n,p<n->sumTo n (λa=>if a=p then F a+G else F a)=sumTo n F+G
 |0,h=>absurd h<|gc _
 |n+1,h=>by
  show sumTo n (λa=>if a=p then F a+G else F a)+(if n=p then F n+G else F n)=(sumTo n F+F n)+G
  by_cases e:n=p
  ·subst e;rw[qj rfl,zb n (g:=F) λi hi=>qm<|by omega];grind
  ·rw[qm e,wA F G n<|by omega];grind
def Iy{c:Rat}(hi:i<n)(hj:j<n)(dh:i≠j)(r:Q1x)(g:Nat):∀b,led n (b9 i j c r) (vD i j c st g) b=b9 i j c (led n r<|st g) b:=λb=>by
 have e1:led n (b9 i j c r) (vD i j c st g) b=sumTo n λa=>r a*b9 i j c (st g a) b:=by
  show sumTo n (λa=>b9 i j c r a*vD i j c st g a b)=_
  have q:∀a,b9 i j c r a*vD i j c st g a b=if a=i then (λa=>if a=j then r a*b9 i j c (st g a) b+c*r i*b9 i j c (st g j) b else r a*b9 i j c (st g a) b) a+-(c*r i*b9 i j c (st g j) b) else (λa=>if a=j then r a*b9 i j c (st g a) b+c*r i*b9 i j c (st g j) b else r a*b9 i j c (st g a) b) a:=λa=>by
   show(if a=j then r j+c*r i else r a)*(if a=i then b9 i j c (st g i) b+-c*b9 i j c (st g j) b else b9 i j c (st g a) b)=_
   by_cases q1:a=i
   ·subst q1;rw[qm dh,qj rfl,qj rfl];show _=(if a=j then _ else _)+_
    rw[qm dh];grind
   ·rw[qm q1,qm q1];show _=if a=j then _ else _
    by_cases q2:a=j
    ·subst q2;rw[qj rfl,qj rfl];grind
    ·rw[qm q2,qm q2]
  rw[zb n λa _=>q a,wA _ _ n hi,wA (λa=>r a*b9 i j c (st g a) b) _ n hj];grind
 rw[e1];show _=if b=j then _ else _
 by_cases q:b=j
 ·subst q;rw[qj rfl,zb n (g:=λa=>r a*st g a b+r a*st g a i*c) λa _=>by
   show r a*(if b=b then st g a b+c*st g a i else st g a b)=_
   rw[qj rfl];grind,J3,zC]
  show led n r (st g) b+led n r (st g) i*c=_
  grind
 ·rw[qm q];exact zb n λa _=>by
   show r a*(if b=j then st g a j+c*st g a i else st g a b)=_
   rw[qm q]
theorem Iz{i j:Nat}{c:Rat}(hi:i<n)(hj:j<n)(dh:i≠j):∀(ws:LNt)(r:Q1x),wt n (vD i j c st) (b9 i j c r) (b9 j i (-c) la) ws=wt n st r la ws
 |[],r=>by
  show sumTo n (λa=>b9 i j c r a*b9 j i (-c) la a)=sumTo n λa=>r a*la a
  have q:∀a,b9 i j c r a*b9 j i (-c) la a=if a=i then (λa=>if a=j then r a*la a+c*r i*la j else r a*la a) a+-(c*r i*la j) else (λa=>if a=j then r a*la a+c*r i*la j else r a*la a) a:=λa=>by
   show(if a=j then r j+c*r i else r a)*(if a=i then la i+-c*la j else la a)=_
   by_cases q1:a=i
   ·subst q1;rw[qm dh,qj rfl,qj rfl];show _=(if a=j then _ else _)+_
    rw[qm dh];grind
   ·rw[qm q1,qm q1];show _=if a=j then _ else _
    by_cases q2:a=j
    ·subst q2;rw[qj rfl,qj rfl];grind
    ·rw[qm q2,qm q2]
  rw[zb n λa _=>q a,wA _ _ n hi,wA (λa=>r a*la a) _ n hj];grind
 |g::ws,r=>by
  show wt n (vD i j c st) (led n (b9 i j c r)<|vD i j c st g) (b9 j i (-c) la) ws=wt n st (led n r<|st g) la ws
  rw[show led n (b9 i j c r) (vD i j c st g)=b9 i j c (led n r<|st g) from funext λb=>Iy hi hj dh r g b];exact Iz hi hj dh ws _
theorem Uo:∀(ws:LNt)(r:Q1x),(∀x,x<n->r x=0)->wt n st r la ws=0
 |[],r,h=>by
  show sumTo n (λa=>r a*la a)=0
  rw[zb n (g:=λ_=>0) λa ha=>by rw[h a ha];exact ki _,jQ]
 |g::ws,r,h=>by
  show wt n st (led n r<|st g) la ws=0
  refine Uo ws _ λx _=>?_
  show sumTo n (λa=>r a*st g a x)=0
  rw[zb n (g:=λ_=>0) λa ha=>by rw[h a ha];exact ki _,jQ]
def RD(ws:LNt)(r:Q1x):wt n st r (λ_=>0) ws=0:=by
 show sumTo n (λa=>zE n st r ws a*0)=0
 rw[zb n (g:=λ_=>0) λa _=>kI _,jQ]
end
end L2.Fu
namespace WD.DT
theorem yB{f g:Z1x}:∀n,(∀i,i<n->f i=g i)->yz n f=yz n g
 |0,_=>rfl
 |n+1,h=>by
  show yz n f+f n=yz n g+g n
  rw[yB n λi hi=>h i<|mO hi,h n<|kZ n]
theorem we:∀n,yz n (λ_=>0)=0
 |0=>rfl
 |n+1=>by
  show yz n (λ_=>0)+0=0
  rw[we n];rfl
theorem U4(f:Z1x):∀n,yz n (λi=>- f i)=- yz n f
 |0=>rfl
 |n+1=>by
  show yz n (λi=>- f i)+- f n=-(yz n f+f n)
  rw[U4 f n];omega
theorem YY(f g:Z1x):∀n,yz n (λi=>f i+g i)=yz n f+yz n g
 |0=>rfl
 |n+1=>by
  show yz n (λi=>f i+g i)+(f n+g n)=(yz n f+f n)+(yz n g+g n)
  rw[YY f g n];omega
theorem uV(c:Int)(f:Z1x):∀n,yz n (λi=>c*f i)=c*yz n f
 |0=>by
  show(0:Int)=c*0
  rw[mB]
 |n+1=>by
  show yz n (λi=>c*f i)+c*f n=c*(yz n f+f n)
  rw[uV c f n,Int.mul_add]
theorem VR(f:Nat->Nat->Int)(m:Nat):∀n,yz n (λa=>yz m λb=>f a b)=yz m λb=>yz n λa=>f a b
 |0=>(we m).symm
 |n+1=>by
  show yz n (λa=>yz m λb=>f a b)+yz m (λb=>f n b)=yz m λb=>yz n (λa=>f a b)+f n b
  rw[VR f m n,YY]
theorem IA(f:Z1x){j:Nat}:∀n,j<n->yz n (λi=>if i=j then f i else 0)=f j
 |0,h=>absurd h<|gc _
 |n+1,h=>by
  show yz n (λi=>if i=j then f i else 0)+(if n=j then f n else 0)=f j
  by_cases e:n=j
  ·subst e;rw[qj rfl,yB n (g:=λ_=>0) λi hi=>qm (by omega),we];omega
  ·rw[qm e,IA f n<|by omega];omega
theorem IB(g:Z1x){j:Nat}:∀m,j<=m->yz m g=yz (m+1) λk=>if k=j then 0 else g (if k<j then k else k - 1)
 |0,h=>by
  have:j=0:=by omega
  subst this;rfl
 |m+1,h=>by
  show yz m g+g m=yz (m+1) (λk=>if k=j then 0 else g (if k<j then k else k - 1))+(if m+1=j then 0 else g (if m+1<j then m+1 else m+1 - 1))
  by_cases e:m+1=j
  ·rw[qj e,yB (m+1) (g:=g) λi hi=>by rw[qm (by omega),qj<|by omega]];show _=yz m g+g m+0
   omega
  ·rw[qm e,qm (by omega),<-IB g m (by omega)];rfl
noncomputable def sg(j:Nat):Int:=if j % 2=0 then 1 else -1
def IC(j:Nat):sg (j+1)=- sg j:=by
 unfold sg;by_cases h:j % 2=0
 ·rw[qj h,qm<|by omega]
 ·rw[qm h,qj<|by omega];rfl
def D0(j:Nat):sg j*sg j=1:=by
 unfold sg;split<;>rfl
theorem erase_comm{α:Type}:∀(S:List α)(j k:Nat),k<j->(S.eraseIdx j).eraseIdx k=(S.eraseIdx k).eraseIdx (j - 1)
 |[],_,_,_=>rfl
 |x::S,0,k,h=>absurd h<|gc _
 |x::S,j+1,0,h=>rfl
 |x::S,j+1,k+1,h=>by
  show x::(S.eraseIdx j).eraseIdx k=(x::S.eraseIdx k).eraseIdx (j+1 - 1)
  have e:j+1 - 1=(j - 1)+1:=by omega
  rw[e,erase_comm S j k<|by omega];rfl
def RE(S:LNt)(hk:k≠j):(S.eraseIdx j).getD (if k<j then k else k - 1) 0=S.getD k 0:=by
 rw[qB,qB,List.getElem?_eraseIdx];by_cases h:k<j
 ·rw[qj h,qj h]
 ·rw[qm h,qm (by omega),show k - 1+1=k by omega]
noncomputable def det:List (Nat->Int)->List Nat->Int
 |[],_=>1
 |r::R,S=>yz S.length λj=>sg j*(r (S.getD j 0)*det R (S.eraseIdx j))
def ID(r r':Z1x)(R:LZr)(S:LNt):det (r::r'::R) S=yz S.length λj=>yz S.length λk=>if k=j then 0 else
  sg j*sg (if k<j then k else k - 1)*(r (S.getD j 0)*r' (S.getD k 0))*det R ((S.eraseIdx j).eraseIdx<|if k<j then k else k - 1):=by
 show yz S.length (λj=>sg j*(r (S.getD j 0)*det (r'::R) (S.eraseIdx j)))=_
 refine yB _ λj hj=>?_
 have e:det (r'::R) (S.eraseIdx j)=yz (S.length - 1) λk=>sg k*(r' ((S.eraseIdx j).getD k 0)*det R ((S.eraseIdx j).eraseIdx k)):=by
  show yz (S.eraseIdx j).length _=_
  rw[gR hj]
 rw[e,IB _ (j:=j) (S.length - 1) (by omega),show S.length - 1+1=S.length by omega,<-Int.mul_assoc,<-uV];refine yB _ λk hk=>?_
 by_cases h:k=j
 ·rw[qj h,qj h,mB]
 ·rw[qm h,qm h,RE S h];generalize sg (if k<j then k else k - 1)=a;generalize det R _=d;grind
def IE(r r':Z1x)(R:LZr)(S:LNt):det (r::r'::R) S=- det (r'::r::R) S:=by
 rw[ID r r',ID r' r,VR,<-U4];refine yB _ λk hk=>?_
 rw[<-U4];refine yB _ λj hj=>?_
 by_cases h:k=j
 ·subst h;rw[qj rfl,qj rfl];rfl
 ·rw[qm h,qm<|gE h];by_cases hl:k<j
  ·rw[qj hl,qm (by omega),erase_comm S j k hl];obtain⟨i,rfl⟩:∃i,j=i+1:=⟨j - 1,by omega⟩;rw[show i+1 - 1=i by omega,IC];generalize det R _=d;grind
  ·have hl:j<k:=by omega
   rw[qm (by omega),qj hl,erase_comm S k j hl];obtain⟨i,rfl⟩:∃i,k=i+1:=⟨k - 1,by omega⟩;rw[show i+1 - 1=i by omega,IC];generalize det R _=d;grind
theorem IF{r:Z1x}:∀{R:LZr} (S:LNt),r∈R->det (r::R) S=0
 |[],_,h=>by cases h
 |b::R,S,h=>by
  rcases qy.mp h with z|z
  ·subst z
   have:=IE r r R S;omega
  ·rw[IE];show -(yz S.length λj=>sg j*(b (S.getD j 0)*det (r::R) (S.eraseIdx j)))=0
   rw[yB S.length (g:=λ_=>0) λj hj=>by rw[IF _ z,mB,mB],we];rfl
def vec(R:LZr)(S:LNt)(x:Nat):Int:=yz S.length λj=>if S.getD j 0=x then sg j*det R (S.eraseIdx j) else 0
def D3{S:LNt}(R:LZr)(r:Z1x)(h:∀x∈S,x<n):yz n (λx=>vec R S x*r x)=det (r::R) S:=by
 have e:∀x,vec R S x*r x=yz S.length λj=>if x=S.getD j 0 then r x*(sg j*det R (S.eraseIdx j)) else 0:=λx=>by
  unfold vec;rw[Int.mul_comm,<-uV];refine yB _ λj _=>?_
  by_cases q:S.getD j 0=x
  ·rw[qj q,qj q.symm]
  ·rw[qm q,qm<|gE q,mB]
 rw[yB n λx _=>e x,VR];refine yB _ λj hj=>?_
 rw[IA _ n<|h _ ?_]
 ·generalize det R _=d;grind
 ·rw[qB,qk hj];exact gu hj
def IG{S:LNt}(h:∀x∈S,x<n)(hr:r∈R):yz n (λx=>vec R S x*r x)=0:=by
 rw[D3 R r h,IF S hr]
def IH{S:LNt}{x:Nat}(h:x∉S):vec R S x=0:=by
 unfold vec;rw[yB S.length (g:=λ_=>0) λj hj=>qm λq=>h ?_,we];rw[<-q,qB,qk hj];exact gu hj
def II{f:Nat}(h:f∉T):vec R (T++[f]) f=sg T.length*det R T:=by
 unfold vec;rw[qz];show yz T.length (λj=>if (T++[f]).getD j 0=f then sg j*det R ((T++[f]).eraseIdx j) else 0)+(if (T++[f]).getD T.length 0=f then sg T.length*det R ((T++[f]).eraseIdx T.length) else 0)=_
 rw[yB T.length (g:=λ_=>0) λj hj=>qm λq=>h ?_,we,qj,pC<|qe _,gy]
 ·rw[show[f].eraseIdx 0=[] from rfl,km];omega
 ·rw[qB,qF<|qe _,gy];rfl
 ·rw[<-q,qB,qQ hj,qk hj];exact gu hj
abbrev dt(n:Nat)(f g:Z1x):Int:=yz n λx=>f x*g x
abbrev dq(n:Nat)(f g:Q1x):Rat:=sumTo n λx=>f x*g x
noncomputable abbrev rt(f:Z1x):Nat->Rat:=λx=>(f x:Rat)
def JU(f g:Z1x):dq n (rt f) (rt g)=((dt n f g:Int):Rat):=by
 unfold dq dt rt;rw[JV];exact zb n λi _=>(kG _ _).symm
def IJ(a b:Int)(f g h:Z1x):dt n (λx=>a*f x - b*g x) h=a*dt n f h - b*dt n g h:=by
 unfold dt;rw[<-uV,<-uV,Int.sub_eq_add_neg,<-U4,<-YY];exact yB n λi _=>by grind
def BM(a:Int)(f h:Z1x):dt n (λx=>a*f x) h=a*dt n f h:=by
 unfold dt;rw[<-uV];exact yB n λi _=>by grind
def Zg{f f' h:Z1x}(e:∀x,x<n->f x=f' x):dt n f h=dt n f' h:=yB n λi hi=>by rw[e i hi]
theorem zT:∀n,sumTo n (λ_=>(0:Rat))=0
 |0=>rfl
 |n+1=>by
  show sumTo n (λ_=>(0:Rat))+0=0
  rw[zT n];grind
theorem yu(f:Q2x)(m:Nat):∀n,sumTo n (λa=>sumTo m λb=>f a b)=sumTo m λb=>sumTo n λa=>f a b
 |0=>(zT m).symm
 |n+1=>by
  show sumTo n (λa=>sumTo m λb=>f a b)+sumTo m (λb=>f n b)=sumTo m λb=>sumTo n (λa=>f a b)+f n b
  rw[yu f m n,J3]
theorem yf(f:Q1x){j:Nat}:∀n,j<n->(∀i,i<n->i≠j->f i=0)->sumTo n f=f j
 |0,h,_=>absurd h<|gc _
 |n+1,h,k=>by
  show sumTo n f+f n=f j
  by_cases e:n=j
  ·subst e;rw[zb n (g:=λ_=>0) λi hi=>k i (by omega) (by omega),zT];grind
  ·rw[yf f n (by omega) λi hi=>k i (by omega),k n (by omega) e];grind
theorem VQ(u v:Q1x):∀n,sumTo n u - sumTo n v=sumTo n λx=>u x - v x
 |0=>by
  show(0:Rat) - 0=0
  grind
 |n+1=>by
  have:=VQ u v n;show(sumTo n u+u n) - (sumTo n v+v n)=sumTo n (λx=>u x - v x)+(u n - v n)
  rw[<-this];grind
def Y0(a b:Rat)(f g h:Q1x):dq n (λx=>a*f x - b*g x) h=a*dq n f h - b*dq n g h:=by
 have e1:a*sumTo n (λx=>f x*h x)=sumTo n λx=>f x*h x*a:=by rw[zC];exact kg _ _
 have e2:b*sumTo n (λx=>g x*h x)=sumTo n λx=>g x*h x*b:=by rw[zC];exact kg _ _
 show sumTo n (λx=>(a*f x - b*g x)*h x)=a*sumTo n (λx=>f x*h x) - b*sumTo n (λx=>g x*h x)
 rw[e1,e2,VQ];exact zb n λi _=>by clear e1 e2;grind
def In(n:Nat)(R:LZr)(x:Q1x):Prop:=∀w:Nat->Rat,(∀r∈R,dq n w (rt r)=0)->dq n w x=0
structure Sp(n:Nat)(R:LZr)(T F:LNt)(C:LZr)(d:Int):Prop where
 d0:d≠0
 mem:∀x,x∈T++F↔x<n
 nd:(T++F).Nodup
 lenC:C.length=F.length
 ex:∃e:Int,e*e=1/\d=e*det R T/\∀(i:Nat)(c:Z1x)(f:Nat),C[i]?=some c->F[i]?=some f->∀x,x<n->c x=e*sg T.length*vec R (T++[f]) x
 ind:∀w:Nat->Rat,(∀x,x<n->x∉T->w x=0)->(∀r∈R,dq n w (rt r)=0)->∀x,x<n->w x=0
section
variable{C:LZr}{d:Int}
def Sp.free(h:Sp n R T F C d){f:Nat}(hf:F[i]?=some f):f<n/\f∉T:=by
 have hm:f∈F:=qI hf;exact⟨(h.mem f).mp<|qu.mpr<|.inr hm,λz=>(gm.mp h.nd).2.2 f z f hm rfl⟩
def Sp.lt(h:Sp n R T F C d){f:Nat}(hf:F[i]?=some f):∀x∈T++[f],x<n:=λx hx=>by
 rcases qu.mp hx with z|z
 ·exact(h.mem x).mp<|qu.mpr<|.inl z
 ·rw[qY.mp z];exact(h.free hf).1
def Sp.at(h:Sp n R T F C d){f:Nat}{c:Z1x}(hc:C[i]?=some c)(hf:F[i]?=some f):c f=d:=by
 obtain⟨e,e1,e2,e3⟩:=h.ex;obtain⟨h1,h2⟩:=h.free hf;rw[e3 i c f hc hf f h1,II h2,e2]
 have:=D0 T.length;grind
def Sp.out(h:Sp n R T F C d){f x:Nat}{c:Z1x}(hc:C[i]?=some c)(hf:F[i]?=some f)(hx:x<n)(ht:x∉T)(cQ:x≠f):c x=0:=by
 obtain⟨e,e1,e2,e3⟩:=h.ex;rw[e3 i c f hc hf x hx,IH λz=>?_,mB];rcases qu.mp z with z|z
 ·exact ht z
 ·exact cQ<|qY.mp z
def Sp.orth(h:Sp n R T F C d){f:Nat}{c:Z1x}(hc:C[i]?=some c)(hf:F[i]?=some f)(hr:r∈R):dt n c r=0:=by
 obtain⟨e,e1,e2,e3⟩:=h.ex;rw[Zg (f':=λx=>(e*sg T.length)*vec R (T++[f]) x) λx hx=>e3 i c f hc hf x hx,BM,show dt n (vec R<|T++[f]) r=0 from IG (h.lt hf) hr,mB]
def Vb{α:Type}{l:List α}{a b:α}(h:l[i]?=some a):l.getD i b=a:=by
 rw[qB,h];rfl
def r6{l:LNt}(h:l.Nodup){a:Nat}(ha:l[i]?=some a)(hb:l[j]?=some b)(dh:i≠j):a≠b:=λe=>by
 subst e;obtain⟨hi,e1⟩:=qg.mp ha;obtain⟨hj,e2⟩:=qg.mp hb;rcases Nat.lt_or_gt_of_ne dh with q|q
 ·exact gA.mp h i j hi hj q<|e1.trans e2.symm
 ·exact gA.mp h j i hj hi q<|e2.trans e1.symm
def Sp.ndF(h:Sp n R T F C d):F.Nodup:=(gm.mp h.nd).2.1
noncomputable def xC(i:Nat):Nat->Int:=λx=>if x=i then 1 else 0
def D4(n:Nat):Sp n [] [] (List.range n) ((List.range n).map xC) 1 where
 d0:=by decide
 mem:=λx=>by simp
 nd:=by simpa using nU
 lenC:=by simp
 ex:=⟨1,rfl,rfl,λi c f hc hf x hx=>by
  rw[qp] at hc;obtain⟨hi,e⟩:=qg.mp hf;rw[hf] at hc;cases hc;show xC f x=1*1*(0+(if f=x then sg 0*1 else 0))
  unfold xC;by_cases q:x=f
  ·rw[qj q,qj q.symm];rfl
  ·rw[qm q,qm<|gE q];rfl⟩
 ind:=λw h _ x hx=>h x hx (by simp)
def Sp.holds(h:Sp n R T F C d)(x:Q1x):(∀c∈C,dq n (rt c) x=0)↔In n R x:=by
 constructor
 ·intro hc w hw;have hz:(d:Rat)≠0:=λz=>h.d0 (by exact_mod_cast z)
  have key:∀y,y<n->(d:Rat)*w y - 1*sumTo F.length (λi=>w (F.getD i 0)*((C.getD i λ_=>0) y:Rat))=0:=by
   refine h.ind _ (λy hy ht=>?_) λr hr=>?_
   ·have RF:y∈F:=by
     rcases qu.mp ((h.mem y).mpr hy) with z|z
     ·exact absurd z ht
     ·exact z
    obtain⟨k,hk⟩:=qP RF;obtain⟨IK,_⟩:=qg.mp hk;obtain⟨c,IL⟩:∃c,C[k]?=some c:=⟨_,qk<|by rw[h.lenC];exact IK⟩;rw[yf _ (j:=k) _ IK λi hi RG=>?_]
    ·rw[Vb hk,Vb IL];show(d:Rat)*w y - 1*(w y*(c y:Rat))=0
     rw[h.at IL hk];grind
    ·obtain⟨c',og⟩:∃c,C[i]?=some c:=⟨_,qk<|by rw[h.lenC];exact hi⟩;obtain⟨f',r8⟩:∃f,F[i]?=some f:=⟨_,qk hi⟩;rw[Vb (l:=C) og];show _*((c' y:Int):Rat)=0
     rw[h.out og r8 hy ht<|r6 h.ndF hk r8<|gE RG];exact kI _
   ·rw[Y0];rw[hw r hr]
    have:dq n (λy=>sumTo F.length λi=>w (F.getD i 0)*((C.getD i λ_=>0) y:Rat)) (rt r)=0:=by
     unfold dq;rw[zb n (g:=λy=>sumTo F.length λi=>w (F.getD i 0)*((C.getD i λ_=>0) y:Rat)*(rt r) y) λy _=>(zC _ _ _).symm,yu,zb F.length (g:=λ_=>0) λi hi=>?_,zT];obtain⟨c',og⟩:∃c,C[i]?=some c:=⟨_,qk<|by rw[h.lenC];exact hi⟩;obtain⟨f',r8⟩:∃f,F[i]?=some f:=⟨_,qk hi⟩;rw[Vb (l:=C) og];show sumTo n (λy=>w (F.getD i 0)*(c' y:Rat)*(r y:Rat))=0
     rw[zb n (g:=λy=>((c' y:Rat)*(r y:Rat))*w (F.getD i 0)) λy _=>by grind,zC];have e:sumTo n (λy=>(c' y:Rat)*(r y:Rat))=dq n (rt c') (rt r):=rfl;rw[e,JU,h.orth og r8 hr];exact ki _
    rw[this];grind
  have e1:(d:Rat)*dq n w x - 1*dq n (λy=>sumTo F.length λi=>w (F.getD i 0)*((C.getD i λ_=>0) y:Rat)) x=0:=by
   rw[<-Y0];unfold dq;rw[zb n (g:=λ_=>0) λy hy=>(qM (·*_)<|key y hy).trans<|ki _,zT]
  have e2:dq n (λy=>sumTo F.length λi=>w (F.getD i 0)*((C.getD i λ_=>0) y:Rat)) x=0:=by
   unfold dq;rw[zb n (g:=λy=>sumTo F.length λi=>w (F.getD i 0)*((C.getD i λ_=>0) y:Rat)*x y) λy _=>(zC _ _ _).symm,yu,zb F.length (g:=λ_=>0) λi hi=>?_,zT];obtain⟨c',og⟩:∃c,C[i]?=some c:=⟨_,qk<|by rw[h.lenC];exact hi⟩;rw[Vb (l:=C) og];show sumTo n (λy=>w (F.getD i 0)*(c' y:Rat)*x y)=0
   rw[zb n (g:=λy=>((c' y:Rat)*x y)*w (F.getD i 0)) λy _=>by grind,zC];have e:sumTo n (λy=>(c' y:Rat)*x y)=dq n (rt c') x:=rfl;rw[e,hc c'<|qI og];exact ki _
  rw[e2] at e1;have e3:(d:Rat)*dq n w x=0:=by grind
  rcases kh.mp e3 with z|z
  ·exact absurd z hz
  ·exact z
 ·intro hx c hc;obtain⟨i,hi⟩:=qP hc;obtain⟨D5,_⟩:=qg.mp hi;obtain⟨f,hf⟩:∃f,F[i]?=some f:=⟨_,qk<|by rw[<-h.lenC];exact D5⟩;exact hx (rt c) λr hr=>by rw[JU,h.orth hi hf hr];rfl
noncomputable def nar(p d s:Int)(g c:Z1x):Nat->Int:=λx=>(p*c x - s*g x).fdiv d
def Sp.ind'(h:Sp n R T F C d){g:Nat}(hc:C[i]?=some cg)(hg:F[i]?=some g)(hp:dt n cg r≠0):∀w:Nat->Rat,(∀x,x<n->x∉T++[g]->w x=0)->(∀ρ∈r::R,dq n w (rt ρ)=0)->∀x,x<n->w x=0:=by
 intro w hs ho;obtain⟨g1,g2⟩:=h.free hg;have hz:(d:Rat)≠0:=λz=>h.d0 (by exact_mod_cast z)
 have RH:((dt n cg r:Int):Rat)≠0:=λz=>hp (by exact_mod_cast z)
 have key:∀x,x<n->(d:Rat)*w x - w g*(rt cg) x=0:=by
  refine h.ind _ (λx hx ht=>?_) λρ hr=>?_
  ·by_cases q:x=g
   ·subst q;show(d:Rat)*w x - w x*((cg x:Int):Rat)=0
    rw[h.at hc hg];grind
   ·show(d:Rat)*w x - w g*((cg x:Int):Rat)=0
    rw[h.out hc hg hx ht q,hs x hx λz=>by
     rcases qu.mp z with z|z
     ·exact ht z
     ·exact q<|qY.mp z]
    show(d:Rat)*0 - w g*0=0
    grind
  ·rw[Y0,ho ρ<|.tail _ hr,JU,h.orth hc hg hr];show(d:Rat)*0 - w g*0=0
   grind
 have e:(d:Rat)*dq n w (rt r) - w g*dq n (rt cg) (rt r)=0:=by
  rw[<-Y0];unfold dq;rw[zb n (g:=λ_=>0) λy hy=>(qM (·*_)<|key y hy).trans<|ki _,zT]
 rw[ho r<|.head _,JU] at e;have e2:w g*((dt n cg r:Int):Rat)=0:=by grind
 have wg:w g=0:=by
  rcases kh.mp e2 with z|z
  ·exact z
  ·exact absurd z RH
 intro x hx
 have:=key x hx;rw[wg] at this;have e3:(d:Rat)*w x=0:=by grind
 rcases kh.mp e3 with z|z
 ·exact absurd z hz
 ·exact z
def IM{α:Type}(l:List α)(i j:Nat):(l.eraseIdx i)[j]?=l[if j<i then j else j+1]?:=by
 rw[List.getElem?_eraseIdx];by_cases h:j<i
 ·rw[qj h,qj h]
 ·rw[qm h,qm h]
theorem Zr{α:Type}{a:α}:∀(l:List α)(i:Nat),l[i]?=some a->(a::l.eraseIdx i).Perm l
 |[],i,h=>by simp at h
 |x::l,0,h=>by
  have:x=a:=by simpa using h
  subst this;exact bb _
 |x::l,i+1,h=>by
  have ih:=Zr l i (by simpa using h);exact(List.Perm.swap x a _).trans<|ih.cons x
def Sp.nar(h:Sp n R T F C d){g:Nat}(hc:C[i]?=some cg)(hg:F[i]?=some g)(hp:dt n cg r≠0){e:Int}(e2:d=e*det R T)(e3:∀(i:Nat)(c:Z1x)(f:Nat),C[i]?=some c->F[i]?=some f->∀x,x<n->c x=e*sg T.length*vec R (T++[f]) x){f:Nat}{c:Z1x}(hk:C[k]?=some c)(hf:F[k]?=some f)(Af:k≠i):∀x,x<n->DT.nar (dt n cg r) d (dt n c r) cg c x=e*sg T.length*sg (T++[g]).length*vec (r::R) (T++[g]++[f]) x:=by
 have RI:f≠g:=r6 h.ndF hf hg Af;obtain⟨f1,f2⟩:=h.free hf;obtain⟨g1,g2⟩:=h.free hg;have D6:f∉T++[g]:=λz=>by
  rcases qu.mp z with z|z
  ·exact f2 z
  ·exact RI<|qY.mp z
 have cC:∀x∈T++[g]++[f],x<n:=λx hx=>by
  rcases qu.mp hx with z|z
  ·exact h.lt hg x z
  ·rw[qY.mp z];exact f1
 have ep:dt n cg r=e*sg T.length*det (r::R) (T++[g]):=by
  rw[Zg (f':=λx=>(e*sg T.length)*vec R (T++[g]) x) λx hx=>e3 i cg g hc hg x hx,BM,show dt n (vec R<|T++[g]) r=det (r::R) (T++[g]) from D3 R r<|h.lt hg]
 have key:=h.ind' hc hg hp (λx=>((d*(e*sg T.length*sg (T++[g]).length*vec (r::R) (T++[g]++[f]) x) - 1*(dt n cg r*c x - dt n c r*cg x):Int):Rat)) (λx hx ht=>?_) λρ hr=>?_
 ·intro x hx;have q:d*(e*sg T.length*sg (T++[g]).length*vec (r::R) (T++[g]++[f]) x) - 1*(dt n cg r*c x - dt n c r*cg x)=0:=by exact_mod_cast key x hx
  unfold DT.nar;rw[show dt n cg r*c x - dt n c r*cg x=d*(e*sg T.length*sg (T++[g]).length*vec (r::R) (T++[g]++[f]) x) by omega];exact nN _ h.d0
 ·have q:d*(e*sg T.length*sg (T++[g]).length*vec (r::R) (T++[g]++[f]) x) - 1*(dt n cg r*c x - dt n c r*cg x)=0:=by
   have D7:x∉T:=λz=>ht<|qu.mpr<|.inl z
   have IP:x≠g:=λz=>ht (qu.mpr<|.inr<|by rw[z];exact .head _)
   by_cases D8:x=f
   ·subst D8;rw[II D6,h.at hk hf,h.out hc hg hx D7 IP,ep]
    have:=D0 (T++[g]).length;generalize det (r::R) (T++[g])=D at*;generalize sg (T++[g]).length=a at*;grind
   ·rw[IH λz=>?_,h.out hk hf hx D7 D8,h.out hc hg hx D7 IP]
    ·simp
    ·rcases qu.mp z with z|z
     ·exact ht z
     ·exact D8<|qY.mp z
  exact_mod_cast q
 ·have q:dt n (λx=>d*(e*sg T.length*sg (T++[g]).length*vec (r::R) (T++[g]++[f]) x) - 1*(dt n cg r*c x - dt n c r*cg x)) ρ=0:=by
   rw[IJ d 1 (λx=>e*sg T.length*sg (T++[g]).length*vec (r::R) (T++[g]++[f]) x) (λx=>dt n cg r*c x - dt n c r*cg x) ρ,IJ,BM,show dt n (vec (r::R)<|T++[g]++[f]) ρ=0 from IG cC hr];rcases qy.mp hr with z|z
   ·subst z;rw[Int.mul_comm<|dt n c ρ];simp
   ·rw[h.orth hk hf z,h.orth hc hg z];simp
  have:=JU (n:=n) (λx=>d*(e*sg T.length*sg (T++[g]).length*vec (r::R) (T++[g]++[f]) x) - 1*(dt n cg r*c x - dt n c r*cg x)) ρ;rwa[q] at this
def Sp.take(h:Sp n R T F C d){g:Nat}(hc:C[i]?=some cg)(hg:F[i]?=some g)(hp:dt n cg r≠0):Sp n (r::R) (T++[g]) (F.eraseIdx i) ((C.eraseIdx i).map λc=>DT.nar (dt n cg r) d (dt n c r) cg c) (dt n cg r):=by
 obtain⟨e,e1,e2,e3⟩:=h.ex;obtain⟨hi,eg⟩:=qg.mp hg;have pm:(T++[g]++F.eraseIdx i).Perm (T++F):=by
  rw[g0];refine List.Perm.append_left T ?_;exact Zr F i hg
 refine⟨hp,λx=>?_,pm.nodup_iff.mpr h.nd,?_,⟨e*sg T.length,?_,?_,λj c' f hj hf x hx=>?_⟩,h.ind' hc hg hp⟩
 ·rw[pm.mem_iff];exact h.mem x
 ·rw[qf,gR hi,gR (by rw[h.lenC];exact hi),h.lenC]
 ·have:=D0 T.length;grind
 ·rw[Zg (f':=λx=>(e*sg T.length)*vec R (T++[g]) x) λx hx=>e3 i cg g hc hg x hx,BM,show dt n (vec R<|T++[g]) r=det (r::R) (T++[g]) from D3 R r<|h.lt hg]
 ·rw[IM] at hf;rw[qp,IM] at hj;cases hk:C[if j<i then j else j+1]? with
  |none=>rw[hk] at hj;cases hj
  |some c=>
   rw[hk] at hj;cases hj;exact h.nar hc hg hp e2 e3 hk hf (by split<;>omega) x hx
end
noncomputable def cd(s:Nat)(w:LNt):Nat:=w.foldl (λc a=>c*s+a+1) 0
def wX(s:Nat)(w:LNt)(a:Nat):cd s (w++[a])=cd s w*s+a+1:=by
 unfold cd;rw[List.foldl_append];rfl
def D9(s:Nat)(hs:0<s)(w:LNt)(a:Nat):cd s w<cd s (w++[a]):=by
 rw[wX]
 have:cd s w<=cd s w*s:=nT _ hs;omega
def RJ{v w:LNt}(h:cd s v<=cd s w)(a:Nat):cd s (v++[a])<=cd s (w++[a]):=by
 rw[wX,wX]
 have:cd s v*s<=cd s w*s:=kD _ h;omega
def RK{v w:LNt}(h:cd s v<cd s w){a:Nat}(ha:a<s):cd s (v++[a])<cd s (w++[b]):=by
 rw[wX,wX]
 have:(cd s v+1)*s<=cd s w*s:=kD _ h;rw[Nat.add_mul] at this;omega
def IQ(w:LNt):w=[]\/∃v a,w=v++[a]:=by
 rcases List.eq_nil_or_concat w with h|⟨v,a,h⟩
 ·exact .inl h
 ·exact .inr ⟨v,a,by rw[h,List.concat_eq_append]⟩
noncomputable def queue(s:Nat)(kept:List (List Nat)):List (List Nat):=[]::kept.flatMap λv=>(List.range s).map λa=>v++[a]
def Yt(s:Nat)(kept:List (List Nat))(u:LNt):queue s (kept++[u])=queue s kept++(List.range s).map λa=>u++[a]:=by
 unfold queue;rw[n8];simp
def J2{kept:List (List Nat)}{u:LNt}:u∈queue s kept↔u=[]\/∃v∈kept,∃a,a<s/\u=v++[a]:=by
 unfold queue;rw[qy,List.mem_flatMap];constructor
 ·rintro(h|⟨v,hv,h⟩)
  ·exact .inl h
  ·obtain⟨a,ha,rfl⟩:=qE.mp h;exact .inr ⟨v,hv,a,qx.mp ha,rfl⟩
 ·rintro(h|⟨v,hv,a,ha,rfl⟩)
  ·exact .inl h
  ·exact .inr ⟨v,hv,qE.mpr ⟨a,qx.mpr ha,rfl⟩⟩
def Vp{kept:List (List Nat)}(h:kept.Pairwise λv w=>cd s v<cd s w):(queue s kept).Pairwise λv w=>cd s v<cd s w:=by
 unfold queue;rw[List.pairwise_cons];constructor
 ·intro u hu;obtain⟨v,hv,h⟩:=pM.mp hu;obtain⟨a,ha,rfl⟩:=qE.mp h;rw[wX];show 0<_
  omega
 ·rw[List.pairwise_flatMap];constructor
  ·intro v hv;rw[List.pairwise_map];refine List.Pairwise.imp ?_ List.pairwise_lt_range;intro a b IS;rw[wX,wX];omega
  ·refine List.Pairwise.imp ?_ h;intro v w RL x hx y hy;obtain⟨a,ha,rfl⟩:=qE.mp hx;obtain⟨b,hb,rfl⟩:=qE.mp hy;exact RK RL<|qx.mp ha
def InK(n s:Nat)(row:List Nat->Nat->Rat)(kept:List (List Nat))(B:Nat)(x:Q1x):Prop:=∀w:Nat->Rat,(∀v∈kept,cd s v<B->dq n w (row v)=0)->dq n w x=0
def BN(w r:Q1x)(M:Q2x):dq n w (led n r M)=dq n (λx=>sumTo n λb=>M x b*w b) r:=by
 show sumTo n (λb=>w b*sumTo n λa=>r a*M a b)=sumTo n λa=>(sumTo n λb=>M a b*w b)*r a
 rw[zb n (g:=λb=>sumTo n λa=>r a*M a b*w b) λb _=>by rw[zC];exact kg _ _,yu];exact zb n λa _=>by
  rw[<-zC];exact zb n λb _=>by grind
section
variable{kept:List (List Nat)}
def wk(v:LNt)(a:Nat):zE n st fi (v++[a])=led n (zE n st fi v) (st a):=by
 rw[jR];rfl
theorem Wv{N:Nat}(hs:0<s)(h:∀u∈queue s kept,cd s u<N->InK n s (zE n st fi) kept (cd s u+1) (zE n st fi u)):∀(k:Nat)(w:LNt),w.length=k->(∀g∈w,g<s)->cd s w<N->InK n s (zE n st fi) kept (cd s w+1) (zE n st fi w)
 |0,w,hk,_,hN=>by
  have:w=[]:=gI.mp hk;subst this;exact h [] (J2.mpr<|.inl rfl) hN
 |k+1,w,hk,hg,hN=>by
  rcases IQ w with e|⟨v,a,e⟩
  ·rw[e] at hk;cases hk
  ·subst e;have ha:a<s:=hg a (by simp);have ih:=Wv hs h k v (by simpa using hk) (λg q=>hg g<|by simp[q])<|pH (D9 s hs v a) hN
   intro c hc;rw[wk,BN];refine ih _ λμ Ag cC=>?_
   rw[<-BN,<-wk];have hle:cd s (μ++[a])<=cd s (v++[a]):=RJ (by omega) a;exact h _ (J2.mpr<|.inr ⟨μ,Ag,a,ha,rfl⟩) (by omega) c λRM Ea Bl=>hc RM Ea (by omega)
structure Rc(n s:Nat)(st:Q3x)(fi:Q1x)(kept:List (List Nat))(a:Nat):Prop where
 le:a<=(queue s kept).length
 srt:kept.Pairwise λv w=>cd s v<cd s w
 sub:∀v∈kept,∃i,i<a/\(queue s kept)[i]?=some v
 ok:∀(i:Nat)(u:LNt),i<a->(queue s kept)[i]?=some u->InK n s (zE n st fi) kept (cd s u+1) (zE n st fi u)
def RN:Rc n s st fi [] 0:=⟨kx _,.nil,λ_ h=>(by cases h),λ_ _ h=>absurd h<|gc _⟩
def Rc.ahead(h:Rc n s st fi kept a){u:LNt}(hu:(queue s kept)[a]?=some u):∀v∈kept,cd s v<cd s u:=λv hv=>by
 obtain⟨i,hi,e⟩:=h.sub v hv;obtain⟨h1,e1⟩:=qg.mp e;obtain⟨h2,e2⟩:=qg.mp hu
 have:=gA.mp (Vp h.srt) i a h1 h2 hi;rwa[e1,e2] at this
def Rc.skip(h:Rc n s st fi kept a){u:LNt}(hu:(queue s kept)[a]?=some u)(Ec:∀w:Nat->Rat,(∀v∈kept,dq n w (zE n st fi v)=0)->dq n w (zE n st fi u)=0):Rc n s st fi kept (a+1):=by
 obtain⟨h2,e2⟩:=qg.mp hu;refine⟨h2,h.srt,λv hv=>?_,λi x hi hx=>?_⟩
 ·obtain⟨i,hi,e⟩:=h.sub v hv;exact⟨i,by omega,e⟩
 ·by_cases q:i=a
  ·subst q;rw[hu] at hx;cases hx;exact λw hw=>Ec w λv hv=>hw v hv<|mO<|h.ahead hu v hv
  ·exact h.ok i x (by omega) hx
def Rc.keep(h:Rc n s st fi kept a){u:LNt}(hu:(queue s kept)[a]?=some u):Rc n s st fi (kept++[u]) (a+1):=by
 obtain⟨h2,e2⟩:=qg.mp hu;have old:∀i,i<(queue s kept).length->(queue s<|kept++[u])[i]?=(queue s kept)[i]?:=λi hi=>by rw[Yt,qQ hi]
 have more:∀B x,InK n s (zE n st fi) kept B x->InK n s (zE n st fi) (kept++[u]) B x:=λB x q w hw=>q w λv hv hl=>hw v (qu.mpr<|.inl hv) hl
 refine⟨?_,?_,λv hv=>?_,λi x hi hx=>?_⟩
 ·rw[Yt,qz];omega
 ·rw[List.pairwise_append];exact⟨h.srt,List.pairwise_singleton _ _,λv hv w hw=>by rw[qY.mp hw];exact h.ahead hu v hv⟩
 ·rcases qu.mp hv with z|z
  ·obtain⟨i,hi,e⟩:=h.sub v z;exact⟨i,by omega,by rw[old i<|by omega];exact e⟩
  ·rw[qY.mp z];exact⟨a,kZ a,by rw[old a h2];exact hu⟩
 ·rw[old i<|by omega] at hx;by_cases q:i=a
  ·subst q;rw[hu] at hx;cases hx;exact λw hw=>hw u (qu.mpr<|.inr<|.head _)<|kZ _
  ·exact more _ _<|h.ok i x (by omega) hx
def Rc.known(h:Rc n s st fi kept a)(hN:∀(i:Nat)(u:LNt),(queue s kept)[i]?=some u->cd s u<N->i<a):∀u∈queue s kept,cd s u<N->InK n s (zE n st fi) kept (cd s u+1) (zE n st fi u):=λu hu hl=>by
 obtain⟨i,hi⟩:=qP hu;exact h.ok i u (hN i u hi hl) hi
def Rc.done(h:Rc n s st fi kept a)(hs:0<s)(hd:(queue s kept).length<=a)(w:LNt)(hg:∀g∈w,g<s):∀c:Nat->Rat,(∀v∈kept,dq n c (zE n st fi v)=0)->dq n c (zE n st fi w)=0:=λc hc=>
 Wv (N:=cd s w+1) hs (h.known λi u hi _=>qK (qg.mp hi).1 hd) _ w rfl hg (kZ _) c λv hv _=>hc v hv
def Rc.before(h:Rc n s st fi kept a)(hs:0<s){u:LNt}(hu:(queue s kept)[a]?=some u)(w:LNt)(hg:∀g∈w,g<s)(hw:cd s w<cd s u):∀c:Nat->Rat,(∀v∈kept,dq n c (zE n st fi v)=0)->dq n c (zE n st fi w)=0:=λc hc=>by
 refine Wv (N:=cd s u) hs (h.known λi x hi hl=>?_) _ w rfl hg hw c λv hv _=>hc v hv
 obtain⟨h1,e1⟩:=qg.mp hi;obtain⟨h2,e2⟩:=qg.mp hu;rcases pG i a with q|q|q
 ·exact q
 ·subst q;rw[hi] at hu;cases hu;omega
 ·have:=gA.mp (Vp h.srt) a i h2 h1 q;rw[e1,e2] at this;omega
def Rc.short(h:Rc n s st fi kept a)(hs:0<s):∀(i:Nat)(v:LNt),kept[i]?=some v->v.length<=i:=by
 intro i;induction i using Nat.strongRecOn with
 |_ i ih=>
  intro v hv;obtain⟨j,hj,e⟩:=h.sub v<|qI hv;rcases J2.mp (qI e) with q|⟨μ,Ag,b,hb,q⟩
  ·subst q;exact kx _
  ·subst q;obtain⟨k,hk⟩:=qP Ag;obtain⟨h1,e1⟩:=qg.mp hk;obtain⟨h2,e2⟩:=qg.mp hv;have cC:=D9 s hs μ b;have Af:k<i:=by
    rcases pG k i with q|q|q
    ·exact q
    ·subst q;rw[hk] at hv
     have:=kj hv;rw[<-this] at cC;omega
    ·have:=gA.mp h.srt i k h2 h1 q;rw[e1,e2] at this;omega
   have:=ih k Af μ hk;rw[qz];show μ.length+1<=i
   omega
def Rc.signs(h:Rc n s st fi kept a)(hs:0<s):∀(i:Nat)(v:LNt),kept[i]?=some v->∀g∈v,g<s:=by
 intro i;induction i using Nat.strongRecOn with
 |_ i ih=>
  intro v hv;obtain⟨j,hj,e⟩:=h.sub v<|qI hv;rcases J2.mp (qI e) with q|⟨μ,Ag,b,hb,q⟩
  ·subst q;exact λg hg=>by cases hg
  ·subst q;obtain⟨k,hk⟩:=qP Ag;obtain⟨h1,e1⟩:=qg.mp hk;obtain⟨h2,e2⟩:=qg.mp hv;have cC:=D9 s hs μ b;have Af:k<i:=by
    rcases pG k i with q|q|q
    ·exact q
    ·subst q;rw[hk] at hv
     have:=kj hv;rw[<-this] at cC;omega
    ·have:=gA.mp h.srt i k h2 h1 q;rw[e1,e2] at this;omega
   intro g hg;rcases qu.mp hg with z|z
   ·exact ih k Af μ hk g z
   ·rw[qY.mp z];exact hb
end
structure RS(n s:Nat)(st:Q3x)(fi:Q1x)(W:List (List Nat))(Rw:LZr)(T F:LNt)(C:LZr)(d:Int)(a:Nat):Prop where
 sp:Sp n Rw.reverse T F C d
 rc:Rc n s st fi W a
 len:W.length=Rw.length
 lenT:T.length=Rw.length
 mult:∀(i:Nat)(w:LNt)(r:Z1x),W[i]?=some w->Rw[i]?=some r->∃c:Rat,c≠0/\∀x,x<n->(r x:Rat)=c*zE n st fi w x
section
variable{W:List (List Nat)}{C:LZr}{d:Int}{a:Nat}
def IT:RS n s st fi [] [] [] (List.range n) ((List.range n).map xC) 1 0:=⟨D4 n,RN,rfl,rfl,λi w r h=>(by simp at h)⟩
def YI{c:Rat}{f w:Q1x}(h:∀x,x<n->(r x:Rat)=c*f x):dq n w (rt r)=c*dq n w f:=by
 show sumTo n (λx=>w x*(r x:Rat))=c*sumTo n λx=>w x*f x
 rw[zb n (g:=λx=>w x*f x*c) λx hx=>by rw[h x hx];grind,zC];exact kg _ _
def Ed(f g:Q1x):dq n f g=dq n g f:=zb n λx _=>kg _ _
def RS.orth(h:RS n s st fi W Rw T F C d a)(w:Q1x):(∀v∈W,dq n w (zE n st fi v)=0)↔∀r∈Rw.reverse,dq n w (rt r)=0:=by
 constructor
 ·intro q r hr;obtain⟨i,hi⟩:=qP<|kd.mp hr;obtain⟨hl,_⟩:=qg.mp hi;obtain⟨v,hv⟩:∃v,W[i]?=some v:=⟨_,qk<|by rw[h.len];exact hl⟩;obtain⟨c,hc,e⟩:=h.mult i v r hv hi;rw[YI e,q v<|qI hv];exact kI _
 ·intro q v hv;obtain⟨i,hi⟩:=qP hv;obtain⟨hl,_⟩:=qg.mp hi;obtain⟨r,hr⟩:∃r,Rw[i]?=some r:=⟨_,qk<|by rw[<-h.len];exact hl⟩;obtain⟨c,hc,e⟩:=h.mult i v r hi hr
  have:=q r<|kd.mpr<|qI hr;rw[YI e] at this;rcases kh.mp this with z|z
  ·exact absurd z hc
  ·exact z
def RS.skip(h:RS n s st fi W Rw T F C d a){u:LNt}{c:Rat}(hu:(queue s W)[a]?=some u)(hc:c≠0)(e:∀x,x<n->(r x:Rat)=c*zE n st fi u x)(hz:∀k∈C,dt n k r=0):RS n s st fi W Rw T F C d (a+1):=by
 refine⟨h.sp,h.rc.skip hu λw hw=>?_,h.len,h.lenT,h.mult⟩
 have:=(h.sp.holds<|rt r).mp (λk hk=>by rw[JU,hz k hk];rfl) w<|(h.orth w).mp hw;rw[YI e] at this;rcases kh.mp this with z|z
 ·exact absurd z hc
 ·exact z
def RS.keep(h:RS n s st fi W Rw T F C d a){u:LNt}{c:Rat}{g:Nat}(hu:(queue s W)[a]?=some u)(hc:c≠0)(e:∀x,x<n->(r x:Rat)=c*zE n st fi u x)(hi:C[i]?=some cg)(hg:F[i]?=some g)(hp:dt n cg r≠0):RS n s st fi (W++[u]) (Rw++[r]) (T++[g]) (F.eraseIdx i) ((C.eraseIdx i).map λc=>nar (dt n cg r) d (dt n c r) cg c) (dt n cg r) (a+1):=by
 refine⟨?_,h.rc.keep hu,by rw[qz,qz,h.len];rfl,by rw[qz,qz,h.lenT];rfl,λj v ρ hv BO=>?_⟩
 ·rw[List.reverse_append];exact h.sp.take hi hg hp
 ·by_cases q:j<W.length
  ·rw[qQ q] at hv;rw[qQ<|by rw[<-h.len];exact q] at BO;exact h.mult j v ρ hv BO
  ·obtain⟨hl,_⟩:=qg.mp hv;have hj:j=W.length:=by
    rw[qz] at hl;simp at hl;omega
   subst hj;rw[qF<|qe _,gy] at hv;rw[qF (by rw[h.len];exact qe _),h.len,gy] at BO;cases hv;cases BO;exact⟨c,hc,e⟩
def Sp.few(h:Sp n R T F C d):T.length+F.length=n:=by
 have p:(T++F).Perm (List.range n):=by
  rw[ba h.nd nU];intro x;rw[h.mem,qx]
 have:=p.length_eq;rwa[qz,qw] at this
def IU(w:LNt):wt n st fi la w=dq n la (zE n st fi w):=zb n λx _=>kg _ _
def RS.none(h:RS n s st fi W Rw T F C d a)(hs:0<s)(hd:(queue s W).length<=a\/F=[])(w:LNt)(hg:∀g∈w,g<s)(c:Q1x)(hc:∀v∈W,dq n c (zE n st fi v)=0):dq n c (zE n st fi w)=0:=by
 rcases hd with hd|hd
 ·exact h.rc.done hs hd w hg c hc
 ·have z:=h.sp.ind c (λx hx ht=>?_)<|(h.orth c).mp hc
  ·show sumTo n (λx=>c x*zE n st fi w x)=0
   rw[zb n (g:=λ_=>0) λx hx=>by rw[z x hx];exact ki _,zT]
  ·have:=(h.sp.mem x).mpr hx;rw[hd,km] at this;exact absurd this ht
def RS.first(h:RS n s st fi W Rw T F C d a)(hs:0<s){u:LNt}(hu:(queue s W)[a]?=some u)(hF:F≠[])(h0:∀v∈W,wt n st fi la v=0):(∀w,(∀g∈w,g<s)->cd s w<cd s u->wt n st fi la w=0)/\u.length<n/\∀g∈u,g<s:=by
 refine⟨λw hg hw=>?_,?_,?_⟩
 ·rw[IU];exact h.rc.before hs hu w hg hw la λv hv=>by rw[<-IU];exact h0 v hv
 ·have k:=h.rc.keep hu
  have:=k.short hs W.length u (by rw[qF<|qe _,gy];rfl);have f:=h.sp.few
  have:0<F.length:=n6.mpr hF;have l1:=h.len;have l2:=h.lenT
  omega
 ·have k:=h.rc.keep hu;exact k.signs hs W.length u (by rw[qF<|qe _,gy];rfl)
end
def Ee(j:Nat):(sg j).natAbs=1:=by
 unfold sg;split<;>rfl
theorem Ef{n B:Nat}:∀(R:LZr)(S:LNt),(∀r∈R,∀x,x<n->(r x).natAbs<=B)->(∀x∈S,x<n)->S.length<=n->(det R S).natAbs<=(n*B) ^ R.length
 |[],S,_,_,_=>by
  show(1:Int).natAbs<=1
  decide
 |r::R,S,hR,hS,hl=>by
  show(yz S.length λj=>sg j*(r (S.getD j 0)*det R (S.eraseIdx j))).natAbs<=_
  have h:=JC (f:=λj=>sg j*(r (S.getD j 0)*det R (S.eraseIdx j))) (B:=B*(n*B) ^ R.length) S.length λj hj=>by
   rw[kE,kE,Ee,mI];refine kY (hR r (.head _) _<|hS _ ?_)<|Ef R _ (λq hq=>hR q<|.tail _ hq) (λx hx=>hS x<|mE hx) ?_
   ·rw[qB,qk hj];exact gu hj
   ·rw[gR hj];omega
  refine qr h ?_;rw[ke,Nat.pow_succ,gG<|(n*B) ^ R.length,Nat.mul_assoc];exact kD _ hl
def RP(R:LZr)(S:LNt)(hR:∀r∈R,∀x,x<n->(r x).natAbs<=B)(hS:∀x∈S,x<n)(hl:S.length<=n)(x:Nat):(vec R S x).natAbs<=n*(n*B) ^ R.length:=by
 have h:=JC (f:=λj=>if S.getD j 0=x then sg j*det R (S.eraseIdx j) else 0) (B:=(n*B) ^ R.length) S.length λj hj=>by
  split
  ·rw[kE,Ee,mI];refine Ef R _ hR (λx hx=>hS x<|mE hx) ?_;rw[gR hj];omega
  ·exact kx _
 exact qr h<|kD _ hl
def IW{e:Int}(h:e*e=1):e.natAbs=1:=by
 have:=qM Int.natAbs h;rw[kE] at this;have h1:e.natAbs*e.natAbs=1:=this;exact Nat.eq_one_of_mul_eq_one_left h1
section
variable{C:LZr}{d:Int}
def Sp.zod(h:Sp n R T F C d):∀x∈T,x<n:=λx hx=>(h.mem x).mp<|qu.mpr<|.inl hx
def Sp.V3(h:Sp n R T F C d)(hT:T.length<=n)(hR:∀r∈R,∀x,x<n->(r x).natAbs<=B):d.natAbs<=(n*B) ^ R.length:=by
 obtain⟨e,e1,e2,_⟩:=h.ex;rw[e2,kE,IW e1,mI];exact Ef R T hR h.zod hT
def Sp.Wn(h:Sp n R T F C d)(hT:T.length+F.length=n)(hR:∀r∈R,∀x,x<n->(r x).natAbs<=B){c:Z1x}(hc:C[i]?=some c):∀x,x<n->(c x).natAbs<=n*(n*B) ^ R.length:=λx hx=>by
 obtain⟨e,e1,e2,e3⟩:=h.ex;obtain⟨hi,_⟩:=qg.mp hc;rw[h.lenC] at hi;obtain⟨f,hf⟩:∃f,F[i]?=some f:=⟨_,qk hi⟩;rw[e3 i c f hc hf x hx,kE,kE,IW e1,Ee,mI];refine RP R _ hR (h.lt hf) ?_ x;rw[qz];show T.length+1<=n
 omega
end
noncomputable def el(b:Q1x)(k:Nat)(r:Q1x):Nat->Rat:=λy=>r y - r k / b k*b y
noncomputable def pick(k:Nat):List (Nat->Rat)->Option ((Nat->Rat)×List (Nat->Rat))
 |[]=>none
 |q::Q=>if q k≠0 then some (q,Q) else (pick k Q).map λp=>(p.1,q::p.2)
noncomputable def rk:Nat->Nat->List (Nat->Rat)->Nat
 |0,_,_=>0
 |m+1,k,Q=>match pick k Q with
  |none=>rk m (k+1) Q
  |some p=>1+rk m (k+1) (p.2.map<|el p.1 k)
def eN(n:Nat)(L:LQr)(x:Q1x):Prop:=∀w:Nat->Rat,(∀l∈L,dq n w l=0)->dq n w x=0
theorem v8{k:Nat}:∀{Q:LQr},pick k Q=none->∀q∈Q,q k=0
 |[],_,q,h=>by cases h
 |p::Q,e,q,h=>by
  unfold pick at e;split at e
  ·cases e
  ·rename_i hp;have e2:pick k Q=none:=by
    cases z:pick k Q with
    |none=>rfl
    |some y=>rw[z] at e;cases e
   rcases qy.mp h with z|z
   ·rw[z];exact pK.mp hp
   ·exact v8 e2 q z
theorem wc{k:Nat}:∀{Q:LQr} {p:(Nat->Rat)×List (Nat->Rat)},pick k Q=some p->p.1 k≠0/\(p.1::p.2).Perm Q
 |[],p,e=>by cases e
 |q::Q,p,e=>by
  unfold pick at e;split at e
  ·rename_i hq;cases e;exact⟨hq,bb _⟩
  ·obtain⟨p',e1,e2⟩:∃p',pick k Q=some p'/\(p'.1,q::p'.2)=p:=by
    cases z:pick k Q with
    |none=>rw[z] at e;cases e
    |some y=>rw[z] at e;exact⟨y,rfl,by cases e;rfl⟩
   subst e2;obtain⟨h1,h2⟩:=wc e1;exact⟨h1,(List.Perm.swap q p'.1 p'.2).trans<|h2.cons q⟩
theorem Uj{k:Nat}{x:Q1x}:∀{Q:LQr} {p:(Nat->Rat)×List (Nat->Rat)},pick k Q=some p->pick k (Q++[x])=some (p.1,p.2++[x])
 |[],p,e=>by cases e
 |q::Q,p,e=>by
  unfold pick at e;show(if q k≠0 then some (q,Q++[x]) else (pick k<|Q++[x]).map λp=>(p.1,q::p.2))=_
  by_cases hq:q k≠0
  ·rw[qj hq] at e ⊢;cases e;rfl
  ·rw[qm hq] at e ⊢;cases z:pick k Q with
   |none=>rw[z] at e;cases e
   |some y=>
    rw[z] at e;cases e;rw[Uj z];rfl
theorem Uk{k:Nat}{x:Q1x}:∀{Q:LQr},pick k Q=none->pick k (Q++[x])=if x k≠0 then some (x,Q) else none
 |[],_=>by
  show(if x k≠0 then some (x,[]) else (none:Option ((Nat->Rat)×List (Nat->Rat))).map _)=_
  by_cases h:x k≠0
  ·rw[qj h,qj h]
  ·rw[qm h,qm h];rfl
 |q::Q,e=>by
  have hq:¬q k≠0:=λz=>z<|v8 e q<|.head _
  unfold pick at e;rw[qm hq] at e;have e2:pick k Q=none:=by
   cases z:pick k Q with
   |none=>rfl
   |some y=>rw[z] at e;cases e
  show(if q k≠0 then some (q,Q++[x]) else (pick k<|Q++[x]).map λp=>(p.1,q::p.2))=_
  rw[qm hq,Uk e2];by_cases h:x k≠0
  ·rw[qj h,qj h];rfl
  ·rw[qm h,qm h];rfl
def BP(w b r:Q1x)(k:Nat):dq n w (el b k r)=dq n w r - r k / b k*dq n w b:=by
 have h:=Y0 (n:=n) 1 (r k / b k) r b w;rw[Ed w r,Ed w b,Ed w<|el b k r];have e:dq n (el b k r) w=dq n (λx=>1*r x - r k / b k*b x) w:=zb n λx _=>by
  show(r x - r k / b k*b x)*w x=(1*r x - r k / b k*b x)*w x
  grind
 rw[e,h];grind
inductive ik:Nat->List (Nat->Rat)->Prop
 |nil {k:Nat}:ik k []
 |cons {k p:Nat} {b:Q1x} {P:LQr}:p<k->b p≠0->(∀y,y<p->b y=0)->ik p P->ik k (b::P)
def ik.mono{l:Nat}{P:LQr}(h:ik k P)(hl:k<=l):ik l P:=by
 cases h with
 |nil=>exact .nil
 |cons h1 h2 h3 h4=>exact .cons (by omega) h2 h3 h4
theorem ik.solve{n:Nat}:∀{P:LQr} {k:Nat},ik k P->k<=n->∀w:Nat->Rat,∃w':Nat->Rat,(∀y,k<=y->w' y=w y)/\∀b∈P,dq n w' b=0
 |[],_,_,_,w=>⟨w,λ_ _=>rfl,λb h=>by cases h⟩
 |b::P,k,h,hk,w=>by
  cases h with
  | @cons _ p _ _ h1 h2 h3 h4=>
   obtain⟨c,hc⟩:∃c:Rat,dq n (λy=>if y=p then c else w y) b=0:=by
    refine⟨w p - dq n w b / b p,?_⟩;have e:dq n (λy=>if y=p then w p - dq n w b / b p else w y) b=dq n w b+-(dq n w b / b p)*b p:=by
     generalize dq n w b / b p=t;show sumTo n (λy=>(if y=p then w p - t else w y)*b y)=sumTo n (λy=>w y*b y)+-t*b p
     have:∀m,p<m->sumTo m (λy=>(if y=p then w p - t else w y)*b y)=sumTo m (λy=>w y*b y)+-t*b p:=by
      intro m;induction m with
      |zero=>intro h;exact absurd h<|gc _
      |succ m ih=>
       intro hm;show sumTo m (λy=>(if y=p then w p - t else w y)*b y)+(if m=p then w p - t else w m)*b m=(sumTo m (λy=>w y*b y)+w m*b m)+-t*b p
       by_cases q:m=p
       ·subst q;rw[qj rfl,zb m (g:=λy=>w y*b y) λy hy=>by rw[qm<|by omega]];grind
       ·rw[qm q,ih<|by omega];grind
     exact this n (by omega)
    rw[e]
    have:dq n w b / b p*b p=dq n w b:=k7 h2;grind
   obtain⟨w',hw,hP⟩:=ik.solve (n:=n) h4 (show p<=n by omega) λy=>if y=p then c else w y
   refine⟨w',λy hy=>?_,λq hq=>?_⟩
   ·rw[hw y (by omega),qm<|show ¬y=p by omega]
   ·rcases qy.mp hq with z|z
    ·subst z;rw[<-hc];refine zb n λy _=>?_
     by_cases hy:y<p
     ·rw[h3 y hy,kI,kI]
     ·rw[hw y<|by omega]
    ·exact hP q z
structure El(n k:Nat)(L P Q:LQr):Prop where
 ech:ik k P
 zero:∀q∈Q,∀y,y<k->q y=0
 span:∀w:Nat->Rat,(∀l∈L,dq n w l=0)↔(∀b∈P,dq n w b=0)/\∀q∈Q,dq n w q=0
def RQ(L:LQr):El n 0 L [] L:=⟨.nil,λ_ _ y h=>absurd h<|gc y,λw=>⟨λh=>⟨λb hb=>(by cases hb),h⟩,λh=>h.2⟩⟩
def El.skip{L P Q:LQr}(h:El n k L P Q)(e:pick k Q=none):El n (k+1) L P Q:=⟨h.ech.mono<|mJ k,λq hq y hy=>by
 by_cases z:y=k
 ·rw[z];exact v8 e q hq
 ·exact h.zero q hq y (by omega),h.span⟩
def BQ{b r:Q1x}(hb:b k≠0):el b k r k=0:=by
 show r k - r k / b k*b k=0
 rw[k7 hb];grind
def BR{b r:Q1x}{y:Nat}(h1:r y=0)(h2:b y=0):el b k r y=0:=by
 show r y - r k / b k*b y=0
 rw[h1,h2];grind
def El.step{L P Q:LQr}(h:El n k L P Q){p:(Nat->Rat)×List (Nat->Rat)}(e:pick k Q=some p):El n (k+1) L (p.1::P) (p.2.map<|el p.1 k):=by
 obtain⟨h1,h2⟩:=wc e;have mb:p.1∈Q:=h2.mem_iff.mp<|.head _;have mq:∀q∈p.2,q∈Q:=λq hq=>h2.mem_iff.mp<|.tail _ hq
 refine⟨.cons (kZ k) h1 (h.zero p.1 mb) h.ech,λq hq y hy=>?_,λw=>?_⟩
 ·obtain⟨r,hr,rfl⟩:=qE.mp hq;by_cases z:y=k
  ·rw[z];exact BQ h1
  ·exact BR (h.zero r (mq r hr) y<|by omega) (h.zero p.1 mb y<|by omega)
 ·rw[h.span w];constructor
  ·rintro⟨a1,a2⟩;refine⟨λb hb=>?_,λq hq=>?_⟩
   ·rcases qy.mp hb with z|z
    ·rw[z];exact a2 _ mb
    ·exact a1 b z
   ·obtain⟨r,hr,rfl⟩:=qE.mp hq;rw[BP,a2 r<|mq r hr,a2 _ mb];grind
  ·rintro⟨a1,a2⟩;refine⟨λb hb=>a1 b<|.tail _ hb,λq hq=>?_⟩;rcases qy.mp (h2.mem_iff.mpr hq) with z|z
   ·rw[z];exact a1 _<|.head _
   ·have:=a2 _<|qE.mpr ⟨q,z,rfl⟩;rw[BP,a1 _<|.head _] at this;grind
open Classical in
theorem Eg{n:Nat}{L:LQr}:∀(m k:Nat)(P Q:LQr)(x:Q1x),k+m=n->El n k L P Q->(∀y,y<k->x y=0)->rk m k (Q++[x])=rk m k Q+if eN n L x then 0 else 1
 |0,k,P,Q,x,hm,h,hx=>by
  have:eN n L x:=λw _=>by
   show sumTo n (λy=>w y*x y)=0
   rw[zb n (g:=λ_=>0) λy hy=>by rw[hx y<|by omega];exact kI _,zT]
  rw[qj this];rfl
 |m+1,k,P,Q,x,hm,h,hx=>by
  cases e:pick k Q with
  |some p=>
   have e':=Uj (x:=x) e;obtain⟨h1,h2⟩:=wc e;have mb:p.1∈Q:=h2.mem_iff.mp<|.head _
   have l:rk (m+1) k (Q++[x])=1+rk m (k+1) ((p.2++[x]).map<|el p.1 k):=by
    show(match pick k (Q++[x]) with |none=>rk m (k+1) (Q++[x])|some p=>1+rk m (k+1) (p.2.map<|el p.1 k))=_
    rw[e']
   have r:rk (m+1) k Q=1+rk m (k+1) (p.2.map<|el p.1 k):=by
    show(match pick k Q with |none=>rk m (k+1) Q|some p=>1+rk m (k+1) (p.2.map<|el p.1 k))=_
    rw[e]
   have iff:eN n L (el p.1 k x)↔eN n L x:=by
    have q:∀w,(∀l∈L,dq n w l=0)->dq n w (el p.1 k x)=dq n w x:=λw hw=>by
     rw[BP,((h.span w).mp hw).2 _ mb];grind
    exact⟨λz w hw=>by rw[<-q w hw];exact z w hw,λz w hw=>by rw[q w hw];exact z w hw⟩
   rw[l,r,q9,gH,pJ,Eg m (k+1) (p.1::P) (p.2.map<|el p.1 k) (el p.1 k x) (by omega) (h.step e) λy hy=>?_]
   ·by_cases z:eN n L x
    ·rw[qj z,qj<|iff.mpr z];omega
    ·rw[qm z,qm λq=>z<|iff.mp q];omega
   ·by_cases z:y=k
    ·rw[z];exact BQ h1
    ·exact BR (hx y<|by omega) (h.zero p.1 mb y<|by omega)
  |none=>
   have e':=Uk (x:=x) e;have r:rk (m+1) k Q=rk m (k+1) Q:=by
    show(match pick k Q with |none=>rk m (k+1) Q|some p=>1+rk m (k+1) (p.2.map<|el p.1 k))=_
    rw[e]
   by_cases z:x k=0
   ·rw[qm λq=>q z] at e';have l:rk (m+1) k (Q++[x])=rk m (k+1) (Q++[x]):=by
     show(match pick k (Q++[x]) with |none=>rk m (k+1) (Q++[x])|some p=>1+rk m (k+1) (p.2.map<|el p.1 k))=_
     rw[e']
    rw[l,r];exact Eg m (k+1) P Q x (by omega) (h.skip e) λy hy=>by
     by_cases q:y=k
     ·rw[q];exact z
     ·exact hx y (by omega)
   ·rw[qj z] at e';have l:rk (m+1) k (Q++[x])=1+rk m (k+1) (Q.map<|el x k):=by
     show(match pick k (Q++[x]) with |none=>rk m (k+1) (Q++[x])|some p=>1+rk m (k+1) (p.2.map<|el p.1 k))=_
     rw[e']
    have same:Q.map (el x k)=Q:=by
     conv=>rhs;rw[<-List.map_id Q]
     refine kf λq hq=>?_
     funext y
     show q y - q k / x k*x y=q y
     rw[v8 e q hq];grind
    have no:¬eN n L x:=λEc=>by
     obtain⟨w',hw,hP⟩:=ik.solve (n:=n) h.ech (show k<=n by omega) λy=>if y=k then 1 else 0
     have hq:∀q:Nat->Rat,(∀y,y<k->q y=0)->dq n w' q=q k:=λq h0=>by
      show sumTo n (λy=>w' y*q y)=q k
      rw[yf _ (j:=k) n (by omega) λy hy cQ=>?_]
      ·rw[hw k<|qe k,qj rfl];grind
      ·by_cases cC:y<k
       ·rw[h0 y cC,kI]
       ·rw[hw y (by omega),qm cQ,ki]
     have:=Ec w'<|(h.span w').mpr ⟨hP,λq hm=>by rw[hq q<|h.zero q hm];exact v8 e q hm⟩;rw[hq x hx] at this;exact z this
    rw[l,r,same,qm no];omega
open Classical in
def IX(L:LQr)(x:Q1x):rk n 0 (L++[x])=rk n 0 L+if eN n L x then 0 else 1:=Eg n 0 [] L x (by omega) (RQ L) λy h=>absurd h<|gc y
def RR(L:LQr)(x:Q1x):rk n 0 (L++[x])=rk n 0 L↔eN n L x:=by
 classical
 rw[IX];by_cases z:eN n L x
 ·rw[qj z];exact⟨λ_=>z,λ_=>rfl⟩
 ·rw[qm z];exact⟨λq=>absurd q (by omega),λq=>absurd q z⟩
structure Eb(n B X:Nat)(Q:LQr)(R:LZr)(T F:LNt)(C:LZr)(d:Int):Prop where
 sp:Sp n R T F C d
 rb:∀r∈R,∀x,x<n->(r x).natAbs<=B
 lenT:R.length=T.length
 qs:∀q∈Q,∃(l:Z1x)(M:Nat),0<M/\M<=X/\(∀x,x<n->(l x).natAbs<=B)/\(∀t∈T,q t=0)/\∀w:Nat->Rat,(∀r∈R,dq n w (rt r)=0)->dq n w (rt l)=(M:Rat)*dq n w q
def RT{X:Nat}{L:LQr}(h:∀q∈L,∃(l:Z1x)(M:Nat),0<M/\M<=X/\∀x,x<n->(l x).natAbs<=B/\(l x:Rat)=(M:Rat)*q x):Eb n B X L [] [] (List.range n) ((List.range n).map xC) 1 where
 sp:=D4 n
 rb:=λr hr=>by cases hr
 lenT:=rfl
 qs:=λq hq=>by
  obtain⟨l,M,h1,h2,h3⟩:=h q hq;refine⟨l,M,h1,h2,λx hx=>(h3 x hx).1,λt ht=>(by cases ht),λw _=>?_⟩;show sumTo n (λx=>w x*(l x:Rat))=(M:Rat)*sumTo n λx=>w x*q x
  rw[zb n (g:=λx=>w x*q x*(M:Rat)) λx hx=>by rw[(h3 x hx).2];grind,zC];exact kg _ _
section
variable{X:Nat}{Q:LQr}{C:LZr}{d:Int}
def Eb.dot(h:Eb n B X Q R T F C d){q:Q1x}(hT:∀t∈T,q t=0){f:Nat}{c:Z1x}(hc:C[i]?=some c)(hf:F[i]?=some f):dq n (rt c) q=(d:Rat)*q f:=by
 obtain⟨f1,f2⟩:=h.sp.free hf;show sumTo n (λx=>(c x:Rat)*q x)=_
 rw[yf _ n f1 λx hx cQ=>?_,h.sp.at hc hf];by_cases ht:x∈T
 ·rw[hT x ht,kI]
 ·rw[h.sp.out hc hf hx ht cQ];exact ki _
def Eb.zlE(h:Eb n B X Q R T F C d){f:Nat}{c:Z1x}(hc:C[i]?=some c)(hf:F[i]?=some f):∀r∈R,dq n (rt c) (rt r)=0:=λr hr=>by
 rw[JU,h.sp.orth hc hf hr];rfl
def RU{K:Nat}{c l:Z1x}(hc:∀x,x<n->(c x).natAbs<=K)(hl:∀x,x<n->(l x).natAbs<=B):(dt n c l).natAbs<=n*(K*B):=by
 have:∀m,m<=n->(dt m c l).natAbs<=m*(K*B):=by
  intro m;induction m with
  |zero=>intro _;exact kx _
  |succ m ih=>
   intro hm;show(dt m c l+c m*l m).natAbs<=_
   have h1:=ih (by omega);have h2:(c m*l m).natAbs<=K*B:=by
    rw[kE];exact kY (hc m<|by omega) (hl m<|by omega)
   rw[h9];omega
 exact this n<|qe n
def Eb.num(h:Eb n B X Q R T F C d){q:Q1x}(hq:q∈Q):∃M:Nat,0<M/\M<=X/\∀x,x<n->∃S:Int,q x*((M:Rat)*(d:Rat))=(S:Rat)/\S.natAbs<=n*((n*(n*B) ^ R.length)*B):=by
 obtain⟨l,M,h1,h2,h3,h4,h5⟩:=h.qs q hq;refine⟨M,h1,h2,λx hx=>?_⟩;rcases qu.mp ((h.sp.mem x).mpr hx) with z|z
 ·exact⟨0,by rw[h4 x z];exact ki _,kx _⟩
 ·obtain⟨i,hi⟩:=qP z;have dP:i<C.length:=by rw[h.sp.lenC];exact(qg.mp hi).1
  have hc:C[i]?=some C[i]:=qk dP;refine⟨dt n C[i] l,?_,RU (h.sp.Wn h.sp.few h.rb hc) h3⟩;have e1:=h5 (rt C[i])<|h.zlE hc hi
  rw[h.dot h4 hc hi,JU] at e1;rw[e1];grind
def Eb.zl9(h:Eb n B X Q R T F C d):R.length<=n:=by
 have:=h.sp.few
 have:=h.lenT;omega
def Eb.dabs(h:Eb n B X Q R T F C d):d.natAbs<=(n*B) ^ R.length:=h.sp.V3 (by have:=h.sp.few;omega) h.rb
def Eb.step(h:Eb n B X Q R T F C d)(hk:k<n){p:(Nat->Rat)×List (Nat->Rat)}(e:pick k Q=some p):∃R' T' F' C' d',Eb n B X (p.2.map<|el p.1 k) R' T' F' C' d'/\R'.length=R.length+1:=by
 obtain⟨h1,h2⟩:=wc e;have mb:p.1∈Q:=h2.mem_iff.mp<|.head _;have mq:∀q∈p.2,q∈Q:=λq hq=>h2.mem_iff.mp<|.tail _ hq
 obtain⟨l,M,M0,MX,lB,lT,lw⟩:=h.qs p.1 mb;have kF:k∈F:=(qu.mp<|(h.sp.mem k).mpr hk).resolve_left λz=>h1<|lT k z
 obtain⟨i,hi⟩:=qP kF;have dP:i<C.length:=by rw[h.sp.lenC];exact(qg.mp hi).1
 have hc:C[i]?=some C[i]:=qk dP;have hM:(M:Rat)≠0:=y0 M0
 have hd:(d:Rat)≠0:=λz=>h.sp.d0 (by exact_mod_cast z)
 have e1:=lw (rt C[i])<|h.zlE hc hi;rw[h.dot lT hc hi,JU] at e1;have hp:dt n C[i] l≠0:=λz=>by
  rw[z] at e1;rcases kh.mp (show(M:Rat)*((d:Rat)*p.1 k)=0 from e1.symm) with z|z
  ·exact hM z
  ·rcases kh.mp z with z|z
   ·exact hd z
   ·exact h1 z
 refine⟨_,_,_,_,_,⟨h.sp.take hc hi hp,λr hr x hx=>?_,by rw[ke,qz,h.lenT];rfl,λq hq=>?_⟩,rfl⟩
 ·rcases qy.mp hr with z|z
  ·rw[z];exact lB x hx
  ·exact h.rb r z x hx
 ·obtain⟨r,hr,rfl⟩:=qE.mp hq;obtain⟨l',M',a1,a2,a3,a4,a5⟩:=h.qs r<|mq r hr;refine⟨l',M',a1,a2,a3,λt ht=>?_,λw hw=>?_⟩
  ·rcases qu.mp ht with z|z
   ·exact BR (a4 t z)<|lT t z
   ·rw[qY.mp z];exact BQ h1
  ·have w1:=a5 w λr' iK=>hw r'<|.tail _ iK
   have w2:=lw w λr' iK=>hw r'<|.tail _ iK
   rw[hw l<|.head _] at w2;have w3:dq n w p.1=0:=(kh.mp w2.symm).resolve_left hM;rw[w1,BP,w3];grind
end
noncomputable def lsum(f:Q1x):List Nat->Rat
 |[]=>0
 |j::r=>f j+lsum f r
theorem JN(f:Q1x):∀(A B:LNt),lsum f (A++B)=lsum f A+lsum f B
 |[],B=>by show lsum f B=0+lsum f B;grind
 |a::A,B=>by
  show f a+lsum f (A++B)=(f a+lsum f A)+lsum f B
  rw[JN f A B];grind
theorem wB{f g:Q1x}:∀{J:LNt},(∀j∈J,f j=g j)->lsum f J=lsum g J
 |[],_=>rfl
 |a::J,h=>by
  show f a+lsum f J=g a+lsum g J
  rw[h a<|qZ ..,wB λj hj=>h j<|qA _ hj]
theorem Yy(a b:Rat)(f g:Q1x):∀J:List Nat,lsum (λj=>a*f j+b*g j) J=a*lsum f J+b*lsum g J
 |[]=>by show(0:Rat)=a*0+b*0;grind
 |j::J=>by
  show(a*f j+b*g j)+lsum (λj=>a*f j+b*g j) J=a*(f j+lsum f J)+b*(g j+lsum g J)
  rw[Yy a b f g J];grind
theorem Zy(f:Q1x):∀n,lsum f (List.range n)=sumTo n f
 |0=>rfl
 |n+1=>by
  rw[gM,JN,Zy f n];show sumTo n f+(f n+0)=sumTo n f+f n
  grind
theorem Eh:∀(L:LQr)(J:LNt),J.Nodup->L.length<J.length->∃c:Nat->Rat,(∃j∈J,c j≠0)/\∀l∈L,lsum (λj=>c j*l j) J=0
 |[],J,_,h=>by
  cases J with
  |nil=>exact absurd h<|gp 0
  |cons j J=>exact⟨λ_=>1,⟨j,qZ ..,(by decide:(1:Rat)≠0)⟩,λl hl=>by cases hl⟩
 |l::L,J,hJ,h=>by
  by_cases hz:∀j∈J,l j=0
  ·obtain⟨c,h1,h2⟩:=Eh L J hJ (by simp only [ke] at h;omega);refine⟨c,h1,λq hq=>?_⟩;rcases qy.mp hq with z|z
   ·rw[z,wB (g:=λj=>0*c j+0*c j) λj hj=>by rw[hz j hj];grind,Yy];grind
   ·exact h2 q z
  ·have ⟨p,hp,hl⟩:∃p,p∈J/\l p≠0:=by
    apply kH
    intro q;exact hz λj hj=>kH λz=>q ⟨j,hj,z⟩
   obtain⟨A,B,rfl⟩:=List.append_of_mem hp;have fm:p∉A++B:=by
    exact(kv.mp<|List.perm_middle.nodup_iff.mp hJ).1
   have CF:(A++B).Nodup:=(kv.mp<|List.perm_middle.nodup_iff.mp hJ).2;obtain⟨c,⟨i,hi,hc⟩,h2⟩:=Eh (L.map λq=>λj=>q j - q p / l p*l j) (A++B) CF (by
    simp only [ke,qz,qf] at h ⊢;omega)
   have S:∀(f:Q1x),lsum f (A++p::B)=lsum f (A++B)+f p:=λf=>by
    rw[JN,JN];show lsum f A+(f p+lsum f B)=lsum f A+lsum f B+f p
    grind
   let t:=lsum (λj=>c j*l j)<|A++B
   have ne:∀j∈A++B,j≠p:=λj hj e=>fm<|e▸hj
   have S':∀q:Nat->Rat,lsum (λj=>(if j=p then -(t / l p) else c j)*q j) (A++p::B)=lsum (λj=>c j*q j) (A++B) - t / l p*q p:=λq=>by
    rw[S,wB (g:=λj=>c j*q j) λj hj=>by rw[qm<|ne j hj],qj rfl];grind
   refine⟨λj=>if j=p then -(t / l p) else c j,⟨i,?_,?_⟩,λq hq=>?_⟩
   ·rcases qu.mp hi with z|z
    ·exact qu.mpr<|.inl z
    ·exact qu.mpr<|.inr<|qA _ z
   ·show(if i=p then -(t / l p) else c i)≠0
    rw[qm<|ne i hi];exact hc
   ·rw[S' q];rcases qy.mp hq with z|z
    ·rw[z]
     have:t / l p*l p=t:=k7 hl;show t - t / l p*l p=0
     rw[this];grind
    ·have e:=h2 _<|qE.mpr ⟨q,z,rfl⟩;rw[wB (g:=λj=>1*(c j*q j)+(-(q p / l p))*(c j*l j)) λj _=>by grind,Yy] at e;have e':lsum (λj=>c j*q j) (A++B)=q p / l p*t:=by show _=q p / l p*lsum (λj=>c j*l j) (A++B);grind
     rw[e',hX,hX];grind
 termination_by L=>L.length
 decreasing_by all_goals simp only [List.length_map,List.length_cons];omega
def IZ(L:LQr)(h:L.length<n):∃c:Nat->Rat,(∃j,j<n/\c j≠0)/\∀l∈L,sumTo n (λj=>c j*l j)=0:=by
 obtain⟨c,⟨j,hj,hc⟩,e⟩:=Eh L (List.range n) nU (by rw[qw];exact h);exact⟨c,⟨j,qx.mp hj,hc⟩,λl hl=>by rw[<-Zy];exact e l hl⟩
noncomputable def jM(n:Nat)(st:Q3x)(la:Q1x):List Nat->Nat->Rat
 |[]=>la
 |g::v=>λa=>sumTo n λb=>st g a b*jM n st la v b
theorem Yi(n:Nat)(st:Q3x)(la:Q1x):∀(v:LNt)(r:Q1x),sumTo n (λa=>zE n st r v a*la a)=sumTo n λa=>r a*jM n st la v a
 |[],_=>rfl
 |g::v,r=>by
  show sumTo n (λa=>zE n st (led n r<|st g) v a*la a)=_
  rw[Yi n st la v];show sumTo n (λb=>sumTo n (λa=>r a*st g a b)*jM n st la v b)=sumTo n λa=>r a*sumTo n λb=>st g a b*jM n st la v b
  rw[zb n (g:=λb=>sumTo n λa=>r a*st g a b*jM n st la v b) λb _=>(zC _ _ n).symm,yu];refine zb n λa _=>?_
  rw[kg<|r a,<-zC];exact zb n λb _=>by grind
def YA(n:Nat)(st:Q3x)(fi la:Q1x)(u v:LNt):wt n st fi la (u++v)=sumTo n λa=>zE n st fi u a*jM n st la v a:=by
 show sumTo n (λa=>zE n st fi (u++v) a*la a)=_
 rw[jR,Yi]
def rh{r:Nat}(al:∀w:List Nat,(∀g∈w,g<s)->wt n st fi la w=wt r st' fi' la' w)(V:Nat->List Nat)(hV:∀j,j<r->∀g∈V j,g<s)(cols:∀c:Nat->Rat,(∀i,i<r->sumTo r (λj=>c j*jM r st' la' (V j) i)=0)->∀j,j<r->c j=0)(rows:∀y:Nat->Rat,(∀u:List Nat,(∀g∈u,g<s)->sumTo r (λi=>zE r st' fi' u i*y i)=0)->∀i,i<r->y i=0):r<=n:=by
 apply kH
 intro cC;obtain⟨c,⟨j,hj,hc⟩,e⟩:=IZ (n:=r) ((List.range n).map λi=>λj=>jM n st la (V j) i) (by rw[qf,qw];omega);refine hc<|cols c (rows _ λu hu=>?_) j hj;have e1:∀i,i<n->sumTo r (λj=>c j*jM n st la (V j) i)=0:=λi hi=>e _<|qE.mpr ⟨i,qx.mpr hi,rfl⟩
 have sw:∀(m:Nat)(R:Q1x)(C:Q2x),sumTo m (λi=>R i*sumTo r (λj=>c j*C j i))=sumTo r λj=>sumTo m (λi=>R i*C j i)*c j:=λm R C=>by
  rw[zb m (g:=λi=>sumTo r λj=>R i*C j i*c j) λi _=>by
   rw[kg<|R i,<-zC];exact zb r λj _=>by grind,yu]
  exact zb r λj _=>zC _ _ m
 rw[sw r (zE r st' fi' u) λj=>jM r st' la'<|V j];rw[zb r (g:=λj=>sumTo n (λi=>zE n st fi u i*jM n st la (V j) i)*c j) λj hj=>by
  rw[<-YA,<-YA,al];intro g hg;rcases qu.mp hg with z|z
  ·exact hu g z
  ·exact hV j hj g z]
 rw[<-sw n (zE n st fi u) λj=>jM n st la<|V j,zb n (g:=λ_=>0) λi hi=>by rw[e1 i hi];grind];exact zT n
def RV{r:Nat}{M:Q2x}(h:∀w:Nat->Rat,(∀j,j<r->sumTo r (λi=>w i*M j i)=0)->∀i,i<r->w i=0):∀c:Nat->Rat,(∀i,i<r->sumTo r (λj=>c j*M j i)=0)->∀j,j<r->c j=0:=by
 intro c hc j0 I0;apply kH;intro cQ;obtain⟨w,⟨i,hi,hw⟩,e⟩:=IZ (n:=r) (((List.range r).filter (·≠j0)).map M) (by
  rw[qf]
  have:((List.range r).filter (·≠j0)).length<(List.range r).length:=gD.mpr ⟨j0,qx.mpr I0,by simp⟩;rwa [qw] at this)
 have e1:∀j,j<r->j≠j0->sumTo r (λi=>w i*M j i)=0:=λj hj hn=>e _<|qE.mpr ⟨j,kl.mpr ⟨qx.mpr hj,by simpa using hn⟩,rfl⟩
 have e2:sumTo r (λj=>c j*sumTo r (λi=>w i*M j i))=0:=by
  have:∀j,j<r->c j*sumTo r (λi=>w i*M j i)=sumTo r λi=>c j*M j i*w i:=λj _=>by
   rw[kg,<-zC];exact zb r λi _=>by grind
  rw[zb r this,yu,zb r (g:=λ_=>0) λi hi=>by rw[zC,hc i hi];grind];exact zT r
 rw[yf _ r I0 λj hj hn=>by rw[e1 j hj hn];grind] at e2;have e3:sumTo r (λi=>w i*M j0 i)=0:=(kh.mp e2).resolve_left cQ;refine hw<|h w (λj hj=>?_) i hi;by_cases q:j=j0
 ·rw[q];exact e3
 ·exact e1 j hj q
structure Sh(n r:Nat)(P:Nat->Nat)(σ:Q2x)(V:(Nat->Rat)->Prop):Prop where
 lt:∀i,i<r->P i<n
 one:∀i j,i<r->j<r->σ i (P j)=if j=i then 1 else 0
 mem:∀i,i<r->V (σ i)
 all:∀x,V x->∀y,y<n->x y=sumTo r λi=>x (P i)*σ i y
noncomputable def wO(P:Nat->Nat)(fi:Q1x):Nat->Rat:=λi=>fi<|P i
def jS(n:Nat)(P:Nat->Nat)(σ:Q2x)(st:Q3x):Nat->Nat->Nat->Rat:=λg i j=>sumTo n λa=>σ i a*st g a (P j)
def wJ(n:Nat)(σ:Q2x)(la:Q1x):Nat->Rat:=λi=>sumTo n λa=>σ i a*la a
section
variable{r:Nat}{P:Nat->Nat}{σ:Q2x}{V:(Nat->Rat)->Prop}
def Sh.dot(h:Sh n r P σ V){x:Q1x}(hx:V x)(u:Q1x):sumTo n (λa=>x a*u a)=sumTo r λi=>x (P i)*sumTo n λa=>σ i a*u a:=by
 rw[zb n (g:=λa=>sumTo r λi=>σ i a*u a*x (P i)) λa ha=>by
  rw[h.all x hx a ha,<-zC];exact zb r λi _=>by grind,yu]
 exact zb r λi _=>by rw[zC];exact kg _ _
theorem Sh.row(h:Sh n r P σ V)(h0:V fi)(hs:∀g x,g<s->V x->V (led n x<|st g)):∀w:List Nat,(∀g∈w,g<s)->∀x u:Nat->Rat,V x->(∀i,i<r->u i=x (P i))->V (zE n st x w)/\∀i,i<r->zE r (jS n P σ st) u w i=zE n st x w (P i)
 |[],_,x,u,hx,e=>⟨hx,e⟩
 |g::w,hw,x,u,hx,e=>by
  refine Sh.row h h0 hs w (λg' hg=>hw g'<|qA _ hg) (led n x<|st g) (led r u<|jS n P σ st g) (hs g x (hw g<|qZ ..) hx) λj hj=>?_
  show sumTo r (λi=>u i*sumTo n λa=>σ i a*st g a (P j))=sumTo n λa=>x a*st g a (P j)
  rw[h.dot hx];exact zb r λi hi=>by rw[e i hi]
def Sh.wt(h:Sh n r P σ V)(h0:V fi)(hs:∀g x,g<s->V x->V (led n x<|st g))(w:LNt)(hw:∀g∈w,g<s):wt r (jS n P σ st) (wO P fi) (wJ n σ la) w=wt n st fi la w:=by
 obtain⟨hV,e⟩:=h.row h0 hs w hw fi (wO P fi) h0 λi _=>rfl
 show sumTo r (λi=>zE r (jS n P σ st) (wO P fi) w i*sumTo n λa=>σ i a*la a)=sumTo n λa=>zE n st fi w a*la a
 rw[h.dot hV];exact zb r λi hi=>by rw[e i hi]
theorem Sh.col(h:Sh n r P σ V)(hs:∀g x,g<s->V x->V (led n x<|st g)):∀v:List Nat,(∀g∈v,g<s)->∀i,i<r->jM r (jS n P σ st) (wJ n σ la) v i=sumTo n λa=>σ i a*jM n st la v a
 |[],_,i,_=>rfl
 |g::v,hv,i,hi=>by
  have hg:=hv g<|qZ ..;show sumTo r (λj=>sumTo n (λa=>σ i a*st g a (P j))*jM r (jS n P σ st) (wJ n σ la) v j)=sumTo n λa=>σ i a*sumTo n λb=>st g a b*jM n st la v b
  rw[zb r (g:=λj=>led n (σ i) (st g) (P j)*sumTo n λa=>σ j a*jM n st la v a) λj hj=>by
   rw[Sh.col h hs v (λg' hg=>hv g'<|qA _ hg) j hj];rfl,<-h.dot (hs g _ hg<|h.mem i hi)]
  have:=Yi n st (jM n st la v) [g]<|σ i;exact this
def Sh.full(h:Sh n r P σ V)(hs:∀g x,g<s->V x->V (led n x<|st g))(hn:∀z:Nat->Rat,(∀v:List Nat,(∀g∈v,g<s)->sumTo n (λa=>z a*jM n st la v a)=0)->∀a,a<n->z a=0):∀y:Nat->Rat,(∀v:List Nat,(∀g∈v,g<s)->sumTo r (λi=>y i*jM r (jS n P σ st) (wJ n σ la) v i)=0)->∀i,i<r->y i=0:=by
 intro y hy i hi;have key:=hn (λa=>sumTo r λi=>y i*σ i a) (λv hv=>by
  rw[<-hy v hv,zb n (g:=λa=>sumTo r λi=>y i*σ i a*jM n st la v a) λa _=>(zC _ _ r).symm,yu];refine zb r λi hi=>?_
  rw[h.col hs v hv i hi,kg<|y i,<-zC];exact zb n λa _=>by grind) (P i)<|h.lt i hi
 rw[yf _ r hi λj hj cQ=>by rw[h.one j i hj hi,qm λq=>cQ q.symm];grind,h.one i i hi hi,qj rfl] at key;grind
end
def RW(f:Q1x){a:Nat}(h:a<n):sumTo n f=sumTo n (λx=>if x=a then 0 else f x)+f a:=by
 have e:∀x,f x=(if x=a then 0 else f x)+(if x=a then f x else 0):=λx=>by split<;>grind
 have:=J3 (λx=>if x=a then 0 else f x) (λx=>if x=a then f x else 0) n;rw[<-zb n λx _=>e x,yf (λx=>if x=a then f x else 0) n h λi _ cQ=>qm cQ] at this;rw[this,qj rfl]
theorem Ka{n:Nat}:∀(l:LNt)(g:Q1x),l.Nodup->(∀x∈l,x<n)->(∀x,x<n->x∉l->g x=0)->sumTo n g=lsum g l
 |[],g,_,_,h=>by rw[zb n (g:=λ_=>0) λx hx=>h x hx<|by simp];exact zT n
 |a::l,g,hd,hl,h=>by
  obtain⟨h1,h2⟩:=kv.mp hd;rw[RW g<|hl a<|qZ ..,Ka l (λx=>if x=a then 0 else g x) h2 (λx hx=>hl x<|qA _ hx) λx hx hn=>by
   by_cases e:x=a
   ·exact qj e
   ·rw[qm e];exact h x hx λq=>(qy.mp q).elim e hn]
  have e2:lsum (λx=>if x=a then 0 else g x) l=lsum g l:=wB λj hj=>qm λ(e:j=a)=>h1<|e▸hj
  rw[e2];show lsum g l+g a=g a+lsum g l
  grind
def Kc(f:Q1x)(l:LNt):lsum f l=sumTo l.length λi=>f (l.getD i 0):=by
 have:∀l':List Nat,lsum f l'.reverse=sumTo l'.reverse.length λi=>f (l'.reverse.getD i 0):=by
  intro l';induction l' with
  |nil=>rfl
  |cons a t ih=>
   rw[mf,JN,ih,qz];show sumTo t.reverse.length _+(f a+0)=sumTo t.reverse.length _+f ((t.reverse++[a]).getD t.reverse.length 0)
   have e1:(t.reverse++[a]).getD t.reverse.length 0=a:=by simp[List.getD]
   rw[e1,zb t.reverse.length (g:=λi=>f<|(t.reverse++[a]).getD i 0) λi hi=>by
    have:(t.reverse++[a]).getD i 0=t.reverse.getD i 0:=by
     rw[qB,qB,qQ hi]
    rw[this]]
   grind
 have h:=this l.reverse;rwa [kP] at h
noncomputable def dn(F:LNt)(C:LZr)(d:Int)(p:Nat):Nat->Rat:=λx=>if x=p then 1 else match (F.zip C).find? (λq=>q.1==x) with
 |some q=>-(q.2 p:Rat) / (d:Rat)
 |none=>0
section
variable{C:LZr}{d:Int}
def RX(hF:F.Nodup){f:Nat}{c:Z1x}(hf:F[i]?=some f)(hc:C[i]?=some c):(F.zip C).find? (λq=>q.1==f)=some (f,c):=by
 induction F generalizing C i with
 |nil=>simp at hf
 |cons a F ih=>
  cases C with
  |nil=>simp at hc
  |cons b C=>
   obtain⟨h1,h2⟩:=kv.mp hF;cases i with
   |zero=>
    simp only [List.getElem?_cons_zero,Option.some.injEq] at hf hc;subst hf;subst hc;simp[List.zip_cons_cons]
   |succ i=>
    simp only [k9] at hf hc;have cQ:(a==f)=false:=by
     rw[beq_eq_false_iff_ne];intro e;exact h1<|e▸qI hf
    rw[List.zip_cons_cons,List.find?_cons,cQ];exact ih h2 hf hc
def Kd{x:Nat}(h:x∉F):(F.zip C).find? (λq=>q.1==x)=none:=by
 rw[List.find?_eq_none];intro q hq e;exact h (by
  have:=(ng hq).1;rwa [gQ.mp e] at this)
def BS{p x:Nat}(hx:x∉F):dn F C d p x=if x=p then 1 else 0:=by
 unfold dn;rw[Kd hx]
def Ke(h:Sp n R T F C d){p f:Nat}{c:Z1x}(hp:p∈T)(hf:F[i]?=some f)(hc:C[i]?=some c):dn F C d p f=-(c p:Rat) / (d:Rat):=by
 unfold dn;rw[RX h.ndF hf hc,qm];intro e;exact(h.free hf).2<|e▸hp
def Sp.sum(h:Sp n R T F C d){f:Nat}{c:Z1x}(hc:C[i]?=some c)(hf:F[i]?=some f){Ts:LNt}(hT:Ts.Perm T)(x:Q1x):dq n (rt c) x=(d:Rat)*x f+lsum (λz=>(c z:Rat)*x z) Ts:=by
 obtain⟨f1,f2⟩:=h.free hf;have f3:f∉Ts:=λq=>f2<|hT.mem_iff.mp q
 have rj:Ts.Nodup:=hT.nodup_iff.mpr (gm.mp h.nd).1;rw[show dq n (rt c) x=sumTo n λz=>(c z:Rat)*x z from rfl,Ka (f::Ts) _ (kv.mpr ⟨f3,rj⟩) (λz hz=>by
  rcases qy.mp hz with q|q
  ·rw[q];exact f1
  ·exact(h.mem z).mp<|qu.mpr<|.inl<|hT.mem_iff.mp q) λz hz hn=>by
   have:=h.out hc hf hz (λq=>hn<|qA _<|hT.mem_iff.mpr q) λq=>hn (q▸qZ ..)
   rw[this];grind]
 show(c f:Rat)*x f+_=_
 rw[h.at hc hf]
def Sp.sh(h:Sp n R T F C d){Ts:LNt}(hT:Ts.Perm T):Sh n T.length (λi=>Ts.getD i 0) (λi=>dn F C d<|Ts.getD i 0) (In n R):=by
 have dz:(d:Rat)≠0:=λz=>h.d0 (by exact_mod_cast z)
 have hl:Ts.length=T.length:=hT.length_eq;have rj:Ts.Nodup:=hT.nodup_iff.mpr (gm.mp h.nd).1
 have mT:∀i,i<T.length->Ts.getD i 0∈T:=λi hi=>by
  rw[qB,qk<|by omega];exact hT.mem_iff.mp<|gu _
 have nF:∀x,x∈T->x∉F:=λx hx hf=>(gm.mp h.nd).2.2 x hx x hf rfl
 have inj:∀i j,i<T.length->j<T.length->Ts.getD j 0=Ts.getD i 0->j=i:=λi j hi hj e=>by
  have a1:Ts[j]?=some (Ts.getD j 0):=by rw[qB,qk<|show j<Ts.length by omega];rfl
  have a2:Ts[i]?=some (Ts.getD i 0):=by rw[qB,qk<|show i<Ts.length by omega];rfl
  exact kH λq=>r6 rj a1 a2 q e
 have one:∀i j,i<T.length->j<T.length->dn F C d (Ts.getD i 0) (Ts.getD j 0)=if j=i then 1 else 0:=λi j hi hj=>by
  rw[BS<|nF _<|mT j hj];by_cases q:j=i
  ·rw[qj (by rw[q]),qj q]
  ·rw[qm λe=>q<|inj i j hi hj e,qm q]
 refine⟨λi hi=>(h.mem _).mp<|qu.mpr<|.inl<|mT i hi,one,λi hi=>(h.holds _).mp λc hc=>?_,λx hx y hy=>?_⟩
 ·obtain⟨k,hk⟩:=qP hc;have BU:k<F.length:=by rw[<-h.lenC];exact(qg.mp hk).1
  have hf:F[k]?=some F[k]:=qk BU;rw[h.sum hk hf hT,Ke h (mT i hi) hf hk,Kc,hl,yf _ _ hi λj hj cQ=>by rw[one i j hi hj,qm cQ];grind,one i i hi hi,qj rfl,hX]
  have:=kR _ dz;grind
 ·rcases qu.mp ((h.mem y).mpr hy) with q|q
  ·obtain⟨j,hj⟩:=qP<|hT.mem_iff.mpr q;have il:j<T.length:=by rw[<-hl];exact(qg.mp hj).1
   have ey:y=Ts.getD j 0:=by rw[qB,hj];rfl
   rw[ey,yf _ _ il λi hi cQ=>by rw[one i j hi il,qm λq=>cQ q.symm];grind,one j j il il,qj rfl];grind
  ·obtain⟨k,hk⟩:=qP q;have BU:k<C.length:=by rw[h.lenC];exact(qg.mp hk).1
   have hc:C[k]?=some C[k]:=qk BU;have e:=(h.holds x).mpr hx _<|gu BU
   rw[h.sum hc hk hT,Kc,hl] at e;rw[zb T.length (g:=λi=>(C[k] (Ts.getD i 0):Rat)*x (Ts.getD i 0)*(-(1 / (d:Rat)))) λi hi=>by
    rw[Ke h (mT i hi) hk hc,hX,hX];grind,zC]
   have e2:sumTo T.length (λi=>(C[k] (Ts.getD i 0):Rat)*x (Ts.getD i 0))=-((d:Rat)*x y):=by grind
   rw[e2,hX]
   have:=kR _ dz;grind
end
section
variable{W:List (List Nat)}{C:LZr}{d:Int}{a:Nat}
def RS.zed(h:RS n s st fi W Rw T F C d a)(x:Q1x):In n Rw.reverse x↔∀c:Nat->Rat,(∀v∈W,dq n c (zE n st fi v)=0)->dq n c x=0:=⟨λq c hc=>q c<|(h.orth c).mp hc,λq c hc=>q c<|(h.orth c).mpr hc⟩
def RS.zca(h:RS n s st fi W Rw T F C d a)(hs:0<s)(hd:(queue s W).length<=a\/F=[])(w:LNt)(hg:∀g∈w,g<s):In n Rw.reverse (zE n st fi w):=(h.zed _).mpr λc hc=>h.none hs hd w hg c hc
def RS.Wa(h:RS n s st fi W Rw T F C d a)(hs:0<s)(hd:(queue s W).length<=a\/F=[])(g:Nat)(x:Q1x)(hg:g<s)(hx:In n Rw.reverse x):In n Rw.reverse (led n x<|st g):=(h.zed _).mpr λc hc=>by
 rw[BN];refine(h.zed x).mp hx _ λv hv=>?_
 obtain⟨i,hi⟩:=qP hv;rw[<-BN,<-wk];refine h.none hs hd _ (λg' dg=>?_) c hc;rcases qu.mp dg with q|q
 ·exact h.rc.signs hs i v hi g' q
 ·rw[qY.mp q];exact hg
structure Mn(n s:Nat)(st:Q3x)(fi la:Q1x)(r:Nat)(st':Q3x)(fi' la':Q1x):Prop where
 wt:∀w:List Nat,(∀g∈w,g<s)->wt r st' fi' la' w=wt n st fi la w
 kept:∃V:Nat->List Nat,(∀j,j<r->∀g∈V j,g<s)/\∀y:Nat->Rat,(∀j,j<r->sumTo r (λi=>y i*zE r st' fi' (V j) i)=0)->∀i,i<r->y i=0
 cols:(∀z:Nat->Rat,(∀v:List Nat,(∀g∈v,g<s)->sumTo n (λa=>z a*jM n st la v a)=0)->∀a,a<n->z a=0)->∀y:Nat->Rat,(∀v:List Nat,(∀g∈v,g<s)->sumTo r (λi=>y i*jM r st' la' v i)=0)->∀i,i<r->y i=0
def RS.mk0(h:RS n s st fi W Rw T F C d a)(hs:0<s)(hd:(queue s W).length<=a\/F=[]){Ts:LNt}(hT:Ts.Perm T):(∀w:List Nat,(∀g∈w,g<s)->wt T.length (jS n (λi=>Ts.getD i 0) (λi=>dn F C d<|Ts.getD i 0) st) (wO (λi=>Ts.getD i 0) fi) (wJ n (λi=>dn F C d<|Ts.getD i 0) la) w=wt n st fi la w)/\∃V:Nat->List Nat,(∀j,j<T.length->∀g∈V j,g<s)/\∀y:Nat->Rat,(∀j,j<T.length->sumTo T.length (λi=>y i*zE T.length (jS n (λi=>Ts.getD i 0) (λi=>dn F C d<|Ts.getD i 0) st) (wO (λi=>Ts.getD i 0) fi) (V j) i)=0)->∀i,i<T.length->y i=0:=by
 have S:=h.sp.sh hT;have h0:In n Rw.reverse fi:=h.zca hs hd [] λg hg=>by cases hg
 have hl:=λg x hg hx=>h.Wa hs hd g x hg hx
 have lW:W.length=T.length:=h.len.trans h.lenT.symm;have gW:∀j,j<T.length->W[j]?=some (W.getD j []):=λj hj=>by rw[qB,qk<|show j<W.length by omega];rfl
 refine⟨λw hw=>S.wt h0 hl w hw,λj=>W.getD j [],λj hj=>h.rc.signs hs j _<|gW j hj,λy hy i hi=>?_⟩;have Bl:Ts.length=T.length:=hT.length_eq;have mT:∀i,i<T.length->Ts.getD i 0∈T:=λi hi=>by
  rw[qB,qk<|by omega];exact hT.mem_iff.mp<|gu _
 have rj:Ts.Nodup:=hT.nodup_iff.mpr (gm.mp h.sp.nd).1;have inj:∀i j,i<T.length->j<T.length->Ts.getD j 0=Ts.getD i 0->j=i:=λi j hi hj e=>by
  have a1:Ts[j]?=some (Ts.getD j 0):=by rw[qB,qk<|show j<Ts.length by omega];rfl
  have a2:Ts[i]?=some (Ts.getD i 0):=by rw[qB,qk<|show i<Ts.length by omega];rfl
  exact kH λq=>r6 rj a1 a2 q e
 have key:=h.sp.ind (λx=>sumTo T.length λi=>if x=Ts.getD i 0 then y i else 0) (λx hx hn=>by
  show sumTo T.length (λi=>if x=Ts.getD i 0 then y i else 0)=0
  rw[zb T.length (g:=λ_=>0) λi hi=>qm λ(e:x=Ts.getD i 0)=>hn<|e▸mT i hi];exact zT _) ((h.orth _).mp λv hv=>by
  obtain⟨j,hj⟩:=qP hv;have il:j<T.length:=by rw[<-lW];exact(qg.mp hj).1
  have ev:v=W.getD j []:=by rw[qB,hj];rfl
  show sumTo n (λx=>sumTo T.length (λi=>if x=Ts.getD i 0 then y i else 0)*zE n st fi v x)=0
  rw[zb n (g:=λx=>sumTo T.length λi=>(if x=Ts.getD i 0 then y i else 0)*zE n st fi v x) λx _=>(zC _ _ _).symm,yu,<-hy j il];refine zb T.length λi hi=>?_
  rw[yf _ n (S.lt i hi) λx hx cQ=>by rw[qm cQ];grind,qj rfl];have er:=(S.row h0 hl (W.getD j []) (h.rc.signs hs j _<|gW j il) fi (wO (λi=>Ts.getD i 0) fi) h0 λi _=>rfl).2 i hi;rw[er,ev]) (Ts.getD i 0)<|S.lt i hi
 have Ah:sumTo T.length (λj=>if Ts.getD i 0=Ts.getD j 0 then y j else 0)=0:=key;rw[yf _ _ hi λj hj cQ=>qm λe=>cQ<|inj i j hi hj e.symm,qj rfl] at Ah;exact Ah
def RS.mn(h:RS n s st fi W Rw T F C d a)(hs:0<s)(hd:(queue s W).length<=a\/F=[]){Ts:LNt}(hT:Ts.Perm T):Mn n s st fi la T.length (jS n (λi=>Ts.getD i 0) (λi=>dn F C d<|Ts.getD i 0) st) (wO (λi=>Ts.getD i 0) fi) (wJ n (λi=>dn F C d<|Ts.getD i 0) la):=have m:=h.mk0 (la:=la) hs hd hT
 ⟨m.1,m.2,λq=>(h.sp.sh hT).full (λg x hg hx=>h.Wa hs hd g x hg hx) q⟩
end
section
theorem xt(st:Q3x)(la:Q1x):∀v:List Nat,zE n (λg a b=>st g b a) la v.reverse=jM n st la v
 |[]=>rfl
 |g::v=>by
  rw[mf,wk,xt st la v];funext a;exact zb n λb _=>kg _ _
def UA(st:Q3x)(fi:Q1x)(v:LNt):jM n (λg a b=>st g b a) fi v=zE n st fi v.reverse:=(xt (λg a b=>st g b a) fi v).symm
def Ys(w:LNt):wt n (λg a b=>st g b a) la fi w=wt n st fi la w.reverse:=by
 have:=xt (n:=n) st la w.reverse;rw[kP] at this;show sumTo n (λa=>zE n (λg a b=>st g b a) la w a*fi a)=sumTo n λa=>zE n st fi w.reverse a*la a
 rw[this,Yi];exact zb n λa _=>kg _ _
def RY{r:Nat}{iq BV:Q3x}{lh lj fit Ei:Q1x}(M1:Mn n s st fi la r1 iq lh lj)(M2:Mn r1 s (λg a b=>iq g b a) lj lh r BV fit Ei):(∀w:List Nat,(∀g∈w,g<s)->wt r (λg a b=>BV g b a) Ei fit w=wt n st fi la w)/\
  ∀{n':Nat} {st':Q3x} {fi' la':Q1x},(∀w:List Nat,(∀g∈w,g<s)->wt n' st' fi' la' w=wt n st fi la w)->r<=n':=by
 have al:∀w:List Nat,(∀g∈w,g<s)->wt r (λg a b=>BV g b a) Ei fit w=wt n st fi la w:=λw hw=>by
  have hr:∀g∈w.reverse,g<s:=λg hg=>hw g<|kd.mp hg
  rw[Ys,M2.wt _ hr,Ys,kP,M1.wt w hw]
 refine⟨al,λRZ=>?_⟩;obtain⟨V,hV,kV⟩:=M2.kept;obtain⟨U,hU,kU⟩:=M1.kept;refine rh (s:=s) (λw hw=>(RZ w hw).trans (al w hw).symm) (λj=>(V j).reverse) (λj hj g hg=>hV j hj g<|kd.mp hg) (λc hc=>?_) λy hy=>?_
 ·refine RV (M:=λj i=>zE r BV fit (V j) i) (λw hw=>kV w hw) c λi hi=>?_
  rw[<-hc i hi];exact zb r λj _=>by rw[UA,kP]
 ·refine M2.cols (λz hz=>kU z λj hj=>?_) y λv hv=>?_
  ·have:=hz (U j).reverse λg hg=>hU j hj g<|kd.mp hg
   rwa[UA,kP] at this
  ·have:=hy v.reverse λg hg=>hv g<|kd.mp hg
   rw[xt] at this;rw[<-this];exact zb r λi _=>kg _ _
end
end WD.DT
namespace L2.Fu
open PySem PySem.Spec PyProof.Rows
def Wl:bW:=(sq (zW 1<|cst<|.int 0)<|sq (je aZ (bN 2)<|zW 1<|zi yW<|aC am<|aC ag a0)<|sq (cD (zy<|bM ltI ag<|cst<|.int 2) (Ui<|xf wF<|aC af a0) s0)<|Ui<|zQ 1 [1] aZ aq<|bM yJ af<|gv 1)
def jx:eM:=fG 3 1 Wl
def R4:bW:=(Ui<|xf jx<|aC (yt<|xf xR<|aC af<|aC (zi yx<|aC af a0) a0) a0)
def vC:eM:=fG 1 1 R4
def R5:bW:=(sq (x6 2<|tX (vI<|aC ak a0)<|gv 1)<|sq (i5 2 af<|cst<|.int 1)<|Ui<|gk 2)
def Jg:eM:=fG 3 2 R5
def R6:bW:=(Ui<|zQ 2 [1,3,4] (Ug false false<|aC af<|aC am a0) aS<|bM yJ (bM W9 (bM yD aO<|gv 0)<|bM yD am<|gv 1)<|gv 4)
def UW:eM:=fG 5 5 R6
def R7:bW:=(sq (Bz<|zi vN<|aC af<|aC ag a0)<|retS<|zi ZS<|aC af<|aC (xm<|aC au<|aC ai<|aC (zi Jd<|aC (bM bS ag<|cst<|.int 2)<|aC (cst<|.tuple [.int<|-1,.int 1]) a0) a0) a0)
def vV:ck:=cw 2 2 R7
inductive Fs where
 |pu (d:PdX)|ow (ds:LPd)|ob (C:AdX) (fs:List (Str×Fs))
mutual
inductive cE(K:FRx)(H:Hp)(os:LAd):V->Fs->List Addr->Prop
 |pu {v:V} {d:PdX}:Rep K (bK H os) v d->cE K H os v (.pu d) []
 |ow {a:AdX} {xs:List V} {ds:LPd}:H a=some (.lst xs)->bP K (bK H os) xs ds->cE K H os (.ref a) (.ow ds) [a]
 |ob {p C dx:AdX} {vs:List (Str×V)} {fs:List (Str×Fs)} {A:LAd}:H p=some (.ins C dx vs)->y9 K H os vs fs A->cE K H os (.ref p) (.ob C fs) (p::A)
inductive y9(K:FRx)(H:Hp)(os:LAd):List (Str×V)->List (Str×Fs)->List Addr->Prop
 |nil:y9 K H os [] [] []
 |cons {x:Str} {v:V} {c:Fs} {vs:List (Str×V)} {fs:List (Str×Fs)} {A B:LAd}:cE K H os v c A->y9 K H os vs fs B->y9 K H os ((x,v)::vs) ((x,c)::fs) (A++B)
end
section
mutual
theorem cE.keep(s:bJ (bK H os) (bK H' os')):∀{v:V} {c:Fs} {A:LAd},cE K H os v c A->(∀a∈A,H' a=H a)->cE K H' os' v c A
 |_,_,_,.pu r,_=>.pu<|r.same s
 |_,_,_,.ow h r,q=>.ow (by rw[q _<|.head _];exact h)<|r.same s
 |_,_,_,.ob h r,q=>.ob (by rw[q _<|.head _];exact h)<|y9.keep s r λa ha=>q a<|.tail _ ha
theorem y9.keep(s:bJ (bK H os) (bK H' os')):∀{vs:List (Str×V)} {fs:List (Str×Fs)} {A:LAd},y9 K H os vs fs A->(∀a∈A,H' a=H a)->y9 K H' os' vs fs A
 |_,_,_,.nil,_=>.nil
 |_,_,_,.cons h r,q=>.cons (cE.keep s h λa ha=>q a<|qu.mpr<|.inl ha) (y9.keep s r λa ha=>q a<|qu.mpr<|.inr ha)
end
mutual
theorem cE.has:∀{v:V} {c:Fs} {A:LAd},cE K H os v c A->∀a∈A,∃o,H a=some o
 |_,_,_,.pu _,a,h=>by cases h
 |_,_,_,.ow h _,a,ha=>by rw[qY.mp ha];exact⟨_,h⟩
 |_,_,_,.ob h r,a,ha=>by
  rcases qy.mp ha with z|z
  ·rw[z];exact⟨_,h⟩
  ·exact y9.has r a z
theorem y9.has:∀{vs:List (Str×V)} {fs:List (Str×Fs)} {A:LAd},y9 K H os vs fs A->∀a∈A,∃o,H a=some o
 |_,_,_,.nil,a,h=>by cases h
 |_,_,_,.cons h r,a,ha=>by
  rcases qu.mp ha with z|z
  ·exact cE.has h a z
  ·exact y9.has r a z
end
def cE.same(e:bJ H H'){c:Fs}{A:LAd}(h:cE K H os v c A):cE K H' os v c A:=h.keep (zq e os) λa ha=>by
 obtain⟨o,q⟩:=h.has a ha;rw[q];exact e a o q
noncomputable def fld(x:Str):List (Str×Fs)->Option Fs
 |[]=>none
 |(y,c)::fs=>if x=y then some c else fld x fs
theorem y9.look{x:Str}:∀{vs:List (Str×V)} {fs:List (Str×Fs)} {A:LAd} {c:Fs},y9 K H os vs fs A->fld x fs=some c->∃v B,vs.lookup x=some v/\cE K H os v c B/\∀a∈B,a∈A
 |_,_,_,_,.nil,q=>by cases q
 |_,_,_,c,@y9.cons _ _ _ y v c' vs fs A B h r,q=>by
  unfold fld at q;by_cases z:x=y
  ·rw[qj z] at q;cases q;refine⟨v,A,?_,h,λa ha=>qu.mpr<|.inl ha⟩;rw[kA,show(x==y)=true from gQ.mpr z]
  ·rw[qm z] at q;obtain⟨v',B',h1,h2,h3⟩:=y9.look r q;refine⟨v',B',?_,h2,λa ha=>qu.mpr<|.inr<|h3 a ha⟩;rw[kA,show(x==y)=false from k8.mpr z];exact h1
theorem y9.nolook{x:Str}:∀{vs:List (Str×V)} {fs:List (Str×Fs)} {A:LAd},y9 K H os vs fs A->fld x fs=none->vs.lookup x=none
 |_,_,_,.nil,_=>rfl
 |_,_,_,@y9.cons _ _ _ y v c' vs fs A B h r,q=>by
  unfold fld at q;by_cases z:x=y
  ·rw[qj z] at q;cases q
  ·rw[qm z] at q;rw[kA,show(x==y)=false from k8.mpr z];exact y9.nolook r q
end
structure vO(K:FRx)(C:AdX)(ℓ:Nat)(H:Hp)(os:LAd)(σ:St)(ρ:Ro)(fs:List (Str×Fs)):Prop where
 rel:xM K H os σ ρ
 ob:∃p A,σ[ℓ]?=some (some<|.ref p)/\cE K H os (.ref p) (.ob C fs) A/\∀a∈A,a∈os
def vO.same{fs:List (Str×Fs)}(h:vO K C ℓ H os σ ρ fs)(e:bJ H H'):vO K C ℓ H' os σ ρ fs:=by
 obtain⟨p,A,h1,h2,h3⟩:=h.ob;exact⟨h.rel.same e,p,A,h1,h2.same e,h3⟩
abbrev Ob:=List<|Str×Fs
abbrev cc:=Ro->Ob->Option PyData
abbrev OLx:=Ro->Ob->Option (List PyData)
abbrev eC:=Ob->List PyData->Option (PyData×Ob)
def GE(X:Cx)(C:AdX)(ℓ:Nat)(e:Expr)(f:Ro->Ob->Option PyData):Prop:=∃t:TE,PE X e t/\∀(σ:St)(H:Hp)(os:LAd)(ρ:Ro)(fs:Ob)(d:PdX)(Q:VK),vO X.K C ℓ H os σ ρ fs->f ρ fs=some d->(∀v H',bJ H H'->Rep X.K (bK H' os) v d->Q v H')->t σ H Q
def GB(X:Cx)(C:AdX)(ℓ:Nat)(e:Expr)(f:cc):Prop:=∃t:TE,PE X e t/\∀(σ:St)(H:Hp)(os:LAd)(ρ:Ro)(fs:Ob)(d:PdX)(Q:VK),vO X.K C ℓ H os σ ρ fs->f ρ fs=some d->(∀v H',bJ H H'->jN X.K H' os v d->Q v H')->t σ H Q
def GL(X:Cx)(C:AdX)(ℓ:Nat)(e:Expr)(f:OLx):Prop:=∃t:TE,PE X e t/\∀(σ:St)(H:Hp)(os:LAd)(ρ:Ro)(fs:Ob)(ds:LPd)(Q:VK),vO X.K C ℓ H os σ ρ fs->f ρ fs=some ds->
  (∀a xs H',H a=none->bJ H H'->H' a=some (.lst xs)->bP X.K (bK H'<|a::os) xs ds->Q (.ref a) H')->t σ H Q
def GT(X:Cx)(C:AdX)(ℓ:Nat)(e:Expr)(f:Ro->Ob->Option Bool):Prop:=∃t:TT,PT X e t/\∀(σ:St)(H:Hp)(os:LAd)(ρ:Ro)(fs:Ob)(b:Bool)(Q:Bool->Hp->Prop),vO X.K C ℓ H os σ ρ fs->f ρ fs=some b->(∀H',bJ H H'->Q b H')->t σ H Q
section
variable{a b:Expr}
def FE.ge(h:FE X e f):GE X C ℓ e (λρ _=>f ρ):=by
 obtain⟨t,p,q⟩:=h;exact⟨t,p,λσ H os ρ fs d Q R e k=>q σ H os ρ d Q R.rel e k⟩
def FB.gb(h:FB X e f):GB X C ℓ e (λρ _=>f ρ):=by
 obtain⟨t,p,q⟩:=h;exact⟨t,p,λσ H os ρ fs d Q R e k=>q σ H os ρ d Q R.rel e k⟩
def FL.gl{f:bY}(h:FL X e f):GL X C ℓ e (λρ _=>f ρ):=by
 obtain⟨t,p,q⟩:=h;exact⟨t,p,λσ H os ρ fs d Q R e k=>q σ H os ρ d Q R.rel e k⟩
def FT.gt{f:Ro->Option Bool}(h:FT X e f):GT X C ℓ e (λρ _=>f ρ):=by
 obtain⟨t,p,q⟩:=h;exact⟨t,p,λσ H os ρ fs d Q R e k=>q σ H os ρ d Q R.rel e k⟩
def GE.gb{f:cc}(h:GE X C ℓ e f):GB X C ℓ e f:=by
 obtain⟨t,p,q⟩:=h;exact⟨t,p,λσ H os ρ fs d Q R e k=>q σ H os ρ fs d Q R e λv H' s r=>k v H' s<|.inl r⟩
def gf(x:Str):cc:=λ_ fs=>match fld x fs with |some (.pu d)=>some d|_=>none
def gg(x:Str):cc:=λ_ fs=>match fld x fs with |some (.pu d)=>some d|some (.ow ds)=>some (.list ds)|_=>none
def Y8{f:Str}(cl:cV X.K C)(na:yM X.K C f)(hN:X.N[ℓ]?=some x:=by rfl)(hv:cY X.env.scope x:=by trivial)(hd:NDx x:=by decide)(b6:NCx x:=by decide)(hb:d4 X (.Name x p) f:=by rfl):GE X C ℓ (.Attribute (.Name x p) f pos) (gf f):=by
 refine⟨_,va (yA (i:=ℓ) hN hv hd b6) hb,λσ H os ρ fs d Q R e k=>?_⟩;obtain⟨q,A,h1,h2,h3⟩:=R.ob;cases h2 with
 |ob hp r=>
  unfold gf at e;split at e
  ·rename_i d' ef;cases e;obtain⟨v,B,l,o,_⟩:=r.look ef;cases o with
   |pu rv=>exact⟨_,h1,_,_,_,_,_,rfl,hp,cl,na,l,k _ H (bJ.refl H) rv⟩
  ·cases e
def vk{f:Str}(cl:cV X.K C)(na:yM X.K C f)(hN:X.N[ℓ]?=some x:=by rfl)(hv:cY X.env.scope x:=by trivial)(hd:NDx x:=by decide)(b6:NCx x:=by decide)(hb:d4 X (.Name x p) f:=by rfl):GB X C ℓ (.Attribute (.Name x p) f pos) (gg f):=by
 refine⟨_,va (yA (i:=ℓ) hN hv hd b6) hb,λσ H os ρ fs d Q R e k=>?_⟩;obtain⟨q,A,h1,h2,h3⟩:=R.ob;cases h2 with
 |ob hp r=>
  unfold gg at e;split at e
  ·rename_i d' ef;cases e;obtain⟨v,B,l,o,_⟩:=r.look ef;cases o with
   |pu rv=>exact⟨_,h1,_,_,_,_,_,rfl,hp,cl,na,l,k _ H (bJ.refl H)<|.inl rv⟩
  ·rename_i ds ef;cases e;obtain⟨v,B,l,o,_⟩:=r.look ef;cases o with
   |ow ha rv=>exact⟨_,h1,_,_,_,_,_,rfl,hp,cl,na,l,k _ H (bJ.refl H)<|.inr ⟨_,_,_,rfl,rfl,ha,rv⟩⟩
  ·cases e
end
structure cI(K:FRx)(C:AdX)(ℓ:Nat)(H0:Hp)(bO:LAd)(p:AdX)(H:Hp)(os:LAd)(σ:St)(ρ:Ro)(fs:Ob):Prop where
 sr:cH K H0 bO H os σ ρ
 self:σ[ℓ]?=some (some<|.ref p)
 ob:∃A,cE K H os (.ref p) (.ob C fs) A/\A.Nodup/\(∀a∈A,a∈os/\H0 a=none)/\∀(j:Nat)(c:Sl),ρ[j]?=some c->isM c=true->∀a∈A,σ[j]?≠some (some<|.ref a)
inductive oh where
 |nx (ρ:Ro) (fs:Ob)|rt (d:PdX) (fs:Ob)|rf (d:PdX)
abbrev cx:=Ro->Ob->Option oh
structure Ai(K:FRx)(C:AdX)(H0:Hp)(bO:LAd)(p:AdX)(H:Hp)(os:LAd)(fs:Ob):Prop where
 sm:bJ H0 H
 sub:∀a∈bO,a∈os
 new:∀a∈os,a∈bO\/H0 a=none
 al:Al H os
 ob:∃A,cE K H os (.ref p) (.ob C fs) A/\A.Nodup/\∀a∈A,a∈os/\H0 a=none
def Kf(K:FRx)(C:AdX)(ℓ:Nat)(H0:Hp)(bO:LAd)(p:AdX)(D:Ends):oh->Prop
 | .nx ρ fs=>∀σ H os,cI K C ℓ H0 bO p H os σ ρ fs->D.nx σ H
 | .rt d fs=>∀v H os,Ai K C H0 bO p H os fs->Rep K (bK H os) v d->D.rt v H
 | .rf d=>∀v H,bJ H0 H->Rep K (bK H bO) v d->D.rt v H
def OS(X:Cx)(C:AdX)(ℓ:Nat)(st:Stmt)(f:cx):Prop:=∃t:TS,PS X st t/\∀(H0:Hp)(bO:LAd)(p:AdX)(D:Ends)(σ:St)(H:Hp)(os:LAd)(ρ:Ro)(fs:Ob)(r:oh),cI X.K C ℓ H0 bO p H os σ ρ fs->f ρ fs=some r->Kf X.K C ℓ H0 bO p D r->t D σ H
def fQ(X:Cx)(C:AdX)(ℓ:Nat)(iI:List Stmt)(f:cx):Prop:=∃t:TS,eQ X iI t/\∀(H0:Hp)(bO:LAd)(p:AdX)(D:Ends)(σ:St)(H:Hp)(os:LAd)(ρ:Ro)(fs:Ob)(r:oh),cI X.K C ℓ H0 bO p H os σ ρ fs->f ρ fs=some r->Kf X.K C ℓ H0 bO p D r->t D σ H
section
variable{bO:LAd}{p:AdX}{fs:Ob}
def cI.uu(h:cI K C ℓ H0 bO p H os σ ρ fs):vO K C ℓ H os σ ρ fs:=by
 obtain⟨A,h1,h2,h3,h4⟩:=h.ob;exact⟨h.sr.rel,p,A,h.self,h1,λa ha=>(h3 a ha).1⟩
def cI.same(h:cI K C ℓ H0 bO p H os σ ρ fs)(e:bJ H H'):cI K C ℓ H0 bO p H' os σ ρ fs:=by
 obtain⟨A,h1,h2,h3,h4⟩:=h.ob;exact⟨h.sr.same e,h.self,A,h1.same e,h2,h3,h4⟩
def cI.end(h:cI K C ℓ H0 bO p H os σ ρ fs):Ai K C H0 bO p H os fs:=by
 obtain⟨A,h1,h2,h3,h4⟩:=h.ob;exact⟨h.sr.sm,h.sr.sub,h.sr.new,h.sr.rel.al,A,h1,h2,h3⟩
def cI.set(h:cI K C ℓ H0 bO p H os σ ρ fs)(hi:i≠ℓ)(r:Rep K (bK H os) v d):cI K C ℓ H0 bO p H os (σ.set i<|some v) (ρ.set i<|.pu d) fs:=by
 obtain⟨A,h1,h2,h3,h4⟩:=h.ob;refine⟨h.sr.set r,by rw[qL hi];exact h.self,A,h1,h2,h3,λj c q m a ha z=>?_⟩;obtain⟨hj,q⟩:=vE q m;rw[qL hj] at z;exact h4 j c q m a ha z
def cI.W6(h:cI K C ℓ H0 bO p H os σ ρ fs)(hi:i≠ℓ)(n:H a=none)(s:bJ H H')(hx:H' a=some (.lst xs))(r:bP K (bK H'<|a::os) xs ds):cI K C ℓ H0 bO p H' (a::os) (σ.set i<|some<|.ref a) (ρ.set i<|.ow ds) fs:=by
 obtain⟨A,h1,h2,h3,h4⟩:=h.ob;have nA:a∉A:=λz=>by
  obtain⟨o,e⟩:=h1.has a z;rw[n] at e;cases e
 refine⟨h.sr.W6 n s hx r,by rw[qL hi];exact h.self,A,h1.keep (jA n s) λb hb=>?_,h2,λb hb=>⟨qA _ (h3 b hb).1,(h3 b hb).2⟩,λj c q m b hb z=>?_⟩
 ·obtain⟨o,e⟩:=h1.has b hb;rw[e];exact s b o e
 ·rcases yy q with⟨rfl,hl,rfl⟩|⟨hj,q⟩
  ·rw[kQ<|by rw[h.sr.rel.len];exact hl] at z;cases z;exact nA hb
  ·rw[qL hj] at z;exact h4 j c q m b hb z
def cI.chg(h:cI K C ℓ H0 bO p H os σ ρ fs){es:LPd}(q:ρ[i]?=some (.ow ds))(e:σ[i]?=some (some<|.ref a))(r:bP K (bK H os) ys es):cI K C ℓ H0 bO p (upd H a<|.lst ys) os σ (ρ.set i<|.ow es) fs:=by
 obtain⟨A,h1,h2,h3,h4⟩:=h.ob;have nA:a∉A:=λz=>h4 i _ q rfl a z e
 obtain⟨a',xs,e',ha,hx,_⟩:=h.sr.rel.ow i ds q;rw[e] at e';cases e';refine⟨h.sr.chg q e r,h.self,A,h1.keep (by rw[yR ha];exact bJ.refl _) λb hb=>by rw[zY λz=>nA<|by rw[<-z];exact hb],h2,h3,λj c q' m b hb z=>?_⟩;rcases yy q' with⟨rfl,hl,rfl⟩|⟨hj,q'⟩
 ·rw[e] at z;cases z;exact nA hb
 ·exact h4 j c q' m b hb z
end
section
variable{st:Stmt}{f g:cx}
noncomputable def cu(f g:cx):cx:=λρ fs=>match f ρ fs with |some (.nx ρ' bU)=>g ρ' bU|r=>r
noncomputable def bO:cx:=λρ fs=>some<|.nx ρ fs
def VB:fQ X C ℓ [] bO:=⟨_,CJ,λ_ _ _ _ _ _ _ _ _ _ R q k=>by cases q;exact k _ _ _ R⟩
def xv(h:OS X C ℓ st f):fQ X C ℓ [st] f:=by
 obtain⟨t,p,q⟩:=h;exact⟨t,CK p,q⟩
def zN(h:OS X C ℓ st f)(h2:fQ X C ℓ rest g):fQ X C ℓ (st::rest) (cu f g):=by
 obtain⟨t,p,q⟩:=h;obtain⟨t2,p2,q2⟩:=h2;refine⟨_,wq p p2,λH0 bO p D σ H os ρ fs r R e k=>?_⟩;unfold cu at e;split at e
 ·rename_i ρ' bU e1;exact q H0 bO p { D with nx:=t2 D } σ H os ρ fs _ R e1 λbR H' os' R'=>q2 H0 bO p D bR H' os' ρ' bU r R' e k
 ·cases r with
  |nx ρ' bU=>rename_i hn;exact absurd e<|hn ρ' bU
  |rt d bU=>exact q H0 bO p { D with nx:=t2 D } σ H os ρ fs _ R e k
  |rf d=>exact q H0 bO p { D with nx:=t2 D } σ H os ρ fs _ R e k
noncomputable def oset(i:Nat)(f:cc):cx:=λρ fs=>(f ρ fs).bind λd=>some<|.nx (ρ.set i<|.pu d) fs
def US(i:Nat){f:cc}(hN:X.N.Nodup)(he:GE X C ℓ e f)(h0:i≠ℓ:=by decide)(hi:X.N[i]?=some x:=by rfl)(hx:Loc X.env.scope x:=by trivial)(hs:swapsWith e (some<|.Name x pos') pos.line X.env=pure false:=by rfl)(hf:fA X x:=by trivial):OS X C ℓ (.Assign [.Name x pos'] e pos) (oset i f):=by
 obtain⟨t,p,q⟩:=he;refine⟨_,uq hN hi hx p hs hf,λH0 bO p D σ H os ρ fs r R e k=>?_⟩;obtain⟨d,e1,e2⟩:=bind_some e;cases e2;exact q σ H os ρ fs d _ R.uu e1 λv H' s rv=>k _ _ _<|(R.same s).set h0 rv
noncomputable def WA(i:Nat)(f:OLx):cx:=λρ fs=>(f ρ fs).bind λd=>some<|.nx (ρ.set i<|.ow d) fs
noncomputable def da(f:cc):cx:=λρ fs=>(f ρ fs).bind λd=>some<|.rt d fs
def uC{f:cc}(h:GE X C ℓ e f):OS X C ℓ (.Return (some e) pos) (da f):=by
 obtain⟨t,p,q⟩:=h;refine⟨_,UY p,λH0 bO p D σ H os ρ fs r R e k=>?_⟩;obtain⟨d,e1,e2⟩:=bind_some e;cases e2;exact q σ H os ρ fs d _ R.uu e1 λv H' s rv=>k v H' os (R.same s).end rv
noncomputable def ll(c:Ro->Ob->Option Bool)(f g:cx):cx:=λρ fs=>(c ρ fs).bind λb=>if b then f ρ fs else g ρ fs
def Ej{a b:List Stmt}{fc:Ro->Ob->Option Bool}(hc:GT X C ℓ c fc)(ha:fQ X C ℓ a f)(hb:fQ X C ℓ b g):OS X C ℓ (.If c a b pos) (ll fc f g):=by
 obtain⟨tc,pc,qc⟩:=hc;obtain⟨ta,pa,qa⟩:=ha;obtain⟨tb,pb,qb⟩:=hb;refine⟨_,CL pc pa pb,λH0 bO p D σ H os ρ fs r R e k=>?_⟩;obtain⟨b,e1,e2⟩:=bind_some e;refine qc σ H os ρ fs b _ R.uu e1 λH' s=>?_
 cases b with
 |true=>rw[qj rfl] at e2 ⊢;exact qa H0 bO p D σ H' os ρ fs r (R.same s) e2 k
 |false=>rw[qm qR] at e2 ⊢;exact qb H0 bO p D σ H' os ρ fs r (R.same s) e2 k
end
noncomputable def zR(x:Str)(c:Fs):Ob->Ob
 |[]=>[(x,c)]
 |(y,d)::fs=>if y=x then (y,c)::fs else (y,d)::zR x c fs
section
variable{bO:LAd}{p:AdX}{fs:Ob}
theorem y9.len:∀{vs:List (Str×V)} {fs:Ob} {A:LAd},y9 K H os vs fs A->vs.length=fs.length
 |_,_,_,.nil=>rfl
 |_,_,_,.cons _ r=>qM (·+1)<|y9.len r
def BW{A B:LAd}(h1:A.Nodup)(h2:B.Nodup)(h3:∀a∈A,a∉B):(A++B).Nodup:=List.nodup_append.mpr ⟨h1,h2,λa ha b hb e=>h3 a ha<|by rw[e];exact hb⟩
def Ek{A B:LAd}(h:(A++B).Nodup):A.Nodup:=(gm.mp h).1
def sf{A B:LAd}(h:(A++B).Nodup):B.Nodup:=(gm.mp h).2.1
def si{A B:LAd}(h:(A++B).Nodup):∀a∈A,a∉B:=λa ha hb=>(gm.mp h).2.2 a ha a hb rfl
theorem y9.put{x:Str}{v:V}{c:Fs}{B:LAd}(hb:cE K H os v c B)(Aj:B.Nodup):∀{vs:List (Str×V)} {fs:Ob} {A:LAd},y9 K H os vs fs A->A.Nodup->(∀a∈B,a∉A)->∃A',y9 K H os (Ji x v vs) (zR x c fs) A'/\A'.Nodup/\∀a∈A',a∈A\/a∈B
 |_,_,_,.nil,_,_=>⟨B++[],.cons hb .nil,by rw[km];exact Aj,λa ha=>.inr<|by rwa[km] at ha⟩
 |_,_,_,@y9.cons _ _ _ y u d vs fs A0 B0 h r,nd,dj=>by
  unfold Ji zR;by_cases z:y=x
  ·rw[qj z,qj z];refine⟨B++B0,.cons hb r,BW Aj (sf nd) λa ha hb=>dj a ha<|qu.mpr<|.inr hb,λa ha=>?_⟩;rcases qu.mp ha with q|q
   ·exact .inr q
   ·exact .inl<|qu.mpr<|.inr q
  ·rw[qm z,qm z];obtain⟨A',h1,h2,h3⟩:=y9.put hb Aj r (sf nd) λa ha q=>dj a ha<|qu.mpr<|.inr q
   refine⟨A0++A',.cons h h1,BW (Ek nd) h2 λa ha q=>?_,λa ha=>?_⟩
   ·rcases h3 a q with w|w
    ·exact si nd a ha w
    ·exact dj a w<|qu.mpr<|.inl ha
   ·rcases qu.mp ha with q|q
    ·exact .inl<|qu.mpr<|.inl q
    ·rcases h3 a q with w|w
     ·exact .inl<|qu.mpr<|.inr w
     ·exact .inr w
def cH.znu(h:cH K H0 bO H os σ ρ){o:HO}(hp:p∈os)(h0:H0 p=none)(hs:∀(j:Nat)(c:Sl),ρ[j]?=some c->isM c=true->σ[j]?≠some (some<|.ref p)):cH K H0 bO (upd H p o) os σ ρ:=by
 have eo:bK (upd H p o) os=bK H os:=yR hp;refine⟨⟨λi d q=>by rw[eo];exact h.rel.pu i d q,λi c q m=>?_,λb hb=>?_,h.rel.len⟩,λb o' z=>?_,h.sub,h.new,h.al0,h.own,h.ap⟩
 ·obtain⟨a,o',h1,h2,h3,h4⟩:=h.rel.mu i c q m;exact⟨a,o',h1,h2,by rw[zY λz=>hs i c q m<|by rw[h1,z]];exact h3,by rw[eo];exact h4⟩
 ·by_cases q:b=p
  ·rw[q];exact⟨_,zL⟩
  ·rw[zY q];exact h.rel.al b hb
 ·rw[zY λw=>by rw[w,h0] at z;cases z];exact h.sm b o' z
def cH.grow(h:cH K H0 bO H os σ ρ)(n:H a=none)(s:bJ H H')(hx:H' a=some (.lst xs))(r:bP K (bK H'<|a::os) xs ds):cH K H0 bO H' (a::os) σ ρ:=by
 have:=h.W6 (i:=ρ.length) n s hx r;rw[br<|qe _,br<|by rw[h.rel.len];exact qe _] at this;exact this
def cH.drop(h:cH K H0 bO H os σ ρ)(i:Nat):cH K H0 bO H os σ (ρ.set i .no):=by
 have m:∀{j:Nat} {c:Sl},(ρ.set i .no)[j]?=some c->c≠ .no->i≠j/\ρ[j]?=some c:=λ{j c} q hc=>by
  rcases yy q with⟨_,_,z⟩|z
  ·exact absurd z.symm hc
  ·exact z
 refine⟨⟨λj d q=>h.rel.pu j d (m q<|by intro z;cases z).2,λj c q hm=>h.rel.mu j c (m q<|by intro z;rw[z] at hm;cases hm).2 hm,h.rel.al,by rw[gr];exact h.rel.len⟩,h.sm,h.sub,h.new,h.al0,λj c q hm=>h.own j c (m q<|by intro z;rw[z] at hm;cases hm).2 hm,λj k c c' fy q1 q2 m1 m2=>h.ap j k c c' fy (m q1<|by intro z;rw[z] at m1;cases m1).2 (m q2<|by intro z;rw[z] at m2;cases m2).2 m1 m2⟩
def Yg{c:Fs}{A B:LAd}{vs:List (Str×V)}(sr:cH K H0 bO H os σ ρ)(self:σ[ℓ]?=some (some<|.ref p))(hp:H p=some (.ins C dx vs))(hf:y9 K H os vs fs A)(nd:(p::A).Nodup)(hA:∀a∈p::A,a∈os/\H0 a=none)(hs:∀(j:Nat)(c:Sl),ρ[j]?=some c->isM c=true->∀a∈p::A,σ[j]?≠some (some<|.ref a))(hb:cE K H os v c B)(Aj:B.Nodup)(hB:∀a∈B,a∈os/\H0 a=none/\a∉p::A/\∀(j:Nat)(c:Sl),ρ[j]?=some c->isM c=true->σ[j]?≠some (some<|.ref a)):cI K C ℓ H0 bO p (upd H p<|.ins C dx<|Ji x v vs) os σ ρ (zR x c fs):=by
 obtain⟨pA,R8⟩:=kv.mp nd;obtain⟨A',h1,h2,h3⟩:=y9.put (x:=x) hb Aj hf R8 λa ha q=>(hB a ha).2.2.1<|.tail _ q
 obtain⟨Kg,R9⟩:=hA p<|.head _;have BX:p∉A':=λz=>by
  rcases h3 p z with q|q
  ·exact pA q
  ·exact(hB p q).2.2.1<|.head _
 have all:∀a∈p::A',a∈p::A\/a∈B:=λa ha=>by
  rcases qy.mp ha with q|q
  ·exact .inl (by rw[q];exact .head _)
  ·rcases h3 a q with w|w
   ·exact .inl<|.tail _ w
   ·exact .inr w
 refine⟨sr.znu Kg R9 λj c q m=>hs j c q m p<|.head _,self,p::A',.ob zL (h1.keep (by rw[yR Kg];exact bJ.refl _) λa ha=>zY λz=>BX<|by rw[<-z];exact ha),kv.mpr ⟨BX,h2⟩,λa ha=>?_,λj c q m a ha=>?_⟩
 ·rcases all a ha with w|w
  ·exact hA a w
  ·exact⟨(hB a w).1,(hB a w).2.1⟩
 ·rcases all a ha with w|w
  ·exact hs j c q m a w
  ·exact(hB a w).2.2.2 j c q m
end
section
variable{f:Str}
def oi(x:Str)(g:cc):cx:=λρ fs=>(g ρ fs).bind λd=>if fs.length<1000 then some (.nx ρ<|zR x (.pu d) fs) else none
def BY{g:cc}(cl:cV X.K C)(na:yM X.K C f)(he:GE X C ℓ e g)(hN:X.N[ℓ]?=some x:=by rfl)(hv:cY X.env.scope x:=by trivial)(hd:NDx x:=by decide)(b6:NCx x:=by decide)(hs:swapsWith e (some<|.Attribute (.Name x p0) f pos') pos.line X.env=pure false:=by rfl):OS X C ℓ (.Assign [.Attribute (.Name x p0) f pos'] e pos) (oi f g):=by
 obtain⟨t,pe,q⟩:=he;refine⟨_,Bg (yA (i:=ℓ) hN hv hd b6) pe hs,λH0 bO p D σ H os ρ fs r R e k=>?_⟩;obtain⟨d,e1,e2⟩:=bind_some e;split at e2
 ·rename_i hl;cases e2;refine q σ H os ρ fs d _ R.uu e1 λv H' s rv=>?_
  have R':=R.same s;obtain⟨A,h1,h2,h3,h4⟩:=R'.ob;cases h1 with
  |ob hp r=>exact⟨_,R'.self,_,_,_,_,rfl,hp,cl,na,by rw[r.len];exact hl,k _ _ _<|Yg R'.sr R'.self hp r h2 h3 h4 (.pu rv) .nil λa ha=>by cases ha⟩
 ·cases e2
def iL(x:Str)(g:OLx):cx:=λρ fs=>(g ρ fs).bind λd=>if fs.length<1000 then some (.nx ρ<|zR x (.ow d) fs) else none
def Jh{g:OLx}(cl:cV X.K C)(na:yM X.K C f)(he:GL X C ℓ e g)(hN:X.N[ℓ]?=some x:=by rfl)(hv:cY X.env.scope x:=by trivial)(hd:NDx x:=by decide)(b6:NCx x:=by decide)(hs:swapsWith e (some<|.Attribute (.Name x p0) f pos') pos.line X.env=pure false:=by rfl):OS X C ℓ (.Assign [.Attribute (.Name x p0) f pos'] e pos) (iL f g):=by
 obtain⟨t,pe,q⟩:=he;refine⟨_,Bg (yA (i:=ℓ) hN hv hd b6) pe hs,λH0 bO p D σ H os ρ fs r R e k=>?_⟩;obtain⟨d,e1,e2⟩:=bind_some e;split at e2
 ·rename_i hl;cases e2;refine q σ H os ρ fs d _ R.uu e1 λa xs H' n s hx rv=>?_
  obtain⟨A,h1,h2,h3,h4⟩:=R.ob;have nA:a∉A:=λz=>by
   obtain⟨o,e⟩:=h1.has a z;rw[n] at e;cases e
  have Sa:H0 a=none:=R.sr.sm.free n;have Em:a∉os:=R.sr.rel.al.new n
  have oW:=h1.keep (jA n s) λb hb=>by
   obtain⟨o,e⟩:=h1.has b hb;rw[e];exact s b o e
  cases oW with
  |ob hp r=>exact⟨_,R.self,_,_,_,_,rfl,hp,cl,na,by rw[r.len];exact hl,k _ _ _ (Yg (R.sr.grow n s hx rv) R.self hp r h2 (λb hb=>⟨qA _ (h3 b hb).1,(h3 b hb).2⟩) h4 (.ow hx rv) (kv.mpr ⟨by simp,.nil⟩) λb hb=>by
    rw[qY.mp hb];refine⟨.head _,Sa,nA,λj c q m z=>?_⟩;obtain⟨b',o,w1,w2,_⟩:=R.sr.rel.mu j c q m;rw[z] at w1;cases w1;exact Em w2)⟩
 ·cases e2
def Ak(x:Str)(i:Nat):cx:=λρ fs=>match ρ[i]? with
 |some (.ow ds)=>if fs.length<1000 then some (.nx (ρ.set i .no)<|zR x (.ow ds) fs) else none
 |_=>none
def Sb(i:Nat)(cl:cV X.K C)(na:yM X.K C f)(hN:X.N[ℓ]?=some x:=by rfl)(hv:cY X.env.scope x:=by trivial)(hd:NDx x:=by decide)(b6:NCx x:=by decide)(Sd:X.N[i]?=some y:=by rfl)(Se:cY X.env.scope y:=by trivial)(Sf:NDx y:=by decide)(En:NCx y:=by decide)(hs:swapsWith (.Name y p1) (some<|.Attribute (.Name x p0) f pos') pos.line X.env=pure false:=by rfl):OS X C ℓ (.Assign [.Attribute (.Name x p0) f pos'] (.Name y p1) pos) (Ak f i):=by
 refine⟨_,Bg (yA (i:=ℓ) hN hv hd b6) (yA (i:=i) Sd Se Sf En) hs,λH0 bO p D σ H os ρ fs r R e k=>?_⟩;unfold Ak at e;split at e
 ·rename_i ds ei;split at e
  ·rename_i hl;cases e;obtain⟨a,xs,w1,w2,w3,w4⟩:=R.sr.rel.ow i ds ei;obtain⟨A,h1,h2,h3,h4⟩:=R.ob;have nA:a∉A:=λz=>h4 i _ ei rfl a z w1
   have dr:∀{j:Nat} {c:Sl},(ρ.set i .no)[j]?=some c->isM c=true->i≠j/\ρ[j]?=some c:=λ{j c} q m=>by
    rcases yy q with⟨_,_,z⟩|z
    ·rw[<-z] at m;cases m
    ·exact z
   cases h1 with
   |ob hp r=>
    refine⟨_,w1,_,R.self,_,_,_,_,rfl,hp,cl,na,by rw[r.len];exact hl,k _ _ _<|Yg (R.sr.drop i) R.self hp r h2 h3 (λj c q m b hb=>h4 j c (dr q m).2 m b hb) (.ow w3 w4) (kv.mpr ⟨by simp,.nil⟩) λb hb=>?_⟩;rw[qY.mp hb];exact⟨w2,R.sr.own i _ ei rfl a w1,nA,λj c q m z=>R.sr.ap i j _ c (dr q m).1 ei (dr q m).2 rfl m a w1 z⟩
  ·cases e
 ·cases e
end
section
variable{bO:LAd}{p:AdX}{fs:Ob}
theorem y9.chg{x:Str}{a:AdX}{ys:List V}{es:LPd}(ha:a∈os)(rs:bP K (bK H os) ys es):∀{vs:List (Str×V)} {fs:Ob} {A:LAd} {ds:LPd},y9 K H os vs fs A->A.Nodup->fld x fs=some (.ow ds)->vs.lookup x=some (.ref a)->
  y9 K (upd H a<|.lst ys) os vs (zR x (.ow es) fs) A/\a∈A
 |_,_,_,_,.nil,_,q,_=>by cases q
 |_,_,_,ds,@y9.cons _ _ _ y u d vs fs A0 B0 h r,nd,q,l=>by
  have so:bJ (bK H os) (bK (upd H a<|.lst ys) os):=by rw[yR ha];exact bJ.refl _
  unfold fld at q;unfold zR;by_cases z:x=y
  ·rw[qj z] at q;rw[qj z.symm];cases q;rw[kA,show(x==y)=true from gQ.mpr z] at l;cases l;cases h with
   |ow h1 h2=>exact⟨.cons (.ow zL<|by rw[yR ha];exact rs) (r.keep so λb hb=>zY λw=>si nd a (.head _)<|by rw[<-w];exact hb),.head _⟩
  ·rw[qm z] at q;rw[qm<|gE z];rw[kA,show(x==y)=false from k8.mpr z] at l;obtain⟨h1,h2⟩:=y9.chg ha rs r (sf nd) q l;exact⟨.cons (h.keep so λb hb=>zY λw=>si nd b hb<|by rw[w];exact h2) h1,qu.mpr<|.inr h2⟩
def cI.lst(h:cI K C ℓ H0 bO p H os σ ρ fs)(q:fld x fs=some (.ow ds)):∃dx vs a xs,H p=some (.ins C dx vs)/\vs.lookup x=some (.ref a)/\H a=some (.lst xs)/\a∈os/\bP K (bK H os) xs ds:=by
 obtain⟨A,h1,h2,h3,h4⟩:=h.ob;cases h1 with
 |ob hp r=>
  obtain⟨v,B,l,o,hB⟩:=r.look q;cases o with
  |ow ha rv=>exact⟨_,_,_,_,hp,l,ha,(h3 _<|.tail _<|hB _<|.head _).1,rv⟩
def cI.zj2(h:cI K C ℓ H0 bO p H os σ ρ fs){es:LPd}{vs:List (Str×V)}(q:fld x fs=some (.ow ds))(hp:H p=some (.ins C dx vs))(l:vs.lookup x=some (.ref a))(rs:bP K (bK H os) ys es):cI K C ℓ H0 bO p (upd H a<|.lst ys) os σ ρ (zR x (.ow es) fs):=by
 obtain⟨A,h1,h2,h3,h4⟩:=h.ob;cases h1 with
 | @ob _ _ _ _ _ A fm r=>
  rw[hp] at fm;cases fm;obtain⟨pA,nd⟩:=kv.mp h2;obtain⟨v,B,l',o,hB⟩:=r.look q;rw[l] at l';cases l';have aA:a∈A:=by
   cases o with
   |ow ha rv=>exact hB a<|.head _
  obtain⟨ao,a0⟩:=h3 a<|.tail _ aA;obtain⟨r',_⟩:=r.chg ao rs nd q l;have pa:p≠a:=λz=>pA (by rw[z];exact aA)
  exact⟨h.sr.znu ao a0 λj c q m=>h4 j c q m a<|.tail _ aA,h.self,p::A,.ob (by rw[zY pa];exact hp) r',h2,h3,h4⟩
end
section
variable{f:Str}
def oj(x:Str)(g:cc):cx:=λρ fs=>match fld x fs with
 |some (.ow ds)=>(g ρ fs).bind λd=>if ds.length<16777216 then some (.nx ρ<|zR x (.ow<|ds++[d]) fs) else none
 |_=>none
def Eo{g:cc}(cl:cV X.K C)(na:yM X.K C f)(he:GE X C ℓ e g)(hN:X.N[ℓ]?=some x:=by rfl)(hv:cY X.env.scope x:=by trivial)(hd:NDx x:=by decide)(b6:NCx x:=by decide)(hb:d4 X (.Name x p0) f:=by rfl)(cA:d4 X (.Attribute (.Name x p0) f p1) "append":=by rfl)(cK:lz X cpos [e]:=by rfl)(cB:(apos.endLine==cpos.line)=true:=by rfl)(hs:cT X e []:=by rfl)(cW:swapsWith (.Call (.Attribute (.Attribute (.Name x p0) f p1) "append" apos) [e] [] cpos) none pos.line X.env=pure false:=by rfl):OS X C ℓ (.Expr (.Call (.Attribute (.Attribute (.Name x p0) f p1) "append" apos) [e] [] cpos) pos) (oj f g):=by
 obtain⟨t,pe,q⟩:=he;refine⟨_,Jm (U5 kX nL nK uP (va (yA (i:=ℓ) hN hv hd b6) hb) (yQ pe xW hs) cA cK cB hs) cW,λH0 bO p D σ H os ρ fs r R e k=>?_⟩;unfold oj at e;split at e
 ·rename_i ds ef;obtain⟨d,e1,e2⟩:=bind_some e;split at e2
  ·rename_i hl;cases e2;obtain⟨dx,vs,a,xs,hp,l,ha,ao,rv⟩:=R.lst ef;refine⟨_,R.self,_,_,_,_,_,rfl,hp,cl,na,l,.inl ⟨rfl,_,cm.of ha⟩,q σ H os ρ fs d _ R.uu e1 λv H' s rd=>?_⟩;exact⟨a,xs,v,rfl,rfl,s _ _ ha,by rw[rv.length];exact hl,k _ _ os<|(R.same s).zj2 ef (s _ _ hp) l<|(rv.same<|zq s os).append<|.cons rd .nil⟩
  ·cases e2
 ·cases e
def Am(i:Nat)(x:Str)(g:cc):cx:=λρ fs=>match fld x fs,g ρ fs with
 |some (.ow ds),some (.int n)=>if 0<=n/\n<ds.length/\ds.length<=16777216 then (ds[n.toNat]?).bind λd=>some (.nx (ρ.set i<|.pu d)<|zR x (.ow<|ds.eraseIdx n.toNat) fs) else none
 |_,_=>none
def Sg(i:Nat){g:cc}(An:X.N.Nodup)(cl:cV X.K C)(na:yM X.K C f)(he:GE X C ℓ e g)(h0:i≠ℓ:=by decide)(hi:X.N[i]?=some y:=by rfl)(hx:Loc X.env.scope y:=by trivial)(hf:fA X y:=by trivial)(hN:X.N[ℓ]?=some x:=by rfl)(hv:cY X.env.scope x:=by trivial)(hd:NDx x:=by decide)(b6:NCx x:=by decide)(hb:d4 X (.Name x p0) f:=by rfl)(cA:d4 X (.Attribute (.Name x p0) f p1) "pop":=by rfl)(cK:lz X cpos [e]:=by rfl)(cB:(apos.endLine==cpos.line)=true:=by rfl)(hs:cT X e []:=by rfl)(cW:swapsWith (.Call (.Attribute (.Attribute (.Name x p0) f p1) "pop" apos) [e] [] cpos) (some<|.Name y pos') pos.line X.env=pure false:=by rfl):OS X C ℓ (.Assign [.Name y pos'] (.Call (.Attribute (.Attribute (.Name x p0) f p1) "pop" apos) [e] [] cpos) pos) (Am i f g):=by
 obtain⟨t,pe,q⟩:=he;refine⟨_,uq An hi hx (U5 kX mU mS U8 (va (yA (i:=ℓ) hN hv hd b6) hb) (yQ pe xW hs) cA cK cB hs) cW hf,λH0 bO p D σ H os ρ fs r R e k=>?_⟩;unfold Am at e;split at e
 ·rename_i ds n ef e1;split at e
  ·rename_i hl;obtain⟨fj,eV,Ep⟩:=hl;obtain⟨d,e2,e3⟩:=bind_some e;cases e3;obtain⟨dx,vs,a,xs,hp,l,ha,ao,rv⟩:=R.lst ef;have hlen:=rv.length;refine⟨_,R.self,_,_,_,_,_,rfl,hp,cl,na,l,.inl ⟨rfl,_,cm.of ha⟩,q σ H os ρ fs _ _ R.uu e1 λv H' s rd=>?_⟩;cases rd;have cC:n.toNat<xs.length:=by omega
   obtain⟨u,eu,ru⟩:=rv.getD e2;refine⟨a,xs,n,n.toNat,u,rfl,rfl,s _ _ ha,by omega,by omega,?_,eu,?_⟩
   ·unfold seqIndex?;dsimp only;rw[qm (by omega:¬n<0),qj<|by rw[g9];exact⟨qG fj,qG<|by omega⟩]
   ·exact k _ _ os (((R.same s).zj2 ef (s _ _ hp) l<|wz _<|rv.same<|zq s os).set h0<|by rw[yR ao];exact ru.same<|zq s os)
  ·cases e
 ·cases e
noncomputable def Ao(i j:Nat)(g:cc):cx:=λρ fs=>match ρ[j]?,g ρ fs with
 |some (.ow ds),some (.int n)=>if 0<=n/\n<ds.length/\ds.length<=16777216 then (ds[n.toNat]?).bind λd=>some (.nx ((ρ.set j<|.ow<|ds.eraseIdx n.toNat).set i<|.pu d) fs) else none
 |_,_=>none
def Si(i j:Nat){z:Str}{g:cc}(An:X.N.Nodup)(he:GE X C ℓ e g)(h0:i≠ℓ:=by decide)(hi:X.N[i]?=some y:=by rfl)(hx:Loc X.env.scope y:=by trivial)(hf:fA X y:=by trivial)(hN:X.N[j]?=some z:=by rfl)(hv:cY X.env.scope z:=by trivial)(hd:NDx z:=by decide)(b6:NCx z:=by decide)(cA:d4 X (.Name z p1) "pop":=by rfl)(cK:lz X cpos [e]:=by rfl)(cB:(apos.endLine==cpos.line)=true:=by rfl)(hs:cT X e []:=by rfl)(cW:swapsWith (.Call (.Attribute (.Name z p1) "pop" apos) [e] [] cpos) (some<|.Name y pos') pos.line X.env=pure false:=by rfl):OS X C ℓ (.Assign [.Name y pos'] (.Call (.Attribute (.Name z p1) "pop" apos) [e] [] cpos) pos) (Ao i j g):=by
 obtain⟨t,pe,q⟩:=he;refine⟨_,uq An hi hx (U5 kX mU mS U8 (yA hN hv hd b6) (yQ pe xW hs) cA cK cB hs) cW hf,λH0 bO p D σ H os ρ fs r R e k=>?_⟩;unfold Ao at e;split at e
 ·rename_i ds n ef e1;split at e
  ·rename_i hl;obtain⟨fj,eV,Ep⟩:=hl;obtain⟨d,e2,e3⟩:=bind_some e;cases e3;obtain⟨a,xs,w1,ao,ha,rv⟩:=R.sr.rel.ow j ds ef;have hlen:=rv.length;refine⟨_,w1,.inl ⟨rfl,_,cm.of ha⟩,q σ H os ρ fs _ _ R.uu e1 λv H' s rd=>?_⟩;cases rd;have cC:n.toNat<xs.length:=by omega
   obtain⟨u,eu,ru⟩:=rv.getD e2;refine⟨a,xs,n,n.toNat,u,rfl,rfl,s _ _ ha,by omega,by omega,?_,eu,?_⟩
   ·unfold seqIndex?;dsimp only;rw[qm (by omega:¬n<0),qj<|by rw[g9];exact⟨qG fj,qG<|by omega⟩]
   ·exact k _ _ os (((R.same s).chg ef w1<|wz _<|rv.same<|zq s os).set h0<|by rw[yR ao];exact ru.same<|zq s os)
  ·cases e
 ·cases e
end
noncomputable def dD(ns:List Int):List Int:=ns.mergeSort λa b=>decide (a<=b)
def Sj{Ap:List Int}(p:Ap.Perm ns)(h:Ap.Pairwise (·<=·)):Ap=dD ns:=by
 have h2:(dD ns).Pairwise (λa b=>decide (a<=b)=true):=List.pairwise_mergeSort (λa b c=>by simp only [decide_eq_true_eq];omega) (λa b=>by simp only [Bool.or_eq_true,decide_eq_true_eq];omega) ns;have h3:(dD ns).Pairwise (·<=·):=h2.imp λh=>by simpa using h
 exact List.Perm.eq_of_pairwise (λa b _ _ h1 h2=>Int.le_antisymm h1 h2) h h3<|p.trans (List.mergeSort_perm ns _).symm
def Uy(ns:List Int):(dD ns).Perm ns:=List.mergeSort_perm ns _
theorem Kh:∀{ns:List Int} {us:LVl},Vals (ns.map V.int) us->IntsAre us ns
 |[],_,h=>by cases h;exact .nil
 |n::ns,_,h=>by
  cases h with
  |cons h r=>
   have ih:=Kh r;obtain⟨t,rfl⟩:=h;exact .cons _ _ ih
theorem Ut:∀{ns:List Int} {us:LVl},Vals (ns.map V.int) us->us.length=ns.length
 |[],_,h=>by cases h;rfl
 |n::ns,_,h=>by
  cases h with
  |cons h r=>simp only [ke,Ut r]
def Sm(h:IntsAre us ns):Vals (ns.map V.int) us:=by
 induction h with
 |nil=>exact .nil
 |cons n t _ ih=>exact .cons ⟨t,rfl⟩ ih
section
def Sn:bootBuiltins "sorted"=some (.builtin "sorted"):=by decide+kernel
def So:vS X (.builtin "sorted") (λxs H Q=>∃(p:AdX)(ns:List Int),xs=[.ref p]/\cm X.K H p (ns.map V.int)/\ns.length<64/\∀l,H l=none->Q (.ref l) (upd H l<|.lst<|(dD ns).map V.int)):=by
 intro pins s σ H xs us Q I r h;obtain⟨p,ns,rfl,hS,h64,q⟩:=h;obtain⟨u,rfl,ru⟩:=vals1 r;cases ru;obtain⟨its,rv,pl,hz⟩:=I.list hS;have hL:=pl.isList;have hlen:its.length=ns.length:=Ut rv
 refine sorted_ints hL (Kh rv) (by omega) λout Ap a1 a2 a3=>?_
 have e:=Sj a2 a3;subst e;obtain⟨c',cO⟩:=sortedAll_at s.heap its out;refine⟨.ref<|s.heap.objs.size+1,_,I.laid (o:=.lst<|(dD ns).map V.int) (t':=s.toks) (λb o e=>sortedAll_old e) (mJ _) ⟨?_,out.toList,c',Sm a1,?_⟩,rfl,q _<|I.hok.fresh<|mJ _⟩
 ·rw[qf,(Uy ns).length_eq]
  have:=V0;show ns.length<=16777216
  omega
 ·simpa using cO
end
section
noncomputable def rm(i j:Nat)(g:RPx):bW:=λρ=>match ρ[j]?,g ρ with
 |some (.ow ds),some (.int n)=>if 0<=n/\n<ds.length/\ds.length<=16777216 then (ds[n.toNat]?).bind λd=>some (.nx<|(ρ.set j<|.ow<|ds.eraseIdx n.toNat).set i<|.pu d) else none
 |_,_=>none
def Sq(i j:Nat){z:Str}(An:X.N.Nodup)(he:FE X e g)(hi:X.N[i]?=some y:=by rfl)(hx:Loc X.env.scope y:=by trivial)(hf:fA X y:=by trivial)(hN:X.N[j]?=some z:=by rfl)(hv:cY X.env.scope z:=by trivial)(hd:NDx z:=by decide)(b6:NCx z:=by decide)(cA:d4 X (.Name z p1) "pop":=by rfl)(cK:lz X cpos [e]:=by rfl)(cB:(apos.endLine==cpos.line)=true:=by rfl)(hs:cT X e []:=by rfl)(cW:swapsWith (.Call (.Attribute (.Name z p1) "pop" apos) [e] [] cpos) (some<|.Name y pos') pos.line X.env=pure false:=by rfl):FS X (.Assign [.Name y pos'] (.Call (.Attribute (.Name z p1) "pop" apos) [e] [] cpos) pos) (rm i j g):=by
 obtain⟨t,pe,q⟩:=he;refine⟨_,uq An hi hx (U5 kX mU mS U8 (yA hN hv hd b6) (yQ pe xW hs) cA cK cB hs) cW hf,λH0 bO D σ H os ρ r R e k=>?_⟩;unfold rm at e;split at e
 ·rename_i ds n ef e1;split at e
  ·rename_i hl;obtain⟨fj,eV,Ep⟩:=hl;obtain⟨d,e2,e3⟩:=bind_some e;cases e3;obtain⟨a,xs,w1,ao,ha,rv⟩:=R.rel.ow j ds ef;have hlen:=rv.length;refine⟨_,w1,.inl ⟨rfl,_,cm.of ha⟩,q σ H os ρ _ _ R.rel e1 λv H' s rd=>?_⟩;cases rd;obtain⟨u,eu,ru⟩:=rv.getD e2;refine⟨a,xs,n,n.toNat,u,rfl,rfl,s _ _ ha,by omega,by omega,?_,eu,?_⟩
   ·unfold seqIndex?;dsimp only;rw[qm (by omega:¬n<0),qj<|by rw[g9];exact⟨qG fj,qG<|by omega⟩]
   ·refine k _ _ os (((R.same s).chg ef w1<|wz _<|rv.same<|zq s os).set<|by rw[yR ao];exact ru.same<|zq s os) ?_;rw[yR ao];exact zq s os
  ·cases e
 ·cases e
end
def rn(X:Cx)(C:AdX)(ℓ:Nat)(tg iter:Expr)(f:OLx):Prop:=∃wi:TI,PI X tg iter wi/\∀(σ:St)(H:Hp)(os:LAd)(ρ:Ro)(fs:Ob)(ds:LPd)(R:It->Hp->Prop),vO X.K C ℓ H os σ ρ fs->f ρ fs=some ds->
  (∀J H',bJ H H'->Walks X.K H' (bK H' os) J ds->R J H')->wi σ H R
def Aq(X:Cx)(C:AdX)(ℓ:Nat)(es:List Expr)(f:OLx):Prop:=∃t:TA,PA X es t/\∀(σ:St)(H:Hp)(os:LAd)(ρ:Ro)(fs:Ob)(ds:LPd)(Q:List V->Hp->Prop),vO X.K C ℓ H os σ ρ fs->f ρ fs=some ds->
  (∀vs H',bJ H H'->vf X.K H' os vs ds->Q vs H')->t σ H Q
noncomputable def cz:OLx:=λ_ _=>some []
noncomputable def cn(f:cc)(g:OLx):OLx:=λρ fs=>(f ρ fs).bind λx=>(g ρ fs).map (x::·)
noncomputable def sx(g:cc):OLx:=λρ fs=>match g ρ fs with
 |some (.list ds)=>some ds
 |some (.tuple ds)=>some ds
 |_=>none
def Ar(t1 t2:Bool)(g:OLx):OLx:=λρ fs=>match g ρ fs with
 |some [x,y]=>match kindOf x,kindOf y with
  |some (k1,xs),some (k2,ys)=>if k1=t1/\k2=t2 then some (Ju xs ys) else none
  |_,_=>none
 |_=>none
section
variable{l a b:Expr}{f:cc}{g:OLx}
def fF.gib{f:bY}(h:fF X tg iter f):rn X C ℓ tg iter (λρ _=>f ρ):=by
 obtain⟨t,p,q⟩:=h;exact⟨t,p,λσ H os ρ fs d Q R e k=>q σ H os ρ d Q R.rel e k⟩
def Sr(hl:GB X C ℓ l f):rn X C ℓ tg l (sx f):=by
 obtain⟨t,pl,ql⟩:=hl;refine⟨_,DB pl,λσ H os ρ fs ds R rel e k=>?_⟩;unfold sx at e;split at e
 ·rename_i es e1;cases e;refine ql σ H os ρ fs _ _ rel e1 λv H' s r=>?_
  obtain⟨a,xs,rfl,hS,r⟩:=r.lst;exact⟨_,false,rfl,⟨_,hS⟩,k _ H' s<|vj (t:=false) hS r⟩
 ·rename_i es e1;cases e;refine ql σ H os ρ fs _ _ rel e1 λv H' s r=>?_
  obtain⟨a,xs,rfl,hS,_,r⟩:=r.tup;exact⟨_,true,rfl,⟨_,hS⟩,k _ H' s<|vj (t:=true) hS r⟩
 ·cases e
def U3:Aq X C ℓ [] cz:=⟨_,xW,λ_ H _ _ _ _ _ _ q k=>by cases q;exact k [] H (bJ.refl H) .nil⟩
def uH(ha:GB X C ℓ e f)(hr:Aq X C ℓ es g)(hs:cT X e es:=by rfl):Aq X C ℓ (e::es) (cn f g):=by
 obtain⟨ta,pa,qa⟩:=ha;obtain⟨tb,pb,qb⟩:=hr;refine⟨_,yQ pa pb hs,λσ H os ρ fs ds Q R q k=>?_⟩;obtain⟨d,e1,q⟩:=bind_some q;obtain⟨r,e2,e3⟩:=map_some q;subst e3;exact qa σ H os ρ fs d _ R e1 λx H1 s1 r1=>qb σ H1 os ρ fs r _ (R.same s1) e2 λxs H2 s2 r2=>k _ H2 (s1.trans s2)<|.cons (r1.same s2) r2
def Ss(t1 t2:Bool)(hg:Gl X "zip")(hm:X.mg "zip"=none)(ha:Aq X C ℓ [a,b] g)(hs:starEach [a,b] X.env=[(false,eval a X.env),(false,eval b X.env)]:=by rfl)(dS:starEach [b] X.env=[(false,eval b X.env)]:=by rfl):rn X C ℓ (.Tuple tes kk tp) (.Call (.Name "zip" p) [a,b] [] pos) (Ar t1 t2 g):=by
 obtain⟨t,pa,qa⟩:=ha;refine⟨_,DA t1 t2 hg hm pa hs dS,λσ H os ρ fs ds R rel e k=>?_⟩;unfold Ar at e;split at e
 ·rename_i x y e1;split at e
  ·rename_i k1 xs k2 ys e2 e3;split at e
   ·rename_i hc;cases e;obtain⟨rfl,rfl⟩:=hc;refine qa σ H os ρ fs _ _ rel e1 λvs H' s r=>?_
    obtain⟨v,u,rfl,r1,r2⟩:=r.two;obtain⟨a1,us,rfl,h1,q1⟩:=uW r1 e2;obtain⟨a2,ws,rfl,h2,q2⟩:=uW r2 e3;exact⟨a1,a2,rfl,⟨_,h1⟩,⟨_,h2⟩,k _ H' s<|V6 h1 h2 q1 q2⟩
   ·cases e
  ·cases e
 ·cases e
end
def GJ(X:Cx)(C:AdX)(j:Nat)(e:Expr)(f:cc):Prop:=∃t:TE,PE X e t/\∀(σ:St)(H:Hp)(os:LAd)(ρ:Ro)(fs:Ob)(p:AdX)(A:LAd)(d:PdX)(Q:VK),xM X.K H os σ ρ->σ[j]?=some (some<|.ref p)->cE X.K H os (.ref p) (.ob C fs) A->(∀a∈A,a∈os)->f ρ fs=some d->
  (∀v H',bJ H H'->Rep X.K (bK H' os) v d->Q v H')->t σ H Q
def As(X:Cx)(C:AdX)(j:Nat)(es:List Expr)(f:OLx):Prop:=∃t:TA,PA X es t/\∀(σ:St)(H:Hp)(os:LAd)(ρ:Ro)(fs:Ob)(p:AdX)(A:LAd)(ds:LPd)(Q:List V->Hp->Prop),xM X.K H os σ ρ->σ[j]?=some (some<|.ref p)->cE X.K H os (.ref p) (.ob C fs) A->(∀a∈A,a∈os)->f ρ fs=some ds->
  (∀vs H',bJ H H'->bP X.K (bK H' os) vs ds->Q vs H')->t σ H Q
section
variable{f:cc}{g:OLx}
def FE.gj{f:RPx}(h:FE X e f):GJ X C j e (λρ _=>f ρ):=by
 obtain⟨t,p,q⟩:=h;exact⟨t,p,λσ H os ρ fs _ _ d Q R _ _ _ e k=>q σ H os ρ d Q R e k⟩
def Ki:As X C j [] cz:=⟨_,xW,λ_ H _ _ _ _ _ _ _ _ _ _ _ q k=>by cases q;exact k [] H (bJ.refl H) .nil⟩
def uZ(ha:GJ X C j e f)(hr:As X C j es g)(hs:cT X e es:=by rfl):As X C j (e::es) (cn f g):=by
 obtain⟨ta,pa,qa⟩:=ha;obtain⟨tb,pb,qb⟩:=hr;refine⟨_,yQ pa pb hs,λσ H os ρ fs p A ds Q R sj o oA q k=>?_⟩;obtain⟨d,e1,q⟩:=bind_some q;obtain⟨r,e2,e3⟩:=map_some q;subst e3;exact qa σ H os ρ fs p A d _ R sj o oA e1 λx H1 s1 r1=>qb σ H1 os ρ fs p A r _ (R.same s1) sj (o.same s1) oA e2 λxs H2 s2 r2=>k _ H2 (s1.trans s2)<|.cons (r1.same<|zq s2 os) r2
def Su{n:Str}(cl:cV X.K C)(na:yM X.K C n)(hN:X.N[j]?=some x:=by rfl)(hv:cY X.env.scope x:=by trivial)(hd:NDx x:=by decide)(b6:NCx x:=by decide)(hb:d4 X (.Name x p0) n:=by rfl):GJ X C j (.Attribute (.Name x p0) n pos) (gf n):=by
 refine⟨_,va (yA (i:=j) hN hv hd b6) hb,λσ H os ρ fs p A d Q R sj o oA e k=>?_⟩;cases o with
 |ob hp r=>
  unfold gf at e;split at e
  ·rename_i d' ef;cases e;obtain⟨v,B,l,o,_⟩:=r.look ef;cases o with
   |pu rv=>exact⟨_,sj,_,_,_,_,_,rfl,hp,cl,na,l,k _ H (bJ.refl H) rv⟩
  ·cases e
noncomputable def cb(h:ck)(g:OLx):cc:=λρ fs=>(g ρ fs).bind h
def Sv{h:ck}(D:zU X.prog X.w X.K X.mg X.base k x ps h)(hr:bZ k' X.A)(hg:Gl X x)(ha:As X C j (e::es) g)(hk:k<=k':=by decide)(c8:NDx x:=by decide)(he:cT X e es:=by rfl)(cJ:d9 X pos es:=by rfl):GJ X C j (.Call (.Name x p) (e::es) [] pos) (cb h g):=by
 obtain⟨t,pa,qa⟩:=ha;refine⟨_,VT D hr hg Js pa hk c8 he cJ,λσ H os ρ fs p A c Q R sj o oA q k=>?_⟩;obtain⟨ds,e1,e2⟩:=bind_some q;refine qa σ H os ρ fs p A ds _ R sj o oA e1 λvs H' s rv=>?_
 rw[km];exact⟨os,ds,c,R.al.same s,rv,e2,λv H2 s2=>k v H2<|s.trans s2⟩
end
def tJ(K:FRx)(C:AdX)(j:Nat)(f:cc):TE:=λσ H Q=>∃fs os ρ d p A,xM K H os σ ρ/\σ[j]?=some (some<|.ref p)/\cE K H os (.ref p) (.ob C fs) A/\(∀a∈A,a∈os)/\f ρ fs=some d/\∀v H',bJ H H'->Rep K (bK H' os) v d->Q v H'
def GJ.pe{f:cc}(h:GJ X C j e f):PE X e (tJ X.K C j f):=by
 obtain⟨t,p,q⟩:=h;intro pins s σ H Q I z;obtain⟨fs,os,ρ,d,a,A,R,sj,o,oA,e1,k⟩:=z;exact p pins s σ H Q I<|q σ H os ρ fs a A d Q R sj o oA e1 k
def YH{T:Nat}{b:PyData->Ro->Option Ro}{fe:cc}{k:Addr->Hp->Prop}{fs:Ob}{p:AdX}{A:LAd}(dC:∀i∈is,i<T)(R:xM K H1 os σ ρ)(hj:(F[j]?).bind (λi=>(σ[i]?).join)=some (.ref p))(hO:cE K H1 os (.ref p) (.ob C fs) A)(Sx:∀a∈A,a∈os)(hn:ds.length<=16777216)(hD:H1 D=none)(W:Walks K H1 (bK H1 os) J ds)(hm:Jt (λd=>(b d<|compEnv T F ρ).bind λρ'=>fe ρ' fs) ds=some rs)(fin:∀H' xs,bJ H1 H'->H' D=some (.lst xs)->bP K (bK H'<|D::os) xs rs->k D H'):Dm T F (gF K is b) (tJ K C (T+j) fe) k σ H1 D J:=by
 have t7:=ZN hm;have so:∀H',bJ H1 H'->bJ (bK H1 os) (bK H'<|D::os):=λH' s c o z=>by
  by_cases hb:c∈os
  ·rw[x5 hb] at z;cases z
  ·rw[zA hb] at z;rw[zA]
   ·exact s c o z
   ·intro w;rcases qy.mp w with w|w
    ·rw[w,hD] at z;cases z
    ·exact hb w
 have al:∀H' xs,bJ H1 H'->H' D=some (.lst xs)->Al H' (D::os):=λH' xs s hx a ha=>by
  rcases qy.mp ha with z|z
  ·subst z;exact⟨_,hx⟩
  ·obtain⟨o,e⟩:=R.al a z;exact⟨o,s _ _ e⟩
 refine⟨λi m bR H'=>m=ds.length - i/\i<=ds.length/\(∃ts:St,ts.length=T/\bR=ts++F.map λj=>(σ[j]?).join)/\bJ H1 H'/\∃xs,H' D=some (.lst xs)/\bP K (bK H'<|D::os) xs (rs.take i),
  ⟨ds.length,rfl,kx _,⟨List.replicate T none,by simp,rfl⟩,yb hD _,[],zL,.nil⟩,?_⟩
 rintro i m bR H' ⟨rfl,hi,⟨ts,lX,rfl⟩,sm,xs,hx,rp⟩;have hl:xs.length=i:=by
  have:=rp.length;rw[k5,t7] at this;omega
 obtain⟨w1,w2⟩:=W H' (D::os) (al H' xs sm hx) sm<|so H' sm;by_cases cC:i<ds.length
 ·obtain⟨d,hd⟩:∃d,ds[i]?=some d:=⟨_,qk cC⟩;obtain⟨g1,g2⟩:=w1 i d hd;obtain⟨r,hr,e⟩:=Yu hm hd;obtain⟨ρ',e1,e2⟩:=bind_some e;refine .inr ⟨g1,λcq H2=>i+1<=ds.length/\(∃ts:St,ts.length=T/\cq=ts++F.map λj=>(σ[j]?).join)/\bJ H1 H2/\∃xs,H2 D=some (.lst xs)/\bP K (bK H2<|D::os) xs (rs.take<|i+1),?_,?_⟩
  ·rintro cq H2 ⟨h1,h2,h3,h4⟩;exact⟨ds.length - (i+1),by omega,rfl,h1,h2,h3,h4⟩
  ·intro x H2 hy;obtain⟨s2,rx⟩:=g2 x H2 hy;refine⟨D::os,d,compEnv T F ρ,ρ',rx,e1,λcq st=>?_⟩;have R2:xM K H2 (D::os) (ts++F.map λj=>(σ[j]?).join) (compEnv T F ρ):=ZK T F R hD (sm.trans s2) (s2 _ _ hx) lX;have fx:∃fU:St,fU.length=T/\cq=fU++F.map λj=>(σ[j]?).join:=st.tail dC lX rfl
   have sj:cq[T+j]?=some (some<|.ref p):=by
    obtain⟨fU,h1,h2⟩:=fx;rw[h2,<-h1,qF<|mz _ _,bA,qp];cases hF:F[j]? with
    |none=>rw[hF] at hj;cases hj
    |some i=>
     rw[hF] at hj;exact qM some hj
   refine⟨fs,D::os,ρ',r,p,A,R2.sets st,sj,hO.keep (so H2<|sm.trans s2) (λb hb=>by
    obtain⟨o,q⟩:=hO.has b hb;rw[q];exact(sm.trans s2) b o q),(λa ha=>qA _<|Sx a ha),e2,λv H4 s4 rv=>?_⟩
   refine⟨xs,s4 _ _<|s2 _ _ hx,?_,cC,fx,((sm.trans s2).trans s4).V2 hD _,_,zL,?_⟩
   ·rw[hl];show i<16777216
    omega
   ·rw[jF,gX,hr];exact(rp.same<|zq (s2.trans s4) _).append<|.cons rv .nil
 ·have e:i=ds.length:=by omega
  subst e;refine .inl ⟨w2,fin H' xs sm hx ?_⟩;rwa[<-t7,gP] at rp
def fo(T:Nat)(F:LNt)(fi:OLx)(b:PyData->Ro->Option Ro)(fe:RPx):OLx:=λρ fs=>
 (fi ρ fs).bind λds=>if ds.length<=16777216 then Jt (λd=>(b d<|compEnv T F ρ).bind fe) ds else none
section
variable{fi:OLx}{b:PyData->Ro->Option Ro}{fe:RPx}
def Sy(i:Nat)(hN:X.N.Nodup)(hc:X.calm=true)(hi:rn X C ℓ tg iter fi)(S:yn X scope)(hF:eh X F scope)(hg:∀cl C ex s H,FG (c9 X Ts F scope cl C ex s H) tg is b)(he:∀{cl C ex s H},FE (c9 X Ts F scope cl C ex s H) elt fe)(dC:∀i∈is,i<Ts.length:=by decide)(h0:i≠ℓ:=by decide)(dP:X.N[i]?=some x:=by rfl)(hx:X.env.scope.names.lookup x=some .local:=by rfl)(cW:swapsWith (.ListComp elt [⟨tg,iter,[],0⟩] scope pos) (some<|.Name x pos') spos.line X.env=pure true:=by rfl)(hs:ee X iter:=by exact λ_=>rfl):OS X C ℓ (.Assign [.Name x pos'] (.ListComp elt [⟨tg,iter,[],0⟩] scope pos) spos) (WA i<|fo Ts.length F fi b fe):=by
 obtain⟨wi,pi,qi⟩:=hi;refine⟨_,ZJ (Ts:=Ts) (F:=F) (g:=gF X.K is b) (te:=tF X.K fe) hN dP hx hc pi S hF hg (λ_ _ _ _ _=>he.pe) cW hs,λH0 bO p D σ H os ρ fs r R q k=>?_⟩;obtain⟨ds,e1,q⟩:=bind_some q;cases q;obtain⟨es,e1,q⟩:=bind_some e1;split at q
 ·rename_i hl;refine qi σ H os ρ fs es _ R.uu e1 λJ H' s W D hD=>?_
  exact UP dC (R.sr.rel.same s) hl hD W q λH2 xs s2 hx r=>k _ _ _<|R.W6 h0 (s.free hD) (s.trans s2) hx r
 ·cases q
def UL(T:Nat)(F:LNt)(fi:OLx)(b:PyData->Ro->Option Ro)(fe:cc):OLx:=λρ fs=>
 (fi ρ fs).bind λds=>if ds.length<=16777216 then Jt (λd=>(b d<|compEnv T F ρ).bind λρ'=>fe ρ' fs) ds else none
def SA(i j:Nat){fe:cc}(hN:X.N.Nodup)(hc:X.calm=true)(hi:rn X C ℓ tg iter fi)(S:yn X scope)(hF:eh X F scope)(hj:F[j]?=some ℓ)(hg:∀cl C ex s H,FG (c9 X Ts F scope cl C ex s H) tg is b)(he:∀{cl C' ex s H},GJ (c9 X Ts F scope cl C' ex s H) C (Ts.length+j) elt fe)(dC:∀i∈is,i<Ts.length:=by decide)(h0:i≠ℓ:=by decide)(dP:X.N[i]?=some x:=by rfl)(hx:X.env.scope.names.lookup x=some .local:=by rfl)(cW:swapsWith (.ListComp elt [⟨tg,iter,[],0⟩] scope pos) (some<|.Name x pos') spos.line X.env=pure true:=by rfl)(hs:ee X iter:=by exact λ_=>rfl):OS X C ℓ (.Assign [.Name x pos'] (.ListComp elt [⟨tg,iter,[],0⟩] scope pos) spos) (WA i<|UL Ts.length F fi b fe):=by
 obtain⟨wi,pi,qi⟩:=hi;refine⟨_,ZJ (Ts:=Ts) (F:=F) (g:=gF X.K is b) (te:=tJ X.K C (Ts.length+j) fe) hN dP hx hc pi S hF hg (λ_ _ _ _ _=>he.pe) cW hs,λH0 bO p D σ H os ρ fs r R q k=>?_⟩;obtain⟨ds,e1,q⟩:=bind_some q;cases q;obtain⟨es,e1,q⟩:=bind_some e1;split at q
 ·rename_i hl;refine qi σ H os ρ fs es _ R.uu e1 λJ H' s W D hD=>?_
  obtain⟨A,h1,_,h3,_⟩:=R.ob;exact YH dC (R.sr.rel.same s) (by rw[hj];show(σ[ℓ]?).join=_;rw[R.self];rfl) (h1.same s) (λa ha=>(h3 a ha).1) hl hD W q λH2 xs s2 hx r=>k _ _ _<|R.W6 h0 (s.free hD) (s.trans s2) hx r
 ·cases q
end
section
variable{q0 q1:Pos}{dY dM:Pos}{f h:Str}
def Au(x y:Str)(g:cc):cx:=λρ fs=>match fld y fs,g ρ fs with
 |some (.ow ds),some (.int n)=>if 0<=n/\n<ds.length/\ds.length<=16777216 then (ds[n.toNat]?).bind λd=>match fld x (zR y (.ow<|ds.eraseIdx n.toNat) fs) with
  |some (.ow es)=>if es.length<16777216 then some (.nx ρ<|zR x (.ow<|es++[d])<|zR y (.ow<|ds.eraseIdx n.toNat) fs) else none
  |_=>none else none
 |_,_=>none
def SD{g:cc}(cl:cV X.K C)(na:yM X.K C f)(nh:yM X.K C h)(he:GE X C ℓ e g)(Er:¬f=h:=by decide)(hN:X.N[ℓ]?=some x:=by rfl)(hv:cY X.env.scope x:=by trivial)(hd:NDx x:=by decide)(b6:NCx x:=by decide)(hb:d4 X (.Name x p0) f:=by rfl)(fg:d4 X (.Name x q0) h:=by rfl)(cA:d4 X (.Attribute (.Name x p0) f p1) "append":=by rfl)(rq:d4 X (.Attribute (.Name x q0) h q1) "pop":=by rfl)(Av:lz X dM [e]:=by rfl)(rz:(dY.endLine==dM.line)=true:=by rfl)(fE:cT X e []:=by rfl)(cK:((backTo cpos<|starEach [.Call (.Attribute (.Attribute (.Name x q0) h q1) "pop" dY) [e] [] dM] X.env).all (λx=>!x.1)&&(backToKw cpos<|keywordEach [] X.env).all (λx=>x.1.isSome)
   &&decide ([(.Call (.Attribute (.Attribute (.Name x q0) h q1) "pop" dY) [e] [] dM:Expr)].length+([]:List Keyword).length+(if ([]:List Keyword).isEmpty then 0 else 1)<30))=true:=by rfl)(cB:(apos.endLine==cpos.line)=true:=by rfl)(hs:starEach [.Call (.Attribute (.Attribute (.Name x q0) h q1) "pop" dY) [e] [] dM] X.env=(false,eval (.Call (.Attribute (.Attribute (.Name x q0) h q1) "pop" dY) [e] [] dM) X.env)::starEach [] X.env:=by rfl)(cW:swapsWith (.Call (.Attribute (.Attribute (.Name x p0) f p1) "append" apos) [.Call (.Attribute (.Attribute (.Name x q0) h q1) "pop" dY) [e] [] dM] [] cpos) none pos.line X.env=pure false:=by rfl):OS X C ℓ (.Expr (.Call (.Attribute (.Attribute (.Name x p0) f p1) "append" apos) [.Call (.Attribute (.Attribute (.Name x q0) h q1) "pop" dY) [e] [] dM] [] cpos) pos) (Au f h g):=by
 obtain⟨t,pe,q⟩:=he;refine⟨_,Jm (U5 kX nL nK uP (va (yA (i:=ℓ) hN hv hd b6) hb)
  (yQ (U5 kX mU mS U8 (va (yA (i:=ℓ) hN hv hd b6) fg) (yQ pe xW fE) rq Av rz fE) xW hs) cA cK cB hs) cW,λH0 bO p D σ H os ρ fs r R e k=>?_⟩
 unfold Au at e;split at e
 ·rename_i ds n ef e1;split at e
  ·rename_i hl;obtain⟨fj,eV,Ep⟩:=hl;obtain⟨d,e2,e3⟩:=bind_some e;split at e3
   ·rename_i es Es;split at e3
    ·rename_i SE;cases e3;have Et:fld f fs=some (.ow es):=by
      have:∀l:Ob,fld f (zR h (.ow<|ds.eraseIdx n.toNat) l)=fld f l:=by
       intro l;induction l with
       |nil=>
        show(if f=h then _ else none)=none
        rw[qm Er]
       |cons y l ih=>
        obtain⟨y,c⟩:=y;unfold zR;by_cases z:y=h
        ·rw[qj z];show(if f=y then _ else fld f l)=if f=y then _ else fld f l
         rw[qm (by rw[z];exact Er),qm<|by rw[z];exact Er]
        ·rw[qm z];show(if f=y then some c else fld f (zR h _ l))=if f=y then some c else fld f l
         rw[ih]
      rw[<-this fs];exact Es
     obtain⟨dx,vs,a,xs,hp,l,ha,ao,rv⟩:=R.lst Et;obtain⟨Kj,Kk,a2,Kl,sy,l2,Eu,SF,Ac⟩:=R.lst ef;rw[hp] at sy;cases sy;have hlen:=Ac.length;refine⟨_,R.self,_,_,_,_,_,rfl,hp,cl,na,l,.inl ⟨rfl,_,cm.of ha⟩,_,R.self,_,_,_,_,_,rfl,hp,cl,nh,l2,.inl ⟨rfl,_,cm.of Eu⟩,q σ H os ρ fs _ _ R.uu e1 λv H' s rd=>?_⟩;cases rd;obtain⟨u,eu,ru⟩:=Ac.getD e2;have R1:=(R.same s).zj2 ef (s _ _ hp) l2<|wz n.toNat<|Ac.same<|zq s os
     obtain⟨dx3,vs3,a3,SG,Km,l3,SH,ao3,Kn⟩:=R1.lst Es;have pa:p≠a2:=λz=>by
      have w1:=s _ _ hp;rw[z,s _ _ Eu] at w1;cases w1
     rw[zY pa,s _ _ hp] at Km;cases Km;rw[l] at l3;cases l3;refine⟨a2,Kl,n,n.toNat,u,rfl,rfl,s _ _ Eu,by omega,by omega,?_,eu,?_⟩
     ·unfold seqIndex?;dsimp only;rw[qm (by omega:¬n<0),qj<|by rw[g9];exact⟨qG fj,qG<|by omega⟩]
     ·refine⟨a,SG,u,rfl,rfl,SH,by rw[Kn.length];exact SE,k _ _ os<|R1.zj2 Es (by rw[zY pa];exact s _ _ hp) l<|Kn.append<|.cons ?_ .nil⟩;rw[yR SF];exact ru.same<|zq s os
    ·cases e3
   ·cases e3
  ·cases e
 ·cases e
end
def Ko(K:FRx)(C:AdX)(h:eC):Sp:=λvs H Q _=>∃p us os ds fs d bU A,vs=.ref p::us/\cE K H os (.ref p) (.ob C fs) A/\A.Nodup/\(∀a∈A,a∈os)/\Al H os/\bP K (bK H os) us ds/\h fs ds=some (d,bU)/\
 ∀v H' os' A',bJ (bK H A) H'->Al H' os'->cE K H' os' (.ref p) (.ob C bU) A'->A'.Nodup->(∀a∈A',a∈os'/\bK H A a=none)->(∀a∈os,a∈A\/a∈os')->(∀a∈os',a∈os\/bK H A a=none)->Rep K (bK H' os') v d->Q v H'
noncomputable def fq(n m:Nat)(b:cx)(fs:Ob)(ds:LPd):Option (PyData×Ob):=if ds.length=m then (match b (.no::(ds.map Sl.pu++List.replicate (n - (m+1)) .no)) fs with
  |some (.rt d bU)=>some (d,bU)
  |some (.nx _ bU)=>some (.none,bU)
  |_=>none) else none
def vU(K:FRx)(C:AdX)(m qual:Str)(st:Stmt):Prop:=∃f fd,iF K m qual st f fd/\Meth K C m f
def Met(P:Program)(w:World)(K:FRx)(mg:Str->Option Value)(base:Heap)(k:Nat)(C:AdX)(m:Str)(ps:LSr)(h:eC):Prop:=∃f fd,wu P w K mg base dO k f fd ps (Ko K C h)/\Binds K fd ps []/\Meth K C m f
section
def Kp{N:LSr}{p:AdX}{us:List V}{fs:Ob}{A:LAd}(al:Al H os)(r:bP K (bK H os) us ds)(o:cE K H os (.ref p) (.ob C fs) A)(nd:A.Nodup)(hA:∀a∈A,a∈os)(m:Nat)(hm:ds.length=m)(hN:m<N.length):cI K C 0 (bK H A) (os.filter λa=>a∉A) p H os (start N<|.ref p::us) (.no::(ds.map Sl.pu++List.replicate (N.length - (m+1)) .no)) fs:=by
 have hl:=r.length;have no:∀(i:Nat)(c:Sl),(Sl.no::(ds.map Sl.pu++List.replicate (N.length - (m+1)) .no))[i]?=some c->isM c=true->False:=λi c q m=>by
  cases i with
  |zero=>cases q;cases m
  |succ i=>
   rw[k9] at q;by_cases hi:i<ds.length
   ·rw[qQ (by simpa using hi),qp] at q;obtain⟨d,_,e2⟩:=map_some q;subst e2;cases m
   ·rw[qF (by simpa using kz hi),kK] at q;split at q
    ·cases q;cases m
    ·cases q
 refine⟨⟨⟨λi d q=>?_,λi c q m=>(no i c q m).elim,al,?_⟩,jd H A,λa h=>(kl.mp h).1,λa h=>?_,λa h=>?_,λi c q m=>(no i c q m).elim,λi j c c' _ q _ m=>(no i c q m).elim⟩,rfl,A,o,nd,λa ha=>⟨hA a ha,x5 ha⟩,λj c q m=>(no j c q m).elim⟩
 ·cases i with
  |zero=>cases q
  |succ i=>
   rw[k9] at q;unfold start;by_cases hi:i<ds.length
   ·rw[qQ (by simpa using hi),qp] at q;obtain⟨c,e1,e2⟩:=map_some q;cases e2;obtain⟨v,e3,e4⟩:=r.getD e1;refine⟨v,?_,e4⟩;rw[qQ (by rw[qf,ke,hl];omega),qp,k9,e3];rfl
   ·rw[qF (by simpa using kz hi),kK] at q;split at q<;>cases q
 ·unfold start;simp[hl,hm]
 ·by_cases z:a∈A
  ·exact .inr<|x5 z
  ·exact .inl<|kl.mpr ⟨h,by simpa using z⟩
 ·obtain⟨h1,h2⟩:=kl.mp h;have z:a∉A:=by simpa using h2
  rw[zA z];exact al a h1
def Met.mk{x qual:Str}{st:Stmt}{N ps:LSr}{k m:Nat}{b:cx}(h:vU K C x qual st)(S:zx N ps (zf st))(hb:∀(kV doc pm:Value)(an:Option Addr)(b5 ct:Value)(us:LVl),us.length=ps.length->bindArgs (W.fnOf x qual (jt st) (yN st) (zf st) .none kV doc pm an b5 ct) ⟨us,[]⟩=pure (ps.zip us))(hm:ps.length=m+1)(hN:m<N.length)(cv:∀{f:AdX} {b5:Value} {A:Around} {outer:List Env} {s:ShX} {H:Hp} {E:XK},bZ k (A.deeper<|envOfC qual (zf st) s.heap.objs.size f b5)->
   fQ (Uh dO P w K mg base N qual (zf st) f b5 A outer s H E).nox C 0 (yN st) b):Met P w K mg base (k+1) C x ps (fq N.length m b):=by
 obtain⟨f,fd,F,M⟩:=h;refine⟨f,fd,F.ok S (λvs H Q E q=>?_) λb5 A outer s H vs Q E hr q=>?_,F.binds hb,M⟩
 ·obtain⟨p,us,os,ds,fs,d,bU,A,rfl,_,_,_,_,r,e,_⟩:=q;unfold fq at e;split at e
  ·rename_i hl;rw[ke,r.length,hl,hm]
  ·cases e
 ·obtain⟨t,pp,q'⟩:=cv hr;obtain⟨p,us,os,ds,fs,d,bU,A,rfl,o,nd,hA,al,r,e,kk⟩:=q;unfold fq at e;split at e
  ·rename_i hl;refine⟨t,pp,?_⟩;have R:=Kp (N:=N) al r o nd hA m hl hN;have go:∀v H' os',Ai K C (bK H A) (os.filter λa=>a∉A) p H' os' bU->Rep K (bK H' os') v d->Q v H':=λv H' os' M rv=>by
    obtain⟨A',o',fu,sA⟩:=M.ob;refine kk v H' os' A' M.sm M.al o' fu sA (λa ha=>?_) (λa ha=>?_) rv
    ·by_cases z:a∈A
     ·exact .inl z
     ·exact .inr<|M.sub a<|kl.mpr ⟨ha,by simpa using z⟩
    ·rcases M.new a ha with z|z
     ·exact .inl (kl.mp z).1
     ·exact .inr z
   split at e
   ·rename_i d' rA e1;cases e;exact q' _ _ _ _ _ H os _ _ _ R e1 λv H' os' M rv=>go v H' os' M rv
   ·rename_i ρ' rA e1;cases e;exact q' _ _ _ _ _ H os _ _ _ R e1 λbR H' os' R'=>go _ H' os' R'.end .non
   ·cases e
  ·cases e
end
section
variable{a:Expr}{ga:bY}
def SI(t:Bool)(hg:Gl X "enumerate")(hm:X.mg "enumerate"=none)(ha:iY X [a] ga)(hs:starEach [a] X.env=[(false,eval a X.env)]:=by rfl):fF X (.Tuple tes kk tp) (.Call (.Name "enumerate" p) [a] [] pos) (BH t ga):=by
 obtain⟨ta,pa,qa⟩:=ha;refine⟨_,Rg t hg hm pa hs,λσ H os ρ ds R rel e k=>?_⟩;unfold BH at e;split at e
 ·rename_i x e1;split at e
  ·rename_i k1 xs e2;split at e
   ·rename_i hc;cases e;subst hc;refine qa σ H os ρ _ _ rel e1 λvs H' s r=>?_
    obtain⟨v,rfl,r1⟩:=r.one;obtain⟨a1,us,rfl,h1,q1⟩:=uW r1 e2;exact⟨a1,rfl,⟨_,h1⟩,k _ H' s<|Ri h1 q1⟩
   ·cases e
  ·cases e
 ·cases e
end
def Yc(T:Nat)(F:LNt)(fi:OLx)(b:PyData->Ro->Option Ro)(fc:Ro->Option Bool)(fe:RPx):OLx:=λρ fs=>
 (fi ρ fs).bind λds=>if ds.length<=16777216 then w6 (λd=>(b d<|compEnv T F ρ).bind λbX=>(fc bX).bind λok=>if ok then (fe bX).map some else some none) ds else none
section
variable{fi:OLx}{b:PyData->Ro->Option Ro}{fe:RPx}
def SJ(i:Nat)(hN:X.N.Nodup)(hc:X.calm=true)(hi:rn X C ℓ tg iter fi)(S:yn X scope)(hF:eh X F scope)(hg:∀cl C ex s H,FG (c9 X Ts F scope cl C ex s H) tg is b)(ht:∀{cl C ex s H},FT (c9 X Ts F scope cl C ex s H) c fc)(he:∀{cl C ex s H},FE (c9 X Ts F scope cl C ex s H) elt fe)(dC:∀i∈is,i<Ts.length:=by decide)(h0:i≠ℓ:=by decide)(dP:X.N[i]?=some x:=by rfl)(hx:X.env.scope.names.lookup x=some .local:=by rfl)(cW:swapsWith (.ListComp elt [⟨tg,iter,[c],0⟩] scope pos) (some<|.Name x pos') spos.line X.env=pure true:=by rfl)(hs:ee X iter:=by exact λ_=>rfl):OS X C ℓ (.Assign [.Name x pos'] (.ListComp elt [⟨tg,iter,[c],0⟩] scope pos) spos) (WA i<|Yc Ts.length F fi b fc fe):=by
 obtain⟨wi,pi,qi⟩:=hi;refine⟨_,Vo (Ts:=Ts) (F:=F) (g:=gF X.K is b) (tc:=Ae X.K fc) (te:=tF X.K fe) hN dP hx hc pi S hF hg (λ_ _ _ _ _=>he.pe) (λ_ _ _ _ _=>ht.pt) cW hs,λH0 bO p D σ H os ρ fs r R q k=>?_⟩;obtain⟨ds,e1,q⟩:=bind_some q;cases q;obtain⟨es,e1,q⟩:=bind_some e1;split at q
 ·rename_i hl;refine qi σ H os ρ fs es _ R.uu e1 λJ H' s W D hD=>?_
  exact JE dC (R.sr.rel.same s) hl hD W q λH2 xs s2 hx r=>k _ _ _<|R.W6 h0 (s.free hD) (s.trans s2) hx r
 ·cases q
end
section
variable{bO:LAd}{p q:AdX}{fs:Ob}
structure Left(H:Hp)(os B:LAd)(H':Hp)(os':LAd):Prop where
 sm:bJ (bK H B) H'
 al:Al H' os'
 sub:∀a∈os,a∈B\/a∈os'
 new:∀a∈os',a∈os\/bK H B a=none
def Left.data{B:LAd}(h:Left H os B H' os')(hB:∀a∈B,a∈os):bJ (bK H os) (bK H' os'):=λb o z=>by
 by_cases hb:b∈os
 ·rw[x5 hb] at z;cases z
 ·rw[zA hb] at z;have nB:b∉B:=λw=>hb<|hB b w
  have e:bK H B b=some o:=by rw[zA nB];exact z
  rw[zA]
  ·exact h.sm b o e
  ·intro w;rcases h.new b w with u|u
   ·exact hb u
   ·rw[e] at u;cases u
def Left.cell{B:LAd}(h:Left H os B H' os'){o:HO}(hB:a∉B)(e:H a=some o):H' a=some o:=h.sm a o (by rw[zA hB];exact e)
def cH.left(h:cH K H0 bO H os σ ρ){B:LAd}(l:Left H os B H' os')(hB:∀a∈B,a∈os/\H0 a=none)(hs:∀(j:Nat)(c:Sl),ρ[j]?=some c->isM c=true->∀a∈B,σ[j]?≠some (some<|.ref a)):cH K H0 bO H' os' σ ρ:=by
 have sd:=l.data λa ha=>(hB a ha).1
 refine⟨⟨λi d q=>?_,λi c q m=>?_,l.al,h.rel.len⟩,λb o z=>?_,λa ha=>?_,λa ha=>?_,h.al0,h.own,h.ap⟩
 ·obtain⟨v,h1,h2⟩:=h.rel.pu i d q;exact⟨v,h1,h2.same sd⟩
 ·obtain⟨a,o,h1,h2,h3,h4⟩:=h.rel.mu i c q m;have nB:a∉B:=λw=>hs i c q m a w h1
  refine⟨a,o,h1,?_,l.cell nB h3,h4.same sd⟩;rcases l.sub a h2 with w|w
  ·exact absurd w nB
  ·exact w
 ·refine l.cell (λw=>?_)<|h.sm b o z;rw[(hB b w).2] at z;cases z
 ·rcases l.sub a (h.sub a ha) with w|w
  ·obtain⟨o,e⟩:=h.al0 a ha;rw[(hB a w).2] at e;cases e
  ·exact w
 ·rcases l.new a ha with w|w
  ·exact h.new a w
  ·by_cases z:a∈B
   ·exact .inr (hB a z).2
   ·rw[zA z] at w;exact .inr<|h.sm.free w
theorem y9.nest{x:Str}{gs fI:Ob}{B B':LAd}(sd:bJ (bK H os) (bK H' os'))(hc:∀a o,a∉B->H a=some o->H' a=some o)(o':cE K H' os' (.ref q) (.ob C2 fI) B')(Aw:B'.Nodup):∀{vs:List (Str×V)} {fs:Ob} {A:LAd},y9 K H os vs fs A->A.Nodup->(∀a∈A,a∉B->a∉B')->fld x fs=some (.ob C2 gs)->vs.lookup x=some (.ref q)->(∀{v:V} {D:LAd},cE K H os v (.ob C2 gs) D->v=.ref q->D=B)->
   ∃A',y9 K H' os' vs (zR x (.ob C2 fI) fs) A'/\A'.Nodup/\∀a∈A',(a∈A/\a∉B)\/a∈B'
 |_,_,_,.nil,_,_,e,_,_=>by cases e
 |_,_,_,@y9.cons _ _ _ y u d vs fs A0 B0 h r,nd,dj,e,l,un=>by
  have kp:∀{A:LAd},(∀a∈A,a∉B)->(∀a∈A,∃o,H a=some o)->∀a∈A,H' a=H a:=λnB has a ha=>by
   obtain⟨o,w⟩:=has a ha;rw[w];exact hc a o (nB a ha) w
  unfold fld at e;unfold zR;by_cases z:x=y
  ·rw[qj z] at e;rw[qj z.symm];cases e;rw[kA,show(x==y)=true from gQ.mpr z] at l;cases l;have eB:A0=B:=un h rfl;subst eB;have nB:∀a∈B0,a∉A0:=λa ha w=>si nd a w ha
   refine⟨B'++B0,.cons o'<|r.keep sd<|kp nB r.has,BW Aw (sf nd) λa ha w=>dj a (qu.mpr<|.inr w) (nB a w) ha,λa ha=>?_⟩;rcases qu.mp ha with w|w
   ·exact .inr w
   ·exact .inl ⟨qu.mpr<|.inr w,nB a w⟩
  ·rw[qm z] at e;rw[qm<|gE z];rw[kA,show(x==y)=false from k8.mpr z] at l;have l:vs.lookup x=some (.ref q):=l;obtain⟨v,D,l',o2,hD⟩:=r.look e;rw[l] at l';cases l';have eB:D=B:=un o2 rfl
   subst eB;have nB:∀a∈A0,a∉D:=λa ha w=>si nd a ha<|hD a w
   obtain⟨A',h1,h2,h3⟩:=y9.nest sd hc o' Aw r (sf nd) (λa ha=>dj a<|qu.mpr<|.inr ha) e l un;refine⟨A0++A',.cons (h.keep sd<|kp nB h.has) h1,BW (Ek nd) h2 λa ha w=>?_,λa ha=>?_⟩
   ·rcases h3 a w with u|u
    ·exact si nd a ha u.1
    ·exact dj a (qu.mpr<|.inl ha) (nB a ha) u
   ·rcases qu.mp ha with w|w
    ·exact .inl ⟨qu.mpr<|.inl w,nB a w⟩
    ·rcases h3 a w with u|u
     ·exact .inl ⟨qu.mpr<|.inr u.1,u.2⟩
     ·exact .inr u
mutual
theorem cE.uniq:∀{v:V} {c:Fs} {A B:LAd},cE K H os v c A->cE K H os v c B->A=B
 |_,_,_,_,.pu _,.pu _=>rfl
 |_,_,_,_,.ow _ _,.ow _ _=>rfl
 |_,_,_,_,.ob h r,.ob h' r'=>by
  rw[h] at h';cases h';exact qM _<|y9.uniq r r'
theorem y9.uniq:∀{vs:List (Str×V)} {fs:Ob} {A B:LAd},y9 K H os vs fs A->y9 K H os vs fs B->A=B
 |_,_,_,_,.nil,.nil=>rfl
 |_,_,_,_,.cons h r,.cons h' r'=>by rw[cE.uniq h h',y9.uniq r r']
end
def cI.nest(h:cI K C ℓ H0 bO p H os σ ρ fs){gs fI:Ob}{B:LAd}{vs:List (Str×V)}(e:fld x fs=some (.ob C2 gs))(hp:H p=some (.ins C dx vs))(l:vs.lookup x=some (.ref q))(o:cE K H os (.ref q) (.ob C2 gs) B)(L:Left H os B H' os')(o':cE K H' os' (.ref q) (.ob C2 fI) B')(fu:B'.Nodup)(eD:∀a∈B',a∈os'/\bK H B a=none):cI K C ℓ H0 bO p H' os' σ ρ (zR x (.ob C2 fI) fs):=by
 obtain⟨A,h1,h2,h3,h4⟩:=h.ob;cases h1 with
 | @ob _ _ _ _ _ A fm r=>
  rw[hp] at fm;cases fm;obtain⟨pA,nd⟩:=kv.mp h2;obtain⟨v,B0,l',o0,i8⟩:=r.look e;rw[l] at l';cases l';have eB:=o0.uniq o;subst eB;have BA:∀a∈B0,a∈p::A:=λa ha=>.tail _<|i8 a ha
  have pB:p∉B0:=λw=>pA<|i8 p w
  have sd:=L.data λa ha=>(h3 a<|BA a ha).1
  have dj:∀a∈p::A,a∉B0->a∉B':=λa ha nB w=>by
   have:=(eD a w).2;rw[zA nB] at this;rcases qy.mp ha with z|z
   ·rw[z,hp] at this;cases this
   ·obtain⟨o,e⟩:=r.has a z;rw[e] at this;cases this
  obtain⟨A',k1,k2,k3⟩:=y9.nest sd (λa o nB e=>L.cell nB e) o' fu r nd (λa ha=>dj a<|.tail _ ha) e l λ{v D} w z=>by
   subst z;exact w.uniq o0
  have BX:p∉A':=λw=>by
   rcases k3 p w with u|u
   ·exact pA u.1
   ·exact dj p (.head _) pB u
  have SK:∀a∈B',H0 a=none:=λa ha=>by
   have:=(eD a ha).2;by_cases z:a∈B0
   ·exact(h3 a<|BA a z).2
   ·rw[zA z] at this;exact h.sr.sm.free this
  have ins:∀a∈p::A,a∉B0->a∈os':=λa ha nB=>by
   rcases L.sub a (h3 a ha).1 with w|w
   ·exact absurd w nB
   ·exact w
  refine⟨h.sr.left L (λa ha=>h3 a<|BA a ha) λj c q m a ha=>h4 j c q m a<|BA a ha,h.self,p::A',.ob (L.cell pB hp) k1,kv.mpr ⟨BX,k2⟩,λa ha=>?_,λj c q m a ha=>?_⟩
  ·rcases qy.mp ha with z|z
   ·rw[z];exact⟨ins p (.head _) pB,(h3 p<|.head _).2⟩
   ·rcases k3 a z with u|u
    ·exact⟨ins a (.tail _ u.1) u.2,(h3 a<|.tail _ u.1).2⟩
    ·exact⟨(eD a u).1,SK a u⟩
  ·rcases qy.mp ha with z|z
   ·rw[z];exact h4 j c q m p<|.head _
   ·rcases k3 a z with u|u
    ·exact h4 j c q m a<|.tail _ u.1
    ·intro w;obtain⟨b,o,w1,w2,w3,_⟩:=h.sr.rel.mu j c q m;rw[w] at w1;cases w1;by_cases y:a∈B0
     ·exact h4 j c q m a (BA a y) w
     ·have:=(eD a u).2;rw[zA y,w3] at this;cases this
end
theorem y9.zfC{K:FRx}{H:Hp}{os:LAd}{x:Str}:∀{vs:List (Str×V)} {fs:Ob} {A:LAd} {c:Fs},y9 K H os vs fs A->A.Nodup->fld x fs=some c->∃v B,vs.lookup x=some v/\cE K H os v c B/\B.Nodup/\∀a∈B,a∈A
 |_,_,_,_,.nil,_,q=>by cases q
 |_,_,_,c,@y9.cons _ _ _ y v c' vs fs A B h r,nd,q=>by
  unfold fld at q;by_cases z:x=y
  ·rw[qj z] at q;cases q;refine⟨v,A,?_,h,Ek nd,λa ha=>qu.mpr<|.inl ha⟩;rw[kA,show(x==y)=true from gQ.mpr z]
  ·rw[qm z] at q;obtain⟨v',B',h1,h2,h3,h4⟩:=y9.zfC r (sf nd) q;refine⟨v',B',?_,h2,h3,λa ha=>qu.mpr<|.inr<|h4 a ha⟩;rw[kA,show(x==y)=false from k8.mpr z];exact h1
def GA(X:Cx)(C:AdX)(ℓ:Nat)(es:List Expr)(f:OLx):Prop:=∃t:TA,PA X es t/\∀(σ:St)(H:Hp)(os:LAd)(ρ:Ro)(fs:Ob)(ds:LPd)(Q:List V->Hp->Prop),vO X.K C ℓ H os σ ρ fs->f ρ fs=some ds->
  (∀vs H',bJ H H'->bP X.K (bK H' os) vs ds->Q vs H')->t σ H Q
def GM(X:Cx)(C:AdX)(ℓ:Nat)(e:Expr)(f:Ro->Ob->Option (PyData×Ob)):Prop:=∃t:TE,PE X e t/\∀(H0:Hp)(bO:LAd)(p:AdX)(σ:St)(H:Hp)(os:LAd)(ρ:Ro)(fs:Ob)(d:PdX)(bU:Ob)(Q:VK),cI X.K C ℓ H0 bO p H os σ ρ fs->f ρ fs=some (d,bU)->
  (∀v H' os',cI X.K C ℓ H0 bO p H' os' σ ρ bU->Rep X.K (bK H' os') v d->Q v H')->t σ H Q
section
variable{f:cc}{g:OLx}{m:Str}
def JS:GA X C ℓ [] cz:=⟨_,xW,λ_ H _ _ _ _ _ _ q k=>by cases q;exact k [] H (bJ.refl H) .nil⟩
def jw(ha:GE X C ℓ e f)(hr:GA X C ℓ es g)(hs:cT X e es:=by rfl):GA X C ℓ (e::es) (cn f g):=by
 obtain⟨ta,pa,qa⟩:=ha;obtain⟨tb,pb,qb⟩:=hr;refine⟨_,yQ pa pb hs,λσ H os ρ fs ds Q R q k=>?_⟩;obtain⟨d,e1,q⟩:=bind_some q;obtain⟨r,e2,e3⟩:=map_some q;subst e3;exact qa σ H os ρ fs d _ R e1 λx H1 s1 r1=>qb σ H1 os ρ fs r _ (R.same s1) e2 λxs H2 s2 r2=>k _ H2 (s1.trans s2)<|.cons (r1.same<|zq s2 os) r2
def ir(C2:AdX)(y m:Str)(h:eC)(g:OLx):Ro->Ob->Option (PyData×Ob):=λρ fs=>match fld y fs with
 |some (.ob C' gs)=>if C'=C2/\(fld m gs).isNone=true then (g ρ fs).bind λds=>(h gs ds).map λr=>(r.1,zR y (.ob C2 r.2) fs) else none
 |_=>none
def SM{pl:Sem Bool}{h:eC}(cl:cV X.K C)(na:yM X.K C y)(Ew:cV X.K C2)(M:Met X.prog X.w X.K X.mg X.base k C2 m ps h)(hr:bZ k' X.A)(ha:GA X C ℓ (e::es) g)(hk:k<=k':=by decide)(hN:X.N[ℓ]?=some x:=by rfl)(hv:cY X.env.scope x:=by trivial)(hd:NDx x:=by decide)(b6:NCx x:=by decide)(hb:d4 X (.Name x p0) y:=by rfl)(hst:cT X e es:=by rfl)(cJ:d9 X pos es:=by rfl)(ht:eval (.Call (.Attribute (.Attribute (.Name x p0) y p1) m apos) (e::es) [] pos) X.env=(do
   let ov <-eval (.Attribute (.Name x p0) y p1) X.env
   standAt apos.atName
   let (f,first) <-holding [ov] (getMethod ov m pl)
   callWith pos f first (backTo pos<|starEach (e::es) X.env) (backToKw pos<|keywordEach [] X.env)):=by rfl):GM X C ℓ (.Call (.Attribute (.Attribute (.Name x p0) y p1) m apos) (e::es) [] pos) (ir C2 y m h g):=by
 obtain⟨fa,fd,F,B,mm⟩:=M;obtain⟨t,pa,qa⟩:=ha;refine⟨_,C3 (pl:=pl) (va (yA (i:=ℓ) hN hv hd b6) hb) Ew mm F (hr.mono hk) B .nil Js pa hst cJ ht,λH0 bO p σ H os ρ fs d bU Q R e kk=>?_⟩;unfold ir at e;split at e
 ·rename_i C' gs ef;split at e
  ·rename_i hc;obtain⟨rfl,hm⟩:=hc;obtain⟨ds,e1,e2⟩:=bind_some e;obtain⟨r,e3,e4⟩:=map_some e2;cases e4;obtain⟨A,h1,h2,h3,h4⟩:=R.ob;cases h1 with
   |ob hp rr=>
    obtain⟨v,D,l,o,Ax,hD⟩:=rr.zfC (kv.mp h2).2 ef;cases o with
    | @ob q _ Kj Kk _ D' hq r2=>
     refine⟨_,R.self,_,_,_,_,_,rfl,hp,cl,na,l,q,_,_,rfl,hq,r2.nolook<|gS.mp hm,qa σ H os ρ fs ds _ R.uu e1 λus H1 s1 ru=>?_⟩;rw[km];have R1:=R.same s1;have o1:cE X.K H1 os (.ref q) (.ob C' gs) (q::D'):=cE.same s1<|.ob hq r2
     refine⟨q,us,os,ds,gs,r.1,r.2,q::D',rfl,o1,Ax,λa ha=>(h3 a<|.tail _<|hD a ha).1,R1.sr.rel.al,ru,e3,λv H' os' B' sm al o' fu eD sub new rv=>?_⟩;exact kk v H' os' (R1.nest ef (s1 _ _ hp) l o1 ⟨sm,al,sub,new⟩ o' fu eD) rv
  ·cases e
 ·cases e
end
section
variable{f:Ro->Ob->Option (PyData×Ob)}
noncomputable def sC(f:Ro->Ob->Option (PyData×Ob)):cx:=λρ fs=>(f ρ fs).bind λr=>some<|.nx ρ r.2
def SN(h:GM X C ℓ e f)(hs:swapsWith e none pos.line X.env=pure false:=by rfl):OS X C ℓ (.Expr e pos) (sC f):=by
 obtain⟨t,p,q⟩:=h;refine⟨_,Jm p hs,λH0 bO p D σ H os ρ fs r R e k=>?_⟩;obtain⟨d,e1,e2⟩:=bind_some e;cases e2;exact q H0 bO p σ H os ρ fs d.1 d.2 _ R e1 λv H' os' R' _=>k _ _ _ R'
noncomputable def fX(i:Nat)(f:Ro->Ob->Option (PyData×Ob)):cx:=λρ fs=>(f ρ fs).bind λr=>some<|.nx (ρ.set i<|.pu r.1) r.2
def Ex(i:Nat)(hN:X.N.Nodup)(he:GM X C ℓ e f)(h0:i≠ℓ:=by decide)(hi:X.N[i]?=some x:=by rfl)(hx:Loc X.env.scope x:=by trivial)(hs:swapsWith e (some<|.Name x pos') pos.line X.env=pure false:=by rfl)(hf:fA X x:=by trivial):OS X C ℓ (.Assign [.Name x pos'] e pos) (fX i f):=by
 obtain⟨t,p,q⟩:=he;refine⟨_,uq hN hi hx p hs hf,λH0 bO p D σ H os ρ fs r R e k=>?_⟩;obtain⟨d,e1,e2⟩:=bind_some e;cases e2;exact q H0 bO p σ H os ρ fs d.1 d.2 _ R e1 λv H' os' R' rv=>k _ _ _ (R'.set h0 rv)
end
section
variable{g:OLx}{m:Str}
def SO{pl:Sem Bool}{h:eC}(cl:cV X.K C)(na:yM X.K C y)(Ew:cV X.K C2)(M:Met X.prog X.w X.K X.mg X.base k C2 m ps h)(hr:bZ k' X.A)(hk:k<=k':=by decide)(hN:X.N[ℓ]?=some x:=by rfl)(hv:cY X.env.scope x:=by trivial)(hd:NDx x:=by decide)(b6:NCx x:=by decide)(hb:d4 X (.Name x p0) y:=by rfl)(ht:eval (.Call (.Attribute (.Attribute (.Name x p0) y p1) m apos) [] [] pos) X.env=(do
   let ov <-eval (.Attribute (.Name x p0) y p1) X.env
   standAt apos.atName
   let (f,first) <-holding [ov] (getMethod ov m pl)
   callWith pos f first (backTo pos<|starEach [] X.env) (backToKw pos<|keywordEach [] X.env)):=by rfl):GM X C ℓ (.Call (.Attribute (.Attribute (.Name x p0) y p1) m apos) [] [] pos) (ir C2 y m h cz):=by
 obtain⟨fa,fd,F,B,mm⟩:=M;refine⟨_,Gu (pl:=pl) (va (yA (i:=ℓ) hN hv hd b6) hb) Ew mm F (hr.mono hk) B .nil Js ht,λH0 bO p σ H os ρ fs d bU Q R e kk=>?_⟩;unfold ir at e;split at e
 ·rename_i C' gs ef;split at e
  ·rename_i hc;obtain⟨rfl,hm⟩:=hc;obtain⟨ds,e1,e2⟩:=bind_some e;cases e1;obtain⟨r,e3,e4⟩:=map_some e2;cases e4;obtain⟨A,h1,h2,h3,h4⟩:=R.ob;cases h1 with
   |ob hp rr=>
    obtain⟨v,D,l,o,Ax,hD⟩:=rr.zfC (kv.mp h2).2 ef;cases o with
    | @ob q _ Kj Kk _ D' hq r2=>
     refine⟨_,R.self,_,_,_,_,_,rfl,hp,cl,na,l,q,_,_,rfl,hq,r2.nolook<|gS.mp hm,?_⟩;have o1:cE X.K H os (.ref q) (.ob C' gs) (q::D'):=.ob hq r2;refine⟨q,[],os,[],gs,r.1,r.2,q::D',rfl,o1,Ax,λa ha=>(h3 a<|.tail _<|hD a ha).1,R.sr.rel.al,.nil,e3,λv H' os' B' sm al o' fu eD sub new rv=>?_⟩;exact kk v H' os' (R.nest ef hp l o1 ⟨sm,al,sub,new⟩ o' fu eD) rv
  ·cases e
 ·cases e
def cI.own{bO:LAd}{p:AdX}{fs bU:Ob}{B:LAd}(h:cI K C ℓ H0 bO p H os σ ρ fs)(o:cE K H os (.ref p) (.ob C fs) B)(L:Left H os B H' os')(o':cE K H' os' (.ref p) (.ob C bU) B')(fu:B'.Nodup)(eD:∀a∈B',a∈os'/\bK H B a=none):cI K C ℓ H0 bO p H' os' σ ρ bU:=by
 obtain⟨A,h1,h2,h3,h4⟩:=h.ob;have eB:=h1.uniq o;subst eB;refine⟨h.sr.left L h3 h4,h.self,B',o',fu,λa ha=>⟨(eD a ha).1,?_⟩,λj c q m a ha w=>?_⟩
 ·have:=(eD a ha).2;by_cases z:a∈A
  ·exact(h3 a z).2
  ·rw[zA z] at this;exact h.sr.sm.free this
 ·obtain⟨b,o,w1,w2,w3,_⟩:=h.sr.rel.mu j c q m;rw[w] at w1;cases w1;by_cases y:a∈A
  ·exact h4 j c q m a y w
  ·have:=(eD a ha).2;rw[zA y,w3] at this;cases this
def d7(m:Str)(h:eC)(g:OLx):Ro->Ob->Option (PyData×Ob):=λρ fs=>if (fld m fs).isNone=true then (g ρ fs).bind λds=>h fs ds else none
def Kq{pl:Sem Bool}{h:eC}(cl:cV X.K C)(M:Met X.prog X.w X.K X.mg X.base k C m ps h)(hr:bZ k' X.A)(ha:GA X C ℓ (e::es) g)(hk:k<=k':=by decide)(hN:X.N[ℓ]?=some x:=by rfl)(hv:cY X.env.scope x:=by trivial)(hd:NDx x:=by decide)(b6:NCx x:=by decide)(hst:cT X e es:=by rfl)(cJ:d9 X pos es:=by rfl)(ht:eval (.Call (.Attribute (.Name x p0) m apos) (e::es) [] pos) X.env=(do
   let ov <-eval (.Name x p0) X.env
   standAt apos.atName
   let (f,first) <-holding [ov] (getMethod ov m pl)
   callWith pos f first (backTo pos<|starEach (e::es) X.env) (backToKw pos<|keywordEach [] X.env)):=by rfl):GM X C ℓ (.Call (.Attribute (.Name x p0) m apos) (e::es) [] pos) (d7 m h g):=by
 obtain⟨fa,fd,F,B,mm⟩:=M;obtain⟨t,pa,qa⟩:=ha;refine⟨_,C3 (pl:=pl) (yA (i:=ℓ) hN hv hd b6) cl mm F (hr.mono hk) B .nil Js pa hst cJ ht,λH0 bO p σ H os ρ fs d bU Q R e kk=>?_⟩;unfold d7 at e;split at e
 ·rename_i hm;obtain⟨ds,e1,e2⟩:=bind_some e;obtain⟨A,h1,h2,h3,h4⟩:=R.ob;cases h1 with
  |ob hp rr=>
   refine⟨_,R.self,p,_,_,rfl,hp,rr.nolook<|gS.mp hm,qa σ H os ρ fs ds _ R.uu e1 λus H1 s1 ru=>?_⟩;rw[km];have R1:=R.same s1;have o1:=cE.same s1<|cE.ob hp rr
   refine⟨p,us,os,ds,fs,d,bU,_,rfl,o1,h2,λa ha=>(h3 a ha).1,R1.sr.rel.al,ru,e2,λv H' os' B' sm al o' fu eD sub new rv=>?_⟩;exact kk v H' os' (R1.own o1 ⟨sm,al,sub,new⟩ o' fu eD) rv
 ·cases e
end
def iM(X:Cx)(C:AdX)(ℓ:Nat)(e:Expr)(f:Ro->Ob->Option (Bool×Ob)):Prop:=∃t:TT,PT X e t/\∀(H0:Hp)(bO:LAd)(p:AdX)(σ:St)(H:Hp)(os:LAd)(ρ:Ro)(fs:Ob)(b:Bool)(bU:Ob)(Q:Bool->Hp->Prop),cI X.K C ℓ H0 bO p H os σ ρ fs->f ρ fs=some (b,bU)->
  (∀H' os',cI X.K C ℓ H0 bO p H' os' σ ρ bU->Q b H')->t σ H Q
def sF(X:Cx)(C:AdX)(ℓ:Nat)(e:Expr)(f:Ro->Ob->Option (Bool×Ob)):Prop:=∃t:TT,PW X e t/\∀(H0:Hp)(bO:LAd)(p:AdX)(σ:St)(H:Hp)(os:LAd)(ρ:Ro)(fs:Ob)(b:Bool)(bU:Ob)(Q:Bool->Hp->Prop),cI X.K C ℓ H0 bO p H os σ ρ fs->f ρ fs=some (b,bU)->
  (∀H' os',cI X.K C ℓ H0 bO p H' os' σ ρ bU->Q b H')->t σ H Q
section
variable{a b:Expr}{rest:List Expr}
noncomputable def om(f:Ro->Ob->Option Bool):Ro->Ob->Option (Bool×Ob):=λρ fs=>(f ρ fs).map λc=>(c,fs)
def GT.gtm{f:Ro->Ob->Option Bool}(h:GT X C ℓ e f):iM X C ℓ e (om f):=by
 obtain⟨t,p,q⟩:=h;refine⟨t,p,λH0 bO p σ H os ρ fs b bU Q R e k=>?_⟩;obtain⟨c,e1,e2⟩:=map_some e;cases e2;exact q σ H os ρ fs _ Q R.uu e1 λH' s=>k H' os<|R.same s
noncomputable def iN(f:Ro->Ob->Option (PyData×Ob)):Ro->Ob->Option (Bool×Ob):=λρ fs=>match f ρ fs with |some (.bool c,bU)=>some (c,bU)|_=>none
def Ey{f:Ro->Ob->Option (PyData×Ob)}(h:GM X C ℓ e f)(he:∀whole,isTrue e X.env whole=(do let v <-whole;standAt e.pos;holding [v] (truthy v)):=by intro _;rfl):iM X C ℓ e (iN f):=by
 obtain⟨t,p,q⟩:=h;refine⟨_,FX p he,λH0 bO p σ H os ρ fs b bU Q R e k=>?_⟩;unfold iN at e;split at e
 ·rename_i c dG e1;cases e;refine q H0 bO p σ H os ρ fs _ _ _ R e1 λv H' os' R' rv=>?_
  cases rv;exact⟨_,rfl,k H' os' R'⟩
 ·cases e
noncomputable def Ay(f:Ro->Ob->Option (Bool×Ob)):Ro->Ob->Option (Bool×Ob):=λρ fs=>(f ρ fs).map λr=>(!r.1,r.2)
def SQ{f:Ro->Ob->Option (Bool×Ob)}(h:iM X C ℓ a f):iM X C ℓ (.UnaryOp .Not a pos) (Ay f):=by
 obtain⟨t,p,q⟩:=h;refine⟨_,FY p,λH0 bO p σ H os ρ fs b bU Q R e k=>?_⟩;obtain⟨r,e1,e2⟩:=map_some e;cases e2;exact q H0 bO p σ H os ρ fs _ _ _ R e1 k
def sF.gtm{f:Ro->Ob->Option (Bool×Ob)}(h:sF X C ℓ e f):iM X C ℓ e f:=by
 obtain⟨t,p,q⟩:=h;exact⟨t,p.pt,q⟩
def SR{f:Ro->Ob->Option (Bool×Ob)}(h:iM X C ℓ a f):sF X C ℓ (.BoolOp .And [a] pos) f:=by
 obtain⟨t,p,q⟩:=h;exact⟨t,iS p,q⟩
noncomputable def rB(f g:Ro->Ob->Option (Bool×Ob)):Ro->Ob->Option (Bool×Ob):=λρ fs=>(f ρ fs).bind λr=>if r.1 then g ρ r.2 else some (false,r.2)
def SS{f g:Ro->Ob->Option (Bool×Ob)}(ha:iM X C ℓ a f)(hb:sF X C ℓ (.BoolOp .And (b::rest) pos) g):sF X C ℓ (.BoolOp .And (a::b::rest) pos) (rB f g):=by
 obtain⟨ta,pa,qa⟩:=ha;obtain⟨tb,pb,qb⟩:=hb;refine⟨_,oG pa pb,λH0 bO p σ H os ρ fs c bU Q R q k=>?_⟩;obtain⟨⟨b,dQ⟩,e1,e2⟩:=bind_some q;refine qa H0 bO p σ H os ρ fs b dQ _ R e1 λH' os' R'=>?_
 cases b with
 |true=>rw[qj rfl] at e2 ⊢;exact qb H0 bO p σ H' os' ρ dQ c bU Q R' e2 k
 |false=>rw[qm qR] at e2 ⊢;cases e2;exact k H' os' R'
noncomputable def ZZ(c:Ro->Ob->Option (Bool×Ob))(f g:cx):cx:=λρ fs=>(c ρ fs).bind λr=>if r.1 then f ρ r.2 else g ρ r.2
def Kr{a b:List Stmt}{f g:cx}{fc:Ro->Ob->Option (Bool×Ob)}(hc:iM X C ℓ c fc)(ha:fQ X C ℓ a f)(hb:fQ X C ℓ b g):OS X C ℓ (.If c a b pos) (ZZ fc f g):=by
 obtain⟨tc,pc,qc⟩:=hc;obtain⟨ta,pa,qa⟩:=ha;obtain⟨tb,pb,qb⟩:=hb;refine⟨_,CL pc pa pb,λH0 bO p D σ H os ρ fs r R e k=>?_⟩;obtain⟨⟨b,dQ⟩,e1,e2⟩:=bind_some e;refine qc H0 bO p σ H os ρ fs b dQ _ R e1 λH' os' R'=>?_
 cases b with
 |true=>rw[qj rfl] at e2 ⊢;exact qa H0 bO p D σ H' os' ρ dQ r R' e2 k
 |false=>rw[qm qR] at e2 ⊢;exact qb H0 bO p D σ H' os' ρ dQ r R' e2 k
end
noncomputable def dH(h:PyData->PyData->Option PyData)(f g:cc):cc:=λρ fs=>(f ρ fs).bind λx=>(g ρ fs).bind λy=>h x y
noncomputable def oo(f:cc):Ro->Ob->Option Bool:=λρ fs=>match f ρ fs with |some (.bool c)=>some c|_=>none
section
variable{a b:Expr}{f g:cc}{ga:OLx}{id:String}{r:List V->Hp->VK->Prop}
def Vt{h:PyData->PyData->Option PyData}{fs:Ob}{c:PdX}(q:dH h f g ρ fs=some c):∃d e,f ρ fs=some d/\g ρ fs=some e/\h d e=some c:=by
 obtain⟨d,e1,q⟩:=bind_some q;obtain⟨e,e2,q⟩:=bind_some q;exact⟨d,e,e1,e2,q⟩
def SU{fs:Ob}{c:Bool}(q:oo f ρ fs=some c):f ρ fs=some (.bool c):=by
 unfold oo at q;split at q
 ·rename_i e;cases q;exact e
 ·cases q
def Ks{op:Operator}{r:R2}{h:PyData->PyData->Option PyData}(ho:c4 X (binaryOp op) r)(hr:eA X.K r h)(ha:GB X C ℓ a f)(hb:GB X C ℓ b g):GE X C ℓ (.BinOp a op b pos) (dH h f g):=by
 obtain⟨ta,pa,qa⟩:=ha;obtain⟨tb,pb,qb⟩:=hb;refine⟨_,rM ho pa pb,λσ H os ρ fs c Q R q k=>?_⟩;obtain⟨d,e,e1,e2,e3⟩:=Vt q;refine qa σ H os ρ fs d _ R e1 λx H1 s1 r1=>qb σ H1 os ρ fs e _ (R.same s1) e2 λy H' s2 r2=>?_
 exact hr x y H' os d e c Q (R.rel.al.same<|s1.trans s2) (r1.same s2) r2 e3 λv H2 s3=>k v H2<|(s1.trans s2).trans s3
def sG(ha:GB X C ℓ a f)(hb:GB X C ℓ b g)(hs:C6 b):GE X C ℓ (.Subscript a b pos) (dH bS f g):=by
 obtain⟨ta,pa,qa⟩:=ha;obtain⟨tb,pb,qb⟩:=hb;refine⟨_,GP Hf pa pb hs,λσ H os ρ fs c Q R q k=>?_⟩;obtain⟨d,e,e1,e2,e3⟩:=Vt q;refine qa σ H os ρ fs d _ R e1 λx H1 s1 r1=>qb σ H1 os ρ fs e _ (R.same s1) e2 λy H' s2 r2=>?_
 exact Hm x y H' os d e c Q (R.rel.al.same<|s1.trans s2) (r1.same s2) r2 e3 λv H2 s3=>k v H2<|(s1.trans s2).trans s3
def SV{r:R2}{h:PyData->PyData->Option PyData}(ho:c4 X (compareOp op) r)(hr:eA X.K r h)(ha:GB X C ℓ a f)(hb:GB X C ℓ b g)(hm:behindInMarks op b=false):GT X C ℓ (.Compare a [op] [b] pos) (oo<|dH h f g):=by
 obtain⟨ta,pa,qa⟩:=ha;obtain⟨tb,pb,qb⟩:=hb;refine⟨_,CW ho pa pb hm,λσ H os ρ fs c Q R q k=>?_⟩;obtain⟨d,e,e1,e2,e3⟩:=Vt<|SU q;refine qa σ H os ρ fs d _ R e1 λx H1 s1 r1=>qb σ H1 os ρ fs e _ (R.same s1) e2 λy H' s2 r2=>?_
 refine hr x y H' os d e (.bool c) _ (R.rel.al.same<|s1.trans s2) (r1.same s2) r2 e3 λv H2 s3 rv=>?_
 cases rv;exact⟨c,rfl,k H2<|(s1.trans s2).trans s3⟩
def SW{r:R2}{h:PyData->PyData->Option PyData}(ho:c4 X (compareOp op) r)(hr:eA X.K r h)(ha:GB X C ℓ a f)(hb:GB X C ℓ b g)(hm:behindInMarks op b=false:=by rfl):GE X C ℓ (.Compare a [op] [b] pos) (dH h f g):=by
 obtain⟨ta,pa,qa⟩:=ha;obtain⟨tb,pb,qb⟩:=hb;refine⟨_,Gi ho pa pb hm,λσ H os ρ fs c Q R q k=>?_⟩;obtain⟨d,e,e1,e2,e3⟩:=Vt q;refine qa σ H os ρ fs d _ R e1 λx H1 s1 r1=>qb σ H1 os ρ fs e _ (R.same s1) e2 λy H' s2 r2=>?_
 exact hr x y H' os d e c Q (R.rel.al.same<|s1.trans s2) (r1.same s2) r2 e3 λv H2 s3=>k v H2<|(s1.trans s2).trans s3
def Vi{h:ck}(hc:vS X (.builtin id) r)(hr:lV X.K r h)(hg:Gl X x)(hm:X.mg x=none)(hv:bootBuiltins x=some (.builtin id))(ha:Aq X C ℓ (e::es) ga)(hn:x≠"__name__":=by decide)(c8:NDx x:=by decide)(he:cT X e es:=by rfl)(cJ:d9 X pos es:=by rfl):GE X C ℓ (.Call (.Name x p) (e::es) [] pos) (cb h ga):=by
 obtain⟨t,pa,qa⟩:=ha;refine⟨_,U0 hc hg hm hv pa hn c8 he cJ,λσ H os ρ fs c Q R q k=>?_⟩;obtain⟨ds,e1,e2⟩:=bind_some q;exact qa σ H os ρ fs ds _ R e1 λvs H' s rv=>hr vs H' os ds c Q (R.rel.al.same s) rv e2 λv H2 s2=>k v H2<|s.trans s2
def EA{h:ck}(D:zU X.prog X.w X.K X.mg X.base k x ps h)(hr:bZ k' X.A)(hg:Gl X x)(ha:GA X C ℓ (e::es) ga)(hk:k<=k':=by decide)(c8:NDx x:=by decide)(he:cT X e es:=by rfl)(cJ:d9 X pos es:=by rfl):GE X C ℓ (.Call (.Name x p) (e::es) [] pos) (cb h ga):=by
 obtain⟨t,pa,qa⟩:=ha;refine⟨_,VT D hr hg Js pa hk c8 he cJ,λσ H os ρ fs c Q R q k=>?_⟩;obtain⟨ds,e1,e2⟩:=bind_some q;refine qa σ H os ρ fs ds _ R e1 λvs H' s rv=>?_
 rw[km];exact⟨os,ds,c,R.rel.al.same s,rv,e2,λv H2 s2=>k v H2<|s.trans s2⟩
end
section
noncomputable def JT(c:Ro->Ob->Option (Bool×Ob))(b:cx):Nat->Ro->Ob->Option oh
 |0,_,_=>none
 |n+1,ρ,fs=>(c ρ fs).bind λt=>if t.1 then (match b ρ t.2 with |some (.nx ρ' bU)=>JT c b n ρ' bU|r=>r) else some (.nx ρ t.2)
def iu(m:Ro->Ob->Nat)(c:Ro->Ob->Option (Bool×Ob))(b:cx):cx:=λρ fs=>JT c b (m ρ fs) ρ fs
def Y9(m:Ro->Ob->Nat){fc:Ro->Ob->Option (Bool×Ob)}{fb:cx}(hp:PassesOwn (model X.prog X.w) X.A X.env X.xe)(hc:iM X C ℓ c fc)(hb:fQ X C ℓ body fb):OS X C ℓ (.While c body [] pos) (iu m fc fb):=by
 obtain⟨tc,pc,qc⟩:=hc;obtain⟨tb,pb,qb⟩:=hb;refine⟨_,F6 hp pc pb,λH0 bO p D σ H os ρ fs r R e k=>?_⟩;refine⟨λn bR H'=>∃os' ρ' bU,cI X.K C ℓ H0 bO p H' os' bR ρ' bU/\JT fc fb n ρ' bU=some r,⟨m ρ fs,os,ρ,fs,R,e⟩,?_⟩;rintro n bR H' ⟨os',ρ',bU,R',e'⟩;cases n with
 |zero=>cases e'
 |succ n=>
  obtain⟨⟨b,dQ⟩,e1,e2⟩:=bind_some e';refine qc H0 bO p bR H' os' ρ' bU b dQ _ R' e1 λH2 oq R2=>?_
  cases b with
  |false=>rw[qm qR] at e2 ⊢;cases e2;exact k _ _ _ R2
  |true=>
   rw[qj rfl] at e2 ⊢;refine⟨λeH H3=>∃os' ρ' bU,cI X.K C ℓ H0 bO p H3 os' eH ρ' bU/\JT fc fb n ρ' bU=some r,λeH H3 h=>⟨n,kZ n,h⟩,?_⟩;split at e2
   ·rename_i ρ2 dG e3;exact qb H0 bO p _ bR H2 oq ρ' dQ _ R2 e3 λeH H3 i4 R3=>⟨i4,ρ2,dG,R3,e2⟩
   ·cases r with
    |nx ρ2 dG=>rename_i hn;exact absurd e2<|hn ρ2 dG
    |rt d dG=>exact qb H0 bO p _ bR H2 oq ρ' dQ _ R2 e2 k
    |rf d=>exact qb H0 bO p _ bR H2 oq ρ' dQ _ R2 e2 k
end
def Kt(X:Cx)(C:AdX)(ℓ:Nat)(tg iter:Expr)(f:OLx):Prop:=∃wi:TI,PI X tg iter wi/\∀(σ:St)(H:Hp)(os:LAd)(ρ:Ro)(fs:Ob)(ds:LPd)(R:It->Hp->Prop),vO X.K C ℓ H os σ ρ fs->f ρ fs=some ds->
  (∀J H',bJ H H'->(∀G G0,Walks X.K G G0 J ds)->R J H')->wi σ H R
def sH(g:OLx):OLx:=λρ fs=>match g ρ fs with
 |some [.int j]=>if -(2 ^ 62)<=j/\j<2 ^ 62 then some (jT 0 j.toNat) else none
 |_=>none
section
variable{a:Expr}{g:OLx}
def SX(hg:Gl X "range")(hm:X.mg "range"=none)(ha:GA X C ℓ [a] g)(hs:starEach [a] X.env=[(false,eval a X.env)]:=by rfl):Kt X C ℓ tg (.Call (.Name "range" p) [a] [] pos) (sH g):=by
 obtain⟨t,pa,qa⟩:=ha;refine⟨_,Gb hg hm pa hs,λσ H os ρ fs ds R rel e k=>?_⟩;unfold sH at e;split at e
 ·rename_i j e1;split at e
  ·rename_i hc;cases e;refine qa σ H os ρ fs _ _ rel e1 λvs H' s r=>?_
   cases r with
   |cons h r=>cases r;cases h;exact⟨j,rfl,hc.1,hc.2,k _ H' s λG G0=>Wu⟩
  ·cases e
 ·cases e
end
def cI.sets{bO:LAd}{p:AdX}{fs:Ob}(s:Sets K (bK H os) is σ ρ bR ρ')(hi:∀i∈is,i≠ℓ)(h:cI K C ℓ H0 bO p H os σ ρ fs):cI K C ℓ H0 bO p H os bR ρ' fs:=by
 induction s with
 |nil=>exact h
 |set r _ ih=>exact ih (λi hm=>hi i<|.tail _ hm)<|h.set (hi _<|.head _) r
section
noncomputable def sI(bd:PyData->Ro->Option Ro)(b:cx):List PyData->Ro->Ob->Option oh
 |[],ρ,fs=>some<|.nx ρ fs
 |d::ds,ρ,fs=>(bd d ρ).bind λbX=>match b bX fs with |some (.nx ρ2 dG)=>sI bd b ds ρ2 dG|r=>r
def rC(fi:OLx)(bd:PyData->Ro->Option Ro)(b:cx):cx:=λρ fs=>(fi ρ fs).bind λds=>sI bd b ds ρ fs
def SY{fi:OLx}{bd:PyData->Ro->Option Ro}{fb:cx}(hp:PassesOwn (model X.prog X.w) X.A X.env X.xe)(hc:X.calm=true)(hi:Kt X C ℓ tg iter fi)(hg:FG X tg is bd)(hb:fQ X C ℓ body fb)(dC:∀i∈is,i≠ℓ:=by decide)(hs:ee X iter:=by exact λ_=>rfl):OS X C ℓ (.For tg iter body [] pos) (rC fi bd fb):=by
 obtain⟨wi,pi,qi⟩:=hi;obtain⟨tb,pb,qb⟩:=hb;refine⟨_,CO hp hc pi hg pb hs,λH0 bO p D σ H os ρ fs r R e k=>?_⟩;obtain⟨ds,e1,e2⟩:=bind_some e;refine qi σ H os ρ fs ds _ R.uu e1 λJ H1 s1 W=>?_
 refine⟨λi m bR H'=>m=ds.length - i/\i<=ds.length/\∃os' ρ' bU,cI X.K C ℓ H0 bO p H' os' bR ρ' bU/\sI bd fb (ds.drop i) ρ' bU=some r,
  ⟨ds.length,rfl,kx _,os,ρ,fs,R.same s1,e2⟩,?_⟩
 rintro i m bR H' ⟨rfl,hi,os',ρ',bU,R',e'⟩;obtain⟨w1,w2⟩:=W H' (bK H' os') H' os' R'.sr.rel.al (bJ.refl _)<|bJ.refl _;by_cases cC:i<ds.length
 ·obtain⟨d,hd⟩:∃d,ds[i]?=some d:=⟨_,qk cC⟩;obtain⟨g1,g2⟩:=w1 i d hd;have ed:ds.drop i=d::ds.drop (i+1):=by
   rw[gT cC];rw[qk cC] at hd;cases hd;rfl
  rw[ed] at e';obtain⟨bX,e3,e4⟩:=bind_some e';refine .inr ⟨g1,λcq H2=>i+1<=ds.length/\∃os' ρ' bU,cI X.K C ℓ H0 bO p H2 os' cq ρ' bU/\sI bd fb (ds.drop<|i+1) ρ' bU=some r,?_,?_⟩
  ·rintro cq H2 ⟨h1,h2⟩;exact⟨ds.length - (i+1),by omega,rfl,h1,h2⟩
  ·intro x H2 hy;obtain⟨s2,rx⟩:=g2 x H2 hy;refine⟨os',d,ρ',bX,rx,e3,λcq st=>?_⟩;have R2:cI X.K C ℓ H0 bO p H2 os' cq bX bU:=cI.sets st dC<|R'.same s2;split at e4
   ·rename_i ρ2 dG e5;exact qb H0 bO p _ cq H2 os' bX bU _ R2 e5 λeH H3 i4 R3=>⟨cC,i4,ρ2,dG,R3,e4⟩
   ·cases r with
    |nx ρ2 dG=>rename_i hn;exact absurd e4<|hn ρ2 dG
    |rt d dG=>exact qb H0 bO p _ cq H2 os' bX bU _ R2 e4 k
    |rf d=>exact qb H0 bO p _ cq H2 os' bX bU _ R2 e4 k
 ·have e:i=ds.length:=by omega
  subst e;rw[mX] at e';cases e';exact .inl ⟨w2,k _ _ _ R'⟩
end
def rD(P:Program)(w:World)(K:FRx)(mg:Str->Option Value)(base:Heap)(k:Nat)(C:AdX)(x:Str)(ps:LSr)(h:eC):Prop:=∃f fd,Mk K C f/\wu P w K mg base dO k f fd ps (Ko K C h)/\Binds K fd ps []/\mg x=some (.ref C)
def GN(X:Cx)(C:AdX)(ℓ:Nat)(C2:AdX)(e:Expr)(f:Ro->Ob->Option Ob):Prop:=∃t:TE,PE X e t/\∀(σ:St)(H:Hp)(os:LAd)(ρ:Ro)(fs gs:Ob)(Q:VK),vO X.K C ℓ H os σ ρ fs->f ρ fs=some gs->
  (∀q H' os' B,Left H os [] H' os'->cE X.K H' os' (.ref q) (.ob C2 gs) B->B.Nodup->(∀a∈B,a∈os'/\H a=none)->Q (.ref q) H')->t σ H Q
def FN(X:Cx)(C2:AdX)(e:Expr)(f:Ro->Option Ob):Prop:=∃t:TE,PE X e t/\∀(σ:St)(H:Hp)(os:LAd)(ρ:Ro)(gs:Ob)(Q:VK),xM X.K H os σ ρ->f ρ=some gs->
  (∀q H' os' B,Left H os [] H' os'->cE X.K H' os' (.ref q) (.ob C2 gs) B->B.Nodup->(∀a∈B,a∈os'/\H a=none)->Q (.ref q) H')->t σ H Q
section
variable{ga:bY}
def FN.gn{f:Ro->Option Ob}(h:FN X C2 e f):GN X C ℓ C2 e (λρ _=>f ρ):=by
 obtain⟨t,p,q⟩:=h;exact⟨t,p,λσ H os ρ fs gs Q R e k=>q σ H os ρ gs Q R.rel e k⟩
noncomputable def iw(h:eC)(ga:bY):Ro->Option Ob:=λρ=>(ga ρ).bind λds=>match h [] ds with |some (.none,gs)=>some gs|_=>none
def EB{h:eC}(I:rD X.prog X.w X.K X.mg X.base k C2 x ps h)(hr:bZ k' X.A)(hg:Gl X x)(ha:FA X (e::es) ga)(hk:k+1<=k':=by decide)(c8:NDx x:=by decide)(he:cT X e es:=by rfl)(cJ:d9 X pos es:=by rfl):FN X C2 (.Call (.Name x p) (e::es) [] pos) (iw h ga):=by
 obtain⟨fa,fd,M,F,B,mx⟩:=I;obtain⟨t,pa,qa⟩:=ha;refine⟨_,N1 M F (hr.mono hk) hg mx B .nil Js pa c8 he cJ,λσ H os ρ gs Q R e kk=>?_⟩;obtain⟨ds,e1,e2⟩:=bind_some e;refine qa σ H os ρ ds _ R e1 λus H1 s1 ru q dx nq S0 dq=>?_
 split at e2
 ·rename_i fI e3;cases e2;have Ku:Al H1 os:=R.al.same s1;have Em:∀a,H1 a=none->a∉os:=λa n=>Ku.new n
  have same:bJ H1 (upd (upd H1 dx<|.own q) q<|.ins C2 dx []):=λb o z=>by
   rw[zY (λw=>by rw[w,nq] at z;cases z),zY λw=>by rw[w,S0] at z;cases z];exact z
  have so:bJ (bK H1 os) (bK (upd (upd H1 dx<|.own q) q<|.ins C2 dx [])<|q::os):=jA nq same;rw[km];refine⟨q,us,q::os,ds,[],.none,gs,[q],rfl,.ob zL .nil,kv.mpr ⟨by simp,.nil⟩,λa ha=>by rw[qY.mp ha];exact .head _,λa ha=>?_,ru.same so,e3,λv H' os' A' sm al o' fu sA sub new rv=>?_⟩
  ·rcases qy.mp ha with z|z
   ·rw[z];exact⟨_,zL⟩
   ·obtain⟨o,w⟩:=Ku a z;exact⟨o,same a o w⟩
  ·cases rv;have out:∀a,bK (upd (upd H1 dx<|.own q) q<|.ins C2 dx []) [q] a=none->H1 a=none:=λa z=>by
    by_cases w:a=q
    ·rw[w];exact nq
    ·rw[zA<|by simpa using w] at z;exact same.free z
   refine⟨rfl,kk q H' os' A' ⟨λb o z=>?_,al,λa ha=>.inr ?_,λa ha=>?_⟩ o' fu λa ha=>⟨(sA a ha).1,s1.free<|out a (sA a ha).2⟩⟩
   ·have z1:=s1 b o z;refine sm b o ?_;rw[zA λw=>by rw[qY.mp w,nq] at z1;cases z1];exact same b o z1
   ·rcases sub a (.tail _ ha) with w|w
    ·exact absurd (by rwa[qY.mp w] at ha)<|Em q nq
    ·exact w
   ·rcases new a ha with w|w
    ·rcases qy.mp w with u|u
     ·right
      rw[zA (by simp),u];exact s1.free nq
     ·exact .inl u
    ·right
     rw[zA<|by simp];exact s1.free<|out a w
 ·cases e2
end
section
variable{f:Str}
def S3(L:Left H os [] H' os'):bJ (bK H os) (bK H' os'):=L.data λa ha=>by cases ha
def BZ(x:Str)(C2:AdX)(g:Ro->Ob->Option Ob):cx:=λρ fs=>(g ρ fs).bind λgs=>if fs.length<1000 then some (.nx ρ<|zR x (.ob C2 gs) fs) else none
def S4{g:Ro->Ob->Option Ob}(cl:cV X.K C)(na:yM X.K C f)(he:GN X C ℓ C2 e g)(hN:X.N[ℓ]?=some x:=by rfl)(hv:cY X.env.scope x:=by trivial)(hd:NDx x:=by decide)(b6:NCx x:=by decide)(hs:swapsWith e (some<|.Attribute (.Name x p0) f pos') pos.line X.env=pure false:=by rfl):OS X C ℓ (.Assign [.Attribute (.Name x p0) f pos'] e pos) (BZ f C2 g):=by
 obtain⟨t,pe,q⟩:=he;refine⟨_,Bg (yA (i:=ℓ) hN hv hd b6) pe hs,λH0 bO p D σ H os ρ fs r R e k=>?_⟩;obtain⟨gs,e1,e2⟩:=bind_some e;split at e2
 ·rename_i hl;cases e2;refine q σ H os ρ fs gs _ R.uu e1 λq H' os' B L o nd hB=>?_
  obtain⟨A,h1,h2,h3,h4⟩:=R.ob;have cell:∀a∈A,H' a=H a:=λa ha=>by
   obtain⟨o,w⟩:=h1.has a ha;rw[w];exact L.cell (by simp) w
  have oW:=h1.keep (S3 L) cell;have rE:=R.sr.left L (λa ha=>by cases ha) λj c q m a ha=>by cases ha
  have ins:∀a∈A,a∈os':=λa ha=>by
   rcases L.sub a (h3 a ha).1 with w|w
   ·cases w
   ·exact w
  cases oW with
  |ob hp r=>
   refine⟨_,R.self,_,_,_,_,rfl,hp,cl,na,by rw[r.len];exact hl,k _ _ _<|Yg rE R.self hp r h2 (λa ha=>⟨ins a ha,(h3 a ha).2⟩) h4 o nd λa ha=>⟨(hB a ha).1,R.sr.sm.free (hB a ha).2,λw=>?_,λj c q m w=>?_⟩⟩
   ·obtain⟨o,z⟩:=h1.has a w;rw[(hB a ha).2] at z;cases z
   ·obtain⟨b,o,w1,w2,w3,_⟩:=R.sr.rel.mu j c q m;rw[w] at w1;cases w1;rw[(hB a ha).2] at w3;cases w3
 ·cases e2
end
def cH.zio{bO:LAd}(h:cH K H0 bO H os σ ρ)(i:Nat)(v:Option V):cH K H0 bO H os (σ.set i v) (ρ.set i .no):=by
 have m:∀{j:Nat} {c:Sl},(ρ.set i .no)[j]?=some c->c≠ .no->i≠j/\ρ[j]?=some c:=λ{j c} q hc=>by
  rcases yy q with⟨_,_,z⟩|z
  ·exact absurd z.symm hc
  ·exact z
 have nm:∀{c:Sl},isM c=true->c≠ .no:=λ{c} hm z=>by rw[z] at hm;cases hm
 refine⟨⟨λj d q=>?_,λj c q hm=>?_,h.rel.al,by rw[gr,gr];exact h.rel.len⟩,h.sm,h.sub,h.new,h.al0,λj c q hm a e=>?_,λj k c c' fy q1 q2 m1 m2 a e1=>?_⟩
 ·obtain⟨hj,q⟩:=m q (by intro z;cases z);rw[qL hj];exact h.rel.pu j d q
 ·obtain⟨hj,q⟩:=m q<|nm hm;rw[qL hj];exact h.rel.mu j c q hm
 ·obtain⟨hj,q⟩:=m q<|nm hm;rw[qL hj] at e;exact h.own j c q hm a e
 ·obtain⟨hj,q1⟩:=m q1<|nm m1;obtain⟨hk,q2⟩:=m q2<|nm m2;rw[qL hj] at e1;rw[qL hk];exact h.ap j k c c' fy q1 q2 m1 m2 a e1
section
variable{f:Ro->Option Ob}{g:cx}
noncomputable def ot(i:Nat)(f:Ro->Option Ob)(g:cx):bW:=λρ=>(f ρ).bind λgs=>if i<ρ.length then (match g (ρ.set i .no) gs with |some (.rt d _)=>some (.rt d)|some (.rf d)=>some (.rt d)|_=>none) else none
def Kv(i:Nat)(hN:X.N.Nodup)(he:FN X C e f)(hr:fQ X C i rest g)(hi:X.N[i]?=some x:=by rfl)(hx:Loc X.env.scope x:=by trivial)(hs:swapsWith e (some<|.Name x pos') pos.line X.env=pure false:=by rfl)(hf:fA X x:=by trivial):fV X (.Assign [.Name x pos'] e pos::rest) (ot i f g):=by
 obtain⟨t,p,q⟩:=he;obtain⟨t2,p2,q2⟩:=hr;refine⟨_,wq (uq hN hi hx p hs hf) p2,λH0 bO D σ H os ρ r R e k=>?_⟩;obtain⟨gs,e1,e2⟩:=bind_some e;split at e2
 ·rename_i hl;split at e2
  ·rename_i d bU e3;cases e2;refine q σ H os ρ gs _ R.rel e1 λa H' os' B L o nd hB=>?_
   have rE:=(R.left L (λb hb=>by cases hb) λj c q m b hb=>by cases hb).zio i<|some<|.ref a;refine q2 H0 bO a D _ H' os' _ gs _ ⟨rE,kQ (by rw[R.rel.len];exact hl),B,o,nd,λb hb=>⟨(hB b hb).1,R.sm.free (hB b hb).2⟩,λj c q m b hb w=>?_⟩ e3 λv H2 oq M rv=>k v H2 M.sm<|rv.same<|xa M.sub
   rcases yy q with⟨_,_,z⟩|⟨hj,q⟩
   ·rw[<-z] at m;cases m
   ·rw[qL hj] at w;obtain⟨b',o',w1,w2,w3,_⟩:=R.rel.mu j c q m;rw[w] at w1;cases w1;rw[(hB b hb).2] at w3;cases w3
  ·rename_i d e3;cases e2;refine q σ H os ρ gs _ R.rel e1 λa H' os' B L o nd hB=>?_
   have rE:=(R.left L (λb hb=>by cases hb) λj c q m b hb=>by cases hb).zio i<|some<|.ref a;refine q2 H0 bO a D _ H' os' _ gs _ ⟨rE,kQ (by rw[R.rel.len];exact hl),B,o,nd,λb hb=>⟨(hB b hb).1,R.sm.free (hB b hb).2⟩,λj c q m b hb w=>?_⟩ e3 λv H2 sm rv=>k v H2 sm rv
   rcases yy q with⟨_,_,z⟩|⟨hj,q⟩
   ·rw[<-z] at m;cases m
   ·rw[qL hj] at w;obtain⟨b',o',w1,w2,w3,_⟩:=R.rel.mu j c q m;rw[w] at w1;cases w1;rw[(hB b hb).2] at w3;cases w3
  ·cases e2
 ·cases e2
end
section
variable{f:cc}{ga:OLx}{m:Str}{lo:Option Expr}{l h:Ro->Option (Option Int)}
noncomputable def iO(g:OLx):cc:=λρ fs=>(g ρ fs).bind λds=>if ds.length<=16777216 then some (.tuple ds) else none
def S5{x1}(h:GA X C ℓ es ga):GE X C ℓ (.Tuple es x1 pos) (iO ga):=by
 obtain⟨t,p,q⟩:=h;refine⟨_,C0 p,λσ H os ρ fs d Q R e k=>?_⟩;obtain⟨ds,e1,e2⟩:=bind_some e;by_cases hl:ds.length<=16777216
 ·rw[qj hl] at e2;cases e2;refine q σ H os ρ fs ds _ R e1 λvs H' s r=>⟨by rw[r.length];exact hl,λp hp=>k _ _ (s.trans<|yb hp _)<|.tup (cP.of ?_)<|r.same<|zq (yb hp _) os⟩
  rw[zA<|(R.rel.al.same s).new hp];exact zL
 ·rw[qm hl] at e2;cases e2
noncomputable def rG(f:OLx):cc:=λρ fs=>(f ρ fs).map .list
def GL.ge{f:OLx}(h:GL X C ℓ e f):GE X C ℓ e (rG f):=by
 obtain⟨t,h1,h2⟩:=h;refine⟨t,h1,λσ H os ρ fs d Q R q k=>?_⟩;obtain⟨ds,e1,e2⟩:=map_some q;subst e2;refine h2 σ H os ρ fs ds Q R e1 λa xs H' n s hx r=>k _ H' s<|.lst (cm.of ?_)<|r.same<|xa λb hb=>qA _ hb
 rw[zA<|R.rel.al.new n];exact hx
def sJ(f:cc)(l h:Ro->Option (Option Int)):OLx:=λρ fs=>match f ρ fs with
 |some (.list ds)=>(l ρ).bind λlo=>(h ρ).bind λhi=>some<|cut ds lo hi
 |_=>none
def S6(ha:GB X C ℓ e f)(hl:FO X lo l)(hh:FO X hi h):GL X C ℓ (.Subscript e (.Slice lo hi none p2) pos) (sJ f l h):=by
 obtain⟨ta,pa,qa⟩:=ha;obtain⟨tl,pl,ql⟩:=hl;obtain⟨th,ph,qh⟩:=hh;refine⟨_,GI GS pa pl ph,λσ H os ρ fs c Q R q k=>?_⟩;unfold sJ at q;split at q
 ·rename_i ds e1;obtain⟨a,e2,q⟩:=bind_some q;obtain⟨b,e3,q⟩:=bind_some q;cases q;refine qa σ H os ρ fs _ _ R e1 λv H1 s1 r1=>ql σ H1 os ρ a _ (R.rel.same s1) e2 λH2 s2=>qh σ H2 os ρ b _ (R.rel.same<|s1.trans s2) e3 λH3 s3=>?_
  obtain⟨p,xs,rfl,hS,r⟩:=(r1.same<|s2.trans s3).lst;exact⟨p,xs,rfl,hS,λq hq=>k q _ _ ((s1.trans s2).trans s3 |>.free hq) (((s1.trans s2).trans s3).trans<|yb hq _) zL<|j8 hq<|Hr r a b⟩
 ·cases q
def U1{pl:Sem Bool}{h:eC}(cl:cV X.K C)(M:Met X.prog X.w X.K X.mg X.base k C m ps h)(hr:bZ k' X.A)(hk:k<=k':=by decide)(hN:X.N[ℓ]?=some x:=by rfl)(hv:cY X.env.scope x:=by trivial)(hd:NDx x:=by decide)(b6:NCx x:=by decide)(ht:eval (.Call (.Attribute (.Name x p0) m apos) [] [] pos) X.env=(do
   let ov <-eval (.Name x p0) X.env
   standAt apos.atName
   let (f,first) <-holding [ov] (getMethod ov m pl)
   callWith pos f first (backTo pos<|starEach [] X.env) (backToKw pos<|keywordEach [] X.env)):=by rfl):GM X C ℓ (.Call (.Attribute (.Name x p0) m apos) [] [] pos) (d7 m h cz):=by
 obtain⟨fa,fd,F,B,mm⟩:=M;refine⟨_,Gu (pl:=pl) (yA (i:=ℓ) hN hv hd b6) cl mm F (hr.mono hk) B .nil Js ht,λH0 bO p σ H os ρ fs d bU Q R e kk=>?_⟩;unfold d7 at e;split at e
 ·rename_i hm;obtain⟨ds,e1,e2⟩:=bind_some e;cases e1;obtain⟨A,h1,h2,h3,h4⟩:=R.ob;cases h1 with
  |ob hp rr=>
   refine⟨_,R.self,p,_,_,rfl,hp,rr.nolook<|gS.mp hm,?_⟩;have o1:=cE.ob hp rr;refine⟨p,[],os,[],fs,d,bU,_,rfl,o1,h2,λa ha=>(h3 a ha).1,R.sr.rel.al,.nil,e2,λv H' os' B' sm al o' fu eD sub new rv=>?_⟩;exact kk v H' os' (R.own o1 ⟨sm,al,sub,new⟩ o' fu eD) rv
 ·cases e
end
structure sL(K:FRx)(C:AdX)(ℓ:Nat)(H:Hp)(os:LAd)(σ:St)(ρ:Ro)(fs:Ob):Prop where
 rel:xM K H os σ ρ
 ob:∃p dx vs,σ[ℓ]?=some (some<|.ref p)/\H p=some (.ins C dx vs)/\∀x d,gg x ρ fs=some d->∃v,vs.lookup x=some v/\Rep K (bK H os) v d
def sL.same{fs:Ob}(h:sL K C ℓ H os σ ρ fs)(e:bJ H H'):sL K C ℓ H' os σ ρ fs:=by
 obtain⟨p,dx,vs,h1,h2,h3⟩:=h.ob;exact⟨h.rel.same e,p,dx,vs,h1,e _ _ h2,λx d q=>by
  obtain⟨v,l,r⟩:=h3 x d q;exact⟨v,l,r.same<|zq e os⟩⟩
def cI.zok{bO:LAd}{p:AdX}{fs:Ob}(h:cI K C ℓ H0 bO p H os σ ρ fs):∃os',sL K C ℓ H os' σ ρ fs/\(∀a∈bO,a∈os'):=by
 obtain⟨A,h1,h2,h3,h4⟩:=h.ob;have sub:∀b∈os.filter (λc=>c∉A),b∈os:=λb hb=>(kl.mp hb).1
 have so:bJ (bK H os) (bK H<|os.filter λc=>c∉A):=xa sub;refine⟨os.filter λc=>c∉A,⟨⟨λi d q=>?_,λi c q m=>?_,λb hb=>h.sr.rel.al b<|sub b hb,h.sr.rel.len⟩,?_⟩,λa ha=>kl.mpr ⟨h.sr.sub a ha,?_⟩⟩
 ·obtain⟨v,w1,w2⟩:=h.sr.rel.pu i d q;exact⟨v,w1,w2.same so⟩
 ·obtain⟨a,o,w1,w2,w3,w4⟩:=h.sr.rel.mu i c q m;exact⟨a,o,w1,kl.mpr ⟨w2,by simpa using λz=>h4 i c q m a z w1⟩,w3,w4.same so⟩
 ·cases h1 with
  |ob hp r=>
   refine⟨p,_,_,h.self,hp,λx d q=>?_⟩;unfold gg at q;split at q
   ·rename_i d' ef;cases q;obtain⟨v,B,l,o,_⟩:=r.look ef;cases o with
    |pu rv=>exact⟨_,l,rv.same so⟩
   ·rename_i ds ef;cases q;obtain⟨v,B,l,o,hB⟩:=r.look ef;cases o with
    | @ow a0 xs0 _ ha rv=>
     have na:a0∉os.filter λc=>c∉p::_:=λz=>by
      have w:=(kl.mp z).2;simp at w;exact w.2<|hB a0<|.head _
     exact⟨_,l,.lst (cm.of<|by rw[zA na];exact ha)<|rv.same so⟩
   ·cases q
 ·have:a∉A:=λz=>by
   obtain⟨o,e⟩:=h.sr.al0 a ha;rw[(h3 a z).2] at e;cases e
  simpa using this
def GZ(X:Cx)(C:AdX)(ℓ:Nat)(e:Expr)(f:cc):Prop:=∃t:TE,PE X e t/\∀(σ:St)(H:Hp)(os:LAd)(ρ:Ro)(fs:Ob)(d:PdX)(Q:VK),sL X.K C ℓ H os σ ρ fs->f ρ fs=some d->(∀v H',bJ H H'->Rep X.K (bK H' os) v d->Q v H')->t σ H Q
def B2(X:Cx)(C:AdX)(ℓ:Nat)(es:List Expr)(f:OLx):Prop:=∃t:TA,PA X es t/\∀(σ:St)(H:Hp)(os:LAd)(ρ:Ro)(fs:Ob)(ds:LPd)(Q:List V->Hp->Prop),sL X.K C ℓ H os σ ρ fs->f ρ fs=some ds->(∀vs H',bJ H H'->bP X.K (bK H' os) vs ds->Q vs H')->t σ H Q
section
variable{f:cc}{g:OLx}{n:Str}
def FE.gz{f:RPx}(h:FE X e f):GZ X C ℓ e (λρ _=>f ρ):=by
 obtain⟨t,p,q⟩:=h;exact⟨t,p,λσ H os ρ fs d Q R e k=>q σ H os ρ d Q R.rel e k⟩
def S7(cl:cV X.K C)(na:yM X.K C n)(hN:X.N[ℓ]?=some x:=by rfl)(hv:cY X.env.scope x:=by trivial)(hd:NDx x:=by decide)(b6:NCx x:=by decide)(hb:d4 X (.Name x p0) n:=by rfl):GZ X C ℓ (.Attribute (.Name x p0) n pos) (gg n):=by
 refine⟨_,va (yA (i:=ℓ) hN hv hd b6) hb,λσ H os ρ fs d Q R e k=>?_⟩;obtain⟨p,dx,vs,h1,h2,h3⟩:=R.ob;obtain⟨v,l,r⟩:=h3 n d e;exact⟨_,h1,_,_,_,_,_,rfl,h2,cl,na,l,k v H (bJ.refl H) r⟩
def S8:B2 X C ℓ [] cz:=⟨_,xW,λ_ H _ _ _ _ _ _ q k=>by cases q;exact k [] H (bJ.refl H) .nil⟩
def Kw(ha:GZ X C ℓ e f)(hr:B2 X C ℓ es g)(hs:cT X e es:=by rfl):B2 X C ℓ (e::es) (cn f g):=by
 obtain⟨ta,pa,qa⟩:=ha;obtain⟨tb,pb,qb⟩:=hr;refine⟨_,yQ pa pb hs,λσ H os ρ fs ds Q R q k=>?_⟩;obtain⟨d,e1,q⟩:=bind_some q;obtain⟨r,e2,e3⟩:=map_some q;subst e3;exact qa σ H os ρ fs d _ R e1 λx H1 s1 r1=>qb σ H1 os ρ fs r _ (R.same s1) e2 λxs H2 s2 r2=>k _ H2 (s1.trans s2)<|.cons (r1.same<|zq s2 os) r2
def S9{x1}(h:B2 X C ℓ es g):GZ X C ℓ (.Tuple es x1 pos) (iO g):=by
 obtain⟨t,p,q⟩:=h;refine⟨_,C0 p,λσ H os ρ fs d Q R e k=>?_⟩;obtain⟨ds,e1,e2⟩:=bind_some e;by_cases hl:ds.length<=16777216
 ·rw[qj hl] at e2;cases e2;refine q σ H os ρ fs ds _ R e1 λvs H' s r=>⟨by rw[r.length];exact hl,λp hp=>k _ _ (s.trans<|yb hp _)<|.tup (cP.of ?_)<|r.same<|zq (yb hp _) os⟩
  rw[zA<|(R.rel.al.same s).new hp];exact zL
 ·rw[qm hl] at e2;cases e2
noncomputable def ZP(f:cc):cx:=λρ fs=>(f ρ fs).bind λd=>some<|.rf d
def Ta(h:GZ X C ℓ e f):OS X C ℓ (.Return (some e) pos) (ZP f):=by
 obtain⟨t,p,q⟩:=h;refine⟨_,UY p,λH0 bO p D σ H os ρ fs r R e k=>?_⟩;obtain⟨d,e1,e2⟩:=bind_some e;cases e2;obtain⟨os',Z,sub⟩:=R.zok;exact q σ H os' ρ fs d _ Z e1 λv H' s rv=>k v H' (R.sr.sm.trans s) (rv.same<|xa sub)
end
def Yo(K:FRx)(mg:Str->Option Value)(C:AdX)(y x qual:Str)(st:Stmt):Prop:=∃f fd,iF K x qual st f fd/\Mk K C f/\mg y=some (.ref C)
section
def rD.mk{x y qual:Str}{st:Stmt}{N ps:LSr}{k m:Nat}{b:cx}(h:Yo K mg C y x qual st)(S:zx N ps (zf st))(hb:∀(kV doc pm:Value)(an:Option Addr)(b5 ct:Value)(us:LVl),us.length=ps.length->bindArgs (W.fnOf x qual (jt st) (yN st) (zf st) .none kV doc pm an b5 ct) ⟨us,[]⟩=pure (ps.zip us))(hm:ps.length=m+1)(hN:m<N.length)(cv:∀{f:AdX} {b5:Value} {A:Around} {outer:List Env} {s:ShX} {H:Hp} {E:XK},bZ k (A.deeper<|envOfC qual (zf st) s.heap.objs.size f b5)->
   fQ (Uh dO P w K mg base N qual (zf st) f b5 A outer s H E).nox C 0 (yN st) b):rD P w K mg base (k+1) C y ps (fq N.length m b):=by
 obtain⟨f,fd,F,M,my⟩:=h;refine⟨f,fd,M,F.ok S (λvs H Q E q=>?_) λb5 A outer s H vs Q E hr q=>?_,F.binds hb,my⟩
 ·obtain⟨p,us,os,ds,fs,d,bU,A,rfl,_,_,_,_,r,e,_⟩:=q;unfold fq at e;split at e
  ·rename_i hl;rw[ke,r.length,hl,hm]
  ·cases e
 ·obtain⟨t,pp,q'⟩:=cv hr;obtain⟨p,us,os,ds,fs,d,bU,A,rfl,o,nd,hA,al,r,e,kk⟩:=q;unfold fq at e;split at e
  ·rename_i hl;refine⟨t,pp,?_⟩;have R:=Kp (N:=N) al r o nd hA m hl hN;have go:∀v H' os',Ai K C (bK H A) (os.filter λa=>a∉A) p H' os' bU->Rep K (bK H' os') v d->Q v H':=λv H' os' M rv=>by
    obtain⟨A',o',fu,sA⟩:=M.ob;refine kk v H' os' A' M.sm M.al o' fu sA (λa ha=>?_) (λa ha=>?_) rv
    ·by_cases z:a∈A
     ·exact .inl z
     ·exact .inr<|M.sub a<|kl.mpr ⟨ha,by simpa using z⟩
    ·rcases M.new a ha with z|z
     ·exact .inl (kl.mp z).1
     ·exact .inr z
   split at e
   ·rename_i d' rA e1;cases e;exact q' _ _ _ _ _ H os _ _ _ R e1 λv H' os' M rv=>go v H' os' M rv
   ·rename_i ρ' rA e1;cases e;exact q' _ _ _ _ _ H os _ _ _ R e1 λbR H' os' R'=>go _ H' os' R'.end .non
   ·cases e
  ·cases e
end
theorem Kx:∀(us:LVl)(k:Nat),(∀(i:Nat)(v:Value),us[i]?=some v->∃t,v=Value.int (0+((k+i:Nat):Int)) t)->Vals ((List.range' k us.length).map λi:Nat=>V.int<|0+i) us
 |[],_,_=>.nil
 |u::us,k,h=>by
  obtain⟨t,e⟩:=h 0 u rfl;exact .cons ⟨t,by rw[e];simp⟩ (Kx us (k+1) λi v hv=>by
   obtain⟨t,e⟩:=h (i+1) v (by simpa using hv);exact⟨t,by rw[e,show k+(i+1)=k+1+i by omega]⟩)
def Tc(hn:us.length=n)(h:∀(i:Nat)(v:Value),us[i]?=some v->∃t,v=Value.int (0+(i:Int)) t):Vals ((List.range n).map λi:Nat=>V.int<|0+i) us:=by
 rw[<-hn,List.range_eq_range'];exact Kx us 0 λi v hv=>by
  obtain⟨t,e⟩:=h i v hv;exact⟨t,by rw[e,nC]⟩
theorem Ky{K:FRx}{G:Hp}:∀l:List Nat,bP K G (l.map λi:Nat=>V.int<|0+i) (l.map λi:Nat=>PyData.int<|0+i)
 |[]=>.nil
 |_::l=>.cons (.int _)<|Ky l
section
def Td:vS X (.type "range") (λxs H Q=>∃j:Int,xs=[.int j]/\∀l,H l=none->Q (.ref l) (upd H l<|.rng 0 j)):=by
 intro pins s σ H xs us Q I r h;obtain⟨j,rfl,q⟩:=h;obtain⟨u,rfl,t,rfl⟩:=vals1 r;refine call_range_1 ⟨.ref s.heap.objs.size,_,I.laid (o:=.rng 0 j) (t':=s.toks+1+1) (λc o e=>qo _ e) (qe _) ⟨_,_,_,qO _ rfl⟩,rfl,q _<|I.hok.fresh<|qe _⟩
def Te(hc:X.calm=true):vS X (.type "list") (λxs H Q=>∃p,∃j:Int,xs=[.ref p]/\H p=some (.rng 0 j)/\-(2 ^ 62)<=j/\j<=16777216/\∀l,H l=none->Q (.ref l) (upd H l<|.lst ((List.range j.toNat).map λi:Nat=>V.int<|0+i))):=by
 intro pins s σ H xs us Q I r h;obtain⟨p,j,rfl,hp,h1,h2,q⟩:=h;obtain⟨u,rfl,ru⟩:=vals1 r;cases ru;obtain⟨t,u,v,hR⟩:vH X.prog X.w H s.heap p (.rng 0 j):=I.hok p _ hp;refine call_list_range (I.ok.hd hc) hR (small_one (by omega) (by omega) h1<|by omega) (n:=j.toNat) (by rw[rangeSize_one];split<;>omega) (by omega) λh' tk EC c' hk Tf Az=>?_
 refine⟨.ref s.heap.objs.size,_,I.laid (o:=.lst ((List.range j.toNat).map λi:Nat=>V.int<|0+i)) (t':=tk) hk (qe _) ⟨?_,EC.toList,c',?_,?_⟩,rfl,q _<|I.hok.fresh<|qe _⟩
 ·rw[qf,qw]
  have:=V0;show j.toNat<=16777216
  omega
 ·exact Tc (by rw[nt];exact Az.1) λi v hv=>by
   obtain⟨t,e⟩:=Az.2 i v (by simpa using hv);exact⟨t,by rw[e];simp⟩
 ·simpa using Tf
def B3(g:bY):bY:=λρ=>match g ρ with
 |some [.int j]=>if -(2 ^ 62)<=j/\j<=16777216 then some (jT 0 j.toNat) else none
 |_=>none
def Tg{a:Expr}{p':Pos}{g:bY}(hc:X.calm=true)(hg:Gl X "range")(hm:X.mg "range"=none)(Th:Gl X "list")(tR:X.mg "list"=none)(ha:FA X [a] g)(hs:cT X a []:=by rfl)(sO:(backTo pos'<|starEach [] X.env).any (·.1)=false:=by rfl)(dS:starEach [(.Call (.Name "range" p') [a] [] pos':Expr)] X.env=(false,eval (.Call (.Name "range" p') [a] [] pos') X.env)::starEach [] X.env:=by rfl)(sy:(backTo pos<|starEach [] X.env).any (·.1)=false:=by rfl):FL X (.Call (.Name "list" p) [.Call (.Name "range" p') [a] [] pos'] [] pos) (B3 g):=by
 obtain⟨t,pa,qa⟩:=ha;refine⟨_,J0 (Te hc) Th tR vz (yQ (J0 Td hg hm boot_range pa (by decide) (by decide) hs sO) xW dS) (by decide) (by decide) dS sy,λσ H os ρ ds Q R e k=>?_⟩;unfold B3 at e;split at e
 ·rename_i j e1;split at e
  ·rename_i hj;cases e;refine qa σ H os ρ _ _ R e1 λvs H1 s1 rv=>?_
   cases rv with
   |cons h r=>
    cases r;cases h;refine⟨j,rfl,λl hl=>⟨l,j,rfl,zL,hj.1,hj.2,λl2 eV=>?_⟩⟩;have s2:bJ H1 (upd H1 l<|.rng 0 j):=yb hl _;have s3:=yb eV<|.lst ((List.range j.toNat).map λi:Nat=>V.int<|0+i)
    exact k l2 _ _ (s1.free<|s2.free eV) (s1.trans<|s2.trans s3) zL<|Ky _
  ·cases e
 ·cases e
end
def lF(h:eM):ck:=λds=>(h ds).map PyData.list
def wy.df{h:eM}(D:wy P w K mg base k x ps h):zU P w K mg base k x ps (lF h):=by
 obtain⟨f,fd,F,r⟩:=D;refine⟨f,fd,F.imp λvs H Q E q=>?_,r⟩;obtain⟨os,ds,r,al,rv,e,kk⟩:=q;obtain⟨es,e1,e2⟩:=map_some e;subst e2;refine⟨os,ds,es,al,rv,e1,λa xs H' n s hx r=>kk _ H' s<|.lst (cm.of ?_)<|r.same<|xa λb hb=>qA _ hb⟩;rw[zA<|al.new n];exact hx
def B4(X:Cx)(C:AdX)(ℓ:Nat)(iI:List Stmt)(f:cx):Prop:=∃t:TS,eQ X iI t/\∀(H0:Hp)(bO:LAd)(p:AdX)(D:Ends)(σ:St)(H:Hp)(os:LAd)(ρ:Ro)(fs:Ob)(ρ':Ro)(bU:Ob),cI X.K C ℓ H0 bO p H os σ ρ fs->f ρ fs=some (.nx ρ' bU)->(∀H' os',Ai X.K C H0 bO p H' os' bU->D.rt (.ref p) H')->t D σ H
section
variable{st:Stmt}{f g:cx}
def Ti(hN:X.N[ℓ]?=some x:=by rfl)(hv:cY X.env.scope x:=by trivial)(hd:NDx x:=by decide)(b6:NCx x:=by decide):B4 X C ℓ [.Return (some<|.Name x p0) pos] bO:=by
 refine⟨_,wq (UY<|yA (i:=ℓ) hN hv hd b6) CJ,λH0 bO p D σ H os ρ fs ρ' bU R e k=>?_⟩;cases e;exact⟨_,R.self,k H os R.end⟩
def Tj(h:OS X C ℓ st f)(h2:B4 X C ℓ rest g):B4 X C ℓ (st::rest) (cu f g):=by
 obtain⟨t,p,q⟩:=h;obtain⟨t2,p2,q2⟩:=h2;refine⟨_,wq p p2,λH0 bO p D σ H os ρ fs ρ' bU R e k=>?_⟩;unfold cu at e;split at e
 ·rename_i bX dQ e1;exact q H0 bO p { D with nx:=t2 D } σ H os ρ fs _ R e1 λbR H' os' R'=>q2 H0 bO p D bR H' os' bX dQ ρ' bU R' e k
 ·rename_i hn;exact absurd e<|hn ρ' bU
def Tn:OS X C ℓ (.Pass pos) bO:=⟨_,MY,λ_ _ _ _ _ _ _ _ _ _ R q k=>by cases q;exact k _ _ _ R⟩
end
noncomputable def AA(f:Ro->Ob->Option (PyData×Ob)):Ro->Ob->Option (Bool×Ob):=λρ fs=>(f ρ fs).map λr=>(!isNone r.1,r.2)
section
variable{cp:Pos}{j:_}
def To{f:Ro->Ob->Option (PyData×Ob)}(h:GM X C ℓ e f)(hm:behindInMarks .IsNot (.Constant .none j cp)=false:=by rfl):iM X C ℓ (.Compare e [.IsNot] [.Constant .none j cp] pos) (AA f):=by
 obtain⟨t,p,q⟩:=h;refine⟨_,CW CV p FV hm,λH0 bO p σ H os ρ fs b bU Q R e k=>?_⟩;obtain⟨r,e1,e2⟩:=map_some e;cases e2;refine q H0 bO p σ H os ρ fs r.1 r.2 _ R e1 λv H' os' R' rv=>?_
 exact ZI v .non H' os' r.1 .none (.bool<|!isNone r.1) (λx H'=>∃k,x=V.bl k/\Q k H') R'.sr.rel.al (.inl rv) (.inl .non) rfl λv2 H2 s2 r2=>by
  cases r2;exact⟨_,rfl,k H2 os'<|R'.same s2⟩
end
def Tp(K:FRx)(C:AdX)(h:List PyData->Option Ob):Sp:=λvs H Q _=>∃os ds gs,Al H os/\bP K (bK H os) vs ds/\h ds=some gs/\
 ∀q H' os' B,Left H os [] H' os'->cE K H' os' (.ref q) (.ob C gs) B->B.Nodup->(∀a∈B,a∈os'/\H a=none)->Q (.ref q) H'
abbrev AB(P:Program)(w:World)(K:FRx)(mg:Str->Option Value)(base:Heap)(k:Nat)(C:AdX)(x:Str)(ps:LSr)(f:List PyData->Option Ob):Prop:=Def P w K mg base dO k x ps<|Tp K C f
noncomputable def B5(i:Nat)(f:Ro->Option Ob)(g:cx):Ro->Option Ob:=λρ=>(f ρ).bind λgs=>if i<ρ.length then (match g (ρ.set i .no) gs with |some (.nx _ fI)=>some fI|_=>none) else none
noncomputable def B6(n m:Nat)(b:Ro->Option Ob)(ds:LPd):Option Ob:=if ds.length=m then b (ds.map Sl.pu++List.replicate (n - m) .no) else none
section
def AB.mk{x y:Str}{st:Stmt}{N ps:LSr}{k m i:Nat}{e:Expr}{rest:List Stmt}{pos pos':Pos}{f:Ro->Option Ob}{g:cx}(h:HasDef K mg x st)(S:zx N ps (zf st))(hb:∀(kV doc pm:Value)(an:Option Addr)(b5 ct:Value)(us:LVl),us.length=ps.length->bindArgs (W.fnOf x x (jt st) (yN st) (zf st) .none kV doc pm an b5 ct) ⟨us,[]⟩=pure (ps.zip us))(hm:ps.length=m)(Tq:yN st=.Assign [.Name y pos'] e pos::rest)(hi:N[i]?=some y)(hx:Loc (zf st) y)(cv:∀{f':AdX} {b5:Value} {A:Around} {outer:List Env} {s:ShX} {H:Hp} {E:XK},bZ k (A.deeper<|envOfC x (zf st) s.heap.objs.size f' b5)->
   FN (Uh dO P w K mg base N x (zf st) f' b5 A outer s H E).nox C e f/\B4 (Uh dO P w K mg base N x (zf st) f' b5 A outer s H E).nox C i rest g/\swapsWith e (some<|.Name y pos') pos.line (Uh dO P w K mg base N x (zf st) f' b5 A outer s H E).env=pure false):AB P w K mg base (k+1) C x ps (B6 N.length m<|B5 i f g):=by
 refine Def.mk h S hb (λvs H Q E q=>?_) λf' b5 A outer s H vs Q E hr q=>?_
 ·obtain⟨os,ds,r,_,hr,e,_⟩:=q;unfold B6 at e;split at e
  ·rename_i hl;rw[hr.length,hl,hm]
  ·cases e
 ·obtain⟨⟨t,p,q1⟩,⟨t2,p2,q2⟩,cW⟩:=cv hr;obtain⟨os,ds,r,al,hr,e,kk⟩:=q;unfold B6 at e;split at e
  ·rename_i hl;have R:=J1 (N:=N) al hr m hl;rw[Tq];refine⟨_,wq (uq S.nd hi hx p cW<|.inl rfl) p2,?_⟩;obtain⟨gs,e1,e2⟩:=bind_some e;split at e2
   ·rename_i cC;split at e2
    ·rename_i ρ' fI e3;cases e2;refine q1 _ H os _ gs _ R.rel e1 λa H' os' B L o nd hB=>?_
     have rE:=(R.left L (λb hb=>by cases hb) λj c q m b hb=>by cases hb).zio i<|some<|.ref a;refine q2 H os a _ _ H' os' _ gs _ _ ⟨rE,kQ (by rw[R.rel.len];exact cC),B,o,nd,λb hb=>⟨(hB b hb).1,R.sm.free (hB b hb).2⟩,λj c q m b hb w=>?_⟩ e3 λH2 oq M=>?_
     ·rcases yy q with⟨_,_,z⟩|⟨hj,q⟩
      ·rw[<-z] at m;cases m
      ·rw[qL hj] at w;obtain⟨b',o',w1,w2,w3,_⟩:=R.rel.mu j c q m;rw[w] at w1;cases w1;rw[(hB b hb).2] at w3;cases w3
     ·obtain⟨A2,o2,Tr,Tt⟩:=M.ob;have on:∀b,bK H [] b=H b:=λb=>zA (by simp)
      exact kk a H2 oq A2 ⟨λb o z=>M.sm b o (by rwa[on] at z),M.al,λb hb=>.inr<|M.sub b hb,λb hb=>by rw[on];exact M.new b hb⟩ o2 Tr Tt
    ·cases e2
   ·cases e2
  ·cases e
end
section
variable{ga:bY}{f:Ro->Option Ob}
noncomputable def WE(h:List PyData->Option Ob)(ga:bY):Ro->Option Ob:=λρ=>(ga ρ).bind h
def ED{h:List PyData->Option Ob}(D:AB X.prog X.w X.K X.mg X.base k C x ps h)(hr:bZ k' X.A)(hg:Gl X x)(ha:FA X (e::es) ga)(hk:k<=k':=by decide)(c8:NDx x:=by decide)(he:cT X e es:=by rfl)(cJ:d9 X pos es:=by rfl):FN X C (.Call (.Name x p) (e::es) [] pos) (WE h ga):=by
 obtain⟨t,pa,qa⟩:=ha;refine⟨_,VT D hr hg Js pa hk c8 he cJ,λσ H os ρ gs Q R q kk=>?_⟩;obtain⟨ds,e1,e2⟩:=bind_some q;refine qa σ H os ρ ds _ R e1 λvs H' s rv=>?_
 rw[km];have on:∀(H:Hp) b,bK H [] b=H b:=λH b=>zA (by simp)
 refine⟨os,ds,gs,R.al.same s,rv,e2,λq H2 oq B L o nd hB=>kk q H2 oq B ⟨λb o z=>L.sm b o ?_,L.al,L.sub,λb hb=>?_⟩ o nd λa ha=>⟨(hB a ha).1,s.free (hB a ha).2⟩⟩
 ·rw[on] at z ⊢;exact s b o z
 ·rcases L.new b hb with w|w
  ·exact .inl w
  ·rw[on] at w ⊢;exact .inr<|s.free w
def AD(y:Str)(C2:AdX)(f:Ro->Option Ob):Ro->Option Ob:=λρ=>(f ρ).bind λgs=>match fld y gs with |some (.ob C' hs)=>if C'=C2 then some hs else none|_=>none
def Tu(cl:cV X.K C)(na:yM X.K C y)(h:FN X C e f)(hb:attributeBase e y X.env (eval e X.env)=eval e X.env:=by rfl):FN X C2 (.Attribute e y pos) (AD y C2 f):=by
 obtain⟨t,pe,q⟩:=h;refine⟨_,va pe hb,λσ H os ρ gs Q R e k=>?_⟩;obtain⟨hs,e1,e2⟩:=bind_some e;split at e2
 ·rename_i C' is ef;split at e2
  ·rename_i hC;subst hC;cases e2;refine q σ H os ρ hs _ R e1 λa H' os' B L o nd hB=>?_
   cases o with
   |ob hp r=>
    obtain⟨v,D,l,o2,Ax,hD⟩:=r.zfC (kv.mp nd).2 ef;cases o2 with
    |ob sy r2=>exact⟨_,_,_,_,_,rfl,hp,cl,na,l,k _ H' os' _ L (.ob sy r2) Ax λb hb=>hB b<|.tail _<|hD b hb⟩
  ·cases e2
 ·cases e2
def AE(y:Str)(f:Ro->Option Ob):RPx:=λρ=>(f ρ).bind λgs=>match fld y gs with |some (.ow ds)=>some (.list ds)|_=>none
def Kz(cl:cV X.K C)(na:yM X.K C y)(h:FN X C e f)(hb:attributeBase e y X.env (eval e X.env)=eval e X.env:=by rfl):FE X (.Attribute e y pos) (AE y f):=by
 obtain⟨t,pe,q⟩:=h;refine⟨_,va pe hb,λσ H os ρ d Q R e k=>?_⟩;obtain⟨hs,e1,e2⟩:=bind_some e;split at e2
 ·rename_i ds ef;cases e2;refine q σ H os ρ hs _ R e1 λa H' os' B L o nd hB=>?_
  cases o with
  |ob hp r=>
   obtain⟨v,D,l,o2,hD⟩:=r.look ef;cases o2 with
   | @ow a2 Kl _ ha rv=>
    have on:∀b,bK H [] b=H b:=λb=>zA (by simp)
    have sm:bJ H H':=λb o z=>L.sm b o (by rw[on];exact z)
    have n2:a2∉os:=R.al.new<|(hB a2<|.tail _<|hD a2<|.head _).2;have sub:bJ (bK H' os') (bK H' os):=xa λb hb=>by
     rcases L.sub b hb with w|w
     ·cases w
     ·exact w
    exact⟨_,_,_,_,_,rfl,hp,cl,na,l,k _ H' sm<|.lst (cm.of<|by rw[zA n2];exact ha)<|rv.same sub⟩
 ·cases e2
end
noncomputable def intsOf:List PyData->Option (List Int)
 |[]=>some []
 | .int i::r=>(intsOf r).map (i::·)
 |_=>none
theorem KA{K:FRx}{G:Hp}:∀{ds:LPd} {xs:List V} {ns:List Int},bP K G xs ds->intsOf ds=some ns->xs=ns.map V.int
 |[],xs,ns,r,h=>by cases r;cases h;rfl
 | .int i::ds,xs,ns,r,h=>by
  cases r with
  |cons a b=>
   obtain⟨Ap,e1,e2⟩:=map_some h;subst e2;cases a;rw[KA b e1];rfl
theorem VG{K:FRx}{G:Hp}:∀ns:List Int,bP K G (ns.map V.int)<|ns.map PyData.int
 |[]=>.nil
 |_::l=>.cons (.int _)<|VG l
def ix(f:cc):OLx:=λρ fs=>match f ρ fs with
 |some (.list ds)=>(intsOf ds).bind λns=>if ns.length<64 then some ((dD ns).map PyData.int) else none
 |_=>none
section
variable{f:cc}
def Tv(hg:Gl X "sorted")(hm:X.mg "sorted"=none)(ha:GB X C ℓ e f)(he:cT X e []:=by rfl)(cJ:(backTo pos<|starEach [] X.env).any (·.1)=false:=by rfl):GL X C ℓ (.Call (.Name "sorted" p) [e] [] pos) (ix f):=by
 obtain⟨t,pa,qa⟩:=ha;refine⟨_,U0 So hg hm Sn (yQ pa xW he) (by decide) (by decide) he cJ,λσ H os ρ fs c Q R q k=>?_⟩;unfold ix at q;split at q
 ·rename_i ds e1;obtain⟨ns,e2,q⟩:=bind_some q;split at q
  ·rename_i hl;cases q;refine qa σ H os ρ fs _ _ R e1 λv H1 s1 r1=>?_
   obtain⟨a,xs,rfl,hS,r⟩:=r1.lst;have ex:=KA r e2;subst ex;exact⟨a,ns,rfl,hS,hl,λq hq=>k q _ _ (s1.free hq) (s1.trans<|yb hq _) zL<|j8 hq<|VG _⟩
  ·cases q
 ·cases q
end
noncomputable def B7(f:bY)(g:cc):OLx:=λρ fs=>(f ρ).bind λx=>match g ρ fs with
 |some (.int k)=>if -(2 ^ 63)<=k/\k<2 ^ 63/\x.length*k.toNat<=16777216 then some (List.replicate k.toNat x).flatten else none
 |_=>none
section
variable{a b:Expr}
def Tw{f:bY}{g:cc}(ha:FK X a f)(hb:GE X C ℓ b g):GL X C ℓ (.BinOp a .Mult b pos) (B7 f g):=by
 obtain⟨ta,pa,qa⟩:=ha;obtain⟨tb,pb,qb⟩:=hb;refine⟨_,rM GW pa pb,λσ H os ρ fs c Q R q k=>?_⟩;obtain⟨x,e1,q⟩:=bind_some q;split at q
 ·rename_i n e2;split at q
  ·rename_i hl;cases q;refine qa σ H os ρ x _ R.rel e1 λa xs H1 s1 h1 r1=>qb σ H1 os ρ fs _ _ (R.same s1) e2 λv H2 s2 r2=>?_
   cases r2;have l1:=r1.length;refine⟨a,n,xs,rfl,rfl,s2 _ _ h1,hl.1,hl.2.1,by rw[l1];exact hl.2.2,λp hp=>?_⟩;exact k p _ _ (s1.free<|s2.free hp) ((s1.trans s2).trans<|yb hp _) zL<|j8 hp<|UZ (r1.same<|zq s2 os) _
  ·cases q
 ·cases q
end
def KC(X:Cx)(C:AdX)(ℓ:Nat)(tg iter:Expr)(f:Ob->Option (List PyData)):Prop:=∃wi:TI,PI X tg iter wi/\∀(σ:St)(H:Hp)(os:LAd)(p:AdX)(A:LAd)(fs:Ob)(ds:LPd)(R:It->Hp->Prop),σ[ℓ]?=some (some<|.ref p)->cE X.K H os (.ref p) (.ob C fs) A->f fs=some ds->
  (∀J,Walks X.K (λb=>if b∈A then H b else none) (bK H os) J ds->R J H)->wi σ H R
def AF(x y:Str):Ob->Option (List PyData):=λfs=>match fld x fs,fld y fs with
 |some (.ow xs),some (.ow ys)=>some<|Ju xs ys
 |_,_=>none
def KD(i:Nat)(gi g:cc):Ro->Ob->Option Ro:=λρ fs=>(gk i ρ).bind λds=>(g ρ fs).bind λd=>match gi ρ fs with
 |some (.int k)=>(dZ ds.length k).bind λj=>some<|ρ.set i<|.ow<|ds.set j d
 |_=>none
section
variable{a b:Expr}
def Tx{f1 f2:Str}{q1 q2 iy eO:Pos}(cl:cV X.K C)(Tz:yM X.K C f1)(TB:yM X.K C f2)(hg:Gl X "zip")(hm:X.mg "zip"=none)(hN:X.N[ℓ]?=some x:=by rfl)(hv:cY X.env.scope x:=by trivial)(hd:NDx x:=by decide)(b6:NCx x:=by decide)(AG:d4 X (.Name x q1) f1:=by rfl)(sP:d4 X (.Name x q2) f2:=by rfl)(hs:starEach [.Attribute (.Name x q1) f1 iy,.Attribute (.Name x q2) f2 eO] X.env=[(false,eval (.Attribute (.Name x q1) f1 iy) X.env),(false,eval (.Attribute (.Name x q2) f2 eO) X.env)]:=by rfl)(dS:starEach [.Attribute (.Name x q2) f2 eO] X.env=[(false,eval (.Attribute (.Name x q2) f2 eO) X.env)]:=by rfl)(TC:starEach [.Attribute (.Name x q1) f1 iy,.Attribute (.Name x q2) f2 eO] X.env=(false,eval (.Attribute (.Name x q1) f1 iy) X.env)::starEach [.Attribute (.Name x q2) f2 eO] X.env:=by rfl)(TF:starEach [.Attribute (.Name x q2) f2 eO] X.env=(false,eval (.Attribute (.Name x q2) f2 eO) X.env)::starEach [] X.env:=by rfl):KC X C ℓ (.Tuple tes kk tp) (.Call (.Name "zip" p) [.Attribute (.Name x q1) f1 iy,.Attribute (.Name x q2) f2 eO] [] pos) (AF f1 f2):=by
 refine⟨_,DA false false hg hm (yQ (va (yA (i:=ℓ) hN hv hd b6) AG) (yQ (va (yA (i:=ℓ) hN hv hd b6) sP) xW TF) TC) hs dS,λσ H os p A fs ds R h1 h2 e k=>?_⟩;unfold AF at e;split at e
 ·rename_i xs ys ex ey;cases e;cases h2 with
  |ob hp r=>
   obtain⟨v,B,l,o,hB⟩:=r.look ex;obtain⟨v',B',l',o',eD⟩:=r.look ey;cases o with
   |ow ha rv=>
    cases o' with
    |ow KG TH=>
     refine⟨_,h1,_,_,_,_,_,rfl,hp,cl,Tz,l,_,h1,_,_,_,_,_,rfl,hp,cl,TB,l',_,_,rfl,⟨_,cm.of ha⟩,⟨_,cm.of KG⟩,k _ ?_⟩;refine V6 (cm.of ?_) (cm.of ?_) rv TH
     ·rw[qj<|.tail _<|hB _<|.head _];exact ha
     ·rw[qj<|.tail _<|eD _<|.head _];exact KG
 ·cases e
end
structure dE(K:FRx)(C:AdX)(ℓ:Nat)(H0:Hp)(bO:LAd)(p:AdX)(A:LAd)(fs:Ob)(H:Hp)(os:LAd)(σ:St)(ρ:Ro):Prop where
 sr:cH K H0 bO H os σ ρ
 self:σ[ℓ]?=some (some<|.ref p)
 ob:cE K H0 bO (.ref p) (.ob C fs) A
 oA:∀a∈A,a∈bO
 gs:bJ (bK H0 bO) (bK H os)
def AH(K:FRx)(C:AdX)(ℓ:Nat)(H0:Hp)(bO:LAd)(p:AdX)(A:LAd)(fs:Ob)(G:Hp)(D:Ends):Fl->Prop
 | .nx ρ'=>∀bR H' os',dE K C ℓ H0 bO p A fs H' os' bR ρ'->bJ G (bK H' os')->D.nx bR H'
 | .rt d=>∀v H',bJ H0 H'->Rep K (bK H' bO) v d->D.rt v H'
 | .rl ds=>∀a xs H',H0 a=none->bJ H0 H'->H' a=some (.lst xs)->bP K (bK H'<|a::bO) xs ds->D.rt (.ref a) H'
def AH.mono{bO:LAd}{p:AdX}{A:LAd}{fs:Ob}{D:Ends}{r:Fl}(k:AH K C ℓ H0 bO p A fs G D r)(s:bJ G G'):AH K C ℓ H0 bO p A fs G' D r:=by
 cases r with
 |nx ρ=>exact λbR H' os' R z=>k bR H' os' R<|s.trans z
 |rt d=>exact k
 |rl d=>exact k
def sQ(X:Cx)(C:AdX)(ℓ:Nat)(st:Stmt)(f:Ro->Ob->Option Fl):Prop:=∃t:TS,PS X st t/\∀(H0:Hp)(bO:LAd)(p:AdX)(A:LAd)(D:Ends)(σ:St)(H:Hp)(os:LAd)(ρ:Ro)(fs:Ob)(r:Fl),dE X.K C ℓ H0 bO p A fs H os σ ρ->f ρ fs=some r->AH X.K C ℓ H0 bO p A fs (bK H os) D r->t D σ H
def AI(X:Cx)(C:AdX)(ℓ:Nat)(iI:List Stmt)(f:Ro->Ob->Option Fl):Prop:=∃t:TS,eQ X iI t/\∀(H0:Hp)(bO:LAd)(p:AdX)(A:LAd)(D:Ends)(σ:St)(H:Hp)(os:LAd)(ρ:Ro)(fs:Ob)(r:Fl),dE X.K C ℓ H0 bO p A fs H os σ ρ->f ρ fs=some r->AH X.K C ℓ H0 bO p A fs (bK H os) D r->t D σ H
section
variable{bO:LAd}{p:AdX}{A:LAd}{fs:Ob}
def dE.stay(h:dE K C ℓ H0 bO p A fs H os σ ρ):∀a∈A,H a=H0 a:=λa ha=>by
 obtain⟨o,q⟩:=h.ob.has a ha;rw[q];exact h.sr.sm a o q
def dE.obH(h:dE K C ℓ H0 bO p A fs H os σ ρ):cE K H os (.ref p) (.ob C fs) A:=h.ob.keep h.gs h.stay
def dE.uu(h:dE K C ℓ H0 bO p A fs H os σ ρ):vO K C ℓ H os σ ρ fs:=⟨h.sr.rel,p,A,h.self,h.obH,λa ha=>h.sr.sub a<|h.oA a ha⟩
def dE.same(h:dE K C ℓ H0 bO p A fs H os σ ρ)(e:bJ H H'):dE K C ℓ H0 bO p A fs H' os σ ρ:=⟨h.sr.same e,h.self,h.ob,h.oA,h.gs.trans<|zq e os⟩
def dE.set(h:dE K C ℓ H0 bO p A fs H os σ ρ)(hi:i≠ℓ)(r:Rep K (bK H os) v d):dE K C ℓ H0 bO p A fs H os (σ.set i<|some v) (ρ.set i<|.pu d):=⟨h.sr.set r,by rw[qL hi];exact h.self,h.ob,h.oA,h.gs⟩
def dE.W6(h:dE K C ℓ H0 bO p A fs H os σ ρ)(hi:i≠ℓ)(n:H a=none)(s:bJ H H')(hx:H' a=some (.lst xs))(r:bP K (bK H'<|a::os) xs ds):dE K C ℓ H0 bO p A fs H' (a::os) (σ.set i<|some<|.ref a) (ρ.set i<|.ow ds):=⟨h.sr.W6 n s hx r,by rw[qL hi];exact h.self,h.ob,h.oA,h.gs.trans<|jA n s⟩
def dE.chg(h:dE K C ℓ H0 bO p A fs H os σ ρ){es:LPd}(q:ρ[i]?=some (.ow ds))(e:σ[i]?=some (some<|.ref a))(r:bP K (bK H os) ys es):dE K C ℓ H0 bO p A fs (upd H a<|.lst ys) os σ (ρ.set i<|.ow es):=by
 obtain⟨a',xs,e',ha,hx,_⟩:=h.sr.rel.ow i ds q;rw[e] at e';cases e';exact⟨h.sr.chg q e r,h.self,h.ob,h.oA,by rw[yR ha];exact h.gs⟩
def dE.sets(s:Sets K (bK H os) is σ ρ bR ρ')(hi:∀i∈is,i≠ℓ)(h:dE K C ℓ H0 bO p A fs H os σ ρ):dE K C ℓ H0 bO p A fs H os bR ρ':=by
 induction s with
 |nil=>exact h
 |set r _ ih=>exact ih (λi hm=>hi i<|.tail _ hm) (h.set (hi _<|.head _) r)
end
section
variable{st:Stmt}{f g:Ro->Ob->Option Fl}{a b:Expr}
noncomputable def ou(f g:Ro->Ob->Option Fl):Ro->Ob->Option Fl:=λρ fs=>match f ρ fs with |some (.nx ρ')=>g ρ' fs|r=>r
def KH(h:sQ X C ℓ st f):AI X C ℓ [st] f:=by
 obtain⟨t,p,q⟩:=h;exact⟨t,CK p,q⟩
def YW(h:sQ X C ℓ st f)(h2:AI X C ℓ rest g):AI X C ℓ (st::rest) (ou f g):=by
 obtain⟨t,p,q⟩:=h;obtain⟨t2,p2,q2⟩:=h2;refine⟨_,wq p p2,λH0 bO p A D σ H os ρ fs r R e k=>?_⟩;unfold ou at e;split at e
 ·rename_i ρ' e1;exact q H0 bO p A { D with nx:=t2 D } σ H os ρ fs _ R e1 λbR H' os' R' s=>q2 H0 bO p A D bR H' os' ρ' fs r R' e<|k.mono s
 ·cases r with
  |nx ρ'=>rename_i hn;exact absurd e<|hn ρ'
  |rt d=>exact q H0 bO p A { D with nx:=t2 D } σ H os ρ fs _ R e k
  |rl d=>exact q H0 bO p A { D with nx:=t2 D } σ H os ρ fs _ R e k
noncomputable def B8(i:Nat)(f:OLx):Ro->Ob->Option Fl:=λρ fs=>(f ρ fs).bind λd=>some<|.nx<|ρ.set i<|.ow d
def TJ(i:Nat){f:OLx}(hN:X.N.Nodup)(he:GL X C ℓ e f)(h0:i≠ℓ:=by decide)(hi:X.N[i]?=some x:=by rfl)(hx:Loc X.env.scope x:=by trivial)(hs:swapsWith e (some<|.Name x pos') pos.line X.env=pure false:=by rfl)(hf:fA X x:=by trivial):sQ X C ℓ (.Assign [.Name x pos'] e pos) (B8 i f):=by
 obtain⟨t,p,q⟩:=he;refine⟨_,uq hN hi hx p hs hf,λH0 bO p A D σ H os ρ fs r R e k=>?_⟩;obtain⟨d,e1,e2⟩:=bind_some e;cases e2;exact q σ H os ρ fs d _ R.uu e1 λa xs H' n s hx rv=>k _ _ _ (R.W6 h0 n s hx rv)<|jA n s
def sR(i:Nat)(gi g:cc):Ro->Ob->Option Fl:=λρ fs=>(KD i gi g ρ fs).bind λρ'=>some<|.nx ρ'
def KJ(i:Nat){x:Str}{ie:Expr}{gi g:cc}{c7:Pos}(hi:GE X C ℓ ie gi)(he:GE X C ℓ e g)(hN:X.N[i]?=some x:=by rfl)(hv:cY X.env.scope x:=by trivial)(hd:NDx x:=by decide)(b6:NCx x:=by decide)(ha:∀v,assign (.Subscript (.Name x p1) ie c7) X.env v=(do
   let ov <-holding [v] (eval (.Name x p1) X.env)
   let iv <-holding [v,ov] (eval ie X.env)
   standAt c7
   holding [v,ov,iv] (setItem ov iv v)
   release [v,ov,iv] []):=by intro _;rfl)(hs:swapsWithSole [.Subscript (.Name x p1) ie c7] e pos.line X.env=pure false:=by rfl)(hw:swappedStores [.Subscript (.Name x p1) ie c7] e X.env=pure none:=by rfl)(h1:(assignEach [.Subscript (.Name x p1) ie c7] X.env).map (·.2)=[assign (.Subscript (.Name x p1) ie c7) X.env]:=by rfl):sQ X C ℓ (.Assign [.Subscript (.Name x p1) ie c7] e pos) (sR i gi g):=by
 obtain⟨t,p,q⟩:=he;obtain⟨ti,pi,qi⟩:=hi;refine⟨_,F5 p (F3 (yA hN hv hd b6) pi set_list ha) hs hw h1,λH0 bO p A D σ H os ρ fs r R e k=>?_⟩;obtain⟨ρ2,e',er⟩:=bind_some e;cases er;clear e;obtain⟨ds,e1,e⟩:=bind_some e';obtain⟨d,e2,e⟩:=bind_some e;split at e
 ·rename_i n e3;obtain⟨j,e4,e⟩:=bind_some e;cases e;have g:=ub e1;obtain⟨a,xs,h1,h2,h3,h4⟩:=R.sr.rel.ow i ds g;refine q σ H os ρ fs d _ R.uu e2 λv H' s rv=>⟨_,h1,qi σ H' os ρ fs _ _ (R.uu.same s) e3 λu H2 s2 ru=>?_⟩
  cases ru;have s3:=s.trans s2;refine⟨a,xs,n,j,rfl,rfl,s3 _ _ h3,by rw[h4.length];exact e4,?_⟩;exact k _ _ os ((R.same s3).chg g h1<|Zi (rv.same<|zq s2 os) j<|h4.same<|zq s3 os) (by rw[yR h2];exact zq s3 os)
 ·cases e
def TK(i:Nat)(hN:X.N[i]?=some x:=by rfl)(hv:cY X.env.scope x:=by trivial)(hd:NDx x:=by decide)(b6:NCx x:=by decide):sQ X C ℓ (.Return (some<|.Name x p1) pos) (λρ _=>Ui (gk i) ρ):=by
 refine⟨_,UY<|yA hN hv hd b6,λH0 bO p A D σ H os ρ fs r R e k=>?_⟩;obtain⟨ds,e1,e2⟩:=bind_some e;cases e2;have q:=ub e1;obtain⟨a,xs,e,ha,hx,r⟩:=R.sr.rel.ow i ds q;refine⟨_,e,k a xs H (R.sr.own i _ q rfl a e) R.sr.sm hx<|r.same<|xa λb hb=>?_⟩;rcases qy.mp hb with z|z
 ·exact z▸ha
 ·exact R.sr.sub b z
noncomputable def rF(bd:PyData->Ro->Option Ro)(b:Ro->Ob->Option Fl)(fs:Ob):List PyData->Ro->Option Ro
 |[],ρ=>some ρ
 |d::ds,ρ=>(bd d ρ).bind λbX=>match b bX fs with |some (.nx ρ2)=>rF bd b fs ds ρ2|_=>none
def B9(fi:Ob->Option (List PyData))(bd:PyData->Ro->Option Ro)(b:Ro->Ob->Option Fl):Ro->Ob->Option Fl:=λρ fs=>(fi fs).bind λds=>(rF bd b fs ds ρ).bind λρ'=>some<|.nx ρ'
def TL{iI:List Stmt}{fi:Ob->Option (List PyData)}{bd:PyData->Ro->Option Ro}{fb:Ro->Ob->Option Fl}(hp:PassesOwn (model X.prog X.w) X.A X.env X.xe)(hc:X.calm=true)(hi:KC X C ℓ tg iter fi)(hg:FG X tg is bd)(hb:AI X C ℓ iI fb)(dC:∀i∈is,i≠ℓ:=by decide)(hs:ee X iter:=by exact λ_=>rfl):sQ X C ℓ (.For tg iter iI [] pos) (B9 fi bd fb):=by
 obtain⟨wi,pi,qi⟩:=hi;obtain⟨tb,pb,qb⟩:=hb;refine⟨_,CO hp hc pi hg pb hs,λH0 bO p A D σ H os ρ fs r R e k=>?_⟩;obtain⟨ds,e1,e2⟩:=bind_some e;obtain⟨KN,e6,e3⟩:=bind_some e2;cases e3;refine qi σ H os p A fs ds _ R.self R.obH e1 λJ W=>?_
 refine⟨λi m bR H'=>m=ds.length - i/\i<=ds.length/\∃os' ρ',dE X.K C ℓ H0 bO p A fs H' os' bR ρ'/\bJ (bK H os) (bK H' os')/\rF bd fb fs (ds.drop i) ρ'=some KN,
  ⟨ds.length,rfl,kx _,os,ρ,R,bJ.refl _,e6⟩,?_⟩
 rintro i m bR H' ⟨rfl,hi,os',ρ',R',fE,e'⟩;obtain⟨w1,w2⟩:=W H' os' R'.sr.rel.al (λb o q=>by
  dsimp only at q;split at q
  ·rename_i hb;rw[R'.stay b hb,<-R.stay b hb];exact q
  ·cases q) fE
 by_cases cC:i<ds.length
 ·obtain⟨d,hd⟩:∃d,ds[i]?=some d:=⟨_,qk cC⟩;obtain⟨g1,g2⟩:=w1 i d hd;have ed:ds.drop i=d::ds.drop (i+1):=by
   rw[gT cC];rw[qk cC] at hd;cases hd;rfl
  rw[ed] at e';obtain⟨bX,e3,e4⟩:=bind_some e';split at e4
  ·rename_i ρ2 e5;refine .inr ⟨g1,λcq H2=>i+1<=ds.length/\∃os' ρ',dE X.K C ℓ H0 bO p A fs H2 os' cq ρ'/\bJ (bK H os) (bK H2 os')/\rF bd fb fs (ds.drop<|i+1) ρ'=some KN,?_,?_⟩
   ·rintro cq H2 ⟨h1,h2⟩;exact⟨ds.length - (i+1),by omega,rfl,h1,h2⟩
   ·intro x H2 hy;obtain⟨s2,rx⟩:=g2 x H2 hy;refine⟨os',d,ρ',bX,rx,e3,λcq st=>?_⟩;have R2:dE X.K C ℓ H0 bO p A fs H2 os' cq bX:=dE.sets st dC<|R'.same s2;exact qb H0 bO p A _ cq H2 os' bX fs _ R2 e5 λeH H3 i4 R3 s4=>⟨cC,i4,ρ2,R3,(fE.trans<|zq s2 os').trans s4,e4⟩
  ·cases e4
 ·have e:i=ds.length:=by omega
  subst e;rw[mX] at e';cases e';exact .inl ⟨w2,k _ _ _ R' fE⟩
end
def TM(K:FRx)(C:AdX)(h:Ob->List PyData->Option PyData):Sp:=λvs H Q _=>∃p us os ds fs d A,vs=.ref p::us/\cE K H os (.ref p) (.ob C fs) A/\(∀a∈A,a∈os)/\Al H os/\bP K (bK H os) us ds/\h fs ds=some d/\
 ∀v H',bJ H H'->Rep K (bK H' os) v d->Q v H'
noncomputable def sS(n m:Nat)(b:Ro->Ob->Option Fl)(fs:Ob)(ds:LPd):Option PyData:=if ds.length=m then (match b (.no::(ds.map Sl.pu++List.replicate (n - (m+1)) .no)) fs with
  |some (.rt d)=>some d
  |some (.rl es)=>some (.list es)
  |_=>none) else none
def AJ(P:Program)(w:World)(K:FRx)(mg:Str->Option Value)(base:Heap)(k:Nat)(C:AdX)(m:Str)(ps:LSr)(h:Ob->List PyData->Option PyData):Prop:=∃f fd,wu P w K mg base dO k f fd ps (TM K C h)/\Binds K fd ps []/\Meth K C m f
section
def TN{N:LSr}{p:AdX}{us:List V}{fs:Ob}{A:LAd}(al:Al H os)(r:bP K (bK H os) us ds)(o:cE K H os (.ref p) (.ob C fs) A)(hA:∀a∈A,a∈os)(m:Nat)(hm:ds.length=m)(hN:m<N.length):dE K C 0 H os p A fs H os (start N<|.ref p::us) (.no::(ds.map Sl.pu++List.replicate (N.length - (m+1)) .no)):=by
 have hl:=r.length;have no:∀(i:Nat)(c:Sl),(Sl.no::(ds.map Sl.pu++List.replicate (N.length - (m+1)) .no))[i]?=some c->isM c=true->False:=λi c q m=>by
  cases i with
  |zero=>cases q;cases m
  |succ i=>
   rw[k9] at q;by_cases hi:i<ds.length
   ·rw[qQ (by simpa using hi),qp] at q;obtain⟨d,_,e2⟩:=map_some q;subst e2;cases m
   ·rw[qF (by simpa using kz hi),kK] at q;split at q
    ·cases q;cases m
    ·cases q
 refine⟨⟨⟨λi d q=>?_,λi c q m=>(no i c q m).elim,al,?_⟩,bJ.refl H,λa h=>h,λa h=>.inl h,al,λi c q m=>(no i c q m).elim,λi j c c' _ q _ m=>(no i c q m).elim⟩,rfl,o,hA,bJ.refl _⟩
 ·cases i with
  |zero=>cases q
  |succ i=>
   rw[k9] at q;unfold start;by_cases hi:i<ds.length
   ·rw[qQ (by simpa using hi),qp] at q;obtain⟨c,e1,e2⟩:=map_some q;cases e2;obtain⟨v,e3,e4⟩:=r.getD e1;refine⟨v,?_,e4⟩;rw[qQ (by rw[qf,ke,hl];omega),qp,k9,e3];rfl
   ·rw[qF (by simpa using kz hi),kK] at q;split at q<;>cases q
 ·unfold start;simp[hl,hm]
def AJ.mk{x qual:Str}{st:Stmt}{N ps:LSr}{k m:Nat}{b:Ro->Ob->Option Fl}(h:vU K C x qual st)(S:zx N ps (zf st))(hb:∀(kV doc pm:Value)(an:Option Addr)(b5 ct:Value)(us:LVl),us.length=ps.length->bindArgs (W.fnOf x qual (jt st) (yN st) (zf st) .none kV doc pm an b5 ct) ⟨us,[]⟩=pure (ps.zip us))(hm:ps.length=m+1)(hN:m<N.length)(cv:∀{f:AdX} {b5:Value} {A:Around} {outer:List Env} {s:ShX} {H:Hp} {E:XK},bZ k (A.deeper<|envOfC qual (zf st) s.heap.objs.size f b5)->
   AI (Uh dO P w K mg base N qual (zf st) f b5 A outer s H E).nox C 0 (yN st) b):AJ P w K mg base (k+1) C x ps (sS N.length m b):=by
 obtain⟨f,fd,F,M⟩:=h;refine⟨f,fd,F.ok S (λvs H Q E q=>?_) λb5 A outer s H vs Q E hr q=>?_,F.binds hb,M⟩
 ·obtain⟨p,us,os,ds,fs,d,A,rfl,_,_,_,r,e,_⟩:=q;unfold sS at e;split at e
  ·rename_i hl;rw[ke,r.length,hl,hm]
  ·cases e
 ·obtain⟨t,pp,q'⟩:=cv hr;obtain⟨p,us,os,ds,fs,d,A,rfl,o,hA,al,r,e,kk⟩:=q;unfold sS at e;split at e
  ·rename_i hl;refine⟨t,pp,?_⟩;have R:=TN (N:=N) al r o hA m hl hN;split at e
   ·rename_i d' e1;cases e;exact q' _ _ _ _ _ _ H os _ _ _ R e1 λv H' s rv=>kk v H' s rv
   ·rename_i es e1;cases e;refine q' _ _ _ _ _ _ H os _ _ _ R e1 λa xs H' n s hx r=>kk _ H' s<|.lst (cm.of ?_)<|r.same<|xa λb hb=>qA _ hb
    rw[zA<|al.new n];exact hx
   ·cases e
  ·cases e
end
section
variable{g:OLx}{m:Str}
def sT(m:Str)(h:Ob->List PyData->Option PyData)(g:OLx):cc:=λρ fs=>if (fld m fs).isNone=true then (g ρ fs).bind λds=>h fs ds else none
def TQ{pl:Sem Bool}{h:Ob->List PyData->Option PyData}(cl:cV X.K C)(M:AJ X.prog X.w X.K X.mg X.base k C m ps h)(hr:bZ k' X.A)(ha:As X C j (e::es) g)(hk:k<=k':=by decide)(hN:X.N[j]?=some x:=by rfl)(hv:cY X.env.scope x:=by trivial)(hd:NDx x:=by decide)(b6:NCx x:=by decide)(hst:cT X e es:=by rfl)(cJ:d9 X pos es:=by rfl)(ht:eval (.Call (.Attribute (.Name x p0) m apos) (e::es) [] pos) X.env=(do
   let ov <-eval (.Name x p0) X.env
   standAt apos.atName
   let (f,first) <-holding [ov] (getMethod ov m pl)
   callWith pos f first (backTo pos<|starEach (e::es) X.env) (backToKw pos<|keywordEach [] X.env)):=by rfl):GJ X C j (.Call (.Attribute (.Name x p0) m apos) (e::es) [] pos) (sT m h g):=by
 obtain⟨fa,fd,F,B,mm⟩:=M;obtain⟨t,pa,qa⟩:=ha;refine⟨_,C3 (pl:=pl) (yA (i:=j) hN hv hd b6) cl mm F (hr.mono hk) B .nil Js pa hst cJ ht,λσ H os ρ fs p A d Q R sj o oA e kk=>?_⟩;unfold sT at e;split at e
 ·rename_i hm;obtain⟨ds,e1,e2⟩:=bind_some e;have o0:=o;cases o with
  |ob hp rr=>
   refine⟨_,sj,p,_,_,rfl,hp,rr.nolook<|gS.mp hm,qa σ H os ρ fs p _ ds _ R sj o0 oA e1 λus H1 s1 ru=>?_⟩;rw[km];exact⟨p,us,os,ds,fs,d,_,rfl,o0.same s1,oA,R.al.same s1,ru,e2,λv H' s rv=>kk v H' (s1.trans s) rv⟩
 ·cases e
end
section
variable{fi:OLx}{b:PyData->Ro->Option Ro}
def TR(j:Nat){fe:cc}(hc:X.calm=true)(hi:rn X C ℓ tg iter fi)(S:yn X scope)(hF:eh X F scope)(hj:F[j]?=some ℓ)(hg:∀cl C ex s H,FG (c9 X Ts F scope cl C ex s H) tg is b)(he:∀{cl C' ex s H},GJ (c9 X Ts F scope cl C' ex s H) C (Ts.length+j) elt fe)(dC:∀i∈is,i<Ts.length:=by decide)(hs:ee X iter:=by exact λ_=>rfl):GL X C ℓ (.ListComp elt [⟨tg,iter,[],0⟩] scope pos) (UL Ts.length F fi b fe):=by
 obtain⟨wi,pi,qi⟩:=hi;refine⟨_,OT (Ts:=Ts) (F:=F) (g:=gF X.K is b) (te:=tJ X.K C (Ts.length+j) fe) hc pi S hF hg (λ_ _ _ _ _=>he.pe) hs,λσ H os ρ fs rs Q R q k=>?_⟩;obtain⟨es,e1,q⟩:=bind_some q;split at q
 ·rename_i hl;refine qi σ H os ρ fs es _ R e1 λJ H' s W D hD=>?_
  obtain⟨p,A,h0,h1,h3⟩:=R.ob;exact YH dC (R.rel.same s) (by rw[hj];show(σ[ℓ]?).join=_;rw[h0];rfl) (h1.same s) h3 hl hD W q λH2 xs s2 hx r=>k D xs H2 (s.free hD) (s.trans s2) hx r
 ·cases q
end
end L2.Fu
variable{ga:L2.Fu.OLx}{bU gs fI:L2.Fu.Ob}
namespace L2
open PySem PySem.Spec PyProof.Rows
def WY{x0:Str}(tV:X.env.scope=sc)(kind:scope.kind=.function)(is:scope.names.lookup x0=some .cell)(only:∀y∈scope.names,y.2=.cell->y.1=x0)(cf:∀(n:Nat)(acc:LSA),cellsFrom n scope.names acc=(x0,n)::acc)(pc:∀h:Heap,pushCells h scope.names=h.push { cls:=.type "cell",data:=.cell none })(loc:∀y∈scope.names,y.2=.local->scope.names.lookup y.1=some .local)(free:∀y∈scope.names,y.2=.free->sc.names.lookup y.1=some .cell\/sc.names.lookup y.1=some .free):xo X scope (some x0):=⟨kind,λx h=>kj h▸is,λy hy h=>qM some (only y hy h).symm,λn acc=>cf (n+1) acc,pc,loc,λy hy hf=>by
  show X.env.scope.names.lookup y.1=_\/X.env.scope.names.lookup y.1=_
  rw[tV];exact free y hy hf⟩
end L2
namespace L2.Fu
open PySem PySem.Spec PyProof.Rows
def cX(i:Nat)(hN:decide (Ts++F.map λj=>X.N.getD j "").Nodup=true:=by rfl)(hi:(Ts++F.map λj=>X.N.getD j "")[i]?=some x:=by rfl)(hx:∀cl C,Loc (compEnvC scope cl C X.env).scope x:=by exact λ_ _=>Or.inl rfl)(hf:∀cl C,(compEnvC scope cl C X.env).scope.names.lookup x=some .local:=by exact λ_ _=>rfl)(cl C ex s H):FG (c9 X Ts F scope cl C ex s H) (.Name x pos) [i] (bN i):=zP i (nG hN) hi (hx _ C)<|.inr<|hf _ C
abbrev UM(n:Nat)(p:Value->Value->Value->Option Addr->Value->Value->List Value->Prop):Prop:=∀a b c d e f us,us.length=n->p a b c d e f us
section
variable{p:Value->Value->Value->Option Addr->Value->Value->List Value->Prop}
def eY(h:∀a b c d e f x,p a b c d e f [x]:=by exact λ_ _ _ _ _ _ _=>rfl):UM 1 p:=λa b c d e f us hl=>match us,hl with |[x],_=>h a b c d e f x
def di(h:∀a b c d e f x y,p a b c d e f [x,y]:=by exact λ_ _ _ _ _ _ _ _=>rfl):UM 2 p:=λa b c d e f us hl=>match us,hl with |[x,y],_=>h a b c d e f x y
def iP(h:∀a b c d e f x y z,p a b c d e f [x,y,z]:=by exact λ_ _ _ _ _ _ _ _ _=>rfl):UM 3 p:=λa b c d e f us hl=>match us,hl with |[x,y,z],_=>h a b c d e f x y z
end
end L2.Fu
namespace HT
open PySem PySem.Spec PyProof.Rows
section
variable{s:ShX}
def TU(n:Nat):Builtin.Slice.sliceAdjust none none (-1) (n:Int)=((n:Int) - 1,-1):=by
 unfold Builtin.Slice.sliceAdjust;rfl
def TV(n:Nat):Builtin.Slice.slicePlaces ((n:Int) - 1) (-1) (-1)=n:=by
 unfold Builtin.Slice.slicePlaces;have h1:¬((-1:Int)>0):=by omega
 have h2:(-(-1):Int)=1:=by omega
 simp only [h1,if_false,h2,Int.ediv_one];split<;>omega
def V5{sl:AdX}{t:Tok}{Q:Int×Int×Nat->Shared->Prop}(hs:s.heap.IsSliceOf sl .none .none (.int (-1) t))(h:Q ((n:Int) - 1,-1,n) s):wpAny (model prog w) A (Builtin.Slice.sliceApplied (.ref sl)<|pure (n:Int)) Q E s:=by
 obtain⟨os,AK,KO,Ca⟩:=id hs;unfold Builtin.Slice.sliceApplied Builtin.Slice.sliceFields;refine qt<|qt<|gw AK Ca (x:=.none) rfl<|qt<|gw AK Ca (x:=.none) rfl<|qt<|gw AK Ca (x:=.int (-1) t) rfl<|qS ?_;refine qt<|slicePart_int ?_;show wpAny _ _ (if ((-1:Int)==0)=true then _ else _) _ _ s
 rw[qm<|by decide];refine qt<|slicePart_none<|qt<|slicePart_none<|qt<|qS ?_;show wpAny _ _ (match Builtin.Slice.sliceAdjust none none (-1) (n:Int) with |(lo,hi)=>pure (lo,(-1:Int),Builtin.Slice.slicePlaces lo hi<|-1)) _ _ s
 rw[TU n];show wpAny _ _ (pure ((n:Int) - 1,(-1:Int),Builtin.Slice.slicePlaces ((n:Int) - 1) (-1)<|-1)) _ _ s
 rw[TV];exact qS h
theorem KP{α β:Type}{f g:α->Option β}:∀{l:List α},(∀m∈l,f m=g m)->l.filterMap f=l.filterMap g
 |[],_=>rfl
 |a::l,h=>by
  rw[mC,mC,h a qZ,KP λm hm=>h m<|qA _ hm]
def TX(xs:Array Value):((List.range xs.size).filterMap λ(m:Nat)=>xs[((xs.size:Int) - 1+(m:Int)*(-1)).toNat]?).toArray=xs.toList.reverse.toArray:=by
 have e:∀m∈List.range xs.size,(xs[((xs.size:Int) - 1+(m:Int)*(-1)).toNat]?:Option Value)=((λk=>xs[k]?) ∘ (λk=>xs.size - 1 - k)) m:=by
  intro m hm
  have:=qx.mp hm
  have:((xs.size:Int) - 1+(m:Int)*(-1)).toNat=xs.size - 1 - m:=by omega
  rw[this];rfl
 have e2:(List.range xs.size).filterMap (λ(m:Nat)=>xs[((xs.size:Int) - 1+(m:Int)*(-1)).toNat]?)=(List.range xs.size).filterMap ((λk=>xs[k]?) ∘ (λk=>xs.size - 1 - k)):=KP e;rw[e2,<-List.filterMap_map,W.krv_range,List.filterMap_reverse]
 have:=W.krv_all xs;rw[this]
def Vg{t sl:AdX}{items:Array Value}{tk:Tok}(ht:IsTup s.heap t items)(hs:s.heap.IsSliceOf sl .none .none (.int (-1) tk))(h:Q (.ref s.heap.objs.size) { s with heap:=s.heap.push { cls:=.type "tuple",data:=.seq items.toList.reverse.toArray } })(iD:items.size<=sizeLine):wpAny (model prog w) A (getItem (.ref t)<|.ref sl) Q E s:=by
 have iz:sizeOk (.seq items.toList.reverse.toArray):=by
  show items.toList.reverse.toArray.size<=sizeLine
  rw[qH,kC,nt];exact iD
 obtain⟨os,AK,KO,Ca⟩:=id hs;have TY:s.TypeIs (.ref sl) "slice":=⟨os,AK,KO⟩;unfold getItem;try with_reducible refine pP ?_
 first |refine qt (qS ?_)|skip
 refine qt<|wpAny_sequenceKey ht.typeIs (by decide) ?_;refine qt<|me (name:=Str.ofString "__getitem__") ht.typeIs pL
<|nv pL ht.typeIs entry_tuple_getitem ?_<|args_tuple_getitem _ _
 show wpAny _ _ (Builtin.Tuple.tupleItemsOf (.ref t) >>= _) _ _ s
 refine qt<|tupleItemsOf_ ht ?_;refine qt<|wpAny_typeOf TY ?_;rw[qj<|by decide];refine qt<|V5 hs ?_;have TZ:¬((((items.size:Int) - 1)==0&&(-1:Int)==1&&items.size==items.size)=true):=by
  intro q;rw[g9,g9] at q;exact absurd q.1.2 (by decide)
 show wpAny _ _ (if (((items.size:Int) - 1)==0&&(-1:Int)==1&&items.size==items.size)=true then _ else _) _ _ s
 rw[qm TZ,TX];exact qt (m:=Builtin.Tuple.tupleExact _) (mY (qS ⟨_,rfl,qS h⟩) iz)
end
end HT
namespace L2
open PySem PySem.Spec PyProof.Rows
theorem Vals.rev:∀{xs:List V} {us:LVl},Vals xs us->Vals xs.reverse us.reverse
 |_,_,.nil=>.nil
 |_,_,.cons h r=>by
  rw[mf,mf];exact Vals.append (Vals.rev r)<|.cons h .nil
def T1{p3 p4:Pos}(he:PE X e te):PE X (.Subscript e (.Slice none none (some<|.UnaryOp .USub (.Constant (.int 1) j p3) p4) p2) pos)
  (λσ H Q=>te σ H λx H1=>∃a xs,x=.ref a/\cP X.K H1 a xs/\∀p,H1 p=none->Q (.ref p) (upd H1 p<|.tup xs.reverse)):=by
 intro pins s σ H Q I h;refine Subscript_<|b4 (he pins s σ H _ I h) λv s1 ⟨x,H1,I1,r1,q1⟩=>?_;obtain⟨a,xs,rfl,hx,q⟩:=q1;cases r1;refine wpAny_Slice ?_;rw[evalPart_none];refine qS<|qS ?_;rw[evalPart_some];refine b4 (Gf Gh FU pins s1 σ H1 (λx' H'=>x'=.int (-1)/\H'=H1) I1 ?_) λu s3 ⟨x3,H3,I3,r3,e3,e4⟩=>?_
 ·exact⟨1,rfl,rfl,rfl⟩
 subst e3 e4;obtain⟨tk,rfl⟩:=r3;have I4:Inv X pins σ H3 { s3 with heap:=s3.heap.push { cls:=.type "slice",data:=.fields #[.none,.none,.int (-1) tk] } }:=I3.kept (t':=s3.toks) λb ob q=>qo _ q
 obtain⟨its,r,ht,hz⟩:=I4.tuple hx;show wpAny (model X.prog X.w) X.A (subscriptTail e (.Slice none none (some<|.UnaryOp .USub (.Constant (.int 1) j p3) p4) p2) (.ref a)<|.ref s3.heap.objs.size) (EP X pins σ Q) X.xe { s3 with heap:=s3.heap.push { cls:=.type "slice",data:=.fields #[.none,.none,.int (-1) tk] } }
 refine tail_any (ops:=[.ref a,.ref s3.heap.objs.size]) ht.typeIs PyProof.Rows.slot_tuple_getitem.lookup ?_ (by with_unfolding_all rfl);refine HT.Vg ht (Heap.IsSliceOf.new ..) ?_ (by rw[qH,<-r.length];exact hz);refine⟨.ref _,_,I4.laid (t':=s3.toks) (o:=.tup xs.reverse) (λb ob q=>qo _ q) (qe _) ?_,rfl,q _<|I4.hok.fresh<|qe _⟩;exact⟨by rw[kC];exact hz,_,r.rev,IsTup.new _ _⟩
end L2
namespace L2.Fu
open PySem PySem.Spec PyProof.Rows
variable{a b:Expr}{h:RPx}
noncomputable def Cb:PyData->Option PyData
 | .tuple ds=>some<|.tuple ds.reverse
 |_=>none
theorem bP.rev{K:FRx}{G:Hp}:∀{xs:List V} {ds:LPd},bP K G xs ds->bP K G xs.reverse ds.reverse
 |_,_,.nil=>.nil
 |_,_,.cons h r=>by
  rw[mf,mf];exact bP.append (bP.rev r)<|.cons h .nil
def T2{p3 p4:Pos}(ha:FB X e f):FE X (.Subscript e (.Slice none none (some<|.UnaryOp .USub (.Constant (.int 1) j p3) p4) p2) pos) (dI Cb f):=by
 obtain⟨ta,pa,qa⟩:=ha;refine⟨_,T1 pa,λσ H os ρ c Q R q k=>?_⟩;obtain⟨d,e1,e2⟩:=bind_some q;unfold Cb at e2;split at e2
 ·cases e2;refine qa σ H os ρ _ _ R e1 λv H1 s r1=>?_
  obtain⟨p,xs,rfl,hS,rR,r⟩:=r1.tup;refine⟨p,xs,rfl,hS,λq hq=>?_⟩;have s4:=yb hq<|.tup xs.reverse;refine k _ _ (s.trans s4)<|.tup (cP.of ?_)<|(bP.rev r).same<|zq s4 os;rw[zA<|(R.al.same s).new hq];exact zL
 ·cases e2
noncomputable def Cc(h h':PyData->PyData->Option PyData)(f g k:RPx):RPx:=λρ=>(f ρ).bind λx=>(g ρ).bind λy=>(h x y).bind λz=>match z with | .bool true=>(k ρ).bind λw=>h' y w| .bool false=>some (.bool false)|_=>none
def T3{oK:CmpOp}{r:R2}{h h':PyData->PyData->Option PyData}{k:RPx}(ho:c4 X (compareOp op) r)(hr:eA X.K r h)(fZ:c4 X (compareOp oK) r')(iK:eA X.K r' h')(ha:FE X a f)(hb:FE X b g)(hc:FE X c k)(hm:lastMarks [op,oK] [b,c]=false:=by with_unfolding_all rfl):FT X (.Compare a [op,oK] [b,c] pos) (zy<|Cc h h' f g k):=by
 obtain⟨ta,pa,qa⟩:=ha;obtain⟨tb,pb,qb⟩:=hb;obtain⟨tc,pc,qc⟩:=hc;refine⟨_,NA ho fZ pa pb pc hm,λσ H os ρ d Q R q kk=>?_⟩;obtain⟨x,e1,q⟩:=bind_some<|UK q;obtain⟨y,e2,q⟩:=bind_some q;obtain⟨z,e3,q⟩:=bind_some q;refine qa σ H os ρ _ _ R e1 λv H1 s1 r1=>qb σ H1 os ρ _ _ (R.same s1) e2 λu H2 s2 r2=>?_
 refine hr v u H2 os x y z _ ((R.al.same s1).same s2) (.inl<|r1.same<|zq s2 os) (.inl r2) e3 λt H3 s3 r3=>?_
 have s:=(s1.trans s2).trans s3;split at q
 ·obtain⟨w,e4,q⟩:=bind_some q;cases r3;refine⟨true,rfl,?_⟩;rw[qj rfl];refine qc σ H3 os ρ _ _ (R.same s) e4 λu2 H4 s4 r4=>iK u u2 H4 os y w (.bool d) _ ((R.al.same s).same s4) (.inl<|r2.same<|zq (s3.trans s4) os) (.inl r4) q λt2 H5 s5 r5=>?_
  cases r5;exact⟨d,rfl,kk _<|(s.trans s4).trans s5⟩
 ·cases q;cases r3;refine⟨false,rfl,?_⟩;rw[qm<|by decide];exact⟨false,rfl,kk _ s⟩
 ·cases q
def KQ:cx:=cu (iL "free" λρ x=>B3 (aC ag a0) ρ)<|cu (iL "taken" λρ x=>vI a0 ρ)<|cu (iL "checks" λρ x=>zQ 1 [1] (xl<|aC ag a0) aq (yt<|xf Jg<|aC af<|aC ag a0) ρ)<|oi "pivot" λρ x=>cst (PyData.int 1) ρ
def Yn:eC:=fq 2 1 KQ
def T4:cx:=(cu (WA 2<|fo 1 [1] (sx<|gg "checks") aq<|zi yp<|aC af<|aC ag a0)<|cu (WA 3<|Yc 2 [] (λρ x=>BH false (aC (gb 2) a0) ρ) aS (zy<|bM cM ag<|cst<|PyData.int 0)<|gv 0)<|cu (ll (λρ x=>zy (bM dA (gb 3)<|yt<|vI a0) ρ) (da λρ x=>cst (PyData.bool false) ρ) bO)<|cu (oset 4 λρ x=>bM bS (gb 3) (cst<|PyData.int 0) ρ)<|cu (Ao 5 2 λρ x=>gv 4 ρ)<|cu (Am 6 "checks" λρ x=>gv 4 ρ)<|cu (WA 7<|UL 2 [0,5,6] (Ar false false<|cn (gg "checks")<|cn (λρ x=>gb 2 ρ) cz) aS<|cb (lF UW)<|cn (λρ x=>gv 0 ρ)<|cn (λρ x=>gv 1 ρ)<|cn (λρ x=>gv 4 ρ)<|cn (λρ x=>gv 3 ρ)<|cn (gf "pivot") cz)<|cu (Ak "checks" 7)<|cu (oi "pivot" λρ x=>gv 5 ρ)<|cu (Au "taken" "free" λρ x=>gv 4 ρ)<|da λρ x=>cst (PyData.bool true) ρ)
def VN:eC:=fq 8 1<|T4
def T5:cx:=(da<|dH dA (gg "free") λρ x=>yt (vI a0) ρ)
def YN:eC:=fq 1 0<|T5
def T6:cx:=(cu (ll (λρ x=>zy (bM dA ag<|xm a0) ρ) (da λρ x=>gv 2 ρ) bO)<|da<|cb (lF jx)<|cn (cb (lF Zn)<|cn (λρ x=>gv 2 ρ)<|cn (dH bS (gg "steps") λρ x=>bM bS ag (dI Z1<|cst<|PyData.int 1) ρ) cz) cz)
def VU:eC:=fq 3 2<|T6
def T7:cx:=(cu (oj "words" λρ x=>gv 1 ρ)<|cu (oj "rows" λρ x=>gv 2 ρ)<|rC (sH<|cn (cb yh<|cn (gg "steps") cz) cz) (bN 3)<|oj "waiting" λρ x=>xm (aC (bM uY ag<|xm<|aC aO a0)<|aC am a0) ρ)
def Zz:eC:=fq 4 2<|T7
def T8(CS:AdX):cx:=(cu (iu (λx x_1=>1000000) (rB (om<|oo<|dH (lS λi j=>decide (i<j)) (gf "asked")<|cb yh<|cn (gg "waiting") cz)<|Ay<|iN<|ir CS "span" "full" YN cz)<|cu (oset 1<|dH bS (dH bS (gg "waiting")<|gf "asked") λρ x=>cst (PyData.int 0) ρ)<|cu (fX 2<|d7 "row_led_on" VU<|cn (λρ x=>gv 1 ρ)<|cn (dH bS (dH bS (gg "waiting")<|gf "asked") λρ x=>cst (PyData.int 1) ρ) cz)<|cu (oi "asked"<|dH xN (gf "asked") λρ x=>cst (PyData.int 1) ρ)<|ZZ (iN<|ir CS "span" "take" VN<|cn (λρ x=>gv 2 ρ) cz) (cu (sC<|d7 "keep" Zz<|cn (λρ x=>gv 1 ρ)<|cn (λρ x=>gv 2 ρ) cz)<|da λρ x=>gv 2 ρ) bO)<|da λρ x=>cst PyData.none ρ)
def ja(CS:AdX):eC:=fq 3 0<|T8 CS
def KR(CS:AdX):cx:=(cu (iL "steps" λρ x=>zQ 1 [] (yc<|bM bS ag<|cst<|PyData.int 1) aq (bM bS (zi v5<|aC af a0)<|cst<|PyData.int 0) ρ)<|cu (BZ "span" CS λρ x=>iw Yn (aC (zi yh<|aC (bM bS ag<|cst<|PyData.int 0) a0) a0) ρ)<|cu (iL "words" λρ x=>vI a0 ρ)<|cu (iL "rows" λρ x=>vI a0 ρ)<|cu (iL "waiting" λρ x=>vI (aC (xm<|aC (xm a0)<|aC (zi (lF vC)<|aC (bM bS ag<|cst<|PyData.int 0) a0) a0) a0) ρ)<|oi "asked" λρ x=>cst (PyData.int 0) ρ)
def Jl(CS:AdX):eC:=fq 2 1<|KR CS
def T9(CS:AdX):bW:=(sq (zW 2<|zi vV<|aC af<|aC ag a0)<|sq (zW 3<|zi (lF vC)<|aC (bM bS am<|cst<|PyData.int 2) a0)<|ot 4 (iw (Jl CS)<|aC am a0)<|cu (fX 5<|d7 "onward" (ja CS) cz)<|cu (iu (λx x_1=>1000) (om λρ x=>zy (bM Zp bv<|cst PyData.none) ρ)<|cu (ll (λρ x=>zy (bM cM (zi yp<|aC bv<|aC aO a0)<|cst<|PyData.int 0) ρ) (da<|iO<|cn (dH bS (gg "words") λρ x=>dI Z1 (cst<|PyData.int 1) ρ)<|cn (rG<|sJ (gg "rows") o0<|oS<|dI Z1<|cst<|PyData.int 1) cz) bO)<|fX 5<|d7 "onward" (ja CS) cz)<|ZP<|iO<|cn (λρ x=>cst PyData.none ρ)<|cn (gg "rows") cz)
def vi(CS:AdX):ck:=cw 6 2<|T9 CS
def Xa:Ro->Ob->Option Fl:=(ou (B8 2<|B7 (vI<|aC (cst<|.tuple [.int 0,.int 1]) a0)<|dH xN (cb yh<|cn (gg "free") cz)<|cb yh<|cn (gg "taken") cz)<|ou (sR 2 (λρ x=>gv 1 ρ) λρ x=>cst (.tuple [.int 1,.int 1]) ρ)<|ou (B9 (AF "free" "checks") (b2 (bN 3)<|bN 4)<|sR 2 (λρ x=>gv 3 ρ)<|cb uT<|cn (λρ x=>dI Z1 (bM bS bH<|gv 1) ρ)<|cn (gf "pivot") cz)
 λρ x=>Ui (gk 2) ρ)
def J5:Ob->List PyData->Option PyData:=sS 5 1 Xa
def ym(CS:AdX):List PyData->Option Ob:=B6 2 1<|B5 1 (iw (Jl CS)<|aC af a0)<|cu (iu (λ_ _=>1000) (AA<|d7 "onward" (ja CS) cz) bO) bO
def Z5:bW:=(sq (x6 3<|zQ 1 [0] (yc<|gv 1) aq<|zi JF<|aC ag<|aC af a0)<|retS<|zi zZ<|aC (yt<|zQ 1 [3] (yc<|gv 2) aq<|zi zZ<|aC (yt<|zQ 1 [0] (yc<|gb 1) aq<|zi wI<|aC ag<|aC af a0) a0) a0)
def jE:ck:=cw 4 3 Z5
abbrev aY:=aC (yt<|zQ 1 [0] (yc<|gv 3) aq<|zi wI<|aC af<|aC (bM bS ag<|cst<|.int 2) a0) a0
abbrev bG:=aC (yt<|zQ 1 [2,3] aQ aq<|zi jE<|aC af<|aC ag<|aC am a0) a0
def Xb(CS:AdX):bW:=(ot 1 (AD "span" CS<|WE (ym CS)<|aC af a0)<|cu (ZZ (iN<|d7 "full" YN cz) (da λρ x=>gv 0 ρ) bO)<|cu (oset 2<|rG<|ix<|gg "taken")<|cu (oset 3<|rG<|UL 1 [1] (λρ x=>yc am ρ) aq<|sT "settled_row" J5<|cn (λρ x=>gv 0 ρ) cz)<|cu (oset 4 λρ x=>zi zZ (aC (yt<|zQ 1 [0] (yc<|gv 2) aq<|bM bS au<|gv 0) a0) ρ)<|cu (oset 5 λρ x=>zi zZ bG ρ)<|cu (oset 6 λρ x=>zi zZ aY ρ)<|da λρ x=>xm (aC bH<|aC bv<|aC (gv 6) a0) ρ)
def JY(CS:AdX):ck:=cw 7 1<|Xb CS
def Xc(CS:AdX):bW:=(retS<|zi Jw<|aC (zi (JY CS)<|aC (zi Jw<|aC (zi (JY CS)<|aC af a0) a0) a0) a0)
def jL(CS:AdX):ck:=cw 1 1<|Xc CS
def Xd(CS:AdX):bW:=(retS<|zi yh<|aC (bM bS (zi (jL CS)<|aC af a0)<|cst<|.int 0) a0)
def EE(CS:AdX):ck:=cw 1 1<|Xd CS
def Xe(CS:AdX):bW:=(sq (zW 2<|zi (vi CS)<|aC af<|aC ag a0)<|sq (cD (zy<|bM Zp (bM bS am<|cst<|.int 0)<|cst .none) (retS<|cst .none) s0)<|retS<|yt<|zQ 1 [] (yc<|bM bS am<|cst<|.int 1) aq<|yt<|zQ 1 [] aZ aq<|xm<|aC af<|aC aj a0)
def wo(CS:AdX):ck:=cw 3 2 (Xe CS)
end L2.Fu
namespace L2.Fu
open PySem WS WD WD.DT
open PySem.Builtin.Int (intBits)
def KS{fi:RPx}{a:Nat}(h1:gk i ρ=some ds)(h2:f ρ=some d)(h3:fi ρ=some (.int (a:Int)))(h4:a<ds.length):i5 i fi f ρ=some (.nx<|ρ.set i<|.ow<|ds.set a d):=by
 unfold i5;rw[h1,qq,h2,qq,h3];show(dZ ds.length (a:Int)).bind _=_
 have e:dZ ds.length (a:Int)=some a:=by
  unfold dZ;rw[qj (by omega),qj<|by omega];simp
 rw[e];rfl
def EF{f g:Z1x}(hn:n<=1000)(h:∀i,i<n->intBits (f i)<=1000000/\intBits (g i)<=1000000):yp [.list<|xA n f,.list<|xA n g]=some (.int<|yz n λi=>f i*g i):=by
 have hl:(List.range n).length<=16777216:=by rw[qw];omega
 have ec:zQ 2 [] bC aS (bM yD af<|gv 1) [.pu<|.list<|xA n f,.pu<|.list<|xA n g]=some (xA n λi=>f i*g i):=zS (xs:=List.range n) (e:=λi=>.tuple [.int<|f i,.int<|g i]) (d:=λi=>.int<|f i*g i) (Ic _ rfl) hl λi hi=>by
   have hi:=qx.mp hi;exact Ub.trans ((zg rfl rfl).trans<|yY<|jk (h i hi).1 (h i hi).2<|by omega)
 have es:tZ [.list<|xA n λi=>f i*g i]=some (.int<|yz n λi=>f i*g i):=by
  show(Jt tY<|xA n λi=>f i*g i).map (λns=>PyData.int ns.sum)=_
  rw[ZG,gU,VW]
 exact zM rfl<|zG<|(ze<|zm (zX ec) rfl).trans es
def Xf{t:Z1x}{c:Nat->Nat->Int}(hn:n<=1000)(ht:∀a,a<n->intBits (t a)<=1000000)(hc:∀a b,a<n->b<n->intBits (c a b)<=1000000):Zn [.list<|xA n t,.list<|(List.range n).map λb=>.list<|xA n λa=>c a b]=some (xA n λb=>yz n λa=>t a*c a b):=by
 refine um rfl<|vw ?_;exact zS (xs:=List.range n) (e:=λb=>.list<|xA n λa=>c a b) (d:=λb=>.int<|yz n λa=>t a*c a b) (xV rfl) (by simpa using qr hn (by decide)) λb hb=>by
  have hb:=qx.mp hb;exact yr.trans<|(ze rfl).trans<|EF hn λa ha=>⟨ht a ha,hc a b ha hb⟩
noncomputable def gl(f:Z1x):Nat->Nat
 |0=>0
 |n+1=>Int.gcd (f n) (gl f n:Int)
theorem YE{f g:Z1x}:∀n,(∀i,i<n->f i=g i)->gl f n=gl g n
 |0,_=>rfl
 |n+1,h=>by
  show Int.gcd (f n) _=Int.gcd (g n) _
  rw[h n<|kZ n,YE n λi hi=>h i<|mO hi]
theorem EG(f:Z1x)(c:Nat):∀n,gl (λi=>(c:Int)*f i) n=c*gl f n
 |0=>rfl
 |n+1=>by
  show Int.gcd ((c:Int)*f n) _=c*Int.gcd (f n) _
  rw[EG f c n,nj,Int.gcd_mul_left,kB]
theorem ZW(f:Z1x):∀n i,i<n->(gl f n:Int) ∣ f i
 |0,i,h=>absurd h<|gc _
 |n+1,i,h=>by
  show((Int.gcd (f n) (gl f n:Int):Nat):Int) ∣ f i
  by_cases e:i=n
  ·rw[e];exact Int.gcd_dvd_left ..
  ·exact Int.dvd_trans (Int.gcd_dvd_right ..) (ZW f n i<|by omega)
theorem KU{a b:Int}{f:Z1x}:∀n,(∀i,i<n->a ∣ b*f i)->a ∣ b*(gl f n:Int)
 |0,_=>by
  show a ∣ b*((0:Nat):Int)
  simp
 |n+1,h=>by
  show a ∣ b*((Int.gcd (f n) (gl f n:Int):Nat):Int)
  have h1:=h n<|kZ n;have h2:=KU n λi hi=>h i<|mO hi
  have h3:a ∣ ((Int.gcd (b*f n) (b*(gl f n:Int)):Nat):Int):=Int.dvd_coe_gcd h1 h2;rw[Int.gcd_mul_left] at h3;rw[<-Int.natAbs_dvd_natAbs] at h3 ⊢;rw[kE,kB];rwa[kB] at h3
def Prim(n:Nat)(r:Z1x):Prop:=(∀i,i<n->r i=0)\/gl r n=1
def Prim.le{z:Z1x}(h:Prim n r){a b:Int}(ha:a≠0)(hb:b≠0)(e:∀i,i<n->a*z i=b*r i):∀i,i<n->(r i).natAbs<=(z i).natAbs:=λi hi=>by
 rcases h with h|h
 ·rw[h i hi];exact kx _
 ·have h1:a ∣ b*(gl r n:Int):=KU n λi hi=>⟨z i,(e i hi).symm⟩
  rw[h] at h1;obtain⟨t,ht⟩:=h1;have e1:z i=t*r i:=by
   have h2:=e i hi;have h3:b=a*t:=by rw[<-ht];simp
   rw[h3,Int.mul_assoc] at h2;exact Int.eq_of_mul_eq_mul_left ha h2
  have Cd:t≠0:=λz=>by
   rw[z,mB] at ht
   have:b*((1:Nat):Int)=b:=by simp
   omega
  rw[e1,kE]
  have:1<=t.natAbs:=by omega
  exact mQ _ (by omega)
def Xg{f:Z1x}(h:(xA n f)[i]?=some d):d=.int (f i):=by
 unfold xA at h;rw[qp] at h;obtain⟨j,e1,e2⟩:=map_some h;obtain⟨_,e3⟩:=qg.mp e1;rw[px] at e3;rw[<-e2,<-e3]
def ui{f:Z1x}(hn:n<=1000)(hf:∀i,i<n->intBits (f i)<=8000):∃(r:Z1x)(g:Nat),jx [.list<|xA n f]=some (xA n r)/\0<g/\(∀i,i<n->f i=(g:Int)*r i)/\Prim n r:=by
 obtain⟨bX,e1,o,rfl⟩:=vm (ds:=xA n f) (it:=yc<|gv 0) (bd:=bN 2) (b:=zW 1<|zi yW<|aC am<|aC ag a0)
  (ρ0:=[.pu<|.list<|xA n f,.pu<|.int 0,.no]) (λi ρ=>∃o,ρ=[.pu<|.list<|xA n f,.pu<|.int (gl f i:Int),o]) rfl ⟨.no,rfl⟩
  (λi d ρ hd ⟨o,e⟩=>by
   subst e;have e:=Xg hd;subst e;exact⟨_,_,rfl,zI<|(ze rfl).trans<|ve _ _,.pu<|.int<|f i,rfl⟩)
 have hl:(xA n f).length=n:=by simp[xA]
 rw[hl] at e1;have et:zy (bM ltI ag<|cst<|.int 2) [.pu<|.list<|xA n f,.pu<|.int (gl f n:Int),o]=some (decide ((gl f n:Int)<2)):=zB rfl;by_cases h:gl f n<2
 ·refine⟨f,1,um rfl<|(zw<|zI rfl).trans<|(zw e1).trans<|(Qt (d:=xA n f) ?_),by decide,λi _=>by simp,?_⟩
  ·exact(ue<|et.trans<|qM some<|qG<|by omega).trans<|vw<|(xc rfl).trans rfl
  ·by_cases z:gl f n=0
   ·left
    intro i hi
    have:=ZW f n i hi;rw[z] at this;simpa using this
   ·right
    omega
 ·have hp:(0:Int)<gl f n:=by omega
  refine⟨λi=>(f i).fdiv (gl f n:Int),gl f n,um rfl<|(zw<|zI rfl).trans<|(zw e1).trans<|(zw<|(xb<|et.trans<|qM some<|qN<|by omega).trans rfl).trans<|vw ?_,by omega,λi hi=>?_,?_⟩
  ·refine zS (xs:=List.range n) (e:=λi=>.int<|f i) (d:=λi=>.int<|(f i).fdiv (gl f n:Int)) (xV rfl) (by simpa using qr hn (by decide)) λi hi=>?_
   have hi:=qx.mp hi;exact yr.trans<|(zg rfl rfl).trans<|jr (by omega) (by
    rw[kB];have h1:∃j,j<n/\f j≠0:=by
     refine kH λq=>?_
     have h0:∀j,j<n->f j=0:=λj hj=>kH λz=>q ⟨j,hj,z⟩
     have:gl f n=0:=by
      have e:gl f n=gl (λi=>((0:Nat):Int)*f i) n:=YE n λi hi=>by rw[h0 i hi];simp
      rw[e,EG];simp
     omega
    obtain⟨j,hj,hz⟩:=h1;have h2:gl f n<=(f j).natAbs:=k6 (by omega) (by
     have:=ZW f n j hj;rw[<-Int.natAbs_dvd_natAbs] at this;simpa using this)
    have h3:(f j).natAbs<2 ^ 8000:=m9.mp<|hf j hj;have h4:gl f n<2 ^ 8000:=qJ h2 h3
    have h5:(gl f n).log2<8000:=(pR<|by omega).mpr h4;omega)
  ·obtain⟨c,hc⟩:=ZW f n i hi;have e:(f i).fdiv (gl f n:Int)=c:=by
    rw[hc,nN _<|by omega]
   show f i=(gl f n:Int)*(f i).fdiv (gl f n:Int)
   rw[e,<-hc]
  ·right
   have e:gl f n=gl (λi=>((gl f n:Nat):Int)*(f i).fdiv (gl f n:Int)) n:=YE n λi hi=>by
    obtain⟨c,hc⟩:=ZW f n i hi;have e:(f i).fdiv (gl f n:Int)=c:=by
     rw[hc,nN _<|by omega]
    rw[e,<-hc]
   rw[EG] at e;exact Nat.eq_of_mul_eq_mul_left (show 0<gl f n by omega) (by rw[nJ];exact e.symm)
section
variable{f g:cx}{fs:Ob}
def yg(h:f ρ fs=some (.nx ρ' bU)):cu f g ρ fs=g ρ' bU:=by unfold cu;rw[h]
def VP(h:f ρ fs=some (.rt d bU)):cu f g ρ fs=some (.rt d bU):=by unfold cu;rw[h]
def JP{h:OLx}(e:h ρ fs=some ds):WA i h ρ fs=some (.nx (ρ.set i<|.ow ds) fs):=by unfold WA;rw[e];rfl
def Jo{h:cc}(e:h ρ fs=some d):oset i h ρ fs=some (.nx (ρ.set i<|.pu d) fs):=by unfold oset;rw[e];rfl
def vx{h:cc}(e:h ρ fs=some d):da h ρ fs=some (.rt d fs):=by unfold da;rw[e];rfl
def Ce{h:cc}(e:h ρ fs=some d)(hl:fs.length<1000):oi x h ρ fs=some (.nx ρ<|zR x (.pu d) fs):=by unfold oi;rw[e,qq,qj hl]
def Jb{h:OLx}(e:h ρ fs=some ds)(hl:fs.length<1000):iL x h ρ fs=some (.nx ρ<|zR x (.ow ds) fs):=by unfold iL;rw[e,qq,qj hl]
def Xh{h:Ro->Ob->Option Ob}(e:h ρ fs=some gs)(hl:fs.length<1000):BZ x C2 h ρ fs=some (.nx ρ<|zR x (.ob C2 gs) fs):=by unfold BZ;rw[e,qq,qj hl]
def EH{c:Ro->Ob->Option Bool}(h:c ρ fs=some true):ll c f g ρ fs=f ρ fs:=by unfold ll;rw[h];rfl
def EI{c:Ro->Ob->Option Bool}(h:c ρ fs=some false):ll c f g ρ fs=g ρ fs:=by unfold ll;rw[h];rfl
def KW{c:Ro->Ob->Option (Bool×Ob)}(h:c ρ fs=some (true,bU)):ZZ c f g ρ fs=f ρ bU:=by unfold ZZ;rw[h];rfl
def KY{c:Ro->Ob->Option (Bool×Ob)}(h:c ρ fs=some (false,bU)):ZZ c f g ρ fs=g ρ bU:=by unfold ZZ;rw[h];rfl
def Xi{h:Ro->Ob->Option (PyData×Ob)}(e:h ρ fs=some (d,bU)):sC h ρ fs=some (.nx ρ bU):=by unfold sC;rw[e];rfl
def Cf{h:Ro->Ob->Option (PyData×Ob)}(e:h ρ fs=some (d,bU)):fX i h ρ fs=some (.nx (ρ.set i<|.pu d) bU):=by unfold fX;rw[e];rfl
def EJ{h:cc}(e1:fld x fs=some (.ow ds))(e:h ρ fs=some d)(hl:ds.length<16777216):oj x h ρ fs=some (.nx ρ<|zR x (.ow<|ds++[d]) fs):=by
 unfold oj;rw[e1];dsimp only;rw[e,qq,qj hl]
def Xj{h:cc}(e1:fld x fs=some (.ow ds))(e:h ρ fs=some (.int (j:Int)))(hl:ds.length<=16777216)(hd:ds[j]?=some d):Am i x h ρ fs=some (.nx (ρ.set i<|.pu d)<|zR x (.ow<|ds.eraseIdx j) fs):=by
 obtain⟨hj,_⟩:=qg.mp hd;unfold Am;rw[e1,e];dsimp only;rw[qj ⟨by omega,by omega,hl⟩,ky,hd];rfl
def Xk{h:cc}(e1:ρ[k]?=some (.ow ds))(e:h ρ fs=some (.int (j:Int)))(hl:ds.length<=16777216)(hd:ds[j]?=some d):Ao i k h ρ fs=some (.nx ((ρ.set k<|.ow<|ds.eraseIdx j).set i<|.pu d) fs):=by
 obtain⟨hj,_⟩:=qg.mp hd;unfold Ao;rw[e1,e];dsimp only;rw[qj ⟨by omega,by omega,hl⟩,ky,hd];rfl
def Xl(e1:ρ[i]?=some (.ow ds))(hl:fs.length<1000):Ak x i ρ fs=some (.nx (ρ.set i .no)<|zR x (.ow ds) fs):=by
 unfold Ak;rw[e1];dsimp only;rw[qj hl]
def Xm{es:LPd}{h:cc}(e1:fld y fs=some (.ow ds))(e:h ρ fs=some (.int (j:Int)))(hl:ds.length<=16777216)(hd:ds[j]?=some d)(e2:fld x (zR y (.ow<|ds.eraseIdx j) fs)=some (.ow es))(eV:es.length<16777216):Au x y h ρ fs=some (.nx ρ<|zR x (.ow<|es++[d])<|zR y (.ow<|ds.eraseIdx j) fs):=by
 obtain⟨hj,_⟩:=qg.mp hd;unfold Au;rw[e1,e];dsimp only;rw[qj ⟨by omega,by omega,hl⟩,ky,hd,qq,e2];dsimp only;rw[qj eV]
def Xn{T:Nat}{fi:OLx}{b:PyData->Ro->Option Ro}{fe:RPx}{α:Type}{xs:List α}{e d:α->PyData}(h1:fi ρ fs=some (xs.map e))(hl:xs.length<=16777216)(h2:∀x∈xs,(b (e x)<|compEnv T F ρ).bind fe=some (d x)):fo T F fi b fe ρ fs=some (xs.map d):=by
 unfold fo;rw[h1,qq,qj (by rw[qf];exact hl),uR];exact JL h2
def KZ{T:Nat}{fi:OLx}{b:PyData->Ro->Option Ro}{fe:cc}{α:Type}{xs:List α}{e d:α->PyData}(h1:fi ρ fs=some (xs.map e))(hl:xs.length<=16777216)(h2:∀x∈xs,(b (e x)<|compEnv T F ρ).bind (λρ'=>fe ρ' fs)=some (d x)):UL T F fi b fe ρ fs=some (xs.map d):=by
 unfold UL;rw[h1,qq,qj (by rw[qf];exact hl),uR];exact JL h2
def EK{m:Str}{h:eC}(e1:fld y fs=some (.ob C2 gs))(e2:fld m gs=none)(e3:ga ρ fs=some ds)(e4:h gs ds=some (d,fI)):ir C2 y m h ga ρ fs=some (d,zR y (.ob C2 fI) fs):=by
 unfold ir;rw[e1];dsimp only;rw[qj ⟨rfl,by rw[e2];rfl⟩,e3,qq,e4];rfl
def uD{m:Str}{h:eC}(e2:fld m fs=none)(e3:ga ρ fs=some ds)(e4:h fs ds=some (d,bU)):d7 m h ga ρ fs=some (d,bU):=by
 unfold d7;rw[qj (by rw[e2];rfl),e3];exact e4
def yX{h:cc}(e1:h ρ fs=some d)(e2:ga ρ fs=some ds):cn h ga ρ fs=some (d::ds):=by unfold cn;rw[e1,qq,e2];rfl
def u7{h:PyData->PyData->Option PyData}{a b:cc}{x y:PdX}(e1:a ρ fs=some x)(e2:b ρ fs=some y):dH h a b ρ fs=h x y:=by unfold dH;rw[e1,qq,e2];rfl
def vF{h:ck}(e:ga ρ fs=some ds):cb h ga ρ fs=h ds:=by unfold cb;rw[e];rfl
def AL(e:fld x fs=some (.pu d)):gf x ρ fs=some d:=by unfold gf;rw[e]
def uO(e:fld x fs=some (.ow ds)):gg x ρ fs=some (.list ds):=by unfold gg;rw[e]
def Xo{h:cc}{c:Bool}(e:h ρ fs=some (.bool c)):oo h ρ fs=some c:=by unfold oo;rw[e]
def Cg{h:Ro->Ob->Option Bool}{c:Bool}(e:h ρ fs=some c):om h ρ fs=some (c,fs):=by unfold om;rw[e];rfl
def ZQ{h:Ro->Ob->Option (PyData×Ob)}{c:Bool}(e:h ρ fs=some (.bool c,bU)):iN h ρ fs=some (c,bU):=by unfold iN;rw[e]
def Xp{h:Ro->Ob->Option (Bool×Ob)}{c:Bool}(e:h ρ fs=some (c,bU)):Ay h ρ fs=some (!c,bU):=by unfold Ay;rw[e];rfl
def Xq{a b:Ro->Ob->Option (Bool×Ob)}(e:a ρ fs=some (true,bU)):rB a b ρ fs=b ρ bU:=by unfold rB;rw[e];rfl
def Xr{a b:Ro->Ob->Option (Bool×Ob)}(e:a ρ fs=some (false,bU)):rB a b ρ fs=some (false,bU):=by unfold rB;rw[e];rfl
def Xs{h:cc}(e:h ρ fs=some (.list ds)):sx h ρ fs=some ds:=by unfold sx;rw[e]
def Xt{xs ys:LPd}(e:ga ρ fs=some [.list xs,.list ys]):Ar false false ga ρ fs=some (Ju xs ys):=by unfold Ar;rw[e];rfl
def UR{b:cx}(hm:ds.length=m)(h:b (.no::(ds.map Sl.pu++List.replicate (n - (m+1)) .no)) fs=some (.rt d bU)):fq n m b fs ds=some (d,bU):=by unfold fq;rw[qj hm,h]
def EL{b:cx}(hm:ds.length=m)(h:b (.no::(ds.map Sl.pu++List.replicate (n - (m+1)) .no)) fs=some (.nx ρ' bU)):fq n m b fs ds=some (.none,bU):=by unfold fq;rw[qj hm,h]
def AM{h:eM}{es:LPd}(e:h ds=some es):lF h ds=some (.list es):=by unfold lF;rw[e];rfl
end
noncomputable def fv(fr tk ch:LPd)(pv:PdX):Ob:=[(Str.ofString "free",.ow fr),(Str.ofString "taken",.ow tk),(Str.ofString "checks",.ow ch),(Str.ofString "pivot",.pu pv)]
noncomputable def du(ss:LPd)(CS:AdX)(sp:Ob)(ws rs wt:LPd)(a:PdX):Ob:=[(Str.ofString "steps",.ow ss),(Str.ofString "span",.ob CS sp),(Str.ofString "words",.ow ws),(Str.ofString "rows",.ow rs),(Str.ofString "waiting",.ow wt),(Str.ofString "asked",.pu a)]
section
variable{fr tk ch sU:LPd}{pv K0:PdX}
def Yq:fld "free" (fv fr tk ch pv)=some (.ow fr):=rfl
def Zl:fld "taken" (fv fr tk ch pv)=some (.ow tk):=rfl
def J9:fld "checks" (fv fr tk ch pv)=some (.ow ch):=rfl
def K1:fld "pivot" (fv fr tk ch pv)=some (.pu pv):=rfl
def EM:fld "full" (fv fr tk ch pv)=none:=rfl
def K2:fld "take" (fv fr tk ch pv)=none:=rfl
def K3:zR "free" (.ow sU) (fv fr tk ch pv)=fv sU tk ch pv:=rfl
def Xu:zR "taken" (.ow sU) (fv fr tk ch pv)=fv fr sU ch pv:=rfl
def YS:zR "checks" (.ow sU) (fv fr tk ch pv)=fv fr tk sU pv:=rfl
def Xv:zR "pivot" (.pu K0) (fv fr tk ch pv)=fv fr tk ch K0:=rfl
def Xw{c d:LPd}{e:PdX}:zR "pivot" (.pu e) (zR "checks" (.ow d)<|zR "taken" (.ow c)<|zR "free" (.ow fr) [])=fv fr c d e:=rfl
end
section
variable{ss ws wt xs:LPd}{sp tD:Ob}{a a':PdX}
def K4:fld "steps" (du ss CS sp ws rs wt a)=some (.ow ss):=rfl
def Yj:fld "span" (du ss CS sp ws rs wt a)=some (.ob CS sp):=rfl
def K5:fld "words" (du ss CS sp ws rs wt a)=some (.ow ws):=rfl
def EN:fld "rows" (du ss CS sp ws rs wt a)=some (.ow rs):=rfl
def Uz:fld "waiting" (du ss CS sp ws rs wt a)=some (.ow wt):=rfl
def Zj:fld "asked" (du ss CS sp ws rs wt a)=some (.pu a):=rfl
def Xx:fld "row_led_on" (du ss CS sp ws rs wt a)=none:=rfl
def Xy:fld "keep" (du ss CS sp ws rs wt a)=none:=rfl
def v9:fld "onward" (du ss CS sp ws rs wt a)=none:=rfl
def Zo:zR "span" (.ob CS tD) (du ss CS sp ws rs wt a)=du ss CS tD ws rs wt a:=rfl
def Xz:zR "words" (.ow xs) (du ss CS sp ws rs wt a)=du ss CS sp xs rs wt a:=rfl
def XA:zR "rows" (.ow xs) (du ss CS sp ws rs wt a)=du ss CS sp ws xs wt a:=rfl
def XB:zR "waiting" (.ow xs) (du ss CS sp ws rs wt a)=du ss CS sp ws rs xs a:=rfl
def XC:zR "asked" (.pu a') (du ss CS sp ws rs wt a)=du ss CS sp ws rs wt a':=rfl
def XD:zR "asked" (.pu a) (zR "waiting" (.ow wt)<|zR "rows" (.ow rs)<|zR "words" (.ow ws)<|zR "span" (.ob CS sp)<|zR "steps" (.ow ss) [])=du ss CS sp ws rs wt a:=rfl
end
abbrev yl(n:Nat)(r:Z1x):PyData:=.list<|xA n r
noncomputable abbrev zJ(i:Nat):PyData:=.int (i:Int)
def XE(t:Bool)(n:Nat)(f:Q1x):qd t n f=i7 t (((List.range n).map f).map fr):=by
 cases t<;>(show _=i7 _ _;unfold i7;rw[kb];rfl)
def XF{f:Q1x}(hn:n<=42)(hM:0<M)(sM:Sz M)(sN:Sz N)(hf:∀i,i<n->bT M N (f i)):∃(r:Z1x)(c:Rat),vC [qd t n f]=some (xA n r)/\c≠0/\(∀i,i<n->(r i:Rat)=c*f i)/\Prim n r:=by
 have hd:∀q∈(List.range n).map f,q.den ∣ M:=λq hq=>by
  obtain⟨a,ha,rfl⟩:=qE.mp hq;exact(hf a<|qx.mp ha).den
 have i8:0<xx ((List.range n).map f):=Vm _;have rX:xx ((List.range n).map f) ∣ M:=Vv _ hd
 have l8:∀a,a<n->(f a).den ∣ xx ((List.range n).map f):=λa ha=>Vy _ _<|qE.mpr ⟨a,qx.mpr ha,rfl⟩
 have eb:yx [qd t n f]=some (.int (xx ((List.range n).map f):Int)):=by
  rw[XE];exact vM hM sM hd
 have et:xR [qd t n f,.int (xx ((List.range n).map f):Int)]=some (xA n λi=>x8 (f i)<|xx<|(List.range n).map f):=u3 (t:=t) (n:=n) (f:=f) (by omega) i8 (Sz.mono (k6 hM rX) sM) λa ha=>⟨l8 a ha,((hf a ha).bq sM sN).n⟩
 have bt:∀a,a<n->intBits (x8 (f a)<|xx<|(List.range n).map f)<=8000:=λa ha=>qr (sN.bits<|BE (hf a ha) rX<|j9<|l8 a ha) (by decide)
 obtain⟨r,g,e,hg,hr,hp⟩:=ui (n:=n) (f:=λi=>x8 (f i)<|xx<|(List.range n).map f) (by omega) bt;have dg:(g:Rat)≠0:=y0 hg;have eD:((xx ((List.range n).map f):Nat):Rat)≠0:=y0 i8
 refine⟨r,(xx ((List.range n).map f):Nat) / (g:Rat),um rfl<|vw<|(xc<|zm (zX<|(xc<|zm rfl<|zm ((ze rfl).trans eb) rfl).trans et) rfl).trans e,?_,λi hi=>?_,hp⟩
 ·intro z;have h1:(xx ((List.range n).map f):Nat) / (g:Rat)*(g:Rat)=((xx ((List.range n).map f):Nat):Rat):=k7 dg;rw[z,ki] at h1;exact eD h1.symm
 ·have h1:((x8 (f i) (xx<|(List.range n).map f):Int):Rat)=(g:Rat)*(r i:Rat):=by
   rw[hr i hi,kG,kq]
  rw[j9<|l8 i hi] at h1;grind
def K6{f:Q1x}(hn:n<=42)(hM:0<M)(sM:Sz M)(sN:Sz N)(hf:∀i,i<n->bT M N (f i)):∃(r:Z1x)(c:Rat),vC [yq n f]=some (xA n r)/\c≠0/\(∀i,i<n->(r i:Rat)=c*f i)/\Prim n r:=XF (t:=true) hn hM sM sN hf
def XG(hn:n<=1000)(hi:i<n):Jg [zJ i,zJ n]=some (xA n<|xC i):=by
 refine um rfl ?_;refine(zw<|yK<|Iv (n:=n) (d:=.int 0) (J8 rfl<|by decide) rfl hn).trans<|(zw<|KS (a:=i) (ds:=(List.range n).map λ_=>.int 0) rfl rfl rfl<|by simpa using hi).trans<|vw ?_;show some (((List.range n).map λ_=>PyData.int 0).set i<|.int 1)=some (xA n<|xC i)
 congr 1
 refine gZ λj=>?_
 unfold xA;rw[gL,qp,qp,qf,qw];by_cases h:i=j
 ·subst h;rw[qj rfl,qj hi,ku hi];simp[xC]
 ·rw[qm h];by_cases hj:j<n
  ·rw[ku hj];simp[xC,gE h]
  ·rw[kS<|by simpa using hj];rfl
def XH{c g:Z1x}{p s d:Int}(hn:n<=1000)(hp:intBits p<=1000000)(hs:intBits s<=1000000)(hc:∀x,x<n->intBits (c x)<=1000000)(hg:∀x,x<n->intBits (g x)<=1000000)(hd:d≠0)(hd2:d.natAbs.log2<9000):UW [yl n c,.int s,yl n g,.int p,.int d]=some (xA n<|nar p d s g c):=by
 refine um rfl<|vw ?_;refine zS (xs:=List.range n) (e:=λi=>.tuple [.int<|c i,.int<|g i]) (d:=λi=>.int<|nar p d s g c i) ((Ib rfl).trans<|qM some<|Ud _ _ n) (by simpa using qr hn (by decide)) λi hi=>?_
 have hi:=qx.mp hi;exact Ub.trans<|(zg ((zg ((zg rfl rfl).trans<|yY<|jk hp (hc i hi)<|by omega)<|(zg rfl rfl).trans<|yY<|jk hs (hg i hi)<|by omega).trans rfl) rfl).trans<|jr hd hd2
theorem K7:∀ns:List Int,PyData.canLayAll0 (ns.map .int)=true/\PyData.depthAll (ns.map .int)=0
 |[]=>⟨rfl,rfl⟩
 |n::ns=>by
  obtain⟨a,b⟩:=K7 ns;constructor
  ·show(true&&PyData.canLayAll0 (ns.map .int))=true
   rw[a];rfl
  ·show max 0 (PyData.depthAll<|ns.map .int)=0
   rw[b];rfl
def shaped_ints(ns:List Int):SeqAt.shaped (.list<|ns.map .int)=true/\SeqAt.shaped (.tuple<|ns.map .int)=true:=by
 obtain⟨a,b⟩:=K7 ns;have c:PyData.canLay0 (.list<|ns.map .int)=true:=a;have c':PyData.canLay0 (.tuple<|ns.map .int)=true:=a
 constructor
 ·unfold SeqAt.shaped;rw[c,bw];refine qG ?_;show PyData.depthAll (ns.map .int)+1<=64
  rw[b];decide
 ·unfold SeqAt.shaped;rw[c',bw];refine qG ?_;show PyData.depthAll (ns.map .int)+1<=64
  rw[b];decide
theorem Jx:∀ns ms:List Int,PyData.eqvAll (ns.map PyData.int) (ms.map PyData.int)=decide (ns=ms)
 |[],[]=>rfl
 |[],_::_=>rfl
 |_::_,[]=>rfl
 |n::ns,m::ms=>by
  show(PyData.eqv (.int n) (.int m)&&PyData.eqvAll (ns.map .int) (ms.map .int))=_
  rw[Jx ns ms];by_cases h:n=m
  ·by_cases h2:ns=ms<;>simp[PyData.eqv,h,h2]
  ·simp[PyData.eqv,h]
def K8(ns ms:List Int):dA (.list<|ns.map .int) (.list<|ms.map .int)=some (.bool<|decide (ns=ms)):=by
 unfold dA;rw[qj ⟨(shaped_ints ns).1,(shaped_ints ms).1⟩];show some (PyData.bool<|PyData.eqvAll (ns.map .int)<|ms.map .int)=_
 rw[Jx]
def XI(ns ms:List Int):dA (.tuple<|ns.map .int) (.tuple<|ms.map .int)=some (.bool<|decide (ns=ms)):=by
 unfold dA;rw[qj ⟨(shaped_ints ns).2,(shaped_ints ms).2⟩];show some (PyData.bool<|PyData.eqvAll (ns.map .int)<|ms.map .int)=_
 rw[Jx]
def XJ(l:LNt):l.map zJ=(l.map λi:Nat=>(i:Int)).map PyData.int:=by rw[kb];rfl
theorem vY(x:Str)(c:Fs):∀fs:Ob,(zR x c fs).length<=fs.length+1
 |[]=>qe _
 |(y,d)::fs=>by
  unfold zR;split
  ·exact mJ _
  ·exact mW<|vY x c fs
def dv(n:Nat)(T F:LNt)(C:LZr)(d:Int):Ob:=fv (F.map zJ) (T.map zJ) (C.map<|yl n)<|.int d
def XM(hn:n<=1000):Yn [] [zJ n]=some (.none,dv n [] (List.range n) ((List.range n).map xC) 1):=by
 refine EL (ρ':=[.no,.pu<|zJ n]) rfl ?_;show KQ [.no,.pu<|zJ n] []=_
 have e1:B3 (aC ag a0) [.no,.pu<|zJ n]=some ((List.range n).map zJ):=by
  show(if -(2 ^ 62)<=(n:Int)/\(n:Int)<=16777216 then some (jT 0 (n:Int).toNat) else none)=_
  rw[qj (by constructor<;>omega),ky];unfold jT;congr 1;exact kf λi _=>by rw[Int.zero_add]
 have e2:zQ 1 [1] (xl<|aC ag a0) aq (yt<|xf Jg<|aC af<|aC ag a0) [.no,.pu<|zJ n]=some ((List.range n).map λi=>yl n<|xC i):=vg (n:=n) (d:=λi=>yl n<|xC i) rfl (by omega) λi hi=>yr.trans<|zX<|(xc rfl).trans<|XG hn hi
 have l1:=vY "free" (.ow<|(List.range n).map zJ) [];have l2:=vY "taken" (.ow [])<|zR "free" (.ow<|(List.range n).map zJ) []
 have l3:=vY "checks" (.ow<|(List.range n).map λi=>yl n<|xC i)<|zR "taken" (.ow [])<|zR "free" (.ow<|(List.range n).map zJ) [];rw[List.length_nil] at l1;refine(yg<|Jb e1<|by show 0<1000;omega).trans ?_;refine(yg<|Jb (ds:=[]) (J8 rfl<|by decide)<|by omega).trans ?_;refine(yg<|Jb (ds:=(List.range n).map λi=>yl n<|xC i) ?_<|by omega).trans ?_
 ·exact e2
 refine(Ce (d:=.int 1) rfl<|by omega).trans ?_;rw[Xw];unfold dv;rw[kb];rfl
def EO{C:LZr}{d:Int}:YN (dv n T F C d) []=some (.bool<|decide (F=[]),dv n T F C d):=by
 refine UR rfl<|vx ?_;refine(u7 (uO Yq) rfl).trans ?_;rw[XJ];refine(K8 _ []).trans ?_;congr 2;exact nO.mpr (by simp)
noncomputable def nz:Nat->List Int->List Int
 |_,[]=>[]
 |k,x::xs=>if x=0 then nz (k+1) xs else (k:Int)::nz (k+1) xs
theorem K9:∀(k:Nat)(xs:List Int),nz k xs=[]->∀x∈xs,x=0
 |_,[],_,x,h=>by cases h
 |k,y::xs,e,x,h=>by
  unfold nz at e;split at e
  ·rename_i hy;rcases qy.mp h with z|z
   ·rw[z];exact hy
   ·exact K9 (k+1) xs e x z
  ·cases e
theorem La:∀(k:Nat)(xs:List Int),nz k xs≠[]->∃(i:Nat)(x:Int)(r:List Int),nz k xs=((k+i:Nat):Int)::r/\xs[i]?=some x/\x≠0
 |_,[],h=>absurd rfl h
 |k,y::xs,h=>by
  unfold nz at h ⊢;split
  ·rename_i hy;rw[qj hy] at h;obtain⟨i,x,r,e1,e2,e3⟩:=La (k+1) xs h;exact⟨i+1,x,r,by rw[e1,show k+(i+1)=k+1+i by omega],by simpa using e2,e3⟩
  ·rename_i hy;exact⟨0,y,nz (k+1) xs,rfl,rfl,hy⟩
def XN{α β:Type}{h:α->Option (Option β)}{d:α}{r:List α}{y:β}{ys:List β}(e1:h d=some (some y))(e2:w6 h r=some ys):w6 h (d::r)=some (y::ys):=by
 unfold w6;rw[e1,qq,e2];rfl
def XO{α β:Type}{h:α->Option (Option β)}{d:α}{r:List α}{ys:List β}(e1:h d=some none)(e2:w6 h r=some ys):w6 h (d::r)=some ys:=by
 unfold w6;rw[e1,qq,e2];rfl
def XQ{x:PdX}{r:LPd}:bS (.list<|x::r) (.int 0)=some x:=by
 show(dZ (r.length+1) 0).bind _=_
 unfold dZ;rw[qj (by omega),qj<|by omega];rfl
def Lb{β:Type}{x y:PdX}{fe:Ro->Option β}:(b2 aq (bN 1) (.tuple [x,y])<|compEnv 2 F ρ).bind fe=fe (.pu x::.pu y::F.map λj=>(ρ[j]?).getD .no):=rfl
theorem Lc{F:LNt}{ρ:Ro}:∀(k:Nat)(xs:List Int),w6 (λd=>(b2 aq (bN 1) d<|compEnv 2 F ρ).bind λbX=>(zy (bM cM ag<|cst<|PyData.int 0) bX).bind λok=>if ok then (gv 0 bX).map some else some none) ((xs.map PyData.int).mapIdx λi d=>.tuple [.int ((k+i:Nat):Int),d])=some ((nz k xs).map PyData.int)
 |_,[]=>rfl
 |k,x::xs=>by
  have ih:=Lc (F:=F) (ρ:=ρ) (k+1) xs;rw[gH,List.mapIdx_cons];rw[show(λ(i:Nat) (d:PdX)=>PyData.tuple [.int ((k+(i+1):Nat):Int),d])=λi d=>.tuple [.int ((k+1+i:Nat):Int),d] from funext λi=>funext λd=>by rw[show k+(i+1)=k+1+i by omega]];have e:zy (bM cM ag<|cst<|PyData.int 0) (.pu (.int ((k+0:Nat):Int))::.pu (.int x)::F.map λj=>(ρ[j]?).getD .no)=some (!decide (x=0)):=zB<|(zg rfl rfl).trans<|jW x 0
  unfold nz;by_cases h:x=0
  ·rw[qj h];rw[qG h] at e;refine XO ?_ ih;refine Lb.trans ?_;rw[e];rfl
  ·rw[qm h];rw[qN h] at e;refine XN ?_ ih;refine Lb.trans ?_;rw[e];rfl
theorem vy{α β:Type}(f:α->β):∀(l:List α)(i:Nat),(l.map f).eraseIdx i=(l.eraseIdx i).map f
 |[],_=>by simp
 |_::_,0=>rfl
 |x::l,i+1=>by
  show f x::(l.map f).eraseIdx i=f x::(l.eraseIdx i).map f
  rw[vy f l i]
theorem zip_map{α:Type}(f g:α->PyData):∀l:List α,Ju (l.map f) (l.map g)=l.map λx=>.tuple [f x,g x]
 |[]=>rfl
 |x::l=>by
  show PyData.tuple [f x,g x]::Ju (l.map f) (l.map g)=_
  rw[zip_map f g l];rfl
def XR{c:Z1x}(hn:n<=1000)(hc:∀x,x<n->intBits (c x)<=400000)(hr:∀x,x<n->intBits (r x)<=400000):intBits (dt n c r)<=1000000:=by
 have h:=JC (f:=λx=>c x*r x) (B:=2 ^ 800000) n λx hx=>by
  rw[kE,show 800000=400000+400000 from rfl,hZ];exact kY (nD<|m9.mp<|hc x hx)<|nD<|m9.mp<|hr x hx
 refine m9.mpr<|qJ h ?_;rw[show 1000000=10+(800000+199990) from rfl,hZ,hZ 2 800000];have h1:0<2 ^ 800000:=nI (by decide);have h2:0<2 ^ 199990:=nI (by decide)
 refine Nat.mul_lt_mul_of_lt_of_le (by omega) (nT _ h2)<|qU h1 h2
def XS{C:LZr}{d:Int}(hn:n<=1000)(hF:C.length=F.length)(hl:F.length<=1000)(hT:T.length<=1000)(hC:∀c∈C,∀x,x<n->intBits (c x)<=400000)(hr:∀x,x<n->intBits (r x)<=400000)(hd:d≠0)(hd2:d.natAbs.log2<9000):((∀c∈C,dt n c r=0)/\VN (dv n T F C d) [yl n r]=some (.bool false,dv n T F C d))\/
  ∃i cg g,C[i]?=some cg/\F[i]?=some g/\dt n cg r≠0/\VN (dv n T F C d) [yl n r]=some (.bool true,dv n (T++[g]) (F.eraseIdx i) ((C.eraseIdx i).map λc=>nar (dt n cg r) d (dt n c r) cg c)<|dt n cg r):=by
 have hlen:C.length<=16777216:=by omega
 have e1:fo 1 [1] (sx<|gg "checks") aq (zi yp<|aC af<|aC ag a0) [.no,.pu<|yl n r,.no,.no,.no,.no,.no,.no] (dv n T F C d)=some (C.map λc=>PyData.int<|dt n c r):=Xn (xs:=C) (e:=yl n) (d:=λc=>PyData.int<|dt n c r) (Xs<|uO J9) hlen λc hc=>yr.trans<|(ze rfl).trans<|EF hn λx hx=>⟨qr (hC c hc x hx) (by decide),qr (hr x hx)<|by decide⟩
 have es:(C.map λc=>PyData.int<|dt n c r)=(C.map λc=>dt n c r).map PyData.int:=by rw[kb];rfl
 have e2:∀o3,Yc 2 [] (λρ x=>BH false (aC (gb 2) a0) ρ) aS (zy<|bM cM ag<|cst<|PyData.int 0) af [.no,.pu<|yl n r,.ow<|C.map λc=>PyData.int<|dt n c r,o3,.no,.no,.no,.no] (dv n T F C d)=some ((nz 0<|C.map λc=>dt n c r).map PyData.int):=λo3=>by
  unfold Yc;show((some<|WI<|C.map λc=>PyData.int<|dt n c r).bind _)=_
  rw[qq,qj (by unfold WI;rw[List.length_mapIdx,qf];exact hlen),es];unfold WI
  have:=Lc (F:=[]) (ρ:=[.no,.pu<|yl n r,.ow<|(C.map λc=>dt n c r).map PyData.int,o3,.no,.no,.no,.no]) 0<|C.map λc=>dt n c r;rw[show(λ(i:Nat) (d:PdX)=>PyData.tuple [.int ((0+i:Nat):Int),d])=λi d=>.tuple [.int (i:Int),d] from funext λi=>funext λd=>by rw[nC]] at this;exact this
 have e3:zy (bM dA (gb 3)<|yt<|vI a0) [.no,.pu<|yl n r,.ow<|C.map λc=>PyData.int<|dt n c r,.ow<|(nz 0<|C.map λc=>dt n c r).map PyData.int,.no,.no,.no,.no]=some (decide (nz 0 (C.map λc=>dt n c r)=[])):=zB<|(zg rfl rfl).trans<|K8 _ [];by_cases hz:nz 0 (C.map λc=>dt n c r)=[]
 ·refine .inl ⟨λc hc=>K9 0 _ hz _<|qE.mpr ⟨c,hc,rfl⟩,?_⟩;rw[qG hz] at e3;exact UR rfl<|(yg<|JP e1).trans<|(yg<|JP<|e2 .no).trans<|VP<|(EH e3).trans<|vx rfl
 ·right
  obtain⟨i,x,rr,q1,q2,q3⟩:=La 0 _ hz;rw[nC] at q1;rw[qp] at q2;obtain⟨cg,q4,q5⟩:=map_some q2;obtain⟨hi,_⟩:=qg.mp q4;obtain⟨g,q6⟩:∃g,F[i]?=some g:=⟨_,qk<|by omega⟩;rw[<-q5] at q3;refine⟨i,cg,g,q4,q6,q3,?_⟩;rw[qN hz] at e3;have Ld:cg∈C:=qI q4;have bd:∀c∈C,intBits (dt n c r)<=1000000:=λc hc=>XR hn (hC c hc) hr
  refine UR rfl<|(yg<|JP e1).trans<|(yg<|JP<|e2 .no).trans<|(yg<|(EI e3).trans rfl).trans ?_;refine(yg<|Jo (d:=zJ i)<|(zg (show gb 3 _=some (PyData.list<|(nz 0<|C.map λc=>dt n c r).map PyData.int) from rfl) rfl).trans ?_).trans ?_
  ·rw[q1];exact XQ
  refine(yg<|Xk (ds:=C.map λc=>PyData.int<|dt n c r) (j:=i) (d:=.int<|dt n cg r) rfl rfl (by rw[qf];exact hlen)<|by rw[qp,q4];rfl).trans ?_;refine(yg<|Xj (ds:=C.map<|yl n) (j:=i) (d:=yl n cg) J9 rfl (by rw[qf];exact hlen)<|by rw[qp,q4];rfl).trans ?_;rw[YS,vy<|yl n,vy λc=>PyData.int<|dt n c r];have sub:∀c∈C.eraseIdx i,c∈C:=λc hc=>mE hc
  refine(yg<|JP (ds:=(C.eraseIdx i).map λc=>yl n<|nar (dt n cg r) d (dt n c r) cg c)<|KZ (xs:=C.eraseIdx i) (e:=λc=>.tuple [yl n c,.int<|dt n c r]) ((Xt<|yX (uO J9)<|yX rfl rfl).trans<|qM some<|zip_map _ _ _) (by rw[gY];split<;>omega) λc hc=>?_).trans ?_
  ·refine Ub.trans<|(vF (ds:=[yl n c,.int<|dt n c r,yl n cg,.int<|dt n cg r,.int d])<|yX rfl<|yX rfl<|yX rfl<|yX rfl<|yX (AL K1) rfl).trans<|AM<|XH hn (bd cg Ld) (bd c<|sub c hc) (λx hx=>qr (hC c (sub c hc) x hx)<|by decide) (λx hx=>qr (hC cg Ld x hx)<|by decide) hd hd2
  refine(yg<|Xl rfl<|by show 4<1000;omega).trans ?_;rw[YS];refine(yg<|Ce (d:=.int<|dt n cg r) rfl<|by show 4<1000;omega).trans ?_;rw[Xv];refine(yg<|Xm (ds:=F.map zJ) (j:=i) (d:=zJ g) (es:=T.map zJ) Yq rfl (by rw[qf];omega) (by rw[qp,q6];rfl) (by rw[K3];exact Zl)<|by rw[qf];omega).trans<|(vx rfl).trans ?_;rw[K3,Xu,vy];unfold dv;rw[q9,kb];rfl
def ox(n:Nat)(st:Q3x)(g:Nat):PyData:=.list<|(List.range n).map λb=>.list<|xA n λa=>x8 (st g a b)<|jg n<|st g
abbrev WR:=List<|List Nat×(Nat->Int)
noncomputable def QL(s:Nat)(r0:Z1x)(L:WR):WR:=([],r0)::L.flatMap λq=>(List.range s).map λg=>(q.1++[g],q.2)
def WN(n:Nat)(q:List Nat×(Nat->Int)):PyData:=.tuple [zO q.1,yl n q.2]
def RO(CS:AdX)(n s:Nat)(st:Q3x)(r0:Z1x)(L:WR)(T F:LNt)(C:LZr)(d:Int)(a:Nat):Ob:=du ((List.range s).map<|ox n st) CS (dv n T F C d) (L.map λq=>zO q.1) (L.map λq=>yl n q.2) ((QL s r0 L).map<|WN n)<|zJ a
abbrev AN(n s:Nat)(st:Q3x)(fi:Q1x)(L:WR)(T F:LNt)(C:LZr)(d:Int)(a:Nat):Prop:=WD.DT.RS n s st fi (L.map (·.1)) (L.map (·.2)) T F C d a
structure Bd(n s:Nat)(st:Q3x)(fi:Q1x)(k B m:Nat):Prop where
 hn:n<=42
 hs:s<=42
 hs0:0<s
 hst:∀g a b,g<s->a<n->b<n->bT k (2 ^ 3192) (st g a b)
 hk0:0<k
 hk:k<=2 ^ 3192
 hB:B<=2 ^ 4000
 hP:∀j,j<=m->(n*B) ^ j<2 ^ 9000
 hw:∀u:List Nat,(∀g∈u,g<s)->u.length<=n - 1->∃(M:Rat)(z:Z1x),M≠0/\∀x,x<n->(z x:Rat)=zE n st fi u x*M/\(z x).natAbs<=B
 hm:∀L T F C d a,AN n s st fi L T F C d a->L.length<=m
def V8(hk:k<=2 ^ 3192):Sz k:=Sz.mono hk (Sz.wG<|by decide)
structure IV(n s:Nat)(st:Q3x)(fi:Q1x)(L:WR)(T F:LNt)(C:LZr)(d:Int)(a:Nat):Prop where
 rs:AN n s st fi L T F C d a
 pr:∀q∈L,Prim n q.2
structure R0(n:Nat)(fi:Q1x)(r0:Z1x):Prop where
 ex:∃c:Rat,c≠0/\∀x,x<n->(r0 x:Rat)=c*fi x
 pr:Prim n r0
def Le(s:Nat)(r0:Z1x)(L:WR):queue s (L.map (·.1))=(QL s r0 L).map (·.1):=by
 unfold queue QL;rw[gH,List.flatMap_map,List.map_flatMap];congr 2;funext q;rw[kb];rfl
def XT(s:Nat)(r0:Z1x)(L:WR)(q:List Nat×(Nat->Int)):QL s r0 (L++[q])=QL s r0 L++(List.range s).map λg=>(q.1++[g],q.2):=by
 unfold QL;rw[n8];simp
def Yr(c:Rat):(c.num:Rat)=c*(c.den:Rat):=by
 have e:=j9 (q:=c) (B:=c.den)<|Nat.dvd_refl _;rw[<-e];unfold x8;rw[Nat.div_self c.den_pos];simp
def Zd{z:Z1x}{f:Q1x}{c M:Rat}(h:Prim n r)(hc:c≠0)(hr:∀x,x<n->(r x:Rat)=c*f x)(hM:M≠0)(hz:∀x,x<n->(z x:Rat)=f x*M/\(z x).natAbs<=B):∀x,x<n->(r x).natAbs<=B:=λx hx=>by
 refine qr (h.le (z:=z) (a:=c.num*(M.den:Int)) (b:=M.num*(c.den:Int)) ?_ ?_ (λi hi=>?_) x hx) (hz x hx).2
 ·have:=M.den_pos;exact nk (λe=>hc<|mF.mp e) (by omega)
 ·have:=c.den_pos;exact nk (λe=>hM<|mF.mp e) (by omega)
 ·have h1:=hr i hi;have h2:=(hz i hi).1
  have h3:=Yr c;have h4:=Yr M
  have h5:((c.num*(M.den:Int)*z i:Int):Rat)=((M.num*(c.den:Int)*r i:Int):Rat):=by
   rw[kG,kG,kG,kG,kq,kq,h1,h2,h3,h4];generalize (M.den:Rat)=y1;generalize (c.den:Rat)=y2;grind
  exact_mod_cast h5
section
variable{L:WR}{C:LZr}{d:Int}{a:Nat}
def XU{W:List (List Nat)}(h:WD.DT.RS n s st fi W Rw T F C d a)(hs:0<s){u:LNt}(hu:(queue s W)[a]?=some u)(hF:F≠[]):u.length<n/\∀g∈u,g<s:=by
 have k:=h.rc.keep hu;refine⟨?_,k.signs hs W.length u<|by rw[qF<|qe _,gy];rfl⟩
 have:=k.short hs W.length u (by rw[qF<|qe _,gy];rfl);have f:=h.sp.few
 have:0<F.length:=n6.mpr hF;have l1:=h.len;have l2:=h.lenT
 omega
def IV.wlen(h:IV n s st fi L T F C d a)(hs:0<s){q:List Nat×(Nat->Int)}(hq:q∈L):q.1.length<=n - 1/\∀g∈q.1,g<s:=by
 obtain⟨i,hi⟩:=qP hq;obtain⟨hl,_⟩:=qg.mp hi;have e:(L.map (·.1))[i]?=some q.1:=by rw[qp,hi];rfl
 have h1:=h.rs.rc.short hs i q.1 e;have f:=h.rs.sp.few
 have l1:=h.rs.len;have l2:=h.rs.lenT
 rw[qf,qf] at l1;rw[qf] at l2;exact⟨by omega,h.rs.rc.signs hs i q.1 e⟩
def IV.mult(h:IV n s st fi L T F C d a){q:List Nat×(Nat->Int)}(hq:q∈L):∃c:Rat,c≠0/\∀x,x<n->(q.2 x:Rat)=c*zE n st fi q.1 x:=by
 obtain⟨i,hi⟩:=qP hq;exact h.rs.mult i q.1 q.2 (by rw[qp,hi];rfl) (by rw[qp,hi];rfl)
def IV.abs(h:IV n s st fi L T F C d a)(b:Bd n s st fi k B m){q:List Nat×(Nat->Int)}(hq:q∈L):∀x,x<n->(q.2 x).natAbs<=B:=by
 obtain⟨h1,h2⟩:=h.wlen b.hs0 hq;obtain⟨M,z,hM,hz⟩:=b.hw q.1 h2 h1;obtain⟨c,hc,hr⟩:=h.mult hq;exact Zd (h.pr q hq) hc hr hM hz
def Bd.bits(b:Bd n s st fi k B m){x:Int}(h:x.natAbs<=B):intBits x<=4001:=yZ (qJ (qr h b.hB)<|kO (by decide)<|by decide)
def Bd.pivot(b:Bd n s st fi k B m)(h:IV n s st fi L T F C d a):d.natAbs.log2<9000:=by
 have hd:=h.rs.sp.d0;refine(pR<|by omega).mpr<|qJ (h.rs.sp.V3 (B:=B) ?_ ?_)<|b.hP _ ?_
 ·have:=h.rs.sp.few;omega
 ·intro r hr x hx;obtain⟨q,hq,rfl⟩:=qE.mp<|kd.mp hr;exact h.abs b hq x hx
 ·rw[kC,qf];exact b.hm L T F C d a h.rs
def Bd.check(b:Bd n s st fi k B m)(h:IV n s st fi L T F C d a):∀c∈C,∀x,x<n->intBits (c x)<=400000:=λc hc x hx=>by
 obtain⟨i,hi⟩:=qP hc;have h1:=h.rs.sp.Wn (B:=B) h.rs.sp.few (λr hr x hx=>by
  obtain⟨q,hq,rfl⟩:=qE.mp<|kd.mp hr;exact h.abs b hq x hx) hi x hx
 have h2:(n*B) ^ (L.map (·.2)).reverse.length<2 ^ 9000:=b.hP _ (by rw[kC,qf];exact b.hm L T F C d a h.rs);refine yZ<|qJ h1 ?_;have h3:n*(n*B) ^ (L.map (·.2)).reverse.length<=2 ^ 6*2 ^ 9000:=kY (qr b.hn<|by decide)<|nD h2
 rw[<-Nat.pow_add] at h3;exact qJ h3 (kO (by decide)<|by decide)
def XW(v:LNt)(g:Nat):bS (zO<|v++[g]) (.int<|-1)=some (zJ g):=by
 unfold zO;rw[q9];show eI (v.map (λg:Nat=>PyData.int (g:Int))++[zJ g]) (-1)=_
 unfold eI dZ;rw[qm (by omega),qz,qf,kJ,qj (by omega),qq,show(-1+((v.length+1:Nat):Int)).toNat=v.length by omega,qF (by simp),qf,gy];rfl
def Lf(u:LNt):dA (zO u) (.tuple [])=some (.bool<|decide (u=[])):=by
 have e:zO u=.tuple ((u.map λg:Nat=>(g:Int)).map PyData.int):=by unfold zO;rw[kb];rfl
 rw[e];refine(XI _ []).trans ?_;congr 2;exact nO.mpr (by simp)
end
theorem Lg{bd:PyData->Ro->Option Ro}{b:cx}:∀{ds:LPd} {ρ0:Ro} {fs0:Ob} (P:Nat->Ro->Ob->Prop),P 0 ρ0 fs0->
  (∀i d ρ fs,ds[i]?=some d->P i ρ fs->∃bX ρ2 dG,bd d ρ=some bX/\b bX fs=some (.nx ρ2 dG)/\P (i+1) ρ2 dG)->∃ρ' bU,sI bd b ds ρ0 fs0=some (.nx ρ' bU)/\P ds.length ρ' bU
 |[],ρ0,fs0,P,h0,_=>⟨ρ0,fs0,rfl,h0⟩
 |d::r,ρ0,fs0,P,h0,h=>by
  obtain⟨bX,ρ2,dG,e1,e2,p⟩:=h 0 d ρ0 fs0 rfl h0;obtain⟨ρ',bU,e3,p'⟩:=Lg (ds:=r) (ρ0:=ρ2) (fs0:=dG) (λi=>P<|i+1) p λi d ρ fs e q=>h (i+1) d ρ fs (by simpa using e) q
  refine⟨ρ',bU,?_,p'⟩;unfold sI;rw[e1,qq,e2];exact e3
section
variable{L:WR}{C:LZr}{d:Int}{a:Nat}
def XX{fs:Ob}{x:PdX}:VU fs [zO [],x]=some (x,fs):=UR rfl<|VP<|(EH<|zB<|(zg rfl rfl).trans<|Lf []).trans<|vx rfl
def XY(b:Bd n s st fi k B m){v:LNt}{g:Nat}{p:Z1x}{c:Rat}(hg:g<s)(hb:∀x,x<n->(p x).natAbs<=B)(hc:c≠0)(hp:∀x,x<n->(p x:Rat)=c*zE n st fi v x):∃(r:Z1x)(c':Rat),VU (RO CS n s st r0 L T F C d a) [zO<|v++[g],yl n p]=some (yl n r,RO CS n s st r0 L T F C d a)/\c'≠0/\(∀x,x<n->(r x:Rat)=c'*zE n st fi (v++[g]) x)/\Prim n r:=by
 have hn:=b.hn;obtain⟨_,w1,w2,w3⟩:=Vl (n:=n) (M:=k) (f:=st g) b.hn b.hk0 (V8 b.hk) (V8<|qe _) λa' b'=>b.hst g a' b' hg;have ht:∀a' b',a'<n->b'<n->(x8 (st g a' b')<|jg n<|st g).natAbs<=2 ^ 3192:=λa' b' ha fg=>BE (b.hst g a' b' hg ha fg) w2<|j9<|w3 a' b' ha fg
 have h8:(2:Nat) ^ 3192<=2 ^ 3192:=qe _;have e1:=Xf (n:=n) (t:=p) (c:=λa' b'=>x8 (st g a' b')<|jg n<|st g) (by omega) (λa' ha=>qr (b.bits<|hb a' ha)<|by decide) λa' b' ha fg=>qr (yZ (m:=3193)<|qJ (qr (ht a' b' ha fg) h8)<|kO (by decide)<|by decide) (by decide)
 obtain⟨r,g',e2,dg,hr,XZ⟩:=ui (n:=n) (f:=λb'=>yz n λa'=>p a'*x8 (st g a' b') (jg n<|st g)) (by omega) λb' fg=>by
  have h1:=JC (f:=λa'=>p a'*x8 (st g a' b') (jg n<|st g)) (B:=2 ^ 4000*2 ^ 3192) n λa' ha=>by
   rw[kE];exact kY (qr (hb a' ha) b.hB)<|qr (ht a' b' ha fg) h8
  refine yZ<|qJ (qr h1<|kD _<|show n<=2 ^ 6 by omega) ?_;rw[<-Nat.pow_add,<-Nat.pow_add];exact kO (by decide) (by decide)
 have hL:((jg n (st g):Nat):Rat)≠0:=y0 w1;have hG:(g':Rat)≠0:=y0 dg
 refine⟨r,c*(jg n (st g):Nat) / (g':Rat),?_,?_,λx hx=>?_,XZ⟩
 ·refine UR rfl<|(yg<|(EI<|zB<|(zg rfl rfl).trans<|(Lf _).trans ?_).trans rfl).trans<|vx ?_
  ·rw[qN<|by simp]
  ·refine(vF<|yX (d:=.list<|xA n λb'=>yz n λa'=>p a'*x8 (st g a' b') (jg n<|st g)) ((vF<|yX rfl<|yX (d:=ox n st g) ((u7 (uO K4) (y:=zJ g)<|(zg rfl rfl).trans<|XW v g).trans<|JW hg) rfl).trans<|AM e1) rfl).trans<|AM e2
 ·intro z;have h1:c*(jg n (st g):Nat) / (g':Rat)*(g':Rat)=c*((jg n (st g):Nat):Rat):=k7 hG;rw[z,ki] at h1;rcases kh.mp h1.symm with z|z
  ·exact hc z
  ·exact hL z
 ·have h1:((yz n (λa'=>p a'*x8 (st g a' x) (jg n<|st g)):Int):Rat)=led n (zE n st fi v) (st g) x*(c*(jg n (st g):Nat)):=by
   rw[JV];unfold led;rw[<-zC];exact zb n λa' ha=>by
    rw[kG,hp a' ha,j9<|w3 a' x ha hx];grind
  rw[hr x hx,kG,kq] at h1;rw[wk];generalize led n (zE n st fi v) (st g) x=y at h1 ⊢;generalize ((r x:Int):Rat)=y2 at h1 ⊢;grind
def ZA(u:LNt)(g:Nat)(hu:u.length<=1000):uY (zO u) (.tuple [zJ g])=some (zO<|u++[g]):=by
 unfold zO;show(if (u.map (λg:Nat=>PyData.int (g:Int))).length+[zJ g].length<=16777216 then _ else _)=_
 rw[qj (by rw[qf,kJ];omega),q9];rfl
def X0{ss ws wt:LPd}{sp:Ob}{x:PdX}{u:LNt}(hs:ss.length=s)(dS:s<=1000)(hu:u.length<=1000)(hw:ws.length<=1000)(hr:rs.length<=1000)(hwt:wt.length<=1000000):Zz (du ss CS sp ws rs wt x) [zO u,yl n r]=some (.none,du ss CS sp (ws++[zO u]) (rs++[yl n r]) (wt++(List.range s).map λg=>WN n (u++[g],r)) x):=by
 obtain⟨ρ',bU,e,o,rfl,rfl⟩:=Lg (bd:=bN 3) (b:=oj "waiting" λρ x=>xm (aC (bM uY ag<|xm<|aC aO a0)<|aC am a0) ρ) (ds:=jT 0 s) (ρ0:=[.no,.pu<|zO u,.pu<|yl n r,.no]) (fs0:=du ss CS sp (ws++[zO u]) (rs++[yl n r]) wt x)
  (λi ρ fs=>∃o,ρ=[.no,.pu<|zO u,.pu<|yl n r,o]/\fs=du ss CS sp (ws++[zO u]) (rs++[yl n r]) (wt++(List.range i).map λg=>WN n (u++[g],r)) x) ⟨.no,rfl,by simp⟩
  (λi dd ρ fs hd ⟨o,e1,e2⟩=>by
   subst e1 e2;obtain⟨hi,rfl⟩:=HW hd;refine⟨_,_,_,rfl,EJ (d:=WN n (u++[i],r)) Uz ?_ ?_,.pu<|zJ i,rfl,?_⟩
   ·refine(j3 (zm ((zg rfl<|j3 rfl<|by show 1<=16777216;omega).trans<|ZA u i hu) rfl)<|by show 2<=16777216;omega)
   ·rw[qz,qf,qw];omega
   ·rw[XB,gM,q9,g0];rfl)
 rw[show(jT 0 s).length=s by simp[jT]] at e;refine EL (ρ':=[.no,.pu<|zO u,.pu<|yl n r,o]) rfl<|(yg<|EJ K5 rfl<|by omega).trans ?_;rw[Xz];refine(yg<|EJ EN rfl<|by omega).trans ?_;rw[XA];have e2:sH (cn (cb yh<|cn (gg "steps") cz) cz) [.no,.pu<|zO u,.pu<|yl n r,.no] (du ss CS sp (ws++[zO u]) (rs++[yl n r]) wt x)=some (jT 0 s):=by
  unfold sH;rw[yX (d:=.int (s:Int)) ((vF<|yX (uO K4) rfl).trans<|by rw[<-hs];rfl) rfl];show(if -(2 ^ 62)<=(s:Int)/\(s:Int)<2 ^ 62 then some (jT 0 (s:Int).toNat) else none)=_
  rw[qj (by constructor<;>omega),ky]
 unfold rC;show(sH (cn (cb yh<|cn (gg "steps") cz) cz) [.no,.pu<|zO u,.pu<|yl n r,.no]<|du ss CS sp (ws++[zO u]) (rs++[yl n r]) wt x).bind _=_
 rw[e2,qq];exact e
def Lh(b:Bd n s st fi k B m)(hf:∀i,i<n->bT k0 (2 ^ 3192) (fi i))(hk0:0<k0)(hk:k0<=2 ^ 3192):∃r0,Jl CS [] [zt n s fi st la]=some (.none,RO CS n s st r0 [] [] (List.range n) ((List.range n).map xC) 1 0)/\R0 n fi r0:=by
 have hn:=b.hn;have hs:=b.hs
 obtain⟨r0,c,e0,hc,hr,hp⟩:=K6 b.hn hk0 (V8 hk) (V8<|qe _) hf;refine⟨r0,?_,⟨c,hc,hr⟩,hp⟩;refine EL (ρ':=[.no,.pu<|zt n s fi st la]) rfl ?_;show KR CS [.no,.pu<|zt n s fi st la] []=_
 have e1:zQ 1 [] (yc<|bM bS ag<|cst<|PyData.int 1) aq (bM bS (zi v5<|aC af a0)<|cst<|PyData.int 0) [.no,.pu<|zt n s fi st la]=some ((List.range s).map<|ox n st):=by
  refine zS (xs:=List.range s) (e:=λg=>yG n<|st g) (d:=ox n st) (vL<|(zg rfl rfl).trans jB) (by rw[qw];omega) λg hg=>?_
  obtain⟨w0,_⟩:=Vl (n:=n) (M:=k) (f:=st g) b.hn b.hk0 (V8 b.hk) (V8<|qe _) λa' b'=>b.hst g a' b'<|qx.mp hg;exact yr.trans<|(zg ((ze rfl).trans w0) rfl).trans rfl
 have e2:iw Yn (aC (zi yh<|aC (bM bS ag<|cst<|PyData.int 0) a0) a0) [.no,.pu<|zt n s fi st la]=some (dv n [] (List.range n) ((List.range n).map xC) 1):=by
  unfold iw;rw[show aC (zi yh<|aC (bM bS ag<|cst<|PyData.int 0) a0) a0 [.no,.pu<|zt n s fi st la]=some [zJ n] from zm ((ze<|zm ((zg rfl rfl).trans vb) rfl).trans<|xO n _) rfl,qq,XM<|by omega]
 have l1:=vY "steps" (.ow<|(List.range s).map<|ox n st) [];rw[List.length_nil] at l1;refine(yg<|Jb (ds:=(List.range s).map<|ox n st) ?_<|by show 0<1000;omega).trans ?_
 ·exact e1
 have l2:=vY "span" (.ob CS<|dv n [] (List.range n) ((List.range n).map xC) 1)<|zR "steps" (.ow<|(List.range s).map<|ox n st) [];refine(yg<|Xh (gs:=dv n [] (List.range n) ((List.range n).map xC) 1) ?_<|by omega).trans ?_
 ·exact e2
 generalize eF:zR "span" (.ob CS<|dv n [] (List.range n) ((List.range n).map xC) 1) (zR "steps" (.ow<|(List.range s).map<|ox n st) [])=dQ at l2 ⊢;have l3:=vY "words" (.ow []) dQ;refine(yg<|Jb (ds:=[]) (J8 rfl<|by decide)<|by omega).trans ?_;have l4:=vY "rows" (.ow [])<|zR "words" (.ow []) dQ
 refine(yg<|Jb (ds:=[]) (J8 rfl<|by decide)<|by omega).trans ?_;have l5:=vY "waiting" (.ow [WN n ([],r0)])<|zR "rows" (.ow [])<|zR "words" (.ow []) dQ;refine(yg<|Jb (ds:=[WN n ([],r0)]) (J8 (zm (j3 (zm (j3 rfl<|by show 0<=16777216;omega)<|zm ((ze<|zm ((zg rfl rfl).trans vb) rfl).trans<|AM e0) rfl)<|by show 2<=16777216;omega) rfl)<|by show 1<=16777216;omega)<|by omega).trans ?_;refine(Ce (d:=.int 0) rfl<|by omega).trans ?_;rw[<-eF,XD];rfl
end
abbrev Ci(CS:AdX):Ro->Ob->Option (Bool×Ob):=(rB (om<|oo<|dH (lS λi j=>decide (i<j)) (gf "asked")<|cb yh<|cn (gg "waiting") cz)<|Ay<|iN<|ir CS "span" "full" YN cz)
abbrev Cj(CS:AdX):cx:=(cu (oset 1<|dH bS (dH bS (gg "waiting")<|gf "asked") λρ x=>cst (PyData.int 0) ρ)<|cu (fX 2<|d7 "row_led_on" VU<|cn (λρ x=>gv 1 ρ)<|cn (dH bS (dH bS (gg "waiting")<|gf "asked") λρ x=>cst (PyData.int 1) ρ) cz)<|cu (oi "asked"<|dH xN (gf "asked") λρ x=>cst (PyData.int 1) ρ)<|ZZ (iN<|ir CS "span" "take" VN<|cn (λρ x=>gv 2 ρ) cz) (cu (sC<|d7 "keep" Zz<|cn (λρ x=>gv 1 ρ)<|cn (λρ x=>gv 2 ρ) cz)<|da λρ x=>gv 2 ρ) bO)
abbrev sV:Ro->Ob->Option (Bool×Ob):=(om λρ x=>zy (bM Zp bv<|cst PyData.none) ρ)
abbrev sW(CS:AdX):cx:=(cu (ll (λρ x=>zy (bM cM (zi yp<|aC bv<|aC aO a0)<|cst<|PyData.int 0) ρ) (da<|iO<|cn (dH bS (gg "words") λρ x=>dI Z1 (cst<|PyData.int 1) ρ)<|cn (rG<|sJ (gg "rows") o0<|oS<|dI Z1<|cst<|PyData.int 1) cz) bO)<|fX 5<|d7 "onward" (ja CS) cz)
section
variable{c:Ro->Ob->Option (Bool×Ob)}{b:cx}{f:Nat}{ρ2:Ro}{fs dG:Ob}
def ZC{mm:Ro->Ob->Nat}{r:Option oh}(hN:mm ρ fs=N)(e:JT c b N ρ fs=r):iu mm c b ρ fs=r:=by
 unfold iu;rw[hN];exact e
def UQ(h:c ρ fs=some (false,bU)):JT c b (f+1) ρ fs=some (.nx ρ bU):=by unfold JT;rw[h];rfl
def Ck(h:c ρ fs=some (true,bU))(h2:b ρ bU=some (.nx ρ2 dG)):JT c b (f+1) ρ fs=JT c b f ρ2 dG:=by
 rw[JT,h,qq,qj rfl,h2]
def Li(h:c ρ fs=some (true,bU))(h2:b ρ bU=some (.rt d dG)):JT c b (f+1) ρ fs=some (.rt d dG):=by
 rw[JT,h,qq,qj rfl,h2]
end
section
variable{L:WR}{C:LZr}{d:Int}{a:Nat}
def IV.skip(h:IV n s st fi L T F C d a){u:LNt}{c:Rat}(hu:(queue s (L.map (·.1)))[a]?=some u)(hc:c≠0)(e:∀x,x<n->(r x:Rat)=c*zE n st fi u x)(hz:∀k∈C,dt n k r=0):IV n s st fi L T F C d (a+1):=⟨h.rs.skip hu hc e hz,h.pr⟩
def IV.keep(h:IV n s st fi L T F C d a){u:LNt}{c:Rat}{g:Nat}(hu:(queue s (L.map (·.1)))[a]?=some u)(hc:c≠0)(e:∀x,x<n->(r x:Rat)=c*zE n st fi u x)(hr:Prim n r)(hi:C[i]?=some cg)(hg:F[i]?=some g)(hp:dt n cg r≠0):IV n s st fi (L++[(u,r)]) (T++[g]) (F.eraseIdx i) ((C.eraseIdx i).map λc=>nar (dt n cg r) d (dt n c r) cg c) (dt n cg r) (a+1):=by
 refine⟨?_,λq hq=>?_⟩
 ·have:=h.rs.keep hu hc e hi hg hp;unfold AN;rw[q9,q9];exact this
 ·rcases qu.mp hq with z|z
  ·exact h.pr q z
  ·rw[qY.mp z];exact hr
def Lj:(QL s r0 L).length=1+L.length*s:=by
 unfold QL;rw[ke,List.length_flatMap]
 have:(L.map λq=>((List.range s).map λg=>(q.1++[g],q.2)).length)=List.replicate L.length s:=by
  rw[List.eq_replicate_iff];exact⟨by simp,λx hx=>by
   obtain⟨q,_,e⟩:=qE.mp hx;rw[<-e];simp⟩
 rw[this,List.sum_replicate_nat];omega
def IV.lens(h:IV n s st fi L T F C d a):L.length=T.length/\T.length+F.length=n/\C.length=F.length:=by
 have l1:=h.rs.len;have l2:=h.rs.lenT
 rw[qf,qf] at l1;rw[qf] at l2;exact⟨l2.symm,h.rs.sp.few,h.rs.sp.lenC⟩
def U9:Ci CS ρ (RO CS n s st r0 L T F C d a)=some (decide (a<(QL s r0 L).length)&&!decide (F=[]),RO CS n s st r0 L T F C d a):=by
 have e1:om (oo<|dH (lS λi j=>decide (i<j)) (gf "asked")<|cb yh<|cn (gg "waiting") cz) ρ (RO CS n s st r0 L T F C d a)=some (decide (a<(QL s r0 L).length),RO CS n s st r0 L T F C d a):=by
  refine Cg<|Xo<|(u7 (AL Zj) (y:=.int ((QL s r0 L).length:Int))<|(vF<|yX (uO Uz) rfl).trans ?_).trans ?_
  ·show some (PyData.int (((QL s r0 L).map<|WN n).length:Int))=_
   rw[qf]
  ·show some (PyData.bool<|decide ((a:Int)<((QL s r0 L).length:Int)))=_
   congr 2
   exact nO.mpr (by omega)
 by_cases h:a<(QL s r0 L).length
 ·rw[qG h] at e1 ⊢;refine(Xq e1).trans<|(Xp<|ZQ<|EK Yj EM rfl EO).trans ?_;rw[bw];show some (_,zR "span" (.ob CS<|dv n T F C d)<|du _ _ _ _ _ _ _)=_
  rw[Zo];rfl
 ·rw[qN h] at e1 ⊢;exact Xr e1
def X1(b:Bd n s st fi k B m)(z:R0 n fi r0):∀(j fuel a:Nat)(o1 o2:Sl),j<fuel->(QL s r0 L).length - a<=j->IV n s st fi L T F C d a->
  (∃a' X2 X3,JT (Ci CS) (Cj CS) fuel [.no,o1,o2] (RO CS n s st r0 L T F C d a)=some (.nx [.no,X2,X3]<|RO CS n s st r0 L T F C d a')/\IV n s st fi L T F C d a'/\((queue s (L.map (·.1))).length<=a'\/F=[]))\/
  ∃(a':Nat)(u:LNt)(r:Z1x)(c:Rat)(i:Nat)(cg:Z1x)(g:Nat),IV n s st fi L T F C d a'/\(queue s (L.map (·.1)))[a']?=some u/\F≠[]/\c≠0/\(∀x,x<n->(r x:Rat)=c*zE n st fi u x)/\Prim n r/\
   IV n s st fi (L++[(u,r)]) (T++[g]) (F.eraseIdx i) ((C.eraseIdx i).map λc=>nar (dt n cg r) d (dt n c r) cg c) (dt n cg r) (a'+1)/\
   JT (Ci CS) (Cj CS) fuel [.no,o1,o2] (RO CS n s st r0 L T F C d a)=some (.rt (yl n r)<|RO CS n s st r0 (L++[(u,r)]) (T++[g]) (F.eraseIdx i) ((C.eraseIdx i).map λc=>nar (dt n cg r) d (dt n c r) cg c) (dt n cg r)<|a'+1):=by
 have eql:(queue s (L.map (·.1))).length=(QL s r0 L).length:=by rw[Le s r0,qf]
 intro j;induction j with
 |zero=>
  intro fuel a o1 o2 hf hj h;obtain⟨f,rfl⟩:∃f,fuel=f+1:=⟨fuel - 1,by omega⟩;refine .inl ⟨a,o1,o2,UQ<|U9.trans ?_,h,.inl<|by omega⟩;rw[qN (by omega),bf]
 |succ j ih=>
  intro fuel a o1 o2 hf hj h;obtain⟨f,rfl⟩:∃f,fuel=f+1:=⟨fuel - 1,by omega⟩;by_cases ha:a<(QL s r0 L).length
  ·by_cases hF:F=[]
   ·refine .inl ⟨a,o1,o2,UQ<|U9.trans ?_,h,.inr hF⟩;rw[qG hF,Bool.not_true,bg]
   ·have et:Ci CS [.no,o1,o2] (RO CS n s st r0 L T F C d a)=some (true,RO CS n s st r0 L T F C d a):=U9.trans (by rw[qG ha,qN hF];rfl);obtain⟨q,hq⟩:∃q,(QL s r0 L)[a]?=some q:=⟨_,qk ha⟩;have hu:(queue s (L.map (·.1)))[a]?=some q.1:=by rw[Le s r0,qp,hq];rfl
    obtain⟨l1,l2,l3⟩:=h.lens;have hn:=b.hn;have hs:=b.hs
    obtain⟨u1,u2⟩:=XU h.rs b.hs0 hu hF;have hrow:∃(r:Z1x)(c:Rat),VU (RO CS n s st r0 L T F C d a) [zO q.1,yl n q.2]=some (yl n r,RO CS n s st r0 L T F C d a)/\c≠0/\(∀x,x<n->(r x:Rat)=c*zE n st fi q.1 x)/\Prim n r:=by
     have hm:q∈QL s r0 L:=qI hq;unfold QL at hm;rcases qy.mp hm with w|w
     ·subst w;obtain⟨c,hc,hr⟩:=z.ex;exact⟨r0,c,XX,hc,hr,z.pr⟩
     ·obtain⟨q',eU,w⟩:=pM.mp w;obtain⟨g,hg,w⟩:=qE.mp w;subst w;obtain⟨c,hc,hr⟩:=h.mult eU;exact XY (v:=q'.1) (p:=q'.2) b (qx.mp hg) (λx hx=>h.abs b eU x hx) hc hr
    obtain⟨r,c,er,hc,hr,hp⟩:=hrow;have hM:=b.hw q.1 u2<|Nat.le_sub_one_of_lt u1;have iA:∀x,x<n->(r x).natAbs<=B:=by
     obtain⟨M,zz,hM,hz⟩:=hM;exact Zd hp hc hr hM hz
    have ew:∀ρ:Ro,dH bS (gg "waiting") (gf "asked") ρ (RO CS n s st r0 L T F C d a)=some (WN n q):=λρ=>(u7 (uO Uz)<|AL Zj).trans (VC<|by rw[qp,hq];rfl)
    have s1:Cj CS [.no,o1,o2] (RO CS n s st r0 L T F C d a)=ZZ (iN<|ir CS "span" "take" VN<|cn (λρ x=>gv 2 ρ) cz) (cu (sC<|d7 "keep" Zz<|cn (λρ x=>gv 1 ρ)<|cn (λρ x=>gv 2 ρ) cz)<|da λρ x=>gv 2 ρ) bO [.no,.pu<|zO q.1,.pu<|yl n r] (RO CS n s st r0 L T F C d<|a+1):=by
     refine(yg<|Jo (d:=zO q.1)<|(u7 (ew _) rfl).trans rfl).trans ?_;refine(yg<|Cf<|uD Xx (yX rfl<|yX ((u7 (ew _) rfl).trans rfl) rfl) er).trans ?_;refine(yg<|Ce (d:=zJ<|a+1) ((u7 (AL Zj) rfl).trans rfl)<|by show 6<1000;omega).trans ?_;show ZZ _ _ _ _ (zR "asked" (.pu<|zJ<|a+1)<|du _ _ _ _ _ _ _)=_
     rw[XC];rfl
    rcases XS (n:=n) (T:=T) (F:=F) (C:=C) (d:=d) (r:=r) (by omega) l3 (by omega) (by omega) (b.check h) (λx hx=>qr (b.bits<|iA x hx)<|by decide) h.rs.sp.d0 (b.pivot h) with⟨hz,e⟩|⟨i,cg,g,hi,hg,X4,e⟩
    ·have s2:Cj CS [.no,o1,o2] (RO CS n s st r0 L T F C d a)=some (.nx [.no,.pu<|zO q.1,.pu<|yl n r]<|RO CS n s st r0 L T F C d<|a+1):=by
      refine s1.trans<|(KY<|ZQ<|EK Yj K2 (yX rfl rfl) e).trans ?_;show some (oh.nx _<|zR "span" (.ob CS<|dv n T F C d)<|du _ _ _ _ _ _ _)=_
      rw[Zo];rfl
     rw[Ck et s2];exact ih f (a+1) _ _ (by omega) (by omega)<|h.skip hu hc hr hz
    ·right
     refine⟨a,q.1,r,c,i,cg,g,h,hu,hF,hc,hr,hp,h.keep hu hc hr hp hi hg X4,Li et<|s1.trans<|(KW<|ZQ<|EK Yj K2 (yX rfl rfl) e).trans ?_⟩;show cu _ _ _ (zR "span" (.ob CS<|dv n _ _ _ _)<|du _ _ _ _ _ _ _)=_
     rw[Zo];have ER:(QL s r0 L).length<=1000000:=by
      rw[Lj]
      have:L.length*s<=42*42:=kY (by omega) hs;omega
     refine(yg<|Xi<|uD Xy (yX rfl<|yX rfl rfl)<|X0 (s:=s) (by simp) (by omega) (by omega) (by rw[qf];omega) (by rw[qf];omega)<|by rw[qf];exact ER).trans<|(vx rfl).trans ?_;unfold RO;rw[XT,q9,q9,q9,kb];rfl
  ·refine .inl ⟨a,o1,o2,UQ<|U9.trans ?_,h,.inl<|by omega⟩;rw[qN ha,bf]
def JX(b:Bd n s st fi k B m)(z:R0 n fi r0)(h:IV n s st fi L T F C d a):(∃a',ja CS (RO CS n s st r0 L T F C d a) []=some (.none,RO CS n s st r0 L T F C d a')/\IV n s st fi L T F C d a'/\((queue s (L.map (·.1))).length<=a'\/F=[]))\/
  ∃(a':Nat)(u:LNt)(r:Z1x)(c:Rat)(i:Nat)(cg:Z1x)(g:Nat),IV n s st fi L T F C d a'/\(queue s (L.map (·.1)))[a']?=some u/\F≠[]/\c≠0/\(∀x,x<n->(r x:Rat)=c*zE n st fi u x)/\Prim n r/\
   IV n s st fi (L++[(u,r)]) (T++[g]) (F.eraseIdx i) ((C.eraseIdx i).map λc=>nar (dt n cg r) d (dt n c r) cg c) (dt n cg r) (a'+1)/\
   ja CS (RO CS n s st r0 L T F C d a) []=some (yl n r,RO CS n s st r0 (L++[(u,r)]) (T++[g]) (F.eraseIdx i) ((C.eraseIdx i).map λc=>nar (dt n cg r) d (dt n c r) cg c) (dt n cg r)<|a'+1):=by
 obtain⟨l1,l2,l3⟩:=h.lens;have hn:=b.hn;have ER:(QL s r0 L).length<1000000:=by
  rw[Lj]
  have:L.length*s<=42*42:=kY (by omega) b.hs;omega
 have key:=X1 (CS:=CS) b z (QL s r0 L).length 1000000 a .no .no ER (Nat.sub_le _ _) h;generalize hN:(1000000:Nat)=N at key;rcases key with⟨a',o1,o2,e,h',hd⟩|⟨a',u,r,c,i,cg,g,h1,h2,h3,h4,h5,h6,h7,e⟩
 ·exact .inl ⟨a',UR rfl<|(yg<|ZC hN e).trans<|vx rfl,h',hd⟩
 ·exact .inr ⟨a',u,r,c,i,cg,g,h1,h2,h3,h4,h5,h6,h7,UR rfl<|VP<|ZC hN e⟩
end
def Lk{fs:Ob}(e:ga ρ fs=some ds)(hl:ds.length<=16777216):iO ga ρ fs=some (.tuple ds):=by unfold iO;rw[e,qq,qj hl]
def X5{h:cc}{fs:Ob}(e:h ρ fs=some d):ZP h ρ fs=some (.rf d):=by unfold ZP;rw[e];rfl
def X6{f:cc}{l h:Ro->Option (Option Int)}{fs:Ob}{lo hi:Option Int}(e:f ρ fs=some (.list ds))(e1:l ρ=some lo)(e2:h ρ=some hi):sJ f l h ρ fs=some (cut ds lo hi):=by unfold sJ;rw[e];dsimp only;rw[e1,qq,e2];rfl
def ES{f:OLx}{fs:Ob}(e:f ρ fs=some ds):rG f ρ fs=some (.list ds):=by unfold rG;rw[e];rfl
def X7(xs:LPd)(x:PdX):bS (.list<|xs++[x]) (.int<|-1)=some x:=by
 show eI (xs++[x]) (-1)=_
 unfold eI dZ;rw[qm (by omega),qz,kJ,qj (by omega),qq,show(-1+((xs.length+1:Nat):Int)).toNat=xs.length by omega,qF<|qe _,gy];rfl
def X8(xs:LPd)(x:PdX):cut (xs++[x]) none (some<|-1)=xs:=by
 unfold cut HT.sIx;dsimp only;rw[qj (by omega),qz,kJ,show(-1+((xs.length+1:Nat):Int)).toNat=xs.length by omega,List.drop_zero,Nat.sub_zero,List.take_append_of_le_length<|qe _,gP]
section
variable{L:WR}{C:LZr}{d:Int}{a:Nat}{rl:Z1x}
def lp(n s:Nat)(st:Q3x)(fi la:Q1x)(L:WR):Prop:=∃T F C d a,IV n s st fi L T F C d a/\((queue s (L.map (·.1))).length<=a\/F=[])/\∀q∈L,wt n st fi la q.1=0
def Cm(n s:Nat)(st:Q3x)(fi la:Q1x)(L:WR)(u:LNt):Prop:=∃T F C d a,IV n s st fi L T F C d a/\(queue s (L.map (·.1)))[a]?=some u/\F≠[]/\(∀q∈L,wt n st fi la q.1=0)/\wt n st fi la u≠0
def X9(b:Bd n s st fi k B m)(z:R0 n fi r0){cl:Rat}(ff:cl≠0)(hl:∀x,x<n->(rl x:Rat)=cl*la x)(ET:∀x,x<n->intBits (rl x)<=4000){d0 d1 d2:PdX}:∀(j fuel:Nat)(L:WR)(T F:LNt)(C:LZr)(d:Int)(a:Nat)(o:Sl),F.length<=j->j+1<fuel->IV n s st fi L T F C d a->(∀q∈L,wt n st fi la q.1=0)->
  ∃bX dQ,fX 5 (d7 "onward" (ja CS) cz) [.pu d0,.pu d1,.pu d2,.pu<|yl n rl,.no,o] (RO CS n s st r0 L T F C d a)=some (.nx bX dQ)/\
   ((∃(L':WR)(T' F':LNt)(C':LZr)(d':Int)(a':Nat)(ρ2:Ro),JT sV (sW CS) fuel bX dQ=some (.nx ρ2<|RO CS n s st r0 L' T' F' C' d' a')/\lp n s st fi la L')\/
    (∃(L':WR)(u:LNt)(dG:Ob),JT sV (sW CS) fuel bX dQ=some (.rt (.tuple [zO u,.list<|L'.map λq=>yl n q.2]) dG)/\Cm n s st fi la L' u)):=by
 intro j;induction j with
 |zero=>
  intro fuel L T F C d a o hF hf h h0;have EU:F=[]:=gI.mp (by omega);obtain⟨f,rfl⟩:∃f,fuel=f+1:=⟨fuel - 1,by omega⟩;rcases JX (CS:=CS) b z h with⟨a',e,h',hd⟩|⟨a',u,r,c,i,cg,g,h1,h2,h3,_⟩
  ·exact⟨_,_,Cf<|uD v9 rfl e,.inl ⟨L,T,F,C,d,a',_,UQ<|Cg<|zB rfl,T,F,C,d,a',h',hd,h0⟩⟩
  ·exact absurd EU h3
 |succ j ih=>
  intro fuel L T F C d a o hF hf h h0;obtain⟨f,rfl⟩:∃f,fuel=f+1:=⟨fuel - 1,by omega⟩;rcases JX (CS:=CS) b z h with⟨a',e,h',hd⟩|⟨a',u,r,c,i,cg,g,h1,h2,h3,h4,h5,h6,h7,e⟩
  ·exact⟨_,_,Cf<|uD v9 rfl e,.inl ⟨L,T,F,C,d,a',_,UQ<|Cg<|zB rfl,T,F,C,d,a',h',hd,h0⟩⟩
  ·refine⟨_,_,Cf<|uD v9 rfl e,?_⟩;have hn:=b.hn;have et:sV [.pu d0,.pu d1,.pu d2,.pu<|yl n rl,.no,.pu<|yl n r] (RO CS n s st r0 (L++[(u,r)]) (T++[g]) (F.eraseIdx i) ((C.eraseIdx i).map λc=>nar (dt n cg r) d (dt n c r) cg c) (dt n cg r)<|a'+1)=some (true,RO CS n s st r0 (L++[(u,r)]) (T++[g]) (F.eraseIdx i) ((C.eraseIdx i).map λc=>nar (dt n cg r) d (dt n c r) cg c) (dt n cg r)<|a'+1):=Cg<|zB rfl
   have hb:∀x,x<n->(r x).natAbs<=B:=λx hx=>h7.abs b (q:=(u,r)) (qu.mpr<|.inr<|qY.mpr rfl) x hx
   have ew:=EF (n:=n) (f:=r) (g:=rl) (by omega) λx hx=>⟨qr (b.bits<|hb x hx) (by decide),qr (ET x hx)<|by decide⟩
   have hv:((dt n r rl:Int):Rat)=wt n st fi la u*(c*cl):=by
    show((yz n (λx=>r x*rl x):Int):Rat)=_
    rw[JV];unfold wt;rw[<-zC];exact zb n λx hx=>by
     rw[kG,h5 x hx,hl x hx];grind
   have Cn:zy (bM cM (zi yp<|aC bv<|aC aO a0)<|cst<|PyData.int 0) [.pu d0,.pu d1,.pu d2,.pu<|yl n rl,.no,.pu<|yl n r]=some (!decide (dt n r rl=0)):=zB<|(zg ((ze rfl).trans ew) rfl).trans<|jW _ 0;by_cases hz:dt n r rl=0
   ·rw[qG hz] at Cn;have hw0:wt n st fi la u=0:=by
     rw[hz] at hv;rcases kh.mp (show wt n st fi la u*(c*cl)=0 from hv.symm) with q|q
     ·exact q
     ·rcases kh.mp q with q|q
      ·exact absurd q h4
      ·exact absurd q ff
    obtain⟨hi,_⟩:i<F.length/\True:=by
     refine⟨?_,trivial⟩;refine kH λq=>?_
     have fj:=h7.lens;have eV:=h1.lens
     rw[gY,qm q,qz,kJ] at fj;omega
    have EV:(F.eraseIdx i).length<=j:=by rw[gY,qj hi];omega
    obtain⟨bX,dQ,e1,e2⟩:=ih f (L++[(u,r)]) (T++[g]) (F.eraseIdx i) _ _ (a'+1) (.pu<|yl n r) EV (by omega) h7 (λq hq=>by
     rcases qu.mp hq with w|w
     ·exact h0 q w
     ·rw[qY.mp w];exact hw0)
    have eb:sW CS [.pu d0,.pu d1,.pu d2,.pu<|yl n rl,.no,.pu<|yl n r] (RO CS n s st r0 (L++[(u,r)]) (T++[g]) (F.eraseIdx i) ((C.eraseIdx i).map λc=>nar (dt n cg r) d (dt n c r) cg c) (dt n cg r)<|a'+1)=some (.nx bX dQ):=(yg<|(EI Cn).trans rfl).trans e1;rcases e2 with⟨L',T',F',C',d',a2,ρ2,e3,w⟩|⟨L',u',dG,e3,w⟩
    ·exact .inl ⟨L',T',F',C',d',a2,ρ2,(Ck et eb).trans e3,w⟩
    ·exact .inr ⟨L',u',dG,(Ck et eb).trans e3,w⟩
   ·rw[qN hz] at Cn;refine .inr ⟨L,u,_,Li et<|VP<|(EH Cn).trans<|vx ?_,T,F,C,d,a',h1,h2,h3,h0,λq=>?_⟩
    ·refine Lk (yX (d:=zO u) ((u7 (uO K5) rfl).trans ?_)<|yX (d:=.list<|L.map λq=>yl n q.2) ?_ rfl) (by show 2<=16777216;omega)
     ·rw[q9];exact X7 _ _
     ·refine(ES<|X6 (lo:=none) (hi:=some<|-1) (uO EN) rfl rfl).trans ?_;rw[q9];exact qM some<|qM PyData.list<|X8 _ _
    ·rw[q,ki] at hv;exact hz (by exact_mod_cast hv)
def Cm.first{u:LNt}(h:Cm n s st fi la L u)(hs:0<s):wt n st fi la u≠0/\u.length<n/\(∀g∈u,g<s)/\∀w,(∀g∈w,g<s)->cd s w<cd s u->wt n st fi la w=0:=by
 obtain⟨T,F,C,d,a,h1,h2,h3,h4,h5⟩:=h;obtain⟨w1,w2,w3⟩:=h1.rs.first (la:=la) hs h2 h3 λv hv=>by
  obtain⟨q,hq,rfl⟩:=qE.mp hv;exact h4 q hq
 exact⟨h5,w2,w3,w1⟩
end
section
abbrev EW(CS:AdX):Ro->Ob->Option (Bool×Ob):=AA<|d7 "onward" (ja CS) cz
def Ll{f:Ro->Option Ob}{g:cx}{fs:Ob}(h1:f ρ=some gs)(hi:i<ρ.length)(h2:g (ρ.set i .no) gs=some (.rt d fs)):ot i f g ρ=some (.rt d):=by
 unfold ot;rw[h1,qq,qj hi,h2]
def zj3{f:Ro->Option Ob}{hs:Ob}(h1:f ρ=some gs)(h2:fld y gs=some (.ob C2 hs)):AD y C2 f ρ=some hs:=by
 unfold AD;rw[h1,qq,h2];exact qj rfl
def EX{h:Ro->Ob->Option (PyData×Ob)}{fs:Ob}(e:h ρ fs=some (d,bU)):AA h ρ fs=some (!isNone d,bU):=by unfold AA;rw[e];rfl
def zlk(b:Bd n s st fi k B m)(z:R0 n fi r0):∀(j fuel:Nat)(L:WR)(T F:LNt)(C:LZr)(d:Int)(a:Nat),F.length<=j->j<fuel->IV n s st fi L T F C d a->
  ∃L' T' F' C' d' a',JT (EW CS) bO fuel ρ (RO CS n s st r0 L T F C d a)=some (.nx ρ<|RO CS n s st r0 L' T' F' C' d' a')/\IV n s st fi L' T' F' C' d' a'/\((queue s (L'.map (·.1))).length<=a'\/F'=[]):=by
 intro j;induction j with
 |zero=>
  intro fuel L T F C d a hF hf h;have EU:F=[]:=gI.mp (by omega);obtain⟨f,rfl⟩:∃f,fuel=f+1:=⟨fuel - 1,by omega⟩;rcases JX (CS:=CS) b z h with⟨a',e,h',hd⟩|⟨a',u,r,c,i,cg,g,h1,h2,h3,_⟩
  ·exact⟨L,T,F,C,d,a',UQ<|EX<|uD v9 rfl e,h',hd⟩
  ·exact absurd EU h3
 |succ j ih=>
  intro fuel L T F C d a hF hf h;obtain⟨f,rfl⟩:∃f,fuel=f+1:=⟨fuel - 1,by omega⟩;rcases JX (CS:=CS) b z h with⟨a',e,h',hd⟩|⟨a',u,r,c,i,cg,g,h1,h2,h3,h4,h5,h6,h7,e⟩
  ·exact⟨L,T,F,C,d,a',UQ<|EX<|uD v9 rfl e,h',hd⟩
  ·have hi:i<F.length:=by
    refine kH λq=>?_
    have fj:=h7.lens;have eV:=h1.lens
    rw[gY,qm q,qz,kJ] at fj;omega
   have EV:(F.eraseIdx i).length<=j:=by rw[gY,qj hi];omega
   obtain⟨L',T',F',C',d',a2,e2,w1,w2⟩:=ih f _ _ _ _ _ _ EV (by omega) h7;exact⟨L',T',F',C',d',a2,(Ck (ρ2:=ρ) (EX<|uD v9 rfl e) rfl).trans e2,w1,w2⟩
def wM(b:Bd n s st fi k B m)(hf:∀i,i<n->bT k0 (2 ^ 3192) (fi i))(hk0:0<k0)(hk:k0<=2 ^ 3192):∃r0 L T F C d a,ym CS [zt n s fi st la]=some (RO CS n s st r0 L T F C d a)/\IV n s st fi L T F C d a/\((queue s (L.map (·.1))).length<=a\/F=[]):=by
 obtain⟨r0,e0,z⟩:=Lh (CS:=CS) (la:=la) b hf hk0 hk;have h0:IV n s st fi [] [] (List.range n) ((List.range n).map xC) 1 0:=⟨IT,λq hq=>by cases hq⟩;have hn:=b.hn
 obtain⟨L,T,F,C,d,a,e,h,hd⟩:=zlk (CS:=CS) b z (ρ:=[.pu<|zt n s fi st la,.no]) n 1000 [] [] (List.range n) ((List.range n).map xC) 1 0 (by rw[qw];omega) (by omega) h0;refine⟨r0,L,T,F,C,d,a,?_,h,hd⟩;generalize hN:(1000:Nat)=N at e;have en:iw (Jl CS) (aC af a0) [.pu<|zt n s fi st la,.no]=some (RO CS n s st r0 [] [] (List.range n) ((List.range n).map xC) 1 0):=by
  unfold iw;show(some [zt n s fi st la]).bind _=_
  rw[qq,e0]
 have e4:cu (iu (λ_ _=>1000) (EW CS) bO) bO [.pu<|zt n s fi st la,.no] (RO CS n s st r0 [] [] (List.range n) ((List.range n).map xC) 1 0)=some (.nx [.pu<|zt n s fi st la,.no]<|RO CS n s st r0 L T F C d a):=(yg<|ZC hN e).trans rfl;show B5 1 _ _ [.pu<|zt n s fi st la,.no]=_
 unfold B5;rw[en,qq,qj<|by show 1<2;omega];show(match cu (iu (λ_ _=>1000) (EW CS) bO) bO [.pu<|zt n s fi st la,.no] _ with |some (.nx _ fI)=>some fI|_=>none)=_
 rw[e4]
end
theorem Lm{bd:PyData->Ro->Option Ro}{b:Ro->Ob->Option Fl}{fs:Ob}:∀{ds:LPd} {ρ0:Ro} (P:Nat->Ro->Prop),P 0 ρ0->
  (∀i d ρ,ds[i]?=some d->P i ρ->∃bX ρ2,bd d ρ=some bX/\b bX fs=some (.nx ρ2)/\P (i+1) ρ2)->∃ρ',rF bd b fs ds ρ0=some ρ'/\P ds.length ρ'
 |[],ρ0,P,h0,_=>⟨ρ0,rfl,h0⟩
 |d::r,ρ0,P,h0,h=>by
  obtain⟨bX,ρ2,e1,e2,p⟩:=h 0 d ρ0 rfl h0;obtain⟨ρ',e3,p'⟩:=Lm (ds:=r) (ρ0:=ρ2) (λi=>P<|i+1) p λi d ρ e q=>h (i+1) d ρ (by simpa using e) q
  refine⟨ρ',?_,p'⟩;unfold rF;rw[e1,qq,e2];exact e3
section
variable{fs:Ob}{f g:Ro->Ob->Option Fl}{es:LPd}
def EY(h:f ρ fs=some (.nx ρ')):ou f g ρ fs=g ρ' fs:=by unfold ou;rw[h]
def ziu{h:OLx}(e:h ρ fs=some ds):B8 i h ρ fs=some (.nx<|ρ.set i<|.ow ds):=by unfold B8;rw[e];rfl
def Ln{a:Nat}{gi h:cc}(h1:gk i ρ=some ds)(h2:h ρ fs=some d)(h3:gi ρ fs=some (.int (a:Int)))(h4:a<ds.length):sR i gi h ρ fs=some (.nx<|ρ.set i<|.ow<|ds.set a d):=by
 unfold sR KD;rw[h1,qq,h2,qq,h3];show((dZ ds.length (a:Int)).bind _).bind _=_
 unfold dZ;rw[qj (by omega),ky,qj<|by omega];rfl
def zm7{b:Ro->Ob->Option Fl}(hm:ds.length=m)(h:b (.no::(ds.map Sl.pu++List.replicate (n - (m+1)) .no)) fs=some (.rl es)):sS n m b fs ds=some (.list es):=by
 unfold sS;rw[qj hm,h]
def znm{fi:Ob->Option (List PyData)}{bd:PyData->Ro->Option Ro}{b:Ro->Ob->Option Fl}(h1:fi fs=some ds)(h2:rF bd b fs ds ρ=some ρ'):B9 fi bd b ρ fs=some (.nx ρ'):=by
 unfold B9;rw[h1,qq,h2];rfl
end
def YB{t:Nat}{f g:Nat->PyData}(h:∀x,x<n->x≠t->g x=f x):((List.range n).map f).set t (g t)=(List.range n).map g:=by
 refine gZ λj=>?_
 rw[gL,qp,qp,qf,qw];by_cases hj:j<n
 ·rw[ku hj];by_cases e:t=j
  ·subst e;rw[qj rfl,qj hj];rfl
  ·rw[qm e];exact qM some (h j hj λq=>e q.symm).symm
 ·rw[kS<|by simpa using hj];by_cases e:t=j
  ·subst e;rw[qj rfl,qm hj];rfl
  ·rw[qm e];rfl
def zhV{C:LZr}{d:Int}{p f:Nat}{c:Z1x}(hl:F.length=C.length)(hf:f∉F)(hp:f≠p)(x:Nat):dn (F++[f]) (C++[c]) d p x=if x=f then -(c p:Rat) / (d:Rat) else dn F C d p x:=by
 unfold dn;rw[List.zip_append hl,List.find?_append];by_cases e:x=f
 ·subst e;rw[qj rfl,qm hp,Kd hf];simp
 ·rw[qm e]
  have:([f].zip [c]).find? (λq=>q.1==x)=none:=by simp;exact λq=>e q.symm
  rw[this,Option.or_none]
def zez{fr tk ch:LPd}{pv:PdX}:fld "settled_row" (fv fr tk ch pv)=none:=rfl
def zes{C:LZr}{d:Int}(sp:WD.DT.Sp n R T F C d)(hn:n<=42)(hd:intBits d<=8999){t:Nat}(ht:t∈T):J5 (dv n T F C d) [zJ t]=some (yi n<|dn F C d t):=by
 have Lo:t<n:=(sp.mem t).mp<|qu.mpr<|.inl ht;have cK:=sp.few
 have ndF:=sp.ndF;have EZ:=sp.lenC
 have e1:B7 (vI<|aC (cst<|.tuple [.int 0,.int 1]) a0) (dH xN (cb yh<|cn (gg "free") cz)<|cb yh<|cn (gg "taken") cz) [.no,.pu<|zJ t,.no,.no,.no] (dv n T F C d)=some ((List.range n).map λ_=>fr 0):=by
  have e:dH xN (cb yh<|cn (gg "free") cz) (cb yh<|cn (gg "taken") cz) [.no,.pu<|zJ t,.no,.no,.no] (dv n T F C d)=some (.int (n:Int)):=by
   refine(u7 (x:=.int (F.length:Int)) (y:=.int (T.length:Int)) ((vF<|yX (uO Yq) rfl).trans ?_)<|(vF<|yX (uO Zl) rfl).trans ?_).trans ?_
   ·show some (PyData.int ((F.map zJ).length:Int))=_
    rw[qf]
   ·show some (PyData.int ((T.map zJ).length:Int))=_
    rw[qf]
   ·show some (PyData.int<|(F.length:Int)+(T.length:Int))=_
    rw[<-cK];congr 2;omega
  unfold B7;rw[e];show(some [fr 0]).bind _=_
  rw[qq];dsimp only;rw[qj ⟨by omega,by omega,by simp;omega⟩,ky,VD]
 have e2:((List.range n).map λ_=>fr 0).set t (fr 1)=(List.range n).map λx=>fr (dn [] [] d t x):=by
  have:=YB (n:=n) (t:=t) (f:=λ_=>fr 0) (g:=λx=>fr<|dn [] [] d t x) λx _ hx=>by
   show fr (if x=t then 1 else 0)=_
   rw[qm hx]
  rw[<-this,show dn [] [] d t t=1 from qj rfl]
 have ez:AF "free" "checks" (dv n T F C d)=some (Ju (F.map zJ)<|C.map<|yl n):=by
  unfold AF;rw[show fld "free" (dv n T F C d)=some (.ow<|F.map zJ) from Yq,show fld "checks" (dv n T F C d)=some (.ow<|C.map<|yl n) from J9]
 obtain⟨ρ',er,o1,o2,rfl⟩:=Lm (bd:=b2 (bN 3)<|bN 4) (b:=sR 2 (λρ x=>gv 3 ρ)<|cb uT<|cn (λρ x=>dI Z1 (bM bS bH<|gv 1) ρ)<|cn (gf "pivot") cz) (fs:=dv n T F C d) (ds:=Ju (F.map zJ)<|C.map<|yl n)
  (ρ0:=[.no,.pu<|zJ t,.ow<|(List.range n).map λx=>fr<|dn [] [] d t x,.no,.no]) (λi ρ=>∃o1 o2,ρ=[.no,.pu<|zJ t,.ow<|(List.range n).map λx=>fr<|dn (F.take i) (C.take i) d t x,o1,o2]) ⟨.no,.no,rfl⟩
  (λi dd ρ eG ⟨o1,o2,e⟩=>by
   subst e;obtain⟨x,y,hx,hy,rfl⟩:=Hx eG;rw[qp] at hx hy;obtain⟨f,hf,rfl⟩:=map_some hx;obtain⟨c,hc,rfl⟩:=map_some hy;obtain⟨oE,D6⟩:=sp.free hf;have hi:i<F.length:=(qg.mp hf).1;have nf:f∉F.take i:=λq=>by
    obtain⟨j,hj⟩:=qP q;have hji:j<i:=by
     have:=(qg.mp hj).1;rw[k5] at this;omega
    rw[bu hji] at hj;exact r6 ndF hj hf (by omega) rfl
   refine⟨_,_,rfl,Ln (a:=f) (d:=fr<|-(c t:Rat) / (d:Rat)) rfl ?_ rfl (by rw[qf,qw];exact oE),.pu<|zJ f,.pu<|yl n c,?_⟩
   ·refine(vF<|yX (d:=.int<|-(c t)) ((HR<|show bM bS bH ag [.no,.pu<|zJ t,.ow _,.pu<|zJ f,.pu<|yl n c]=some (.int<|c t) from(zg (x:=yl n c) (y:=zJ t) rfl rfl).trans<|JW (d:=λx=>.int<|c x) Lo).trans rfl)<|yX (AL K1) rfl).trans<|(Wg sp.d0 hd).trans<|qM (λq=>some<|fr q) ?_;rw[mL,nc]
   ·have ht2:f≠t:=λq=>D6 (q▸ht)
    rw[gX,gX,hf,hc];have hs:=zhV (F:=F.take i) (C:=C.take i) (d:=d) (p:=t) (f:=f) (c:=c) (by rw[k5,k5,EZ]) nf ht2
    have:=YB (n:=n) (t:=f) (f:=λx=>fr<|dn (F.take i) (C.take i) d t x) (g:=λx=>fr<|dn (F.take i++[f]) (C.take i++[c]) d t x) λx _ hx=>by
     show fr (dn (F.take i++[f]) (C.take i++[c]) d t x)=_
     rw[hs x,qm hx]
    show[Sl.no,.pu<|zJ t,.ow<|((List.range n).map λx=>fr<|dn (F.take i) (C.take i) d t x).set f _,.pu<|zJ f,.pu<|yl n c]=_
    rw[show fr (-(c t:Rat) / (d:Rat))=fr (dn (F.take i++[f]) (C.take i++[c]) d t f) by rw[hs f,qj rfl],this];rfl)
 rw[Hy,qf,qf,EZ,Nat.min_self,gP,<-EZ,gP] at er;refine zm7 rfl ?_;refine(EY<|ziu e1).trans<|(EY<|Ln (a:=t) (d:=fr 1) rfl rfl rfl<|by rw[qf,qw];exact Lo).trans ?_;show ou _ _ [.no,.pu<|zJ t,.ow<|((List.range n).map λ_=>fr 0).set t<|fr 1,.no,.no] _=_
 rw[e2];exact(EY<|znm ez er).trans rfl
def We{f g:Q1x}(h:∀i,i<n->f i=g i):yq n f=yq n g:=by
 unfold yq;congr 1;exact kf λi hi=>by rw[h i<|qx.mp hi]
def zg2{f g:Q2x}(h:∀a b,a<n->b<n->f a b=g a b):yG n f=yG n g:=by
 unfold yG;congr 1;exact kf λa ha=>We λb hb=>h a b (qx.mp ha) hb
def zeD(h1:∀i,i<n->fi i=fi' i)(h2:∀g a b,g<s->a<n->b<n->st g a b=st' g a b)(h3:∀i,i<n->la i=la' i):zt n s fi st la=zt n s fi' st' la':=by
 unfold zt Wr;rw[We h1,We h3,kf λg hg=>zg2 λa b ha hb=>h2 g a b (qx.mp hg) ha hb]
def zgx{α:Type}(f:Nat->α)(l:LNt):l.map f=(List.range l.length).map λi=>f (l.getD i 0):=by
 refine gZ λj=>?_
 rw[qp,qp];by_cases h:j<l.length
 ·rw[ku h,qk h];show some (f l[j])=some (f<|l.getD j 0)
  rw[qB,qk h];rfl
 ·rw[kS (by omega),kS<|by rw[qw];omega];rfl
theorem Lp:∀T:List Nat,intsOf (T.map zJ)=some (T.map λ(x:Nat)=>(x:Int))
 |[]=>rfl
 |x::T=>by
  show(intsOf<|T.map zJ).map _=_
  rw[Lp T];rfl
def zel(T:LNt):(T.map λ(x:Nat)=>(x:Int)).map Int.toNat=T:=by
 rw[kb];conv=>rhs;rw[<-List.map_id T]
 exact kf λx _=>ky x
def srt(T:LNt):List Nat:=(dD<|T.map λ(x:Nat)=>(x:Int)).map Int.toNat
def ziZ(T:LNt):(srt T).Perm T:=by
 have:=(Uy<|T.map λ(x:Nat)=>(x:Int)).map Int.toNat;rwa[zel] at this
def zno(T:LNt):(dD<|T.map λ(x:Nat)=>(x:Int)).map PyData.int=(srt T).map zJ:=by
 unfold srt;rw[kb];refine kf λx hx=>?_
 obtain⟨y,_,e⟩:=qE.mp<|(Uy _).mem_iff.mp hx;subst e;show PyData.int (y:Int)=.int (((y:Int).toNat:Nat):Int)
 rw[ky]
def zj9{C:LZr}{d:Int}(h:WD.DT.Sp n R T F C d)(h1:d.natAbs<=N)(h2:∀c∈C,∀x,x<n->(c x).natAbs<=N){p:Nat}(hp:p<n)(x:Nat):bT d.natAbs N (dn F C d p x):=by
 have d0:=h.d0;have lq:0<d.natAbs:=by omega
 unfold dn;split
 ·exact⟨lq,(d.natAbs:Int),by rw[nH,kq],by simpa using h1⟩
 ·split
  ·rename_i q hq;have hm:=(ng<|List.mem_of_find?_eq_some hq).2;have dz:(d:Rat)≠0:=λz=>d0 (by exact_mod_cast z)
   have hi:=kR _ dz;by_cases hd:0<=d
   ·refine⟨lq,-(q.2 p),?_,by rw[nE];exact h2 _ hm p hp⟩;have e:((d.natAbs:Nat):Rat)=(d:Rat):=by rw[<-Rat.intCast_natCast,Int.natAbs_of_nonneg hd]
    rw[e,nc,hX];grind
   ·refine⟨lq,q.2 p,?_,h2 _ hm p hp⟩;have e:((d.natAbs:Nat):Rat)=-(d:Rat):=by
     rw[<-Rat.intCast_natCast,<-Rat.intCast_neg];congr 1;omega
    rw[e,hX];grind
  ·exact bT.zero lq
def Ze{r:Nat}{f:Q2x}{P:Nat->Nat}{σ:Q2x}{M' N':Nat}(hn:n<=42)(hr:r<=42)(hP:∀i,i<r->P i<n)(hM:0<M)(sM:Sz M)(sN:Sz N)(rV:0<M')(rW:Sz M')(BF:Sz N')(hs:∀i a,i<r->bT M N (σ i a))(hf:∀a b,a<n->b<n->bT M' N' (f a b)):jE [yG n f,.list<|(List.range r).map λi=>zJ<|P i,.list<|(List.range r).map λi=>yi n<|σ i]=some (yG r λi j=>sumTo n λa=>σ i a*f a (P j)):=by
 have hl:(List.range r).length<=16777216:=by rw[qw];omega
 refine zM rfl ?_;refine(zw<|yK (d:=(List.range r).map λj=>yq n λa=>f a<|P j) ?_).trans<|zG ?_
 ·exact zS (xs:=List.range r) (e:=λi=>zJ<|P i) (xV rfl) hl λi hi=>yr.trans<|(ze rfl).trans<|VV (by omega)<|hP i<|qx.mp hi
 ·refine(ze (xs:=[.list<|(List.range r).map λi=>yq r λj=>sumTo n λa=>σ i a*f a (P j)])<|zm (zX<|zS (xs:=List.range r) (e:=λi=>yi n<|σ i) (xV rfl) hl λi hi=>?_) rfl).trans rfl;have hi:=qx.mp hi;refine yr.trans<|(ze (xs:=[.list<|(List.range r).map λj=>fr<|sumTo n λa=>σ i a*f a (P j)])<|zm (zX<|zS (xs:=List.range r) (e:=λj=>yq n λa=>f a<|P j) (xV rfl) hl λj hj=>?_) rfl).trans rfl;have hj:=qx.mp hj
  exact yr.trans<|(ze rfl).trans<|Za (t:=false) (u:=true) hn hM sM sN rV rW BF (λa _=>hs i a hi) λa ha=>hf a (P j) ha<|hP j hj
def zmE{m:Str}{h:Ob->List PyData->Option PyData}{g:OLx}{fs:Ob}(e2:fld m fs=none)(e3:g ρ fs=some ds):sT m h g ρ fs=h fs ds:=by
 unfold sT;rw[qj (by rw[e2];rfl),e3];rfl
noncomputable abbrev pl(Ts:LNt):Nat->Nat:=λi=>Ts.getD i 0
abbrev cF(F:LNt)(C:LZr)(d:Int)(Ts:LNt):Nat->Nat->Rat:=λi=>dn F C d<|Ts.getD i 0
abbrev Lq(n s:Nat)(st:Q3x)(fi la:Q1x)(r:Nat)(P:Nat->Nat)(σ:Q2x):PyData:=zt r s (wO P fi) (jS n P σ st)<|wJ n σ la
section
def zgL{C:LZr}{d:Int}(sp:WD.DT.Sp n R T [] C d):(List.range n).Perm T/\T.length=n/\zt n s fi st la=Lq n s st fi la T.length (pl<|List.range n) (cF [] C d<|List.range n):=by
 have hl:T.length=n:=by simpa using sp.few
 have hp:(List.range n).Perm T:=by
  have nd:=sp.nd;rw[km] at nd;rw[ba nU nd];intro x
  have:=sp.mem x;rw[km] at this;rw[this,qx]
 have g:∀i,i<n->(List.range n).getD i 0=i:=λi hi=>by
  rw[qB,ku hi];rfl
 refine⟨hp,hl,?_⟩;rw[hl];have pick:∀i (u:Q1x),i<n->sumTo n (λa=>dn [] C d ((List.range n).getD i 0) a*u a)=u i:=λi u hi=>by
  rw[yf _ n hi λa _ cQ=>by rw[BS (by simp),g i hi,qm cQ,ki],BS (by simp),g i hi,qj rfl,nH]
 refine zeD (λi hi=>?_) (λq a c hq ha hc=>?_) λi hi=>?_
 ·show fi i=fi ((List.range n).getD i 0)
  rw[g i hi]
 ·show st q a c=sumTo n λx=>dn [] C d ((List.range n).getD a 0) x*st q x ((List.range n).getD c 0)
  rw[pick a (λx=>st q x<|(List.range n).getD c 0) ha,g c hc]
 ·exact(pick i la hi).symm
def zjt{x:PdX}{fe:cc}{fs:Ob}:(bN 0 x<|compEnv 1 F ρ).bind (λρ'=>fe ρ' fs)=fe (.pu x::F.map λj=>(ρ[j]?).getD .no) fs:=rfl
def zkc{L:WR}{C:LZr}{d:Int}{a:Nat}(b:Bd n s st fi k B m)(iv:IV n s st fi L T F C d a){E:Nat}(hE:(n+1)*(n*B) ^ T.length<=E):d.natAbs<=E/\∀c∈C,∀x,x<n->(c x).natAbs<=E:=by
 have hr:∀r∈(L.map (·.2)).reverse,∀x,x<n->(r x).natAbs<=B:=λr hr x hx=>by
  obtain⟨q,hq,rfl⟩:=qE.mp<|kd.mp hr;exact iv.abs b hq x hx
 have hl:(L.map (·.2)).reverse.length=T.length:=by rw[kC,qf];exact iv.lens.1
 have cK:=iv.rs.sp.few;have h1:=iv.rs.sp.V3 (B:=B) (by omega) hr
 rw[hl] at h1;refine⟨qr h1<|qr ?_ hE,λc hc x hx=>?_⟩
 ·exact mQ _ (by omega)
 ·obtain⟨i,hi⟩:=qP hc;have h2:=iv.rs.sp.Wn (B:=B) cK hr hi x hx;rw[hl] at h2;exact qr h2<|qr (kD _<|by omega) hE
def YU{E l0 Nl:Nat}(b:Bd n s st fi k B m)(hf:∀i,i<n->bT k0 (2 ^ 3192) (fi i))(hk0:0<k0)(qV:k0<=2 ^ 3192)(hE:∀j,j<n->j<=m->(n+1)*(n*B) ^ j<=E)(sE:Sz E)(hst:∀g a b,g<s->a<n->b<n->bT k Ns (st g a b))(sNs:Sz Ns)(hla:∀i,i<n->bT l0 Nl (la i))(Co:0<l0)(E1:Sz l0)(sNl:Sz Nl):∃L T F C d a Ts,IV n s st fi L T F C d a/\((queue s (L.map (·.1))).length<=a\/F=[])/\Ts.Perm T/\JY CS [zt n s fi st la]=some (Lq n s st fi la T.length (pl Ts)<|cF F C d Ts)/\
   ((T.length=n/\∀i x,i<T.length->bT 1 1 (cF F C d Ts i x))\/(T.length<n/\∃D,0<D/\D<=E/\∀i x,i<T.length->bT D E (cF F C d Ts i x))):=by
 obtain⟨r0,L,T,F,C,d,a,e,iv,hd⟩:=wM (CS:=CS) (la:=la) b hf hk0 qV;have hn:=b.hn;have hs:=b.hs
 have cK:=iv.rs.sp.few;have en:AD "span" CS (WE (ym CS)<|aC af a0) [.pu<|zt n s fi st la,.no,.no,.no,.no,.no,.no]=some (dv n T F C d):=zj3 (show WE (ym CS) (aC af a0) _=_ from e) Yj
 by_cases hF:F=[]
 ·subst hF;obtain⟨hp,hl,hD⟩:=zgL (s:=s) (st:=st) (fi:=fi) (la:=la) iv.rs.sp;refine⟨L,T,[],C,d,a,List.range n,iv,hd,hp,?_,.inl ⟨hl,λi x _=>?_⟩⟩
  ·rw[<-hD];refine zM (d:=zt n s fi st la) rfl ?_;exact Ll en (by show 1<7;omega)<|VP<|(KW<|ZQ<|(uD EM rfl EO).trans<|by rw[qG rfl]).trans<|vx rfl
  ·show bT 1 1 (dn [] C d _ x)
   rw[BS<|by simp];split
   ·exact⟨by decide,1,by rw[nH];rfl,by decide⟩
   ·exact bT.zero (by decide)
 ·have Cp:T.length<n:=by
   have:0<F.length:=n6.mpr hF;omega
  have sX:=b.hm L T F C d a iv.rs;rw[iv.lens.1] at sX;obtain⟨z1,z2⟩:=zkc b iv<|hE _ Cp sX;have fK:=iv.rs.sp
  have d0:=fK.d0;have E3:=ziZ T
  have hlen:(srt T).length=T.length:=E3.length_eq;have mT:∀i,i<T.length->(srt T).getD i 0∈T:=λi hi=>by
   rw[qB,qk<|by omega];exact E3.mem_iff.mp<|gu _
  have hP:∀i,i<T.length->(srt T).getD i 0<n:=λi hi=>(fK.mem _).mp<|qu.mpr<|.inl<|mT i hi
  have AO:∀i x,i<T.length->bT d.natAbs E (cF F C d (srt T) i x):=λi x hi=>zj9 fK z1 z2 (hP i hi) x
  have fR:0<d.natAbs:=by omega
  have sD:Sz d.natAbs:=Sz.mono z1 sE;have bd:intBits d<=8999:=qr (sE.bits z1) (by decide)
  refine⟨L,T,F,C,d,a,srt T,iv,hd,E3,?_,.inr ⟨Cp,d.natAbs,fR,z1,AO⟩⟩;have hl:(List.range T.length).length<=16777216:=by rw[qw];omega
  have ePl:ix (gg "taken") [.pu<|zt n s fi st la,.no,.no,.no,.no,.no,.no] (dv n T F C d)=some ((List.range T.length).map λi=>zJ<|(srt T).getD i 0):=by
   unfold ix;rw[show gg "taken" [.pu<|zt n s fi st la,.no,.no,.no,.no,.no,.no] (dv n T F C d)=some (.list<|T.map zJ) from uO Zl];show(intsOf<|T.map zJ).bind _=_
   rw[Lp,qq,qj (by rw[qf];omega),zno,zgx zJ<|srt T,hlen]
  generalize sO:PyData.list ((List.range T.length).map λi=>zJ<|(srt T).getD i 0)=pD;generalize E4:PyData.list ((List.range T.length).map λi=>yi n<|cF F C d (srt T) i)=qD;have eSh:UL 1 [1] (λρ x=>yc am ρ) aq (sT "settled_row" J5<|cn (λρ x=>gv 0 ρ) cz) [.pu<|zt n s fi st la,.no,.pu pD,.no,.no,.no,.no] (dv n T F C d)=some ((List.range T.length).map λi=>yi n<|cF F C d (srt T) i):=by
   refine KZ (xs:=List.range T.length) (e:=λi=>zJ<|(srt T).getD i 0) (xV<|by rw[<-sO];rfl) hl λi hi=>?_
   refine zjt.trans<|(zmE (ds:=[zJ<|(srt T).getD i 0]) zez ?_).trans<|zes fK hn bd<|mT i<|qx.mp hi;rfl
  have eFi:zi zZ (aC (yt<|zQ 1 [0] (yc<|gv 2) aq<|bM bS au<|gv 0) a0) [.pu<|zt n s fi st la,.no,.pu pD,.pu qD,.no,.no,.no]=some (yq T.length<|wO (pl<|srt T) fi):=by
   refine(ze (xs:=[.list<|(List.range T.length).map λi=>fr<|fi<|(srt T).getD i 0])<|zm (zX<|zS (xs:=List.range T.length) (e:=λi=>zJ<|(srt T).getD i 0) (xV<|by rw[<-sO];rfl) hl λi hi=>?_) rfl).trans rfl;exact yr.trans<|(zg ((zg rfl rfl).trans vb) rfl).trans<|Ul (t:=true)<|hP i<|qx.mp hi
  have eSt:∀o,zi zZ bG [.pu<|zt n s fi st la,.no,.pu pD,.pu qD,o,.no,.no]=some (Wr T.length s<|jS n (pl<|srt T) (cF F C d<|srt T) st):=λo=>by
   refine(ze (xs:=[.list<|(List.range s).map λg=>yG T.length<|jS n (pl<|srt T) (cF F C d<|srt T) st g])<|zm (zX<|zS (xs:=List.range s) (e:=λg=>yG n<|st g) (vL<|(zg rfl rfl).trans jB) (by rw[qw];omega) λg hg=>?_) rfl).trans rfl;refine yr.trans<|(ze rfl).trans ?_;show jE [yG n<|st g,pD,qD]=_
   rw[<-sO,<-E4];exact Ze hn (by omega) hP fR sD sE b.hk0 (V8 b.hk) sNs AO λx y hx hy=>hst g x y (qx.mp hg) hx hy
  have eLa:∀o o',zi zZ aY [.pu<|zt n s fi st la,.no,.pu pD,.pu qD,o,o',.no]=some (yq T.length<|wJ n (cF F C d<|srt T) la):=λo o'=>by
   refine(ze (xs:=[.list<|(List.range T.length).map λi=>fr<|wJ n (cF F C d<|srt T) la i])<|zm (zX<|zS (xs:=List.range T.length) (e:=λi=>yi n<|cF F C d (srt T) i) (xV<|by rw[<-E4];rfl) hl λi hi=>?_) rfl).trans rfl;exact yr.trans<|(ze<|zm rfl<|zm ((zg rfl rfl).trans w8) rfl).trans<|Za (t:=false) (u:=true) hn fR sD sE Co E1 sNl (λx _=>AO i x<|qx.mp hi) hla
  refine zM rfl ?_;refine Ll (fs:=dv n T F C d) en (by show 1<7;omega) ?_;refine(yg<|(KY<|ZQ<|(uD EM rfl EO).trans<|by rw[qN hF]).trans rfl).trans ?_;refine(yg<|Jo (d:=pD)<|(ES ePl).trans<|by rw[sO]).trans ?_;refine(yg<|Jo (d:=qD)<|(ES eSh).trans<|by rw[E4]).trans ?_;refine(yg<|Jo eFi).trans<|(yg<|Jo<|eSt _).trans<|(yg<|Jo<|eLa _ _).trans<|vx ?_;exact j3 rfl (by show 3<=16777216;omega)
end
def vX(h:bT M N q):((x8 q M:Int):Rat)=q*((M:Nat):Rat)/\(x8 q M).natAbs<=N:=⟨j9 h.den,BE h (Nat.dvd_refl _)<|j9 h.den⟩
section
variable{E:Nat}
def Lr{x:Nat}(h:x<=2 ^ 3192):x<=2 ^ 4000:=qr h (qT (by decide)<|by decide)
end
end L2.Fu
variable{L:L2.Fu.WR}
namespace L2.Fu
open PySem WS WD WD.DT
def ya{a x y z:Nat}(h1:a<=2 ^ x)(h2:b<=2 ^ y)(h:x+y<=z):a*b<=2 ^ z:=qr (kY h1 h2) (by rw[<-Nat.pow_add];exact qT (by decide) h)
def wG{a x z:Nat}(h1:a<=2 ^ x)(h:x*j<=z):a ^ j<=2 ^ z:=qr (nr h1 j) (by rw[<-Nat.pow_mul];exact qT (by decide) h)
def wQ(k:Nat):6 ^ k<=2 ^ (3*k):=by rw[Nat.pow_mul];exact nr (by decide) k
def sY{x z:Nat}(h:x<=2 ^ z)(hz:z<9000):x<2 ^ 9000:=qJ h (kO (by decide) hz)
end L2.Fu
namespace L2.Fu
open PySem PySem.Spec PyProof.Rows
def zfh:bW:=(sq (cD (zy<|bM ltI aa<|cst<|.int 0) (retS<|xm<|aC (bM W9 ak<|bM bS af<|cst<|.int 1)<|aC (bM W9 ak<|bM bS af<|cst<|.int 0) a0) s0)<|retS<|xm<|aC ac<|aC aa a0)
def wH:ck:=cw 1 1 zfh
abbrev aP:=bM bS (bM bS (gb 1)<|gv 6)<|gv 3
abbrev ah:=sq (zW 7<|zi yE<|aC aP<|aC (zi wH<|aC (bM bS bv<|gv 3) a0) a0)<|sq (zW 8<|xm<|aC (bM W9 ak<|bM bS (gv 7)<|cst<|.int 0)<|aC (bM bS (gv 7)<|cst<|.int 1) a0)<|i5 1 (gv 6)<|yt<|zQ 1 [1,5,6,8] (xl<|aC (zi yh<|aC bv a0) a0) aq<|zi xK<|aC (bM bS (bM bS (gb 1)<|gv 3)<|gv 0)<|aC (zi yE<|aC bH<|aC (bM bS am<|gv 0) a0) a0
abbrev aB:=zi yh<|aC (gb 1) a0
abbrev ar:=iZ (zy<|bM fW aB<|cst<|.int 0) (zi yh<|aC (bM bS (gb 1)<|cst<|.int 0) a0)<|cst<|.int 0
abbrev ay:=bM bS (bM bS (bM bS (gb 1)<|gv 0)<|gv 2)<|cst<|.int 0
abbrev aV:=bM xN am<|cst<|.int 1
abbrev a7:=x6 4<|u6 1 [1,3] (uS<|aC am<|aC aB a0) aq (zy<|bM cM ay<|cst<|.int 0)<|gv 0
def zeK:bW:=(sq (x6 1<|zQ 1 [] aZ aq<|yt<|xf wF<|aC af a0)<|sq (zW 2<|cst<|.int 0)<|sq (je (xl<|aC ar a0) (bN 3)<|sq a7<|cD (zy<|bM fW (zi yh<|aC (gb 4) a0)<|cst<|.int 0) (sq (rm 5 1<|bM bS (gb 4)<|cst<|.int 0)<|sq (rY 1 am<|gv 5)<|sq (je (uS<|aC aV<|aC aB a0) (bN 6)<|cD (zy<|bM cM (bM bS aP<|cst<|.int 0)<|cst<|.int 0) ah s0)<|zW 2<|bM xN am<|cst<|.int 1) s0)<|retS<|gv 2)
def xT:ck:=cw 9 1 zeK
def ZY:bW:=(sq (cD (zy<|bM dA ax<|cst<|.int 0) (retS<|bM dA (zi yh<|aC (yt<|u6 1 [] (yc<|gv 1) aq (zy<|bM cM aa<|cst<|.int 0)<|gv 0) a0)<|cst<|.int 0) s0)<|retS<|bM dA (zi xT<|aC (yt<|DD Ad af<|yt<|vI<|aC ag a0) a0)<|zi xT<|aC af a0)
def yH:ck:=cw 2 2 ZY
def zek:bW:=(sq (zW 2<|zi zZ<|aC (yt<|zQ 1 [] (yc<|bM bS ag<|cst<|.int 2) aq<|xm<|aC (bM W9 ak<|bM bS af<|cst<|.int 0)<|aC ac a0) a0)<|retS<|zi xU<|aC af<|aC (xm<|aC au<|aC ai<|aC am a0) a0)
def u5:ck:=cw 3 2 zek
abbrev aE:=bM bS (zi xQ<|aC bv<|aC (bM bS aO<|cst<|.int 2) a0)<|cst<|.int 0
abbrev aH:=xP<|zy<|zi yH<|aC bH<|aC (yt<|xf jz<|aC bv<|aC (gv 6) a0) a0
abbrev aW:=yt<|xf wF<|aC (bM bS aO<|cst<|.int 0) a0
def zcW:bW:=(sq (zW 3<|zi u5<|aC af<|aC ag a0)<|sq (x6 4<|zQ 1 [] (yc<|gv 2) aq<|yt<|xf wF<|aC af a0)<|sq (cD (xP<|zy<|WX yH<|aC (gb 4)<|aC aW a0) (retS<|cst<|.bool false) s0)<|sq (lY 4<|je (yc<|gv 4) (bN 5)<|sq (cD (zy<|bM cM aE<|cst<|.int 0) (retS<|cst<|.bool false) s0)<|je (yc<|bM bS aO<|cst<|.int 1) (bN 6)<|cD aH (retS<|cst<|.bool false) s0)<|retS<|cst<|.bool true)
def wY:ck:=cw 7 3 zcW
end L2.Fu
namespace L2.Fu
open PySem WS WD WD.DT
open PySem.Builtin.Int (intBits)
def AQ{a:Nat}{r:Rat}(hq:Bq a q)(hr:Bq b r):Bq (a+b) (q*r):=by
 have e:q*r=Rat.divInt (q.num*r.num) ((q.den:Int)*(r.den:Int)):=(Vu q r).symm;have hd:=Qo q r
 rw[e];exact⟨gx (HM _ _)<|mZ hq.n hr.n,gx (Qm hd)<|mZ hq.d hr.d⟩
def Zh{a:Nat}{r:Rat}(hq:Bq a q)(hr:Bq b r)(h:a+b<=8999):xK [fr q,fr r]=some (fr<|q+r):=by
 refine zM rfl<|zG ?_;have e1:bM yD aa ai [.pu<|fr q,.pu<|fr r]=some (.int<|q.num*(r.den:Int)):=(zg (eX q)<|dX r).trans (yY<|jk hq.n hr.d<|by omega);have e2:bM yD au ac [.pu<|fr q,.pu<|fr r]=some (.int<|r.num*(q.den:Int)):=(zg (eX r)<|dX q).trans (yY<|jk hr.n hq.d<|by omega)
 have e3:bM yD ac ai [.pu<|fr q,.pu<|fr r]=some (.int<|(q.den:Int)*(r.den:Int)):=(zg (dX q)<|dX r).trans (yY<|jk hq.d hr.d<|by omega);refine(ze<|zm ((zg e1 e2).trans rfl)<|zm e3 rfl).trans ?_;rw[vo (vJ q r)<|qr (mZ hq.d hr.d) h,HL]
def JG{a:Nat}{r:Rat}(hq:Bq a q)(hr:Bq b r)(h:a+b<=8999):yE [fr q,fr r]=some (fr<|q*r):=by
 refine zM rfl<|zG ?_;have e1:bM yD aa au [.pu<|fr q,.pu<|fr r]=some (.int<|q.num*r.num):=(zg (eX q)<|eX r).trans (yY<|jk hq.n hr.n<|by omega);have e3:bM yD ac ai [.pu<|fr q,.pu<|fr r]=some (.int<|(q.den:Int)*(r.den:Int)):=(zg (dX q)<|dX r).trans (yY<|jk hq.d hr.d<|by omega)
 refine(ze<|zm e1<|zm e3 rfl).trans ?_;rw[vo (vJ q r)<|qr (mZ hq.d hr.d) h,Vu]
def Lu(h:q≠0):(q⁻¹).num=(if q.num<0 then -(q.den:Int) else (q.den:Int))/\(q⁻¹).den=q.num.natAbs:=by
 have h0:q.num≠0:=λe=>h<|mF.mp e
 show(Rat.inv q).num=_/\(Rat.inv q).den=_
 unfold Rat.inv;by_cases z:q.num<0
 ·rw[dif_pos z,qj z];exact⟨rfl,rfl⟩
 ·rw[dif_neg z,dif_pos (by omega),qm z];exact⟨rfl,rfl⟩
def zmN(h:q≠0):wH [fr q]=some (fr q⁻¹):=by
 obtain⟨e1,e2⟩:=Lu h;have h0:q.num≠0:=λe=>h<|mF.mp e
 have e3:fr q⁻¹=.tuple [.int<|if q.num<0 then -(q.den:Int) else (q.den:Int),.int (q.num.natAbs:Int)]:=by unfold fr;rw[e1,e2]
 rw[e3];have et:zy (bM ltI aa<|cst<|.int 0) [.pu<|fr q]=some (decide (q.num<0)):=zB<|(zg (eX q) rfl).trans rfl;refine zM rfl ?_;by_cases z:q.num<0
 ·refine rS<|(ue<|et.trans<|by rw[qG z]).trans<|zG ?_;refine(j3 (zm ((zg rfl<|dX q).trans rfl)<|zm ((zg rfl<|eX q).trans rfl) rfl)<|by show 2<=16777216;omega).trans ?_;rw[qj z];congr 4
  ·omega
  ·congr 1;congr 1;omega
 ·refine(zw<|(xb<|et.trans<|by rw[qN z]).trans rfl).trans<|zG ?_;refine(j3 (zm (dX q)<|zm (eX q) rfl)<|by show 2<=16777216;omega).trans ?_;rw[qm z];congr 4;congr 1;omega
def znI{a:Nat}(hq:Bq a q)(h:q≠0):Bq a q⁻¹:=by
 obtain⟨e1,e2⟩:=Lu h;refine⟨?_,?_⟩
 ·rw[e1];refine gx (y:=(q.den:Int)) ?_ hq.d;split<;>simp
 ·rw[e2];exact gx (y:=q.num) (by simp) hq.n
def Lv(h:gv i ρ=some (fr q)):xm (aC (bM W9 ak<|bM bS (gv i)<|cst<|.int 0)<|aC (bM bS (gv i)<|cst<|.int 1) a0) ρ=some (fr<|-q):=by
 refine(j3 (zm ((zg rfl<|(zg h rfl).trans<|eX q).trans rfl)<|zm ((zg h rfl).trans<|dX q) rfl)<|by show 2<=16777216;omega).trans ?_;unfold fr;rw[Rat.neg_num,Rat.neg_den];congr 4;omega
def Lw{a:Nat}(hq:Bq a q):Bq a (-q):=⟨by rw[Rat.neg_num];exact gx (y:=q.num) (by simp) hq.n,by rw[Rat.neg_den];exact hq.d⟩
theorem YQ{α:Type}{h:PyData->Option (Option PyData)}{e:α->PyData}{p:α->Bool}:∀{xs:List α},(∀x∈xs,h (e x)=some (if p x then some (e x) else none))->w6 h (xs.map e)=some ((xs.filter p).map e)
 |[],_=>rfl
 |x::xs,q=>by
  show(h<|e x).bind _=_
  rw[q x<|.head _,qq,YQ λy hy=>q y<|.tail _ hy,List.filter_cons];by_cases z:p x=true
  ·rw[qj z,qj z];rfl
  ·rw[qm z,qm z];rfl
theorem Wy(k:Nat):∀Q:List (Nat->Rat),((List.range Q.length).filter (λi=>decide ((Q.getD i λ_=>0) k≠0))=[]/\pick k Q=none)\/∃i r q,(List.range Q.length).filter (λi=>decide ((Q.getD i λ_=>0) k≠0))=i::r/\Q[i]?=some q/\pick k Q=some (q,Q.eraseIdx i)
 |[]=>.inl ⟨rfl,rfl⟩
 |q::Q=>by
  have e:(List.range (q::Q).length).filter (λi=>decide (((q::Q).getD i λ_=>0) k≠0))=(if decide (q k≠0)=true then [0] else [])++((List.range Q.length).filter λi=>decide ((Q.getD i λ_=>0) k≠0)).map Nat.succ:=by
   rw[ke,List.range_succ_eq_map,List.filter_cons,List.filter_map];by_cases z:q k≠0
   ·rw[qj<|show decide (((q::Q).getD 0 λ_=>0) k≠0)=true from qG z,qj<|qG z];rfl
   ·rw[qm<|show ¬decide (((q::Q).getD 0 λ_=>0) k≠0)=true from λw=>z<|nG w,qm λw=>z<|nG w];rfl
  rw[e];by_cases z:q k≠0
  ·refine .inr ⟨0,_,q,by rw[qj<|qG z];rfl,rfl,?_⟩;unfold pick;rw[qj z];rfl
  ·rw[qm λw=>z<|nG w,pW];rcases Wy k Q with⟨h1,h2⟩|⟨i,r,q',h1,h2,h3⟩
   ·refine .inl ⟨by rw[h1];rfl,?_⟩;unfold pick;rw[qm z,h2];rfl
   ·refine .inr ⟨i+1,r.map Nat.succ,q',by rw[h1];rfl,by simpa using h2,?_⟩;unfold pick;rw[qm z,h3];rfl
def zkC{a:Nat}(h1:ρ[j]?=some (.ow ds))(h2:g ρ=some (.int (a:Int)))(h3:ds[a]?=some d)(h4:ds.length<=16777216):rm i j g ρ=some (.nx<|(ρ.set j<|.ow<|ds.eraseIdx a).set i<|.pu d):=by
 have hl:=(qg.mp h3).1;unfold rm;rw[h1,h2];show(if 0<=(a:Int)/\(a:Int)<ds.length/\ds.length<=16777216 then _ else none)=_
 rw[qj ⟨by omega,by omega,h4⟩,ky,h3];rfl
def zkX{fi:RPx}(h1:gk i ρ=some ds)(h2:fi ρ=some (.int (k:Int)))(h3:f ρ=some d)(hk:k<1000)(hl:ds.length<16777216):rY i fi f ρ=some (.nx<|ρ.set i<|.ow<|ds.take k++d::ds.drop k):=by
 unfold rY;rw[h1,qq,h2];show(f ρ).bind _=_
 rw[h3,qq,qj ⟨by omega,by omega,hl⟩,ky]
def Lx{g:bY}{a:Nat}(h:g ρ=some [.int (a:Int),.int (b:Int)])(ha:a<1000000)(hb:b<1000000):uS g ρ=some (jT a<|b - a):=by
 unfold uS;rw[h];show(if -(2 ^ 62)<=(a:Int)/\(a:Int)<2 ^ 62/\-(2 ^ 62)<=(b:Int)/\(b:Int)<2 ^ 62 then some (jT (a:Int) ((b:Int) - (a:Int)).toNat) else none)=_
 rw[qj ⟨by omega,by omega,by omega,by omega⟩,show((b:Int) - (a:Int)).toNat=b - a by omega]
abbrev zD(n:Nat)(Q:LQr):List PyData:=Q.map<|yi n
def Ly{a:Nat}{Q:LQr}{q:Q1x}(hD:Dn.length=a)(h:Q[i]?=some q):(Dn++zD n Q)[a+i]?=some (yi n q):=by
 rw[qF (by omega),qp,show a+i - Dn.length=i by omega,h];rfl
def VA{a:Nat}(h:ds[a]?=some d):bS (.list ds) (.int (a:Int))=some d:=VC h
theorem ZO{α β:Type}(f:α->β):∀(l:List α)(i:Nat),(l.map f).eraseIdx i=(l.eraseIdx i).map f
 |[],_=>rfl
 |_::_,0=>rfl
 |a::l,i+1=>qM (f a::·)<|ZO f l i
def erase_left{a:Nat}{Q:LQr}(hD:Dn.length=a):(Dn++zD n Q).eraseIdx (a+i)=Dn++zD n (Q.eraseIdx i):=by
 rw[pC (by omega),show a+i - Dn.length=i by omega,ZO]
abbrev Cq:bW:=cD (zy<|bM cM (bM bS aP<|cst<|.int 0)<|cst<|.int 0) ah s0
def zkl{b q:Q1x}(h:q k=0):el b k q=q:=by
 funext y
 show q y - q k / b k*b y=q y
 rw[h,hX,ki,ki];grind
def Vq(h:f ρ=some (fr q)):zy (bM cM (bM bS f<|cst<|.int 0)<|cst<|.int 0) ρ=some (decide (q≠0)):=by
 refine zB<|(zg ((zg h rfl).trans<|eX q) rfl).trans<|(jW _ _).trans ?_;by_cases z:q=0
 ·subst z;rfl
 ·rw[qN λe=>z<|mF.mp e,qG z];rfl
def Va{t:Rat}{z w:Int}(hz:z≠0)(e:t*(z:Rat)=(w:Rat)):bT z.natAbs w.natAbs t:=by
 by_cases h:0<=z
 ·refine⟨by omega,w,?_,qe _⟩;rw[<-e,<-Rat.intCast_natCast,Int.natAbs_of_nonneg h]
 ·refine⟨by omega,-w,?_,by rw[nE];exact qe _⟩
  have:((z.natAbs:Nat):Rat)=-(z:Rat):=by
   rw[<-Rat.intCast_natCast,<-Rat.intCast_neg];congr 1;omega
  rw[nc,<-e,this];grind
abbrev E5:bW:=sq a7
 (cD (zy<|bM fW (zi yh<|aC (gb 4) a0)<|cst<|.int 0) (sq (rm 5 1<|bM bS (gb 4)<|cst<|.int 0)<|sq (rY 1 am<|gv 5)<|sq (je (uS<|aC aV<|aC aB a0) (bN 6) Cq)<|zW 2<|bM xN am<|cst<|.int 1) s0)
theorem LA:∀m k,rk m k []=0
 |0,_=>rfl
 |m+1,k=>LA m<|k+1
def zjQ{x:Q1x}:eN n [] x↔∀y,y<n->x y=0:=by
 constructor
 ·intro h y hy
  have:=h (λz=>if z=y then 1 else 0) λl hl=>by cases hl
  have e:dq n (λz=>if z=y then 1 else 0) x=x y:=by
   show sumTo n (λz=>(if z=y then (1:Rat) else 0)*x z)=x y
   rw[yf _ n hy λz _ cQ=>by rw[qm cQ,ki],qj rfl,nH]
  rwa[e] at this
 ·intro h w _;show sumTo n (λz=>w z*x z)=0
  rw[zb n (g:=λ_=>0) λz hz=>by rw[h z hz,kI],zT]
theorem LB{bd:PyData->Ro->Option Ro}{b:bW}{d:PdX}(P:Ro->Prop):∀{ds:LPd} {ρ0:Ro} (p:Nat->Prop),P ρ0->
  (∀i dd ρ,ds[i]?=some dd->P ρ->∃bX,bd dd ρ=some bX/\((p i/\∃ρ2,b bX=some (.nx ρ2)/\P ρ2)\/(¬p i/\b bX=some (.rt d))))->
  ((∀i,i<ds.length->p i)/\∃ρ',ZR bd b ds ρ0=some (.nx ρ')/\P ρ')\/((¬∀i,i<ds.length->p i)/\ZR bd b ds ρ0=some (.rt d))
 |[],ρ0,p,h0,_=>.inl ⟨λi hi=>absurd hi<|gc i,ρ0,rfl,h0⟩
 |dd::r,ρ0,p,h0,h=>by
  obtain⟨bX,e1,q⟩:=h 0 dd ρ0 rfl h0;rcases q with⟨hp,ρ2,e2,hP⟩|⟨hp,e2⟩
  ·have st:ZR bd b (dd::r) ρ0=ZR bd b r ρ2:=by
    show(bd dd ρ0).bind _=_
    rw[e1,qq,e2]
   rcases LB P (ds:=r) (ρ0:=ρ2) (λi=>p<|i+1) hP λi d' ρ e q=>h (i+1) d' ρ (by simpa using e) q with⟨a1,ρ',a2,a3⟩|⟨a1,a2⟩
   ·refine .inl ⟨λi hi=>?_,ρ',st.trans a2,a3⟩;cases i with
    |zero=>exact hp
    |succ i=>exact a1 i (by simpa using hi)
   ·exact .inr ⟨λz=>a1 λi hi=>z (i+1) (by simpa using hi),st.trans a2⟩
  ·refine .inr ⟨λz=>hp (z 0<|by simp),?_⟩;show(bd dd ρ0).bind _=_
   rw[e1,qq,e2]
def LC{it:bY}{bd:PyData->Ro->Option Ro}{b:bW}(P:Ro->Prop)(p:Nat->Prop)(hi:it ρ0=some ds)(h0:P ρ0)(h:∀i dd ρ,ds[i]?=some dd->P ρ->∃bX,bd dd ρ=some bX/\((p i/\∃ρ2,b bX=some (.nx ρ2)/\P ρ2)\/(¬p i/\b bX=some (.rt d)))):((∀i,i<ds.length->p i)/\∃ρ',je it bd b ρ0=some (.nx ρ')/\P ρ')\/((¬∀i,i<ds.length->p i)/\je it bd b ρ0=some (.rt d)):=by
 have e:je it bd b ρ0=ZR bd b ds ρ0:=by
  unfold je;rw[hi];rfl
 rw[e];exact LB P p h0 h
section
def zcB(hn:n<=42)(hm:m<=42)(hs:s<=42):u5 [zt n s fi st la,zt m s gi su lb]=some (zt (n+m) s (jn n fi gi) (y4 n st su)<|jn n la λi=>-(lb i)):=by
 refine zM rfl<|(zw<|zI (d:=yq m λi=>-(lb i)) ?_).trans<|zG ?_
 ·refine(ze (xs:=[.list<|(List.range m).map λi=>fr<|-(lb i)])<|zm (zX<|zS (xs:=List.range m) (e:=λi=>fr<|lb i) (vL<|(zg rfl rfl).trans w8) (by rw[qw];omega) λi _=>yr.trans<|Lv (i:=0) rfl) rfl).trans rfl
 ·exact(ze<|zm rfl<|zm ((U2 ((zg rfl rfl).trans vb) ((zg rfl rfl).trans jB) rfl).trans rfl) rfl).trans (uo hn hm hs)
end
def Sw(n s:Nat)(fi:Q1x)(st:Q3x)(la:Q1x)(K:LQr):Prop:=eN n K fi/\∀r∈K,sumTo n (λi=>r i*la i)=0/\∀g,g<s->eN n K (led n r<|st g)
abbrev KL(L:WR):List (Nat->Rat):=L.map λq=>rt q.2
section
def zha{x y:PdX}(h:vi CS [x,y]=some (.tuple [.none,.list<|L.map λq=>yl n q.2]))(hn:n<=42)(hl:L.length<=1000):wo CS [x,y]=some (.list<|zD n<|KL L):=by
 refine zM rfl<|(zw<|zI<|(ze rfl).trans h).trans<|(zw<|(xb<|zB ?_).trans rfl).trans<|zG<|zX ?_
 ·rfl
 ·refine(zS (xs:=L) (e:=λq=>yl n q.2) (d:=λq=>yi n<|rt q.2) (xV rfl) (by omega) λq _=>?_).trans (qM some<|show _=(L.map λq=>rt q.2).map (yi n) by rw[kb];rfl);refine yr.trans<|zX ?_;exact zS (xs:=List.range n) (e:=λi=>.int<|q.2 i) (d:=λi=>fr<|rt q.2 i) (xV rfl) (by rw[qw];omega) λi _=>yr.trans<|(j3 rfl<|by show 2<=16777216;omega).trans rfl
def LD{x:Q1x}:In n R.reverse x↔eN n (R.map rt) x:=by
 constructor
 ·intro h w hw;exact h w λr hr=>hw _<|qE.mpr ⟨r,kd.mp hr,rfl⟩
 ·intro h w hw;refine h w λl hl=>?_
  obtain⟨r,hr,rfl⟩:=qE.mp hl;exact hw r<|kd.mpr hr
def lp.sw(h:lp n s st fi la L)(hs:0<s):Sw n s fi st la (KL L):=by
 obtain⟨T,F,C,d,a,h1,h2,h3⟩:=h;have e:KL L=(L.map (·.2)).map rt:=by rw[kb];rfl
 rw[e];refine⟨LD.mp (h1.rs.zca hs h2 [] λg hg=>by cases hg),λr hr=>?_⟩;rw[<-e] at hr;obtain⟨q,hq,rfl⟩:=qE.mp hr;refine⟨?_,λg hg=>LD.mp<|h1.rs.Wa hs h2 g _ hg λw hw=>hw q.2<|kd.mpr<|qE.mpr ⟨q,hq,rfl⟩⟩;obtain⟨c,hc,hr⟩:=h1.mult hq;have e2:sumTo n (λi=>rt q.2 i*la i)=wt n st fi la q.1*c:=by
  unfold wt;rw[<-zC];exact zb n λi hi=>by
   show(q.2 i:Rat)*la i=_
   rw[hr i hi];grind
 rw[e2,h3 q hq,ki]
def lp.len(h:lp n s st fi la L):L.length<=n:=by
 obtain⟨T,F,C,d,a,h1,h2,h3⟩:=h;have l:=h1.lens;omega
def lp.abs(h:lp n s st fi la L)(b:Bd n s st fi k B m):∀q∈L,∀x,x<n->(q.2 x).natAbs<=B:=by
 obtain⟨T,F,C,d,a,h1,h2,h3⟩:=h;exact λq hq=>h1.abs b hq
end
def ZD{z:Int}(h:z.natAbs<=B):bT 1 B (z:Rat):=⟨by decide,z,by rw[show((1:Nat):Rat)=1 from rfl,Rat.mul_one],h⟩
end L2.Fu
namespace L2.Fu
open PySem WS WD WD.DT
def Tb(a b:Nat)(q:Rat):Prop:=bT (6 ^ a) (2 ^ b) q
def Tb.zero(a b:Nat):Tb a b 0:=bT.zero<|zV a
def Tb.mul{a c d:Nat}{r:Rat}(h:Tb a b q)(k:Tb c d r):Tb (a+c) (b+d) (q*r):=by
 have:=bT.mul h k;rwa[<-Nat.pow_add,<-Nat.pow_add] at this
def Tb.up{a c d:Nat}(h:Tb a b q)(hc:a<=c)(hd:b+3*(c - a)<=d):Tb c d q:=by
 obtain⟨e,rfl⟩:=bz hc
 have:=bT.up h (c:=6 ^ e)<|zV e;rw[<-Nat.pow_add] at this;exact this.mono (ya (qe _) (wQ e)<|by omega)
def Tb.sum{a v:Nat}{f:Q1x}(hn:n<=2 ^ v)(h:∀i,i<n->Tb a b (f i)):Tb a (b+v) (sumTo n f):=(xH (zV a) n h).mono (ya hn (qe _)<|by omega)
def Tb.sk{a:Nat}(h:Tb a b q)(hk:a<=k)(hb:b+3*(k - a)<=8*k):Sk k q:=Tb.up h hk hb
def Tb.neg{a:Nat}(h:Tb a b q):Tb a b (-q):=by
 obtain⟨x,e,hx⟩:=h.ex;exact⟨h.pos,-x,by rw[nc,<-e];grind,by rw[nE];exact hx⟩
def Fq.tb(h:Fq q):Tb 1 5 q:=h
structure Wm(n s:Nat)(fi:Q1x)(st:Q3x)(p q:Nat)(α β:Nat->Nat):Prop where
 fi:∀x,x<n->Tb (α x) (β x) (fi x)
 st:∀g x y,g<s->x<n->y<n->st g x y=0\/(α x<=α y/\β x<=β y/\Tb (α y - α x+p) (β y - β x+q) (st g x y))
theorem Wm.row{n s p q v:Nat}{fi:Q1x}{st:Q3x}{α β:Nat->Nat}(h:Wm n s fi st p q α β)(hn:n<=2 ^ v):∀(l:Nat)(u:LNt),u.length=l->(∀g∈u,g<s)->∀y,y<n->Tb (α y+l*p) (β y+l*(q+v)) (zE n st fi u y)
 |0,u,hu,_,y,hy=>by
  have e:u=[]:=gI.mp hu;subst e;rw[Nat.zero_mul,Nat.zero_mul];exact h.fi y hy
 |l+1,u,hu,hg,y,hy=>by
  rcases IQ u with e|⟨w,g,e⟩
  ·rw[e] at hu;simp at hu
  subst e;have hw:w.length=l:=by simpa using hu
  have ih:=h.row hn l w hw λg' dg=>hg g'<|qu.mpr<|.inl dg
  have iJ:g<s:=hg g<|qu.mpr<|.inr<|qY.mpr rfl;rw[wk]
  have:=Tb.sum (a:=α y+(l+1)*p) (b:=β y+l*(q+v)+q) (f:=λx=>zE n st fi w x*st g x y) hn λx hx=>by
   rcases h.st g x y iJ hx hy with z|⟨z1,z2,z3⟩
   ·rw[z,kI];exact Tb.zero _ _
   ·have e1:α x+l*p+(α y - α x+p)=α y+(l+1)*p:=by rw[h9];omega
    have e2:β x+l*(q+v)+(β y - β x+q)=β y+l*(q+v)+q:=by omega
    have:=(ih x hx).mul z3;rwa[e1,e2] at this
  rw[show β y+(l+1)*(q+v)=β y+l*(q+v)+q+v by rw[h9];omega];exact this
noncomputable def Cr(n:Nat)(f g:Nat->Nat):Nat->Nat:=λx=>if x<n then f x else g (x - n)
def Wm.add{p q:Nat}{α β LF LG:Nat->Nat}(A:Wm n s fi st p q α β)(B:Wm m s gi su p q LF LG):Wm (n+m) s (jn n fi gi) (y4 n st su) p q (Cr n α LF) (Cr n β LG) where
 fi:=λx hx=>by
  unfold jn Cr;by_cases z:x<n
  ·rw[qj z,qj z,qj z];exact A.fi x z
  ·rw[qm z,qm z,qm z];exact B.fi (x - n) (by omega)
 st:=λg x y hg hx hy=>by
  unfold y4 fz jn Cr;by_cases z:x<n
  ·rw[qj z];by_cases w:y<n
   ·rw[qj w,qj z,qj w,qj z,qj w];exact A.st g x y hg z w
   ·rw[qm w];exact .inl rfl
  ·rw[qm z];by_cases w:y<n
   ·rw[qj w];exact .inl rfl
   ·rw[qm w,qm z,qm w,qm z,qm w];exact B.st g (x - n) (y - n) hg (by omega) (by omega)
structure vd(n s:Nat)(fi:Q1x)(st:Q3x)(la:Q1x)(a b:Nat):Prop where
 fi:∀x,x<n->Tb a b (fi x)
 st:∀g x y,g<s->x<n->y<n->Tb a b (st g x y)
 la:∀x,x<n->Tb a b (la x)
section
variable{a:Nat}
def BD.tb(h:BD n s fi st la):vd n s fi st la 1 5:=⟨λx hx=>(h.fi x hx).tb,λg x y hg hx hy=>(h.st g x y hg hx hy).tb,λx hx=>(h.la x hx).tb⟩
def vd.up{c d:Nat}(h:vd n s fi st la a b)(hc:a<=c)(hd:b+3*(c - a)<=d):vd n s fi st la c d:=⟨λx hx=>(h.fi x hx).up hc hd,λg x y hg hx hy=>(h.st g x y hg hx hy).up hc hd,λx hx=>(h.la x hx).up hc hd⟩
def vd.wm(h:vd n s fi st la a b):Wm n s fi st a b (λ_=>a) λ_=>b:=⟨h.fi,λg x y hg hx hy=>.inr ⟨qe _,qe _,by rw[gy,gy,nC,nC];exact h.st g x y hg hx hy⟩⟩
def vd.turned(h:vd n s fi st la a b):vd n s la (λg x y=>st g y x) fi a b:=⟨h.la,λg x y hg hx hy=>h.st g y x hg hy hx,h.fi⟩
def Cs{f g:Q1x}(hf:∀x,x<n->Tb a b (f x))(hg:∀x,x<m->Tb a b (g x))(x:Nat)(hx:x<n+m):Tb a b (jn n f g x):=by
 unfold jn;by_cases z:x<n
 ·rw[qj z];exact hf x z
 ·rw[qm z];exact hg (x - n) (by omega)
def vd.add(A:vd n s fi st la a b)(B:vd m s gi su lb a b):vd (n+m) s (jn n fi gi) (y4 n st su) (jn n la lb) a b where
 fi:=Cs A.fi B.fi
 st:=λg x y hg hx hy=>by
  unfold y4 fz;by_cases z:x<n
  ·rw[qj z];exact Cs (λy hy=>A.st g x y hg z hy) (λy _=>Tb.zero _ _) y hy
  ·rw[qm z];exact Cs (λy _=>Tb.zero _ _) (λy hy=>B.st g (x - n) y hg (by omega) hy) y hy
 la:=Cs A.la B.la
end
end L2.Fu
namespace L2.Fu
open PySem WS WD WD.DT
open PySem.Builtin.Int (intBits)
section
variable{β:Nat}
def vd.mach{a:Nat}(h:vd n s fi st la a b)(hk:a<=k)(hb:b+3*(k - a)<=8*k):Ab n s fi st la k:=⟨λx hx=>(h.fi x hx).sk hk hb,λg x y hg hx hy=>(h.st g x y hg hx hy).sk hk hb,λx hx=>(h.la x hx).sk hk hb⟩
def zjS(w:LNt):wt (n+m) (y4 n st su) (jn n fi gi) (jn n la λi=>lb i*(-1)) w=wt n st fi la w - wt m su gi lb w:=by
 rw[Vs w (jn n fi gi) fi gi λ_ _=>rfl];have e:wt m su gi (λi=>lb i*(-1)) w=wt m su gi lb w*(-1):=by
  unfold wt;rw[<-zC];exact zb m λi _=>by grind
 rw[e];grind
end
def UE{c:Nat}(h:bT M N q)(hM:M<2 ^ c)(hN:N<2 ^ c):Bq c q:=⟨yZ<|qJ h.num hN,yZ<|by rw[kB];exact qJ (k6 h.pos h.den) hM⟩
def zg5{u:Bool}{a c:Nat}{f g:Q1x}(hn:n<=42)(hf:∀i,i<n->Bq a (f i)/\Bq b (g i)/\bT M N (f i*g i))(IS:a+b<=8999)(hM0:0<M)(hM:M<2 ^ c)(hN:n*N<2 ^ c)(hc:c+c<=8999):xQ [qd t n f,qd u n g]=some (fr<|sumTo n λi=>f i*g i):=by
 refine zM rfl ?_;refine(zw (ρ':=[.pu<|qd t n f,.pu<|qd u n g,.pu<|fr 0,.no]) rfl).trans ?_;obtain⟨ρ',e,o,rfl⟩:=JK (n:=n) (g:=aC ax a0) (bd:=bN 3)
  (b:=zW 2<|zi xK<|aC am<|aC (zi yE<|aC (bM bS af<|gv 3)<|aC (bM bS ag<|gv 3) a0) a0)
  (ρ0:=[.pu<|qd t n f,.pu<|qd u n g,.pu<|fr 0,.no])
  (λi ρ=>∃o,ρ=[.pu<|qd t n f,.pu<|qd u n g,.pu<|fr<|sumTo i λi=>f i*g i,o]) (zm ((ze rfl).trans<|YV t n f) rfl) (by omega) ⟨.no,rfl⟩
  λi ρ hi ⟨o,e⟩=>by
   subst e;refine⟨_,_,rfl,zI ?_,.pu<|.int (i:Int),rfl⟩;refine(ze<|zm rfl<|zm ((ze<|zm ((zg rfl rfl).trans<|Ul hi)<|zm ((zg rfl rfl).trans<|Ul hi) rfl).trans<|JG (hf i hi).1 (hf i hi).2.1 IS) rfl).trans ?_;have h1:i*N<=n*N:=kD _ (by omega);have h2:1*N<=n*N:=kD _ (by omega)
   exact Zh (UE (xH hM0 i λj hj=>(hf j<|by omega).2.2) hM<|by omega) (UE (hf i hi).2.2 hM<|by omega) hc
 exact(zw e).trans<|zG rfl
section
variable{a c R S:Nat}
structure Gz(n a b c R Nr S Ns:Nat):Prop where
 r:R<2 ^ a/\Nr<2 ^ a
 s:S<2 ^ b/\Ns<2 ^ b
 p:0<R/\0<S
 ab:a+b<=8999
 m:R*S<2 ^ c
 n:n*(Nr*Ns)<2 ^ c
 c:c+c<=8999
def Gz.dot{u:Bool}{f g:Q1x}(z:Gz n a b c R Nr S Ns)(hn:n<=42)(hf:∀i,i<n->bT R Nr (f i))(hg:∀i,i<n->bT S Ns (g i)):xQ [qd t n f,qd u n g]=some (fr<|sumTo n λi=>f i*g i):=zg5 hn (λi hi=>⟨UE (hf i hi) z.r.1 z.r.2,UE (hg i hi) z.s.1 z.s.2,(hf i hi).mul<|hg i hi⟩) z.ab (qU z.p.1 z.p.2) z.m z.n z.c
def LH{r:Q1x}{M:Q2x}(z:Gz n a b c R Nr S Ns)(hn:n<=42)(hr:∀x,x<n->bT R Nr (r x))(hM:∀x y,x<n->y<n->bT S Ns (M x y)):jz [qd t n r,yG n M]=some ((List.range n).map λb=>fr<|led n r M b):=by
 obtain⟨bX,e1,o,rfl⟩:=JK (n:=n) (g:=aC ax a0) (bd:=bN 3)
  (b:=fh 2<|zi xQ<|aC af<|aC bn a0)
  (ρ0:=[.pu<|qd t n r,.pu<|yG n M,.ow [],.no])
  (λi ρ=>∃o,ρ=[.pu<|qd t n r,.pu<|yG n M,.ow<|(List.range i).map λb=>fr<|led n r M b,o]) (zm ((ze rfl).trans<|YV t n r) rfl) (by omega) ⟨.no,rfl⟩
  λb ρ hb ⟨o,e⟩=>by
   subst e;refine⟨_,_,rfl,Uw (d:=fr<|led n r M b) rfl ?_ (by rw[qf,qw];omega),.pu<|.int (b:Int),by rw[<-Ux];rfl⟩;refine(ze (xs:=[qd t n r,qd false n λa=>M a b])<|zm rfl<|zm (zX<|vg (n:=n) (zm ((ze rfl).trans<|YV t n r) rfl) (by omega) λa ha=>?_) rfl).trans<|z.dot hn hr λx hx=>hM x b hx hb;exact(zg ((zg rfl rfl).trans<|Qx ha) rfl).trans<|Ul (t:=true) hb
 refine um rfl ?_;exact(zw (ρ':=[.pu<|qd t n r,.pu<|yG n M,.ow [],.no]) rfl).trans<|(zw e1).trans<|vw rfl
def Vz{S' LI:Nat}(z:Gz n a b c R Nr S Ns)(z':Gz n a b c R Nr S' LI)(hn:n<=42)(hrow:∀u:List Nat,(∀g∈u,g<s)->u.length<=ws.length->∀x,x<n->bT R Nr (zE n st fi u x))(hst:∀g x y,g<s->x<n->y<n->bT S Ns (st g x y))(hla:∀x,x<n->bT S' LI (la x))(hg:∀g∈ws,g<s):xY [zt n s fi st la,zO ws]=some (fr<|wt n st fi la ws):=by
 have er:VZ [zt n s fi st la,zO ws]=some ((List.range n).map λa=>fr<|zE n st fi ws a):=by
  obtain⟨bX,e1,o,rfl⟩:=vm (ds:=ws.map λ(g:Nat)=>PyData.int (g:Int)) (it:=yc<|gv 1) (bd:=bN 3)
   (b:=lY 2<|x6 2<|xf jz<|aC am<|aC (bM bS ac<|gv 3) a0)
   (ρ0:=[.pu<|zt n s fi st la,.pu<|zO ws,.ow<|(List.range n).map λa=>fr<|fi a,.no])
   (λi ρ=>∃o,ρ=[.pu<|zt n s fi st la,.pu<|zO ws,.ow<|(List.range n).map λa=>fr<|zE n st fi (ws.take i) a,o]) rfl ⟨.no,rfl⟩
   λi d ρ hd ⟨o,e⟩=>by
    subst e;rw[qp] at hd;obtain⟨g,LJ,rfl⟩:=map_some hd;have iJ:=hg g<|qI LJ;refine⟨_,_,rfl,yK ?_,.pu<|.int (g:Int),rfl⟩;refine(xc (xs:=[qd false n<|zE n st fi<|ws.take i,yG n<|st g])<|zm rfl<|zm ((zg ((zg rfl rfl).trans jB) rfl).trans<|Zw iJ) rfl).trans ?_;rw[QE LJ];exact LH z hn (hrow _ (λx hx=>hg x<|List.mem_of_mem_take hx)<|by rw[k5];omega) λx y hx hy=>hst g x y iJ hx hy
  refine um rfl ?_;refine(zw (ρ':=[.pu<|zt n s fi st la,.pu<|zO ws,.ow<|(List.range n).map λa=>fr<|fi a,.no]) rfl).trans<|(zw e1).trans<|vw ?_;rw[qf,gP];rfl
 refine zM rfl<|zG ?_;refine(ze (xs:=[qd false n<|zE n st fi ws,qd true n la])<|zm (zX<|(xc rfl).trans er)<|zm ((zg rfl rfl).trans w8) rfl).trans ?_;exact z'.dot hn (hrow ws hg<|qe _) hla
end
end L2.Fu
namespace L2.Fu
open PySem PySem.Spec PyProof.Rows WS WD WD.DT
section
variable{c:Rat}
theorem Uv(hi:i<n)(hj:j<n)(dh:i≠j):∀(u:LNt)(r:Q1x),zE n (vD i j c st) (b9 i j c r) u=b9 i j c (zE n st r u)
 |[],_=>rfl
 |g::u,r=>by
  show zE n (vD i j c st) (led n (b9 i j c r)<|vD i j c st g) u=b9 i j c (zE n st (led n r<|st g) u)
  rw[show led n (b9 i j c r) (vD i j c st g)=b9 i j c (led n r<|st g) from funext λb=>Iy hi hj dh r g b];exact Uv hi hj dh u _
def zhs(dh:i≠j):(λg a b=>vD i j c st g b a)=vD j i (-c) λg a b=>st g b a:=by
 funext g a b
 unfold vD b9;by_cases h1:b=i<;>by_cases h2:a=j
 ·subst h1 h2;simp only [qj,qm dh,qm<|gE dh]<;>grind
 ·subst h1;simp only [qj,qm h2,qm dh,qm<|gE dh]<;>grind
 ·subst h2;simp only [qj,qm h1,qm dh,qm<|gE dh]<;>grind
 ·simp only [qm h1,qm h2]
def zfg(hi:i<n)(hj:j<n)(dh:i≠j)(v:LNt):jM n (vD i j c st) (b9 j i (-c) la) v=b9 j i (-c) (jM n st la v):=by
 rw[<-xt (vD i j c st),<-xt st la v,zhs dh];exact Uv hj hi (gE dh) v.reverse la
def YO{a:Nat}{f:Q1x}(hi:i<n)(hj:j<n)(hf:∀x,x<n->Tb a b (f x))(hc:Tb 1 5 c)(x:Nat)(hx:x<n):Tb (a+1) (b+6) (b9 i j c f x):=by
 unfold b9;split
 ·have h1:Tb (a+1) (b+5) (f j):=(hf j hj).up (by omega) (by omega);have h2:Tb (a+1) (b+5) (c*f i):=by
   have:=hc.mul<|hf i hi;rwa[nW 1 a,nW 5 b] at this
  have:=bT.add h1 h2;rwa[<-Nat.two_mul,<-Nat.pow_succ'] at this
 ·exact(hf x hx).up (by omega) (by omega)
def zhR{a:Nat}(hi:i<n)(hj:j<n)(A:vd n s fi st la a b)(hc:Tb 1 5 c):vd n s (b9 i j c fi) (vD i j c st) (b9 j i (-c) la) (a+2) (b+12) where
 fi:=λx hx=>(YO hi hj A.fi hc x hx).up (by omega) (by omega)
 st:=λg x y hg hx hy=>by
  have R:∀x,x<n->∀y,y<n->Tb (a+1) (b+6) (b9 i j c (st g x) y):=λx hx=>YO hi hj (λy hy=>A.st g x y hg hx hy) hc
  unfold vD;split
  ·have h1:Tb (a+2) (b+11) (b9 i j c (st g i) y):=(R i hi y hy).up (by omega) (by omega);have h2:Tb (a+2) (b+11) (-c*b9 i j c (st g j) y):=by
    have:=hc.neg.mul<|R j hj y hy;rwa[show 1+(a+1)=a+2 by omega,show 5+(b+6)=b+11 by omega] at this
   have:=bT.add h1 h2;rwa[<-Nat.two_mul,<-Nat.pow_succ'] at this
  ·exact(R x hx y hy).up (by omega) (by omega)
 la:=λx hx=>(YO hj hi A.la hc.neg x hx).up (by omega) (by omega)
structure Kb(n s:Nat)(fi:Q1x)(st:Q3x)(la:Q1x)(t:Nat):Prop where
 row:∀u:List Nat,(∀g∈u,g<s)->∀x,x<n->Tb (1+u.length+t) (5+u.length*8+6*t) (zE n st fi u x)
 col:∀u:List Nat,(∀g∈u,g<s)->∀x,x<n->Tb (1+u.length+t) (5+u.length*8+6*t) (jM n st la u x)
 mt:vd n s fi st la (1+2*t) (5+12*t)
def Kb.new(A:vd n s fi st la 1 5)(hn:n<=8):Kb n s fi st la 0 where
 row:=λu hg x hx=>by
  have:=A.wm.row (v:=3) (by omega) u.length u rfl hg x hx;rwa[nJ] at this
 col:=λu hg x hx=>by
  have:=A.turned.wm.row (v:=3) (by omega) u.reverse.length u.reverse rfl (λg h=>hg g<|kd.mp h) x hx;rwa[xt,kC,nJ] at this
 mt:=A
def Kb.mix{t:Nat}(A:Kb n s fi st la t)(hi:i<n)(hj:j<n)(dh:i≠j)(hc:Tb 1 5 c):Kb n s (b9 i j c fi) (vD i j c st) (b9 j i (-c) la) (t+1) where
 row:=λu hg x hx=>by
  rw[Uv hi hj dh];exact YO hi hj (A.row u hg) hc x hx
 col:=λu hg x hx=>by
  rw[zfg hi hj dh];exact YO hj hi (A.col u hg) hc.neg x hx
 mt:=zhR hi hj A.mt hc
def Kb.up{t:Nat}(A:Kb n s fi st la t):Kb n s fi st la (t+1) where
 row:=λu hg x hx=>(A.row u hg x hx).up (by omega) (by omega)
 col:=λu hg x hx=>(A.col u hg x hx).up (by omega) (by omega)
 mt:=A.mt.up (by omega) (by omega)
end
section
def zhd(c:Int){more:Nat}(hm:n+more<=8)(hs:s<=42)(A:BD n s fi st la):∃fi' st' la',Ua [zt n s fi st la,.int c,.int (more:Int)]=some (zt (n+more) s fi' st' la')/\Kb (n+more) s fi' st' la' 3/\∀ws,wt (n+more) st' fi' la' ws=wt n st fi la ws:=by
 have ln0:∀(n':Nat)(fi:Q1x)(st:Q3x)(la:Q1x)(ρ:Ro),gv 0 ρ=some (zt n' s fi st la)->zi yh (aC aa a0) ρ=some (.int (n':Int)):=λn' fi st la ρ h=>(ze<|zm ((zg h rfl).trans vb) rfl).trans<|xO n' _
 have AR:∃lh iq lj c5 c6,ae
   [.pu<|zt n s fi st la,.pu<|.int c,.pu<|.int (more:Int),.pu<|.int (n:Int),.pu<|.int (s:Int),.no,.no,.no,.no,.no]=some (.nx [.pu<|zt (n+more) s lh iq lj,.pu<|.int c,.pu<|.int (more:Int),.pu<|.int (n:Int),.pu<|.int (s:Int),c5,c6,.no,.no,.no])/\Kb (n+more) s lh iq lj 0/\∀ws,wt (n+more) iq lh lj ws=wt n st fi la ws:=by
  by_cases z:more=0
  ·subst z;exact⟨fi,st,la,.no,.no,(xb<|zB rfl).trans rfl,Kb.new A.tb (by omega),λws=>rfl⟩
  ·obtain⟨gi,su,lb,e,B⟩:=Uu c (n:=more) (s:=s) (by omega) hs;have B1:=B.tb;have none:zi zZ (aC aR a0) [.pu<|zt n s fi st la,.pu<|.int c,.pu<|.int (more:Int),.pu<|.int (n:Int),.pu<|.int (s:Int),.pu<|zt more s gi su lb,.no,.no,.no,.no]=some (yq more λ_=>0):=(ze (xs:=[.list<|(List.range more).map λ_=>fr 0])<|zm (zX<|vg (n:=more) rfl (by omega) λi _=>yr.trans rfl) rfl).trans rfl
   obtain⟨r2,hr2,er2⟩:=VE (i:=c) (m:=2) (by decide);have cond:zy (bM dA (bM xB ag<|cst<|.int 2)<|cst<|.int 0) [.pu<|zt n s fi st la,.pu<|.int c,.pu<|.int (more:Int),.pu<|.int (n:Int),.pu<|.int (s:Int),.pu<|zt more s gi su lb,.pu<|yq more λ_=>0,.no,.no,.no]=some (decide ((r2:Int)=0)):=zB<|(zg ((zg rfl rfl).trans er2) rfl).trans<|Jq _ _;have gt:zy (bM fW am<|cst<|.int 0) [.pu<|zt n s fi st la,.pu<|.int c,.pu<|.int (more:Int),.pu<|.int (n:Int),.pu<|.int (s:Int),.no,.no,.no,.no,.no]=some true:=(zB<|show _=some (PyData.bool<|decide ((0:Int)<(more:Int))) from rfl).trans (by rw[qG<|by omega])
   have pre:∀g:Ro->Option Fl,_:=λg=>(ue gt (f:=sq (zW 5<|zi jb<|aC ag<|aC am<|aC bH a0)<|sq (zW 6<|zi zZ<|aC aR a0) g) (g:=s0)).trans<|(zw<|zI<|(ze rfl).trans e).trans<|zw<|zI none
   by_cases q:r2=0
   ·refine⟨jn n fi λ_=>0,y4 n st su,jn n la lb,_,_,(pre _).trans<|(ue<|cond.trans<|by rw[qG<|by omega]).trans<|(zI (d:=zt (n+more) s (jn n fi λ_=>0) (y4 n st su)<|jn n la lb)<|(ze<|zm rfl<|zm (x:=zt more s (λ_=>0) su lb) (U2 rfl ((zg rfl rfl).trans jB)<|(zg rfl rfl).trans w8) rfl).trans<|uo (by omega) (by omega) hs).trans rfl,Kb.new (A.tb.add ⟨λ_ _=>Tb.zero 1 5,B1.st,B1.la⟩) (by omega),λws=>?_⟩;rw[Vs ws _ fi (λ_=>0) λx _=>rfl,Uo ws _ λx _=>rfl];grind
   ·refine⟨jn n fi gi,y4 n st su,jn n la λ_=>0,_,_,(pre _).trans<|(xb<|cond.trans<|by rw[qN<|by omega]).trans<|(zI (d:=zt (n+more) s (jn n fi gi) (y4 n st su)<|jn n la λ_=>0)<|(ze<|zm rfl<|zm (x:=zt more s gi su λ_=>0) (U2 ((zg rfl rfl).trans vb) ((zg rfl rfl).trans jB) rfl) rfl).trans<|uo (by omega) (by omega) hs).trans rfl,Kb.new (A.tb.add ⟨B1.fi,B1.st,λ_ _=>Tb.zero 1 5⟩) (by omega),λws=>?_⟩;rw[Vs ws _ fi gi λx _=>rfl,RD];grind
 obtain⟨lh,iq,lj,c5,c6,e1,A1,w1⟩:=AR;obtain⟨bX,e2,c',fi2,fB,la2,o7,o8,o9,A2,w2,rfl⟩:=JK (n:=3) (g:=aC (cst<|.int 3) a0) (bd:=bN 7)
  (b:=sq az<|sq aJ<|sq aG<|cD (zy<|bM cM (gv 8)<|gv 9) aT s0)
  (ρ0:=[.pu<|zt (n+more) s lh iq lj,.pu<|.int c,.pu<|.int (more:Int),.pu<|.int ((n+more:Nat):Int),.pu<|.int (s:Int),c5,c6,.no,.no,.no])
  (λi ρ=>∃(c':Int)(fi':Q1x)(st':Q3x)(la':Q1x)(o7 o8 o9:Sl),Kb (n+more) s fi' st' la' i/\(∀ws,wt (n+more) st' fi' la' ws=wt n st fi la ws)/\ρ=[.pu<|zt (n+more) s fi' st' la',.pu<|.int c',.pu<|.int (more:Int),.pu<|.int ((n+more:Nat):Int),.pu<|.int (s:Int),c5,c6,o7,o8,o9])
  rfl (by decide) ⟨c,lh,iq,lj,.no,.no,.no,A1,w1,rfl⟩ λt ρ ht ⟨c',fi',st',la',o7,o8,o9,A',w',q⟩=>by
   subst q;obtain⟨u,hu,eu⟩:=VE (i:=c'*48271+31) (m:=2147483647) (by decide);have mx:∀ρ:Ro,gv 3 ρ=some (.int ((n+more:Nat):Int))->zi maxD (aC aj<|aC aO a0) ρ=some (.int ((max 1 (n+more):Nat):Int)):=λρ h=>by
    refine(ze<|zm rfl<|zm h rfl).trans ?_;show some (PyData.int<|if ((n+more:Nat):Int)>1 then ((n+more:Nat):Int) else 1)=_
    congr 2
    split<;>omega
   obtain⟨i,hi,ei⟩:=VE (i:=(u:Int).fdiv 5) (m:=max 1<|n+more) (by omega);obtain⟨j,hj,ej⟩:=VE (i:=(u:Int).fdiv 35) (m:=max 1<|n+more) (by omega);obtain⟨qc,hqc,LL⟩:=JH<|(u:Int).fdiv 300;have pre:∀g:Ro->Option Fl,(sq az<|sq aJ<|sq aG g)
     [.pu<|zt (n+more) s fi' st' la',.pu<|.int c',.pu<|.int (more:Int),.pu<|.int ((n+more:Nat):Int),.pu<|.int (s:Int),c5,c6,.pu<|.int (t:Int),o8,o9]=g [.pu<|zt (n+more) s fi' st' la',.pu<|.int (u:Int),.pu<|.int (more:Int),.pu<|.int ((n+more:Nat):Int),.pu<|.int (s:Int),c5,c6,.pu<|.int (t:Int),.pu<|.int (i:Int),.pu<|.int (j:Int)]:=λg=>by
    refine(zw<|zI (d:=.int (u:Int))<|(zg ((zg ((zg rfl rfl).trans<|Jz (j:=48271)<|by decide) rfl).trans rfl) rfl).trans eu).trans ?_;refine(zw<|zI (d:=.int (i:Int))<|(zg ((zg rfl rfl).trans<|xh (j:=5) (by decide)<|by decide)<|mx _ rfl).trans ei).trans ?_;exact zw<|zI (d:=.int (j:Int))<|(zg ((zg rfl rfl).trans<|xh (j:=35) (by decide)<|by decide)<|mx _ rfl).trans ej
   have cond:zy (bM cM (gv 8)<|gv 9) [.pu<|zt (n+more) s fi' st' la',.pu<|.int (u:Int),.pu<|.int (more:Int),.pu<|.int ((n+more:Nat):Int),.pu<|.int (s:Int),c5,c6,.pu<|.int (t:Int),.pu<|.int (i:Int),.pu<|.int (j:Int)]=some (!decide ((i:Int)=(j:Int))):=zB<|(zg rfl rfl).trans<|jW _ _;by_cases z:i=j
   ·exact⟨_,_,rfl,(pre _).trans<|(xb<|cond.trans<|qM (λb=>some<|!b)<|qG<|by omega).trans rfl,(u:Int),fi',st',la',.pu<|.int (t:Int),.pu<|.int (i:Int),.pu<|.int (j:Int),A'.up,w',rfl⟩
   ·have dP:i<n+more:=by omega
    have il:j<n+more:=by omega
    refine⟨_,_,rfl,(pre _).trans<|(ue<|cond.trans<|qM (λb=>some<|!b)<|qN<|by omega).trans<|zI<|(ze<|zm rfl<|zm rfl<|zm rfl<|zm ((ze<|zm ((zg rfl rfl).trans<|xh (j:=300) (by decide)<|by decide) rfl).trans hqc) rfl).trans<|RC (k:=13) (by omega) hs dP il (by decide) (A'.mt.mach (by omega)<|by omega) LL.sk,(u:Int),_,_,_,.pu<|.int (t:Int),.pu<|.int (i:Int),.pu<|.int (j:Int),A'.mix dP il z LL.tb,λws=>(Iz dP il z ws fi').trans<|w' ws,rfl⟩
 refine⟨fi2,fB,la2,zM rfl ?_,A2,w2⟩;refine(zw<|zI<|ln0 n fi st la _ rfl).trans ((zw<|zI<|Rv (i:=0) rfl).trans<|(zw e1).trans<|(zw<|zI (d:=.int ((n+more:Nat):Int))<|(zg rfl rfl).trans<|by rw[pX];rfl).trans<|(zw e2).trans<|zG rfl)
end
end L2.Fu
namespace L2.Fu
open PySem WS WD WD.DT
open PySem.Builtin.Int (intBits)
def zdX{a s1 s2 sp s3:Nat}{b:Q1x}{Q:LQr}{x0 x4:Sl}(hn:n<=42)(hk:k<n)(hb:b k≠0)(hD:Dn.length=a)(hl:a+Q.length<1000)(z1:s1+s1<=8999)(z2:sp+s2<=8999)(z3:s2+s3<=8999)(hBk:Bq s1 (b k))(hB:∀x,x<n->Bq s2 (b x))(hQk:∀q∈Q,Bq s1<|q k)(hQ:∀q∈Q,∀x,x<n->Bq s2 (q x))(hP:∀q∈Q,Bq sp<|q k*(b k)⁻¹)(hT:∀q∈Q,∀x,x<n->Bq s3 (q k*(b k)⁻¹*b x))(y6 y7 y8:Sl):∃o6 o7 o8,je (uS<|aC aV<|aC aB a0) (bN 6) Cq [x0,.ow<|Dn++yi n b::zD n Q,.pu<|zJ a,.pu<|zJ k,x4,.pu<|yi n b,y6,y7,y8]
   =some (.nx [x0,.ow<|Dn++yi n b::zD n (Q.map<|el b k),.pu<|zJ a,.pu<|zJ k,x4,.pu<|yi n b,o6,o7,o8]):=by
 have hlen:(Dn++yi n b::zD n Q).length=a+1+Q.length:=by rw[qz,ke,qf,hD];omega
 have hit:uS (aC aV<|aC aB a0) [x0,.ow<|Dn++yi n b::zD n Q,.pu<|zJ a,.pu<|zJ k,x4,.pu<|yi n b,y6,y7,y8]=some (jT ((a+1:Nat):Int) Q.length):=by
  refine(Lx (a:=a+1) (b:=a+1+Q.length) (zm ((zg rfl rfl).trans rfl)<|zm ((ze<|zm rfl rfl).trans ?_) rfl) (by omega)<|by omega).trans ?_
  ·show some (PyData.int ((Dn++yi n b::zD n Q).length:Int))=_
   rw[hlen]
  ·rw[show a+1+Q.length - (a+1)=Q.length by omega]
 obtain⟨ρ',e,o6,o7,o8,rfl⟩:=vm (ds:=jT ((a+1:Nat):Int) Q.length) (it:=uS<|aC aV<|aC aB a0) (bd:=bN 6) (b:=Cq)
  (ρ0:=[x0,.ow<|Dn++yi n b::zD n Q,.pu<|zJ a,.pu<|zJ k,x4,.pu<|yi n b,y6,y7,y8])
  (λj ρ=>∃o6 o7 o8,ρ=[x0,.ow<|Dn++yi n b::(zD n ((Q.take j).map<|el b k)++zD n (Q.drop j)),.pu<|zJ a,.pu<|zJ k,x4,.pu<|yi n b,o6,o7,o8]) hit ⟨y6,y7,y8,by simp⟩
  (λj d ρ hd ⟨o6,o7,o8,e⟩=>by
   subst e;obtain⟨hj,rfl⟩:=Vx hd;obtain⟨q,hq⟩:∃q,Q[j]?=some q:=⟨_,qk hj⟩;have lr:=qI hq;have oy:Q.drop j=q::Q.drop (j+1):=by
    rw[gT hj];rw[qk hj] at hq;cases hq;rfl
   have iz:(Q.take<|j+1).map (el b k)=(Q.take j).map (el b k)++[el b k q]:=by
    rw[gX,hq,q9];rfl
   generalize hL:Dn++yi n b::(zD n ((Q.take j).map<|el b k)++zD n (Q.drop j))=left;have Ct:left[a+1+j]?=some (yi n q):=by
    rw[<-hL,qF (by omega),show a+1+j - Dn.length=j+1 by omega,k9,qF (by rw[qf,qf,k5];omega),oy,qf,qf,k5,show j - min j Q.length=0 by omega];rfl
   have AS:left.set (a+1+j) (yi n<|el b k q)=Dn++yi n b::(zD n ((Q.take<|j+1).map<|el b k)++zD n (Q.drop<|j+1)):=by
    rw[<-hL,List.set_append_right _ _ (by omega),show a+1+j - Dn.length=j+1 by omega,List.set_cons_succ,List.set_append_right _ _ (by rw[qf,qf,k5];omega),qf,qf,k5,show j - min j Q.length=0 by omega,oy,iz];show Dn++yi n b::(zD n ((Q.take j).map<|el b k)++yi n (el b k q)::zD n (Q.drop<|j+1))=Dn++yi n b::((((Q.take j).map (el b k)++[el b k q]).map<|yi n)++zD n (Q.drop<|j+1))
    rw[q9,g0];rfl
   have er:((a+1:Nat):Int)+(j:Int)=((a+1+j:Nat):Int):=by omega
   rw[er];have ex:∀z7 z8,bM bS (gb 1) (gv 6) [x0,.ow left,.pu<|zJ a,.pu<|zJ k,x4,.pu<|yi n b,.pu<|zJ<|a+1+j,z7,z8]=some (yi n q):=λ_ _=>(zg rfl rfl).trans (VA Ct)
   have E6:∀z7 z8,bM bS (bM bS (gb 1)<|gv 6) aO [x0,.ow left,.pu<|zJ a,.pu<|zJ k,x4,.pu<|yi n b,.pu<|zJ<|a+1+j,z7,z8]=some (fr<|q k):=λz7 z8=>(zg (ex z7 z8) rfl).trans (Ul (t:=false) hk)
   suffices key:∃ρ2,Cq [x0,.ow left,.pu<|zJ a,.pu<|zJ k,x4,.pu<|yi n b,.pu<|zJ<|a+1+j,o7,o8]=some (.nx ρ2)/\∃o6 o7 o8,ρ2=[x0,.ow<|Dn++yi n b::(zD n ((Q.take<|j+1).map<|el b k)++zD n (Q.drop<|j+1)),.pu<|zJ a,.pu<|zJ k,x4,.pu<|yi n b,o6,o7,o8] by
    obtain⟨ρ2,k1,k2⟩:=key;exact⟨_,ρ2,rfl,k1,k2⟩
   by_cases z:q k=0
   ·refine⟨_,(xb<|(Vq<|E6 o7 o8).trans<|by rw[qN λw=>w z]).trans rfl,.pu<|zJ<|a+1+j,o7,o8,?_⟩;have AU:left.set (a+1+j) (yi n q)=left:=by
     obtain⟨h,e⟩:=qg.mp Ct;rw[<-e,List.set_getElem_self]
    rw[<-AS,zkl z,AU]
   ·have b1:=hQ q lr;have bp:=hP q lr
    have e7:zi yE (aC aP<|aC (zi wH<|aC (bM bS bv<|gv 3) a0) a0) [x0,.ow left,.pu<|zJ a,.pu<|zJ k,x4,.pu<|yi n b,.pu<|zJ<|a+1+j,o7,o8]=some (fr<|q k*(b k)⁻¹):=(ze<|zm (E6 o7 o8)<|zm ((ze<|zm ((zg rfl rfl).trans<|Ul (t:=false) hk) rfl).trans<|zmN hb) rfl).trans<|JG (hQk q lr) (znI hBk hb) z1;refine⟨_,(ue<|(Vq<|E6 o7 o8).trans<|by rw[qG z]).trans<|(zw<|zI e7).trans<|(zw<|zI<|Lv (q:=q k*(b k)⁻¹) rfl).trans<|KS (a:=a+1+j) (ds:=left) (d:=yi n<|el b k q) rfl (zX ?_) rfl (qg.mp Ct).1,.pu<|zJ<|a+1+j,.pu<|fr<|q k*(b k)⁻¹,.pu<|fr<|-(q k*(b k)⁻¹),?_⟩
    ·refine vg (n:=n) (zm ((ze rfl).trans<|YV false n b) rfl) (by omega) λc hc=>?_
     refine(ze<|zm ((zg ((zg (x:=.list left) (y:=zJ<|a+1+j) rfl rfl).trans<|VA Ct) rfl).trans<|Ul (t:=false) hc)<|zm ((ze<|zm (x:=fr<|-(q k*(b k)⁻¹)) rfl<|zm ((zg (x:=yi n b) (y:=zJ c) rfl rfl).trans<|Ul (t:=false) hc) rfl).trans<|JG (Lw bp) (hB c hc) z2) rfl).trans<|(Zh (b1 c hc) (by rw[show -(q k*(b k)⁻¹)*b c=-(q k*(b k)⁻¹*b c) by grind];exact Lw<|hT q lr c hc) z3).trans ?_;refine qM (λt=>some<|fr t) ?_;show q c+-(q k*(b k)⁻¹)*b c=q c - q k / b k*b c
     rw[hX];grind
    ·rw[<-AS];rfl)
 refine⟨o6,o7,o8,e.trans ?_⟩;rw[show(jT ((a+1:Nat):Int) Q.length).length=Q.length by simp[jT],gP,mX];simp
structure Cl(n s1 s2 sp s3:Nat)(E:Nat->List (Nat->Rat)->Prop):Prop where
 z1:s1+s1<=8999
 z2:sp+s2<=8999
 z3:s2+s3<=8999
 bk:∀{k Q},E k Q->k<n->∀q∈Q,Bq s1 (q k)
 b2:∀{k Q},E k Q->∀q∈Q,∀x,x<n->Bq s2 (q x)
 bp:∀{k Q},E k Q->k<n->∀q∈Q,∀b∈Q,b k≠0->Bq sp (q k*(b k)⁻¹)
 b3:∀{k Q},E k Q->k<n->∀q∈Q,∀b∈Q,b k≠0->∀x,x<n->Bq s3 (q k*(b k)⁻¹*b x)
 no:∀{k Q},E k Q->k<n->pick k Q=none->E (k+1) Q
 st:∀{k Q p},E k Q->k<n->pick k Q=some p->E (k+1) (p.2.map<|el p.1 k)
def Cu(n:Nat)(E:Nat->List (Nat->Rat)->Prop)(L:LQr)(x0:Sl)(k:Nat)(ρ:Ro):Prop:=∃(Dn:LPd)(Q:LQr)(o3 o4 o5 o6 o7 o8:Sl),ρ=[x0,.ow<|Dn++zD n Q,.pu<|zJ Dn.length,o3,o4,o5,o6,o7,o8]/\Dn.length+Q.length=L.length/\E k Q/\rk (n - k) k Q+Dn.length=rk n 0 L
def zdr{s1 s2 sp s3:Nat}{E:Nat->List (Nat->Rat)->Prop}{L:LQr}{x0:Sl}(hn:n<=42)(hk:k<n)(hl:L.length<500)(cl:Cl n s1 s2 sp s3 E)(h:Cu n E L x0 k ρ):∃ρ2,E5 (ρ.set 3<|.pu<|zJ k)=some (.nx ρ2)/\Cu n E L x0 (k+1) ρ2:=by
 obtain⟨Dn,Q,o3,o4,o5,o6,o7,o8,rfl,hlen,eb,AV⟩:=h;show ∃ρ2,E5 [x0,.ow<|Dn++zD n Q,.pu<|zJ Dn.length,.pu<|zJ k,o4,o5,o6,o7,o8]=some (.nx ρ2)/\_
 have bq:=cl.b2 eb;have AW:(Dn++zD n Q).length=Dn.length+Q.length:=by rw[qz,qf]
 have E7:u6 1 [1,3] (uS<|aC am<|aC aB a0) aq (zy<|bM cM ay<|cst<|.int 0) af [x0,.ow<|Dn++zD n Q,.pu<|zJ Dn.length,.pu<|zJ k,o4,o5,o6,o7,o8]
   =some (((List.range Q.length).filter λi=>decide ((Q.getD i λ_=>0) k≠0)).map λi:Nat=>PyData.int<|(Dn.length:Int)+(i:Int)):=by
  have hr:uS (aC am<|aC aB a0) [x0,.ow<|Dn++zD n Q,.pu<|zJ Dn.length,.pu<|zJ k,o4,o5,o6,o7,o8]=some (jT (Dn.length:Int) Q.length):=by
   refine(Lx (a:=Dn.length) (b:=Dn.length+Q.length) (zm rfl<|zm ((ze<|zm rfl rfl).trans ?_) rfl) (by omega)<|by omega).trans (by rw[bA]);show some (PyData.int ((Dn++zD n Q).length:Int))=_
   rw[AW]
  unfold u6;rw[hr,qq,qj<|by simp[jT];omega];refine YQ (e:=λi:Nat=>PyData.int<|(Dn.length:Int)+(i:Int)) λi hi=>?_
  have hi:=qx.mp hi;obtain⟨q,hq⟩:∃q,Q[i]?=some q:=⟨_,qk hi⟩;have hg:Q.getD i (λ_=>0)=q:=by rw[qB,hq];rfl
  rw[show(Dn.length:Int)+(i:Int)=((Dn.length+i:Nat):Int) by omega];show((zy<|bM cM ay<|cst<|.int 0) [.pu<|zJ<|Dn.length+i,.ow<|Dn++zD n Q,.pu<|zJ k]).bind _=_
  rw[Vq (q:=q k)<|(zg ((zg rfl rfl).trans<|VA<|Ly rfl hq) rfl).trans<|Ul (t:=false) hk,qq,hg];by_cases z:decide (q k≠0)=true
  ·rw[qj z,qj z];rfl
  ·rw[qm z,qm z]
 have LM:n - k=(n - (k+1))+1:=by omega
 rcases Wy k Q with⟨h1,h2⟩|⟨i,rest,q,h1,h2,h3⟩
 ·refine⟨_,(zw<|yK E7).trans<|(xb ?_).trans rfl,Dn,Q,.pu<|zJ k,.ow [],o5,o6,o7,o8,?_,hlen,cl.no eb hk h2,?_⟩
  ·rw[h1];exact zB rfl
  ·rw[h1];rfl
  ·rw[<-AV,LM];show _=(match pick k Q with |none=>rk (n - (k+1)) (k+1) Q|some p=>1+rk (n - (k+1)) (k+1) (p.2.map<|el p.1 k))+_
   rw[h2]
 ·have hi:i<Q.length:=(qg.mp h2).1;have lr:=qI h2
  obtain⟨hb,_⟩:=wc h3;have hel:(Q.eraseIdx i).length=Q.length - 1:=by rw[gY,qj hi]
  have mm:∀q'∈Q.eraseIdx i,q'∈Q:=λq' eU=>mE eU
  generalize hA:((List.range Q.length).filter λi=>decide ((Q.getD i λ_=>0) k≠0)).map (λi:Nat=>PyData.int<|(Dn.length:Int)+(i:Int))=fY at E7;have LN:fY=zJ (Dn.length+i)::rest.map (λi:Nat=>PyData.int<|(Dn.length:Int)+(i:Int)):=by
   rw[<-hA,h1];show PyData.int ((Dn.length:Int)+(i:Int))::_=_
   rw[show(Dn.length:Int)+(i:Int)=((Dn.length+i:Nat):Int) by omega]
  obtain⟨z6,z7,z8,el⟩:=zdX (n:=n) (k:=k) (a:=Dn.length) (Dn:=Dn) (b:=q) (Q:=Q.eraseIdx i) (x0:=x0) (x4:=.ow fY) hn hk hb rfl (by omega) cl.z1 cl.z2 cl.z3 (cl.bk eb hk q lr) (bq q lr) (λq' eU=>cl.bk eb hk q'<|mm q' eU) (λq' eU=>bq q'<|mm q' eU) (λq' eU=>cl.bp eb hk q' (mm q' eU) q lr hb) (λq' eU=>cl.b3 eb hk q' (mm q' eU) q lr hb) o6 o7 o8;have e1:zy (bM fW (zi yh<|aC (gb 4) a0)<|cst<|.int 0) [x0,.ow<|Dn++zD n Q,.pu<|zJ Dn.length,.pu<|zJ k,.ow fY,o5,o6,o7,o8]=some true:=by
   refine zB<|(zg (x:=.int (fY.length:Int)) rfl rfl).trans ?_;show some (PyData.bool<|decide ((0:Int)<(fY.length:Int)))=_
   rw[qG<|by rw[LN,ke];omega]
  have e2:rm 5 1 (bM bS (gb 4)<|cst<|.int 0) [x0,.ow<|Dn++zD n Q,.pu<|zJ Dn.length,.pu<|zJ k,.ow fY,o5,o6,o7,o8]=some (.nx [x0,.ow<|Dn++zD n (Q.eraseIdx i),.pu<|zJ Dn.length,.pu<|zJ k,.ow fY,.pu<|yi n q,o6,o7,o8]):=by
   refine(zkC (a:=Dn.length+i) (ds:=Dn++zD n Q) (d:=yi n q) rfl ?_ (Ly rfl h2)<|by omega).trans ?_
   ·refine(zg (x:=.list fY) rfl rfl).trans ?_;rw[LN];exact VA (a:=0) rfl
   ·rw[erase_left rfl];rfl
  have e3:rY 1 am bv [x0,.ow<|Dn++zD n (Q.eraseIdx i),.pu<|zJ Dn.length,.pu<|zJ k,.ow fY,.pu<|yi n q,o6,o7,o8]=some (.nx [x0,.ow<|Dn++yi n q::zD n (Q.eraseIdx i),.pu<|zJ Dn.length,.pu<|zJ k,.ow fY,.pu<|yi n q,o6,o7,o8]):=by
   refine(zkX (k:=Dn.length) (ds:=Dn++zD n (Q.eraseIdx i)) (d:=yi n q) rfl rfl rfl (by omega)<|by rw[qz,qf];omega).trans ?_;rw[List.take_left' rfl,List.drop_left' rfl];rfl
  refine⟨[x0,.ow<|Dn++yi n q::zD n ((Q.eraseIdx i).map<|WD.DT.el q k),.pu<|zJ<|Dn.length+1,.pu<|zJ k,.ow fY,.pu<|yi n q,z6,z7,z8],(zw<|yK E7).trans<|(ue e1).trans<|(zw e2).trans<|(zw e3).trans<|(zw el).trans<|zI (d:=zJ<|Dn.length+1) rfl,?_⟩
  ·refine⟨Dn++[yi n q],(Q.eraseIdx i).map<|WD.DT.el q k,.pu<|zJ k,.ow fY,.pu<|yi n q,z6,z7,z8,?_,?_,cl.st eb hk h3,?_⟩
   ·rw[g0,qz];rfl
   ·rw[qz,qf,kJ];omega
   ·rw[<-AV,LM,qz,kJ];show _=(match pick k Q with |none=>rk (n - (k+1)) (k+1) Q|some p=>1+rk (n - (k+1)) (k+1) (p.2.map<|WD.DT.el p.1 k))+_
    rw[h3];show _=1+rk (n - (k+1)) (k+1) ((Q.eraseIdx i).map<|WD.DT.el q k)+_
    omega
def Gk(n:Nat)(L:LQr):Prop:=L.length<500/\∃s1 s2 sp s3 E,Cl n s1 s2 sp s3 E/\E 0 L
def UT{L:LQr}(hn:n<=42)(h:Gk n L):xT [.list<|zD n L]=some (zJ<|rk n 0 L):=by
 obtain⟨hl,s1,s2,sp,s3,E,cl,hE⟩:=h;have e1:zQ 1 [] aZ aq (yt<|xf wF<|aC af a0) [.pu<|.list<|zD n L,.no,.no,.no,.no,.no,.no,.no,.no]=some (zD n L):=zS (xs:=L) (e:=yi n) (xV rfl) (by omega) λq _=>yr.trans rfl
 have start:Cu n E L (.pu<|.list<|zD n L) 0 [.pu<|.list<|zD n L,.ow<|zD n L,.pu<|zJ 0,.no,.no,.no,.no,.no,.no]:=⟨[],L,.no,.no,.no,.no,.no,.no,rfl,by simp,hE,rfl⟩;have hit:∃w,(w=n\/L=[])/\xl (aC ar a0) [.pu<|.list<|zD n L,.ow<|zD n L,.pu<|zJ 0,.no,.no,.no,.no,.no,.no]=some (jT 0 w)/\w<=n:=by
  cases L with
  |nil=>exact⟨0,.inr rfl,Vk (n:=0) (zm ((HZ<|zB rfl).trans rfl) rfl) (by omega),kx _⟩
  |cons q L=>
   refine⟨n,.inl rfl,Vk (n:=n) (zm ((HY<|zB<|(zg (x:=.int ((zD n<|q::L).length:Int)) rfl rfl).trans ?_).trans<|(ze<|zm ((zg rfl rfl).trans<|VA (a:=0) (d:=yi n q) rfl) rfl).trans<|YV false n q) rfl) (by omega),qe _⟩;show some (PyData.bool<|decide ((0:Int)<((zD n<|q::L).length:Int)))=_
   rw[qG<|by rw[qf,ke];omega]
 obtain⟨w,hw,hit,hwn⟩:=hit;obtain⟨ρ',e2,P⟩:=vm (ds:=jT 0 w) (it:=xl<|aC ar a0) (bd:=bN 3) (b:=E5)
  (ρ0:=[.pu<|.list<|zD n L,.ow<|zD n L,.pu<|zJ 0,.no,.no,.no,.no,.no,.no]) (λk ρ=>Cu n E L (.pu<|.list<|zD n L) k ρ) hit start λk d ρ hd hP=>by
   obtain⟨hk,rfl⟩:=Vx hd;obtain⟨ρ2,a1,a2⟩:=zdr hn (show k<n by omega) hl cl hP;refine⟨ρ.set 3<|.pu<|zJ k,ρ2,?_,a1,a2⟩;rw[show(0:Int)+(k:Int)=(k:Int) by omega];rfl
 rw[show(jT 0 w).length=w by simp[jT]] at P;obtain⟨Dn,Q,o3,o4,o5,o6,o7,o8,rfl,hlen,_,AV⟩:=P;have i6:Dn.length=rk n 0 L:=by
  rcases hw with rfl|rfl
  ·rw[gy] at AV;rw[<-AV];show _=0+_
   omega
  ·rw[LA]
   have:Dn.length+Q.length=0:=hlen;omega
 refine zM rfl ?_;refine(zw<|yK e1).trans<|(zw (ρ':=[.pu<|.list<|zD n L,.ow<|zD n L,.pu<|zJ 0,.no,.no,.no,.no,.no,.no]) rfl).trans<|(zw e2).trans<|zG ?_;rw[<-i6];rfl
def zan{L:LQr}{x:Q1x}(hn:n<=42)(h:Gk n (L++[x]))(h':Gk n L):∃b:Bool,yH [.list<|zD n L,yi n x]=some (.bool b)/\(b=true↔eN n L x):=by
 have hl:=h'.1;have et:zy (bM dA ax<|cst<|.int 0) [.pu<|.list<|zD n L,.pu<|yi n x]=some (decide (L=[])):=by
  refine zB<|(zg (x:=.int ((zD n L).length:Int)) rfl rfl).trans<|(Jq _ _).trans ?_;rw[qf];refine qM (λb=>some<|PyData.bool b)<|nO.mpr ?_;constructor
  ·intro e;exact gI.mp (by omega)
  ·intro e;rw[e];rfl
 by_cases hL:L=[]
 ·subst hL;have hc:u6 1 [] (yc<|gv 1) aq (zy<|bM cM aa<|cst<|.int 0) af [.pu<|.list<|zD n [],.pu<|yi n x]=some (((List.range n).filter λi=>decide (x i≠0)).map λi=>fr<|x i):=by
   unfold u6;rw[show yc ag [.pu<|.list<|zD n [],.pu<|yi n x]=some ((List.range n).map λi=>fr<|x i) from xV rfl,qq,qj<|by rw[qf,qw];omega];refine YQ (e:=λi:Nat=>fr<|x i) λi _=>?_
   show((zy<|bM cM aa<|cst<|.int 0) [.pu<|fr<|x i]).bind (λok=>if ok=true then Option.map some (gv 0 [.pu<|fr<|x i]) else some none)=_
   rw[Vq (q:=x i) rfl,qq];by_cases z:decide (x i≠0)=true
   ·rw[qj z,qj z];rfl
   ·rw[qm z,qm z]
  refine⟨_,zM rfl<|rS<|(ue<|et.trans<|by rw[qG rfl]).trans<|zG<|(zg ((ze<|zm (zX hc) rfl).trans rfl) rfl).trans<|Jq _ _,?_⟩;rw[qf,zjQ,pw];constructor
  ·intro e y hy;have e2:(List.range n).filter (λi=>decide (x i≠0))=[]:=gI.mp (by omega)
   have:=List.filter_eq_nil_iff.mp e2 y<|qx.mpr hy;exact pK.mp λz=>this<|qG z
  ·intro e;rw[List.filter_eq_nil_iff.mpr λy hy=>by rw[e y<|qx.mp hy];simp];rfl
 ·have ec:DD Ad af (yt<|vI<|aC ag a0) [.pu<|.list<|zD n L,.pu<|yi n x]=some (zD n<|L++[x]):=by
   show Ad (.list<|zD n L) (.list [yi n x])=_
   show(if (zD n L).length+[yi n x].length<=16777216 then some (zD n L++[yi n x]) else none)=_
   rw[qj (by rw[qf,kJ];omega),show zD n (L++[x])=zD n L++[yi n x] from q9]
  refine⟨_,zM rfl<|(zw<|(xb<|et.trans<|by rw[qN hL]).trans rfl).trans<|zG<|(zg ((ze<|zm (zX ec) rfl).trans<|UT hn h)<|(ze rfl).trans<|UT hn h').trans<|Jq _ _,?_⟩;rw[<-RR (n:=n) L x,pw];omega
def Gj(n:Nat)(L:LQr)(x:Q1x):Prop:=∃y,(∀i,i<n->y i=x i)/\Gk n (L++[y])
def Ur{L:LQr}{x:Q1x}(hn:n<=42)(h:Gj n L x)(h':Gk n L):∃b:Bool,yH [.list<|zD n L,yi n x]=some (.bool b)/\(b=true↔eN n L x):=by
 obtain⟨y,hy,g⟩:=h;obtain⟨b,e,i⟩:=zan hn g h';have e2:yi n y=yi n x:=qM PyData.list (kf λa ha=>by rw[hy a<|qx.mp ha]);have e3:∀w,dq n w y=dq n w x:=λw=>zb n λa ha=>by rw[hy a ha]
 rw[e2] at e;refine⟨b,e,i.trans ⟨λq w hw=>?_,λq w hw=>?_⟩⟩
 ·rw[<-e3];exact q w hw
 ·rw[e3];exact q w hw
def zd1{x y:PdX}{K:LQr}(hb:u5 [x,y]=some (zt n s fi st la))(hn:n<=42)(hs:s<=42)(E8:Gk n K)(r8:Gj n K fi)(E9:∀r∈K,∀g,g<s->Gj n K (led n r<|st g))(Fb:∀r∈K,xQ [yi n r,yq n la]=some (fr<|sumTo n λi=>r i*la i))(hle:∀r∈K,∀g,g<s->jz [yi n r,yG n<|st g]=some ((List.range n).map λb=>fr<|led n r (st g) b)):∃b:Bool,wY [x,y,.list<|zD n K]=some (.bool b)/\(b=true↔Sw n s fi st la K):=by
 have hl:=E8.1;obtain⟨b0,e0,i0⟩:=Ur hn r8 E8;have ek:zQ 1 [] (yc<|gv 2) aq (yt<|xf wF<|aC af a0) [.pu x,.pu y,.pu<|.list<|zD n K,.pu<|zt n s fi st la,.no,.no,.no]=some (zD n K):=zS (xs:=K) (e:=yi n) (xV rfl) (by omega) λq _=>yr.trans rfl
 have et:xP (zy<|WX yH<|aC (gb 4)<|aC aW a0) [.pu x,.pu y,.pu<|.list<|zD n K,.pu<|zt n s fi st la,.ow<|zD n K,.no,.no]=some (!b0):=yF<|zB<|Ih (r:=.bool b0) (zm rfl<|zm (zX<|(xc<|zm ((zg rfl rfl).trans vb) rfl).trans rfl) rfl) e0 rfl;have head:∀r,sq (cD (xP<|zy<|WX yH<|aC (gb 4)<|aC aW a0) (retS<|cst<|.bool false) s0) r [.pu x,.pu y,.pu<|.list<|zD n K,.pu<|zt n s fi st la,.ow<|zD n K,.no,.no]=if b0=true then r [.pu x,.pu y,.pu<|.list<|zD n K,.pu<|zt n s fi st la,.ow<|zD n K,.no,.no] else some (.rt<|.bool false):=λr=>by
  cases b0 with
  |true=>rw[qj rfl];exact zw<|(xb et).trans rfl
  |false=>rw[qm qR];exact rS<|(ue et).trans<|zG rfl
 by_cases fH:b0=true
 ·-- the rows one by one
  have loop:=LC (it:=yc<|gv 4) (bd:=bN 5) (ds:=zD n K) (d:=.bool false)
   (b:=sq (cD (zy<|bM cM aE<|cst<|.int 0) (retS<|cst<|.bool false) s0)<|je (yc<|bM bS aO<|cst<|.int 1) (bN 6)<|cD aH (retS<|cst<|.bool false) s0)
   (ρ0:=[.pu x,.pu y,.pu<|.list<|zD n K,.pu<|zt n s fi st la,.pu<|.list<|zD n K,.no,.no]) (λρ=>∃o5 o6,ρ=[.pu x,.pu y,.pu<|.list<|zD n K,.pu<|zt n s fi st la,.pu<|.list<|zD n K,o5,o6])
   (λi=>∀r,K[i]?=some r->sumTo n (λi=>r i*la i)=0/\∀g,g<s->eN n K (led n r<|st g)) (xV rfl) ⟨.no,.no,rfl⟩ (λi dd ρ hd ⟨o5,o6,e⟩=>by
    subst e;rw[qp] at hd;obtain⟨r,hr,rfl⟩:=map_some hd;have Fc:=qI hr;refine⟨_,rfl,?_⟩;have ed:xQ [yi n r,yq n la]=some (fr<|sumTo n λi=>r i*la i):=Fb r Fc
    have eT:zy (bM cM aE<|cst<|.int 0) [.pu x,.pu y,.pu<|.list<|zD n K,.pu<|zt n s fi st la,.pu<|.list<|zD n K,.pu<|yi n r,o6]=some (decide (sumTo n (λi=>r i*la i)≠0)):=Vq<|(ze<|zm rfl<|zm ((zg rfl rfl).trans w8) rfl).trans ed;by_cases lZ:sumTo n (λi=>r i*la i)=0
    ·have inner:=LC (it:=yc<|bM bS aO<|cst<|.int 1) (bd:=bN 6) (ds:=(List.range s).map λg=>yG n<|st g) (d:=.bool false)
      (b:=cD aH (retS<|cst<|.bool false) s0)
      (ρ0:=[.pu x,.pu y,.pu<|.list<|zD n K,.pu<|zt n s fi st la,.pu<|.list<|zD n K,.pu<|yi n r,o6]) (λρ=>∃o6,ρ=[.pu x,.pu y,.pu<|.list<|zD n K,.pu<|zt n s fi st la,.pu<|.list<|zD n K,.pu<|yi n r,o6])
      (λg=>eN n K<|led n r<|st g) (vL<|(zg rfl rfl).trans jB) ⟨o6,rfl⟩ (λg dd ρ hd ⟨o6,e⟩=>by
       subst e;obtain⟨hg,rfl⟩:g<s/\dd=yG n (st g):=by
        rw[qp] at hd;obtain⟨g',dg,rfl⟩:=map_some hd;have cC:=(qg.mp dg).1;rw[qw] at cC;rw[ku cC] at dg;cases dg;exact⟨cC,rfl⟩
       refine⟨_,rfl,?_⟩;obtain⟨b1,e1,i1⟩:=Ur hn (E9 r Fc g hg) E8;have eg:xP (zy<|zi yH<|aC bH<|aC (yt<|xf jz<|aC bv<|aC (gv 6) a0) a0) [.pu x,.pu y,.pu<|.list<|zD n K,.pu<|zt n s fi st la,.pu<|.list<|zD n K,.pu<|yi n r,.pu<|yG n<|st g]=some (!b1):=yF<|zB<|(ze<|zm rfl<|zm (zX<|(xc rfl).trans<|hle r Fc g hg) rfl).trans e1;cases b1 with
       |true=>exact .inl ⟨i1.mp rfl,_,(xb eg).trans rfl,_,rfl⟩
       |false=>exact .inr ⟨λz=>(by have:=i1.mpr z;cases this),(ue eg).trans<|zG rfl⟩)
     rw[qf,qw] at inner;rcases inner with⟨a1,ρ',a2,o6',rfl⟩|⟨a1,a2⟩
     ·exact .inl ⟨λr' iK=>by rw[hr] at iK;cases iK;exact⟨lZ,λg hg=>a1 g hg⟩,_,(zw<|(xb<|eT.trans<|by rw[qN λz=>z lZ]).trans rfl).trans a2,_,_,rfl⟩
     ·exact .inr ⟨λz=>a1 λg hg=>(z r hr).2 g hg,(zw<|(xb<|eT.trans<|by rw[qN λz=>z lZ]).trans rfl).trans a2⟩
    ·exact .inr ⟨λz=>lZ (z r hr).1,rS<|(ue<|eT.trans<|by rw[qG lZ]).trans<|zG rfl⟩)
  rw[qf] at loop;have hi0:=i0.mp fH;rcases loop with⟨a1,ρ',a2,o5,o6,rfl⟩|⟨a1,a2⟩
  ·refine⟨true,zM rfl<|(zw<|zI<|(ze rfl).trans hb).trans<|(zw<|yK ek).trans<|(head _).trans ?_,λ_=>⟨hi0,λr hr=>?_⟩,λ_=>rfl⟩
   ·rw[qj fH];exact(zw<|show lY 4 _ _=_ from a2).trans<|zG rfl
   ·obtain⟨i,hi⟩:=qP hr;exact a1 i (qg.mp hi).1 r hi
  ·refine⟨false,zM rfl<|(zw<|zI<|(ze rfl).trans hb).trans<|(zw<|yK ek).trans<|(head _).trans ?_,λz=>(by cases z),λz=>absurd (λi _ r hr=>z.2 r<|qI hr) a1⟩;rw[qj fH];exact rS<|show lY 4 _ _=_ from a2
 ·refine⟨false,zM rfl<|(zw<|zI<|(ze rfl).trans hb).trans<|(zw<|yK ek).trans<|(head _).trans<|qm fH,λz=>(by cases z),λz=>absurd (i0.mpr z.1) fH⟩
def ext(n:Nat)(S:Q2x)(v:Q1x):Nat->Rat:=λx=>if x<n then v x else sumTo n λa=>v a*S a (x - n)
abbrev PR:=Rat×(Nat->Rat)
def rf(n:Nat)(S:Q2x)(p:PR):Nat->Rat:=λx=>p.1*ext n S p.2 x
noncomputable def Vw(k:Nat):List PR->Option (PR×List PR)
 |[]=>none
 |q::Q=>if q.2 k≠0 then some (q,Q) else (Vw k Q).map λp=>(p.1,q::p.2)
section
theorem LO:∀P:List PR,pick k (P.map (·.2))=(Vw k P).map λp=>(p.1.2,p.2.map (·.2))
 |[]=>rfl
 |q::P=>by
  show(if q.2 k≠0 then some (q.2,P.map (·.2)) else (pick k (P.map (·.2))).map λp=>(p.1,q.2::p.2))=(if q.2 k≠0 then some (q,P) else (Vw k P).map λp=>(p.1,q::p.2)).map _
  by_cases h:q.2 k≠0
  ·rw[qj h,qj h];rfl
  ·rw[qm h,qm h,LO P];cases Vw k P<;>rfl
def lu{p:PR}(hk:k<n):rf n S p k=p.1*p.2 k:=by
 show p.1*(if k<n then p.2 k else _)=_
 rw[qj hk]
theorem LP(hk:k<n):∀P:List PR,(∀p∈P,p.1≠0)->pick k (P.map<|rf n S)=(Vw k P).map λp=>(rf n S p.1,p.2.map<|rf n S)
 |[],_=>rfl
 |q::P,h0=>by
  show(if rf n S q k≠0 then some (rf n S q,P.map<|rf n S) else (pick k<|P.map<|rf n S).map λp=>(p.1,rf n S q::p.2))=(if q.2 k≠0 then some (q,P) else (Vw k P).map λp=>(p.1,q::p.2)).map _
  have e:rf n S q k≠0↔q.2 k≠0:=by
   rw[lu hk];constructor
   ·intro h z;rw[z,kI] at h;exact h rfl
   ·intro h z;rcases kh.mp z with w|w
    ·exact h0 q (qZ ..) w
    ·exact h w
  by_cases h:q.2 k≠0
  ·rw[qj h,qj<|e.mpr h];rfl
  ·rw[qm h,qm λz=>h<|e.mp z,LP hk P λp hp=>h0 p<|qA _ hp];cases Vw k P<;>rfl
theorem LQ:∀{P:List PR} {p:PR×List PR},Vw k P=some p->p.1∈P/\p.1.2 k≠0/\∀q∈p.2,q∈P
 |[],p,e=>by cases e
 |q::P,p,e=>by
  unfold Vw at e;split at e
  ·rename_i h;cases e;exact⟨qZ ..,h,λr hr=>qA _ hr⟩
  ·obtain⟨p',e1,e2⟩:=map_some e;subst e2;obtain⟨h1,h2,h3⟩:=LQ e1;refine⟨qA _ h1,h2,λr hr=>?_⟩;rcases qy.mp hr with z|z
   ·rw[z];exact qZ ..
   ·exact qA _<|h3 r z
def zlY(v w:Q1x)(hk:k<n)(x:Nat):ext n S (el w k v) x=ext n S v x - v k / w k*ext n S w x:=by
 unfold ext;by_cases hx:x<n
 ·rw[qj hx,qj hx,qj hx];rfl
 ·rw[qm hx,qm hx,qm hx,kg<|v k / w k,<-zC,VQ];exact zb n λa _=>by
   show(v a - v k / w k*w a)*S a (x - n)=_
   grind
def znL{p q:PR}(hk:k<n)(hp:p.1≠0)(hw:p.2 k≠0):el (rf n S p) k (rf n S q)=rf n S (q.1,el p.2 k q.2):=by
 funext x
 show q.1*ext n S q.2 x - rf n S q k / rf n S p k*(p.1*ext n S p.2 x)=q.1*ext n S (el p.2 k q.2) x
 rw[lu hk,lu hk,zlY _ _ hk];have h1:q.1*q.2 k / (p.1*p.2 k)*(p.1*ext n S p.2 x)=q.1*(q.2 k / p.2 k*ext n S p.2 x):=by
  have h2:q.1*q.2 k / (p.1*p.2 k)*(p.1*p.2 k)=q.1*q.2 k:=k7 (λz=>by
   rcases kh.mp z with w|w
   ·exact hp w
   ·exact hw w)
  have h3:q.2 k / p.2 k*p.2 k=q.2 k:=k7 hw;have h4:q.1*q.2 k / (p.1*p.2 k)*p.1*p.2 k=q.1*(q.2 k / p.2 k)*p.2 k:=by
   rw[bj<|q.1,h3,bj _ p.1,h2]
  have h5:q.1*q.2 k / (p.1*p.2 k)*p.1=q.1*(q.2 k / p.2 k):=by
   have:(q.1*q.2 k / (p.1*p.2 k)*p.1 - q.1*(q.2 k / p.2 k))*p.2 k=0:=by
    rw[Rat.sub_eq_add_neg,Rat.add_mul,h4];grind
   rcases kh.mp this with w|w
   ·grind
   ·exact absurd w hw
  rw[<-Rat.mul_assoc,h5,bj]
 rw[h1];grind
end
structure Lz(la lb:Nat)(q:Rat):Prop where
 ne:q≠0
 nu:q.num.natAbs<2 ^ la
 de:q.den<2 ^ lb
def Ez(n:Nat)(S:Q2x)(B la lb:Nat)(k:Nat)(Q:LQr):Prop:=∃(P:List PR)(R:LZr)(T F:LNt)(C:LZr)(d:Int),Q=P.map (rf n S)/\(∀p∈P,Lz la lb p.1)/\Eb n B 1 (P.map (·.2)) R T F C d/\∀p∈P,∀x,x<k->x<n->p.2 x=0
structure Zc(n B la lb D E dB sB tB:Nat)(S:Q2x)(r:Nat):Prop where
 n42:n<=42
 hd:∀j,j<=n->(n*B) ^ j<2 ^ dB
 hs:∀j,j<=n->n*((n*(n*B) ^ j)*B)<2 ^ sB
 hS:∀a c,a<n->c<r->bT D E (S a c)
 hD:D*2 ^ dB<=2 ^ tB
 hE:n*(2 ^ sB*E)<2 ^ tB
 le:lb<=la/\dB<=sB/\sB<=tB
 f1:(la+sB)+(la+sB)<=8999
 f2:(la+lb+sB)+(la+tB)<=8999
 f3:(la+tB)+(la+sB+tB)<=8999
section
variable{la lb D E dB sB tB r:Nat}{P:List PR}{C:LZr}{d:Int}
def Lz.bq(h:Lz la lb q)(hl:lb<=la):Bq la q:=⟨yZ h.nu,yZ<|by rw[kB];exact qK h.de<|qT (by decide) hl⟩
def Eb.sm(e:Eb n B 1 (P.map (·.2)) R T F C d){p:PR}(hp:p∈P):∀x,x<n->∃z:Int,p.2 x*(d:Rat)=(z:Rat)/\z.natAbs<=n*((n*(n*B) ^ R.length)*B):=λx hx=>by
 obtain⟨M,M0,MX,hM⟩:=e.num (q:=p.2)<|qE.mpr ⟨p,hp,rfl⟩
 have:M=1:=by omega
 subst this;obtain⟨z,e1,e2⟩:=hM x hx;refine⟨z,?_,e2⟩;rw[<-e1,show((1:Nat):Rat)=1 from rfl,nH]
def Zc.small(z:Zc n B la lb D E dB sB tB S r)(e:Eb n B 1 (P.map (·.2)) R T F C d){p:PR}(hp:p∈P){x:Nat}(hx:x<n):bT d.natAbs (2 ^ sB - 1) (p.2 x):=by
 obtain⟨w,e1,e2⟩:=Eb.sm e hp x hx
 have:=z.hs R.length e.zl9;exact(Va e.sp.d0 e1).mono (by omega)
def Zc.dlt(z:Zc n B la lb D E dB sB tB S r)(e:Eb n B 1 (P.map (·.2)) R T F C d):d.natAbs<2 ^ dB:=qJ e.dabs<|z.hd _ e.zl9
def Zc.bqs(z:Zc n B la lb D E dB sB tB S r)(e:Eb n B 1 (P.map (·.2)) R T F C d){p:PR}(hp:p∈P){x:Nat}(hx:x<n):Bq sB (p.2 x):=by
 have:=z.small e hp hx;have h2:=z.dlt e;have h0:0<2 ^ sB:=nI (by decide)
 exact⟨yZ (qJ this.num<|by omega),yZ<|by rw[kB];exact qJ (k6 this.pos this.den)<|qK h2<|qT (by decide) z.le.2.1⟩
def Zc.bqe(z:Zc n B la lb D E dB sB tB S r)(e:Eb n B 1 (P.map (·.2)) R T F C d){p:PR}(hp:p∈P){x:Nat}(hx:x<n+r):Bq tB (ext n S p.2 x):=by
 unfold ext;by_cases h:x<n
 ·rw[qj h];exact(z.bqs e hp h).mono z.le.2.2
 ·rw[qm h];have fR:0<n->0<D:=λhn=>(z.hS 0 (x - n) hn<|by omega).pos
  by_cases hn:n=0
  ·subst hn;exact⟨yZ (m:=tB) (nI<|by decide),yZ (m:=tB) (by
    show(1:Nat)<2 ^ tB
    have h1:=z.hE;have h2:=z.hD
    have h3:=z.le;have h4:=z.dlt e
    have h5:=e.sp.d0
    have:1<2 ^ dB:=by omega
    exact qK this<|qT (by decide)<|by omega)⟩
  ·have hs:bT (d.natAbs*D) (n*((2 ^ sB - 1)*E)) (sumTo n λa=>p.2 a*S a (x - n)):=xH (qU (by have:=e.sp.d0;omega)<|fR<|by omega) n λa ha=>(z.small e hp ha).mul (z.hS a (x - n) ha<|by omega)
   refine⟨yZ<|qJ hs.num<|qJ (kW _<|kD _<|Nat.sub_le _ _) z.hE,yZ ?_⟩;rw[kB];refine qJ (k6 hs.pos hs.den)<|qK ?_ z.hD;rw[gG D];exact Nat.mul_lt_mul_of_pos_right (z.dlt e) (fR<|by omega)
def Zc.part(z:Zc n B la lb D E dB sB tB S r)(e:Eb n B 1 (P.map (·.2)) R T F C d){p b:PR}(hp:p∈P)(hb:b∈P)(hk:k<n)(iQ:b.2 k≠0):Bq sB (p.2 k*(b.2 k)⁻¹):=by
 obtain⟨w1,e1,b1⟩:=Eb.sm e hp k hk;obtain⟨w2,e2,b2⟩:=Eb.sm e hb k hk;have hz:=z.hs R.length e.zl9;have hd:(d:Rat)≠0:=λq=>e.sp.d0 (by exact_mod_cast q)
 have h2:w2≠0:=λq=>by
  rw[q] at e2;rcases kh.mp (show b.2 k*(d:Rat)=0 from e2) with y|y
  ·exact iQ y
  ·exact hd y
 have hi:=kR _ iQ;have ib:=Va (z:=w2) (w:=w1) (t:=p.2 k*(b.2 k)⁻¹) h2 (by rw[<-e1,<-e2];grind)
 exact⟨yZ<|qJ (qr ib.num b1) hz,yZ<|by rw[kB];exact qJ (qr (k6 ib.pos ib.den) b2) hz⟩
def Lz.div{p:Rat}(hq:Lz la lb q)(hp:Lz la lb p):Bq (la+lb) (q*p⁻¹):=by
 have e:q*p⁻¹*((q.den:Int)*p.num:Int)=((q.num*(p.den:Int):Int):Rat):=by
  rw[kG,kG,kq,kq,Yr q,Yr p]
  have:=kR _ hp.ne;generalize (q.den:Rat)=a;generalize (p.den:Rat)=b;grind
 have hpn:p.num≠0:=λz=>hp.ne<|mF.mp z
 have hqd:=q.den_pos;have ib:=Va (z:=(q.den:Int)*p.num) (w:=q.num*(p.den:Int)) (nk (by omega) hpn) e
 refine⟨yZ<|qJ ib.num ?_,yZ ?_⟩
 ·rw[kE,kB,hZ];exact Nat.mul_lt_mul'' hq.nu hp.de
 ·rw[kB];refine qJ (k6 ib.pos ib.den) ?_;rw[kE,kB,nW,hZ];exact Nat.mul_lt_mul'' hq.de hp.nu
def Yl{p:PR}(h:∀x,x<n->p.2 x=0)(x:Nat):rf n S p x=0:=by
 show p.1*ext n S p.2 x=0
 unfold ext;by_cases hx:x<n
 ·rw[qj hx,h x hx,kI]
 ·rw[qm hx,zb n (g:=λ_=>0) λa ha=>by rw[h a ha,ki],zT,kI]
def LR{a b:Rat}(ha:a≠0)(hb:b≠0):(a*b)⁻¹=a⁻¹*b⁻¹:=by
 have h1:=kR _ ha;have h2:=kR _ hb
 have h3:=kR (a*b) λz=>by
  rcases kh.mp z with w|w
  ·exact ha w
  ·exact hb w
 have h4:(a*b)⁻¹*(a*b)*(a⁻¹*b⁻¹)=(a*b)⁻¹*(a*a⁻¹*(b*b⁻¹)):=by grind
 rw[h1,h2,kg (a*b)⁻¹ (a*b),h3] at h4;grind
def Zc.cl(z:Zc n B la lb D E dB sB tB S r):Cl (n+r) (la+sB) (la+tB) (la+lb+sB) (la+sB+tB) (Ez n S B la lb) where
 z1:=z.f1
 z2:=z.f2
 z3:=z.f3
 bk:=λ{k Q} h hk q hq=>by
  obtain⟨P,R,T,F,C,d,rfl,hl,e,h0⟩:=h;obtain⟨p,hp,rfl⟩:=qE.mp hq;by_cases fJ:k<n
  ·rw[lu fJ];exact AQ ((hl p hp).bq z.le.1)<|z.bqs e hp fJ
  ·rw[Yl λx hx=>h0 p hp x (by omega) hx];have h1:=(hl p hp).de;have h2:=p.1.den_pos
   have h3:1<2 ^ lb:=by omega
   exact⟨yZ (m:=la+sB) (nI<|by decide),yZ (m:=la+sB)<|qK h3<|qT (by decide) (by have:=z.le.1;omega)⟩
 b2:=λ{k Q} h q hq x hx=>by
  obtain⟨P,R,T,F,C,d,rfl,hl,e,h0⟩:=h;obtain⟨p,hp,rfl⟩:=qE.mp hq;exact AQ ((hl p hp).bq z.le.1) (z.bqe e hp hx)
 bp:=λ{k Q} h hk q hq b fg iQ=>by
  obtain⟨P,R,T,F,C,d,rfl,hl,e,h0⟩:=h;obtain⟨p,hp,rfl⟩:=qE.mp hq;obtain⟨b,hb,rfl⟩:=qE.mp fg;by_cases fJ:k<n
  ·rw[lu fJ] at iQ ⊢;rw[lu fJ];have b1:=(hl b hb).ne;have b2:b.2 k≠0:=λw=>iQ (by rw[w,kI])
   rw[LR b1 b2,show p.1*p.2 k*(b.1⁻¹*(b.2 k)⁻¹)=p.1*b.1⁻¹*(p.2 k*(b.2 k)⁻¹) by grind];exact AQ ((hl p hp).div<|hl b hb)<|z.part e hp hb fJ b2
  ·exact absurd (Yl (λx hx=>h0 b hb x (by omega) hx) k) iQ
 b3:=λ{k Q} h hk q hq b fg iQ x hx=>by
  obtain⟨P,R,T,F,C,d,rfl,hl,e,h0⟩:=h;obtain⟨p,hp,rfl⟩:=qE.mp hq;obtain⟨b,hb,rfl⟩:=qE.mp fg;by_cases fJ:k<n
  ·rw[lu fJ] at iQ ⊢;rw[lu fJ];have b1:=(hl b hb).ne;have b2:b.2 k≠0:=λw=>iQ (by rw[w,kI])
   have hi:=kR _ b1;rw[LR b1 b2,show p.1*p.2 k*(b.1⁻¹*(b.2 k)⁻¹)*rf n S b x=p.1*(p.2 k*(b.2 k)⁻¹)*ext n S b.2 x by
    show p.1*p.2 k*(b.1⁻¹*(b.2 k)⁻¹)*(b.1*ext n S b.2 x)=_
    grind]
   exact AQ (AQ ((hl p hp).bq z.le.1)<|z.part e hp hb fJ b2)<|z.bqe e hb hx
  ·exact absurd (Yl (λx hx=>h0 b hb x (by omega) hx) k) iQ
 no:=λ{k Q} h hk hn=>by
  obtain⟨P,R,T,F,C,d,rfl,hl,e,h0⟩:=h;refine⟨P,R,T,F,C,d,rfl,hl,e,λp hp x hx i9=>?_⟩;by_cases Fd:x=k
  ·subst Fd
   have:=v8 hn _<|qE.mpr ⟨p,hp,rfl⟩;rw[lu i9] at this;rcases kh.mp this with w|w
   ·exact absurd w (hl p hp).ne
   ·exact w
  ·exact h0 p hp x (by omega) i9
 st:=λ{k Q p} h hk hs=>by
  obtain⟨P,R,T,F,C,d,rfl,hl,e,h0⟩:=h;by_cases fJ:k<n
  ·rw[LP fJ P λp hp=>(hl p hp).ne] at hs;obtain⟨pp,e1,e2⟩:=map_some hs;subst e2;obtain⟨m1,m2,m3⟩:=LQ e1;obtain⟨R',T',F',C',d',e',_⟩:=e.step fJ (show pick k (P.map (·.2))=some (pp.1.2,pp.2.map (·.2)) by rw[LO,e1];rfl);refine⟨pp.2.map λq=>(q.1,el pp.1.2 k q.2),R',T',F',C',d',?_,λp hp=>?_,?_,λp hp x hx i9=>?_⟩
   ·show(pp.2.map<|rf n S).map (el (rf n S pp.1) k)=_
    rw[kb,kb];exact kf λq _=>znL fJ (hl _ m1).ne m2
   ·obtain⟨q,hq,rfl⟩:=qE.mp hp;exact hl q<|m3 q hq
   ·have:(pp.2.map λq=>(q.1,el pp.1.2 k q.2)).map (·.2)=(pp.2.map (·.2)).map (el pp.1.2 k):=by rw[kb,kb];rfl
    rw[this];exact e'
   ·obtain⟨q,hq,rfl⟩:=qE.mp hp;by_cases Fd:x=k
    ·subst Fd;exact BQ m2
    ·exact BR (h0 q (m3 q hq) x (by omega) i9)<|h0 pp.1 m1 x (by omega) i9
  ·obtain⟨h1,h2⟩:=wc hs;obtain⟨p',fm,e3⟩:=qE.mp<|h2.mem_iff.mp<|qZ ..;rw[<-e3] at h1;exact absurd (Yl (λx hx=>h0 p' fm x (by omega) hx) k) h1
def Zc.gk(z:Zc n B la lb D E dB sB tB S r)(W:List (Rat×(Nat->Int)))(hW:∀p∈W,Lz la lb p.1/\∀x,x<n->(p.2 x).natAbs<=B)(hl:W.length<500):Gk (n+r) (W.map λp=>rf n S (p.1,rt p.2)):=by
 refine⟨by rw[qf];exact hl,_,_,_,_,_,z.cl,W.map λp=>(p.1,rt p.2),[],[],List.range n,(List.range n).map xC,1,?_,λp hp=>?_,?_,λp _ x hx=>absurd hx<|gc x⟩
 ·rw[kb];rfl
 ·obtain⟨q,hq,rfl⟩:=qE.mp hp;exact(hW q hq).1
 ·refine RT λq hq=>?_
  rw[kb] at hq;obtain⟨p,hp,rfl⟩:=qE.mp hq;refine⟨p.2,1,by decide,qe _,λx hx=>⟨(hW p hp).2 x hx,?_⟩⟩;show((p.2 x:Int):Rat)=((1:Nat):Rat)*(p.2 x:Rat)
  rw[show((1:Nat):Rat)=1 from rfl,nH]
end
def zci(B:∀i,i<m->Bq 4000 (lb i))(hn:n<=42)(hm:m<=42)(hs:s<=42):vV [zt n s fi st la,zt m s gi su lb]=some (zt (n+m) s (jn n fi gi) (y4 n st su)<|jn n la λi=>lb i*(-1)):=by
 refine zM rfl<|(zw<|Qu<|(ze rfl).trans VO).trans<|zG<|(ze<|zm rfl<|zm (U2 ((zg rfl rfl).trans vb) ((zg rfl rfl).trans jB)<|(ze<|zm ((zg rfl rfl).trans w8) rfl).trans<|Z9 (c:=-1) (by omega) B ⟨by decide,by decide⟩) rfl).trans<|Ru hn hm hs
section
variable{C:LZr}{d:Int}{a:Nat}{rl:Z1x}
def zfl{x y:PdX}{l0 N0:Nat}(hd:vV [x,y]=some (zt n s fi st la))(b:Bd n s st fi k B m)(hf:∀i,i<n->bT k0 (2 ^ 3192) (fi i))(hk0:0<k0)(qV:k0<=2 ^ 3192)(hla:∀i,i<n->bT l0 N0 (la i))(Co:0<l0)(E1:Sz l0)(sN0:Sz N0):(∃L,vi CS [x,y]=some (.tuple [.none,.list<|L.map λq=>yl n q.2])/\lp n s st fi la L)\/
  ∃L u,vi CS [x,y]=some (.tuple [zO u,.list<|L.map λq=>yl n q.2])/\Cm n s st fi la L u:=by
 obtain⟨rl,cl,el,ff,hl,hp⟩:=K6 (n:=n) (f:=la) b.hn Co E1 sN0 hla;obtain⟨r0,e0,z⟩:=Lh (CS:=CS) (la:=la) b hf hk0 qV;have ET:∀x,x<n->intBits (rl x)<=4000:=λx hx=>sN0.bits<|Zd (M:=((l0:Nat):Rat)) (z:=λx=>x8 (la x) l0) hp ff hl (y0 Co) (λx hx=>vX<|hla x hx) x hx
 have h0:IV n s st fi [] [] (List.range n) ((List.range n).map xC) 1 0:=⟨IT,λq hq=>by cases hq⟩;have hn:=b.hn
 obtain⟨bX,dQ,e1,e2⟩:=X9 (CS:=CS) b z ff hl ET (d0:=x) (d1:=y) (d2:=zt n s fi st la) n 1000 [] [] (List.range n) ((List.range n).map xC) 1 0 .no (by rw[qw];omega) (by omega) h0 (λq hq=>by cases hq);have en:iw (Jl CS) (aC am a0) [.pu x,.pu y,.pu<|zt n s fi st la,.pu<|yl n rl,.no,.no]=some (RO CS n s st r0 [] [] (List.range n) ((List.range n).map xC) 1 0):=by
  unfold iw;show(some [zt n s fi st la]).bind _=_
  rw[qq,e0]
 generalize hN:(1000:Nat)=N at e2;have start:∀res,ot 4 (iw (Jl CS)<|aC am a0) (cu (fX 5<|d7 "onward" (ja CS) cz)<|cu (iu (λx x_1=>1000) sV<|sW CS)<|ZP<|iO<|cn (λρ x=>cst PyData.none ρ)<|cn (gg "rows") cz) [.pu x,.pu y,.pu<|zt n s fi st la,.pu<|yl n rl,.no,.no]=some (.rt res)->vi CS [x,y]=some res:=λres e=>
  zM rfl ((zw<|zI<|(ze rfl).trans hd).trans<|(zw<|zI<|(ze<|zm ((zg rfl rfl).trans w8) rfl).trans<|AM el).trans e)
 rcases e2 with⟨L',T',F',C',d',a',ρ2,e3,w⟩|⟨L',u,dG,e3,w⟩
 ·refine .inl ⟨L',start _ ?_,w⟩;unfold ot;rw[en,qq,qj<|by show 4<6;omega];have e4:cu (fX 5<|d7 "onward" (ja CS) cz) (cu (iu (λx x_1=>1000) sV<|sW CS)<|ZP<|iO<|cn (λρ x=>cst PyData.none ρ)<|cn (gg "rows") cz) [.pu x,.pu y,.pu<|zt n s fi st la,.pu<|yl n rl,.no,.no] (RO CS n s st r0 [] [] (List.range n) ((List.range n).map xC) 1 0)=some (.rf<|.tuple [.none,.list<|L'.map λq=>yl n q.2]):=by
   exact(yg e1).trans ((yg<|ZC hN e3).trans<|X5<|Lk (yX rfl<|yX (uO EN) rfl)<|by show 2<=16777216;omega)
  show(match cu _ _ [.pu x,.pu y,.pu<|zt n s fi st la,.pu<|yl n rl,.no,.no] _ with |some (.rt d _)=>some (Fl.rt d)|some (.rf d)=>some (.rt d)|_=>none)=_
  rw[e4]
 ·refine .inr ⟨L',u,start _ ?_,w⟩;unfold ot;rw[en,qq,qj<|by show 4<6;omega];have e4:cu (fX 5<|d7 "onward" (ja CS) cz) (cu (iu (λx x_1=>1000) sV<|sW CS)<|ZP<|iO<|cn (λρ x=>cst PyData.none ρ)<|cn (gg "rows") cz) [.pu x,.pu y,.pu<|zt n s fi st la,.pu<|yl n rl,.no,.no] (RO CS n s st r0 [] [] (List.range n) ((List.range n).map xC) 1 0)=some (.rt (.tuple [zO u,.list<|L'.map λq=>yl n q.2]) dG):=(yg e1).trans<|VP<|ZC hN e3;show(match cu _ _ [.pu x,.pu y,.pu<|zt n s fi st la,.pu<|yl n rl,.no,.no] _ with |some (.rt d _)=>some (Fl.rt d)|some (.rf d)=>some (.rt d)|_=>none)=_
  rw[e4]
end
structure AX(n s m:Nat)(st:Q3x)(fi la:Q1x)(Ms Ns Mr Nr Mc Nc E:Nat)(E2:Nat->Nat):Prop where
 hn:n<=42
 hs:s<=42
 hs0:0<s
 hst:∀g a b,g<s->a<n->b<n->bT Ms Ns (st g a b)
 hrow:∀u:List Nat,(∀g∈u,g<s)->u.length<=n - 1->∀x,x<n->bT Mr Nr (zE n st fi u x)
 hcol:∀u:List Nat,(∀g∈u,g<s)->u.length<=n - 1->∀x,x<n->bT Mc Nc (jM n st la u x)
 hm:∀L T F C d a,AN n s st fi L T F C d a->L.length<=m
 p:0<Ms/\0<Mr/\0<Mc/\1<=E
 sMr:Mr<=2 ^ 3192
 sNr:Nr<=2 ^ 3192
 sMs:E*Ms<=2 ^ 3192
 sNs:n*(E*Ns)<=2 ^ 3192
 sMc:E*Mc<=2 ^ 3192
 sNc:n*(E*Nc)<=2 ^ 3192
 sN0:Ns<=2 ^ 3192
 sN1:Nc<=2 ^ 3192
 hP:∀j,j<=m->(n*Nr) ^ j<2 ^ 9000
 hE:∀j,j<n->j<=m->(n+1)*(n*Nr) ^ j<=E
 sE:Sz E
 two:∀r e,(r=n/\e=1)\/(r<n/\e=E)->r<=m->(∀j,j<=r->(r*(n*(e*Nc))) ^ j<2 ^ 9000)/\∀j,j<r->(r+1)*(r*(n*(e*Nc))) ^ j<=E2 e
 sE2:∀e,Sz (E2 e)
 e2:∀e,1<=E2 e
section
variable{E:Nat}{E2:Nat->Nat}
def AX.bd(h:AX n s m st fi la Ms Ns Mr Nr Mc Nc E E2):Bd n s st fi Ms Nr m where
 hn:=h.hn
 hs:=h.hs
 hs0:=h.hs0
 hst:=λg a b hg ha hb=>(h.hst g a b hg ha hb).mono h.sN0
 hk0:=h.p.1
 hk:=qr (mQ _ h.p.2.2.2) h.sMs
 hB:=Lr h.sNr
 hP:=h.hP
 hw:=λu hg hu=>⟨((Mr:Nat):Rat),λx=>x8 (zE n st fi u x) Mr,y0 h.p.2.1,λx hx=>vX<|h.hrow u hg hu x hx⟩
 hm:=h.hm
def ze6(h:AX n s m st fi la Ms Ns Mr Nr Mc Nc E E2):∃L T F C d a Ts L' T' F' C' d' a' d3,IV n s st fi L T F C d a/\((queue s (L.map (·.1))).length<=a\/F=[])/\Ts.Perm T/\
  IV T.length s (λg i j=>jS n (pl Ts) (cF F C d Ts) st g j i) (wJ n (cF F C d Ts) la) L' T' F' C' d' a'/\((queue s (L'.map (·.1))).length<=a'\/F'=[])/\d3.Perm T'/\
  jL CS [zt n s fi st la]=some (zt T'.length s (wJ T.length (cF F' C' d' d3)<|wO (pl Ts) fi) (λg i j=>jS T.length (pl d3) (cF F' C' d' d3) (λg i j=>jS n (pl Ts) (cF F C d Ts) st g j i) g j i)<|wO (pl d3)<|wJ n (cF F C d Ts) la)/\T'.length<=T.length/\T.length<=n/\∃e,((T.length=n/\e=1)\/(T.length<n/\e=E))/\T.length<=m/\(∃D,0<D/\D<=e/\∀i x,i<T.length->bT D e (cF F C d Ts i x))/\∃D,0<D/\D<=E2 e/\∀i x,i<T'.length->bT D (E2 e) (cF F' C' d' d3 i x):=by
 obtain⟨p1,p2,p3,p4⟩:=h.p;have hn:=h.hn;have hs:=h.hs
 have f0:∀i,i<n->bT Mr Nr (fi i):=λi hi=>h.hrow [] (λg hg=>by cases hg) (kx _) i hi
 have l0:∀i,i<n->bT Mc Nc (la i):=λi hi=>h.hcol [] (λg hg=>by cases hg) (kx _) i hi
 have hMc:Mc<=2 ^ 3192:=qr (mQ _ p4) h.sMc;obtain⟨L,T,F,C,d,a,Ts,iv,hd,hp,e1,AO⟩:=YU (CS:=CS) (E:=E) (Ns:=Ns) h.bd (λi hi=>(f0 i hi).mono h.sNr) p2 h.sMr h.hE h.sE h.hst (V8 h.sN0) l0 p3 (V8 hMc)<|V8 h.sN1;have Cp:T.length<=n:=by have:=iv.rs.sp.few;omega
 have sX:=h.hm L T F C d a iv.rs;rw[iv.lens.1] at sX;have S:=iv.rs.sp.sh hp
 have hl:=λg x hg hx=>iv.rs.Wa h.hs0 hd g x hg hx
 obtain⟨D,e,fR,he,he0,LS,hx,LU⟩:∃D e,0<D/\((T.length=n/\e=1)\/(T.length<n/\e=E))/\1<=e/\D<=e/\(∀i x,i<T.length->bT D e (cF F C d Ts i x))/\e<=E:=by
  rcases AO with⟨q1,q2⟩|⟨q1,D,q2,q3,q4⟩
  ·exact⟨1,1,by decide,.inl ⟨q1,rfl⟩,qe _,qe _,q2,p4⟩
  ·exact⟨D,E,q2,.inr ⟨q1,rfl⟩,p4,q3,q4,qe _⟩
 obtain⟨t1,t2⟩:=h.two T.length e he sX;have hDE:D<=E:=qr LS LU;have up:∀x y z:Nat,x<=y->x*z<=y*z:=λx y z hxy=>kD z hxy
 have kM:∀x:Nat,E*x<=2 ^ 3192->D*x<=2 ^ 3192:=λx hx=>qr (up _ _ _ hDE) hx
 have kN:∀x:Nat,n*(E*x)<=2 ^ 3192->n*(e*x)<=2 ^ 3192:=λx hx=>qr (kW _<|up _ _ _ LU) hx
 have fB:∀g i j,g<s->i<T.length->j<T.length->bT (D*Ms) (n*(e*Ns)) (jS n (pl Ts) (cF F C d Ts) st g j i):=λg i j hg hi hj=>
  xH (qU fR p1) n λx iG=>(hx j x hj).mul<|h.hst g x _ hg iG<|S.lt i hi
 have AY:∀u:List Nat,(∀g∈u,g<s)->u.length<=T.length - 1->∀i,i<T.length->bT (D*Mc) (n*(e*Nc)) (zE T.length (λg i j=>jS n (pl Ts) (cF F C d Ts) st g j i) (wJ n (cF F C d Ts) la) u i):=λu hg hu i hi=>by
  have e:=xt (n:=T.length) (jS n (pl Ts) (cF F C d Ts) st) (wJ n (cF F C d Ts) la) u.reverse;rw[kP] at e;rw[e,S.col hl u.reverse (λg dg=>hg g<|kd.mp dg) i hi];exact xH (qU fR p3) n λx iG=>(hx i x hi).mul<|h.hcol u.reverse (λg dg=>hg g<|kd.mp dg) (by rw[kC];omega) x iG
 have b2:Bd T.length s (λg i j=>jS n (pl Ts) (cF F C d Ts) st g j i) (wJ n (cF F C d Ts) la) (D*Ms) (n*(e*Nc)) T.length:={
  hn:=by omega
  hs:=hs
  hs0:=h.hs0
  hst:=λg i j hg hi hj=>(fB g i j hg hi hj).mono (kN _ h.sNs)
  hk0:=qU fR p1
  hk:=kM _ h.sMs
  hB:=Lr (kN _ h.sNc)
  hP:=t1
  hw:=λu hg hu=>⟨((D*Mc:Nat):Rat),λx=>x8 (zE T.length (λg i j=>jS n (pl Ts) (cF F C d Ts) st g j i) (wJ n (cF F C d Ts) la) u x)<|D*Mc,y0<|qU fR p3,λx hx=>vX<|AY u hg hu x hx⟩
  hm:=λL' T' F' C' d' a' h'=>by
   have l1:=h'.lenT;have l2:=h'.sp.few
   rw[qf] at l1;omega }
 obtain⟨L',T',F',C',d',a',d3,lx,eG,fm,e3,Fe⟩:=YU (CS:=CS) (E:=E2 e) (Ns:=n*(e*Ns)) (la:=wO (pl Ts) fi) b2 (λi hi=>(AY [] (λg hg=>by cases hg) (kx _) i hi).mono<|kN _ h.sNc) (qU fR p3) (kM _ h.sMc) (λj hj _=>t2 j hj) (h.sE2 e) fB (V8<|kN _ h.sNs) (λi hi=>f0 _<|S.lt i hi) p2 (V8 h.sMr)<|V8 h.sNr;have Ff:T'.length<=T.length:=by have:=lx.rs.sp.few;omega
 have e2:=VJ (n:=T.length) (s:=s) (fi:=wO (pl Ts) fi) (st:=jS n (pl Ts) (cF F C d Ts) st) (la:=wJ n (cF F C d Ts) la) (by omega) (by omega);have e4:=VJ (n:=T'.length) (s:=s) (fi:=wO (pl d3)<|wJ n (cF F C d Ts) la) (st:=jS T.length (pl d3) (cF F' C' d' d3) λg i j=>jS n (pl Ts) (cF F C d Ts) st g j i) (la:=wJ T.length (cF F' C' d' d3)<|wO (pl Ts) fi) (by omega) (by omega)
 refine⟨L,T,F,C,d,a,Ts,L',T',F',C',d',a',d3,iv,hd,hp,lx,eG,fm,zM rfl<|zG<|(ze<|zm ((ze<|zm ((ze<|zm ((ze rfl).trans e1) rfl).trans e2) rfl).trans e3) rfl).trans e4,Ff,Cp,e,he,sX,⟨D,fR,LS,hx⟩,?_⟩;rcases Fe with⟨_,q2⟩|⟨_,D2,q2,q3,q4⟩
 ·exact⟨1,by decide,h.e2 e,λi x hi=>(q2 i x hi).mono<|h.e2 e⟩
 ·exact⟨D2,q2,q3,q4⟩
end
end L2.Fu
namespace L2.Fu
open PySem WS WD WD.DT
structure Pk(n s:Nat)(st:Q3x)(fi la:Q1x)(r:Nat)(st':Q3x)(fi' la':Q1x)(r1 D1 D2 Ms Ns Mc Nc e E2:Nat)(S:Q2x):Prop where
 le:r<=r1/\r1<=n
 p:0<D1/\D1<=e/\0<D2/\D2<=E2
 rowS:∀u:List Nat,(∀g∈u,g<s)->∀c,c<r->zE r st' fi' u c=sumTo n λa=>zE n st fi u a*S a c
 hS:∀a c,c<r->bT D2 E2 (S a c)
 span:∃(P:Nat->Nat)(σ:Q2x),∀u:List Nat,(∀g∈u,g<s)->∀x,x<n->zE n st fi u x=sumTo r1 λi=>zE n st fi u (P i)*σ i x
 hst:∀g x y,g<s->x<r->y<r->bT (D2*(D1*Ms)) (n*(E2*(n*(e*Ns)))) (st' g x y)
 hcol:∀v:List Nat,(∀g∈v,g<s)->v.length<=n - 1->∀c,c<r->bT (D1*Mc) (n*(e*Nc)) (zE r (λg a b=>st' g b a) la' v c)
 wts:∀w:List Nat,(∀g∈w,g<s)->wt r st' fi' la' w=wt n st fi la w
 least:∀{n':Nat} {su:Q3x} {gi lb:Q1x},(∀w:List Nat,(∀g∈w,g<s)->wt n' su gi lb w=wt n st fi la w)->r<=n'
def ze0{E:Nat}{E2:Nat->Nat}(h:AX n s m st fi la Ms Ns Mr Nr Mc Nc E E2):∃r st' fi' la' r1 D1 D2 e S,jL CS [zt n s fi st la]=some (zt r s fi' st' la')/\EE CS [zt n s fi st la]=some (.int (r:Int))/\((r1=n/\e=1)\/(r1<n/\e=E))/\r1<=m/\Pk n s st fi la r st' fi' la' r1 D1 D2 Ms Ns Mc Nc e (E2 e) S:=by
 obtain⟨L,T,F,C,d,a',Ts,L',T',F',C',d',a2,d3,iv,hd,hp,lx,eG,fm,e,hn1,oN,e0,he,hm,⟨D1,p1,q1,AZ⟩,D2,p2,q2,A3⟩:=ze6 (CS:=CS) h;obtain⟨w1,w2⟩:=RY (iv.rs.mn (la:=la) h.hs0 hd hp)<|lx.rs.mn (la:=wO (pl Ts) fi) h.hs0 eG fm;have S1:=iv.rs.sp.sh hp;have S2:=lx.rs.sp.sh fm
 have fj:=λg x hg hx=>iv.rs.Wa h.hs0 hd g x hg hx
 have eV:=λg x hg hx=>lx.rs.Wa h.hs0 eG g x hg hx
 have Cv:In n (L.map (·.2)).reverse fi:=iv.rs.zca h.hs0 hd [] λg hg=>by cases hg
 have LV:In T.length (L'.map (·.2)).reverse (wJ n (cF F C d Ts) la):=lx.rs.zca h.hs0 eG [] λg hg=>by cases hg
 have up:∀{x y:Nat},x<=y->∀k:Nat,x*k<=y*k:=λh k=>kD k h
 have iq:∀g x y,g<s->x<T.length->y<T.length->bT (D1*Ms) (n*(e0*Ns)) (jS n (pl Ts) (cF F C d Ts) st g x y):=λg x y hg hx hy=>xH (qU p1 h.p.1) n λb hb=>(AZ x b hx).mul<|h.hst g b _ hg hb<|S1.lt y hy
 have Fg:∀u:List Nat,(∀g∈u,g<s)->∀i,i<T.length->zE T.length (jS n (pl Ts) (cF F C d Ts) st) (wO (pl Ts) fi) u i=zE n st fi u (pl Ts i):=λu hu=>(S1.row Cv fj u hu fi (wO (pl Ts) fi) Cv λi _=>rfl).2
 have inj:∀i j,i<T.length->j<T.length->pl Ts i=pl Ts j->i=j:=λi j hi hj q=>by
  have h1:=S1.one i j hi hj;have h2:=S1.one i i hi hi
  rw[qj rfl] at h2;by_cases z:j=i
  ·exact z.symm
  ·rw[qm z] at h1;have h3:Ts.getD i 0=Ts.getD j 0:=q;rw[<-h3,h2] at h1;exact absurd h1 (by decide)
 refine⟨T'.length,_,_,_,T.length,D1,D2,e0,λa c=>sumTo T.length λi=>if pl Ts i=a then cF F' C' d' d3 c i else 0,e,zM rfl<|zG<|(ze<|zm ((zg ((ze rfl).trans e) rfl).trans vb) rfl).trans<|xO _ _,he,hm,⟨⟨hn1,oN⟩,⟨p1,q1,p2,q2⟩,λu hu c hc=>?_,λa c hc=>?_,⟨pl Ts,cF F C d Ts,λu hu x hx=>?_⟩,λg x y hg hx hy=>?_,λv hv hvl c hc=>?_,w1,λhw=>w2 hw⟩⟩
 ·have er:=xt (n:=T'.length) (jS T.length (pl d3) (cF F' C' d' d3) λg i j=>jS n (pl Ts) (cF F C d Ts) st g j i) (wJ T.length (cF F' C' d' d3)<|wO (pl Ts) fi) u.reverse;rw[kP] at er;rw[er,S2.col eV u.reverse (λg dg=>hu g<|kd.mp dg) c hc];have e1:∀i,i<T.length->cF F' C' d' d3 c i*jM T.length (λg i j=>jS n (pl Ts) (cF F C d Ts) st g j i) (wO (pl Ts) fi) u.reverse i=sumTo n λa=>zE n st fi u a*if pl Ts i=a then cF F' C' d' d3 c i else 0:=λi hi=>by
   rw[UA,kP,Fg u hu i hi,yf (λa=>zE n st fi u a*if pl Ts i=a then cF F' C' d' d3 c i else 0) n (S1.lt i hi) λa _ ha=>by rw[qm<|gE ha,kI],qj rfl];exact kg _ _
  refine(zb T.length e1).trans ?_;rw[yu];refine zb n λa _=>?_
  rw[kg,<-zC];exact zb T.length λi _=>kg _ _
 ·by_cases q:∃i,i<T.length/\pl Ts i=a
  ·obtain⟨i,hi,rfl⟩:=q;rw[yf (λj=>if pl Ts j=pl Ts i then cF F' C' d' d3 c j else 0) T.length hi λj hj cQ=>qm λz=>cQ<|inj j i hj hi z,qj rfl];exact A3 c i hc
  ·rw[zb T.length (g:=λ_=>0) λi hi=>qm λz=>q ⟨i,hi,z⟩,zT];exact bT.zero p2
 ·exact S1.all _ (S1.row Cv fj u hu fi (wO (pl Ts) fi) Cv λi _=>rfl).1 x hx
 ·refine(xH (qU p2<|qU p1 h.p.1) T.length λi hi=>?_).mono<|up oN _;exact(A3 y i hy).mul<|iq g _ _ hg (S2.lt x hx) hi
 ·have er:=(S2.row LV eV v hv _ (wO (pl d3)<|wJ n (cF F C d Ts) la) LV λi _=>rfl).2 c hc;refine(show _=_ from er)▸?_;have e2:=xt (n:=T.length) (jS n (pl Ts) (cF F C d Ts) st) (wJ n (cF F C d Ts) la) v.reverse
  rw[kP] at e2;rw[e2,S1.col fj v.reverse (λg dg=>hv g<|kd.mp dg) _<|S2.lt c hc];exact xH (qU p1 h.p.2.2.1) n λx iG=>(AZ _ x<|S2.lt c hc).mul (h.hcol v.reverse (λg dg=>hv g<|kd.mp dg) (by rw[kC];exact hvl) x iG)
end L2.Fu
namespace WD.DT
open WS WD
theorem LW{n:Nat}:∀V:List (Nat->Rat),∃R T F C d,Sp n R T F C d/\R.length=T.length/\T.length<=V.length/\∀v∈V,In n R v
 |[]=>⟨[],[],List.range n,(List.range n).map xC,1,D4 n,rfl,qe _,λv hv=>by cases hv⟩
 |v::V=>by
  obtain⟨R,T,F,C,d,h,l1,l2,hV⟩:=LW (n:=n) V;by_cases hv:In n R v
  ·refine⟨R,T,F,C,d,h,l1,pI l2,λu hu=>?_⟩;rcases qy.mp hu with z|z
   ·rw[z];exact hv
   ·exact hV u z
  ·have hn:¬∀c∈C,dq n (rt c) v=0:=λq=>hv<|(h.holds v).mp q
   obtain⟨c,hc⟩:=Classical.not_forall.mp hn;obtain⟨hcm,hc0⟩:=Classical.not_imp.mp hc;obtain⟨i,hi⟩:=qP hcm;have hiF:i<F.length:=by rw[<-h.lenC];exact(qg.mp hi).1
   have hg:F[i]?=some F[i]:=qk hiF;have hD:0<xx ((List.range n).map v):=Vm _
   have Fh:∀x,x<n->(v x).den ∣ xx ((List.range n).map v):=λx hx=>Vy _ _<|qE.mpr ⟨x,qx.mpr hx,rfl⟩
   let z:Nat->Int:=λx=>x8 (v x)<|xx<|(List.range n).map v
   have hz:∀x,x<n->(z x:Rat)=v x*((xx ((List.range n).map v):Nat):Rat):=λx hx=>j9<|Fh x hx
   have ez:∀w:Nat->Rat,dq n w (rt z)=dq n w v*((xx ((List.range n).map v):Nat):Rat):=λw=>by
    show sumTo n (λx=>w x*(z x:Rat))=sumTo n (λx=>w x*v x)*_
    rw[<-zC];exact zb n λx hx=>by rw[hz x hx];grind
   have hp:dt n c z≠0:=λq=>by
    have:=ez<|rt c;rw[JU,q] at this;rcases kh.mp this.symm with y|y
    ·exact hc0 y
    ·exact y0 hD y
   refine⟨_,_,_,_,_,h.take hi hg hp,by rw[ke,qz,l1];rfl,by rw[qz,ke];exact mW l2,λu hu w hw=>?_⟩;rcases qy.mp hu with y|y
   ·rw[y]
    have:=hw z<|qZ ..;rw[ez w] at this;rcases kh.mp this with q|q
    ·exact q
    ·exact absurd q<|y0 hD
   ·exact hV u y w λr hr=>hw r<|qA _ hr
def uI(V:LQr)(h:V.length<k):∃w:Nat->Rat,(∃i,i<k/\w i≠0)/\∀v∈V,dq k w v=0:=by
 obtain⟨R,T,F,C,d,hs,l1,l2,hV⟩:=LW (n:=k) V;have f:=hs.few;have hF:0<F.length:=by omega
 have hf:F[0]?=some F[0]:=qk hF;have hC:0<C.length:=by rw[hs.lenC];exact hF
 have hc:C[0]?=some C[0]:=qk hC;refine⟨rt C[0],⟨F[0],(hs.free hf).1,?_⟩,λv hv=>hV v hv _ λr hr=>?_⟩
 ·show((C[0] F[0]:Int):Rat)≠0
  rw[hs.at hc hf];intro q;exact hs.d0 (by exact_mod_cast q)
 ·rw[JU,hs.orth hc hf hr];rfl
def zhB{n0:Nat}{C:LZr}{d:Int}(h:Sp n R T F C d)(hl:R.length=T.length){β Bm:Q2x}(hr:∀i r,R[i]?=some r->∀x,x<n->(r x:Rat)=sumTo n0 λa=>β i a*Bm a x):R.length<=n0:=by
 refine kz λhk=>?_
 obtain⟨γ,⟨j,hj,gj⟩,gV⟩:=uI (k:=R.length) ((List.range n0).map λa i=>β i a) (by rw[qf,qw];exact hk);let ri:Nat->Nat->Rat:=λi x=>((R.getD i λ_=>0) x:Rat)
 have eri:∀i,i<R.length->∀x,x<n->ri i x=sumTo n0 λa=>β i a*Bm a x:=λi hi x hx=>by
  have e:R[i]?=some R[i]:=qk hi;have e2:ri i x=(R[i] x:Rat):=by show(((R.getD i λ_=>0) x:Int):Rat)=_;rw[qB,e];rfl
  rw[e2];exact hr i _ e x hx
 have z0:∀x,x<n->sumTo R.length (λi=>γ i*ri i x)=0:=λx hx=>by
  have e1:∀i,i<R.length->γ i*ri i x=sumTo n0 λa=>γ i*β i a*Bm a x:=λi hi=>by
   rw[eri i hi x hx,kg,<-zC];exact zb n0 λa _=>by grind
  rw[zb _ e1,yu];rw[zb n0 (g:=λ_=>0) λa ha=>?_,zT];rw[zC (Bm a x) λi=>γ i*β i a]
  have:=gV _<|qE.mpr ⟨a,qx.mpr ha,rfl⟩;rw[show sumTo R.length (λi=>γ i*β i a)=0 from this,ki]
 obtain⟨y,⟨t0,Cd,yt0⟩,yV⟩:=uI (k:=R.length) (((List.range R.length).filter λi=>i≠j).map λi t=>ri i<|T.getD t 0) (by
  rw[qf]
  have:((List.range R.length).filter λi=>i≠j).length<(List.range R.length).length:=by
   refine gD.mpr ⟨j,qx.mpr hj,by simp⟩
  rwa[qw] at this)
 have hT:∀t,t<R.length->T.getD t 0<n/\T[t]?=some (T.getD t 0):=λt ht=>by
  have e:T[t]?=some T[t]:=qk (by omega);have e2:T.getD t 0=T[t]:=by rw[qB,e];rfl
  rw[e2];exact⟨(h.mem _).mp<|qu.mpr<|.inl<|qI e,e⟩
 have rj:T.Nodup:=(gm.mp h.nd).1;let w:Nat->Rat:=λx=>sumTo R.length λt=>if T.getD t 0=x then y t else 0
 have wd:∀f:Nat->Rat,dq n w f=sumTo R.length λt=>y t*f (T.getD t 0):=λf=>by
  show sumTo n (λx=>(sumTo R.length λt=>if T.getD t 0=x then y t else 0)*f x)=_
  rw[zb n λx _=>(zC (f x) (λt=>if T.getD t 0=x then y t else 0) R.length).symm,yu];refine zb _ λt ht=>?_
  rw[yf (λx=>(if T.getD t 0=x then y t else 0)*f x) n (hT t ht).1 λx _ hx=>by rw[qm<|gE hx,ki],qj rfl]
 have wi:∀i,i<R.length->i≠j->dq n w (ri i)=0:=λi hi dh=>by
  rw[wd];exact yV _<|qE.mpr ⟨i,kl.mpr ⟨qx.mpr hi,by simpa using dh⟩,rfl⟩
 have wj:dq n w (ri j)=0:=by
  have s0:sumTo R.length (λi=>dq n w (ri i)*γ i)=0:=by
   have e1:∀i,i<R.length->dq n w (ri i)*γ i=sumTo n λx=>w x*(γ i*ri i x):=λi _=>by
    show sumTo n (λx=>w x*ri i x)*γ i=_
    rw[<-zC];exact zb n λx _=>by grind
   rw[zb _ e1,yu,zb n (g:=λ_=>0) λx hx=>?_,zT];have e2:∀i,i<R.length->w x*(γ i*ri i x)=γ i*ri i x*w x:=λi _=>kg _ _
   rw[zb _ e2,zC,z0 x hx,ki]
  rw[yf (λi=>dq n w (ri i)*γ i) R.length hj λi hi dh=>by rw[wi i hi dh,ki]] at s0;rcases kh.mp s0 with q|q
  ·exact q
  ·exact absurd q gj
 have Fi:=h.ind w (λx _ hx=>by
  show sumTo R.length (λt=>if T.getD t 0=x then y t else 0)=0
  rw[zb _ (g:=λ_=>0) λt ht=>qm λe=>hx (by rw[<-e];exact qI (hT t ht).2),zT]) λr iK=>by
   obtain⟨i,hi⟩:=qP iK;have D5:=(qg.mp hi).1;have e:ri i=rt r:=by funext x;show(((R.getD i λ_=>0) x:Int):Rat)=_;rw[qB,hi];rfl
   rw[<-e];by_cases dh:i=j
   ·rw[dh];exact wj
   ·exact wi i D5 dh
 have:=Fi (T.getD t0 0) (hT t0 Cd).1;have e:w (T.getD t0 0)=y t0:=by
  show sumTo R.length (λt=>if T.getD t 0=T.getD t0 0 then y t else 0)=_
  rw[yf (λt=>if T.getD t 0=T.getD t0 0 then y t else 0) R.length Cd λt ht cQ=>qm λq=>r6 rj (hT t ht).2 (hT t0 Cd).2 cQ q,qj rfl]
 exact yt0<|e.symm.trans this
def zgT{n0:Nat}{C:LZr}{d:Int}(h:Sp n R T F C d)(hl:R.length=T.length){Bm:Q2x}(hr:∀r∈R,∃β:Nat->Rat,∀x,x<n->(r x:Rat)=sumTo n0 λa=>β a*Bm a x):R.length<=n0:=by
 have:∀i:Nat,∃β:Nat->Rat,∀r:Nat->Int,R[i]?=some r->∀x,x<n->(r x:Rat)=sumTo n0 λa=>β a*Bm a x:=λi=>by
  cases e:R[i]? with
  |none=>exact⟨λ_=>0,λr q=>by cases q⟩
  |some r=>
   obtain⟨β,hβ⟩:=hr r<|qI e;exact⟨β,λr' q=>by cases q;exact hβ⟩
 exact zhB h hl (β:=λi=>Classical.choose<|this i) λi r e=>Classical.choose_spec (this i) r e
end WD.DT
namespace L2.Fu
open PySem PySem.Spec PyProof.Rows WS WD WD.DT
def zlr(g:Nat)(r q:Q1x)(x:Nat)(hx:x<n+m):led (n+m) (jn n r q) (y4 n st su g) x=jn n (led n r<|st g) (led m q<|su g) x:=by
 show sumTo (n+m) (λa=>jn n r q a*y4 n st su g a x)=_
 rw[jH];have e1:∀a,a<n->jn n r q a*y4 n st su g a x=if x<n then r a*st g a x else 0:=λa ha=>by
  unfold y4 fz jn;rw[qj ha,qj ha];split
  ·rfl
  ·exact kI _
 have e2:∀a,a<m->jn n r q (n+a)*y4 n st su g (n+a) x=if x<n then 0 else q a*su g a (x - n):=λa ha=>by
  rw[l7];unfold y4 fz jn;rw[qm (show ¬n+a<n by omega),show n+a - n=a by omega];split
  ·exact kI _
  ·rfl
 rw[zb n e1,zb m e2];unfold jn;by_cases h:x<n
 ·simp only [qj h];rw[zT];show _=sumTo n λa=>r a*st g a x
  grind
 ·simp only [qm h];rw[zT];show _=sumTo m λa=>q a*su g a (x - n)
  grind
theorem uN{n m:Nat}{st su:Q3x}:∀(u:LNt)(r q f:Q1x),(∀x,x<n+m->f x=jn n r q x)->∀x,x<n+m->zE (n+m) (y4 n st su) f u x=jn n (zE n st r u) (zE m su q u) x
 |[],_,_,_,h,x,hx=>h x hx
 |g::u,r,q,f,h,x,hx=>by
  show zE (n+m) (y4 n st su) (led (n+m) f<|y4 n st su g) u x=jn n (zE n st (led n r<|st g) u) (zE m su (led m q<|su g) u) x
  refine uN u _ _ _ (λy hy=>?_) x hx;rw[<-zlr g r q y hy];exact zb _ λa ha=>by rw[h a ha]
theorem LX{m:Nat}{su:Q3x}:∀(u:LNt)(r:Q1x),(∀x,x<m->r x=0)->∀x,x<m->zE m su r u x=0
 |[],_,h,x,hx=>h x hx
 |g::u,r,h,x,hx=>LX u _ (λy _=>by
  show sumTo m (λa=>r a*su g a y)=0
  rw[zb m λa ha=>(by rw[h a ha,ki]:r a*su g a y=0),zT]) x hx
end L2.Fu
namespace L2.Fu
open PySem WS WD WD.DT
open PySem.Builtin.Int (intBits)
def Sw.congr{α:Type}{L:List α}{f g:α->Nat->Rat}(h:∀a∈L,∀x,x<N->f a x=g a x)(w:Sw N s fi st la (L.map g)):Sw N s fi st la (L.map f):=by
 have LY:∀x,eN N (L.map g) x->eN N (L.map f) x:=λx q v hv=>q v λl hl=>by
  obtain⟨a,ha,rfl⟩:=qE.mp hl;rw[<-hv _ (qE.mpr ⟨a,ha,rfl⟩)];exact zb N λx hx=>by rw[h a ha x hx]
 refine⟨LY _ w.1,λr hr=>?_⟩;obtain⟨a,ha,rfl⟩:=qE.mp hr;obtain⟨w1,w2⟩:=w.2 _<|qE.mpr ⟨a,ha,rfl⟩;refine⟨?_,λk hk=>?_⟩
 ·rw[<-w1];exact zb N λx hx=>by rw[h a ha x hx]
 ·rw[show led N (f a) (st k)=led N (g a) (st k) from funext λb=>zb N λx hx=>by rw[h a ha x hx]];exact LY _<|w2 k hk
def LZ{la lb:Nat}(hm:0<m)(h:m<2 ^ lb)(hl:1<=la):Lz la lb ((m:Rat)⁻¹):=by
 have hc:(m:Rat)≠0:=y0 hm;have e:(m:Rat)⁻¹*((m:Int):Rat)=((1:Int):Rat):=by
  rw[kq,kg];exact kR _ hc
 have ib:=Va (by omega) e;refine⟨λz=>?_,qJ ib.num<|qK (show(1:Int).natAbs<2 ^ 1 by decide)<|qT (by decide) hl,qJ (k6 ib.pos ib.den)<|by rw[kB];exact h⟩;rw[z,ki] at e;exact absurd e (by decide)
theorem L0{N:Nat}{st:Q3x}{c:Rat}:∀(u:LNt)(r f:Q1x),(∀x,x<N->f x=r x*c)->∀x,x<N->zE N st f u x=zE N st r u x*c
 |[],_,_,h,x,hx=>h x hx
 |g::u,r,f,h,x,hx=>L0 u (led N r<|st g) (led N f<|st g) (λy _=>by
  show sumTo N (λa=>f a*st g a y)=sumTo N (λa=>r a*st g a y)*c
  rw[<-zC];exact zb N λa ha=>by rw[h a ha];grind) x hx
section
variable{r D1 D2 dw cN e:Nat}
structure Ls(n s:Nat)(st:Q3x)(fi la:Q1x)(r1 e E2 dw cN:Nat):Prop where
 hn:n<=6
 hs:s<=42
 hs0:0<s
 hst:∀g x y,g<s->x<n->y<n->bT (6 ^ 7) (2 ^ 41) (st g x y)
 hrow:∀u:List Nat,(∀g∈u,g<s)->u.length<=10->∀x,x<n->bT (6 ^ 14) (2 ^ 103) (zE n st fi u x)
 hla:∀x,x<n->bT (6 ^ 9) (2 ^ 63) (la x)
 e1:e<=2 ^ dw
 e2:E2<=2 ^ cN
 b1:dw<=333
 b2:cN<=1611
 hP:(cN+110)*r1<9000
def Ls.stJ(z:Ls n s st fi la r1 e E2 dw cN)(k:Pk n s st fi la r st' fi' la' r1 D1 D2 (6 ^ 7) (2 ^ 41) (6 ^ 9) (2 ^ 63) e E2 S):∀g x y,g<s->x<n+r->y<n+r->bT (D2*(D1*6 ^ 7)) (2 ^ 1991) (y4 n st st' g x y):=by
 have hn:=z.hn;obtain⟨kr,kn⟩:=k.le;obtain⟨p1,q1,p2,q2⟩:=k.p;have AG:=z.b1
 have sP:=z.b2;have ly:D1<=2 ^ dw:=qr q1 z.e1
 have oz:D2<=2 ^ cN:=qr q2 z.e2;have n3:n<=2 ^ 3:=by omega
 have p6:0<D2*(D1*6 ^ 7):=qU p2<|qU p1<|zV 7;exact λg x y hg hx hy=>by
  unfold y4 fz jn;split
  ·rename_i h1;dsimp only;split
   ·rename_i h2
    have:=bT.up (z.hst g x y hg h1 h2) (c:=D2*D1)<|qU p2 p1;rw[gG (6 ^ 7)<|D2*D1,Nat.mul_assoc D2 D1<|6 ^ 7] at this;exact this.mono (ya (qe<|2 ^ 41) (ya oz ly<|qe<|cN+dw)<|by omega)
   ·exact bT.zero p6
  ·rename_i h1;dsimp only;split
   ·exact bT.zero p6
   ·rename_i h2;exact(k.hst g _ _ hg (by omega)<|by omega).mono (ya n3 (ya z.e2 (ya n3 (ya z.e1 (qe<|2 ^ 41)<|qe<|dw+41)<|qe<|3+(dw+41))<|qe<|cN+(3+(dw+41)))<|by omega)
def Ls.laJ(z:Ls n s st fi la r1 e E2 dw cN)(k:Pk n s st fi la r st' fi' la' r1 D1 D2 (6 ^ 7) (2 ^ 41) (6 ^ 9) (2 ^ 63) e E2 S):∀i,i<n+r->bT (D1*6 ^ 9) (2 ^ 399) (jn n la (λi=>la' i*(-1)) i):=by
 have hn:=z.hn;obtain⟨kr,kn⟩:=k.le;obtain⟨p1,q1,p2,q2⟩:=k.p;have AG:=z.b1
 have sP:=z.b2;have ly:D1<=2 ^ dw:=qr q1 z.e1
 have oz:D2<=2 ^ cN:=qr q2 z.e2;have n3:n<=2 ^ 3:=by omega
 have p6:0<D2*(D1*6 ^ 7):=qU p2<|qU p1<|zV 7;have rH:∀x,x<r->bT (D1*6 ^ 9) (n*(e*2 ^ 63)) (la' x):=λx hx=>k.hcol [] (λg hg=>by cases hg) (kx _) x hx
 have Fj:n*(e*2 ^ 63)<=2 ^ 399:=ya n3 (ya z.e1 (qe<|2 ^ 63)<|qe<|dw+63) (by omega);exact λi hi=>by
  unfold jn;by_cases q:i<n
  ·rw[qj q]
   have:=bT.up (z.hla i q) (c:=D1) p1;rw[gG (6 ^ 9) D1] at this;exact this.mono (ya (qe<|2 ^ 63) ly<|by omega)
  ·rw[qm q]
   have:=(rH (i - n)<|by omega).mul (show bT 1 1 (-1:Rat) from ZD (z:=-1)<|by decide);rw[nJ,nJ] at this;exact this.mono Fj
def Ls.told(L1:n+r<=10)(z:Ls n s st fi la r1 e E2 dw cN)(k:Pk n s st fi la r st' fi' la' r1 D1 D2 (6 ^ 7) (2 ^ 41) (6 ^ 9) (2 ^ 63) e E2 S):∃L:WR,wo CS [zt n s fi st la,zt r s fi' st' la']=some (.list<|zD (n+r)<|KL L)/\lp (n+r) s (y4 n st st') (jn n fi fi') (jn n la λi=>la' i*(-1)) L/\∀q∈L,∀x,x<n+r->(q.2 x).natAbs<=2 ^ (cN+106):=by
 have hn:=z.hn;obtain⟨kr,kn⟩:=k.le;obtain⟨p1,q1,p2,q2⟩:=k.p;have AG:=z.b1
 have sP:=z.b2;have ly:D1<=2 ^ dw:=qr q1 z.e1
 have oz:D2<=2 ^ cN:=qr q2 z.e2;have n3:n<=2 ^ 3:=by omega
 have N4:n+r<=2 ^ 4:=by omega
 have p6:0<D2*(D1*6 ^ 7):=qU p2<|qU p1<|zV 7;have rH:∀x,x<r->bT (D1*6 ^ 9) (n*(e*2 ^ 63)) (la' x):=λx hx=>k.hcol [] (λg hg=>by cases hg) (kx _) x hx
 have Fj:n*(e*2 ^ 63)<=2 ^ 399:=ya n3 (ya z.e1 (qe<|2 ^ 63)<|qe<|dw+63) (by omega);have L3:D1*6 ^ 9<=2 ^ 360:=ya ly (wQ 9) (by omega)
 have hd:=zci (n:=n) (s:=s) (fi:=fi) (gi:=fi') (st:=st) (su:=st') (la:=la) (lb:=la') (λi hi=>(rH i hi).bq (Sz.mono L3<|Sz.wG<|by decide)<|Sz.mono Fj<|Sz.wG<|by decide) (by omega) (by omega) z.hs;have oB:∀u:List Nat,(∀g∈u,g<s)->u.length<=10->∀x,x<n+r->bT (D2*6 ^ 14) (2 ^ (cN+106)) (zE (n+r) (y4 n st st') (jn n fi fi') u x):=λu hg hu x hx=>by
  rw[uN u fi fi' (jn n fi fi') (λ_ _=>rfl) x hx];unfold jn;by_cases q:x<n
  ·rw[qj q]
   have:=bT.up (z.hrow u hg hu x q) (c:=D2) p2;rw[gG (6 ^ 14) D2] at this;exact this.mono (ya (qe<|2 ^ 103) oz<|by omega)
  ·rw[qm q,k.rowS u hg (x - n)<|by omega]
   have:=xH (m:=6 ^ 14*D2) (B:=2 ^ 103*E2) (f:=λa=>zE n st fi u a*S a (x - n)) (qU (zV 14) p2) n λa ha=>(z.hrow u hg hu a ha).mul (k.hS a (x - n)<|by omega)
   rw[gG (6 ^ 14) D2] at this;exact this.mono (ya n3 (ya (qe<|2 ^ 103) z.e2<|qe<|103+cN)<|by omega)
 have stJ:=z.stJ k;have pk:D2*(D1*6 ^ 7)<=2 ^ 3192:=ya oz (ya ly (wQ 7)<|qe<|dw+3*7) (by omega)
 have pr:D2*6 ^ 14<=2 ^ 3192:=ya oz (wQ 14) (by omega);have bd:Bd (n+r) s (y4 n st st') (jn n fi fi') (D2*(D1*6 ^ 7)) (2 ^ (cN+106)) r1:={
  hn:=by omega
  hs:=z.hs
  hs0:=z.hs0
  hst:=λg x y hg hx hy=>(stJ g x y hg hx hy).mono (qT (by decide)<|by decide)
  hk0:=p6
  hk:=pk
  hB:=qT (by decide) (by omega)
  hP:=λj hj=>sY (wG (ya N4 (qe _)<|qe _)<|qe _) (by
   have h1:(4+(cN+106))*j<=(4+(cN+106))*r1:=kW _ hj;have h2:=z.hP
   rw[show 4+(cN+106)=cN+110 by omega] at h1 ⊢;omega)
  hw:=λu hg hu=>⟨((D2*6 ^ 14:Nat):Rat),λx=>x8 (zE (n+r) (y4 n st st') (jn n fi fi') u x)<|D2*6 ^ 14,y0<|qU p2<|zV 14,λx hx=>vX<|oB u hg (by omega) x hx⟩
  hm:=λL T F C d a h=>by
   obtain⟨P,σ,sp⟩:=k.span;have l:=zgT (Bm:=λi=>jn n (σ i) λc=>sumTo n λa=>σ i a*S a c) (n0:=r1) h.sp (by rw[kC];exact h.lenT.symm) λq hq=>by
    obtain⟨i,hi⟩:=qP (kd.mp hq);rw[qp] at hi;obtain⟨w,hw,rfl⟩:=map_some hi;obtain⟨c,_,e⟩:=h.mult i w.1 w.2 (by rw[qp,hw];rfl) (by rw[qp,hw];rfl);have hg:=h.rc.signs z.hs0 i w.1 (by rw[qp,hw];rfl);refine⟨λi=>c*zE n st fi w.1 (P i),λx hx=>?_⟩;rw[e x hx,uN w.1 fi fi' (jn n fi fi') (λ_ _=>rfl) x hx,kg];unfold jn;by_cases y:x<n
    ·simp only [qj y];rw[sp w.1 hg x y,<-zC];exact zb r1 λa _=>by grind
    ·simp only [qm y];have e1:∀a,a<n->zE n st fi w.1 a*S a (x - n)=sumTo r1 λi=>zE n st fi w.1 (P i)*(σ i a*S a (x - n)):=λa ha=>by
      rw[sp w.1 hg a ha,<-zC];exact zb r1 λi _=>by grind
     rw[k.rowS w.1 hg (x - n) (by omega),zb n e1,yu,<-zC];exact zb r1 λi _=>by
      have e2:sumTo n (λa=>zE n st fi w.1 (P i)*(σ i a*S a (x - n)))=sumTo n (λa=>σ i a*S a (x - n))*zE n st fi w.1 (P i):=by
       rw[<-zC];exact zb n λa _=>kg _ _
      rw[e2];grind
   rw[kC,qf] at l;exact l }
 have Fm:=z.laJ k;rcases zfl (CS:=CS) (k0:=D2*6 ^ 14) hd bd (λi hi=>(oB [] (λg hg=>by cases hg) (kx _) i hi).mono<|qT (by decide)<|by omega) (qU p2<|zV 14) pr Fm (qU p1<|zV 9) (Sz.mono L3<|Sz.wG<|by decide) (Sz.wG<|by decide) with⟨L,ec,w⟩|⟨L,u,ec,w⟩
 ·have hL:=w.len;exact⟨L,zha (n:=n+r) ec (by omega) (by omega),w,w.abs bd⟩
 ·obtain⟨w1,w2,w3,_⟩:=w.first z.hs0
  exact absurd (by rw[zjS,k.wts u w3];grind) w1
def Ls.zc(z:Ls n s st fi la r1 e E2 dw cN)(k:Pk n s st fi la r st' fi' la' r1 D1 D2 (6 ^ 7) (2 ^ 41) (6 ^ 9) (2 ^ 63) e E2 S):Zc n (2 ^ 103) 1718 104 D2 E2 637 746 2361 S r:=by
 have hn:=z.hn;have sP:=z.b2
 have n3:n<=2 ^ 3:=by omega
 have nB:n*2 ^ 103<=2 ^ 106:=ya n3 (qe<|2 ^ 103) (by omega);have lt:∀{x y w:Nat},x<=2 ^ y->y<w->x<2 ^ w:=λh h'=>qJ h<|kO (by decide) h'
 have pj:∀j,j<=n->(n*2 ^ 103) ^ j<=2 ^ (106*6):=λj hj=>wG nB (kW _<|by omega)
 refine⟨by omega,λj hj=>lt (pj j hj) (by decide),λj hj=>lt (ya n3 (ya (ya n3 (pj j hj)<|qe<|3+106*6) (qe<|2 ^ 103)<|qe<|3+106*6+103)<|qe<|3+(3+106*6+103)) (by decide),λa c _ hc=>k.hS a c hc,ya (qr k.p.2.2.2 z.e2) (qe<|2 ^ 637) (by omega),lt (ya n3 (ya (qe<|2 ^ 746) z.e2<|qe<|746+cN)<|qe<|3+(746+cN)) (by omega),⟨by decide,by decide,by decide⟩,by decide,by decide,by decide⟩
def Ls.shown(L1:n+r<=10)(z:Ls n s st fi la r1 e E2 dw cN)(k:Pk n s st fi la r st' fi' la' r1 D1 D2 (6 ^ 7) (2 ^ 41) (6 ^ 9) (2 ^ 63) e E2 S):∃K:List (Nat->Rat),wo CS [zt n s fi st la,zt r s fi' st' la']=some (.list<|zD (n+r) K)/\wY [zt n s fi st la,zt r s fi' st' la',.list<|zD (n+r) K]=some (.bool true):=by
 obtain⟨L,eR,w,iA⟩:=Ls.told (CS:=CS) L1 z k;have zc:=z.zc k;have hs0:=z.hs0
 have AG:=z.b1;have sP:=z.b2
 have hn:=z.hn;have A4:0<6 ^ 14:=zV 14
 let zr:List Nat->Nat->Int:=λu x=>x8 (zE n st fi u x)<|6 ^ 14
 have hz:∀u:List Nat,(∀g∈u,g<s)->u.length<=10->∀x,x<n->(zr u x:Rat)=zE n st fi u x*((6 ^ 14:Nat):Rat)/\(zr u x).natAbs<=2 ^ 103:=λu hg hu x hx=>vX<|z.hrow u hg hu x hx
 have A5:((6 ^ 14:Nat):Rat)≠0:=y0 A4;have hJ:∀u:List Nat,(∀g∈u,g<s)->u.length<=10->∀x,x<n+r->ext n S (rt<|zr u) x=zE (n+r) (y4 n st st') (jn n fi fi') u x*((6 ^ 14:Nat):Rat):=λu hg hu x hx=>by
  rw[uN u fi fi' (jn n fi fi') (λ_ _=>rfl) x hx];unfold ext jn;by_cases q:x<n
  ·rw[qj q,qj q];exact(hz u hg hu x q).1
  ·rw[qm q,qm q,k.rowS u hg (x - n) (by omega),<-zC];exact zb n λa ha=>by
    show(zr u a:Rat)*S a (x - n)=_
    rw[(hz u hg hu a ha).1];grind
 have lens:∀q∈L,q.1.length<=9/\∀g∈q.1,g<s:=λq hq=>by
  obtain⟨T,F,C,d,a,h1,_⟩:=w;obtain⟨h2,h3⟩:=h1.wlen hs0 hq;exact⟨by omega,h3⟩
 have mult:∀q,∃c:Rat,q∈L->Lz 1718 104 c/\∀u:List Nat,(∀g∈u,g<s)->q.1.length+u.length<=10->∀x,x<n+r->zE (n+r) (y4 n st st') (rt q.2) u x=c*ext n S (rt<|zr<|q.1++u) x:=λq=>by
  refine Classical.byCases (p:=q∈L) (λhq=>?_) λhq=>⟨1,λh=>absurd h hq⟩
  obtain⟨l9,hg⟩:=lens q hq;have hm:∃c:Rat,c≠0/\∀x,x<n+r->(q.2 x:Rat)=c*zE (n+r) (y4 n st st') (jn n fi fi') q.1 x:=by
   obtain⟨T,F,C,d,a,h1,_⟩:=w;exact h1.mult hq
  obtain⟨c,c0,e⟩:=hm;have key:∀u:List Nat,(∀g∈u,g<s)->∀x,x<n+r->zE (n+r) (y4 n st st') (rt q.2) u x=zE (n+r) (y4 n st st') (jn n fi fi') (q.1++u) x*c:=λu hu x hx=>by
   rw[jR];exact L0 u _ _ (λy hy=>by show(q.2 y:Rat)=_;rw[e y hy,kg]) x hx
  by_cases sZ:∃x,x<n/\zr q.1 x≠0
  ·obtain⟨x0,sZ,hz0⟩:=sZ;refine⟨c / ((6 ^ 14:Nat):Rat),λ_=>⟨?_,λu hu hl x hx=>?_⟩⟩
   ·have hc:c / ((6 ^ 14:Nat):Rat)*(zr q.1 x0:Rat)=(q.2 x0:Rat):=by
     rw[e x0 (by omega),(hz q.1 hg (by omega) x0 sZ).1,uN q.1 fi fi' (jn n fi fi') (λ_ _=>rfl) x0 (by omega),l6 sZ]
     have:=k7 (a:=c) A5;grind
    have cQ:c / ((6 ^ 14:Nat):Rat)≠0:=λy=>c0 (by
     have:=k7 (a:=c) A5;rw[y,ki] at this;exact this.symm)
    have ib:=Va hz0 hc;refine⟨cQ,?_,?_⟩
    ·exact qJ (qr ib.num<|iA q hq x0<|by omega) (kO (by decide)<|by omega)
    ·exact qJ (qr (k6 ib.pos ib.den) (hz q.1 hg (by omega) x0 sZ).2) (kO (by decide)<|by decide)
   ·rw[key u hu x hx,hJ (q.1++u) (λg dg=>(qu.mp dg).elim (hg g)<|hu g) (by rw[qz];exact hl) x hx]
    have:=k7 (a:=c) A5;grind
  ·have z0:∀x,x<n->zE n st fi q.1 x=0:=λx hx=>by
    have h1:zr q.1 x=0:=pK.mp λy=>sZ ⟨x,hx,y⟩
    have h2:=(hz q.1 hg (by omega) x hx).1;rw[h1] at h2;rcases kh.mp h2.symm with y|y
    ·exact y
    ·exact absurd y A5
   have j0:∀u:List Nat,(∀g∈u,g<s)->∀x,x<n+r->zE (n+r) (y4 n st st') (jn n fi fi') (q.1++u) x=0:=λu hu x hx=>by
    have hgu:∀g∈q.1++u,g<s:=λg dg=>(qu.mp dg).elim (hg g)<|hu g
    have zu:∀x,x<n->zE n st fi (q.1++u) x=0:=λx hx=>by
     rw[jR];exact LX u _ z0 x hx
    rw[uN (q.1++u) fi fi' (jn n fi fi') (λ_ _=>rfl) x hx];unfold jn;by_cases y:x<n
    ·rw[qj y];exact zu x y
    ·rw[qm y,k.rowS _ hgu (x - n) (by omega),zb n (g:=λ_=>0) λa ha=>by rw[zu a ha,ki],zT]
   refine⟨1,λ_=>⟨⟨by decide,qK (show 1<2 ^ 1 by decide) (qT (by decide)<|by decide),qK (show 1<2 ^ 1 by decide)<|qT (by decide)<|by decide⟩,λu hu hl x hx=>?_⟩⟩;rw[key u hu x hx,j0 u hu x hx,hJ (q.1++u) (λg dg=>(qu.mp dg).elim (hg g)<|hu g) (by rw[qz];exact hl) x hx,j0 u hu x hx];grind
 let cf:List Nat×(Nat->Int)->Rat:=λq=>Classical.choose<|mult q
 have Cw:∀q∈L,Lz 1718 104 (cf q)/\∀u:List Nat,(∀g∈u,g<s)->q.1.length+u.length<=10->∀x,x<n+r->zE (n+r) (y4 n st st') (rt q.2) u x=cf q*ext n S (rt<|zr<|q.1++u) x:=λq hq=>Classical.choose_spec (mult q) hq
 let W:List (Rat×(Nat->Int)):=L.map λq=>(cf q,zr q.1)
 have hW:∀p∈W,Lz 1718 104 p.1/\∀x,x<n->(p.2 x).natAbs<=2 ^ 103:=λp hp=>by
  obtain⟨q,hq,rfl⟩:=qE.mp hp;obtain⟨l9,hg⟩:=lens q hq;exact⟨(Cw q hq).1,λx hx=>(hz q.1 hg (by omega) x hx).2⟩
 have lL:L.length<=n+r:=w.len;have gK:Gk (n+r) (W.map λp=>rf n S (p.1,rt p.2)):=zc.gk W hW (by rw[qf];omega)
 have gJ:∀(p:Rat×(Nat->Int)) (y:Q1x),Lz 1718 104 p.1->(∀x,x<n->(p.2 x).natAbs<=2 ^ 103)->(∀x,x<n+r->rf n S (p.1,rt p.2) x=y x)->Gj (n+r) (W.map λp=>rf n S (p.1,rt p.2)) y:=λp y h1 h2 h3=>by
  refine⟨rf n S (p.1,rt p.2),h3,?_⟩
  have:=zc.gk (W++[p]) (λq hq=>by
   rcases qu.mp hq with y|y
   ·exact hW q y
   ·rw[qY.mp y];exact⟨h1,h2⟩) (by rw[qz,qf,kJ];omega)
  rwa[q9] at this
 have pt:∀q∈L,∀x,x<n+r->rf n S (cf q,rt<|zr q.1) x=(q.2 x:Rat):=λq hq x hx=>by
  obtain⟨l9,_⟩:=lens q hq
  have:=(Cw q hq).2 [] (λg hg=>by cases hg) (by show q.1.length+0<=10;omega) x hx;rw[km] at this;exact this.symm
 have eK:zD (n+r) (W.map λp=>rf n S (p.1,rt p.2))=zD (n+r) (KL L):=by
  show((L.map λq=>(cf q,zr q.1)).map λp=>rf n S (p.1,rt p.2)).map (yi<|n+r)=(L.map λq=>rt q.2).map (yi<|n+r)
  rw[kb,kb,kb];refine kf λq hq=>qM PyData.list<|kf λx hx=>?_
  exact qM fr<|pt q hq x<|qx.mp hx
 have eb:=zcB (n:=n) (m:=r) (s:=s) (fi:=fi) (gi:=fi') (st:=st) (su:=st') (la:=la) (lb:=la') (by omega) (by omega) z.hs;have oE:(λi=>la' i*(-1))=λi=>-(la' i):=by funext i;grind
 rw[<-oE] at eb;have cW:Sw (n+r) s (jn n fi fi') (y4 n st st') (jn n la λi=>la' i*(-1)) (W.map λp=>rf n S (p.1,rt p.2)):=by
  show Sw _ _ _ _ _ ((L.map λq=>(cf q,zr q.1)).map λp=>rf n S (p.1,rt p.2))
  rw[kb];exact Sw.congr (g:=λq=>rt q.2) (λq hq x hx=>pt q hq x hx)<|w.sw hs0
 have L4:∀R∈(W.map λp=>rf n S (p.1,rt p.2)),∃q∈L,∀x,x<n+r->R x=(q.2 x:Rat):=λR hR=>by
  obtain⟨p,hp,rfl⟩:=qE.mp hR;obtain⟨q,hq,rfl⟩:=qE.mp hp;exact⟨q,hq,pt q hq⟩
 have A6:∀{R:Q1x} {q:List Nat×(Nat->Int)},(∀x,x<n+r->R x=(q.2 x:Rat))->yi (n+r) R=qd false (n+r) (rt q.2):=λh=>qM PyData.list<|kf λx hx=>qM fr<|h x<|qx.mp hx
 obtain⟨p1,q1,p2,q2⟩:=k.p;obtain⟨kr,kn⟩:=k.le;have N4:n+r<=2 ^ 4:=by omega
 have lt:∀{x y w:Nat},x<=2 ^ y->y<w->x<2 ^ w:=λh h'=>qJ h<|kO (by decide) h'
 have ly:D1<=2 ^ dw:=qr q1 z.e1;have oz:D2<=2 ^ cN:=qr q2 z.e2
 have s9:D1*6 ^ 9<=2 ^ 360:=ya ly (wQ 9) (by omega);have s7:D2*(D1*6 ^ 7)<=2 ^ 1965:=ya oz (ya ly (wQ 7)<|qe<|dw+3*7) (by omega)
 have gd:Gz (n+r) 1718 1992 3720 1 (2 ^ (cN+106)) (D1*6 ^ 9) (2 ^ 399):=⟨⟨qK (show 1<2 ^ 1 by decide) (qT (by decide)<|by decide),lt (qe<|2 ^ (cN+106))<|by omega⟩,⟨lt s9 (by decide),lt (qe<|2 ^ 399)<|by decide⟩,⟨by decide,qU p1<|zV 9⟩,by decide,by rw[mI];exact lt s9 (by decide),lt (ya N4 (ya (qe<|2 ^ (cN+106)) (qe<|2 ^ 399)<|qe<|cN+106+399)<|qe<|4+(cN+106+399)) (by omega),by decide⟩;have gl:Gz (n+r) 1718 1992 3720 1 (2 ^ (cN+106)) (D2*(D1*6 ^ 7)) (2 ^ 1991):=⟨gd.r,⟨lt s7 (by decide),lt (qe<|2 ^ 1991)<|by decide⟩,⟨by decide,qU p2<|qU p1<|zV 7⟩,by decide,by rw[mI];exact lt s7 (by decide),lt (ya N4 (ya (qe<|2 ^ (cN+106)) (qe<|2 ^ 1991)<|qe<|cN+106+1991)<|qe<|4+(cN+106+1991)) (by omega),by decide⟩
 obtain⟨c,e3,i3⟩:=zd1 eb (by omega) z.hs gK
  (gJ (((6 ^ 14:Nat):Rat)⁻¹,zr []) _ (LZ A4 (by decide)<|by decide) (λx hx=>(hz [] (λg hg=>by cases hg) (kx _) x hx).2) λx hx=>by
   show((6 ^ 14:Nat):Rat)⁻¹*ext n S (rt<|zr []) x=jn n fi fi' x
   rw[hJ [] (λg hg=>by cases hg) (kx _) x hx];show _*(jn n fi fi' x*_)=_
   have:=kR _ A5;generalize ((6 ^ 14:Nat):Rat)=t at this;grind)
  (λR hR g hg=>by
   obtain⟨p,hp,rfl⟩:=qE.mp hR;obtain⟨q,hq,rfl⟩:=qE.mp hp;obtain⟨l9,hg9⟩:=lens q hq;have L5:∀x∈[g],x<s:=λx hx=>by rw[qY.mp hx];exact hg
   refine gJ (cf q,zr<|q.1++[g]) _ (Cw q hq).1 (λx hx=>(hz (q.1++[g]) (λy hy=>(qu.mp hy).elim (hg9 y)<|L5 y) (by rw[qz];exact mW l9) x hx).2) λx hx=>?_
   have:=(Cw q hq).2 [g] L5 (by show q.1.length+1<=10;omega) x hx;refine this.symm.trans ?_;show sumTo (n+r) (λa=>(q.2 a:Rat)*y4 n st st' g a x)=sumTo (n+r) λa=>rf n S (cf q,rt<|zr q.1) a*y4 n st st' g a x
   exact zb _ λa ha=>by rw[pt q hq a ha])
  (λR hR=>by
   obtain⟨q,hq,e⟩:=L4 R hR;rw[A6 e,zb (n+r) λi hi=>by rw[e i hi]];exact gd.dot (t:=false) (u:=true) (by omega) (λi hi=>ZD<|iA q hq i hi)<|z.laJ k)
  (λR hR g hg=>by
   obtain⟨q,hq,e⟩:=L4 R hR;rw[A6 e,show led (n+r) R (y4 n st st' g)=led (n+r) (rt q.2) (y4 n st st' g) from funext λb=>zb _ λi hi=>by rw[e i hi]];exact LH gl (by omega) (λi hi=>ZD<|iA q hq i hi) λx y hx hy=>z.stJ k g x y hg hx hy)
 rw[i3.mpr cW] at e3;exact⟨_,by rw[eK];exact eR,e3⟩
end
end L2.Fu
namespace WD.DT
open WS WD
def zgM{r:Nat}{c:Q2x}(hc:∀y:Nat->Rat,(∀j,j<r->dq r y (c j)=0)->∀a,a<r->y a=0)(v:Q1x):∃w:Nat->Rat,∀a,a<r->v a=sumTo r λj=>w j*c j a:=by
 obtain⟨w,⟨i,hi,hw⟩,hz⟩:=uI (k:=r+1) ((List.range r).map λa=>λj=>if j<r then c j a else v a) (by rw[qf,qw];omega);have key:∀a,a<r->sumTo r (λj=>w j*c j a)+w r*v a=0:=λa ha=>by
  have h:=hz _<|qE.mpr ⟨a,qx.mpr ha,rfl⟩;have h2:sumTo r (λj=>w j*if j<r then c j a else v a)+w r*(if r<r then c r a else v a)=0:=h
  rw[qm<|gp r,zb r (g:=λj=>w j*c j a) λj hj=>by rw[qj hj]] at h2;exact h2
 by_cases hr:w r=0
 ·have L6:i<r:=Nat.lt_of_le_of_ne (by omega) λz=>hw<|z▸hr
  obtain⟨y,⟨b,hb,hy⟩,hyz⟩:=uI (k:=r) (((List.range r).filter λj=>decide (j≠i)).map c) (by
   rw[qf];refine Nat.lt_of_lt_of_eq ?_<|qw (n:=r);exact gD.mpr ⟨i,qx.mpr L6,by simp⟩)
  have h0:∀j,j<r->j≠i->dq r y (c j)=0:=λj hj cQ=>hyz _<|qE.mpr ⟨j,kl.mpr ⟨qx.mpr hj,by simpa using cQ⟩,rfl⟩
  have e1:sumTo r (λa=>y a*sumTo r λj=>w j*c j a)=0:=by
   rw[zb r (g:=λ_=>0) λa ha=>by have:=key a ha;rw[hr,ki,Rat.add_zero] at this;rw[this,kI],zT]
  have e2:sumTo r (λa=>y a*sumTo r λj=>w j*c j a)=sumTo r λj=>w j*dq r y (c j):=by
   rw[zb r (g:=λa=>sumTo r λj=>y a*(w j*c j a)) λa _=>by rw[kg,<-zC];exact zb r λj _=>kg _ _,yu];refine zb r λj _=>?_
   show _=w j*sumTo r λa=>y a*c j a
   rw[kg,<-zC];exact zb r λa _=>by grind
  rw[e1,yf (λj=>w j*dq r y (c j)) r L6 λj hj cQ=>by rw[h0 j hj cQ,kI]] at e2;have e3:dq r y (c i)=0:=by
   rcases kh.mp e2.symm with h|h
   ·exact absurd h hw
   ·exact h
  exact absurd (hc y (λj hj=>by
   by_cases q:j=i
   ·rw[q];exact e3
   ·exact h0 j hj q) b hb) hy
 ·refine⟨λj=>w j*(-(w r)⁻¹),λa ha=>?_⟩;have h:=key a ha;have e:sumTo r (λj=>w j*(-(w r)⁻¹)*c j a)=sumTo r (λj=>w j*c j a)*(-(w r)⁻¹):=by
   rw[<-zC];exact zb r λj _=>by grind
  rw[e];have h1:w r*(w r)⁻¹=1:=kR _ hr;grind
theorem L7:∀m k,rk m k []=0
 |0,_=>rfl
 |m+1,k=>L7 m<|k+1
def zfm{r:Nat}{b c:Q2x}(hb:∀y:Nat->Rat,(∀j,j<r->dq r y (b j)=0)->∀a,a<r->y a=0)(hc:∀y:Nat->Rat,(∀j,j<r->dq r y (c j)=0)->∀a,a<r->y a=0){t:Q2x}(ht:∀i j,i<r->j<r->t i j=dq r (b i) (c j)):rk r 0 ((List.range r).map t)=r:=by
 have key:∀(w:Q1x)(v:Q1x),(∀a,a<r->v a=sumTo r λj=>w j*c j a)->∀i,i<r->dq r w (t i)=dq r v (b i):=λw v h i hi=>by
  have e1:dq r w (t i)=sumTo r λj=>sumTo r λa=>w j*c j a*b i a:=zb r λj hj=>by
   rw[ht i j hi hj];show w j*sumTo r (λa=>b i a*c j a)=_
   rw[kg,<-zC];exact zb r λa _=>by grind
  rw[e1,yu];refine zb r λa ha=>?_
  rw[h a ha,<-zC]
 have hm:∀m,m<=r->rk r 0 ((List.range m).map t)=m:=λm=>by
  induction m with
  |zero=>
   intro _;show rk r 0 []=0
   exact L7 r 0
  |succ m ih=>
   intro hmr;rw[gM,q9,gH,pJ,IX,ih (by omega),qm];intro hq;obtain⟨v,⟨i,hi,hv⟩,hvz⟩:=uI (k:=r) (((List.range r).filter λj=>decide (j≠m)).map b) (by
    rw[qf];refine Nat.lt_of_lt_of_eq ?_<|qw (n:=r);exact gD.mpr ⟨m,qx.mpr (by omega),by simp⟩)
   have h0:∀j,j<r->j≠m->dq r v (b j)=0:=λj hj cQ=>hvz _<|qE.mpr ⟨j,kl.mpr ⟨qx.mpr hj,by simpa using cQ⟩,rfl⟩
   obtain⟨w,hw⟩:=zgM hc v;have e:=hq w λl hl=>by
    obtain⟨j,hj,rfl⟩:=qE.mp hl;have hj:=qx.mp hj;rw[key w v hw j<|by omega];exact h0 j (by omega) (by omega)
   rw[key w v hw m<|by omega] at e;exact hv (hb v (λj hj=>by
    by_cases q:j=m
    ·rw[q];exact e
    ·exact h0 j hj q) i hi)
 exact hm r (qe r)
end WD.DT
namespace L2.Fu
open PySem WS WD WD.DT
noncomputable def rJ(e:Nat):Nat:=if e=1 then 2 ^ 348 else 2 ^ 1611
def L8:rJ 1=2 ^ 348:=qj rfl
def L9:rJ (2 ^ 333)=2 ^ 1611:=by
 have h:¬((2:Nat) ^ 333=1):=mN (Nat.one_lt_two_pow<|by decide);unfold rJ;rw[qm h]
def znK(hn:n<=6)(hs:s<=42)(hs0:0<s)(hst:∀g a b,g<s->a<n->b<n->bT (6 ^ 7) (2 ^ 41) (st g a b))(hrow:∀u:List Nat,(∀g∈u,g<s)->u.length<=n - 1->∀x,x<n->bT (6 ^ 9) (2 ^ 63) (zE n st fi u x))(hcol:∀u:List Nat,(∀g∈u,g<s)->u.length<=n - 1->∀x,x<n->bT (6 ^ 9) (2 ^ 63) (jM n st la u x)):AX n s n st fi la (6 ^ 7) (2 ^ 41) (6 ^ 9) (2 ^ 63) (6 ^ 9) (2 ^ 63) (2 ^ 333) rJ:=by
 have n3:n<=2 ^ 3:=by omega
 have n4:n+1<=2 ^ 3:=by omega
 have le:∀x,x<=3192->(2:Nat) ^ x<=2 ^ 3192:=λx hx=>qT (by decide) hx
 have b1:n*2 ^ 63<=2 ^ 66:=ya n3 (qe _)<|qe _;have mono:∀x j i:Nat,j<=i->x*j<=x*i:=λx j i h=>kW x h
 refine⟨by omega,hs,hs0,hst,hrow,hcol,λL T F C d a h=>?_,
  ⟨zV 7,zV 9,zV 9,Nat.one_le_two_pow⟩,qr (wQ 9) (le _<|by omega),le _ (by omega),?_,?_,?_,?_,le _ (by omega),le _ (by omega),λj hj=>?_,λj hj _=>?_,Sz.wG (by omega),λr e he _=>?_,λe=>?_,λe=>?_⟩
 ·have l1:=h.lenT;have l2:=h.sp.few
  rw[qf] at l1;omega
 ·exact ya (qe _) (wQ 7) (by omega)
 ·exact ya n3 (ya (qe _) (qe _)<|qe _) (by omega)
 ·exact ya (qe _) (wQ 9) (by omega)
 ·exact ya n3 (ya (qe _) (qe _)<|qe _) (by omega)
 ·exact sY (wG b1<|mono _ _ 6<|by omega) (by omega)
 ·exact ya n4 (wG b1<|mono _ _ 5<|by omega) (by omega)
 ·rcases he with⟨rfl,rfl⟩|⟨hr,rfl⟩
  ·have b2:r*(r*(1*2 ^ 63))<=2 ^ 69:=by
    rw[mI];exact ya n3 b1 (by omega)
   refine⟨λj hj=>sY (wG b2<|mono _ _ 6<|by omega) (by omega),λj hj=>?_⟩;rw[L8];exact ya n4 (wG b2<|mono _ _ 5<|by omega) (by omega)
  ·have r5:r<=5:=by clear b1 n3 n4 le;omega
   have r3:r+1<=2 ^ 3:=by clear b1 n3 n4 le;omega
   have r4:∀j,j<r->j<=4:=λj hj=>by clear b1 n3 n4 le;omega
   have b2:r*(n*(2 ^ 333*2 ^ 63))<=2 ^ 402:=ya (qr (mJ r) r3) (ya n3 (ya (qe _) (qe _)<|qe _)<|qe _) (by decide);refine⟨λj hj=>sY (wG b2<|mono _ _ 5<|qr hj r5) (by decide),λj hj=>?_⟩;rw[L9];exact ya r3 (wG b2<|mono _ _ 4<|r4 j hj) (by decide)
 ·unfold rJ;split
  ·exact Sz.wG (by omega)
  ·exact Sz.wG (by omega)
 ·unfold rJ;split<;>exact Nat.one_le_two_pow
def Wb(hF:∀a,a<n->Bq 4000 (fi a))(hS:∀g a b,g<s->a<n->b<n->Bq 4000 (st g a b))(hL:∀a,a<n->Bq 4000 (la a)):jv [zt n s fi st la,.int (n:Int),.int (s:Int)]=some (.bool true):=by
 have Fn:∀m:Nat,cM (.int (m:Int)) (.int (m:Int))=some (.bool false):=λm=>by rw[jW,qG rfl];rfl
 obtain⟨bX,e1,o,o',rfl⟩:=vm (ds:=(List.range s).map λg=>yG n<|st g) (it:=yc<|bM bS af<|cst<|.int 1) (bd:=bN 3)
  (b:=sq (cD (d6 (xP<|zy<|dI (Ue "tuple")<|gv 3)<|zy<|bM cM (zi yh<|aC aO a0)<|gv 1) (retS<|cst<|.bool false) s0)<|je (yc<|gv 3) (bN 4)<|cD be (retS<|cst<|.bool false) s0)
  (ρ0:=[.pu<|zt n s fi st la,.pu<|.int (n:Int),.pu<|.int (s:Int),.no,.no]) (λi ρ=>∃o o',ρ=[.pu<|zt n s fi st la,.pu<|.int (n:Int),.pu<|.int (s:Int),o,o']) (vL<|(zg rfl rfl).trans jB) ⟨.no,.no,rfl⟩
  λi d ρ hd ⟨o,o',e⟩=>by
   subst e;rw[qp] at hd;obtain⟨g,hg,rfl⟩:=map_some hd;have iJ:g<s:=qx.mp<|qI hg;obtain⟨ρ2,e2,o2,rfl⟩:=vm (ds:=(List.range n).map λa=>yq n<|st g a) (it:=yc<|gv 3) (bd:=bN 4) (b:=cD be (retS<|cst<|.bool false) s0)
    (ρ0:=[.pu<|zt n s fi st la,.pu<|.int (n:Int),.pu<|.int (s:Int),.pu<|yG n<|st g,o']) (λi ρ=>∃o',ρ=[.pu<|zt n s fi st la,.pu<|.int (n:Int),.pu<|.int (s:Int),.pu<|yG n<|st g,o']) rfl ⟨o',rfl⟩
    λi d ρ hd ⟨o,e⟩=>by
     subst e;rw[qp] at hd;obtain⟨a,ha,rfl⟩:=map_some hd;have han:a<n:=qx.mp<|qI ha;exact⟨_,_,rfl,(xb<|yF (b:=true)<|zB<|(ze rfl).trans<|jZ λb hb=>hS g a b iJ han hb).trans rfl,.pu<|yq n<|st g a,rfl⟩
   refine⟨_,_,rfl,(zw<|(xb<|vQ (yF (b:=true) rfl)<|zB<|(zg ((ze rfl).trans<|xO n _) rfl).trans<|Fn n).trans rfl).trans e2,.pu<|yG n<|st g,o2,rfl⟩
 refine zM rfl ?_;refine(zw (ρ':=[.pu<|zt n s fi st la,.pu<|.int (n:Int),.pu<|.int (s:Int),.no,.no]) ?_).trans<|(zw (ρ':=[.pu<|zt n s fi st la,.pu<|.int (n:Int),.pu<|.int (s:Int),.no,.no]) ?_).trans<|(zw (ρ':=[.pu<|zt n s fi st la,.pu<|.int (n:Int),.pu<|.int (s:Int),.no,.no]) ?_).trans<|(zw e1).trans<|zG rfl
 ·exact(xb<|vQ (yF (b:=true) rfl)<|vQ (zB<|(zg rfl rfl).trans<|Fn 3)<|yF (b:=true)<|zB<|(HR<|(zg rfl rfl).trans jB).trans rfl).trans rfl
 ·exact(xb<|vQ (yF (b:=true)<|zB<|(ze<|zm ((zg rfl rfl).trans vb) rfl).trans<|jZ hF)<|yF (b:=true)<|zB<|(ze<|zm ((zg rfl rfl).trans w8) rfl).trans<|jZ hL).trans rfl
 ·exact(xb<|zB<|(zg ((ze<|zm ((zg rfl rfl).trans jB) rfl).trans<|xO s _) rfl).trans<|Fn s).trans rfl
section
variable{r D1 D2 dw cN e:Nat}
abbrev Pq(n s:Nat)(st:Q3x)(fi la:Q1x)(r:Nat)(st':Q3x)(fi' la':Q1x)(r1 D1 D2 e E2:Nat)(S:Q2x):Prop:=Pk n s st fi la r st' fi' la' r1 D1 D2 (6 ^ 7) (2 ^ 41) (6 ^ 9) (2 ^ 63) e E2 S
def Ls.yl(z:Ls n s st fi la r1 e E2 dw cN)(k:Pq n s st fi la r st' fi' la' r1 D1 D2 e E2 S):∀u:List Nat,(∀g∈u,g<s)->u.length<=10->∀c,c<r->bT (6 ^ 14*D2) (n*(2 ^ 103*E2)) (zE r st' fi' u c):=λu hg hu c hc=>by
 rw[k.rowS u hg c hc];exact xH (qU (zV 14) k.p.2.2.1) n λa ha=>(z.hrow u hg hu a ha).mul<|k.hS a c hc
def Ls.sz(z:Ls n s st fi la r1 e E2 dw cN)(k:Pq n s st fi la r st' fi' la' r1 D1 D2 e E2 S):6 ^ 14*D2<=2 ^ 1653/\n*(2 ^ 103*E2)<=2 ^ 1717/\D2*(D1*6 ^ 7)<=2 ^ 1965/\n*(E2*(n*(e*2 ^ 41)))<=2 ^ 1991/\D1*6 ^ 9<=2 ^ 360/\n*(e*2 ^ 63)<=2 ^ 399:=by
 obtain⟨p1,q1,p2,q2⟩:=k.p;have n3:n<=2 ^ 3:=qr z.hn (by decide);have up:∀{x a b:Nat},x<=2 ^ a->a<=b->x<=2 ^ b:=λh h'=>qr h<|qT (by decide) h'
 have he:e<=2 ^ 333:=up z.e1 z.b1;have hE:E2<=2 ^ 1611:=up z.e2 z.b2
 have h1:=qr q1 he;have h2:=qr q2 hE
 exact⟨ya (wQ 14) h2 (by decide),ya n3 (ya (qe _) hE<|qe _) (by decide),ya h2 (ya h1 (wQ 7)<|qe _) (by decide),ya n3 (ya hE (ya n3 (ya he (qe _)<|qe _)<|qe _)<|qe _) (by decide),ya h1 (wQ 9) (by decide),ya n3 (ya he (qe _)<|qe _)<|by decide⟩
def cZ{x a:Nat}(h:x<=2 ^ a)(h':a<b):x<2 ^ b:=qJ h<|kO (by decide) h'
def Pk.hla(k:Pq n s st fi la r st' fi' la' r1 D1 D2 e E2 S):∀c,c<r->bT (D1*6 ^ 9) (n*(e*2 ^ 63)) (la' c):=λc hc=>k.hcol [] (λg hg=>by cases hg) (kx _) c hc
def Ls.isM(z:Ls n s st fi la r1 e E2 dw cN)(k:Pq n s st fi la r st' fi' la' r1 D1 D2 e E2 S):jv [zt r s fi' st' la',.int (r:Int),.int (s:Int)]=some (.bool true):=by
 obtain⟨a1,a2,a3,a4,a5,a6⟩:=z.sz k;exact Wb (λa ha=>UE (z.yl k [] (λg hg=>by cases hg) (kx _) a ha) (cZ a1<|by decide)<|cZ a2<|by decide) (λg a b hg ha hb=>UE (k.hst g a b hg ha hb) (cZ a3<|by decide)<|cZ a4<|by decide) λa ha=>UE (k.hla a ha) (cZ a5<|by decide) (cZ a6<|by decide)
def Ls.wtL(z:Ls n s st fi la r1 e E2 dw cN)(k:Pq n s st fi la r st' fi' la' r1 D1 D2 e E2 S)(hg:∀g∈ws,g<s)(hl:ws.length<=10):xY [zt r s fi' st' la',zO ws]=some (fr<|wt n st fi la ws):=by
 obtain⟨a1,a2,a3,a4,a5,a6⟩:=z.sz k;obtain⟨p1,q1,p2,q2⟩:=k.p;have r3:r<=2 ^ 3:=by have:=k.le;have:=z.hn;omega
 have p3:=qU (zV 14) p2;rw[<-k.wts ws hg];refine Vz (a:=1720) (b:=2000) (c:=3800) ⟨⟨cZ a1 (by decide),cZ a2<|by decide⟩,⟨cZ a3 (by decide),cZ a4<|by decide⟩,⟨p3,qU p2<|qU p1<|zV 7⟩,by decide,cZ (ya a1 a3<|qe _) (by decide),cZ (ya r3 (ya a2 a4<|qe _)<|qe _) (by decide),by decide⟩
  ⟨⟨cZ a1 (by decide),cZ a2<|by decide⟩,⟨cZ a5 (by decide),cZ a6<|by decide⟩,⟨p3,qU p1<|zV 9⟩,by decide,cZ (ya a1 a5<|qe _) (by decide),cZ (ya r3 (ya a2 a6<|qe _)<|qe _) (by decide),by decide⟩ (by have:=k.le;have:=z.hn;omega) (λu hu Fo x hx=>z.yl k u hu (qr Fo hl) x hx) k.hst k.hla hg
def Ls.wtM(z:Ls n s st fi la r1 e E2 dw cN)(hg:∀g∈ws,g<s)(hl:ws.length<=10):xY [zt n s fi st la,zO ws]=some (fr<|wt n st fi la ws):=by
 have n3:n<=2 ^ 3:=qr z.hn (by decide);have q:∀x,(2:Nat) ^ x<=2 ^ x:=λx=>qe _
 refine Vz (a:=200) (b:=200) (c:=400) ⟨⟨cZ (wQ 14) (by decide),cZ (q 103)<|by decide⟩,⟨cZ (wQ 7) (by decide),cZ (q 41)<|by decide⟩,⟨zV 14,zV 7⟩,by decide,cZ (ya (wQ 14) (wQ 7)<|qe _) (by decide),cZ (ya n3 (ya (q 103) (q 41)<|qe _)<|qe _) (by decide),by decide⟩
  ⟨⟨cZ (wQ 14) (by decide),cZ (q 103)<|by decide⟩,⟨cZ (wQ 9) (by decide),cZ (q 63)<|by decide⟩,⟨zV 14,zV 9⟩,by decide,cZ (ya (wQ 14) (wQ 9)<|qe _) (by decide),cZ (ya n3 (ya (q 103) (q 63)<|qe _)<|qe _) (by decide),by decide⟩ (by have:=z.hn;omega) (λu hu Fo x hx=>z.hrow u hu (qr Fo hl) x hx) z.hst z.hla hg
def Ma{C:LZr}{d:Int}{a:Nat}(iv:IV r s st' fi' L T F C d a)(hs0:0<s)(hd:(queue s (L.map (·.1))).length<=a\/F=[])(hl:∀{n':Nat} {su:Q3x} {gi lb:Q1x},(∀w:List Nat,(∀g∈w,g<s)->wt n' su gi lb w=wt r st' fi' la' w)->r<=n'):L.length=r/\∀y:Nat->Rat,(∀q∈L,dq r y (zE r st' fi' q.1)=0)->∀x,x<r->y x=0:=by
 have h1:=hl (iv.rs.mn (la:=la') hs0 hd<|bb T).wt;obtain⟨l1,l2,l3⟩:=iv.lens;have hF:F=[]:=pS (by omega)
 refine⟨by omega,λy hy=>iv.rs.sp.ind y (λx hx hn=>?_)<|(iv.rs.orth y).mp λv hv=>?_⟩
 ·have:=(iv.rs.sp.mem x).mpr hx;rw[hF,km] at this;exact absurd this hn
 ·obtain⟨q,hq,rfl⟩:=qE.mp hv;exact hy q hq
def Mb{C:LZr}{d:Int}{a:Nat}(h:AN r s st' fi' L T F C d a):L.length<=r:=by
 have l1:=h.lenT;have l2:=h.sp.few
 rw[qf] at l1;omega
def Ls.reach(z:Ls n s st fi la r1 e E2 dw cN)(k:Pq n s st fi la r st' fi' la' r1 D1 D2 e E2 S)(h4:r<=4):∃r0 L T F C d a,ym CS [zt r s fi' st' la']=some (RO CS r s st' r0 L T F C d a)/\IV r s st' fi' L T F C d a/\L.length=r/\∀y:Nat->Rat,(∀q∈L,dq r y (zE r st' fi' q.1)=0)->∀x,x<r->y x=0:=by
 obtain⟨a1,a2,a3,a4,a5,a6⟩:=z.sz k;obtain⟨p1,q1,p2,q2⟩:=k.p;have r2:r<=2 ^ 2:=h4;have le:∀{x a:Nat},x<=2 ^ a->a<=3192->x<=2 ^ 3192:=λh h'=>qr h<|qT (by decide) h'
 have A4:=qU (zV 14) p2;obtain⟨r0,L,T,F,C,d,a,e0,iv,hd⟩:=wM (CS:=CS) (la:=la') (k0:=6 ^ 14*D2) (B:=n*(2 ^ 103*E2)) (k:=D2*(D1*6 ^ 7)) (m:=r) (n:=r) (s:=s) (st:=st') (fi:=fi')
  ⟨by omega,z.hs,z.hs0,λg x y hg hx hy=>(k.hst g x y hg hx hy).mono (le a4<|by decide),qU p2<|qU p1<|zV 7,le a3 (by decide),qr a2 (qT (by decide)<|by decide),λj hj=>sY (wG (ya r2 a2<|qe _)<|kW _<|qr hj h4) (by decide),λu hg hu=>⟨((6 ^ 14*D2:Nat):Rat),λx=>x8 (zE r st' fi' u x)<|6 ^ 14*D2,y0 A4,λx hx=>vX<|z.yl k u hg (by omega) x hx⟩,λL T F C d a h=>Mb h⟩
  (λi hi=>(z.yl k [] (λg hg=>by cases hg) (kx _) i hi).mono<|le a2<|by decide) A4 (le a1<|by decide)
 obtain⟨f1,f2⟩:=Ma (la':=la') iv z.hs0 hd λhw=>k.least λw hg=>(hw w hg).trans<|k.wts w hg
 exact⟨r0,L,T,F,C,d,a,e0,iv,f1,f2⟩
def Ls.zm6(z:Ls n s st fi la r1 e E2 dw cN)(k:Pq n s st fi la r st' fi' la' r1 D1 D2 e E2 S)(h4:r<=4):∃r0 L T F C d a,ym CS [zt r s la' (λg x y=>st' g y x) fi']=some (RO CS r s (λg x y=>st' g y x) r0 L T F C d a)/\IV r s (λg x y=>st' g y x) la' L T F C d a/\L.length=r/\∀y:Nat->Rat,(∀q∈L,dq r y (zE r (λg x y=>st' g y x) la' q.1)=0)->∀x,x<r->y x=0:=by
 obtain⟨a1,a2,a3,a4,a5,a6⟩:=z.sz k;obtain⟨p1,q1,p2,q2⟩:=k.p;have r2:r<=2 ^ 2:=h4;have kn:=k.le
 have le:∀{x a:Nat},x<=2 ^ a->a<=3192->x<=2 ^ 3192:=λh h'=>qr h<|qT (by decide) h'
 have p9:=qU p1<|zV 9;obtain⟨r0,L,T,F,C,d,a,e0,iv,hd⟩:=wM (CS:=CS) (la:=fi') (k0:=D1*6 ^ 9) (B:=n*(e*2 ^ 63)) (k:=D2*(D1*6 ^ 7)) (m:=r) (n:=r) (s:=s) (st:=λg x y=>st' g y x) (fi:=la')
  ⟨by omega,z.hs,z.hs0,λg x y hg hx hy=>(k.hst g y x hg hy hx).mono (le a4<|by decide),qU p2<|qU p1<|zV 7,le a3 (by decide),qr a6 (qT (by decide)<|by decide),λj hj=>sY (wG (ya r2 a6<|qe _)<|kW _<|qr hj h4) (by decide),λu hg hu=>⟨((D1*6 ^ 9:Nat):Rat),λx=>x8 (zE r (λg x y=>st' g y x) la' u x)<|D1*6 ^ 9,y0 p9,λx hx=>vX<|k.hcol u hg (by omega) x hx⟩,λL T F C d a h=>Mb h⟩
  (λi hi=>(k.hla i hi).mono<|le a6<|by decide) p9 (le a5<|by decide)
 obtain⟨f1,f2⟩:=Ma (la':=fi') iv z.hs0 hd λ{n' su gi lb} hw=>k.least (n':=n') (su:=λg x y=>su g y x) (gi:=lb) (lb:=gi) λw hg=>by
  have hr:∀g∈w.reverse,g<s:=λg dg=>hg g<|kd.mp dg
  rw[Ys,hw _ hr,Ys,kP,k.wts w hg]
 exact⟨r0,L,T,F,C,d,a,e0,iv,f1,f2⟩
end
end L2.Fu
namespace K12
open PySem PySem.Spec PyProof.Rows L2 L2.Fu
def zcN(CS:AdX):bW:=(sq (zW 1<|zi (jL CS)<|aC af a0)<|sq (zW 2<|yt<|xf wF<|aC (AE "words"<|WE (ym CS)<|aC ag a0) a0)<|sq (x6 3<|zQ 1 [] (yc<|AE "words"<|WE (ym CS)<|aC (zi Jw<|aC ag a0) a0) aq<|dI Cb<|gv 0)<|lY 3<|retS<|xm<|aC am<|aC aO a0)
def JJ(CS:AdX):ck:=cw 4 1<|zcN CS
abbrev aF:=d6 (xP<|zy<|zi jq<|aC bH a0)<|xP<|zy<|Cc HE ltI ak bH<|gv 2
def W2:bW:=(sq (cD (d6 (xP<|zy<|dI (Ue "list")<|gv 0)<|zy<|bM cM ax<|gv 1) (retS<|cst<|.bool false) s0)<|sq (je aZ (bN 3)<|sq (cD (d6 (xP<|zy<|dI (Ue "tuple")<|gv 3)<|zy<|bM fW (zi yh<|aC aO a0)<|cst<|.int 60) (retS<|cst<|.bool false) s0)<|je (yc<|gv 3) (bN 4)<|cD aF (retS<|cst<|.bool false) s0)<|retS<|cst<|.bool true)
def xG:ck:=cw 5 3 W2
abbrev aD:=zW 2<|zi Ua<|aC am<|aC (bM yJ (zi yo<|aC af<|aC aM a0)<|cst<|.int 2)<|aC (bM xB (bM yJ (zi yo<|aC af<|aC ak a0)<|cst<|.int 15)<|cst<|.int 3) a0
abbrev aU:=bM xB (zi yo<|aC af<|aC aM a0)<|cst<|.int 2
def Md(CS:AdX):bW:=(sq (zW 1<|bM xN aj<|bM xB (zi yo<|aC af<|aC ak a0)<|cst<|.int 3)<|sq (zW 2<|zi jb<|aC (zi yo<|aC af<|aC aj a0)<|aC (bM xB (bM yJ (zi yo<|aC af<|aC ak a0)<|cst<|.int 3)<|cst<|.int 5)<|aC ag a0)<|sq (cD (zy<|bM dA aU<|cst<|.int 1) aD s0)<|sq (zW 3<|zi UD<|aC (zi yo<|aC af<|aC (cst<|.int 3) a0)<|aC ag<|aC (cst<|.int 8) a0)<|sq (zW 4<|zi (EE CS)<|aC am a0)<|sq (zW 5<|zi (jL CS)<|aC am a0)<|sq (cD (d6 (xP<|zy<|zi jq<|aC bH a0)<|d6 (zy<|bM fW bH<|zi yh<|aC (bM bS am<|cst<|.int 0) a0)<|xP<|zy<|zi jv<|aC bv<|aC bH<|aC ag a0) (retS<|cst<|.bool false) s0)<|sq (zW 6<|zi (wo CS)<|aC am<|aC bv a0)<|sq (cD (d6 (zy<|bM cM (zi xY<|aC bv<|aC aO a0)<|zi xY<|aC am<|aC aO a0)<|xP<|zy<|dI (Ue "list")<|gv 6) (retS<|cst<|.bool false) s0)<|sq (cD (xP<|zy<|zi wY<|aC am<|aC bv<|aC (gv 6) a0) (retS<|cst<|.bool false) s0)<|sq (zW 7<|zi (JJ CS)<|aC am a0)<|sq (cD (d6 (xP<|zy<|dI (Ue "tuple")<|gv 7)<|d6 (zy<|bM cM (zi yh<|aC (gv 7) a0)<|cst<|.int 2)<|xP<|zy<|zi xG<|aC (bM bS (gv 7)<|cst<|.int 0)<|aC bH<|aC ag a0) (retS<|cst<|.bool false) s0)<|sq (cD (xP<|zy<|zi xG<|aC (bM bS (gv 7)<|cst<|.int 1)<|aC bH<|aC ag a0) (retS<|cst<|.bool false) s0)<|sq (x6 8<|zQ 1 [2,7] (yc<|bM bS (gv 7)<|cst<|.int 0) aq<|yt<|zQ 1 [0,1] (yc<|bM bS am<|cst<|.int 1) aq<|zi xY<|aC am<|aC (bM uY ag<|gv 0) a0)<|retS<|bM dA (WX xT<|aC (gb 8) a0)<|gv 4)
def Me(CS:AdX):ck:=cw 9 1 (Md CS)
end K12
namespace K12
open PySem WS WD WD.DT L2 L2.Fu
def zlh(a b:Int):HE (.int a) (.int b)=some (.bool<|decide (a<=b)):=rfl
def zkP(a b:Int):ltI (.int a) (.int b)=some (.bool<|decide (a<b)):=rfl
def zm8{h h':PyData->PyData->Option PyData}{k:RPx}{x y w:PdX}(e1:f ρ=some x)(e2:g ρ=some y)(e3:h x y=some (.bool true))(e4:k ρ=some w)(e5:h' y w=some d):Cc h h' f g k ρ=some d:=by
 unfold Cc;rw[e1,qq,e2,qq,e3,qq];show(k ρ).bind _=_
 rw[e4];exact e5
def Vc{Ws:List (List Nat)}(h:∀w∈Ws,w.length<=60/\∀g∈w,g<s):xG [.list<|Ws.map zO,.int (Ws.length:Int),.int (s:Int)]=some (.bool true):=by
 obtain⟨bX,e1,o,o',rfl⟩:=vm (ds:=Ws.map zO) (it:=yc<|gv 0) (bd:=bN 3)
  (b:=sq (cD (d6 (xP<|zy<|dI (Ue "tuple")<|gv 3)<|zy<|bM fW (zi yh<|aC aO a0)<|cst<|.int 60) (retS<|cst<|.bool false) s0)<|je (yc<|gv 3) (bN 4)<|cD aF (retS<|cst<|.bool false) s0)
  (ρ0:=[.pu<|.list<|Ws.map zO,.pu<|.int (Ws.length:Int),.pu<|.int (s:Int),.no,.no]) (λi ρ=>∃o o',ρ=[.pu<|.list<|Ws.map zO,.pu<|.int (Ws.length:Int),.pu<|.int (s:Int),o,o']) rfl ⟨.no,.no,rfl⟩
  λi d ρ hd ⟨o,o',e⟩=>by
   subst e;rw[qp] at hd;obtain⟨w,hw,rfl⟩:=map_some hd;obtain⟨h1,h2⟩:=h w<|qI hw;obtain⟨ρ2,e2,o2,rfl⟩:=vm (ds:=w.map λ(g:Nat)=>PyData.int (g:Int)) (it:=yc<|gv 3) (bd:=bN 4) (b:=cD aF (retS<|cst<|.bool false) s0)
    (ρ0:=[.pu<|.list<|Ws.map zO,.pu<|.int (Ws.length:Int),.pu<|.int (s:Int),.pu<|zO w,o']) (λi ρ=>∃o',ρ=[.pu<|.list<|Ws.map zO,.pu<|.int (Ws.length:Int),.pu<|.int (s:Int),.pu<|zO w,o']) rfl ⟨o',rfl⟩
    λi d ρ hd ⟨o,e⟩=>by
     subst e;rw[qp] at hd;obtain⟨g,hg,rfl⟩:=map_some hd;have iJ:=h2 g<|qI hg;refine⟨_,_,rfl,(xb<|vQ (yF (b:=true) rfl)<|yF (b:=true)<|zB ?_).trans rfl,.pu<|.int (g:Int),rfl⟩;exact zm8 rfl rfl ((zlh _ _).trans<|by rw[qG<|by omega]) rfl ((zkP _ _).trans<|by rw[qG<|by omega])
   refine⟨_,_,rfl,(zw<|(xb<|vQ (b:=false) (yF (b:=true) rfl)<|zB ?_).trans rfl).trans e2,.pu<|zO w,o2,rfl⟩;show some (PyData.bool<|decide ((((w.map λ(g:Nat)=>PyData.int (g:Int)).length:Nat):Int)>60))=_
   rw[qf,qN<|by omega]
 refine zM rfl ?_;refine(zw (ρ':=[.pu<|.list<|Ws.map zO,.pu<|.int (Ws.length:Int),.pu<|.int (s:Int),.no,.no]) ?_).trans<|(zw e1).trans<|zG rfl;refine(xb<|vQ (b:=false) (yF (b:=true) rfl)<|zB ?_).trans rfl;show cM (.int (((Ws.map zO).length:Nat):Int)) (.int (Ws.length:Int))=_
 rw[qf,jW,qG rfl];rfl
def zis(w:LNt):Cb (zO w)=some (zO w.reverse):=by
 show some (PyData.tuple (w.map λ(g:Nat)=>PyData.int (g:Int)).reverse)=some (.tuple<|w.reverse.map λ(g:Nat)=>PyData.int (g:Int))
 rw[List.map_reverse]
def words_of{C:LZr}{d:Int}{a:Nat}{g:bY}{m:PdX}(hg:g ρ=some [m])(h:ym CS [m]=some (RO CS n s st r0 L T F C d a)):AE "words" (WE (ym CS) g) ρ=some (.list<|L.map λq=>zO q.1):=by
 unfold AE WE;rw[hg,qq,h];rfl
def zbX{r:Nat}{x:PdX}{r0':Z1x}{L':WR}{T' F':LNt}{C C':LZr}{d d':Int}{a a':Nat}(hr:r<=42)(hs:s<=42)(e:jL CS [x]=some (zt r s fi' st' la'))(e1:ym CS [zt r s fi' st' la']=some (RO CS r s st' r0 L T F C d a))(e2:ym CS [zt r s la' (λg x y=>st' g y x) fi']=some (RO CS r s (λg x y=>st' g y x) r0' L' T' F' C' d' a'))(hl:L'.length<=42):JJ CS [x]=some (.tuple [.list ((L.map (·.1)).map zO),.list ((L'.map (·.1.reverse)).map zO)]):=by
 refine zM rfl ?_;refine(zw<|zI<|(ze rfl).trans e).trans ?_;refine(zw (zI (d:=.list ((L.map (·.1)).map zO)) ?_)).trans ?_
 ·rw[kb];refine(qM (Option.map PyData.list)<|xc<|zm (words_of rfl e1) rfl).trans ?_;exact qM (Option.map PyData.list)<|show wF [.list<|L.map λq=>zO q.1]=some (L.map λq=>zO q.1) from rfl
 refine(zw (yK (d:=(L'.map (·.1.reverse)).map zO) ?_)).trans ?_
 ·refine(zS (xs:=L') (e:=λq=>zO q.1) (d:=λq=>zO q.1.reverse) (xV<|words_of ?_ e2) (by omega) λq _=>?_).trans (qM some<|by rw[kb];rfl)
  ·exact zm ((ze rfl).trans<|VJ (by omega)<|by omega) rfl
  ·rw[yr];exact zis q.1
 exact zG rfl
def Fp{α:Type}{L:List α}{x0:α}(h:i<L.length):L.getD i x0=L[i]:=by
 rw[qB,qk h];rfl
def Mf{α β:Type}(L:List α)(x0:α)(f:α->β):L.map f=(List.range L.length).map λi=>f (L.getD i x0):=by
 refine List.ext_getElem (by rw[qf,qf,qw]) λi h1 h2=>?_
 rw[qf] at h1;rw[List.getElem_map,List.getElem_map,px,Fp h1]
def zif{r:Nat}{L':WR}(hn:n<=6)(hr:r<=4)(hrow:∀u:List Nat,(∀g∈u,g<s)->u.length<=10->∀x,x<n->bT (6 ^ 14) (2 ^ 103) (zE n st fi u x))(hla:∀x,x<n->bT (6 ^ 9) (2 ^ 63) (la x))(wts:∀w:List Nat,(∀g∈w,g<s)->wt r st' fi' la' w=wt n st fi la w)(l1:L.length=r)(l2:L'.length=r)(g1:∀q∈L,q.1.length<=r - 1/\∀g∈q.1,g<s)(g2:∀q∈L',q.1.length<=r - 1/\∀g∈q.1,g<s)(f1:∀y:Nat->Rat,(∀q∈L,dq r y (zE r st' fi' q.1)=0)->∀x,x<r->y x=0)(f2:∀y:Nat->Rat,(∀q∈L',dq r y (zE r (λg x y=>st' g y x) la' q.1)=0)->∀x,x<r->y x=0):xT [.list<|L.map λq=>.list<|L'.map λp=>fr<|wt n st fi la<|q.1++p.1.reverse]=some (.int (r:Int)):=by
 have mem:∀(K:WR),K.length=r->∀i,i<r->K.getD i ([],λ_=>0)∈K:=λK h i hi=>by
  rw[Fp<|by omega];exact gu _
 have all:∀(K:WR),K.length=r->∀(P:List Nat×(Nat->Int)->Prop),(∀i,i<r->P (K.getD i ([],λ_=>0)))->∀q∈K,P q:=λK h P hP q hq=>by
  obtain⟨i,hi,rfl⟩:=List.getElem_of_mem hq
  have:=hP i (by omega);rwa [Fp hi] at this
 let q1:Nat->List Nat:=λi=>(L.getD i ([],λ_=>0)).1
 let q2:Nat->List Nat:=λi=>(L'.getD i ([],λ_=>0)).1
 let W:Nat->Nat->Rat:=λi j=>wt n st fi la<|q1 i++(q2 j).reverse
 have gs:∀i j,i<r->j<r->(∀g∈q1 i++(q2 j).reverse,g<s)/\(q1 i++(q2 j).reverse).length<=10:=λi j hi hj=>by
  obtain⟨a1,a2⟩:=g1 _<|mem L l1 i hi;obtain⟨b1,b2⟩:=g2 _<|mem L' l2 j hj;refine⟨λg hg=>?_,?_⟩
  ·rcases qu.mp hg with hg|hg
   ·exact a2 g hg
   ·exact b2 g<|kd.mp hg
  ·rw[qz,kC];have a1:(q1 i).length<=r - 1:=a1;have b1:(q2 j).length<=r - 1:=b1
   omega
 have n3:n<=2 ^ 3:=by omega
 have r2:r<=2 ^ 2:=hr;have Ft:0<6 ^ 14*6 ^ 9:=qU (zV 14)<|zV 9
 have c23:((6 ^ 14*6 ^ 9:Nat):Rat)≠0:=y0 Ft;have hB:∀i j,i<r->j<r->bT (6 ^ 14*6 ^ 9) (2 ^ 169) (W i j):=λi j hi hj=>
  (xH Ft n λa ha=>(hrow _ (gs i j hi hj).1 (gs i j hi hj).2 a ha).mul<|hla a ha).mono (ya n3 (ya (qe _) (qe _)<|qe _)<|by decide)
 let S:Nat->Nat->Rat:=λ_ _=>0
 let t:Nat->Nat->Rat:=λi=>rf r S (((6 ^ 14*6 ^ 9:Nat):Rat)⁻¹,rt λj=>x8 (W i j)<|6 ^ 14*6 ^ 9)
 have ht:∀i j,i<r->j<r->t i j=W i j:=λi j hi hj=>by
  show((6 ^ 14*6 ^ 9:Nat):Rat)⁻¹*(if j<r then ((x8 (W i j) (6 ^ 14*6 ^ 9):Int):Rat) else _)=W i j
  rw[qj hj,(vX<|hB i j hi hj).1]
  have:=Rat.inv_mul_cancel _ c23;grind
 have zc:Zc r (2 ^ 169) 70 70 1 1 685 858 900 S 0:=⟨by omega,λj hj=>cZ (wG (ya r2 (qe _)<|qe _)<|kW _<|qr hj hr) (by decide),
  λj hj=>cZ (ya r2 (ya (ya r2 (wG (ya r2 (qe _)<|qe _)<|kW _<|qr hj hr)<|qe _) (qe _)<|qe _)<|qe _) (by decide),
  λa c _ hc=>absurd hc<|gc c,by rw[mI];exact qT (by decide) (by decide),by rw[nJ];exact cZ (ya r2 (qe _)<|qe _) (by decide),by decide,by decide,by decide,by decide⟩
 have gk:=zc.gk ((List.range r).map λi=>(((6 ^ 14*6 ^ 9:Nat):Rat)⁻¹,λj=>x8 (W i j)<|6 ^ 14*6 ^ 9)) (λp hp=>by
  obtain⟨i,hi,rfl⟩:=qE.mp hp;exact⟨LZ Ft (cZ (ya (wQ 14) (wQ 9)<|qe _)<|by decide) (by decide),λj hj=>(vX<|hB i j (qx.mp hi) hj).2⟩) (by rw[qf,qw];omega)
 rw[kb] at gk;have rk0:rk r 0 ((List.range r).map t)=r:=by
  refine zfm (b:=λi=>zE r st' fi'<|q1 i) (c:=λj=>zE r (λg x y=>st' g y x) la'<|q2 j) (λy hy=>f1 y<|all L l1 _ hy) (λy hy=>f2 y<|all L' l2 _ hy) λi j hi hj=>?_
  rw[ht i j hi hj];show wt n st fi la (q1 i++(q2 j).reverse)=_
  rw[<-wts _ (gs i j hi hj).1,YA,<-xt,kP]
 have e:=UT (show r+0<=42 by omega) gk;refine(show xT _=xT [.list<|zD (r+0)<|(List.range r).map t] from ?_).trans<|e.trans<|qM (λk:Nat=>some<|PyData.int (k:Int)) rk0;refine qM (λl=>xT [.list l]) ?_;rw[Mf L ([],λ_=>0),l1];show _=((List.range r).map t).map (yi<|r+0)
 rw[kb];refine kf λi hi=>?_
 rw[Mf L' ([],λ_=>0),l2];show _=PyData.list ((List.range<|r+0).map λj=>fr<|t i j)
 refine qM PyData.list<|kf λj hj=>?_;rw[ht i j (qx.mp hi)<|qx.mp hj]
def ZA{b e:LNt}(h:b.length+e.length<=100):uY (zO b) (zO e)=some (zO<|b++e):=by
 show(if _ then _ else _)=_
 rw[qj (by rw[qf,qf];omega),<-List.map_append];rfl
def znd(CS:AdX)(ns:List Int):Me CS [.list<|ns.map PyData.int]=some (.bool true):=by
 obtain⟨c0,h0⟩:=wV ns 0;obtain⟨c1,h1⟩:=wV ns 1;obtain⟨c2,h2⟩:=wV ns 2;obtain⟨c3,h3⟩:=wV ns 3;obtain⟨q,hq,eq⟩:=vB c0 (m:=3) (by decide);obtain⟨n0,hn0,en⟩:=vB (c0.fdiv 3) (m:=5) (by decide);obtain⟨more,hm,em⟩:=vB (c0.fdiv 15) (m:=3) (by decide);obtain⟨gi,su,lb,e1,A⟩:=Uu c1 (n:=n0) (s:=1+q) (by omega) (by omega);obtain⟨hi,sv,lc,e2,K,al⟩:=zhd (c2.fdiv 2) (more:=more) (by omega) (by omega) A;obtain⟨ws,e3,hl,hw⟩:=QD c3 (s:=1+q) (m:=8) (by omega) (by decide) (by omega);have step:∃n fi st la t,cD (zy<|bM dA aU<|cst<|.int 1) aD s0
   [.pu<|.list<|ns.map PyData.int,.pu<|.int ((1+q:Nat):Int),.pu<|zt n0 (1+q) gi su lb,.no,.no,.no,.no,.no,.no]=some (.nx [.pu<|.list<|ns.map PyData.int,.pu<|.int ((1+q:Nat):Int),.pu<|zt n (1+q) fi st la,.no,.no,.no,.no,.no,.no])/\n<=6/\t<=3/\Kb n (1+q) fi st la t/\∀w,wt n0 su gi lb w=wt n st fi la w:=by
  have et:bM dA aU aj [.pu<|.list<|ns.map PyData.int,.pu<|.int ((1+q:Nat):Int),.pu<|zt n0 (1+q) gi su lb,.no,.no,.no,.no,.no,.no]=some (.bool<|decide (c2.fmod 2=1)):=(zg ((zg ((ze rfl).trans h2) rfl).trans<|ji<|by decide) rfl).trans<|Jq _ _;by_cases z:c2.fmod 2=1
  ·refine⟨n0+more,hi,sv,lc,3,(ue<|zB<|et.trans<|by rw[qG z]).trans<|zI ?_,by omega,by omega,K,λw=>(al w).symm⟩;refine(ze<|zm rfl<|zm ((zg ((ze rfl).trans h2) rfl).trans<|xh (j:=2) (by decide)<|by decide)<|zm ((zg ((zg ((ze rfl).trans h0) rfl).trans<|xh (j:=15) (by decide)<|by decide) rfl).trans<|ji<|by decide) rfl).trans ?_;rw[<-e2,<-em];rfl
  ·exact⟨n0,gi,su,lb,0,(xb<|zB<|et.trans<|by rw[qN z]).trans rfl,by omega,by omega,Kb.new A.tb (by omega),λw=>rfl⟩
 obtain⟨n,fi,st,la,t,ei,hn,ht,B,wb⟩:=step;have hst:∀g a b,g<1+q->a<n->b<n->bT (6 ^ 7) (2 ^ 41) (st g a b):=λg a b hg ha hb=>Tb.up (B.mt.st g a b hg ha hb) (by omega) (by omega)
 have hrow:∀u:List Nat,(∀g∈u,g<1+q)->u.length<=10->∀x,x<n->bT (6 ^ 14) (2 ^ 103) (zE n st fi u x):=λu hg hu x hx=>Tb.up (B.row u hg x hx) (by omega) (by omega)
 have hla:∀x,x<n->bT (6 ^ 9) (2 ^ 63) (la x):=λx hx=>Tb.up (B.mt.la x hx) (by omega) (by omega)
 obtain⟨r,st',fi',la',r1,D1,D2,e,S,eL,eR,he,_,k⟩:=ze0 (CS:=CS) (znK hn (show 1+q<=42 by omega) (by omega) hst (λu hg hu x hx=>Tb.up (B.row u hg x hx) (by omega)<|by omega) λu hg hu x hx=>Tb.up (B.col u hg x hx) (by omega)<|by omega);have r4:r<=4:=qr (k.least λw _=>wb w) (by omega);have kr:=k.le
 obtain⟨dw,cN,z⟩:∃dw cN,Ls n (1+q) st fi la r1 e (rJ e) dw cN:=by
  rcases he with⟨a1,rfl⟩|⟨a1,rfl⟩
  ·exact⟨0,348,hn,by omega,by omega,hst,hrow,hla,qe _,mP L8,by decide,by decide,by omega⟩
  ·have r5:r1<=5:=by clear k;omega
   exact⟨333,1611,hn,by omega,by omega,hst,hrow,hla,qe _,mP L9,qe _,qe _,qJ (kW _ r5)<|by decide⟩
 obtain⟨R,eF,eS⟩:=Ls.shown (CS:=CS) (show n+r<=10 by omega) z k;obtain⟨_,L,T,F,C,d,a,w1,iv,l1,f1⟩:=Ls.reach (CS:=CS) z k r4;obtain⟨_,L',T',F',C',d',a',w2,lx,l2,f2⟩:=Ls.zm6 (CS:=CS) z k r4;have eW:=zbX (show r<=42 by omega) (show 1+q<=42 by omega) eL w1 w2 (by omega);have g1:=λp hp=>iv.wlen (by omega) (q:=p) hp
 have g2:=λp hp=>lx.wlen (by omega) (q:=p) hp
 have o1:xG [.list ((L.map (·.1)).map zO),.int (r:Int),.int ((1+q:Nat):Int)]=some (.bool true):=by
  have:=Vc (s:=1+q) (Ws:=L.map (·.1)) λw hw=>by
   obtain⟨p,hp,rfl⟩:=qE.mp hw;exact⟨by have:=(g1 p hp).1;omega,(g1 p hp).2⟩
  rwa[qf,l1] at this
 have o2:xG [.list ((L'.map (·.1.reverse)).map zO),.int (r:Int),.int ((1+q:Nat):Int)]=some (.bool true):=by
  have:=Vc (s:=1+q) (Ws:=L'.map (·.1.reverse)) λw hw=>by
   obtain⟨p,hp,rfl⟩:=qE.mp hw;exact⟨by have:=(g2 p hp).1;rw[kC];omega,λg hg=>(g2 p hp).2 g<|kd.mp hg⟩
  rwa[qf,l2] at this
 have tb:=zif (n:=n) (r:=r) hn r4 hrow hla k.wts l1 l2 g1 g2 f1 f2;have es:(1:Int)+(q:Int)=((1+q:Nat):Int):=by omega
 refine zM rfl ?_;refine(zw<|zI (d:=.int ((1+q:Nat):Int)) ?_).trans ?_
 ·refine(zg rfl<|(zg ((ze rfl).trans h0) rfl).trans<|ji<|by decide).trans ?_;rw[<-es,<-eq];rfl
 refine(zw<|zI (d:=zt n0 (1+q) gi su lb) ?_).trans ?_
 ·refine(ze<|zm ((ze rfl).trans h1)<|zm ((zg ((zg ((ze rfl).trans h0) rfl).trans<|xh (j:=3) (by decide)<|by decide) rfl).trans<|ji<|by decide)<|zm rfl rfl).trans ?_;rw[<-e1,<-en];rfl
 refine(zw ei).trans ?_;refine(zw<|zI<|(ze<|zm ((ze rfl).trans h3) rfl).trans e3).trans ?_;refine(zw<|zI<|(ze rfl).trans eR).trans ?_;refine(zw<|zI<|(ze rfl).trans eL).trans ?_;refine(zw<|(xb<|vQ (b:=false) (yF (b:=true) rfl)<|vQ (b:=false) (zB<|(zg rfl<|(ze<|zm ((zg rfl rfl).trans vb) rfl).trans<|xO _ _).trans<|show some (PyData.bool<|decide ((r:Int)>(n:Int)))=_ by rw[qN<|by omega])<|yF (b:=true)<|zB<|(ze rfl).trans<|z.isM k).trans rfl).trans ?_;refine(zw<|zI<|(ze rfl).trans eF).trans ?_;refine(zw<|(xb<|vQ (b:=false) (zB<|(zg ((ze rfl).trans<|z.wtL k hw<|by omega)<|(ze rfl).trans<|z.wtM hw<|by omega).trans<|(QH _ _).trans<|by rw[qG rfl];rfl)<|yF (b:=true)<|zB rfl).trans rfl).trans ?_;refine(zw<|(xb<|yF (b:=true)<|zB<|(ze rfl).trans eS).trans rfl).trans ?_;refine(zw<|zI<|(ze rfl).trans eW).trans ?_;refine(zw<|(xb<|vQ (b:=false) (yF (b:=true) rfl)<|vQ (b:=false) (zB rfl)<|yF (b:=true)<|zB<|(ze rfl).trans o1).trans rfl).trans ?_;refine(zw<|(xb<|yF (b:=true)<|zB<|(ze rfl).trans o2).trans rfl).trans ?_;refine(zw<|yK (d:=L.map λp=>.list<|L'.map λp'=>fr<|wt n st fi la<|p.1++p'.1.reverse) ?_).trans ?_
 ·refine zS (xs:=L) (e:=λp=>zO p.1) (xV ?_) (by omega) λp hp=>?_
  ·refine(zg rfl rfl).trans ?_;show some (PyData.list ((L.map (·.1)).map zO))=_
   rw[kb];rfl
  rw[yr];refine qM (Option.map PyData.list)<|zS (xs:=L') (e:=λp'=>zO p'.1.reverse) (d:=λp'=>fr<|wt n st fi la<|p.1++p'.1.reverse) (xV ?_) (by omega) λp' fm=>?_
  ·refine(zg rfl rfl).trans ?_;show some (PyData.list ((L'.map (·.1.reverse)).map zO))=_
   rw[kb];rfl
  rw[yr];have b1:=(g1 p hp).1;have b2:=(g2 p' fm).1
  refine(ze<|zm rfl<|zm ((zg rfl rfl).trans<|ZA<|by rw[kC];omega) rfl).trans (z.wtM (λg hg=>?_)<|by rw[qz,kC];omega);rcases qu.mp hg with hg|hg
  ·exact(g1 p hp).2 g hg
  ·exact(g2 p' fm).2 g<|kd.mp hg
 refine zG<|(zg (Ih rfl tb rfl) rfl).trans<|(Jq _ _).trans ?_;rw[qG rfl]
end K12
namespace K12
open PySem PySem.Spec PyProof.Rows L2 L2.Fu
noncomputable def top(i:Nat):Stmt:=PySem.Challenge.pw_wordscales_k12_whole_the_smallest_machin.main.body.getD i<|.Pass ⟨0,0,0,0⟩
noncomputable abbrev rK:List Str:=["len","abs","isinstance","int","bool","tuple","list","range","zip","sum","max","enumerate","sorted"]
abbrev Ww:Stmt:=top 4
def jf:zx ["one","other","rest"] ["one","other"] (zf Ww):=cj
abbrev zjC:Stmt:=top 5
def Wq:zx ["top","bottom","common"] ["top","bottom"] (zf zjC):=cj
abbrev zlg:Stmt:=top 6
def zix:zx ["one","other"] ["one","other"] (zf zlg):=cj
abbrev Ya:Stmt:=top 7
def ju:zx ["fractions","bottom","fraction"] ["fractions"] (zf Ya):=cj
abbrev WO:Stmt:=top 8
def zbd:zx ["fractions","bottom"] ["fractions","bottom"] (zf WO):=cj
abbrev uQ:Stmt:=top 9
def jh:zx ["tops","common","top"] ["tops"] (zf uQ):=cj
abbrev uU:Stmt:=top 10
def Vj:zx ["ones","others"] ["ones","others"] (zf uU):=cj
abbrev zer:Stmt:=top 11
def w9:zx ["ones","others","ones_bottom","others_bottom","top"] ["ones","others"] (zf zer):=cj
abbrev Mg:Stmt:=top 16
def zhf:zx ["tops","columns"] ["tops","columns"] (zf Mg):=cj
abbrev VH:Stmt:=top 17
def jC:zx ["step","numbers","row","bottom","columns"] ["step"] (zf VH):=cj
abbrev Mh:Stmt:=top 18
def zgU:zx ["step","room"] ["step","room"] (zf Mh):=cj
abbrev Mi:Stmt:=top 20
def Mj:zx ["one","other","steps"] ["one","other"] (zf Mi):=cj
abbrev Ml:Stmt:=top 21
def zgF:zx ["machine"] ["machine"] (zf Ml):=cj
abbrev W3:Stmt:=top 22
def vt:zx ["one","other","one_signs","other_signs"] ["one","other"] (zf W3):=cj
abbrev zgJ:Stmt:=top 23
def zfn:zx ["rooms"] ["rooms"] (zf zgJ):=cj
abbrev U6:Stmt:=top 24
def Z0:zx ["row","fraction"] ["row","fraction"] (zf U6):=cj
abbrev zbC:Stmt:=top 25
def Um:zx ["one_step","other_step","crossings"] ["one_step","other_step"] (zf zbC):=cj
abbrev uz:Stmt:=top 26
def wC:zx ["one_step","crossings","other_step","one_rows","other_rows"] ["one_step","crossings","other_step"] (zf uz):=cj
abbrev Us:Stmt:=top 27
def Y5:zx ["step"] ["step"] (zf Us):=cj
abbrev zcX:Stmt:=top 29
def zb6:zx ["row"] ["row"] (zf zcX):=cj
abbrev ze3:Stmt:=top 30
def WU:zx ["place","places","row"] ["place","places"] (zf ze3):=cj
abbrev YC:Stmt:=top 31
def zcz:zx ["check","number","gone","pivot","divisor"] ["check","number","gone","pivot","divisor"] (zf YC):=cj
abbrev Z7:Stmt:=top 34
def Y4:zx ["machine","reach"] ["machine"] (zf Z7):=cj
abbrev zfo:Stmt:=top 36
def zdO:zx ["machine"] ["machine"] (zf zfo):=cj
abbrev zm5:Stmt:=top 37
def zkQ:zx ["machine"] ["machine"] (zf zm5):=cj
abbrev WM:Stmt:=top 38
def v3:zx ["machine","small","beginnings","ends"] ["machine"] (zf WM):=cj
abbrev uG:Stmt:=top 39
def jO:zx ["machine","span","places","shares","first","steps","last"] ["machine"] (zf uG):=cj
abbrev ur:Stmt:=top 40
def JQ:zx ["step","places","shares","columns"] ["step","places","shares"] (zf ur):=cj
abbrev Yz:Stmt:=top 43
def WZ:zx ["one","other","told"] ["one","other"] (zf Yz):=cj
abbrev zbO:Stmt:=top 44
def zak:zx ["one","other"] ["one","other"] (zf zbO):=cj
abbrev zeb:Stmt:=top 45
def jP:zx ["one","other","machine","last","reach","row"] ["one","other"] (zf zeb):=cj
abbrev zai:Stmt:=top 47
def Zq:zx ["script","k"] ["script","k"] (zf zai):=cj
abbrev zc5:Stmt:=top 48
def zcn:zx ["found"] ["found"] (zf zc5):=cj
abbrev zhl:Stmt:=top 49
def vh:zx ["top","bottom","a","b","rest"] ["top","bottom"] (zf zhl):=cj
abbrev zfe:Stmt:=top 50
def zd0:zx ["one","other"] ["one","other"] (zf zfe):=cj
abbrev zcM:Stmt:=top 51
def zbi:zx ["one","other"] ["one","other"] (zf zcM):=cj
abbrev zgl:Stmt:=top 52
def Jp:zx ["one","other","total","k"] ["one","other"] (zf zgl):=cj
abbrev YM:Stmt:=top 53
def W0:zx ["cell"] ["cell"] (zf YM):=cj
abbrev zao:Stmt:=top 54
def yI:zx ["cell","rooms","signs","out","k","steps","sign","rows","a","at"] ["cell","rooms","signs"] (zf zao):=cj
abbrev zei:Stmt:=top 55
def uf:zx ["cell","signs","most","word","k"] ["cell","signs","most"] (zf zei):=cj
abbrev Mm:Stmt:=top 56
def UU:zx ["row","step","out","b"] ["row","step"] (zf Mm):=cj
abbrev zg7:Stmt:=top 57
def Je:zx ["machine","word","row","sign"] ["machine","word"] (zf zg7):=cj
abbrev zce:Stmt:=top 58
def zac:zx ["machine","word"] ["machine","word"] (zf zce):=cj
abbrev zbs:Stmt:=top 59
def zaj:zx ["part"] ["part"] (zf zbs):=cj
abbrev Wo:Stmt:=top 60
def wR:zx ["row","many","part"] ["row","many"] (zf Wo):=cj
abbrev VS:Stmt:=top 61
def jU:zx ["machine","rooms","signs","step","row"] ["machine","rooms","signs"] (zf VS):=cj
abbrev jX:Stmt:=top 62
def jc:zx ["one","other","left","right","steps","k","rows"] ["one","other"] (zf jX):=cj
abbrev VI:Stmt:=top 63
def wU:zx ["row","i","j","c","out"] ["row","i","j","c"] (zf VI):=cj
abbrev ud:Stmt:=top 64
def xS:zx ["machine","i","j","c","less","first","last","steps","step","rows"] ["machine","i","j","c"] (zf ud):=cj
abbrev Mo:Stmt:=top 65
def yU:zx ["machine","cell","more","rooms","signs","idle","none","k","i","j"] ["machine","cell","more"] (zf Mo):=cj
abbrev Jc:Stmt:=top 66
def xi:zx ["rows","left","done","k","at","base","r","part","less"] ["rows"] (zf Jc):=cj
abbrev zd8:Stmt:=top 67
def zdQ:zx ["part"] ["part"] (zf zd8):=cj
abbrev Uq:Stmt:=top 68
def Zs:zx ["rows","row"] ["rows","row"] (zf Uq):=cj
abbrev YX:Stmt:=top 69
def WW:zx ["one","other","less"] ["one","other"] (zf YX):=cj
abbrev WH:Stmt:=top 70
def j4:zx ["one","other","rows","both","known","row","step"] ["one","other","rows"] (zf WH):=cj
abbrev W7:Stmt:=top 71
def vq:zx ["words","many","signs","word","sign"] ["words","many","signs"] (zf W7):=cj
abbrev WT:Stmt:=top 72
def uy:zx ["script","signs","machine","word","many","less","rows","told","table"] ["script"] (zf WT):=cj
abbrev V9:Stmt:=inClass (top 32) 3
def Ja:zx ["self","row","sums","unmet","turn","pivot","gone","left"] ["self","row"] (zf V9):=cj
abbrev Fv:Stmt:=inClass (top 32) 1
def zj4:zx ["self"] ["self"] (zf Fv):=cj
abbrev YZ:Stmt:=inClass (top 33) 1
def V4:zx ["self","word","row"] ["self"] (zf YZ):=cj
abbrev Fw:Stmt:=inClass (top 33) 2
def zni:zx ["self","word","row"] ["self","word","row"] (zf Fw):=cj
abbrev Fx:Stmt:=inClass (top 33) 3
def Mp:zx ["self","word","row","sign"] ["self","word","row"] (zf Fx):=cj
abbrev Yb:Stmt:=inClass (top 33) 0
def zi4:zx ["self","machine"] ["self","machine"] (zf Yb):=cj
abbrev Yh:Stmt:=inClass (top 32) 0
def zii:zx ["self","places"] ["self","places"] (zf Yh):=cj
abbrev Wd:Stmt:=inClass (top 32) 4
def u0:zx ["self","place","row","spot","check"] ["self","place"] (zf Wd):=cj
noncomputable abbrev Fy:List (Str×Nat):=("compared",45)::("whole_reach",34)::("_law_cell_at",47)::("_law_low",49)::("_law_fraction",53)::("_law_machine",54)::("_law_beside",62)::("_law_times",51)::("_law_plus",50)::("_law_turned_row",63)::("_law_mixed",64)::("_law_kin",65)::("_law_word",55)::("common_divisor",4)::("shared_bottom",7)::("tops_over",8)::("without_common",9)::("whole_row",29)::("whole_pair_sum",10)::("column",18)::("whole_step",17)::("unit_row",30)::("narrowed",31)::("led_on",16)::("lowest",5)::("pair_sum",11)::("shared_step",40)::("reached",39)::("turned_step",27)::("turned",21)::("smallest",36)::("rank",37)::("_law_whole",48)::("_law_proper",59)::("_law_proper_row",60)::("_law_is_machine",61)::("refuse_unlike",22)::("times",6)::("scaled_row",24)::("noughts",23)::("joined_step",26)::("added_step",25)::("beside",20)::("difference",44)::("rows_for",43)::("_law_dot",52)::("_law_led",56)::("_law_row",57)::("_law_weight",58)::("_law_both",69)::("_law_over",67)::("_law_rank",66)::("_law_in_span",68)::("_law_shown",70)::("_law_are_words",71)::("witnesses",38)::[]
class Zx (P:outParam Program) (w:outParam World) (K:outParam W.Frag) (mg:outParam (Str->Option Value)) (base:outParam Heap) (CS CR:outParam Addr):Prop where
 nb:OL mg rK
 d:∀{x i},(x,i)∈Fy->HasDef K mg x (top i)
 cS:cV K CS
 cR:cV K CR
 nS:∀x∈(["free","taken","checks","pivot"]:LSr),yM K CS x
 nR:∀x∈(["steps","span","words","rows","waiting","asked"]:LSr),yM K CR x
 zfp:Yo K mg CS "Span" "__init__" "Span.__init__" Yh
 zfd:vU K CS "take" "Span.take" V9
 zbm:vU K CS "full" "Span.full" Fv
 zhZ:vU K CR "row_led_on" "Reach.row_led_on" Fw
 JB:vU K CR "onward" "Reach.onward" YZ
 zfj:vU K CR "keep" "Reach.keep" Fx
 Yp:Yo K mg CR "Reach" "__init__" "Reach.__init__" Yb
 Wc:vU K CS "settled_row" "Span.settled_row" Wd
 c_NOUGHT:GC K mg "NOUGHT" (.tuple [.int 0,.int 1])
 c_MINUS_ONE:GC K mg "MINUS_ONE" (.tuple [.int<|-1,.int 1])
 c_ONE:GC K mg "ONE" (.tuple [.int 1,.int 1])
section
variable{CR:AdX}
theorem uk{f:Str×NameKind->Str×NameKind}(h1:∀p,(f p).1=p.1)(h2:∀p,(p.2=.cell\/p.2=.free)->((f p).2=.cell\/(f p).2=.free)):∀{names:List (Str×NameKind)} {x:Str},(names.lookup x=some .cell\/names.lookup x=some .free)->
  ((names.map f).lookup x=some .cell\/(names.map f).lookup x=some .free)
 |[],_,h=>by simp at h
 |p::r,x,h=>by
  have ih:=@uk f h1 h2 r x;have e:(f p)=(p.1,(f p).2):=Prod.ext (h1 p) rfl
  rw[gH,e];cases hb:x==p.1 with
  |false=>
   have h':r.lookup x=some .cell\/r.lookup x=some .free:=by simpa only [List.lookup,hb] using h
   simpa only [List.lookup,hb] using ih h'
  |true=>
   have h':some p.2=some .cell\/some p.2=some .free:=by simpa only [List.lookup,hb] using h
   have h3:=h2 p<|h'.imp kj kj;simp only [List.lookup,hb];exact h3.imp (qM some)<|qM some
def zdK{N:LSr}{cl C ex s H}(kind:scope.kind=.function)(nocell:∀y∈scope.names,y.2≠ .cell)(loc:∀y∈scope.names,y.2=.local->scope.names.lookup y.1=some .local)(free:∀y∈scope.names,y.2=.free->sc.names.lookup y.1=some .cell\/sc.names.lookup y.1=some .free):yn (UC X N sc cl C ex s H) scope:=UO (sc:=PySem.relabel sc X.env) rfl kind nocell loc λy hy hf=>
 uk (λp=>by dsimp only;split<;>rfl) (λp hp=>by dsimp only;split;exact Or.inl rfl;exact hp) (free y hy hf)
def WK{x0:Str}{N:LSr}{cl C ex s H}(kind:scope.kind=.function)(nocell:∀y∈scope.names,y.2≠ .cell)(loc:∀y∈scope.names,y.2=.local->scope.names.lookup y.1=some .local)(free:∀y∈scope.names,y.2=.free->sc.names.lookup y.1=some .cell\/sc.names.lookup y.1=some .free):yn (vA X (some x0) N sc cl C ex s H) scope:=UO (sc:=PySem.relabel sc X.env) rfl kind nocell loc λy hy hf=>
 uk (λp=>by dsimp only;split<;>rfl) (λp hp=>by dsimp only;split;exact Or.inl rfl;exact hp) (free y hy hf)
def b7[Z:Zx P w K mg base CS CR](h:x∈rK:=by decide):mg x=none:=Z.nb x h
def b8(h:FB X e g)(hg:Gl X "len":=by rfl)(hm:X.mg "len"=none:=by exact b7)(he:cT X e []:=by rfl):=uF j5 t6 hg hm YR (p:=p) (pos:=pos) (z9 h yO he) (by decide) (by decide) he rfl
def cy(h:FB X e g)(hg:Gl X "tuple":=by rfl)(hm:X.mg "tuple"=none:=by exact b7)(he:cT X e []:=by rfl):=Pm Ol Pn hg hm vK (p:=p) (pos:=pos) (z9 h yO he) (by decide) (by decide) he rfl
variable[Z:Zx P w K mg base CS CR]
include Z
def zd(n:Nat)(h:Fy[n]?=some (x,i):=by exact rfl):HasDef K mg x (top i):=Z.d<|qI h
def d8:cV K CS:=Z.cS
def dm:cV K CR:=Z.cR
def eP(h:x∈(["free","taken","checks","pivot"]:LSr):=by decide):yM K CS x:=Z.nS x h
def dJ(h:x∈(["steps","span","words","rows","waiting","asked"]:LSr):=by decide):yM K CR x:=Z.nR x h
def zdm:wy P w K mg base 1 "unit_row" ["place","places"] Jg:=wy.mk (zd 21) WU di rfl λhr=>
  (zj (xw 2 WU.nd<|Ho (FL.fk<|xZ<|za ye zk)<|zh 1)<|zj (Ye 2 (zh 0) ye)<|zl<|Yd 2)
def zfp:rD P w K mg base 3 CS "Span" ["self","places"] Yn:=(rD.mk Z.zfp zii di rfl (by decide) λhr=>
  (zN (Jh d8 eP<|FL.gl<|Tg rfl rfl b7 rfl b7<|za (zh 1) zk)<|zN (Jh d8 eP<|FL.gl<|xZ zk)<|zN (Jh d8 eP<|FL.gl<|yj (Ts:=["place"]) (F:=[1]) rfl (FI.fib<|yL rfl b7<|za (zh 1) zk) (cU (sc:=zf Yh)) (xy rfl rfl xD) (cX 0)<|FL.fe<|jG zdm hr rfl<|za (zh 0)<|za (zh 1) zk)<|xv<|BY d8 eP<|FE.ge ye))
def jj:zU P w K mg base 1 "whole_pair_sum" ["ones","others"] yp:=zU.mk (zd 18) Vj di rfl λhr=>
  (zl<|zF<|uF (OU rfl) Po rfl b7 OH<|z9 (FL.fb<|yj (Ts:=["one","other"]) (F:=[]) rfl (Yf false false rfl b7<|z9 (qv 0)<|z9 (qv 1) yO) (cU (sc:=zf uU)) xD (λ_ _ _ _ _=>(Jn rfl (zP 0<|show(["one","other"]:LSr).Nodup by decide+kernel)<|zP 1<|show(["one","other"]:LSr).Nodup by decide+kernel))<|zH yP xF (qv 0)<|qv 1) yO)
def zcA:wy P w K mg base 1 "narrowed" ["check","number","gone","pivot","divisor"] UW:=wy.mk (zd 22) zcz (λ_ _ _ _ _ _ us hl=>match us,hl with |[_,_,_,_,_],_=>rfl) rfl λhr=>
  (zl<|J4<|yj (Ts:=["mine","theirs"]) (F:=[1,3,4]) rfl (Yf false false rfl b7<|z9 (qv 0)<|z9 (qv 2) yO) (cU (sc:=zf YC)) (xy rfl rfl<|xy rfl rfl<|xy rfl rfl xD) (λ_ _ _ _ _=>(Jn rfl (zP 0<|show(["mine","theirs","number","pivot","divisor"]:LSr).Nodup by decide+kernel)<|zP 1<|show(["mine","theirs","number","pivot","divisor"]:LSr).Nodup by decide+kernel))<|zH yS xu (FE.fb<|zH UB UN (FE.fb<|zH yP xF (qv 3)<|qv 0)<|FE.fb<|zH yP xF (qv 2)<|qv 1)<|qv 4)
def zfd:Met P w K mg base 4 CS "take" ["self","row"] VN:=(Met.mk Z.zfd Ja di rfl (by decide) λhr=>
  (zN (Sy 2 (Ts:=["check"]) (F:=[1]) Ja.nd rfl (Sr<|vk d8 eP) (cU (sc:=zf V9)) (xy rfl rfl xD) (cX 0)<|zo jj hr rfl<|za (zh 0)<|za (zh 1) zk)<|zN (SJ 3 (Ts:=["turn","number"]) (F:=[]) Ja.nd rfl (fF.gib<|SI false rfl b7<|z9 (yv 2) yO) (cU (sc:=zf V9)) xD (λ_ _ _ _ _=>(Jn rfl (zP 0<|show(["turn","number"]:LSr).Nodup by decide+kernel)<|zP 1<|show(["turn","number"]:LSr).Nodup by decide+kernel)) (yw (jl hr.units) vG (qv 1) qi<|bQ _)<|zh 0)<|zN (Ej (FT.gt<|yw (wK hr.units) JA (yv 3) (FL.fb<|xZ zk)<|bQ _) (xv<|uC<|FE.ge x9) VB)<|zN (US 4 Ja.nd<|FE.ge<|zv (yv 3) qi λ_ _=>rfl)<|zN (Si 5 2 Ja.nd<|FE.ge<|zh 4)<|zN (Sg 6 Ja.nd d8 eP<|FE.ge<|zh 4)<|zN (SA 7 0 (Ts:=["check","number"]) (F:=[0,5,6]) Ja.nd rfl (Ss false false rfl b7<|uH (vk d8 eP)<|uH (FB.gb<|yv 2) U3) (cU (sc:=zf V9)) (xy rfl rfl<|xy rfl rfl<|xy rfl rfl xD) rfl (λ_ _ _ _ _=>(Jn rfl (zP 0<|show(["check","number","self","pivot","gone"]:LSr).Nodup by decide+kernel)<|zP 1<|show(["check","number","self","pivot","gone"]:LSr).Nodup by decide+kernel))<|Sv zcA.df hr rfl<|uZ (FE.gj<|zh 0)<|uZ (FE.gj<|zh 1)<|uZ (FE.gj<|zh 4)<|uZ (FE.gj<|zh 3)<|uZ (Su (j:=2) d8 eP) Ki)<|zN (Sb 7 d8 eP)<|zN (BY d8 eP<|FE.ge<|zh 5)<|zN (SD d8 eP eP (FE.ge<|zh 4)<|by decide+kernel)<|xv<|uC<|FE.ge x9))
def zbm:Met P w K mg base 1 CS "full" ["self"] YN:=(Met.mk Z.zbm zj4 eY rfl (by decide) λhr=>
  (xv<|uC<|SW (wK hr.units) JA (vk d8 eP) (FB.gb<|FL.fb<|xZ zk)<|bQ _))
def jY:zU P w K mg base 1 "common_divisor" ["one","other"] yW:=zU.mk (zd 13) jf di rfl λhr=>
  (zj (HB uh qW (yw (jl hr.units) vG (qv 1) qi<|bQ _)<|zj (zK 2 jf.nd<|zH xJ jo (qv 0)<|qv 1)<|zj (zK 0 jf.nd<|zh 1)<|zl<|zK 1 jf.nd<|zh 2)<|zl<|zF<|uF Gn Ht rfl b7 G4<|z9 (qv 0) yO)
def wW:wy P w K mg base 2 "without_common" ["tops"] jx:=wy.mk (zd 16) jh eY rfl λhr=>
  (zj (zK 1 jh.nd ye)<|zj (xE qW rfl (vP<|zh 0) (zP 2 jh.nd)<|zl<|zK 1 jh.nd<|zo jY hr rfl<|za (zh 2)<|za (zh 1) zk)<|zj (xj (yw rN jV (qv 1) qi<|bQ _) (zl<|J4<|vn xX UJ rfl b7 vz<|z9 (qv 0) yO) yd)<|zl<|J4<|yj (Ts:=["top"]) (F:=[1]) rfl (yk<|qv 0) (cU (sc:=zf uQ)) (xy rfl rfl xD) (cX 0)<|zH yS xu (qv 0)<|qv 1)
def zgE:wy P w K mg base 2 "led_on" ["tops","columns"] Zn:=wy.mk (zd 23) zhf di rfl λhr=>
  (zl<|J4<|yj (Ts:=["entering"]) (F:=[0]) rfl (yk<|qv 1) (cU (sc:=zf Mg)) (xy rfl rfl xD) (cX 0)<|zo jj hr rfl<|za (zh 1)<|za (zh 0) zk)
def zhZ:Met P w K mg base 4 CR "row_led_on" ["self","word","row"] VU:=(Met.mk Z.zhZ zni iP rfl (by decide) λhr=>
  (zN (Ej (FT.gt<|yw (wK hr.units) JA (qv 1) (FE.fb<|yC zk)<|bQ _) (xv<|uC<|FE.ge<|zh 2) VB)<|xv<|uC<|EA wW.df hr rfl<|jw (EA zgE.df hr rfl<|jw (FE.ge<|zh 2)<|jw (sG (vk dm dJ) (GE.gb<|FE.ge<|zv (qv 1) (FE.fb<|ZL ye) λ_ _=>rfl) λ_ _=>rfl) JS) JS))
def zfj:Met P w K mg base 1 CR "keep" ["self","word","row"] Zz:=(Met.mk Z.zfj Mp iP rfl (by decide) λhr=>
  (zN (Eo dm dJ<|FE.ge<|zh 1)<|zN (Eo dm dJ<|FE.ge<|zh 2)<|xv<|SY qW rfl (SX rfl b7<|jw (Vi j5 t6 rfl b7 YR<|uH (vk dm dJ) U3) JS) (zP 3 Mp.nd)<|xv<|Eo dm dJ<|FE.ge<|yC<|za (zH jD vv (qv 1)<|FE.fb<|yC<|za (zh 3) zk)<|za (zh 2) zk))
def JB:Met P w K mg base 5 CR "onward" ["self"] (ja CS):=(Met.mk Z.JB V4 eY rfl (by decide) λhr=>
  (zN (Y9 (λ_ _=>1000000) qW (sF.gtm<|SS (GT.gtm<|SV rN jV (GE.gb<|Y8 dm dJ) (GE.gb<|Vi j5 t6 rfl b7 YR<|uH (vk dm dJ) U3)<|bQ _)<|SR<|SQ<|Ey<|SO dm dJ d8 zbm hr)<|zN (US 1 V4.nd<|sG (GE.gb<|sG (vk dm dJ) (GE.gb<|Y8 dm dJ) λ_ _=>rfl) (FB.gb qi) λ_ _=>rfl)<|zN (Ex 2 V4.nd<|Kq dm zhZ hr<|jw (FE.ge<|zh 1)<|jw (sG (GE.gb<|sG (vk dm dJ) (GE.gb<|Y8 dm dJ) λ_ _=>rfl) (FB.gb qi) λ_ _=>rfl) JS)<|zN (BY dm dJ<|Ks jI jK (GE.gb<|Y8 dm dJ)<|FB.gb qi)<|xv<|Kr (Ey<|SM dm dJ d8 zfd hr<|jw (FE.ge<|zh 2) JS) (zN (SN<|Kq dm zfj hr<|jw (FE.ge<|zh 1)<|jw (FE.ge<|zh 2) JS)<|xv<|uC<|FE.ge<|zh 2) VB)<|xv<|uC<|FE.ge Yv))
def jy:zU P w K mg base 2 "shared_bottom" ["fractions"] yx:=zU.mk (zd 14) ju eY rfl λhr=>
  (zj (zK 1 ju.nd ye)<|zj (xE qW rfl (vP<|zh 0) (zP 2 ju.nd)<|zl<|zK 1 ju.nd<|zH yP xF (qv 1)<|FE.fb<|zH yS xu (FE.fb<|zv (qv 2) qi)<|FE.fb<|zo jY hr rfl<|za (zh 1)<|za (zv (qv 2) qi) zk)<|zl<|zF<|zh 1)
def vW:wy P w K mg base 1 "tops_over" ["fractions","bottom"] xR:=wy.mk (zd 15) zbd di rfl λhr=>
  (zl<|J4<|yj (Ts:=["fraction"]) (F:=[1]) rfl (yk<|qv 0) (cU (sc:=zf WO)) (xy rfl rfl xD) (cX 0)<|zH yP xF (FE.fb<|zv (qv 0) qi)<|FE.fb<|zH yS xu (qv 1)<|FE.fb<|zv (qv 0) qi)
def VF:wy P w K mg base 3 "whole_row" ["row"] vC:=wy.mk (zd 17) zb6 eY rfl λhr=>
  (zl<|J4<|jG wW hr rfl<|za (FL.fe<|jG vW hr rfl<|za (zh 0)<|za (zo jy hr rfl<|za (zh 0) zk) zk) zk)
def VX:zU P w K mg base 1 "column" ["step","room"] JF:=zU.mk (zd 19) zgU di rfl λhr=>
  (zl<|zF<|cy<|FL.fb<|yj (Ts:=["row"]) (F:=[1]) rfl (yk<|qv 0) (cU (sc:=zf Mh)) (xy rfl rfl xD) (cX 0)<|zv (qv 0)<|qv 1)
def Z2:zU P w K mg base 3 "whole_step" ["step"] v5:=zU.mk (zd 20) jC eY rfl λhr=>
  (zj (xw 1 jC.nd<|xZ zk)<|zj (xE qW rfl (vP<|zh 0) (zP 2 jC.nd)<|zl<|PB 1<|qv 2)<|zj (zK 3 jC.nd<|Y7 jy hr rfl<|z9 (yv 1) yO)<|zj (Jk 4 (Ts:=["room"]) (F:=[0,3]) jC.nd rfl (FI.fib<|yL rfl b7<|za (b8<|qv 0) zk) (cU (sc:=zf VH)) (xy rfl rfl<|xy rfl rfl xD) (cX 0)<|FL.fe<|jG vW hr rfl<|za (zo VX hr rfl<|za (zh 1)<|za (zh 0) zk)<|za (zh 2) zk)<|zl<|FS.frz 4<|zF<|yC<|za (zh 4)<|za (zh 3) zk)
def Yp:rD P w K mg base 5 CR "Reach" ["self","machine"] (Jl CS):=(rD.mk Z.Yp zi4 di rfl (by decide) λhr=>
  (zN (Jh dm dJ<|FL.gl<|yj (Ts:=["step"]) (F:=[]) rfl (yk<|FE.fb<|zv (qv 1) qi λ_ _=>rfl) (cU (sc:=zf Yb)) xD (cX 0)<|zv (FE.fb<|zo Z2 hr rfl<|za (zh 0) zk) qi λ_ _=>rfl)<|zN (S4 dm dJ<|FN.gn<|EB zfp hr rfl<|za (b8<|FE.fb<|zv (qv 1) qi λ_ _=>rfl) zk)<|zN (Jh dm dJ<|FL.gl<|xZ zk)<|zN (Jh dm dJ<|FL.gl<|xZ zk)<|zN (Jh dm dJ<|FL.gl<|xZ<|za (yC<|za (yC zk)<|za (zo VF.df hr rfl<|za (zv (qv 1) qi λ_ _=>rfl) zk) zk) zk)<|xv<|BY dm dJ<|FE.ge ye))
def Wk:zU P w K mg base 1 "refuse_unlike" ["one","other"] vN:=zU.mk (zd 36) vt di rfl λhr=>
  (zj (zK 2 vt.nd<|b8<|FE.fb<|zv (qv 0) qi)<|zj (zK 3 vt.nd<|b8<|FE.fb<|zv (qv 1) qi)<|zl<|xj (yw (jl hr.units) vG (qv 2) (qv 3)<|bQ _) (zl Py) yd)
def VY:zU P w K mg base 2 "lowest" ["top","bottom"] uT:=zU.mk (zd 24) Wq di rfl λhr=>
  (zj (zK 2 Wq.nd<|zo jY hr rfl<|za (zh 0)<|za (zh 1) zk)<|zj (xj (yw rN jV (qv 1) qi<|bQ _) (zl<|zK 2 Wq.nd<|ZL<|zh 2) yd)<|zl<|zF<|yC<|za (zH yS xu (qv 0)<|qv 2)<|za (zH yS xu (qv 1)<|qv 2) zk)
def zh3:zU P w K mg base 3 "times" ["one","other"] DK:=zU.mk (zd 37) zix di rfl λhr=>
  (zl<|zF<|zo VY hr rfl<|za (zH yP xF (FE.fb<|zv (qv 0) qi)<|FE.fb<|zv (qv 1) qi)<|za (zH yP xF (FE.fb<|zv (qv 0) qi)<|FE.fb<|zv (qv 1) qi) zk)
def zah:zU P w K mg base 4 "scaled_row" ["row","fraction"] Jd:=zU.mk (zd 38) Z0 di rfl λhr=>
  (zl<|zF<|cy<|FL.fb<|yj (Ts:=["number"]) (F:=[1]) rfl (yk<|qv 0) (cU (sc:=zf U6)) (xy rfl rfl xD) (cX 0)<|zo zh3 hr rfl<|za (zh 0)<|za (zh 1) zk)
def Zm:zU P w K mg base 1 "noughts" ["rooms"] uM:=zU.mk (zd 39) zfn eY rfl λhr=>
  (zl<|zF<|zH PU PX (FE.fb<|yC<|za (Ym Z.c_NOUGHT rfl) zk)<|qv 0)
def Zt:zU P w K mg base 2 "joined_step" ["one_step","crossings","other_step"] ux:=zU.mk (zd 40) wC iP rfl λhr=>
  (zj (Jk 3 (Ts:=["row","across"]) (F:=[]) wC.nd rfl (Yf true false rfl b7<|z9 (qv 0)<|z9 (qv 1) yO) (cU (sc:=zf uz)) xD (λ_ _ _ _ _=>(Jn rfl (zP 0<|show(["row","across"]:LSr).Nodup by decide+kernel)<|zP 1<|show(["row","across"]:LSr).Nodup by decide+kernel))<|zH jD vv (qv 0)<|qv 1)<|zj (Jk 4 (Ts:=["row"]) (F:=[0]) wC.nd rfl (yk<|qv 2) (cU (sc:=zf uz)) (xy rfl rfl xD) (cX 0)<|zH jD vv (FE.fb<|zo Zm hr rfl<|za (b8<|qv 1) zk)<|qv 0)<|zl<|zF<|cy<|FL.fb<|Hn (DF 3)<|DF 4)
def Z4:zU P w K mg base 3 "added_step" ["one_step","other_step"] Jj:=zU.mk (zd 41) Um di rfl λhr=>
  (zj (xw 2 Um.nd<|Ho (FL.fk<|xZ<|za (zo Zm hr rfl<|za (b8<|qv 1) zk) zk)<|b8<|qv 0)<|zl<|FS.frz 2<|zF<|zo Zt hr rfl<|za (zh 0)<|za (zh 2)<|za (zh 1) zk)
def zhv:zU P w K mg base 4 "beside" ["one","other"] ZS:=zU.mk (zd 42) Mj di rfl λhr=>
  (zj (Jk 2 (Ts:=["one_step","other_step"]) (F:=[]) Mj.nd rfl (Yf true true rfl b7<|z9 (FE.fb<|zv (qv 0) qi)<|z9 (FE.fb<|zv (qv 1) qi) yO) (cU (sc:=zf Mi)) xD (λ_ _ _ _ _=>(Jn rfl (zP 0<|show(["one_step","other_step"]:LSr).Nodup by decide+kernel)<|zP 1<|show(["one_step","other_step"]:LSr).Nodup by decide+kernel))<|zo Z4 hr rfl<|za (zh 0)<|za (zh 1) zk)<|zl<|zF<|yC<|za (zH jD vv (FE.fb<|zv (qv 0) qi)<|FE.fb<|zv (qv 1) qi)<|za (cy<|yv 2)<|za (zH jD vv (FE.fb<|zv (qv 0) qi)<|FE.fb<|zv (qv 1) qi) zk)
def Z6:zU P w K mg base 5 "difference" ["one","other"] vV:=zU.mk (zd 43) zak di rfl λhr=>
  (zj (Pz<|zo Wk hr rfl<|za (zh 0)<|za (zh 1) zk)<|zl<|zF<|zo zhv hr rfl<|za (zh 0)<|za (yC<|za (zv (qv 1) qi)<|za (zv (qv 1) qi)<|za (zo zah hr rfl<|za (zv (qv 1) qi)<|za (Ym Z.c_MINUS_ONE rfl) zk) zk) zk)
def zdj:zU P w K mg base 8 "compared" ["one","other"] (vi CS):=(zU.mk (zd 0) jP di rfl λhr=>
  (zj (zK 2 jP.nd<|zo Z6 hr rfl<|za (zh 0)<|za (zh 1) zk)<|zj (zK 3 jP.nd<|zo VF.df hr rfl<|za (zv (qv 2) qi λ_ _=>rfl) zk)<|Kv 4 jP.nd (EB Yp hr rfl<|za (zh 2) zk)<|zN (Ex 5 jP.nd<|U1 dm JB hr)<|zN (Y9 (λ_ _=>1000) qW (GT.gtm<|FT.gt<|yw CV ZI (qv 5) (FE.fb Yv)<|bQ _)<|zN (Ej (FT.gt<|yw (jl hr.units) vG (FE.fb<|zo jj hr rfl<|za (zh 5)<|za (zh 3) zk) qi<|bQ _) (xv<|uC<|S5<|jw (sG (vk dm dJ) (FB.gb<|FE.fb<|ZL ye) λ_ _=>rfl)<|jw (GL.ge<|S6 (vk dm dJ) Hq<|J6<|ZL ye) JS) VB)<|xv<|Ex 5 jP.nd<|U1 dm JB hr)<|xv<|Ta<|S9<|Kw (FE.gz Yv)<|Kw (S7 dm dJ) S8))
def Wc:AJ P w K mg base 4 CS "settled_row" ["self","place"] J5:=AJ.mk (k:=3) Z.Wc u0 di rfl (by decide) λhr=>
  (YW (TJ 2 u0.nd<|Tw (FL.fk<|xZ<|za (Ym Z.c_NOUGHT rfl) zk)<|Ks jI jK (GE.gb<|Vi j5 t6 rfl b7 YR<|uH (vk d8 eP) U3)<|GE.gb<|Vi j5 t6 rfl b7 YR<|uH (vk d8 eP) U3)<|YW (KJ 2 (FE.ge<|zh 1)<|FE.ge<|Ym Z.c_ONE rfl)<|YW (TL qW rfl (Tx d8 eP eP rfl b7) (Jn rfl (zP 3 u0.nd)<|zP 4 u0.nd)<|KH<|KJ 2 (FE.ge<|zh 3)<|EA VY hr rfl<|jw (FE.ge<|ZL<|zv (qv 4) (qv 1) λ_ _=>rfl)<|jw (Y8 d8 eP) JS)<|KH<|TK 2)
def wD:AB P w K mg base 8 CR "whole_reach" ["machine"] (ym CS):=AB.mk (i:=1) (zd 1) Y4 eY rfl rfl rfl (by first |exact Or.inl rfl|exact Or.inr rfl) λhr=>
  ⟨EB Yp hr rfl<|za (zh 0) zk,Tj (Y9 (λ_ _=>1000) qW (To<|U1 dm JB hr)<|xv Tn) Ti,rfl⟩
def xp:zU P w K mg base 1 "_law_cell_at" ["script","k"] yo:=zU.mk (zd 2) Zq di rfl λhr=>
  (zj (xj (yw rN jV (qv 1) (FE.fb<|b8<|qv 0)<|bQ _) (zl<|zF<|zv (qv 0)<|qv 1) yd)<|zl<|zF ye)
def u9:zU P w K mg base 1 "_law_low" ["top","bottom"] wa:=zU.mk (zd 3) vh di rfl λhr=>
  (zj (zK 2 vh.nd<|uF Gn Ht rfl b7 G4<|z9 (qv 0) yO)<|zj (zK 3 vh.nd<|zh 1)<|zj (HB Yw qW (yw Zu jV (qv 3) qi<|bQ _)<|zj (zK 4 vh.nd<|zH xJ jo (qv 2)<|qv 3)<|zj (zK 2 vh.nd<|zh 3)<|zl<|zK 3 vh.nd<|zh 4)<|zl<|zF<|yC<|za (zH yS xu (qv 0)<|qv 2)<|za (zH yS xu (qv 1)<|qv 2) zk)
def Jr:zU P w K mg base 2 "_law_fraction" ["cell"] xq:=zU.mk (zd 4) W0 eY rfl λhr=>
  (zl<|zF<|zo u9 hr rfl<|za (zH UB UN (FE.fb<|zH xJ jo (qv 0) qi) qi)<|za (zv (FL.fb<|xZ<|za ye<|za ye<|za ye<|za ye<|za ye zk)<|FE.fb<|zH xJ jo (FE.fb<|zH yS xu (qv 0) qi) qi) zk)
def Jv:zU P w K mg base 3 "_law_machine" ["cell","rooms","signs"] jb:=zU.mk (zd 5) yI iP rfl λhr=>
  (zj (xw 3 yI.nd<|xZ zk)<|zj (xE qW rfl (yL rfl b7<|za (zH yP xF (qv 1)<|FE.fb<|zH jI jK qi<|FE.fb<|zH yP xF (qv 1)<|qv 2) zk) (zP 4 yI.nd)<|zj (zK 0 yI.nd<|zH xJ jo (FE.fb<|zH jI jK (FE.fb<|zH yP xF (qv 0) qi) qi) qi)<|zl<|vp 3<|Hk (yw (wK hr.units) JA (FE.fb<|zH xJ jo (FE.fb<|zH yS xu (qv 0) qi) qi) qi<|bQ _) (yC<|za ye<|za ye zk)<|zo Jr hr rfl<|za (zH yS xu (qv 0) qi) zk)<|zj (xw 5 yI.nd<|xZ zk)<|zj (xE qW rfl (yL rfl b7<|za (zh 2) zk) (zP 6 yI.nd)<|zj (xw 7 yI.nd<|xZ zk)<|zj (xE qW rfl (yL rfl b7<|za (zh 1) zk) (zP 8 yI.nd)<|zj (zK 9 yI.nd<|zH jI jK (FE.fb<|zH yP xF qi<|qv 1)<|FE.fb<|zH yP xF (FE.fb<|zH jI jK (FE.fb<|zH yP xF (qv 6)<|qv 1)<|qv 8)<|qv 1)<|zl<|vp 7<|cy<|FL.fb<|ZE (yv 3) (J6<|zh 9)<|J6<|zH jI jK (qv 9)<|qv 1)<|zl<|vp 5<|cy<|yv 7)<|zl<|zF<|yC<|za (cy<|FL.fb<|ZE (yv 3) Hq<|J6<|zh 1)<|za (cy<|yv 5)<|za (cy<|FL.fb<|ZE (yv 3) (J6<|zh 1)<|J6<|zH yP xF qi<|qv 1) zk)
def uE:zU P w K mg base 1 "_law_beside" ["one","other"] xU:=zU.mk (zd 6) jc di rfl λhr=>
  (zj (zK 2 jc.nd<|cy<|FL.fb<|yj (Ts:=["k"]) (F:=[]) rfl (yk<|FE.fb<|zv (qv 0) qi) (cU (sc:=zf jX)) xD (cX 0)<|yC<|za ye<|za ye zk)<|zj (zK 3 jc.nd<|cy<|FL.fb<|yj (Ts:=["k"]) (F:=[]) rfl (yk<|FE.fb<|zv (qv 1) qi) (cU (sc:=zf jX)) xD (cX 0)<|yC<|za ye<|za ye zk)<|zj (xw 4 jc.nd<|xZ zk)<|zj (xE qW rfl (yL rfl b7<|za (b8<|FE.fb<|zv (qv 0) qi) zk) (zP 5 jc.nd)<|zj (Jk 6 (Ts:=["row"]) (F:=[3]) jc.nd rfl (yk<|FE.fb<|zv (FE.fb<|zv (qv 0) qi)<|qv 5) (cU (sc:=zf jX)) (xy rfl rfl xD) (cX 0)<|zH jD vv (qv 0)<|qv 1)<|zl<|vp 4<|cy<|FL.fb<|Hn (DF 6)<|FL.fk<|yj (Ts:=["row"]) (F:=[2]) rfl (yk<|FE.fb<|zv (FE.fb<|zv (qv 1) qi)<|qv 5) (cU (sc:=zf jX)) (xy rfl rfl xD) (cX 0)<|zH jD vv (qv 1)<|qv 0)<|zl<|zF<|yC<|za (zH jD vv (FE.fb<|zv (qv 0) qi)<|FE.fb<|zv (qv 1) qi)<|za (cy<|yv 4)<|za (zH jD vv (FE.fb<|zv (qv 0) qi)<|FE.fb<|zv (qv 1) qi) zk)
def j6:zU P w K mg base 2 "_law_times" ["one","other"] yE:=zU.mk (zd 7) zbi di rfl λhr=>
  (zl<|zF<|zo u9 hr rfl<|za (zH yP xF (FE.fb<|zv (qv 0) qi)<|FE.fb<|zv (qv 1) qi)<|za (zH yP xF (FE.fb<|zv (qv 0) qi)<|FE.fb<|zv (qv 1) qi) zk)
def uc:zU P w K mg base 2 "_law_plus" ["one","other"] xK:=zU.mk (zd 8) zd0 di rfl λhr=>
  (zl<|zF<|zo u9 hr rfl<|za (zH jI jK (FE.fb<|zH yP xF (FE.fb<|zv (qv 0) qi)<|FE.fb<|zv (qv 1) qi)<|FE.fb<|zH yP xF (FE.fb<|zv (qv 1) qi)<|FE.fb<|zv (qv 0) qi)<|za (zH yP xF (FE.fb<|zv (qv 0) qi)<|FE.fb<|zv (qv 1) qi) zk)
def j7:wy P w K mg base 3 "_law_turned_row" ["row","i","j","c"] xn:=wy.mk (zd 9) wU (λ_ _ _ _ _ _ us hl=>match us,hl with |[_,_,_,_],_=>rfl) rfl λhr=>
  (zj (xw 4 wU.nd<|vn xX UJ rfl b7 vz<|z9 (qv 0) yO)<|zj (Ye 4 (zh 2)<|zo uc hr rfl<|za (zv (yv 4)<|qv 2)<|za (zo j6 hr rfl<|za (zh 3)<|za (zv (yv 4)<|qv 1) zk) zk)<|zl<|Yd 4)
def zcj:zU P w K mg base 4 "_law_mixed" ["machine","i","j","c"] ua:=zU.mk (zd 10) xS (λ_ _ _ _ _ _ us hl=>match us,hl with |[_,_,_,_],_=>rfl) rfl λhr=>
  (zj (zK 4 xS.nd<|yC<|za (zH UB UN qi<|FE.fb<|zv (qv 3) qi)<|za (zv (qv 3) qi) zk)<|zj (xw 5 xS.nd<|jG j7 hr rfl<|za (zv (qv 0) qi)<|za (zh 1)<|za (zh 2)<|za (zh 3) zk)<|zj (xw 6 xS.nd<|jG j7 hr rfl<|za (zv (qv 0) qi)<|za (zh 2)<|za (zh 1)<|za (zh 4) zk)<|zj (xw 7 xS.nd<|xZ zk)<|zj (xE qW rfl (vP<|zv (qv 0) qi) (zP 8 xS.nd)<|zj (xw 9 xS.nd<|yj (Ts:=["row"]) (F:=[1,2,3]) rfl (yk<|qv 8) (cU (sc:=zf ud)) (xy rfl rfl<|xy rfl rfl<|xy rfl rfl xD) (cX 0)<|FL.fe<|jG j7 hr rfl<|za (zh 0)<|za (zh 1)<|za (zh 2)<|za (zh 3) zk)<|zj (Ye 9 (zh 1)<|FL.fe<|yj (Ts:=["b"]) (F:=[1,2,4,9]) rfl (FI.fib<|yL rfl b7<|za (b8<|yv 9) zk) (cU (sc:=zf ud)) (xy rfl rfl<|xy rfl rfl<|xy rfl rfl<|xy rfl rfl xD) (cX 0)<|zo uc hr rfl<|za (zv (FE.fb<|zv (yv 4)<|qv 1)<|qv 0)<|za (zo j6 hr rfl<|za (zh 3)<|za (zv (FE.fb<|zv (yv 4)<|qv 2)<|qv 0) zk) zk)<|zl<|vp 7<|cy<|FL.fb<|yj (Ts:=["row"]) (F:=[]) rfl (yk<|yv 9) (cU (sc:=zf ud)) xD (cX 0)<|cy<|qv 0)<|zl<|zF<|yC<|za (cy<|yv 5)<|za (cy<|yv 7)<|za (cy<|yv 6) zk)
def zeX:zU P w K mg base 5 "_law_kin" ["machine","cell","more"] Ua:=zU.mk (zd 11) yU iP rfl λhr=>
  (zj (zK 3 yU.nd<|b8<|FE.fb<|zv (qv 0) qi)<|zj (zK 4 yU.nd<|b8<|FE.fb<|zv (qv 0) qi)<|zj (xj (yw Zu jV (qv 2) qi<|bQ _) (zj (zK 5 yU.nd<|zo Jv hr rfl<|za (zh 1)<|za (zh 2)<|za (zh 4) zk)<|zj (zK 6 yU.nd<|cy<|FL.fb<|yj (Ts:=["k"]) (F:=[]) rfl (FI.fib<|yL rfl b7<|za (zh 2) zk) (cU (sc:=zf Mo)) xD (cX 0)<|yC<|za ye<|za ye zk)<|zl<|xj (yw (wK hr.units) JA (FE.fb<|zH xJ jo (qv 1) qi) qi<|bQ _) (zl<|zK 0 yU.nd<|zo uE hr rfl<|za (zh 0)<|za (yC<|za (zh 6)<|za (zv (qv 5) qi)<|za (zv (qv 5) qi) zk) zk)<|zl<|zK 0 yU.nd<|zo uE hr rfl<|za (zh 0)<|za (yC<|za (zv (qv 5) qi)<|za (zv (qv 5) qi)<|za (zh 6) zk) zk) yd)<|zj (zK 3 yU.nd<|zH jI jK (qv 3)<|qv 2)<|zj (xE qW rfl (yL rfl b7<|za ye zk) (zP 7 yU.nd)<|zj (zK 1 yU.nd<|zH xJ jo (FE.fb<|zH jI jK (FE.fb<|zH yP xF (qv 1) qi) qi) qi)<|zj (zK 8 yU.nd<|zH xJ jo (FE.fb<|zH yS xu (qv 1) qi)<|FE.fb<|uF (Gp rfl) Hu rfl b7 Iu<|z9 qi<|z9 (qv 3) yO)<|zj (zK 9 yU.nd<|zH xJ jo (FE.fb<|zH yS xu (qv 1) qi)<|FE.fb<|uF (Gp rfl) Hu rfl b7 Iu<|z9 qi<|z9 (qv 3) yO)<|zl<|xj (yw (jl hr.units) vG (qv 8) (qv 9)<|bQ _) (zl<|zK 0 yU.nd<|zo zcj hr rfl<|za (zh 0)<|za (zh 8)<|za (zh 9)<|za (zo Jr hr rfl<|za (zH yS xu (qv 1) qi) zk) zk) yd)<|zl<|zF<|zh 0)
def zdx:zU P w K mg base 1 "_law_word" ["cell","signs","most"] UD:=zU.mk (zd 12) uf iP rfl λhr=>
  (zj (xw 3 uf.nd<|xZ zk)<|zj (xE qW rfl (yL rfl b7<|za (zH xJ jo (qv 0)<|FE.fb<|zH jI jK (qv 2) qi) zk) (zP 4 uf.nd)<|zj (zK 0 uf.nd<|zH xJ jo (FE.fb<|zH jI jK (FE.fb<|zH yP xF (qv 0) qi) qi) qi)<|zl<|vp 3<|zH xJ jo (FE.fb<|zH yS xu (qv 0) qi)<|qv 1)<|zl<|zF<|cy<|yv 3)
def WJ:zU P w K mg base 3 "pair_sum" ["ones","others"] wI:=zU.mk (zd 25) w9 di rfl λhr=>
  (zj (zK 2 w9.nd<|zo jy hr rfl<|za (zh 0) zk)<|zj (zK 3 w9.nd<|zo jy hr rfl<|za (zh 1) zk)<|zj (zK 4 w9.nd<|zo jj hr rfl<|za (FL.fe<|jG vW hr rfl<|za (zh 0)<|za (zh 2) zk)<|za (FL.fe<|jG vW hr rfl<|za (zh 1)<|za (zh 3) zk) zk)<|zl<|zF<|zo VY hr rfl<|za (zh 4)<|za (zH yP xF (qv 2)<|qv 3) zk)
def YT:zU P w K mg base 4 "shared_step" ["step","places","shares"] jE:=zU.mk (zd 26) JQ iP rfl λhr=>
  (zj (xw 3 JQ.nd<|yj (Ts:=["place"]) (F:=[0]) rfl (yk<|qv 1) (cU (sc:=zf ur)) (xy rfl rfl xD) (cX 0)<|zo VX hr rfl<|za (zh 1)<|za (zh 0) zk)<|zl<|zF<|cy<|FL.fb<|HA (o:=some "share") (Ts:=["share"]) (F:=[3]) rfl (yk<|qv 2) (WY (sc:=zf ur) rfl rfl rfl (by decide+kernel) (λ_ _=>rfl) (λ_=>rfl) (by decide+kernel)<|by decide+kernel) (xy rfl rfl xD) (λ_ _ _ _ _=>(zP 0<|show(["share","columns"]:LSr).Nodup by decide+kernel))<|cy<|FL.fb<|yj (Ts:=["entering"]) (F:=[0]) rfl (yk<|yv 1) (WK rfl (by decide+kernel) (by decide+kernel)<|by decide+kernel) (xy rfl rfl xD) (cX 0)<|zo WJ hr rfl<|za (zh 1)<|za (zh 0) zk)
def YJ:zU P w K mg base 9 "reached" ["machine"] (JY CS):=zU.mk (k:=8) (zd 27) jO eY rfl λhr=>
  (Kv 1 jO.nd (Tu dm dJ<|ED wD hr rfl<|za (zh 0) zk)<|zN (Kr (Ey<|U1 d8 zbm hr) (xv<|uC<|FE.ge<|zh 0) VB)<|zN (US 2 jO.nd<|GL.ge<|Tv rfl b7<|vk d8 eP)<|zN (US 3 jO.nd<|GL.ge<|TR 0 (Ts:=["place"]) (F:=[1]) rfl (fF.gib<|yk<|qv 2) (cU (sc:=zf uG)) (xy rfl rfl xD) rfl (cX 0)<|TQ d8 Wc hr<|uZ (FE.gj<|zh 0) Ki)<|zN (US 4 jO.nd<|FE.ge<|cy<|FL.fb<|yj (Ts:=["place"]) (F:=[0]) rfl (yk<|qv 2) (cU (sc:=zf uG)) (xy rfl rfl xD) (cX 0)<|zv (FE.fb<|zv (qv 1) qi λ_ _=>rfl) (qv 0) λ_ _=>rfl)<|zN (US 5 jO.nd<|FE.ge<|cy<|FL.fb<|yj (Ts:=["step"]) (F:=[2,3]) rfl (yk<|FE.fb<|zv (qv 0) qi λ_ _=>rfl) (cU (sc:=zf uG)) (xy rfl rfl<|xy rfl rfl xD) (cX 0)<|zo YT hr rfl<|za (zh 0)<|za (zh 1)<|za (zh 2) zk)<|zN (US 6 jO.nd<|FE.ge<|cy<|FL.fb<|yj (Ts:=["share"]) (F:=[0]) rfl (yk<|qv 3) (cU (sc:=zf uG)) (xy rfl rfl xD) (cX 0)<|zo WJ hr rfl<|za (zh 0)<|za (zv (qv 1) qi λ_ _=>rfl) zk)<|xv<|uC<|FE.ge<|yC<|za (zh 4)<|za (zh 5)<|za (zh 6) zk)
def YG:zU P w K mg base 2 "turned_step" ["step"] uA:=zU.mk (zd 28) Y5 eY rfl λhr=>
  (zl<|zF<|cy<|FL.fb<|yj (Ts:=["room"]) (F:=[0]) rfl (FI.fib<|yL rfl b7<|za (b8<|qv 0) zk) (cU (sc:=zf Us)) (xy rfl rfl xD) (cX 0)<|zo VX hr rfl<|za (zh 1)<|za (zh 0) zk)
def VL:zU P w K mg base 3 "turned" ["machine"] Jw:=zU.mk (zd 29) zgF eY rfl λhr=>
  (zl<|zF<|yC<|za (zv (qv 0) qi)<|za (cy<|FL.fb<|yj (Ts:=["step"]) (F:=[]) rfl (yk<|FE.fb<|zv (qv 0) qi) (cU (sc:=zf Ml)) xD (cX 0)<|zo YG hr rfl<|za (zh 0) zk)<|za (zv (qv 0) qi) zk)
def JM:zU P w K mg base 10 "smallest" ["machine"] (jL CS):=zU.mk (zd 30) zdO eY rfl λhr=>
  (zl<|zF<|zo VL hr rfl<|za (zo YJ hr rfl<|za (zo VL hr rfl<|za (zo YJ hr rfl<|za (zh 0) zk) zk) zk) zk)
def zk2:zU P w K mg base 11 "rank" ["machine"] (EE CS):=zU.mk (zd 31) zkQ eY rfl λhr=>
  (zl<|zF<|b8<|FE.fb<|zv (FE.fb<|zo JM hr rfl<|za (zh 0) zk) qi)
def vT:zU P w K mg base 1 "_law_whole" ["found"] jq:=zU.mk (zd 32) zcn eY rfl λhr=>
  (zl<|zF<|Hj (wx (qv 0) rfl b7 rfl b7 OJ)<|Hi<|Ph<|wx (qv 0) rfl b7 rfl b7 OK)
def zar:zU P w K mg base 2 "_law_proper" ["part"] vZ:=zU.mk (zd 33) zaj eY rfl λhr=>
  (zj (xj (FW.ft<|vR (xg<|xr<|wx (qv 0) rfl b7 rfl b7 vK)<|vR (yw (jl hr.units) vG (FE.fb<|b8<|qv 0) qi<|bQ _)<|vR (xg<|xr<|zo vT hr rfl<|za (zv (qv 0) qi) zk)<|wN<|xg<|xr<|zo vT hr rfl<|za (zv (qv 0) qi) zk) (zl<|zF x9) yd)<|zl<|zF<|Hj (Zk Zu jV (FE.fb<|zv (qv 0) qi) qi<|bQ _)<|Hi<|Zk (wK hr.units) JA (FE.fb<|zo u9 hr rfl<|za (zv (qv 0) qi)<|za (zv (qv 0) qi) zk) (qv 0)<|bQ _)
def vc:zU P w K mg base 3 "_law_proper_row" ["row","many"] yT:=zU.mk (zd 34) wR di rfl λhr=>
  (zj (xj (FW.ft<|vR (xg<|xr<|wx (qv 0) rfl b7 rfl b7 vK)<|wN<|yw (jl hr.units) vG (FE.fb<|b8<|qv 0) (qv 1)<|bQ _) (zl<|zF x9) yd)<|zj (xE qW rfl (vP<|zh 0) (zP 2 wR.nd)<|zl<|xj (xg<|xr<|zo zar hr rfl<|za (zh 2) zk) (zl<|zF x9) yd)<|zl<|zF x9)
def Vn:zU P w K mg base 4 "_law_is_machine" ["machine","rooms","signs"] jv:=zU.mk (zd 35) jU iP rfl λhr=>
  (zj (xj (FW.ft<|vR (xg<|xr<|wx (qv 0) rfl b7 rfl b7 vK)<|vR (yw (jl hr.units) vG (FE.fb<|b8<|qv 0) qi<|bQ _)<|wN<|xg<|xr<|wx (FE.fb<|zv (qv 0) qi) rfl b7 rfl b7 vK) (zl<|zF x9) yd)<|zj (xj (FW.ft<|vR (xg<|xr<|zo vc hr rfl<|za (zv (qv 0) qi)<|za (zh 1) zk)<|wN<|xg<|xr<|zo vc hr rfl<|za (zv (qv 0) qi)<|za (zh 1) zk) (zl<|zF x9) yd)<|zj (xj (yw (jl hr.units) vG (FE.fb<|b8<|FE.fb<|zv (qv 0) qi) (qv 2)<|bQ _) (zl<|zF x9) yd)<|zj (xE qW rfl (vP<|zv (qv 0) qi) (zP 3 jU.nd)<|zj (xj (FW.ft<|vR (xg<|xr<|wx (qv 3) rfl b7 rfl b7 vK)<|wN<|yw (jl hr.units) vG (FE.fb<|b8<|qv 3) (qv 1)<|bQ _) (zl<|zF x9) yd)<|zl<|xE qW rfl (vP<|zh 3) (zP 4 jU.nd)<|zl<|xj (xg<|xr<|zo vc hr rfl<|za (zh 4)<|za (zh 1) zk) (zl<|zF x9) yd)<|zl<|zF x9)
def zc6:zU P w K mg base 9 "rows_for" ["one","other"] (wo CS):=zU.mk (zd 44) WZ di rfl λhr=>
  (zj (zK 2 WZ.nd<|zo zdj hr rfl<|za (zh 0)<|za (zh 1) zk)<|zj (xj (yw CV ZI (FE.fb<|zv (qv 2) qi) (FE.fb Yv)<|bQ _) (zl<|zF Yv) yd)<|zl<|zF<|FL.fe<|yj (Ts:=["row"]) (F:=[]) rfl (yk<|FE.fb<|zv (qv 2) qi) (cU (sc:=zf Yz)) xD (cX 0)<|FL.fe<|yj (Ts:=["top"]) (F:=[]) rfl (yk<|qv 0) (zdK rfl (by decide+kernel) (by decide+kernel)<|by decide+kernel) xD (cX 0)<|yC<|za (zh 0)<|za ye zk)
def UG:zU P w K mg base 3 "_law_dot" ["one","other"] xQ:=zU.mk (zd 45) Jp di rfl λhr=>
  (zj (zK 2 Jp.nd<|yC<|za ye<|za ye zk)<|zj (xE qW rfl (yL rfl b7<|za (b8<|qv 0) zk) (zP 3 Jp.nd)<|zl<|zK 2 Jp.nd<|zo uc hr rfl<|za (zh 2)<|za (zo j6 hr rfl<|za (zv (qv 0)<|qv 3)<|za (zv (qv 1)<|qv 3) zk) zk)<|zl<|zF<|zh 2)
def YL:wy P w K mg base 4 "_law_led" ["row","step"] jz:=wy.mk (zd 46) UU di rfl λhr=>
  (zj (xw 2 UU.nd<|xZ zk)<|zj (xE qW rfl (yL rfl b7<|za (b8<|qv 0) zk) (zP 3 UU.nd)<|zl<|vp 2<|zo UG hr rfl<|za (zh 0)<|za (FL.fe<|yj (Ts:=["a"]) (F:=[1,3]) rfl (FI.fib<|yL rfl b7<|za (b8<|qv 0) zk) (cU (sc:=zf Mm)) (xy rfl rfl<|xy rfl rfl xD) (cX 0)<|zv (FE.fb<|zv (qv 1)<|qv 0)<|qv 2) zk)<|zl<|Yd 2)
def zea:wy P w K mg base 5 "_law_row" ["machine","word"] VZ:=wy.mk (zd 47) Je di rfl λhr=>
  (zj (xw 2 Je.nd<|vn xX UJ rfl b7 vz<|z9 (FE.fb<|zv (qv 0) qi) yO)<|zj (xE qW rfl (vP<|zh 1) (zP 3 Je.nd)<|zl<|FS.frz 2<|xw 2 Je.nd<|jG YL hr rfl<|za (zh 2)<|za (zv (FE.fb<|zv (qv 0) qi)<|qv 3) zk)<|zl<|Yd 2)
def uv:zU P w K mg base 6 "_law_weight" ["machine","word"] xY:=zU.mk (zd 48) zac di rfl λhr=>
  (zl<|zF<|zo UG hr rfl<|za (FL.fe<|jG zea hr rfl<|za (zh 0)<|za (zh 1) zk)<|za (zv (qv 0) qi) zk)
def zdu:zU P w K mg base 2 "_law_both" ["one","other"] u5:=zU.mk (zd 49) WW di rfl λhr=>
  (zj (zK 2 WW.nd<|cy<|FL.fb<|yj (Ts:=["part"]) (F:=[]) rfl (yk<|FE.fb<|zv (qv 1) qi) (cU (sc:=zf YX)) xD (cX 0)<|yC<|za (zH UB UN qi<|FE.fb<|zv (qv 0) qi)<|za (zv (qv 0) qi) zk)<|zl<|zF<|zo uE hr rfl<|za (zh 0)<|za (yC<|za (zv (qv 1) qi)<|za (zv (qv 1) qi)<|za (zh 2) zk) zk)
def zc4:zU P w K mg base 1 "_law_over" ["part"] wH:=zU.mk (zd 50) zdQ eY rfl λhr=>
  (zj (xj (yw rN jV (FE.fb<|zv (qv 0) qi) qi<|bQ _) (zl<|zF<|yC<|za (zH UB UN qi<|FE.fb<|zv (qv 0) qi)<|za (zH UB UN qi<|FE.fb<|zv (qv 0) qi) zk) yd)<|zl<|zF<|yC<|za (zv (qv 0) qi)<|za (zv (qv 0) qi) zk)
def JI:zU P w K mg base 3 "_law_rank" ["rows"] xT:=zU.mk (zd 51) xi eY rfl λhr=>
  (zj (xw 1 xi.nd<|yj (Ts:=["row"]) (F:=[]) rfl (yk<|qv 0) (cU (sc:=zf Jc)) xD (cX 0)<|FL.fe<|vn xX UJ rfl b7 vz<|z9 (qv 0) yO)<|zj (zK 2 xi.nd ye)<|zj (xE qW rfl (yL rfl b7<|za (Hk (yw Zu jV (FE.fb<|b8<|yv 1) qi<|bQ _) (b8<|FE.fb<|zv (yv 1) qi) ye) zk) (zP 3 xi.nd)<|zj (Rp 4 (Ts:=["r"]) (F:=[1,3]) xi.nd rfl (FI.fib<|Hw rfl b7<|za (zh 2)<|za (b8<|yv 1) zk) (cU (sc:=zf Jc)) (xy rfl rfl<|xy rfl rfl xD) (cX 0) (yw (jl hr.units) vG (FE.fb<|zv (FE.fb<|zv (FE.fb<|zv (yv 1)<|qv 0)<|qv 2) qi) qi<|bQ _)<|zh 0)<|zl<|xj (yw Zu jV (FE.fb<|b8<|yv 4) qi<|bQ _) (zj (Sq 5 1 xi.nd<|zv (yv 4) qi)<|zj (QY 1 (zh 2)<|zh 5)<|zj (xE qW rfl (Hw rfl b7<|za (zH jI jK (qv 2) qi)<|za (b8<|yv 1) zk) (zP 6 xi.nd)<|zl<|xj (yw (jl hr.units) vG (FE.fb<|zv (FE.fb<|zv (FE.fb<|zv (yv 1)<|qv 6)<|qv 3) qi) qi<|bQ _) (zj (zK 7 xi.nd<|zo j6 hr rfl<|za (zv (FE.fb<|zv (yv 1)<|qv 6)<|qv 3)<|za (zo zc4 hr rfl<|za (zv (qv 5)<|qv 3) zk) zk)<|zj (zK 8 xi.nd<|yC<|za (zH UB UN qi<|FE.fb<|zv (qv 7) qi)<|za (zv (qv 7) qi) zk)<|zl<|Ye 1 (zh 6)<|FL.fe<|yj (Ts:=["c"]) (F:=[1,5,6,8]) rfl (FI.fib<|yL rfl b7<|za (b8<|qv 5) zk) (cU (sc:=zf Jc)) (xy rfl rfl<|xy rfl rfl<|xy rfl rfl<|xy rfl rfl xD) (cX 0)<|zo uc hr rfl<|za (zv (FE.fb<|zv (yv 1)<|qv 3)<|qv 0)<|za (zo j6 hr rfl<|za (zh 4)<|za (zv (qv 2)<|qv 0) zk) zk) yd)<|zl<|zK 2 xi.nd<|zH jI jK (qv 2) qi) yd)<|zl<|zF<|zh 2)
def JD:zU P w K mg base 4 "_law_in_span" ["rows","row"] yH:=zU.mk (zd 52) Zs di rfl λhr=>
  (zj (xj (yw (wK hr.units) JA (FE.fb<|b8<|qv 0) qi<|bQ _) (zl<|zF<|Zk (wK hr.units) JA (FE.fb<|b8<|FL.fb<|Rn (Ts:=["part"]) (F:=[]) rfl (yk<|qv 1) (cU (sc:=zf Uq)) xD (cX 0) (yw (jl hr.units) vG (FE.fb<|zv (qv 0) qi) qi<|bQ _)<|zh 0) qi<|bQ _) yd)<|zl<|zF<|Zk (wK hr.units) JA (FE.fb<|zo JI hr rfl<|za (FL.fe<|Pg Q0 Q2 (qv 0)<|FL.fb<|xZ<|za (zh 1) zk) zk) (FE.fb<|zo JI hr rfl<|za (zh 0) zk)<|bQ _)
def zb1:zU P w K mg base 5 "_law_shown" ["one","other","rows"] wY:=zU.mk (zd 53) j4 iP rfl λhr=>
  (zj (zK 3 j4.nd<|zo zdu hr rfl<|za (zh 0)<|za (zh 1) zk)<|zj (Jk 4 (Ts:=["row"]) (F:=[]) j4.nd rfl (yk<|qv 2) (cU (sc:=zf WH)) xD (cX 0)<|FL.fe<|vn xX UJ rfl b7 vz<|z9 (qv 0) yO)<|zj (xj (xg<|xr<|Y7 JD hr rfl<|z9 (yv 4)<|z9 (FL.fb<|vn xX UJ rfl b7 vz<|z9 (FE.fb<|zv (qv 3) qi) yO) yO) (zl<|zF x9) yd)<|zj (FS.frz 4<|xE qW rfl (vP<|zh 4) (zP 5 j4.nd)<|zj (xj (yw (jl hr.units) vG (FE.fb<|zv (FE.fb<|zo UG hr rfl<|za (zh 5)<|za (zv (qv 3) qi) zk) qi) qi<|bQ _) (zl<|zF x9) yd)<|zl<|xE qW rfl (vP<|zv (qv 3) qi) (zP 6 j4.nd)<|zl<|xj (xg<|xr<|zo JD hr rfl<|za (zh 4)<|za (FL.fe<|jG YL hr rfl<|za (zh 5)<|za (zh 6) zk) zk) (zl<|zF x9) yd)<|zl<|zF x9)
def uJ:zU P w K mg base 2 "_law_are_words" ["words","many","signs"] xG:=zU.mk (zd 54) vq iP rfl λhr=>
  (zj (xj (FW.ft<|vR (xg<|xr<|wx (qv 0) rfl b7 rfl b7 vz)<|wN<|yw (jl hr.units) vG (FE.fb<|b8<|qv 0) (qv 1)<|bQ _) (zl<|zF x9) yd)<|zj (xE qW rfl (vP<|zh 0) (zP 3 vq.nd)<|zj (xj (FW.ft<|vR (xg<|xr<|wx (qv 3) rfl b7 rfl b7 vK)<|wN<|yw Zu jV (FE.fb<|b8<|qv 3) qi<|bQ _) (zl<|zF x9) yd)<|zl<|xE qW rfl (vP<|zh 3) (zP 4 vq.nd)<|zl<|xj (FW.ft<|vR (xg<|xr<|zo vT hr rfl<|za (zh 4) zk)<|wN<|xg<|T3 Ny jV rN jV ye (zh 4)<|zh 2) (zl<|zF x9) yd)<|zl<|zF x9)
def zb8:zU P w K mg base 12 "witnesses" ["machine"] (JJ CS):=zU.mk (k:=11) (zd 55) v3 (λ_ _ _ _ _ _ us hl=>match us,hl with |[_],_=>rfl) rfl λhr=>
  (zj (zK 1 v3.nd<|zo JM hr rfl<|za (zh 0) zk)<|zj (zK 2 v3.nd<|FL.fe<|vn xX UJ rfl b7 vz<|z9 (FE.fb<|Kz dm dJ<|ED wD hr rfl<|za (zh 1) zk) yO)<|zj (Jk 3 (Ts:=["word"]) (F:=[]) v3.nd rfl (yk<|FE.fb<|Kz dm dJ<|ED wD hr rfl<|za (zo VL hr rfl<|za (zh 1) zk) zk) (cU (sc:=zf WM)) xD (cX 0)<|T2<|qv 0)<|zl<|FS.frz 3<|zF<|yC<|za (zh 2)<|za (zh 3) zk)
def zmB{f:AdX}(F:iF K "law" "law" WT f fd):wu P w K mg base dO 13 f fd ["script"] (Bx K<|Me CS):=PD.mk (N:=["script","signs","machine","word","many","less","rows","told","table"]) (m:=1) (b:=Md CS) F uy rfl (λb5 A outer s H E hr=>
  (zj (zK 1 uy.nd<|zH jI jK qi<|FE.fb<|zH xJ jo (FE.fb<|zo xp hr rfl<|za (zh 0)<|za ye zk) qi)<|zj (zK 2 uy.nd<|zo Jv hr rfl<|za (zo xp hr rfl<|za (zh 0)<|za ye zk)<|za (zH xJ jo (FE.fb<|zH yS xu (FE.fb<|zo xp hr rfl<|za (zh 0)<|za ye zk) qi) qi)<|za (zh 1) zk)<|zj (xj (yw (wK hr.units) JA (FE.fb<|zH xJ jo (FE.fb<|zo xp hr rfl<|za (zh 0)<|za ye zk) qi) qi<|bQ _) (zl<|zK 2 uy.nd<|zo zeX hr rfl<|za (zh 2)<|za (zH yS xu (FE.fb<|zo xp hr rfl<|za (zh 0)<|za ye zk) qi)<|za (zH xJ jo (FE.fb<|zH yS xu (FE.fb<|zo xp hr rfl<|za (zh 0)<|za ye zk) qi) qi) zk) yd)<|zj (zK 3 uy.nd<|zo zdx hr rfl<|za (zo xp hr rfl<|za (zh 0)<|za ye zk)<|za (zh 1)<|za ye zk)<|zj (zK 4 uy.nd<|zo zk2 hr rfl<|za (zh 2) zk)<|zj (zK 5 uy.nd<|zo JM hr rfl<|za (zh 2) zk)<|zj (xj (FW.ft<|vR (xg<|xr<|zo vT hr rfl<|za (zh 4) zk)<|vR (yw Zu jV (qv 4) (FE.fb<|b8<|FE.fb<|zv (qv 2) qi)<|bQ _)<|wN<|xg<|xr<|zo Vn hr rfl<|za (zh 5)<|za (zh 4)<|za (zh 1) zk) (zl<|zF x9) yd)<|zj (zK 6 uy.nd<|zo zc6 hr rfl<|za (zh 2)<|za (zh 5) zk)<|zj (xj (FW.ft<|vR (yw (jl hr.units) vG (FE.fb<|zo uv hr rfl<|za (zh 5)<|za (zh 3) zk) (FE.fb<|zo uv hr rfl<|za (zh 2)<|za (zh 3) zk)<|bQ _)<|wN<|xg<|xr<|wx (qv 6) rfl b7 rfl b7 vz) (zl<|zF x9) yd)<|zj (xj (xg<|xr<|zo zb1 hr rfl<|za (zh 2)<|za (zh 5)<|za (zh 6) zk) (zl<|zF x9) yd)<|zj (zK 7 uy.nd<|zo zb8 hr rfl<|za (zh 2) zk)<|zj (xj (FW.ft<|vR (xg<|xr<|wx (qv 7) rfl b7 rfl b7 vK)<|vR (yw (jl hr.units) vG (FE.fb<|b8<|qv 7) qi<|bQ _)<|wN<|xg<|xr<|zo uJ hr rfl<|za (zv (qv 7) qi)<|za (zh 4)<|za (zh 1) zk) (zl<|zF x9) yd)<|zj (xj (xg<|xr<|zo uJ hr rfl<|za (zv (qv 7) qi)<|za (zh 4)<|za (zh 1) zk) (zl<|zF x9) yd)<|zj (HC 8 (o:=some "begin") (Ts:=["begin"]) (F:=[2,7]) uy.nd rfl (yk<|FE.fb<|zv (qv 7) qi) (WY (sc:=zf WT) rfl rfl rfl (by decide+kernel) (λ_ _=>rfl) (λ_=>rfl) (by decide+kernel)<|by decide+kernel) (xy rfl rfl<|xy rfl rfl xD) (λ_ _ _ _ _=>(zP 0<|show(["begin","machine","told"]:LSr).Nodup by decide+kernel))<|FL.fe<|yj (Ts:=["end"]) (F:=[0,1]) rfl (yk<|FE.fb<|zv (qv 2) qi) (WK rfl (by decide+kernel) (by decide+kernel)<|by decide+kernel) (xy rfl rfl<|xy rfl rfl xD) (λ_ _ _ _ _=>(zP 0<|show(["end","begin","machine"]:LSr).Nodup by decide+kernel))<|zo uv hr rfl<|za (zh 2)<|za (zH jD vv (qv 1)<|qv 0) zk)<|zl<|zF<|Zk (wK hr.units) JA (FE.fb<|Y7 JI hr rfl<|z9 (yv 8) yO) (qv 4)<|bQ _))
end
end K12
namespace K12
open PySem L2 L2.Fu
abbrev NI(K:FRx)(x:Str)(f:AdX):Prop:=W.nsIn K mainGlobals x=some (some<|.ref f)
abbrev LK(K:FRx)(f:AdX)(x q:Str)(st:Stmt)(oc:Value)(od:Option Addr)(kV dc pm:Value)(an:Option Addr)(cd ct:Value)(sl:Array (Option Value)):Prop:=K.lookup f=some ⟨oc,od,.func<|W.fnOf x q (jt st) (yN st) (zf st) .none kV dc pm an cd ct,sl⟩
abbrev CI(K:FRx)(c:Value)(x:Str):Prop:=W.codeIn K c x=true
abbrev KI(K:FRx)(f:AdX):Prop:=W.keepIn K (.ref f)=true
abbrev FI0(K:FRx)(C:AdX)(x:Str):Prop:=W.findIn K (.ref C) x=some none
abbrev HD(K:FRx)(x:Str)(st:Stmt):Prop:=∃f oc od kV dc pm an cd ct sl,NI K x f/\LK K f x x st oc od kV dc pm an cd ct sl/\CI K cd x/\KI K f
abbrev MD(K:FRx)(C:AdX)(m q:Str)(st:Stmt):Prop:=∃f oc od kV dc pm an cd ct sl,W.findIn K (.ref C) m=some (some<|.ref f)/\W.isFn K (.ref f)=true/\LK K f m q st oc od kV dc pm an cd ct sl/\CI K cd q/\KI K f
def Fz{st:Stmt}(X:K.In h)(G:h.Ns mainGlobals mg)(a:HD K x st):HasDef K mg x st:=by
 obtain⟨_,_,_,_,_,_,_,_,_,_,a,l,c,k⟩:=a;exact⟨_,_,Bj (st:=st) l c k,W.mg_of X G a⟩
def eE{m q:Str}{st:Stmt}(a:MD K C m q st):vU K C m q st:=by
 obtain⟨_,_,_,_,_,_,_,_,_,_,a,i,l,c,k⟩:=a;exact⟨_,_,Bj (st:=st) l c k,⟨a,i,k⟩⟩
def A7{n q:Str}{st:Stmt}(X:K.In h)(G:h.Ns mainGlobals mg)(a:MD K C "__init__" q st)(aC:W.nsIn K mainGlobals n=some (some<|.ref C))(mk:W.makesIn K C=true)(kc:W.keepIn K (.ref C)=true):Yo K mg C n "__init__" q st:=by
 obtain⟨_,_,_,_,_,_,_,_,_,_,a,i,l,c,k⟩:=a;exact⟨_,_,Bj (st:=st) l c k,⟨mk,a,i,kc⟩,W.mg_of X G aC⟩
def zlQ{st:Stmt}{f:AdX}{kV dc cd:Value}(a:NI K x f)(l:LK K f x x st oc od kV dc pm an cd ct sl)(c:CI K cd x)(k:KI K f):HD K x st:=⟨f,oc,od,kV,dc,pm,an,cd,ct,sl,a,l,c,k⟩
def znM{m q:Str}{st:Stmt}{f:AdX}{kV dc cd:Value}(a:W.findIn K (.ref C) m=some (some<|.ref f))(i:W.isFn K (.ref f)=true)(l:LK K f m q st oc od kV dc pm an cd ct sl)(c:CI K cd q)(k:KI K f):MD K C m q st:=⟨f,oc,od,kV,dc,pm,an,cd,ct,sl,a,i,l,c,k⟩
def Cy(K:FRx)(l:LSr):Prop:=∀x∈l,W.nsIn K mainGlobals x=some none
def zjf:Cy K []:=λ_ h=>by cases h
def zgA{l:LSr}(h:W.nsIn K mainGlobals x=some none)(r:Cy K l):Cy K (x::l):=λy hy=>by
 rcases qy.mp hy with rfl|hy
 ·exact h
 ·exact r y hy
def Cz(K:FRx)(l:List (Str×Nat)):Prop:=∀x i,(x,i)∈l->HD K x (top i)
def zje:Cz K []:=λ_ _ h=>by cases h
def zgP{L:List (Str×Nat)}(h:HD K x (top i))(r:Cz K L):Cz K ((x,i)::L):=λy j hy=>by
 rcases qy.mp hy with e|hy
 ·cases e;exact h
 ·exact r y j hy
def all_mk{l:W.OpenLaw}{fa CR:AdX}(X:K.In h)(G:h.Ns mainGlobals mg)(hfa:mg "law"=some (.ref fa))(ad:Cz K Fy)(aL:HD K "law" WT)(aCS:W.nsIn K mainGlobals "Span"=some (some<|.ref CS))(pgS:W.plainGet K CS Str.empty=true)(hdS:W.hasDictIn K CS=true)(poS:W.plainOver K CS=true)(saS:W.findIn K (.ref CS) "__setattr__"=some (some<|.builtin "object.__setattr__"))(mkS:W.makesIn K CS=true)(kcS:W.keepIn K (.ref CS)=true)(nS_free:FI0 K CS "free")(nS_taken:FI0 K CS "taken")(nS_checks:FI0 K CS "checks")(nS_pivot:FI0 K CS "pivot")(aCR:W.nsIn K mainGlobals "Reach"=some (some<|.ref CR))(pgR:W.plainGet K CR Str.empty=true)(hdR:W.hasDictIn K CR=true)(poR:W.plainOver K CR=true)(saR:W.findIn K (.ref CR) "__setattr__"=some (some<|.builtin "object.__setattr__"))(mkR:W.makesIn K CR=true)(kcR:W.keepIn K (.ref CR)=true)(nR_steps:FI0 K CR "steps")(nR_span:FI0 K CR "span")(nR_words:FI0 K CR "words")(nR_rows:FI0 K CR "rows")(nR_waiting:FI0 K CR "waiting")(nR_asked:FI0 K CR "asked")(m1:MD K CS "__init__" "Span.__init__" Yh)(m2:MD K CS "full" "Span.full" Fv)(m3:MD K CS "take" "Span.take" V9)(m4:MD K CR "__init__" "Reach.__init__" Yb)(m5:MD K CR "onward" "Reach.onward" YZ)(m6:MD K CR "row_led_on" "Reach.row_led_on" Fw)(m7:MD K CR "keep" "Reach.keep" Fx)(m8:MD K CS "settled_row" "Span.settled_row" Wd)(zs:Cy K rK){gt1_0 gt1_1:Tok}{Mq:AdX}{gd1:Option Addr}{gn1:Nat}{gs1:Array (Option Value)}(g_1:W.nsIn K mainGlobals "NOUGHT"=some (some<|.ref Mq))(gl1:K.lookup Mq=some ⟨.type "tuple",gd1,.seq #[.int 0 gt1_0,.int 1 gt1_1] gn1,gs1⟩){gt2_0 gt2_1:Tok}{Mt:AdX}{gd2:Option Addr}{gn2:Nat}{gs2:Array (Option Value)}(g_2:W.nsIn K mainGlobals "MINUS_ONE"=some (some<|.ref Mt))(gl2:K.lookup Mt=some ⟨.type "tuple",gd2,.seq #[.int (-1) gt2_0,.int 1 gt2_1] gn2,gs2⟩){gt3_0 gt3_1:Tok}{Mu:AdX}{gd3:Option Addr}{gn3:Nat}{gs3:Array (Option Value)}(g_3:W.nsIn K mainGlobals "ONE"=some (some<|.ref Mu))(gl3:K.lookup Mu=some ⟨.type "tuple",gd3,.seq #[.int 1 gt3_0,.int 1 gt3_1] gn3,gs3⟩)
  :∃fd:FuncData,(∀(s:ShX)(v:Value),BindsTo s fd ⟨[v],[]⟩ [("script",v)])/\∀base:Heap,K.In base->base.Ns mainGlobals mg->wu l.prog w K mg base dO 13 fa fd ["script"] (BB K):=by
 obtain⟨_,_,_,kV,dc,pm,an,cd,ct,_,aL,lL,cL,kL⟩:=aL;have e:=hfa.symm.trans<|W.mg_of X G aL;cases e;have c_NOUGHT:GC K mg "NOUGHT" (.tuple [.int 0,.int 1]):=DI (W.mg_of X G g_1) gl1
 have c_MINUS_ONE:GC K mg "MINUS_ONE" (.tuple [.int<|-1,.int 1]):=DI (W.mg_of X G g_2) gl2;have c_ONE:GC K mg "ONE" (.tuple [.int 1,.int 1]):=DI (W.mg_of X G g_3) gl3
 have clS:cV K CS:=⟨pgS,hdS,poS,saS⟩;have clR:cV K CR:=⟨pgR,hdR,poR,saR⟩
 refine⟨W.fnOf "law" "law" (jt WT) (yN WT) (zf WT) .none kV dc pm an cd ct,λs v=>.of_eq rfl,λbase _ _=>?_⟩;have Z:Zx l.prog w K mg base CS CR:=⟨λx hx=>W.mg_none_of X G<|zs x hx,λh=>Fz X G<|ad _ _ h,clS,clR,λx h=>by simp only [qy,k4,mv] at h;rcases h with rfl|rfl|rfl|rfl<;>assumption,λx h=>by simp only [qy,k4,mv] at h;rcases h with rfl|rfl|rfl|rfl|rfl|rfl<;>assumption,A7 X G m1 aCS mkS kcS,eE m3,eE m2,eE m6,eE m5,eE m7,A7 X G m4 aCR mkR kcR,eE m8,c_NOUGHT,c_MINUS_ONE,c_ONE⟩;exact PF (λns _=>znd _ ns)<|zmB<|Bj (st:=WT) lL cL kL
def walk{l:W.OpenLaw}{q:Program}{loose:LSr}{XP:(Str->Option Value)->Heap->Prop}{YP:World->Heap->Prop}{d:DefRec}{K:Params->W.Frag}(hn:l.most=some 63)(tI:d.params.defaults=[])(hY:∀(w:World)(h:Heap),YP w h->(K w.params).In h)(F:∀(w:World)(mg:Str->Option Value)(fa:AdX)(h:Heap),(K w.params).In h->h.Ns mainGlobals mg->mg d.name=some (.ref fa)->
   ∃fd:FuncData,(∀(s:ShX)(u:Value),BindsTo s fd ⟨[u],[]⟩ [("script",u)])/\∀base:Heap,(K w.params).In base->base.Ns mainGlobals mg->wu l.prog w (K w.params) mg base dO 13 fa fd ["script"] (BB<|K w.params)):W.WalkO q loose XP YP l.row.toRowW d [] (λf vs=>PySem.call f vs):=L2.zkr (n:=63) (k:=13) (x:="script") (CX:=λ_=>dO) (sp:=λw=>BB<|K w.params) hn (by decide) tI ⟨rfl,by decide,by decide⟩ hY F (λ_ _ a ns hl _ hS=>⟨a,ns,rfl,hS,hl,λ_=>rfl⟩) λ_ _ _ _ _ z=>z
end K12
open PySem PySem.W PyProof.Rows
namespace PySem.W.Fast
def tw2128543922365096703:=0
def tw17670185768551172871:=0
def tw8418254967016270523:=0
def tw18329522975879444139:=0
def tw13252688841381716805:=0
def tw495331972792383299:=0
def tw13906515921104352067:=0
def tw491259297169936671:=0
def tw6164728175723342015:=0
def tw16596196190077730158:=0
def tw13400710476149808943:=0
def tw10860847630300296566:=0
def tw11550955597939429054:=0
def tw12228391511438503145:=0
def tw12905008099629990253:=0
def tw11865703283793188527:=0
def tw11614600462121578102:=0
def tw12137687155670203355:=0
def tw1538867586056721500:=0
def tw3156008143163358286:=0
def tw15186209664534072832:=0
def tw6570019204619220852:=0
end PySem.W.Fast
set_option maxRecDepth 100000 in
set_option maxHeartbeats 0 in
theorem PySem.Challenge.cw_wordscales_k12_whole_the_smallest_machin_holds : PySem.Challenge.rw_wordscales_k12_whole_the_smallest_machin.Holds := by
 w_on;o_law;k_head;(case hw=>w_witness2)
 k_fill
 refine K12.walk (l:=PySem.Challenge.rw_wordscales_k12_whole_the_smallest_machin) rfl rfl (λw h Y=>PySem.W.kIn_of Y) ?F;case F=>
  intro w mg fa h KX G hmg;refine' K12.all_mk KX G hmg ?ad ?aL ?aCS ?pgS ?hdS ?poS ?saS ?mkS ?kcS ?nS_free ?nS_taken ?nS_checks ?nS_pivot ?aCR ?pgR ?hdR ?poR ?saR ?mkR ?kcR ?nR_steps ?nR_span ?nR_words ?nR_rows ?nR_waiting ?nR_asked ?m1 ?m2 ?m3 ?m4 ?m5 ?m6 ?m7 ?m8 ?zs ?g_1 ?gl1 ?g_2 ?gl2 ?g_3 ?gl3;case aL=>
   refine' K12.zlQ ?a ?l ?c ?k;case a=>delta K12.NI;k_is
   case l=>delta K12.LK;k_is
   case c=>delta K12.CI;k_is
   case k=>delta K12.KI;k_is
  case ad=>
   repeat
    refine K12.zgP ?h ?_;case h=>
     refine' K12.zlQ ?a ?l ?c ?k;case a=>delta K12.NI;k_is
     case l=>delta K12.LK;k_is
     case c=>delta K12.CI;k_is
     case k=>delta K12.KI;k_is
   exact K12.zje
  case aCS|pgS|hdS|poS|saS|mkS|kcS|aCR|pgR|hdR|poR|saR|mkR|kcR|g_1|gl1|g_2|gl2|g_3|gl3=>k_is
  case nS_free|nS_taken|nS_checks|nS_pivot|nR_steps|nR_span|nR_words|nR_rows|nR_waiting|nR_asked=>delta K12.FI0;k_is
  case m1|m2|m3|m4|m5|m6|m7|m8=>
   refine' K12.znM ?a ?i ?l ?c ?k;case a=>k_is
   case i=>k_is
   case l=>delta K12.LK;k_is
   case c=>delta K12.CI;k_is
   case k=>delta K12.KI;k_is
  case zs=>
   repeat (refine K12.zgA (by k_is) ?_)
   exact K12.zjf
#print axioms PySem.Challenge.cw_wordscales_k12_whole_the_smallest_machin_holds
