/- a part of the proof in YtcefiamkoincoaaGreatFoundProof -/
import Derived.Laws.AppendOwnNone
import Derived.Test.YtcefiamkoincoaaGreatPk04
set_option maxRecDepth 100000
set_option maxHeartbeats 40000000
set_option linter.unusedVariables false
set_option linter.unusedSimpArgs false
namespace Go.Proofs.YtcefiamkoincoaaGreat
open Go.RowKit
structure RMV where
 cl:Int
 nm:Int
 pa:Option Addr
 pl:Nat
 pc:Nat
 r1:Int
 r2:Int
 lo:Int
 st:Int
 code:ByteArray
 ha:Option Addr
 hl:Nat
 hc:Nat
 ma:Option Addr
 ml:Nat
 mc:Nat
 mAt:Int
 fin:Int
def RMV.val (m:RMV):Value:=.agg #[.int .i64 m.cl,.int .i64 m.nm,.slice m.pa m.pl m.pc,.int .i64 m.r1,.int .i64 m.r2,.int .i64 m.lo,.int .i64 m.st,.string m.code,.slice m.ha m.hl m.hc,.slice m.ma m.ml m.mc,.int .i64 m.mAt,.int .i64 m.fin]
def RMV.obj (m:RMV):Obj:=.cells #[.int .i64 m.cl,.int .i64 m.nm,.slice m.pa m.pl m.pc,.int .i64 m.r1,.int .i64 m.r2,.int .i64 m.lo,.int .i64 m.st,.string m.code,.slice m.ha m.hl m.hc,.slice m.ma m.ml m.mc,.int .i64 m.mAt,.int .i64 m.fin] 52 (0,0)
def An (s:ByteArray):List Int:=s.data.toList.map fun c=>(c.toNat:Int)
theorem D9 (s:ByteArray):(An s).length=s.size:=by simp [An]
theorem Hm (s:ByteArray) (p:Nat) (h:p < s.size):(An s).getD p 0=(s[p].toNat:Int):=by
 have h':p < s.data.toList.length:=by simpa using h
 simp [An,List.getD_eq_getElem?_getD,h];rfl
theorem W5 (op:Int) (w:World):Calls Tryz.prog 93 #[.int .i64 op] w fun e w'=>e=.returned (.int .i64 (Cd.wd op:Int))∧w'=w:=by
 unfold Cd.wd;by_cases h:op=0∨op=2∨op=3∨(11≤op∧op≤21)
 ·rw [if_pos h];have h':op=0∨op=2∨op=3∨op=11∨op=12∨op=13∨op=14∨op=15∨op=16∨op=17∨op=18∨op=19∨op=20∨op=21:=by omega
  clear h;rcases h' with rfl | rfl | rfl | rfl | rfl | rfl | rfl | rfl | rfl | rfl | rfl | rfl | rfl | rfl
  all_goals
   go_enter Tryz.func93,Tryz.ntmps93;go_wp2;go_ret;exact ⟨rfl,rfl⟩
 ·rw [if_neg h];have n0:(op == 0)=false:=by simp;omega
  have n2:(op == 2)=false:=by simp;omega
  have n3:(op == 3)=false:=by simp;omega
  have n11:(op == 11)=false:=by simp;omega
  have n12:(op == 12)=false:=by simp;omega
  have n13:(op == 13)=false:=by simp;omega
  have n14:(op == 14)=false:=by simp;omega
  have n15:(op == 15)=false:=by simp;omega
  have n16:(op == 16)=false:=by simp;omega
  have n17:(op == 17)=false:=by simp;omega
  have n18:(op == 18)=false:=by simp;omega
  have n19:(op == 19)=false:=by simp;omega
  have n20:(op == 20)=false:=by simp;omega
  have n21:(op == 21)=false:=by simp;omega
  clear h;go_enter Tryz.func93,Tryz.ntmps93;go_wp2;go_ret;exact ⟨rfl,rfl⟩
theorem Iu (m:RMV) (p:Nat) (w:World) (hp:p < m.code.size) (hs:m.code.size≤100000) :
  Calls Tryz.prog 55 #[m.val,.int .i64 (p:Int)] w fun e w'=>e=.returned (.int .i64 ((p+Cd.wd ((An m.code).getD p 0):Nat):Int))∧Below w.heap.size w w':=by
 rw [Hm _ _ hp];obtain ⟨cl,nm,pa,pl,pc,r1,r2,lo,st,code,ha,hl,hc,ma,ml,mc,mAt,fin⟩:=m;simp only [RMV.val] at hp hs ⊢;have hb:=Cd.wd_bd ((code[p].toNat:Int));generalize hwd:Cd.wd ((code[p].toNat:Int))=d at *;have HWD:=Ac hwd;clear hwd;have hp':(p:Int) < (code.size:Int):=by omega
 have hwb:∀ c:UInt8,IntKind.i64.wrap (c.toNat:Int)=(c.toNat:Int):=fun c=>Eg _ (by omega) (by have:=c.toNat_lt;omega);go_enter Tryz.func55,Tryz.ntmps55;go_wp2_with (go_at_call 93;refine (W5 _ _).mono ?_;rw [Aa HWD];rintro e w1 ⟨rfl,rfl⟩)
 go_ret;exact ⟨by simp,(Below.refl _ _).alloc (Nat.le_refl _) _⟩
theorem X7 (m:RMV) (p:Nat) (w:World) (hp:p < m.code.size) (hs:m.code.size≤100000) :
  Calls Tryz.prog 94 #[m.val,.int .i64 (p:Int)] w fun e w'=>e=.returned (.int .i64 (Rf.at' m.code.data.toList ((p:Int)+1)))∧Below w.heap.size w w':=by
 obtain ⟨cl,nm,pa,pl,pc,r1,r2,lo,st,code,ha,hl,hc,ma,ml,mc,mAt,fin⟩:=m;simp only [RMV.val] at hp hs ⊢;generalize hr:Rf.at' code.data.toList ((p:Int)+1)=r;have HR:=Ac hr;clear hr;have hsm:code.size≤maxLen:=by unfold maxLen;omega
 go_enter Tryz.func94,Tryz.ntmps94;go_wp2_with (go_at_call 89;refine (Bc code ((p:Int)+1) _ hsm).mono ?_;rw [Aa HR];rintro e w1 ⟨rfl,rfl⟩)
 go_ret;exact ⟨rfl,(Below.refl _ _).alloc (Nat.le_refl _) _⟩
theorem Fj (m:RMV) (place:Int) (w:World) (hs:m.code.size≤100000) :
  Calls Tryz.prog 57 #[m.val,.int .i64 place] w fun e w'=>e=.returned (.bool (Cd.begB (An m.code) place))∧Below w.heap.size w w':=by
 have hN:=fun p w hp=>Iu m p w hp hs;have hB0:Below w.heap.size w (w.alloc m.obj):=(Below.refl _ _).alloc (Nat.le_refl _) _;have hx0:=Ad w m.obj;unfold Cd.begB Cd.places;generalize hr:(Cd.starts (An m.code) (An m.code).length 0).any (fun p=>(p:Int) == place)=r;have HR:=Ac hr;clear hr;have hl:=D9 m.code;obtain ⟨cl,nm,pa,pl,pc,r1,r2,lo,st,code,ha,hl',hc,ma,ml,mc,mAt,fin⟩:=m;simp only [RMV.val,RMV.obj] at hN hB0 hx0 hs hl HR ⊢;have HN:=Ac hN;have HL:=Ac hl;clear hN;go_enter Tryz.func57,Tryz.ntmps57;go_wp2
 go_loopw [5] (fun v wr=>∃ p k:Nat,v=.int .i64 (p:Int)∧(An code).length≤p+k∧p≤200000∧Hid ((Cd.starts (An code) k p).any (fun p=>(p:Int) == place)=r)∧Below w.heap.size w wr ∧
   wr.heap[w.heap.size]?=some (.cells #[.int .i64 cl,.int .i64 nm,.slice pa pl pc,.int .i64 r1,.int .i64 r2,.int .i64 lo,.int .i64 st,.string code,.slice ha hl' hc,.slice ma ml mc,.int .i64 mAt,.int .i64 fin] 52 (0,0)))
  (fun v _=>code.size - (intOf v).toNat)
 case atStart=>exact ⟨0,_,rfl,by omega,by omega,HR,hB0,hx0⟩
 case round =>
  clear hB0 hx0 HR;obtain ⟨p,k,rfl,hk,hp2,HR,hB,hx⟩:=hrel;obtain ⟨c0,c1,c2,c3,c4,c5,c6,c7,c8,c9,c10,c11⟩:=Ax hx;simp at c0 c1 c2 c3 c4 c5 c6 c7 c8 c9 c10 c11;have hBs:=hB.size;by_cases hpn:p < code.size
  ·obtain ⟨j,rfl,hj,hst⟩:=Cd.starts_go (c:=An code) (k:=k) (p:=p) (by omega) hk;have hr:=Aa HR;rw [hst,List.any_cons] at hr;have hp':(p:Int) < (code.size:Int):=by omega
   by_cases hpl:(p:Int)=place
   ·have hpl':((p:Int) == place)=true:=by simp [hpl]
    have HF:Hid (r=true):=by unfold Hid;rw [← hr,hpl'];rfl
    clear hr hpl hst HR hj;go_wp2;go_ret;exact ⟨by rw [Aa HF];rfl,hB⟩
   ·have hpl':((p:Int) == place)=false:=by simp [hpl]
    rw [hpl',Bool.false_or] at hr;have hwd:=Cd.wd_bd ((An code).getD p 0);have hn:=Aa HN p wr hpn;generalize Cd.wd ((An code).getD p 0)=d at *;have HF:=Ac hr;have HNN:=Ac hn;clear hr hpl hst HR hn;go_wp2_with fail
    refine (Aa HNN).mono ?_;rintro e w1 ⟨rfl,hb1⟩;have hB1:=hB.trans (hb1.mono hBs);have hx1:=stay hb1 hx;clear hb1 hx hB c0 c1 c2 c3 c4 c5 c6 c7 c8 c9 c10 c11;go_wp2
    go_roundw
    case rel=>exact ⟨p+d,j,rfl,hj,by omega,HF,hB1,hx1⟩
    case measure=>simp [intOf];omega
  ·have hr:=Aa HR;rw [Cd.starts_end (by omega)] at hr;have HF:=Ac hr;have hp':¬ (p:Int) < (code.size:Int):=by omega
   clear hr HR;go_wp2;go_ret;exact ⟨by rw [← Aa HF];rfl,hB⟩
theorem Qa (m:RMV) (w:World) (hs:m.code.size≤100000) :
  Calls Tryz.prog 54 #[m.val] w fun e w'=>e=.returned (.int .i64 (Cd.unread (An m.code)))∧Below w.heap.size w w':=by
 have hN:=fun p w hp=>Iu m p w hp hs;have hB0:Below w.heap.size w (w.alloc m.obj):=(Below.refl _ _).alloc (Nat.le_refl _) _;have hx0:=Ad w m.obj;unfold Cd.unread Cd.places;generalize hr:Cd.first (Cd.noRead (An m.code)) (Cd.starts (An m.code) (An m.code).length 0)=r
 have HR:=Ac hr;clear hr;have hl:=D9 m.code;obtain ⟨cl,nm,pa,pl,pc,r1,r2,lo,st,code,ha,hl',hc,ma,ml,mc,mAt,fin⟩:=m;simp only [RMV.val,RMV.obj] at hN hB0 hx0 hs hl HR ⊢;have HN:=Ac hN;have HL:=Ac hl;clear hN;go_enter Tryz.func54,Tryz.ntmps54;go_wp2
 go_loopw [3] (fun v wr=>∃ p k:Nat,v=.int .i64 (p:Int)∧(An code).length≤p+k∧p≤200000∧Hid (Cd.first (Cd.noRead (An code)) (Cd.starts (An code) k p)=r)∧Below w.heap.size w wr ∧
   wr.heap[w.heap.size]?=some (.cells #[.int .i64 cl,.int .i64 nm,.slice pa pl pc,.int .i64 r1,.int .i64 r2,.int .i64 lo,.int .i64 st,.string code,.slice ha hl' hc,.slice ma ml mc,.int .i64 mAt,.int .i64 fin] 52 (0,0)))
  (fun v _=>code.size - (intOf v).toNat)
 case atStart=>exact ⟨0,_,rfl,by omega,by omega,HR,hB0,hx0⟩
 case round =>
  clear hB0 hx0 HR;obtain ⟨p,k,rfl,hk,hp2,HR,hB,hx⟩:=hrel;obtain ⟨c0,c1,c2,c3,c4,c5,c6,c7,c8,c9,c10,c11⟩:=Ax hx;simp at c0 c1 c2 c3 c4 c5 c6 c7 c8 c9 c10 c11;have hBs:=hB.size;by_cases hpn:p < code.size
  ·obtain ⟨j,rfl,hj,hst⟩:=Cd.starts_go (c:=An code) (k:=k) (p:=p) (by omega) hk;have hr:=Aa HR;rw [hst,Cd.first] at hr
   have hp':(p:Int) < (code.size:Int):=by omega
   have hwd:=Cd.wd_bd ((An code).getD p 0);have hn:=fun w=>Aa HN p w hpn;have hnr:Cd.noRead (An code) p=(decide (25 < code[p].toNat) || decide (code.size < p+Cd.wd ((An code).getD p 0))):=by
    unfold Cd.noRead;rw [Hm code p hpn,hl]
    congr 1
    simp only [decide_eq_decide];omega
   rw [hnr] at hr;generalize Cd.wd ((An code).getD p 0)=d at *;have HNN:=Ac hn;by_cases h1:25 < code[p].toNat
   ·have h1':(25:Int) < (code[p].toNat:Int):=by omega
    have HF:Hid ((p:Int)=r):=by unfold Hid;rw [← hr];simp [h1]
    clear hr hst HR hn hnr;go_wp2_with fail
    refine (Aa HNN _).mono ?_;rintro e w1 ⟨rfl,hb1⟩;have hB1:=hB.trans (hb1.mono hBs);have c7':=Ab (stay hb1 hx) 7;simp at c7';clear hb1 hx hB c0 c1 c2 c3 c4 c5 c6 c7 c8 c9 c10 c11;go_wp2;go_ret;exact ⟨by rw [← Aa HF];rfl,hB1⟩
   ·have h1':¬ (25:Int) < (code[p].toNat:Int):=by omega
    by_cases h2:code.size < p+d
    ·have h2':(code.size:Int) < ((p+d:Nat):Int):=by omega
     have HF:Hid ((p:Int)=r):=by unfold Hid;rw [← hr];simp [h2]
     clear hr hst HR hn hnr;go_wp2_with fail
     refine (Aa HNN _).mono ?_;rintro e w1 ⟨rfl,hb1⟩;have hB1:=hB.trans (hb1.mono hBs);have c7':=Ab (stay hb1 hx) 7;simp at c7';clear hb1 hx hB c0 c1 c2 c3 c4 c5 c6 c7 c8 c9 c10 c11;go_wp2;go_ret;exact ⟨by rw [← Aa HF];rfl,hB1⟩
    ·have h2':¬ (code.size:Int) < ((p+d:Nat):Int):=by omega
     have HF:Hid (Cd.first (Cd.noRead (An code)) (Cd.starts (An code) j (p+d))=r):=by unfold Hid;rw [← hr];simp [h1,h2]
     clear hr hst HR hn hnr;go_wp2_with fail
     refine (Aa HNN _).mono ?_;rintro e w1 ⟨rfl,hb1⟩;have hB1:=hB.trans (hb1.mono hBs);have hx1:=stay hb1 hx;obtain ⟨e0,e1,e2,e3,e4,e5,e6,e7,e8,e9,e10,e11⟩:=Ax hx1;simp at e0 e1 e2 e3 e4 e5 e6 e7 e8 e9 e10 e11;clear hb1 hx hB c0 c1 c2 c3 c4 c5 c6 c7 c8 c9 c10 c11;go_wp2_with fail
     refine (Aa HNN _).mono ?_;rintro e w2 ⟨rfl,hb2⟩;have hB2:=QB hB1 hb2;have hx2:=stay hb2 hx1;clear hb2 hx1 hB1 e0 e1 e2 e3 e4 e5 e6 e7 e8 e9 e10 e11;go_wp2
     go_roundw
     case rel=>exact ⟨p+d,j,rfl,hj,by omega,HF,hB2,hx2⟩
     case measure=>simp [intOf];omega
  ·have hr:=Aa HR;rw [Cd.starts_end (by omega)] at hr;have HF:=Ac hr;have hp':¬ (p:Int) < (code.size:Int):=by omega
   clear hr HR;go_wp2;go_ret;exact ⟨by rw [← Aa HF];rfl,hB⟩
theorem Fy (l:List (Int × Int)):(Al l).length=l.length * 2:=by
 induction l with
 | nil=>rfl
 | cons x r ih=>simp [Al] at ih ⊢;omega
theorem Dv (l r:List (Int × Int)):Al (l ++ r)=Al l ++ Al r:=by simp [Al]
theorem Lm (l:List (Int × Int)):∀ u∈Al l,u.oneCell'=true:=by
 intro u hu;simp only [Al,List.mem_flatMap,List.mem_cons,List.not_mem_nil,or_false] at hu;obtain ⟨x,_,rfl | rfl⟩:=hu <;> rfl
theorem Tc {w:World}{ops:Array Oper}{rest:List Oper}{o:Oper}{a:Act}{Q:Exit→Act→World→Prop} (hgd:o.guard=none) (s x:Operand)
  (ho:o.op=.call { callee:=.builtin .append,args:=#[s,x],argTypes:=#[48,48] })
  (base bb:Nat) (v:Value) (xs ys:List (Int × Int)) (va:Option Addr) (vl vc:Nat) (hs:a.eval s=v) (hown:w.ownsRow base 39 2 v xs.length (Al xs)) (hx:a.eval x=.slice va vl vc) (hy:TysAt w bb (.slice va vl vc) ys)
  (h1:xs.length+ys.length≤100000) (hbase:base≤w.heap.size)
  (h:∀ v' w',w'.ownsRow base 39 2 v' (xs ++ ys).length (Al (xs ++ ys))→w.grownBy w' v.ownBlock→wpList Tryz.prog ops Q rest (a.put o.dst v') w'):wpList Tryz.prog ops Q (o :: rest) a w:=by
 obtain ⟨i0,hi,hz0,hz1,hz2⟩:=info_parts Tryz.infoType;obtain ⟨hl,⟨hv,hn⟩ | ⟨g,cap,cur,hv,hb,hg,hlen,hm,hsz,htk⟩⟩:=hy
 ·have hy0:ys=[]:=List.eq_nil_of_length_eq_zero hn;subst hy0;refine wpList_append_own_none hgd s x _ ho base 39 i0 2 Tryz.underlying48 hi v _ _ hs hown (hx.trans hv) ?_;exact h v w (by simpa using hown) (World.grownBy.refl _ _)
 ·have hvv:(Value.slice va vl vc)=.slice (some ⟨g,0,none⟩) ys.length cap:=hv;refine wpList_append_own w hgd s x _ ho base 39 i0 _ 2 16 Tryz.underlying48 hi hz0 hz1 hz2 rfl (by omega) v _ _ hs hown ⟨g,0,none⟩ ys.length cap (Al ys) (hx.trans hvv) (Fy ys) ?_ (Lm ys) (by unfold maxLen;omega) (by omega) hbase ?_
  ·intro j u hu;have hj:j < (Al ys).length:=(List.getElem?_eq_some_iff.1 hu).1;rw [Addr.add_lit,Nat.zero_add,Ab hg,← hu,← htk,List.getElem?_take,if_pos (by rw [hl] at hj;exact hj)]
   simp
  ·intro v' w' ho' hg' _;exact h v' w' (by rw [List.length_append,Dv];exact ho') hg'
def Rf.allTo (T:List Int) (cs:List Rd.Cls) (c:Int):Nat→List (Int × Int)
 | 0=>[]
 | d+1=>Rf.allTo T cs c d ++ (if Tr.rbel T c (d:Int)=true then (cs.getD d ⟨0,[]⟩).fields else [])
def Rf.all (T:List Int) (cs:List Rd.Cls) (c:Nat):List (Int × Int):=Rf.allTo T cs (c:Int) (c+1)
theorem Nh (T:List Int) (cs:List Rd.Cls) (c:Int) (hf:∀ p∈cs,p.fields.length≤1000) (d:Nat):(Rf.allTo T cs c d).length≤1000 * d:=by
 induction d with
 | zero=>simp [Rf.allTo]
 | succ k ih =>
  rw [Rf.allTo,List.length_append];have:(cs.getD k ⟨0,[]⟩).fields.length≤1000:=by
   rw [List.getD_eq_getElem?_getD];rcases h:cs[k]? with _ | x
   ·simp
   ·simp;exact hf x (List.mem_of_getElem? h)
  split
  ·omega
  ·rw [List.length_nil];omega
theorem Wq (a1 a2:Option Addr) (c1 n2 c2 bb:Nat) (l:List (Rd.Cls × Value)) (c:Nat) (w:World) (hl:l.length≤13) (hcl:c < l.length) (hfl:∀ p∈l,p.1.fields.length≤1000) (hc:RClssIn w bb (.slice a1 l.length c1) l) :
  Calls Tryz.prog 137 #[.agg #[.slice a1 l.length c1,.slice a2 n2 c2],.int .i64 (c:Int)] w fun e w' =>
   ∃ va vc,e=.returned (.slice va (Rf.all (Ap l) (l.map Prod.fst) c).length vc)∧TysAt w' w.heap.size (.slice va (Rf.all (Ap l) (l.map Prod.fst) c).length vc) (Rf.all (Ap l) (l.map Prod.fst) c)∧Below w.heap.size w w':=by
 have hall:=fun d=>Nh (Ap l) (l.map Prod.fst) (c:Int) (by intro p hp;obtain ⟨x,hx,rfl⟩:=List.mem_map.1 hp;exact hfl x hx) d;have hB0:Below (w.heap.size+1) (w.alloc (.cells #[.slice a1 l.length c1,.slice a2 n2 c2] 44)) (w.alloc (.cells #[.slice a1 l.length c1,.slice a2 n2 c2] 44)):=Below.refl _ _;unfold Rf.all;go_enter Tryz.func137,Tryz.ntmps137;go_wp2
 go_loopw [5,6] (fun v i wr=>∃ d:Nat,d≤c+1∧i=.int .i64 (d:Int)∧wr.ownsRow (w.heap.size+1) 39 2 v (Rf.allTo (Ap l) (l.map Prod.fst) (c:Int) d).length (Al (Rf.allTo (Ap l) (l.map Prod.fst) (c:Int) d)) ∧
   Below (w.heap.size+1) (w.alloc (.cells #[.slice a1 l.length c1,.slice a2 n2 c2] 44)) wr)
  (fun _ i _=>c+1 - (intOf i).toNat)
 case atStart=>exact ⟨0,by omega,rfl,World.ownsRow_nil _ _ _ _,hB0⟩
 case round =>
  clear hB0;obtain ⟨d,hd,rfl,hown,hbl⟩:=hrel;obtain ⟨va,vc,rfl⟩:=Ae hown;have hsz:=hbl.size;simp at hsz;have hB:Below w.heap.size w wr:=((Below.refl _ _).alloc (Nat.le_refl _) _).trans (hbl.mono (by omega));have F0:=(hbl.block w.heap.size (by omega)).trans (Ad w _);obtain ⟨x0,x1⟩:=cl2 F0;simp at x0 x1;have hcr:=hc.kp (Kp.of_below (e:=none) hB) (by decide) (by decide);have hlen1:=hall d;by_cases hdn:d≤c
  ·have hdl:d < l.length:=by omega
   have hd1:(d:Int)≤(c:Int):=by omega
   have hd2:(d:Int) < (l.length:Int):=by omega
   have hstep:Rf.allTo (Ap l) (l.map Prod.fst) (c:Int) (d+1)=Rf.allTo (Ap l) (l.map Prod.fst) (c:Int) d ++ (if Tr.rbel (Ap l) (c:Int) (d:Int)=true then l[d].1.fields else []):=by
    rw [Rf.allTo]
    congr 2
    simp [List.getD_eq_getElem?_getD,hdl]
   obtain ⟨g,hg,hglt,_,hcell⟩:=Am hcr.1 (by omega);obtain ⟨e1,e2,e3⟩:=Cs l d hdl;have htd:=hcr.2 _ (List.getElem_mem hdl);have hfd:=hfl _ (List.getElem_mem hdl);obtain ⟨ua,uc,hu⟩:=Ae htd;rw [hu] at htd;generalize hfs:l[d].1.fields=fs at *;generalize hcur:Rf.allTo (Ap l) (l.map Prod.fst) (c:Int) d=cur at *;generalize hb:Tr.rbel (Ap l) (c:Int) (d:Int)=b at hstep;have HB:=Ac hb;have HCR:=Ac hcr;have HCE:=Ac hcell;have HE2:Hid ((Bw l)[d * 2+1]?=some (.slice ua fs.length uc)):=by unfold Hid;rw [e2,hu]
   have HE3:=Ac e3;clear hb hcr hcell e1 e2 e3 hu hfs hcur;subst hg;cases b with
   | false =>
    have HS:Hid (Rf.allTo (Ap l) (l.map Prod.fst) (c:Int) (d+1)=cur):=by unfold Hid;rw [hstep];simp
    clear hstep;go_wp2_with fail
    refine (Du (some ⟨g,0,none⟩) a2 c1 n2 c2 bb l (c:Int) (d:Int) wr (by omega) (Aa HCR)).mono ?_;rw [Aa HB];rintro e w1 ⟨rfl,hb1⟩;have hbl1:=hbl.trans (hb1.mono (by omega));have hown1:=Au hown (Kp.of_below (e:=none) hb1) (by decide);clear hb1 hbl hown hB F0 x0 x1 HCR HCE;go_wp2
    go_roundw
    case rel=>exact ⟨d+1,by omega,by go_num,by rw [Aa HS];exact hown1,hbl1⟩
    case measure=>simp [intOf];omega
   | true =>
    have HS:Hid (Rf.allTo (Ap l) (l.map Prod.fst) (c:Int) (d+1)=cur ++ fs):=by unfold Hid;rw [hstep];simp
    clear hstep;go_wp2_with fail
    refine (Du (some ⟨g,0,none⟩) a2 c1 n2 c2 bb l (c:Int) (d:Int) wr (by omega) (Aa HCR)).mono ?_;rw [Aa HB];rintro e w1 ⟨rfl,hb1⟩;have hbl1:=hbl.trans (hb1.mono (by omega));have hown1:=Au hown (Kp.of_below (e:=none) hb1) (by decide);have htd1:=htd.kp (Kp.of_below (e:=none) hb1) (by decide);have F1:=stay hb1 F0;have y0:=Ab F1 0;have z1:w1.cell? ⟨g,d * 2+1,none⟩=some (.slice ua fs.length uc):=(hb1.cell hglt).trans ((Aa HCE _ (Aa HE3)).trans (Aa HE2));have hs1:=hbl1.size;simp at y0 hs1;have hlc:cur.length+fs.length≤100000:=by omega
    clear hb1 hbl hown hB F0 F1 x0 x1 HCR HCE;go_wp2_with (at_builtin;refine Tc rfl _ _ rfl (w.heap.size+1) bb _ cur fs ua fs.length uc rfl hown1 rfl htd1 hlc (by omega) ?_)
    intro v' w2 hown2 hgrow;have hbl2:=hbl1.grown hgrow (by omega) (fun j hj=>(hown1.lt j hj).1);clear hgrow hown1 hbl1;go_wp2
    go_roundw
    case rel=>exact ⟨d+1,by omega,by go_num,by rw [Aa HS,List.length_append];exact hown2,hbl2⟩
    case measure=>simp [intOf];omega
  ·obtain rfl:d=c+1:=by omega
   have hd1:¬ ((c+1:Nat):Int)≤(c:Int):=by omega
   go_wp2;go_ret;exact ⟨va,vc,rfl,A8 hown (by omega),hB⟩
theorem Tryz.infoField:(Tryz.prog.info? 231).map (fun i=>(i.zero,i.size,i.bytes))=some (some (.agg #[.int .i64 0,.int .i64 0,.int .i64 0,.int .i64 0]),4,32):=by kernel_rfl
structure Rf.Fld where
 owner:Int
 slot:Int
 t:Int × Int
def Gj (l:List Rf.Fld):List Value:=l.flatMap fun x=>[.int .i64 x.owner,.int .i64 x.slot,.int .i64 x.t.1,.int .i64 x.t.2]
theorem Qq (l:List Rf.Fld) (x:Rf.Fld):Gj (l ++ [x])=Gj l ++ [.int .i64 x.owner,.int .i64 x.slot,.int .i64 x.t.1,.int .i64 x.t.2]:=by simp [Gj]
def Rf.ownTo (c base:Int) (own:List (Int × Int)):Nat→List Rf.Fld
 | 0=>[]
 | k+1=>Rf.ownTo c base own k ++ [⟨c,base+(k:Int),own.getD k (0,0)⟩]
def Rf.ownOf (T:List Int) (cs:List Rd.Cls) (c:Nat):List Rf.Fld :=
 Rf.ownTo (c:Int) (((Rf.all T cs c).length:Int) - (((cs.getD c ⟨0,[]⟩).fields.length:Nat):Int)) (cs.getD c ⟨0,[]⟩).fields (cs.getD c ⟨0,[]⟩).fields.length
def Rf.fieldsTo (T:List Int) (cs:List Rd.Cls):Nat→List Rf.Fld
 | 0=>[]
 | j+1=>Rf.fieldsTo T cs j ++ Rf.ownOf T cs (7+j)
theorem Dm (c base:Int) (own:List (Int × Int)) (k:Nat):(Rf.ownTo c base own k).length=k:=by
 induction k with
 | zero=>rfl
 | succ j ih=>simp [Rf.ownTo,ih]
theorem Pi (T:List Int) (cs:List Rd.Cls) (hf:∀ p∈cs,p.fields.length≤1000) (j:Nat):(Rf.fieldsTo T cs j).length≤1000 * j:=by
 induction j with
 | zero=>simp [Rf.fieldsTo]
 | succ k ih =>
  rw [Rf.fieldsTo,List.length_append,Rf.ownOf,Dm];have:(cs.getD (7+k) ⟨0,[]⟩).fields.length≤1000:=by
   rw [List.getD_eq_getElem?_getD];rcases h:cs[7+k]? with _ | x
   ·simp
   ·simp;exact hf x (List.mem_of_getElem? h)
  omega
theorem Ql (a1 a2:Option Addr) (c1 n2 c2 bb:Nat) (l:List (Rd.Cls × Value)) (w:World) (hl:l.length≤13) (hl7:7≤l.length) (hfl:∀ p∈l,p.1.fields.length≤1000) (hc:RClssIn w bb (.slice a1 l.length c1) l) :
  Calls Tryz.prog 95 #[.agg #[.slice a1 l.length c1,.slice a2 n2 c2]] w fun e w' =>
   ∃ va vc,e=.returned (.slice va (Rf.fieldsTo (Ap l) (l.map Prod.fst) (l.length - 7)).length vc) ∧
    w'.ownsRow w.heap.size 231 4 (.slice va (Rf.fieldsTo (Ap l) (l.map Prod.fst) (l.length - 7)).length vc) (Rf.fieldsTo (Ap l) (l.map Prod.fst) (l.length - 7)).length (Gj (Rf.fieldsTo (Ap l) (l.map Prod.fst) (l.length - 7)))∧Below w.heap.size w w':=by
 have hfm:∀ p∈l.map Prod.fst,p.fields.length≤1000:=by intro p hp;obtain ⟨x,hx,rfl⟩:=List.mem_map.1 hp;exact hfl x hx
 have hft:=fun j=>Pi (Ap l) (l.map Prod.fst) hfm j;have hat:=fun (c:Nat) d=>Nh (Ap l) (l.map Prod.fst) (c:Int) hfm d;obtain ⟨i0,hi,hz0,hz1,hz2⟩:=info_parts Tryz.infoField;have hB0:Below (w.heap.size+1) (w.alloc (.cells #[.slice a1 l.length c1,.slice a2 n2 c2] 44)) (w.alloc (.cells #[.slice a1 l.length c1,.slice a2 n2 c2] 44)):=Below.refl _ _;go_enter Tryz.func95,Tryz.ntmps95;go_wp2
 go_loopw [3,4] (fun v i wr=>∃ j:Nat,7+j≤l.length∧i=.int .i64 (7+(j:Int))∧wr.ownsRow (w.heap.size+1) 231 4 v (Rf.fieldsTo (Ap l) (l.map Prod.fst) j).length (Gj (Rf.fieldsTo (Ap l) (l.map Prod.fst) j)) ∧
   Below (w.heap.size+1) (w.alloc (.cells #[.slice a1 l.length c1,.slice a2 n2 c2] 44)) wr)
  (fun _ i _=>l.length - (intOf i).toNat)
 case atStart=>exact ⟨0,by omega,rfl,World.ownsRow_nil _ _ _ _,hB0⟩
 case round =>
  clear hB0;obtain ⟨j,hj,rfl,hown,hbl⟩:=hrel;obtain ⟨va,vc,rfl⟩:=Ae hown;have hsz:=hbl.size;simp at hsz;have hB:Below w.heap.size w wr:=((Below.refl _ _).alloc (Nat.le_refl _) _).trans (hbl.mono (by omega));have F0:=(hbl.block w.heap.size (by omega)).trans (Ad w _);obtain ⟨x0,x1⟩:=cl2 F0;simp at x0 x1;by_cases hjn:7+j < l.length
  ·have hcr:=hc.kp (Kp.of_below (e:=none) hB) (by decide) (by decide);have hd2:(7:Int)+(j:Int) < (l.length:Int):=by omega
   obtain ⟨g,hg,hglt,_,hcell⟩:=Am hcr.1 (by omega);obtain ⟨e1,e2,e3⟩:=Cs l (7+j) hjn;have y1:=(hcell _ e3).trans e2;have htd:=hcr.2 _ (List.getElem_mem hjn);have hfd:=hfl _ (List.getElem_mem hjn);obtain ⟨ua,uc,hu⟩:=Ae htd;rw [hu] at htd y1;have hlen1:=hft j;have hlen2:=hat (7+j) (7+j+1);have hstep:Rf.fieldsTo (Ap l) (l.map Prod.fst) (j+1)=Rf.fieldsTo (Ap l) (l.map Prod.fst) j ++ Rf.ownTo ((7+j:Nat):Int) (((Rf.all (Ap l) (l.map Prod.fst) (7+j)).length:Int) - ((l[7+j].1.fields.length:Nat):Int)) l[7+j].1.fields l[7+j].1.fields.length:=by
    rw [Rf.fieldsTo,Rf.ownOf];have:(l.map Prod.fst).getD (7+j) ⟨0,[]⟩=l[7+j].1:=by simp [List.getD_eq_getElem?_getD,hjn]
    rw [this]
   generalize hfs:l[7+j].1.fields=fs at *;generalize hcur:Rf.fieldsTo (Ap l) (l.map Prod.fst) j=cur at *;have it:((7:Int)+(j:Int)).toNat=7+j:=by omega
   have kb0:0≤(7:Int)+(j:Int):=by omega
   have HCR:=Ac hcr;have hA:=fun w1 hc1=>Wq a1 a2 c1 n2 c2 bb l (7+j) w1 hl hjn hfl hc1;rw [show ((7+j:Nat):Int)=7+(j:Int) by omega] at hA;have hlen3:(Rf.all (Ap l) (l.map Prod.fst) (7+j)).length≤1000 * (7+j+1):=hlen2;generalize hal:Rf.all (Ap l) (l.map Prod.fst) (7+j)=al at *;have HA:=Ac hA;have HS:=Ac hstep;clear hcr hcell e1 e2 e3 hu hfs hcur hA hal hlen2 hstep;subst hg;go_wp2_with fail
   refine (Aa HA _ (Aa HCR)).mono ?_;rintro e w1 ⟨la,lc,rfl,_,hb1⟩;have hbl1:=hbl.trans (hb1.mono (by omega));have hown1:=Au hown (Kp.of_below (e:=none) hb1) (by decide);have htd1:=htd.kp (Kp.of_below (e:=none) hb1) (by decide);have F1:=stay hb1 F0;clear hb1 hbl hown hB F0 x0 x1 HCR HA htd y1;go_wp2
   rename World=>w1
   go_loopw [3,7] (fun v i wr=>∃ k:Nat,k≤fs.length∧i=.int .i64 (k:Int)∧wr.ownsRow (w.heap.size+1) 231 4 v (cur ++ Rf.ownTo (7+(j:Int)) ((al.length:Int) - (fs.length:Int)) fs k).length (Gj (cur ++ Rf.ownTo (7+(j:Int)) ((al.length:Int) - (fs.length:Int)) fs k)) ∧
     TysAt wr bb (.slice ua fs.length uc) fs∧wr.heap[w.heap.size]?=some (.cells #[.slice (some ⟨g,0,none⟩) l.length c1,.slice a2 n2 c2] 44 (0,0))∧Below (w.heap.size+1) (w.alloc (.cells #[.slice (some ⟨g,0,none⟩) l.length c1,.slice a2 n2 c2] 44)) wr)
    (fun _ i _=>fs.length - (intOf i).toNat)
   case atStart=>exact ⟨0,by omega,rfl,by simpa [Rf.ownTo] using hown1,htd1,F1,hbl1⟩
   case round =>
    clear hown1 htd1 F1 hbl1;obtain ⟨k,hk,rfl,hown,htd,F0,hbl⟩:=hrel;obtain ⟨va',vc',rfl⟩:=Ae hown;have hsz2:=hbl.size;simp at hsz2;have hol:(Rf.ownTo (7+(j:Int)) ((al.length:Int) - (fs.length:Int)) fs k).length=k:=Dm _ _ _ _;by_cases hkn:k < fs.length
    ·obtain ⟨g2,hg2,hg2lt,_,hcell2⟩:=Am htd (by omega);obtain ⟨t1,t2,t3⟩:=Bd fs k hkn;have u0:=(hcell2 (k * 2) (by omega)).trans t1;have u1:=(hcell2 (k * 2+1) (by omega)).trans t2;have hst:Rf.ownTo (7+(j:Int)) ((al.length:Int) - (fs.length:Int)) fs (k+1)=Rf.ownTo (7+(j:Int)) ((al.length:Int) - (fs.length:Int)) fs k ++ [⟨7+(j:Int),(al.length:Int) - (fs.length:Int)+(k:Int),(fs[k].1,fs[k].2)⟩]:=by
      rw [Rf.ownTo];simp [List.getD_eq_getElem?_getD,hkn]
     generalize hf1:fs[k].1=f1 at *;generalize hf2:fs[k].2=f2 at *;have HST:=Ac hst;have hkb:(k:Int) < (fs.length:Int):=by omega
     have hlx:(cur ++ Rf.ownTo (7+(j:Int)) ((al.length:Int) - (fs.length:Int)) fs k).length≤20000:=by rw [List.length_append,hol];omega
     generalize hxs:cur ++ Rf.ownTo (7+(j:Int)) ((al.length:Int) - (fs.length:Int)) fs k=xs at *;have HXS:=Ac hxs;clear hst hcell2 t1 t2 t3 hf1 hf2 hxs hol;subst hg2;go_wp2_with (at_builtin;refine wpList_append_own _ rfl _ _ 172 rfl (w.heap.size+1) 231 i0 _ 4 32 Tryz.underlying172 hi hz0 hz1 hz2 rfl (by decide) _ _ _ rfl (hown.alloc _) ⟨wr.heap.size,0,none⟩ 1 1 [.int .i64 (7+(j:Int)),.int .i64 ((al.length:Int) - (fs.length:Int)+(k:Int)),.int .i64 f1,.int .i64 f2] rfl rfl ?c1 ?c2 ?c3 ?c4 ?c5 ?_)
     case c1=>exact Az _ _ _ _ rfl
     case c2=>intro u hu;simp at hu;rcases hu with rfl | rfl | rfl | rfl <;> rfl
     case c3=>unfold maxLen;omega
     case c4=>omega
     case c5=>simp;omega
     intro v' w2 hown2 hgrow _;have hK:=(Kp.alloc (e:=some 231) (b:=0) wr (.cells #[.int .i64 (7+(j:Int)),.int .i64 ((al.length:Int) - (fs.length:Int)+(k:Int)),.int .i64 f1,.int .i64 f2] 231)).trans (Kp.of_grown hgrow (hown.alloc _));have htd2:=htd.kp (e:=some 231) (fun q cs t hq hc ht=>hK q cs t (Nat.zero_le _) hc ht) (by decide);have F2:=hK _ _ _ (Nat.zero_le _) F0 (by decide);have hbl2:=(hbl.alloc (by omega) _).grown hgrow (by simp;omega) (fun j hj=>(hown.lt j hj).1);have hown3:w2.ownsRow (w.heap.size+1) 231 4 v' (cur ++ Rf.ownTo (7+(j:Int)) ((al.length:Int) - (fs.length:Int)) fs (k+1)).length (Gj (cur ++ Rf.ownTo (7+(j:Int)) ((al.length:Int) - (fs.length:Int)) fs (k+1))):=by
      rw [Aa HST,← List.append_assoc,Aa HXS,Qq,List.length_append];exact hown2
     clear hgrow hown hown2 hbl htd F0 hK;go_wp2
     go_roundw
     case rel=>exact ⟨k+1,by omega,by go_num,hown3,htd2,F2,hbl2⟩
     case measure=>simp [intOf];omega
    ·obtain rfl:k=fs.length:=by omega
     have HF:Hid (Rf.fieldsTo (Ap l) (l.map Prod.fst) (j+1)=cur ++ Rf.ownTo (7+(j:Int)) ((al.length:Int) - (fs.length:Int)) fs fs.length):=by
      unfold Hid;rw [Aa HS,show ((7+j:Nat):Int)=7+(j:Int) by omega]
     clear HS hol;go_wp2
     go_roundw
     case rel=>exact ⟨j+1,by omega,by go_num,by rw [Aa HF];exact hown,hbl⟩
     case measure=>simp [intOf];omega
  ·obtain rfl:j=l.length - 7:=by omega
   have hd2:¬ (7:Int)+((l.length - 7:Nat):Int) < (l.length:Int):=by omega
   go_wp2;go_ret;exact ⟨va,vc,rfl,A8 hown (by omega),hB⟩
theorem Eb {α:Type} (f:α→List Value) (n:Nat) (hf:∀ x,(f x).length=n) (l:List α) (k:Nat) (hk:k < l.length) (j:Nat) (hj:j < n):(l.flatMap f)[k * n+j]?=(f l[k])[j]?:=by
 induction l generalizing k with
 | nil=>simp at hk
 | cons x r ih =>
  rw [List.flatMap_cons];cases k with
  | zero =>
   rw [List.getElem?_append_left (by rw [hf];omega)]
   simp
  | succ i =>
   rw [List.getElem?_append_right (by rw [hf,Nat.succ_mul];omega),hf,show (i+1) * n+j - n=i * n+j by rw [Nat.succ_mul];omega]
   simpa using ih i (by simpa using hk)
theorem Dp {α:Type} (f:α→List Value) (n:Nat) (hf:∀ x,(f x).length=n) (l:List α):(l.flatMap f).length=l.length * n:=by
 induction l with
 | nil=>simp
 | cons x r ih=>rw [List.flatMap_cons,List.length_append,hf,ih,List.length_cons,Nat.succ_mul];omega
theorem Jk (l:List (Rf.Mth × RMthV)) (k:Nat) (hk:k < l.length) (j:Nat) (hj:j < 12):(Ec l)[k * 12+j]?=(Cv l[k].1 l[k].2)[j]?∧k * 12+j < (Ec l).length:=by
 refine ⟨Eb (fun x:Rf.Mth × RMthV=>Cv x.1 x.2) 12 (fun _=>rfl) l k hk j hj,?_⟩;unfold Ec;rw [Dp (fun x:Rf.Mth × RMthV=>Cv x.1 x.2) 12 (fun _=>rfl) l];omega
def Cd.argB (T:List Int) (nf:Int) (ow:List Int) (lo:Int) (c:List Int) (op n:Int):Bool :=
 if op=2∨op=3 then decide (n < lo)
 else if 11≤op∧op≤14 then Cd.begB c n
 else if op=15∨op=16∨op=19 then Tr.hasB T n
 else if op=17∨op=18 then decide (n < nf)
 else if op=20 then decide (n < (ow.length:Int)) && (ow.getD n.toNat 0 == 255)
 else if op=21 then decide (n < (ow.length:Int)) && (ow.getD n.toNat 0 != 255)
 else true
structure RFl where
 a1:Option Addr
 c1:Nat
 a2:Option Addr
 c2:Nat
 bb:Nat
 l:List (Rd.Cls × Value)
 ms:List (Rf.Mth × RMthV)
def RFl.val (f:RFl):Value:=.agg #[.slice f.a1 f.l.length f.c1,.slice f.a2 f.ms.length f.c2]
def RFl.ok (f:RFl) (w:World):Prop:=f.l.length≤13∧7≤f.l.length∧f.ms.length≤6∧(∀ p∈f.l,p.1.fields.length≤1000)∧RClssIn w f.bb (.slice f.a1 f.l.length f.c1) f.l∧RMthsIn w f.bb (.slice f.a2 f.ms.length f.c2) f.ms
theorem RFl.ok.below {f:RFl}{w w':World} (h:f.ok w) (hb:Below w.heap.size w w'):f.ok w' :=
 ⟨h.1,h.2.1,h.2.2.1,h.2.2.2.1,h.2.2.2.2.1.kp (Kp.of_below (e:=none) hb) (by decide) (by decide),h.2.2.2.2.2.kp (Kp.of_below (e:=none) hb) (by decide) (by decide) (by decide) (by decide)⟩
def RFl.T (f:RFl):List Int:=Ap f.l
def RFl.fields (f:RFl):List Rf.Fld:=Rf.fieldsTo (Ap f.l) (f.l.map Prod.fst) (f.l.length - 7)
def RFl.owners (f:RFl):List Int:=f.ms.map fun x=>x.1.m.cl
theorem Xv (f:RFl) (m:RMV) (p:Nat) (w:World) (hf:f.ok w) (hp:p < m.code.size) (hs:m.code.size≤100000) (hr:p+Cd.wd ((An m.code).getD p 0)≤m.code.size) :
  Calls Tryz.prog 56 #[f.val,m.val,.int .i64 (p:Int)] w fun e w' =>
   e=.returned (.bool (Cd.argB f.T (f.fields.length:Int) f.owners m.lo (An m.code) ((An m.code).getD p 0) (Rf.at' m.code.data.toList ((p:Int)+1))))∧Below w.heap.size w w':=by
 have hN:2≤Cd.wd ((An m.code).getD p 0)→0≤Rf.at' m.code.data.toList ((p:Int)+1):=by
  intro h;have:Rf.at' m.code.data.toList ((p+1:Nat):Int)=_:=Fq (s:=m.code) (i:=p+1) (by omega);rw [show ((p:Int)+1)=((p+1:Nat):Int) by omega,this];omega
 rw [Hm _ _ hp] at hN hr ⊢;have hAr:=fun w=>X7 m p w hp hs;have hBe:=fun x w=>Fj m x w hs;have hHa:=fun x w=>Cx f.T f.a1 f.a2 f.c1 f.ms.length f.c2 x w;have hFi:=fun w (h:f.ok w)=>Ql f.a1 f.a2 f.c1 f.ms.length f.c2 f.bb f.l w h.1 h.2.1 h.2.2.2.1 h.2.2.2.2.1;have hTl:f.T.length=f.l.length:=Bt _;rw [hTl] at hHa;have hF0:=hf;obtain ⟨fa1,fc1,fa2,fc2,bb,l,ms⟩:=f;obtain ⟨cl,nm,pa,pl,pc,r1,r2,lo,st,code,ha,hl,hc,ma,ml,mc,mAt,fin⟩:=m;simp only [RMV.val,RFl.val] at hp hs hN hr hAr hBe hHa hFi ⊢;have hfe:(RFl.mk fa1 fc1 fa2 fc2 bb l ms).fields=Rf.fieldsTo (Ap l) (l.map Prod.fst) (l.length - 7):=rfl;rw [← hfe] at hFi;generalize (RFl.mk fa1 fc1 fa2 fc2 bb l ms).fields=flds at *;generalize (RFl.mk fa1 fc1 fa2 fc2 bb l ms).T=T at *;generalize hnn:Rf.at' code.data.toList ((p:Int)+1)=n at *;have hol:(RFl.mk fa1 fc1 fa2 fc2 bb l ms).owners.length=ms.length:=by simp [RFl.owners]
 generalize how:(RFl.mk fa1 fc1 fa2 fc2 bb l ms).owners=ow at *;generalize hres:Cd.argB T (flds.length:Int) ow lo (An code) (code[p].toNat:Int) n=R;have hp':(p:Int) < (code.size:Int):=by omega
 have hwb:∀ c:UInt8,IntKind.i64.wrap (c.toNat:Int)=(c.toNat:Int):=fun c=>Eg _ (by omega) (by have:=c.toNat_lt;omega);have HAr:=Ac hAr;have HBe:=Ac hBe;have HHa:=Ac hHa;have HFi:=Ac hFi;have HF0:=Ac hF0;have HNN:Hid (2≤Cd.wd (code[p].toNat:Int)→0≤n):=hN;have HOW:=Ac how;have HOL:=Ac hol;clear hnn hfe hAr hBe hHa hFi hF0 hf hN hr how hol hTl;by_cases hop:(code[p].toNat:Int)=2
 ·have HR:Hid (R=decide (n < lo)):=by unfold Hid;rw [← hres];unfold Cd.argB;rw [hop];simp
  clear hres;go_enter Tryz.func56,Tryz.ntmps56;go_wp2_with fail
  refine (Aa HAr _).mono ?_;rintro e w1 ⟨rfl,hb1⟩;have hB1:=(Aj w _ _).trans (hb1.mono (by simp;omega));have CF:=stay hb1 (Ak w _ _);have CM:=stay hb1 (Ah w _ _);obtain ⟨m0,m1,m2,m3,m4,m5,m6,m7,m8,m9,m10,m11⟩:=Ax CM;obtain ⟨f0,f1⟩:=cl2 CF;simp at f0 f1 m0 m1 m2 m3 m4 m5 m6 m7 m8 m9 m10 m11;have lF:=lt_of_block CF;have lM:=lt_of_block CM;clear hb1;go_wp2;go_ret;exact ⟨by rw [Aa HR];rfl,hB1⟩
 have n2:((code[p].toNat:Int) == 2)=false:=by simp;omega
 have i2:=hop;clear hop;by_cases hop:(code[p].toNat:Int)=3
 ·have HR:Hid (R=decide (n < lo)):=by unfold Hid;rw [← hres];unfold Cd.argB;rw [hop];simp
  clear hres;go_enter Tryz.func56,Tryz.ntmps56;go_wp2_with fail
  refine (Aa HAr _).mono ?_;rintro e w1 ⟨rfl,hb1⟩;have hB1:=(Aj w _ _).trans (hb1.mono (by simp;omega));have CF:=stay hb1 (Ak w _ _);have CM:=stay hb1 (Ah w _ _);obtain ⟨m0,m1,m2,m3,m4,m5,m6,m7,m8,m9,m10,m11⟩:=Ax CM;obtain ⟨f0,f1⟩:=cl2 CF;simp at f0 f1 m0 m1 m2 m3 m4 m5 m6 m7 m8 m9 m10 m11;have lF:=lt_of_block CF;have lM:=lt_of_block CM;clear hb1;go_wp2;go_ret;exact ⟨by rw [Aa HR];rfl,hB1⟩
 have n3:((code[p].toNat:Int) == 3)=false:=by simp;omega
 have i3:=hop;clear hop;by_cases hop:(code[p].toNat:Int)=11
 ·have HR:Hid (R=Cd.begB (An code) n):=by unfold Hid;rw [← hres];unfold Cd.argB;rw [hop];simp
  clear hres;go_enter Tryz.func56,Tryz.ntmps56;go_wp2_with fail
  refine (Aa HAr _).mono ?_;rintro e w1 ⟨rfl,hb1⟩;have hB1:=(Aj w _ _).trans (hb1.mono (by simp;omega));have CF:=stay hb1 (Ak w _ _);have CM:=stay hb1 (Ah w _ _);obtain ⟨m0,m1,m2,m3,m4,m5,m6,m7,m8,m9,m10,m11⟩:=Ax CM;obtain ⟨f0,f1⟩:=cl2 CF;simp at f0 f1 m0 m1 m2 m3 m4 m5 m6 m7 m8 m9 m10 m11;have lF:=lt_of_block CF;have lM:=lt_of_block CM;clear hb1;go_wp2_with fail
  refine (Aa HBe n _).mono ?_;rintro e w2 ⟨rfl,hb2⟩;go_wp2;go_ret;exact ⟨by rw [Aa HR];rfl,QB hB1 hb2⟩
 have n11:((code[p].toNat:Int) == 11)=false:=by simp;omega
 have i11:=hop;clear hop;by_cases hop:(code[p].toNat:Int)=12
 ·have HR:Hid (R=Cd.begB (An code) n):=by unfold Hid;rw [← hres];unfold Cd.argB;rw [hop];simp
  clear hres;go_enter Tryz.func56,Tryz.ntmps56;go_wp2_with fail
  refine (Aa HAr _).mono ?_;rintro e w1 ⟨rfl,hb1⟩;have hB1:=(Aj w _ _).trans (hb1.mono (by simp;omega));have CF:=stay hb1 (Ak w _ _);have CM:=stay hb1 (Ah w _ _);obtain ⟨m0,m1,m2,m3,m4,m5,m6,m7,m8,m9,m10,m11⟩:=Ax CM;obtain ⟨f0,f1⟩:=cl2 CF;simp at f0 f1 m0 m1 m2 m3 m4 m5 m6 m7 m8 m9 m10 m11;have lF:=lt_of_block CF;have lM:=lt_of_block CM;clear hb1;go_wp2_with fail
  refine (Aa HBe n _).mono ?_;rintro e w2 ⟨rfl,hb2⟩;go_wp2;go_ret;exact ⟨by rw [Aa HR];rfl,QB hB1 hb2⟩
 have n12:((code[p].toNat:Int) == 12)=false:=by simp;omega
 have i12:=hop;clear hop;by_cases hop:(code[p].toNat:Int)=13
 ·have HR:Hid (R=Cd.begB (An code) n):=by unfold Hid;rw [← hres];unfold Cd.argB;rw [hop];simp
  clear hres;go_enter Tryz.func56,Tryz.ntmps56;go_wp2_with fail
  refine (Aa HAr _).mono ?_;rintro e w1 ⟨rfl,hb1⟩;have hB1:=(Aj w _ _).trans (hb1.mono (by simp;omega));have CF:=stay hb1 (Ak w _ _);have CM:=stay hb1 (Ah w _ _);obtain ⟨m0,m1,m2,m3,m4,m5,m6,m7,m8,m9,m10,m11⟩:=Ax CM;obtain ⟨f0,f1⟩:=cl2 CF;simp at f0 f1 m0 m1 m2 m3 m4 m5 m6 m7 m8 m9 m10 m11;have lF:=lt_of_block CF;have lM:=lt_of_block CM;clear hb1;go_wp2_with fail
  refine (Aa HBe n _).mono ?_;rintro e w2 ⟨rfl,hb2⟩;go_wp2;go_ret;exact ⟨by rw [Aa HR];rfl,QB hB1 hb2⟩
 have n13:((code[p].toNat:Int) == 13)=false:=by simp;omega
 have i13:=hop;clear hop;by_cases hop:(code[p].toNat:Int)=14
 ·have HR:Hid (R=Cd.begB (An code) n):=by unfold Hid;rw [← hres];unfold Cd.argB;rw [hop];simp
  clear hres;go_enter Tryz.func56,Tryz.ntmps56;go_wp2_with fail
  refine (Aa HAr _).mono ?_;rintro e w1 ⟨rfl,hb1⟩;have hB1:=(Aj w _ _).trans (hb1.mono (by simp;omega));have CF:=stay hb1 (Ak w _ _);have CM:=stay hb1 (Ah w _ _);obtain ⟨m0,m1,m2,m3,m4,m5,m6,m7,m8,m9,m10,m11⟩:=Ax CM;obtain ⟨f0,f1⟩:=cl2 CF;simp at f0 f1 m0 m1 m2 m3 m4 m5 m6 m7 m8 m9 m10 m11;have lF:=lt_of_block CF;have lM:=lt_of_block CM;clear hb1;go_wp2_with fail
  refine (Aa HBe n _).mono ?_;rintro e w2 ⟨rfl,hb2⟩;go_wp2;go_ret;exact ⟨by rw [Aa HR];rfl,QB hB1 hb2⟩
 have n14:((code[p].toNat:Int) == 14)=false:=by simp;omega
 have i14:=hop;clear hop;by_cases hop:(code[p].toNat:Int)=15
 ·have HR:Hid (R=Tr.hasB T n):=by unfold Hid;rw [← hres];unfold Cd.argB;rw [hop];simp
  clear hres;go_enter Tryz.func56,Tryz.ntmps56;go_wp2_with fail
  refine (Aa HAr _).mono ?_;rintro e w1 ⟨rfl,hb1⟩;have hB1:=(Aj w _ _).trans (hb1.mono (by simp;omega));have CF:=stay hb1 (Ak w _ _);have CM:=stay hb1 (Ah w _ _);obtain ⟨m0,m1,m2,m3,m4,m5,m6,m7,m8,m9,m10,m11⟩:=Ax CM;obtain ⟨f0,f1⟩:=cl2 CF;simp at f0 f1 m0 m1 m2 m3 m4 m5 m6 m7 m8 m9 m10 m11;have lF:=lt_of_block CF;have lM:=lt_of_block CM;clear hb1;go_wp2_with fail
  refine (Aa HHa n _).mono ?_;rintro e w2 ⟨rfl,hb2⟩;go_wp2;go_ret;exact ⟨by rw [Aa HR];rfl,QB hB1 hb2⟩
 have n15:((code[p].toNat:Int) == 15)=false:=by simp;omega
 have i15:=hop;clear hop;by_cases hop:(code[p].toNat:Int)=16
 ·have HR:Hid (R=Tr.hasB T n):=by unfold Hid;rw [← hres];unfold Cd.argB;rw [hop];simp
  clear hres;go_enter Tryz.func56,Tryz.ntmps56;go_wp2_with fail
  refine (Aa HAr _).mono ?_;rintro e w1 ⟨rfl,hb1⟩;have hB1:=(Aj w _ _).trans (hb1.mono (by simp;omega));have CF:=stay hb1 (Ak w _ _);have CM:=stay hb1 (Ah w _ _);obtain ⟨m0,m1,m2,m3,m4,m5,m6,m7,m8,m9,m10,m11⟩:=Ax CM;obtain ⟨f0,f1⟩:=cl2 CF;simp at f0 f1 m0 m1 m2 m3 m4 m5 m6 m7 m8 m9 m10 m11;have lF:=lt_of_block CF;have lM:=lt_of_block CM;clear hb1;go_wp2_with fail
  refine (Aa HHa n _).mono ?_;rintro e w2 ⟨rfl,hb2⟩;go_wp2;go_ret;exact ⟨by rw [Aa HR];rfl,QB hB1 hb2⟩
 have n16:((code[p].toNat:Int) == 16)=false:=by simp;omega
 have i16:=hop;clear hop;by_cases hop:(code[p].toNat:Int)=19
 ·have HR:Hid (R=Tr.hasB T n):=by unfold Hid;rw [← hres];unfold Cd.argB;rw [hop];simp
  clear hres;go_enter Tryz.func56,Tryz.ntmps56;go_wp2_with fail
  refine (Aa HAr _).mono ?_;rintro e w1 ⟨rfl,hb1⟩;have hB1:=(Aj w _ _).trans (hb1.mono (by simp;omega));have CF:=stay hb1 (Ak w _ _);have CM:=stay hb1 (Ah w _ _);obtain ⟨m0,m1,m2,m3,m4,m5,m6,m7,m8,m9,m10,m11⟩:=Ax CM;obtain ⟨f0,f1⟩:=cl2 CF;simp at f0 f1 m0 m1 m2 m3 m4 m5 m6 m7 m8 m9 m10 m11;have lF:=lt_of_block CF;have lM:=lt_of_block CM;clear hb1;go_wp2_with fail
  refine (Aa HHa n _).mono ?_;rintro e w2 ⟨rfl,hb2⟩;go_wp2;go_ret;exact ⟨by rw [Aa HR];rfl,QB hB1 hb2⟩
 have n19:((code[p].toNat:Int) == 19)=false:=by simp;omega
 have i19:=hop;clear hop;by_cases hop:(code[p].toNat:Int)=17
 ·have HR:Hid (R=decide (n < (flds.length:Int))):=by unfold Hid;rw [← hres];unfold Cd.argB;rw [hop];simp
  clear hres;go_enter Tryz.func56,Tryz.ntmps56;go_wp2_with fail
  refine (Aa HAr _).mono ?_;rintro e w1 ⟨rfl,hb1⟩;have hB1:=(Aj w _ _).trans (hb1.mono (by simp;omega));have CF:=stay hb1 (Ak w _ _);have CM:=stay hb1 (Ah w _ _);obtain ⟨m0,m1,m2,m3,m4,m5,m6,m7,m8,m9,m10,m11⟩:=Ax CM;obtain ⟨f0,f1⟩:=cl2 CF;simp at f0 f1 m0 m1 m2 m3 m4 m5 m6 m7 m8 m9 m10 m11;have lF:=lt_of_block CF;have lM:=lt_of_block CM;clear hb1;go_wp2_with fail
  refine (Aa HFi _ ((Aa HF0).below hB1)).mono ?_;rintro e w2 ⟨va,vc,rfl,_,hb2⟩;go_wp2;go_ret;exact ⟨by rw [Aa HR];rfl,QB hB1 hb2⟩
 have n17:((code[p].toNat:Int) == 17)=false:=by simp;omega
 have i17:=hop;clear hop;by_cases hop:(code[p].toNat:Int)=18
 ·have HR:Hid (R=decide (n < (flds.length:Int))):=by unfold Hid;rw [← hres];unfold Cd.argB;rw [hop];simp
  clear hres;go_enter Tryz.func56,Tryz.ntmps56;go_wp2_with fail
  refine (Aa HAr _).mono ?_;rintro e w1 ⟨rfl,hb1⟩;have hB1:=(Aj w _ _).trans (hb1.mono (by simp;omega));have CF:=stay hb1 (Ak w _ _);have CM:=stay hb1 (Ah w _ _);obtain ⟨m0,m1,m2,m3,m4,m5,m6,m7,m8,m9,m10,m11⟩:=Ax CM;obtain ⟨f0,f1⟩:=cl2 CF;simp at f0 f1 m0 m1 m2 m3 m4 m5 m6 m7 m8 m9 m10 m11;have lF:=lt_of_block CF;have lM:=lt_of_block CM;clear hb1;go_wp2_with fail
  refine (Aa HFi _ ((Aa HF0).below hB1)).mono ?_;rintro e w2 ⟨va,vc,rfl,_,hb2⟩;go_wp2;go_ret;exact ⟨by rw [Aa HR];rfl,QB hB1 hb2⟩
 have n18:((code[p].toNat:Int) == 18)=false:=by simp;omega
 have i18:=hop;clear hop;by_cases hop:(code[p].toNat:Int)=20
 ·have hn0:0≤n:=(Aa HNN) (by rw [hop];decide);by_cases hn:n < (ms.length:Int)
  ·obtain ⟨q,hq⟩:=Int.eq_ofNat_of_zero_le hn0;subst hq;have hqm:q < ms.length:=by omega
   obtain ⟨e1,e2⟩:=Jk ms q hqm 0 (by omega);obtain ⟨gm,hgm,hgmlt,_,hcm⟩:=Am (Aa HF0).2.2.2.2.2.1 (by simp only;omega);simp only at hgm hcm;have y0:=(hcm _ e2).trans e1;simp [Cv] at y0;have how:ow.getD q 0=ms[q].1.m.cl:=by rw [← Aa HOW];simp [RFl.owners,List.getD_eq_getElem?_getD,hqm]
   have HR:Hid (R=(ms[q].1.m.cl == 255)):=by unfold Hid;rw [← hres];unfold Cd.argB;rw [hop];simp [hn,Aa HOL,-List.getD_eq_getElem?_getD];rw [how]
   generalize ms[q].1.m.cl=ocl at *;have lq:gm < w.heap.size:=hgmlt;clear hres how e1 e2 hcm;subst hgm;go_enter Tryz.func56,Tryz.ntmps56;go_wp2_with fail
   refine (Aa HAr _).mono ?_;rintro e w1 ⟨rfl,hb1⟩;have hB1:=(Aj w _ _).trans (hb1.mono (by simp;omega));have CF:=stay hb1 (Ak w _ _);have CM:=stay hb1 (Ah w _ _);obtain ⟨m0,m1,m2,m3,m4,m5,m6,m7,m8,m9,m10,m11⟩:=Ax CM;obtain ⟨f0,f1⟩:=cl2 CF;simp at f0 f1 m0 m1 m2 m3 m4 m5 m6 m7 m8 m9 m10 m11;have lF:=lt_of_block CF;have lM:=lt_of_block CM;clear hb1;have y1:w1.cell? ⟨gm,q * 12,none⟩=some (.int .i64 ocl):=(hB1.cell lq).trans y0;clear y0;go_wp2;go_ret;exact ⟨by rw [Aa HR];rfl,hB1⟩
  ·have HR:Hid (R=false):=by unfold Hid;rw [← hres];unfold Cd.argB;rw [hop];simp [hn,Aa HOL]
   clear hres;go_enter Tryz.func56,Tryz.ntmps56;go_wp2_with fail
   refine (Aa HAr _).mono ?_;rintro e w1 ⟨rfl,hb1⟩;have hB1:=(Aj w _ _).trans (hb1.mono (by simp;omega));have CF:=stay hb1 (Ak w _ _);have CM:=stay hb1 (Ah w _ _);obtain ⟨m0,m1,m2,m3,m4,m5,m6,m7,m8,m9,m10,m11⟩:=Ax CM;obtain ⟨f0,f1⟩:=cl2 CF;simp at f0 f1 m0 m1 m2 m3 m4 m5 m6 m7 m8 m9 m10 m11;have lF:=lt_of_block CF;have lM:=lt_of_block CM;clear hb1;go_wp2;go_ret;exact ⟨by rw [Aa HR];rfl,hB1⟩
 have n20:((code[p].toNat:Int) == 20)=false:=by simp;omega
 have i20:=hop;clear hop;by_cases hop:(code[p].toNat:Int)=21
 ·have hn0:0≤n:=(Aa HNN) (by rw [hop];decide);by_cases hn:n < (ms.length:Int)
  ·obtain ⟨q,hq⟩:=Int.eq_ofNat_of_zero_le hn0;subst hq;have hqm:q < ms.length:=by omega
   obtain ⟨e1,e2⟩:=Jk ms q hqm 0 (by omega);obtain ⟨gm,hgm,hgmlt,_,hcm⟩:=Am (Aa HF0).2.2.2.2.2.1 (by simp only;omega);simp only at hgm hcm;have y0:=(hcm _ e2).trans e1;simp [Cv] at y0;have how:ow.getD q 0=ms[q].1.m.cl:=by rw [← Aa HOW];simp [RFl.owners,List.getD_eq_getElem?_getD,hqm]
   have HR:Hid (R=(ms[q].1.m.cl != 255)):=by unfold Hid;rw [← hres];unfold Cd.argB;rw [hop];simp [hn,Aa HOL,-List.getD_eq_getElem?_getD];rw [how]
   generalize ms[q].1.m.cl=ocl at *;have lq:gm < w.heap.size:=hgmlt;clear hres how e1 e2 hcm;subst hgm;go_enter Tryz.func56,Tryz.ntmps56;go_wp2_with fail
   refine (Aa HAr _).mono ?_;rintro e w1 ⟨rfl,hb1⟩;have hB1:=(Aj w _ _).trans (hb1.mono (by simp;omega));have CF:=stay hb1 (Ak w _ _);have CM:=stay hb1 (Ah w _ _);obtain ⟨m0,m1,m2,m3,m4,m5,m6,m7,m8,m9,m10,m11⟩:=Ax CM;obtain ⟨f0,f1⟩:=cl2 CF;simp at f0 f1 m0 m1 m2 m3 m4 m5 m6 m7 m8 m9 m10 m11;have lF:=lt_of_block CF;have lM:=lt_of_block CM;clear hb1;have y1:w1.cell? ⟨gm,q * 12,none⟩=some (.int .i64 ocl):=(hB1.cell lq).trans y0;clear y0;go_wp2;go_ret;exact ⟨by rw [Aa HR];rfl,hB1⟩
  ·have HR:Hid (R=false):=by unfold Hid;rw [← hres];unfold Cd.argB;rw [hop];simp [hn,Aa HOL]
   clear hres;go_enter Tryz.func56,Tryz.ntmps56;go_wp2_with fail
   refine (Aa HAr _).mono ?_;rintro e w1 ⟨rfl,hb1⟩;have hB1:=(Aj w _ _).trans (hb1.mono (by simp;omega));have CF:=stay hb1 (Ak w _ _);have CM:=stay hb1 (Ah w _ _);obtain ⟨m0,m1,m2,m3,m4,m5,m6,m7,m8,m9,m10,m11⟩:=Ax CM;obtain ⟨f0,f1⟩:=cl2 CF;simp at f0 f1 m0 m1 m2 m3 m4 m5 m6 m7 m8 m9 m10 m11;have lF:=lt_of_block CF;have lM:=lt_of_block CM;clear hb1;go_wp2;go_ret;exact ⟨by rw [Aa HR];rfl,hB1⟩
 have n21:((code[p].toNat:Int) == 21)=false:=by simp;omega
 have i21:=hop;clear hop;have HR:Hid (R=true):=by
  unfold Hid;rw [← hres];unfold Cd.argB;rw [if_neg (by omega),if_neg (by omega),if_neg (by omega),if_neg (by omega),if_neg (by omega),if_neg (by omega)]
 clear hres i2 i3 i11 i12 i13 i14 i15 i16 i19 i17 i18 i20 i21;go_enter Tryz.func56,Tryz.ntmps56;go_wp2_with fail
 refine (Aa HAr _).mono ?_;rintro e w1 ⟨rfl,hb1⟩;have hB1:=(Aj w _ _).trans (hb1.mono (by simp;omega));have CF:=stay hb1 (Ak w _ _);have CM:=stay hb1 (Ah w _ _);obtain ⟨m0,m1,m2,m3,m4,m5,m6,m7,m8,m9,m10,m11⟩:=Ax CM;obtain ⟨f0,f1⟩:=cl2 CF;simp at f0 f1 m0 m1 m2 m3 m4 m5 m6 m7 m8 m9 m10 m11;have lF:=lt_of_block CF;have lM:=lt_of_block CM;clear hb1;go_wp2;go_ret;exact ⟨by rw [Aa HR];rfl,hB1⟩
def Cd.nAt (c:List Int) (p:Nat):Int:=if p+1 < c.length then c.getD (p+1) 0 else -1
theorem Zz (s:ByteArray) (p:Nat):Rf.at' s.data.toList ((p:Int)+1)=Cd.nAt (An s) p:=by
 unfold Cd.nAt;rw [D9];by_cases h:p+1 < s.size
 ·rw [if_pos h,Hm _ _ h];have:Rf.at' s.data.toList ((p+1:Nat):Int)=_:=Fq (s:=s) (i:=p+1) h;rw [show ((p:Int)+1)=((p+1:Nat):Int) by omega,this]
 ·rw [if_neg h];exact Rf.at_out (by simp;omega)
def Cd.argAt (T:List Int) (nf:Int) (ow:List Int) (lo:Int) (c:List Int) (p:Nat):Bool:=Cd.argB T nf ow lo c (c.getD p 0) (Cd.nAt c p)
def Cd.badArg (T:List Int) (nf:Int) (ow:List Int) (lo:Int) (c:List Int) (p:Nat):Bool:=!Cd.argAt T nf ow lo c p
def Cd.badCode (T:List Int) (nf:Int) (ow:List Int) (lo:Int) (c:List Int):Int :=
 if 0≤Cd.unread c then Cd.unread c else Cd.first (Cd.badArg T nf ow lo c) (Cd.places c)
theorem Mv {f:Nat→Bool}{p:Nat}{r:List Nat} (h:Cd.first f (p :: r) < 0):f p=false∧Cd.first f r < 0:=by
 rw [Cd.first] at h
 by_cases hp:f p=true
 ·rw [if_pos hp] at h;omega
 ·rw [if_neg hp] at h;exact ⟨by simpa using hp,h⟩
theorem N8 (f:RFl) (m:RMV) (w:World) (hf:f.ok w) (hs:m.code.size≤100000) :
  Calls Tryz.prog 31 #[f.val,m.val] w fun e w' =>
   e=.returned (.int .i64 (Cd.badCode f.T (f.fields.length:Int) f.owners m.lo (An m.code)))∧Below w.heap.size w w':=by
 unfold Cd.badCode;have hU:=fun w=>Qa m w hs;have hN:=fun p w hp=>Iu m p w hp hs;have hA:=fun p w (h:f.ok w) hp hr=>Xv f m p w h hp hs hr;have hl:=D9 m.code;generalize f.T=T at *;generalize (f.fields.length:Int)=nf at *;generalize f.owners=ow at *;have hA':∀ p w,f.ok w→p < m.code.size→Cd.noRead (An m.code) p=false→Calls Tryz.prog 56 #[f.val,m.val,.int .i64 (p:Int)] w fun e w'=>e=.returned (.bool (Cd.argAt T nf ow m.lo (An m.code) p))∧Below w.heap.size w w':=by
  intro p w h1 h2 h3;unfold Cd.argAt;rw [← Zz];refine hA p w h1 h2 ?_;simp only [Cd.noRead,Bool.or_eq_false_iff,decide_eq_false_iff_not] at h3;omega
 clear hA;have hB0:=Aj w (.cells #[.slice f.a1 f.l.length f.c1,.slice f.a2 f.ms.length f.c2] 44) m.obj;have CF0:=Ak w (.cells #[.slice f.a1 f.l.length f.c1,.slice f.a2 f.ms.length f.c2] 44) m.obj;have CM0:=Ah w (.cells #[.slice f.a1 f.l.length f.c1,.slice f.a2 f.ms.length f.c2] 44) m.obj;have HF0:=Ac hf;have hun:Cd.unread (An m.code)=Cd.first (Cd.noRead (An m.code)) (Cd.starts (An m.code) (An m.code).length 0):=rfl
 unfold Cd.places;generalize hu:Cd.unread (An m.code)=u at *;have HFO:∀ w',Below w.heap.size w w'→f.ok w':=fun w' hb=>hf.below hb;clear hf;obtain ⟨fa1,fc1,fa2,fc2,bb,l,ms⟩:=f;obtain ⟨cl,nm,pa,pl,pc,r1,r2,lo,st,code,ha,hl',hc,ma,ml,mc,mAt,fin⟩:=m;simp only [RMV.val,RMV.obj,RFl.val] at hs hU hN hA' hl hB0 CF0 CM0 hun ⊢;have HU:=Ac hU;have HN:=Ac hN;have HA:=Ac hA';have HOK:=Ac HFO;clear hU hN hA' HFO hu HF0;by_cases hu0:0≤u
 ·rw [if_pos hu0];clear hun;go_enter Tryz.func31,Tryz.ntmps31;go_wp2_with fail
  refine (Aa HU _).mono ?_;rintro e w1 ⟨rfl,hb1⟩;go_wp2;go_ret;exact ⟨rfl,hB0.trans (hb1.mono (by simp;omega))⟩
 ·rw [if_neg hu0];generalize hr:Cd.first (Cd.badArg T nf ow lo (An code)) (Cd.starts (An code) (An code).length 0)=r
  have HR:=Ac hr;have HUN:Hid (Cd.first (Cd.noRead (An code)) (Cd.starts (An code) (An code).length 0) < 0):=by unfold Hid;rw [← hun];omega
  clear hr hun;go_enter Tryz.func31,Tryz.ntmps31;go_wp2_with fail
  refine (Aa HU _).mono ?_;rintro e w1 ⟨rfl,hb1⟩;have hB1:=hB0.trans (hb1.mono (by simp;omega));have CF1:=stay hb1 CF0;have CM1:=stay hb1 CM0;clear hb1 hB0 CF0 CM0 HU;go_wp2
  go_loopw [6] (fun v wr=>∃ p k:Nat,v=.int .i64 (p:Int)∧(An code).length≤p+k∧p≤200000∧Hid (Cd.first (Cd.badArg T nf ow lo (An code)) (Cd.starts (An code) k p)=r)∧Hid (Cd.first (Cd.noRead (An code)) (Cd.starts (An code) k p) < 0)∧Below w.heap.size w wr ∧
    wr.heap[w.heap.size]?=some (.cells #[.slice fa1 l.length fc1,.slice fa2 ms.length fc2] 44 (0,0)) ∧
    wr.heap[w.heap.size+1]?=some (.cells #[.int .i64 cl,.int .i64 nm,.slice pa pl pc,.int .i64 r1,.int .i64 r2,.int .i64 lo,.int .i64 st,.string code,.slice ha hl' hc,.slice ma ml mc,.int .i64 mAt,.int .i64 fin] 52 (0,0)))
   (fun v _=>code.size - (intOf v).toNat)
  case atStart=>exact ⟨0,_,rfl,by omega,by omega,HR,HUN,hB1,CF1,CM1⟩
  case round =>
   clear hB1 CF1 CM1 HR HUN;obtain ⟨p,k,rfl,hk,hp2,HR,HUN,hB,CF,CM⟩:=hrel;obtain ⟨m0,m1,m2,m3,m4,m5,m6,m7,m8,m9,m10,m11⟩:=Ax CM;simp at m0 m1 m2 m3 m4 m5 m6 m7 m8 m9 m10 m11;obtain ⟨f0,f1⟩:=cl2 CF;simp at f0 f1;have hBs:=hB.size;by_cases hpn:p < code.size
   ·obtain ⟨j,rfl,hj,hst⟩:=Cd.starts_go (c:=An code) (k:=k) (p:=p) (by omega) hk;have hr:=Aa HR;have hun:=Aa HUN;rw [hst] at hr hun;obtain ⟨hn1,hn2⟩:=Mv hun;rw [Cd.first] at hr
    have hp':(p:Int) < (code.size:Int):=by omega
    have hwd:=Cd.wd_bd ((An code).getD p 0);have hn:=fun w=>Aa HN p w hpn;have ha':=Aa HA p wr (Aa HOK _ hB) hpn hn1;have hba:Cd.badArg T nf ow lo (An code) p = !Cd.argAt T nf ow lo (An code) p:=rfl;rw [hba] at hr;generalize Cd.wd ((An code).getD p 0)=d at *;generalize Cd.argAt T nf ow lo (An code) p=A at *;have HNN:=Ac hn;have HAA:=Ac ha';have HUN2:=Ac hn2;clear hn ha' hst HR HUN hun hn1 hn2 hba;cases A with
    | false =>
     have HF:Hid ((p:Int)=r):=by unfold Hid;rw [← hr];simp
     clear hr;go_wp2_with fail
     refine (Aa HAA).mono ?_;rintro e w2 ⟨rfl,hb2⟩;have hB2:=hB.trans (hb2.mono hBs);go_wp2;go_ret;exact ⟨by rw [← Aa HF];rfl,hB2⟩
    | true =>
     have HF:Hid (Cd.first (Cd.badArg T nf ow lo (An code)) (Cd.starts (An code) j (p+d))=r):=by unfold Hid;rw [← hr];simp
     clear hr;go_wp2_with fail
     refine (Aa HAA).mono ?_;rintro e w2 ⟨rfl,hb2⟩;have hB2:=hB.trans (hb2.mono hBs);have CF2:=stay hb2 CF;have CM2:=stay hb2 CM;obtain ⟨k0,k1,k2,k3,k4,k5,k6,k7,k8,k9,k10,k11⟩:=Ax CM2;simp at k0 k1 k2 k3 k4 k5 k6 k7 k8 k9 k10 k11;have hs2:=hB2.size;clear hb2 hB CF CM f0 f1 m0 m1 m2 m3 m4 m5 m6 m7 m8 m9 m10 m11;go_wp2_with fail
     refine (Aa HNN _).mono ?_;rintro e w3 ⟨rfl,hb3⟩;have hB3:=hB2.trans (hb3.mono hs2);have CF3:=stay hb3 CF2;have CM3:=stay hb3 CM2;clear hb3 hB2 CF2 CM2 k0 k1 k2 k3 k4 k5 k6 k7 k8 k9 k10 k11;go_wp2
     go_roundw
     case rel=>exact ⟨p+d,j,rfl,hj,by omega,HF,HUN2,hB3,CF3,CM3⟩
     case measure=>simp [intOf];omega
   ·have hr:=Aa HR;rw [Cd.starts_end (by omega)] at hr;have HF:=Ac hr;have hp':¬ (p:Int) < (code.size:Int):=by omega
    clear hr HR HUN;go_wp2;go_ret;exact ⟨by rw [← Aa HF];rfl,hB⟩
end Go.Proofs.YtcefiamkoincoaaGreat
