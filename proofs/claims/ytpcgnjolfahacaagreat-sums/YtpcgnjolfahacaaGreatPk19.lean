/- a part of the proofs -/
import Derived.Deep.MidRow
import Derived.Laws.MakeOwn
import Derived.Laws.Rows
import Derived.Test.YtpcgnjolfahacaaGreatPk18
set_option maxRecDepth 100000
set_option maxHeartbeats 40000000
set_option linter.unusedVariables false
set_option linter.unusedSimpArgs false
namespace Go.Proofs.YtpcgnjolfahacaaGreat
open Go.RowKit
def Mid (w:World) (B:Nat) (t:TypeId) (pre mid post:List Value):Prop:=w.heap[B]?=some (.cells (pre++(mid++post)).toArray t (0,0))
theorem Mid.cell {w:World}{B o j:Nat}{t:TypeId}{pre mid post:List Value} (h:Mid w B t pre mid post) (ho:pre.length=o) (hj:j<mid.length):w.cell? ⟨B,o+j,none⟩=mid[j]?:=by
 rw[Ab h,List.getElem?_toArray,List.getElem?_append_right (by omega),show o+j-pre.length=j by omega,List.getElem?_append_left hj]
theorem Mid.free {w:World}{B:Nat}{t:TypeId}{pre mid post:List Value} (h:Mid w B t pre mid post) (j:Nat):w.frozen? ⟨B,j,none⟩=false:=Ag h j
theorem Mid.set {w:World}{B o j:Nat}{t:TypeId}{pre mid post:List Value} (h:Mid w B t pre mid post) (ho:pre.length=o) (hj:j<mid.length) (u:Value):Mid (w.setCell ⟨B,o+j,none⟩ u) B t pre (mid.set j u) post:=by
 unfold Mid at h ⊢;rw[Al h]
 congr 2
 rw[List.setIfInBounds_toArray,List.set_append_right _ _ (by omega),show o+j-pre.length=j by omega,List.set_append_left _ _ hj]
theorem Mid.range {w:World}{B o:Nat}{t:TypeId}{pre mid post:List Value} (h:Mid w B t pre mid post) (ho:pre.length=o):w.rangeAt B o mid:=fun j v hv=>by
 rw[h.cell ho (List.getElem?_eq_some_iff.1 hv).1];exact hv
theorem Mid.there {w:World}{B o n:Nat}{t:TypeId}{pre mid post:List Value} (h:Mid w B t pre mid post) (ho:pre.length=o) (hn:mid.length=n):w.there B o n:=fun j hj=>by
 refine⟨?_,h.free _⟩;rw[h.cell ho (by omega),List.getElem?_eq_getElem (by omega)];rfl
theorem Mid.lt {w:World}{B:Nat}{t:TypeId}{pre mid post:List Value} (h:Mid w B t pre mid post):B<w.heap.size:=lt_of_block h
theorem Mid.below {w w':World}{B:Nat}{t:TypeId}{pre mid post:List Value} (h:Mid w B t pre mid post) (hb:Below w.heap.size w w'):Mid w' B t pre mid post:=by
 unfold Mid;rw[hb.block B h.lt];exact h
theorem Mid.alloc {w:World}{B:Nat}{t:TypeId}{pre mid post:List Value} (h:Mid w B t pre mid post) (x:Obj):Mid (w.alloc x) B t pre mid post:=by
 unfold Mid;rw[Below.heap_alloc w x B h.lt];exact h
theorem Mid.drewN {w:World}{B:Nat}{t:TypeId}{pre mid post:List Value} (h:Mid w B t pre mid post) (n:Nat):Mid (w.drewN n) B t pre mid post:=h
theorem Es {B:Nat}{t:TypeId}:∀ (vs pre old post:List Value) (w:World),old.length=vs.length→Mid w B t pre old post→Mid (w.setCells B pre.length vs) B t pre vs post
 | [],pre,old,post,w,hl,h=>by
  obtain rfl:old=[]:=List.eq_nil_of_length_eq_zero (by simpa using hl);exact h
 | v::r,pre,[],post,w,hl,h=>by simp at hl
 | v::r,pre,x::q,post,w,hl,h=>by
  rw[World.setCells];have h1:Mid (w.setCell ⟨B,pre.length,none⟩ v) B t pre (v::q) post:=h.set (o:=pre.length) (j:=0) rfl (by simp) v;have h2:Mid (w.setCell ⟨B,pre.length,none⟩ v) B t (pre++[v]) q post:=by
   unfold Mid at h1 ⊢;rw[h1];simp
  have h3:=Es r (pre++[v]) q post _ (by simpa using hl) h2;rw[List.length_append,List.length_singleton]at h3;unfold Mid at h3 ⊢;rw[h3];simp
theorem Gr.setB {B i:Nat}{a b:World} (h:Gr B a b) (u:Value):Gr B a (b.setCell ⟨B,i,none⟩ u):=h.set (.inr rfl) u
theorem Fv (B:Nat):∀ (vs:List Value) (o:Nat) (w:World),Gr B w (w.setCells B o vs)
 | [],_,w=>Gr.refl B w
 | v::r,o,w=>by
  rw[World.setCells];exact((Gr.refl B w).set (.inr rfl) v).trans (Fv B r (o+1) _)
def Mc.Call.cells (c:Mc.Call):List Value:=.int .i64 c.meth :: .int .i64 (c.pos:Int) :: .int .i64 (c.next:Int)::(c.lo.map (Value.int .i64)++(c.st.map (Value.int .i64)++[.int .i64 (c.h:Int)]))
structure Mc.Wf (c:Mc.Call):Prop where
 lo:c.lo.length=8
 st:c.st.length=8
 h:c.h≤8
theorem Mc.Wf.len {c:Mc.Call} (h:Mc.Wf c):c.cells.length=20:=by simp[Mc.Call.cells,h.lo,h.st]
theorem Dt (c:Mc.Call):∀ v∈c.cells,v.oneCell'=true:=by
 intro v hv;simp only[Mc.Call.cells,List.mem_cons,List.mem_append,List.mem_map,List.not_mem_nil,or_false]at hv;rcases hv with rfl | rfl | rfl | ⟨x,_,rfl⟩ | ⟨x,_,rfl⟩ | rfl<;>rfl
theorem Abs {c:Mc.Call} (hf:Mc.Wf c) {k:Nat} (hk:k<8):c.cells[3+k]?=some (.int .i64 (c.lo.getD k 0)):=by
 have h:=hf.lo;rw[Mc.Call.cells,show 3+k=k+1+1+1 by omega,List.getElem?_cons_succ,List.getElem?_cons_succ,List.getElem?_cons_succ,List.getElem?_append_left (by simp;omega),List.getElem?_map,List.getD_eq_getElem?_getD,List.getElem?_eq_getElem (by omega)];rfl
theorem Aa6 {c:Mc.Call} (hf:Mc.Wf c) {k:Nat} (hk:k<8):c.cells[11+k]?=some (.int .i64 (c.st.getD k 0)):=by
 have h:=hf.lo;have h':=hf.st;rw[Mc.Call.cells,show 11+k=8+k+1+1+1 by omega,List.getElem?_cons_succ,List.getElem?_cons_succ,List.getElem?_cons_succ,List.getElem?_append_right (by simp;omega),List.length_map,h,show 8+k-8=k by omega,
  List.getElem?_append_left (by simp;omega),List.getElem?_map,List.getD_eq_getElem?_getD,List.getElem?_eq_getElem (by omega)]
 rfl
theorem Acd {c:Mc.Call} (hf:Mc.Wf c):c.cells[19]?=some (.int .i64 (c.h:Int)):=by
 have h:=hf.lo;have h':=hf.st;rw[Mc.Call.cells,List.getElem?_cons_succ,List.getElem?_cons_succ,List.getElem?_cons_succ,List.getElem?_append_right (by simp;omega),List.length_map,h,List.getElem?_append_right (by simp;omega),List.length_map,h'];rfl
theorem Tp {c:Mc.Call} (hf:Mc.Wf c) {k:Nat} (hk:k<8) (v:Int):c.cells.set (3+k) (.int .i64 v)=(⟨c.meth,c.pos,c.next,c.lo.set k v,c.st,c.h⟩:Mc.Call).cells:=by
 have h:=hf.lo;rw[Mc.Call.cells,show 3+k=k+1+1+1 by omega,List.set_cons_succ,List.set_cons_succ,List.set_cons_succ,List.set_append_left _ _ (by simp;omega),← List.map_set];rfl
theorem Tv {c:Mc.Call} (hf:Mc.Wf c) {k:Nat} (hk:k<8) (v:Int):c.cells.set (11+k) (.int .i64 v)=(⟨c.meth,c.pos,c.next,c.lo,c.st.set k v,c.h⟩:Mc.Call).cells:=by
 have h:=hf.lo;have h':=hf.st;rw[Mc.Call.cells,show 11+k=8+k+1+1+1 by omega,List.set_cons_succ,List.set_cons_succ,List.set_cons_succ,List.set_append_right _ _ (by simp;omega),List.length_map,h,show 8+k-8=k by omega,
  List.set_append_left _ _ (by simp;omega),← List.map_set]
 rfl
theorem Vm {c:Mc.Call} (hf:Mc.Wf c) (n:Nat):c.cells.set 19 (.int .i64 (n:Int))=(⟨c.meth,c.pos,c.next,c.lo,c.st,n⟩:Mc.Call).cells:=by
 have h:=hf.lo;have h':=hf.st;rw[Mc.Call.cells,List.set_cons_succ,List.set_cons_succ,List.set_cons_succ,List.set_append_right _ _ (by simp;omega),List.length_map,h,List.set_append_right _ _ (by simp;omega),List.length_map,h'];rfl
structure CallSees (w:World) (B o:Nat) (c:Mc.Call):Prop where
 m:w.cell? ⟨B,o,none⟩=some (.int .i64 c.meth)
 p:w.cell? ⟨B,o+1,none⟩=some (.int .i64 (c.pos:Int))
 n:w.cell? ⟨B,o+2,none⟩=some (.int .i64 (c.next:Int))
 h:w.cell? ⟨B,o+19,none⟩=some (.int .i64 (c.h:Int))
 lo:∀ k,k<8→w.cell? ⟨B,o+3+k,none⟩=some (.int .i64 (c.lo.getD k 0))
 st:∀ k,k<8→w.cell? ⟨B,o+11+k,none⟩=some (.int .i64 (c.st.getD k 0))
 fr:∀ j,w.frozen? ⟨B,j,none⟩=false
theorem Mid.sees {w:World}{B o:Nat}{t:TypeId}{pre post:List Value}{c:Mc.Call} (h:Mid w B t pre c.cells post) (ho:pre.length=o) (hf:Mc.Wf c):CallSees w B o c:=by
 have hl:=hf.len;refine⟨?_,?_,?_,?_,fun k hk=>?_,fun k hk=>?_,fun j=>h.free j⟩
 ·have:=h.cell ho (j:=0) (by omega);rw[Nat.add_zero]at this;rw[this];rfl
 ·rw[h.cell ho (j:=1) (by omega)];rfl
 ·rw[h.cell ho (j:=2) (by omega)];rfl
 ·rw[h.cell ho (j:=19) (by omega)];exact Acd hf
 ·rw[Nat.add_assoc,h.cell ho (j:=3+k) (by omega)];exact Abs hf hk
 ·rw[Nat.add_assoc,h.cell ho (j:=11+k) (by omega)];exact Aa6 hf hk
theorem Mid.setLo {w:World}{B o k:Nat}{t:TypeId}{pre post:List Value}{c:Mc.Call} (h:Mid w B t pre c.cells post) (ho:pre.length=o) (hf:Mc.Wf c) (hk:k<8) (v:Int) :
  Mid (w.setCell ⟨B,o+3+k,none⟩ (.int .i64 v)) B t pre (⟨c.meth,c.pos,c.next,c.lo.set k v,c.st,c.h⟩:Mc.Call).cells post:=by
 have hl:=hf.len;rw[← Tp hf hk,Nat.add_assoc];exact h.set ho (by omega) _
theorem Mid.setSt {w:World}{B o k:Nat}{t:TypeId}{pre post:List Value}{c:Mc.Call} (h:Mid w B t pre c.cells post) (ho:pre.length=o) (hf:Mc.Wf c) (hk:k<8) (v:Int) :
  Mid (w.setCell ⟨B,o+11+k,none⟩ (.int .i64 v)) B t pre (⟨c.meth,c.pos,c.next,c.lo,c.st.set k v,c.h⟩:Mc.Call).cells post:=by
 have hl:=hf.len;rw[← Tv hf hk,Nat.add_assoc];exact h.set ho (by omega) _
theorem Mid.setH {w:World}{B o:Nat}{t:TypeId}{pre post:List Value}{c:Mc.Call} (h:Mid w B t pre c.cells post) (ho:pre.length=o) (hf:Mc.Wf c) (z:Int) (n:Nat) (hz:z=n) :
  Mid (w.setCell ⟨B,o+19,none⟩ (.int .i64 z)) B t pre (⟨c.meth,c.pos,c.next,c.lo,c.st,n⟩:Mc.Call).cells post:=by
 have hl:=hf.len;rw[← Vm hf,hz];exact h.set ho (by omega) _
theorem Mid.setP {w:World}{B o:Nat}{t:TypeId}{pre post:List Value}{c:Mc.Call} (h:Mid w B t pre c.cells post) (ho:pre.length=o) (n:Nat) :
  Mid (w.setCell ⟨B,o+1,none⟩ (.int .i64 (n:Int))) B t pre (⟨c.meth,n,c.next,c.lo,c.st,c.h⟩:Mc.Call).cells post:=h.set ho (j:=1) (by simp[Mc.Call.cells]) _
theorem Mid.setN {w:World}{B o:Nat}{t:TypeId}{pre post:List Value}{c:Mc.Call} (h:Mid w B t pre c.cells post) (ho:pre.length=o) (n:Nat) :
  Mid (w.setCell ⟨B,o+2,none⟩ (.int .i64 (n:Int))) B t pre (⟨c.meth,c.pos,n,c.lo,c.st,c.h⟩:Mc.Call).cells post:=h.set ho (j:=2) (by simp[Mc.Call.cells]) _
theorem Cw {c:Mc.Call} (h:Mc.Wf c) (v:Int):Mc.Wf (Mc.push v c):=by
 unfold Mc.push
 split
 ·exact h
 ·exact⟨h.lo,by simp[h.st],by have:=h.h;simp;omega⟩
theorem Ax {c:Mc.Call} (h:Mc.Wf c):Mc.Wf (Mc.pop c).2:=by
 unfold Mc.pop
 split
 ·exact h
 ·exact⟨h.lo,h.st,by have:=h.h;simp;omega⟩
theorem Jh {c:Mc.Call} (h:Mc.Wf c) (n v:Int):Mc.Wf (Mc.setLoc n v c):=by
 unfold Mc.setLoc
 split
 ·exact h
 ·split
  ·exact h
  ·exact⟨by simp[h.lo],h.st,h.h⟩
theorem Kd {c:Mc.Call} (h:Mc.Wf c) (n:Nat):Mc.Wf (Mc.goTo n c):=⟨h.lo,h.st,h.h⟩
theorem Acg {c:Mc.Call} (h:Mc.Wf c) (v:Int) (n:Nat):Mc.Wf (Mc.take v n c):=⟨h.lo,by simp[Mc.take,h.st],by simp[Mc.take]⟩
theorem Nq:∀ (k:Nat) {c:Mc.Call},Mc.Wf c→Mc.Wf (Mc.popN k c).2
 | 0,_,h=>h
 | k+1,_,h=>Nq k (Ax h)
theorem Hg:∀ (k:Nat) (c:Mc.Call),(Mc.popN k c).1.length=k
 | 0,_=>rfl
 | k+1,c=>by simp[Mc.popN,Hg k]
theorem Uj:∀ (l:List Int) (i:Nat) {c:Mc.Call},Mc.Wf c→Mc.Wf (Mc.fill i l c)
 | [],_,_,h=>h
 | v::r,i,_,h=>Uj r (i+1) (Jh h i v)
theorem Vb (m:Int):Mc.Wf ⟨m,0,0,Mc.zeros,Mc.zeros,0⟩:=⟨rfl,rfl,by simp⟩
theorem Gj (m:Int) (vs:List Int):Mc.Wf (Mc.newCall m vs):=Uj vs 0 (Vb m)
theorem Adj {c:Mc.Call} (h:Mc.Wf c) (op n:Int):Mc.Wf (Mc.move op n c):=by
 unfold Mc.move;by_cases c0:op=0
 ·rw[if_pos c0];exact Cw h _
 rw[if_neg c0];by_cases c1:op=1
 ·rw[if_pos c1];exact Cw h _
 rw[if_neg c1];by_cases c2:op=2
 ·rw[if_pos c2];exact Cw h _
 rw[if_neg c2];by_cases c3:op=3
 ·rw[if_pos c3];exact Jh (Ax h) _ _
 rw[if_neg c3];by_cases c4:op=4
 ·rw[if_pos c4];exact Ax h
 rw[if_neg c4];by_cases c5:op=5
 ·rw[if_pos c5];exact Cw (Cw (Ax h) _) _
 rw[if_neg c5];by_cases c6:op=6
 ·rw[if_pos c6];exact Cw (Cw (Ax (Ax h)) _) _
 rw[if_neg c6];exact h
theorem Za {c:Mc.Call} (h:Mc.Wf c) (op n:Int):Mc.Wf (Mc.branch op n c):=by
 unfold Mc.branch;by_cases c0:op=12
 ·rw[if_pos c0]
  split
  ·exact Kd (Ax h) _
  ·exact Ax h
 rw[if_neg c0];by_cases c1:op=13
 ·rw[if_pos c1]
  split
  ·exact Kd (Ax (Ax h)) _
  ·exact Ax (Ax h)
 rw[if_neg c1];by_cases c2:op=14
 ·rw[if_pos c2]
  split
  ·exact Kd (Ax h) _
  ·exact Ax h
 rw[if_neg c2];exact Kd h _
theorem Cr (c:Mc.Call) (v:Int) (B o:Nat) (t:TypeId) (pre post:List Value) (w:World) (ho:pre.length=o) (hf:Mc.Wf c) (h:Mid w B t pre c.cells post) :
  Calls Tryz.prog 238 #[.pointer (some ⟨B,o,none⟩),.int .i64 v] w fun e w'=>e=.returned (.tuple #[])∧Mid w' B t pre (Mc.push v c).cells post∧Gr B w w':=by
 obtain⟨s0,s1,s2,s3,s4,s5,s6⟩:=h.sees ho hf;have hh:=hf.h;have g0:¬ (c.h:Int)<0:=by omega
 have f3:=s6 (o+19);unfold Mc.push;by_cases h8:8≤c.h
 ·rw[if_pos h8];have g1:(8:Int)≤(c.h:Int):=by omega
  clear s0 s1 s2 s4 s5 s6;go_enter Tryz.func238,Tryz.ntmps238;go_wp2;refine bodyPost_ret (v:=.tuple #[]) (by simp[results,Tryz.results238,go_sem]) rfl ?_;exact⟨rfl,h,Gr.refl _ _⟩
 ·rw[if_neg h8];have g1:¬ (8:Int)≤(c.h:Int):=by omega
  have g2:c.h<8:=by omega
  have s5':=s5 c.h g2;have f5':=s6 (o+11+c.h);have h1:=h.setSt ho hf g2 v;have h2:=h1.setH ho ⟨hf.lo,by simp[hf.st],hf.h⟩ ((c.h:Int)+1) (c.h+1) (by simp);clear s0 s1 s2 s4 s5 s6 h1;go_enter Tryz.func238,Tryz.ntmps238;go_wp2
  go_region
  all_goals
   go_wp2
   go_end0
   exact⟨rfl,h2.drewN _,(((Gr.refl _ _).setB _).setB _).drew⟩
theorem Bl (c:Mc.Call) (B o:Nat) (t:TypeId) (pre post:List Value) (w:World) (ho:pre.length=o) (hf:Mc.Wf c) (h:Mid w B t pre c.cells post) :
  Calls Tryz.prog 240 #[.pointer (some ⟨B,o,none⟩)] w fun e w'=>e=.returned (.int .i64 (Mc.pop c).1)∧Mid w' B t pre (Mc.pop c).2.cells post∧Gr B w w':=by
 obtain⟨s0,s1,s2,s3,s4,s5,s6⟩:=h.sees ho hf;have hh:=hf.h;have f3:=s6 (o+19);obtain⟨cm,cp,cn,clo,cst,ch⟩:=c;unfold Mc.pop;simp only at s3 hh s5 ⊢;cases ch with
 | zero =>
  rw[if_pos rfl];clear s0 s1 s2 s4 s5 s6;simp at s3;go_enter Tryz.func240,Tryz.ntmps240;go_wp2;go_ret;exact⟨rfl,h,Gr.refl _ _⟩
 | succ k =>
  rw[if_neg (by simp)];have g2:k<8:=by omega
  have s5':=s5 k g2;have h1:=h.setH ho hf (k:Int) k rfl;have e:k+1-1=k:=rfl;rw[e];clear e s0 s1 s2 s4 s5 s6;simp at s3;go_enter Tryz.func240,Tryz.ntmps240;go_wp2
  go_quiet (fail)
  go_wp2;go_ret;exact⟨rfl,h1.drewN _,((Gr.refl _ _).setB _).drewN _⟩
theorem Wn (c:Mc.Call) (n:Int) (B o:Nat) (t:TypeId) (pre post:List Value) (w:World) (ho:pre.length=o) (hf:Mc.Wf c) (h:Mid w B t pre c.cells post) :
  Calls Tryz.prog 239 #[.pointer (some ⟨B,o,none⟩),.int .i64 n] w fun e w'=>e=.returned (.int .i64 (Mc.loc n c))∧w'=w:=by
 obtain⟨s0,s1,s2,s3,s4,s5,s6⟩:=h.sees ho hf;unfold Mc.loc;by_cases h0:n<0
 ·rw[if_pos h0];clear s0 s1 s2 s3 s4 s5 s6;go_enter Tryz.func239,Tryz.ntmps239;go_wp2;go_ret;exact⟨rfl,rfl⟩
 ·rw[if_neg h0];by_cases h8:8≤n
  ·rw[if_pos h8];clear s0 s1 s2 s3 s4 s5 s6;go_enter Tryz.func239,Tryz.ntmps239;go_wp2;go_ret;exact⟨rfl,rfl⟩
  ·rw[if_neg h8];obtain⟨k,rfl⟩:=Int.eq_ofNat_of_zero_le (show 0≤n by omega);have s4':=s4 k (by omega);rw[Int.toNat_natCast];clear s0 s1 s2 s3 s4 s5 s6;go_enter Tryz.func239,Tryz.ntmps239;go_wp2;go_ret;exact⟨rfl,rfl⟩
theorem Jd (c:Mc.Call) (n v:Int) (B o:Nat) (t:TypeId) (pre post:List Value) (w:World) (ho:pre.length=o) (hf:Mc.Wf c) (h:Mid w B t pre c.cells post) :
  Calls Tryz.prog 130 #[.pointer (some ⟨B,o,none⟩),.int .i64 n,.int .i64 v] w fun e w'=>e=.returned (.tuple #[])∧Mid w' B t pre (Mc.setLoc n v c).cells post∧Gr B w w':=by
 obtain⟨s0,s1,s2,s3,s4,s5,s6⟩:=h.sees ho hf;unfold Mc.setLoc;by_cases h0:n<0
 ·rw[if_pos h0];clear s0 s1 s2 s3 s4 s5 s6;go_enter Tryz.func130,Tryz.ntmps130;go_wp2
  go_end0
  exact⟨rfl,h,Gr.refl _ _⟩
 ·rw[if_neg h0];by_cases h8:8≤n
  ·rw[if_pos h8];clear s0 s1 s2 s3 s4 s5 s6;go_enter Tryz.func130,Tryz.ntmps130;go_wp2
   go_end0
   exact⟨rfl,h,Gr.refl _ _⟩
  ·rw[if_neg h8];obtain⟨k,rfl⟩:=Int.eq_ofNat_of_zero_le (show 0≤n by omega);have s4':=s4 k (by omega);have f4':=s6 (o+3+k);have h1:=h.setLo ho hf (k:=k) (by omega) v;rw[Int.toNat_natCast];clear s0 s1 s2 s3 s4 s5 s6;go_enter Tryz.func130,Tryz.ntmps130;go_wp2
   go_end0
   exact⟨rfl,h1,(Gr.refl _ _).setB _⟩
theorem Xy (c:Mc.Call) (v:Int) (n:Nat) (B o:Nat) (t:TypeId) (pre post:List Value) (w:World) (ho:pre.length=o) (hf:Mc.Wf c) (h:Mid w B t pre c.cells post) :
  Calls Tryz.prog 286 #[.pointer (some ⟨B,o,none⟩),.int .i64 v,.int .i64 (n:Int)] w fun e w'=>e=.returned (.tuple #[])∧Mid w' B t pre (Mc.take v n c).cells post∧Gr B w w':=by
 obtain⟨s0,s1,s2,s3,s4,s5,s6⟩:=h.sees ho hf;have f3:=s6 (o+19);have h1:=h.setH ho hf 0 0 rfl;have hf1:Mc.Wf ⟨c.meth,c.pos,c.next,c.lo,c.st,0⟩:=⟨hf.lo,hf.st,by simp⟩
 have hp:=Cr _ v B o t pre post _ ho hf1 h1;have HP:=Ac hp;clear hp s0 s1 s2 s4 s5 s6;go_enter Tryz.func286,Tryz.ntmps286;go_wp2_with fail
 refine(Aa HP).mono ?_;rintro e w1 ⟨rfl,h2,hg⟩;obtain⟨s0,s1,s2,s3',s4,s5,s6⟩:=h2.sees ho (Cw hf1 v);have f2:=s6 (o+2);have h3:=h2.setN ho n;clear s0 s1 s3' s4 s5 s6;go_wp2
 go_end0
 exact⟨rfl,h3,(((Gr.refl _ _).setB _).trans hg).setB _⟩
theorem Vo (n:Int) (w:World) (h0:0≤n) (h1:n≤255):Calls Tryz.prog 237 #[.int .i64 n] w fun e w'=>e=.returned (.int .i64 (Mc.signed n))∧w'=w:=by
 unfold Mc.signed;by_cases h:127<n
 ·rw[if_pos h];go_enter Tryz.func237,Tryz.ntmps237;go_wp2;go_ret;exact⟨rfl,rfl⟩
 ·rw[if_neg h];go_enter Tryz.func237,Tryz.ntmps237;go_wp2;go_ret;exact⟨rfl,rfl⟩
theorem Fh (v:Int):wrap32 v=Mc.w32 v:=by unfold Mc.w32 wrap32;omega
theorem Iu (v:Int):wrap64 (Mc.w32 v)=Mc.w32 v:=by unfold Mc.w32 wrap64;omega
theorem Qi (op x y:Int) (w:World):Calls Tryz.prog 241 #[.int .i64 op,.int .i64 x,.int .i64 y] w fun e w'=>e=.returned (.tuple #[.int .i64 ((Mc.reckoned op x y).getD 0),.bool (Mc.reckoned op x y).isSome])∧w'=w:=by
 unfold Mc.reckoned;by_cases h7:op=7
 ·rw[if_pos h7];subst h7;go_enter Tryz.func241,Tryz.ntmps241;go_wp2;go_ret2;exact⟨by simp[Iu,Fh],rfl⟩
 rw[if_neg h7];by_cases h8:op=8
 ·rw[if_pos h8];subst h8;clear h7;go_enter Tryz.func241,Tryz.ntmps241;go_wp2;go_ret2;exact⟨by simp[Iu,Fh],rfl⟩
 rw[if_neg h8];by_cases h9:op=9
 ·rw[if_pos h9];subst h9;clear h7 h8;go_enter Tryz.func241,Tryz.ntmps241;go_wp2;go_ret2;exact⟨by simp[Iu,Fh],rfl⟩
 rw[if_neg h9];have e7:(op==7)=false:=by simp[h7]
 have e8:(op==8)=false:=by simp[h8]
 have e9:(op==9)=false:=by simp[h9]
 clear h7 h8 h9;by_cases h0:Mc.w32 y=0
 ·rw[if_pos h0];rw[← Fh]at h0;go_enter Tryz.func241,Tryz.ntmps241;go_wp2;go_ret2;exact⟨rfl,rfl⟩
 ·rw[if_neg h0];rw[← Fh]at h0;have e0:(wrap32 y==0)=false:=by simp[h0]
  go_enter Tryz.func241,Tryz.ntmps241;go_wp2;go_ret2;exact⟨by simp[Iu,Fh],rfl⟩
theorem Yv (c:Mc.Call) (p op n:Int) (B o:Nat) (t:TypeId) (pre post:List Value) (w:World) (ho:pre.length=o) (hf:Mc.Wf c) (h:Mid w B t pre c.cells post) (hop:0≤op∧op≤6) (hn:0≤n∧n≤255) :
  Calls Tryz.prog 188 #[.pointer (some ⟨B,o,none⟩),.agg #[.int .i64 p,.int .i64 op,.int .i64 n]] w fun e w'=>e=.returned (.tuple #[])∧Mid w' B t pre (Mc.move op n c).cells post∧Gr B w w':=by
 obtain⟨n0,n1⟩:=hn;have hlt:=h.lt;rcases(show op=0∨op=1∨op=2∨op=3∨op=4∨op=5∨op=6 by omega) with rfl|rfl|rfl|rfl|rfl|rfl|rfl
 ·have hS:=fun w=>Vo n w n0 n1;have hP:=Cr c (Mc.signed n) B o t pre post _ ho hf (h.alloc (O9 p 0 n));have e:Mc.move 0 n c=Mc.push (Mc.signed n) c:=rfl;rw[e];clear hop e;go_enter Tryz.func188,Tryz.ntmps188;go_wp2_with (first | (go_at_call 237;refine(hS _).mono ?_;rintro e w1 ⟨rfl,rfl⟩) | (go_at_call 238;refine hP.mono ?_;rintro e w1 ⟨rfl,h1,hg1⟩))
  go_end0
  exact⟨rfl,h1,((Gr.refl _ _).alloc _).trans hg1⟩
 ·have hP:=Cr c 0 B o t pre post _ ho hf (h.alloc (O9 p 1 n));have e:Mc.move 1 n c=Mc.push 0 c:=rfl;rw[e];clear hop e;go_enter Tryz.func188,Tryz.ntmps188;go_wp2_with (go_at_call 238;refine hP.mono ?_;rintro e w1 ⟨rfl,h1,hg1⟩)
  go_end0
  exact⟨rfl,h1,((Gr.refl _ _).alloc _).trans hg1⟩
 ·have hS:=Wn c n B o t pre post _ ho hf (h.alloc (O9 p 2 n));have hP:=Cr c (Mc.loc n c) B o t pre post _ ho hf (h.alloc (O9 p 2 n));have e:Mc.move 2 n c=Mc.push (Mc.loc n c) c:=rfl;rw[e];clear hop e;go_enter Tryz.func188,Tryz.ntmps188;go_wp2_with (first | (go_at_call 239;refine hS.mono ?_;rintro e w1 ⟨rfl,rfl⟩) | (go_at_call 238;refine hP.mono ?_;rintro e w1 ⟨rfl,h1,hg1⟩))
  go_end0
  exact⟨rfl,h1,((Gr.refl _ _).alloc _).trans hg1⟩
 ·have hP:=Bl c B o t pre post _ ho hf (h.alloc (O9 p 3 n));have hL:=fun w h=>Jd (Mc.pop c).2 n (Mc.pop c).1 B o t pre post w ho (Ax hf) h;have e:Mc.move 3 n c=Mc.setLoc n (Mc.pop c).1 (Mc.pop c).2:=rfl;rw[e];have hI:=Ad w (O9 p 3 n);clear hop e;go_enter Tryz.func188,Tryz.ntmps188;go_wp2_with fail
  refine hP.mono ?_;rintro e w1 ⟨rfl,h1,hg1⟩;have hI1:=hg1.own hI (by omega);have i2:=Ab hI1 2;simp at i2;go_wp2_with fail
  refine(hL _ h1).mono ?_;rintro e w2 ⟨rfl,h2,hg2⟩;go_wp2
  go_end0
  exact⟨rfl,h2,(((Gr.refl _ _).alloc _).trans hg1).trans hg2⟩
 ·have hP:=Bl c B o t pre post _ ho hf (h.alloc (O9 p 4 n));have e:Mc.move 4 n c=(Mc.pop c).2:=rfl;rw[e];clear hop e;go_enter Tryz.func188,Tryz.ntmps188;go_wp2_with fail
  refine hP.mono ?_;rintro e w1 ⟨rfl,h1,hg1⟩;go_wp2
  go_end0
  exact⟨rfl,h1,((Gr.refl _ _).alloc _).trans hg1⟩
 ·have hP:=Bl c B o t pre post _ ho hf (h.alloc (O9 p 5 n));have hL:=fun w h=>Cr (Mc.pop c).2 (Mc.pop c).1 B o t pre post w ho (Ax hf) h;have hM:=fun w h=>Cr (Mc.push (Mc.pop c).1 (Mc.pop c).2) (Mc.pop c).1 B o t pre post w ho (Cw (Ax hf) _) h;have e:Mc.move 5 n c=Mc.push (Mc.pop c).1 (Mc.push (Mc.pop c).1 (Mc.pop c).2):=rfl;rw[e];clear hop e;go_enter Tryz.func188,Tryz.ntmps188;go_wp2_with fail
  refine hP.mono ?_;rintro e w1 ⟨rfl,h1,hg1⟩;go_wp2_with fail
  refine(hL _ h1).mono ?_;rintro e w2 ⟨rfl,h2,hg2⟩;go_wp2_with fail
  refine(hM _ h2).mono ?_;rintro e w3 ⟨rfl,h3,hg3⟩;go_wp2
  go_end0
  exact⟨rfl,h3,((((Gr.refl _ _).alloc _).trans hg1).trans hg2).trans hg3⟩
 ·have hP:=Bl c B o t pre post _ ho hf (h.alloc (O9 p 6 n));have hQ:=fun w h=>Bl (Mc.pop c).2 B o t pre post w ho (Ax hf) h;have hL:=fun w h=>Cr (Mc.pop (Mc.pop c).2).2 (Mc.pop c).1 B o t pre post w ho (Ax (Ax hf)) h;have hM:=fun w h=>Cr (Mc.push (Mc.pop c).1 (Mc.pop (Mc.pop c).2).2) (Mc.pop (Mc.pop c).2).1 B o t pre post w ho (Cw (Ax (Ax hf)) _) h;have e:Mc.move 6 n c=Mc.push (Mc.pop (Mc.pop c).2).1 (Mc.push (Mc.pop c).1 (Mc.pop (Mc.pop c).2).2):=rfl;rw[e];clear hop e;go_enter Tryz.func188,Tryz.ntmps188;go_wp2_with fail
  refine hP.mono ?_;rintro e w1 ⟨rfl,h1,hg1⟩;go_wp2_with fail
  refine(hQ _ h1).mono ?_;rintro e w2 ⟨rfl,h2,hg2⟩;go_wp2_with fail
  refine(hL _ h2).mono ?_;rintro e w3 ⟨rfl,h3,hg3⟩;go_wp2_with fail
  refine(hM _ h3).mono ?_;rintro e w4 ⟨rfl,h4,hg4⟩;go_wp2
  go_end0
  exact⟨rfl,h4,(((((Gr.refl _ _).alloc _).trans hg1).trans hg2).trans hg3).trans hg4⟩
theorem Tc (c:Mc.Call) (p op n:Int) (B o:Nat) (t:TypeId) (pre post:List Value) (w:World) (ho:pre.length=o) (hf:Mc.Wf c) (h:Mid w B t pre c.cells post) (hop:11≤op∧op≤14) (hn:0≤n) :
  Calls Tryz.prog 190 #[.pointer (some ⟨B,o,none⟩),.agg #[.int .i64 p,.int .i64 op,.int .i64 n]] w fun e w'=>e=.returned (.tuple #[])∧Mid w' B t pre (Mc.branch op n c).cells post∧Gr B w w':=by
 have hlt:=h.lt;obtain⟨k,rfl⟩:=Int.eq_ofNat_of_zero_le hn;have hI:∀ op:Int,(w.alloc (O9 p op (k:Int))).heap[w.heap.size]?=_:=fun op=>Ad w (O9 p op (k:Int));rcases(show op=11∨op=12∨op=13∨op=14 by omega) with rfl | rfl | rfl | rfl
 ·have e:Mc.branch 11 k c=Mc.goTo k c:=rfl;rw[e];have h1:=h.alloc (O9 p 11 (k:Int));obtain⟨s0,s1,s2,s3,s4,s5,s6⟩:=h.sees ho hf;have f2:=s6 (o+2);have hN:=(h.setN ho k).alloc (O9 p 11 (k:Int));clear hop e s0 s1 s3 s4 s5 s6 hI;go_enter Tryz.func190,Tryz.ntmps190;go_wp2
  go_end0
  exact⟨rfl,hN,((Gr.refl _ _).setB _).alloc _⟩
 ·have hP:=Bl c B o t pre post _ ho hf (h.alloc (O9 p 12 (k:Int)));have hI0:=hI 12;have hf1:=Ax hf;have e:Mc.branch 12 k c=if (Mc.pop c).1=0 then Mc.goTo k (Mc.pop c).2 else (Mc.pop c).2:=rfl
  rw[e];clear e;generalize Mc.pop c=r at *;obtain⟨x,c1⟩:=r;simp only at hP hf1 ⊢;clear hop hI;by_cases hx:x=0
  ·rw[if_pos hx];subst hx;go_enter Tryz.func190,Tryz.ntmps190;go_wp2_with fail
   refine hP.mono ?_;rintro e w1 ⟨rfl,h1,hg1⟩;have hI1:=hg1.own hI0 (by omega);have i2:=Ab hI1 2;simp at i2;obtain⟨s0,s1,s2,s3,s4,s5,s6⟩:=h1.sees ho hf1;have f2:=s6 (o+2);have hN:=h1.setN ho k;clear s0 s1 s3 s4 s5 s6;go_wp2
   go_end0
   exact⟨rfl,hN,(((Gr.refl _ _).alloc _).trans hg1).setB _⟩
  ·rw[if_neg hx];have hx':(x==0)=false:=by simp[hx]
   clear hx;go_enter Tryz.func190,Tryz.ntmps190;go_wp2_with fail
   refine hP.mono ?_;rintro e w1 ⟨rfl,h1,hg1⟩;go_wp2
   go_end0
   exact⟨rfl,h1,((Gr.refl _ _).alloc _).trans hg1⟩
 ·have hP:=Bl c B o t pre post _ ho hf (h.alloc (O9 p 13 (k:Int)));have hI0:=hI 13;have hf1:=Ax hf;have hQ:=fun w h=>Bl (Mc.pop c).2 B o t pre post w ho hf1 h;have hf2:=Ax hf1;have e:Mc.branch 13 k c=if (Mc.pop (Mc.pop c).2).1<(Mc.pop c).1 then Mc.goTo k (Mc.pop (Mc.pop c).2).2 else (Mc.pop (Mc.pop c).2).2:=rfl
  rw[e];generalize Mc.pop c=r at *;obtain⟨y,c1⟩:=r;simp only at hP hf1 hQ hf2 ⊢;generalize Mc.pop c1=r at *;obtain⟨x,c2⟩:=r;simp only at hQ hf2 ⊢;clear hop hI e;by_cases hx:x<y
  ·rw[if_pos hx];go_enter Tryz.func190,Tryz.ntmps190;go_wp2_with fail
   refine hP.mono ?_;rintro e w1 ⟨rfl,h1,hg1⟩;go_wp2_with fail
   refine(hQ _ h1).mono ?_;rintro e w2 ⟨rfl,h2,hg2⟩;have hI1:=hg2.own (hg1.own hI0 (by omega)) (by omega);have i2:=Ab hI1 2;simp at i2;obtain⟨s0,s1,s2,s3,s4,s5,s6⟩:=h2.sees ho hf2;have f2:=s6 (o+2);have hN:=h2.setN ho k;clear s0 s1 s3 s4 s5 s6;go_wp2
   go_end0
   exact⟨rfl,hN,((((Gr.refl _ _).alloc _).trans hg1).trans hg2).setB _⟩
  ·rw[if_neg hx];go_enter Tryz.func190,Tryz.ntmps190;go_wp2_with fail
   refine hP.mono ?_;rintro e w1 ⟨rfl,h1,hg1⟩;go_wp2_with fail
   refine(hQ _ h1).mono ?_;rintro e w2 ⟨rfl,h2,hg2⟩;go_wp2
   go_end0
   exact⟨rfl,h2,(((Gr.refl _ _).alloc _).trans hg1).trans hg2⟩
 ·have hP:=Bl c B o t pre post _ ho hf (h.alloc (O9 p 14 (k:Int)));have hI0:=hI 14;have hf1:=Ax hf;have e:Mc.branch 14 k c=if (Mc.pop c).1=0 then Mc.goTo k (Mc.pop c).2 else (Mc.pop c).2:=rfl
  rw[e];clear e;generalize Mc.pop c=r at *;obtain⟨x,c1⟩:=r;simp only at hP hf1 ⊢;clear hop hI;by_cases hx:x=0
  ·rw[if_pos hx];subst hx;go_enter Tryz.func190,Tryz.ntmps190;go_wp2_with fail
   refine hP.mono ?_;rintro e w1 ⟨rfl,h1,hg1⟩;have hI1:=hg1.own hI0 (by omega);have i2:=Ab hI1 2;simp at i2;obtain⟨s0,s1,s2,s3,s4,s5,s6⟩:=h1.sees ho hf1;have f2:=s6 (o+2);have hN:=h1.setN ho k;clear s0 s1 s3 s4 s5 s6;go_wp2
   go_end0
   exact⟨rfl,hN,(((Gr.refl _ _).alloc _).trans hg1).setB _⟩
  ·rw[if_neg hx];have hx':(x==0)=false:=by simp[hx]
   clear hx;go_enter Tryz.func190,Tryz.ntmps190;go_wp2_with fail
   refine hP.mono ?_;rintro e w1 ⟨rfl,h1,hg1⟩;go_wp2
   go_end0
   exact⟨rfl,h1,((Gr.refl _ _).alloc _).trans hg1⟩
theorem Acx (n:Nat) (hn:n≤1000) (w:World):(Instr.makeSlice 26 (.int .i64 (n:Int)) (.int .i64 (n:Int))).run Tryz.prog w=.ok (.slice (some ⟨w.heap.size,0,none⟩) n n) (w.alloc (.cells (List.replicate n (Value.int .i64 0)).toArray 3)):=by
 obtain⟨i0,hi,hz0,hz1,hz2⟩:=info_parts Tryz.infoInt;have:=run_make w 26 3 i0 _ Tryz.underlying26 hi hz0 .i64 .i64 (n:Int) (n:Int) (by omega) (Int.le_refl _) (by rw[hz2];omega) (by omega);rw[hz1]at this;have e:madeCells (Value.int .i64 0).cells (n*1)=(List.replicate n (Value.int .i64 0)).toArray:=by
  apply Array.ext
  ·simp[madeCells]
  ·intro i h1 h2;simp[madeCells,Value.cells,Nat.mod_one]
 rw[Int.toNat_natCast,e]at this;exact this
theorem Od:∀ (k:Nat) (c:Mc.Call),Mc.popN (k+1) c=((Mc.pop (Mc.popN k c).2).1::(Mc.popN k c).1,(Mc.pop (Mc.popN k c).2).2)
 | 0,c=>by simp[Mc.popN]
 | k+1,c=>by
  have h:=Od k (Mc.pop c).2;rw[Mc.popN,h,Mc.popN]
  simp
theorem Aa2 {w:World}{b n:Nat}{l:List Int} (hl:l.length=n) (hn:n≤1000) {g:Nat} (hb:b≤g) (h:w.heap[g]?=some (.cells (l.map (Value.int .i64)).toArray 3 (0,0))):IntsAt w b (.slice (some ⟨g,0,none⟩) n n) l:=by
 refine⟨by simp,.inr ⟨g,n,_,by rw[hl],hb,h,by omega,by unfold maxLen;omega,by simp[hl],?_⟩⟩;simp only[Nat.mul_one];rw[List.take_of_length_le (by simp)]
theorem Ace {k:Nat}{z v:Value}{l:List Value}:((List.replicate (k+1) z++l).toArray).setIfInBounds k v=(List.replicate k z++(v::l)).toArray:=by
 rw[List.setIfInBounds_toArray]
 congr 1
 rw[List.replicate_succ',List.append_assoc,List.set_append_right _ _ (by simp)]
 simp
theorem Ad2 {k:Nat}{z:Value}{l:List Value}:((List.replicate (k+1) z++l).toArray)[k]?=some z:=by
 rw[List.getElem?_toArray,List.getElem?_append_left (by simp)]
 simp
theorem Td (c:Mc.Call) (la:Option Addr) (n lc:Nat) (B o:Nat) (t:TypeId) (pre post:List Value) (w:World) (ho:pre.length=o) (hf:Mc.Wf c) (hn:n≤1000) (h:Mid w B t pre c.cells post) :
  Calls Tryz.prog 248 #[.pointer (some ⟨B,o,none⟩),.slice la n lc] w fun e w'=>e=.returned (.slice (some ⟨w.heap.size,0,none⟩) n n)∧IntsAt w' w.heap.size (.slice (some ⟨w.heap.size,0,none⟩) n n) (Mc.popN n c).1∧Mid w' B t pre (Mc.popN n c).2.cells post∧Gr B w w':=by
 have hmk:=fun w=>Acx n hn w;have hlt:=h.lt;have hne:w.heap.size≠B:=by omega
 have h0:=h.alloc (.cells (List.replicate n (Value.int .i64 0)).toArray 3);have hR0:=Ad w (.cells (List.replicate n (Value.int .i64 0)).toArray 3);have hP:=fun j w h=>Bl (Mc.popN j c).2 B o t pre post w ho (Nq j hf) h;have hPN:=fun j=>Od j c;have hPL:=fun j=>Hg j c;have HP:=Ac hP;have HN:=Ac hPN;have HL:=Ac hPL;clear hP hPN hPL h;go_enter Tryz.func248,Tryz.ntmps248;go_wp2
 go_loopw [6] (fun i wr=>∃ (k j:Nat),k+j=n∧i=.int .i64 ((k:Int)-1)∧wr.heap[w.heap.size]?=some (.cells (List.replicate k (Value.int .i64 0)++(Mc.popN j c).1.map (Value.int .i64)).toArray 3 (0,0))∧Mid wr B t pre (Mc.popN j c).2.cells post∧Gr B w wr)
  (fun i _=>(intOf i+1).toNat)
 case atStart=>exact⟨n,0,by omega,rfl,by simpa[Mc.popN] using hR0,h0,(Gr.refl _ _).alloc _⟩
 case round =>
  obtain⟨k,j,hkj,rfl,hR,hM,hG⟩:=hrel;cases k with
  | zero =>
   have hj:j=n:=by omega
   subst hj;clear hmk h0 hR0;go_wp2;go_ret;refine⟨rfl,Aa2 (Aa HL j) hn (Nat.le_refl _) (by simpa using hR),hM,hG⟩
  | succ k =>
   have hP:=Aa HP j _ hM;have e1:((k+1:Nat):Int)-1=(k:Int):=by omega
   have hsz:=hG.size;clear hmk h0 hR0 hM;go_wp2_with fail
   refine hP.mono ?_;rintro e w1 ⟨rfl,h1,hg1⟩;have hR1:=hg1.own hR hne;have hset:=Al (i:=k) hR1 (.int .i64 (Mc.pop (Mc.popN j c).2).1);rw[Ace]at hset;have y0:=Ab hR1 k;have y1:=Ag hR1 k;rw[Ad2]at y0;have hkn:(k:Int)<(n:Int):=by omega
   have hM2:Mid (w1.setCell ⟨w.heap.size,k,none⟩ (.int .i64 (Mc.pop (Mc.popN j c).2).1)) B t pre (Mc.pop (Mc.popN j c).2).2.cells post:=by
    unfold Mid;rw[Below.heap_setCell _ _ _ _ (by simpa using (show B≠w.heap.size by omega))];exact h1
   have HG:=Ac (hG.trans hg1);have hnx:=Aa HN j;have HX:=Ac hnx;have HM2:=Ac hM2;have HST:=Ac hset;clear hP HP HN HL h1 hg1 hR hR1 hM2 hnx hset;generalize Mc.pop (Mc.popN j c).2=pv at *;obtain⟨x,c2⟩:=pv;simp only at HX HM2 HST ⊢;go_wp2
   go_roundw
   case rel=>exact⟨k,j+1,by omega,rfl,by rw[Aa HX];exact Aa HST,by rw[Aa HX];exact Aa HM2,(Aa HG).set (.inl (Nat.le_refl _)) _⟩
   case measure=>simp[intOf]
theorem Tryz.infoCall:(Tryz.prog.info? 152).map (·.size)=some 20:=by kernel_rfl
theorem Po {B g:Nat}{w0 w:World} (hb:Below B w0 w) (hBg:B≤g) (cs:Array Value):Below B w0 (w.setRow g cs) :=
 ⟨hb.os,hb.tape,hb.output,by rw[setRow_size];exact hb.size,fun k hk=>(setRow_other w g k cs (by omega)).trans (hb.block k hk)⟩
theorem Uw {w:World}{g:Nat}{old cs:Array Value}{t:TypeId} (hg:w.heap[g]?=some (.cells old t (0,0))):(w.setRow g cs).heap[g]?=some (.cells cs t (0,0)):=setRow_heap w g old cs t (0,0) hg
theorem Adz {w:World}{g k:Nat}{cs:Array Value} (h:k≠g):(w.setRow g cs).heap[k]?=w.heap[k]?:=setRow_other w g k cs h
theorem Jq {w:World}{b:Nat}{a:Option Addr}{n c:Nat}{l:List Int} (h:IntsAt w b (.slice a n c) l) (hl:0<l.length):∃ g,a=some ⟨g,0,none⟩∧g<w.heap.size∧∀ k (hk:k<l.length),w.cell? ⟨g,k,none⟩=some (.int .i64 l[k]):=by
 obtain⟨h1,⟨_,hn⟩|⟨g,cap,cur,hv,_,hg,hle,_,hsz,htk⟩⟩:=h
 ·omega
 ·simp only[Value.slice.injEq]at hv;refine⟨g,hv.1,lt_of_block hg,fun k hk=>?_⟩;have:=congrArg (·[k]?) htk;simp only[List.getElem?_take,Nat.mul_one,if_pos hk,List.getElem?_map,List.getElem?_eq_getElem hk,Option.map_some]at this;rw[Ab hg]
  simpa using this
theorem Abp (k:Nat) (c:Mc.Call):Mc.fill k [] c=c:=rfl
theorem Kh (m:Int) (va:Option Addr) (vc:Nat) (vs:List Int) (bb:Nat) (w:World) (hl:vs.length≤1000) (hv:IntsAt w bb (.slice va vs.length vc) vs) :
  Calls Tryz.prog 84 #[.int .i64 m,.slice va vs.length vc] w fun e w'=>e=.returned (.agg (Mc.newCall m vs).cells.toArray)∧Below w.heap.size w w':=by
 have hB0:Below w.heap.size w (((w.alloc (O23 0 0 0 0 0 0 0 0 0 0 0 0 0 0 0 0 0 0 0 0)).alloc (O23 0 0 0 0 0 0 0 0 0 0 0 0 0 0 0 0 0 0 0 0)).setRow (w.heap.size+1) #[.int .i64 m,.int .i64 0,.int .i64 0,.int .i64 0,.int .i64 0,.int .i64 0,.int .i64 0,.int .i64 0,.int .i64 0,.int .i64 0,.int .i64 0,.int .i64 0,.int .i64 0,.int .i64 0,.int .i64 0,.int .i64 0,.int .i64 0,.int .i64 0,.int .i64 0,.int .i64 0]):=Po (Ai _ _ _) (by omega) _;have hR0:(((w.alloc (O23 0 0 0 0 0 0 0 0 0 0 0 0 0 0 0 0 0 0 0 0)).alloc (O23 0 0 0 0 0 0 0 0 0 0 0 0 0 0 0 0 0 0 0 0)).setRow (w.heap.size+1) #[.int .i64 m,.int .i64 0,.int .i64 0,.int .i64 0,.int .i64 0,.int .i64 0,.int .i64 0,.int .i64 0,.int .i64 0,.int .i64 0,.int .i64 0,.int .i64 0,.int .i64 0,.int .i64 0,.int .i64 0,.int .i64 0,.int .i64 0,.int .i64 0,.int .i64 0,.int .i64 0]).heap[w.heap.size]?=some (O23 0 0 0 0 0 0 0 0 0 0 0 0 0 0 0 0 0 0 0 0):=(Adz (by omega)).trans (Ak _ _ _);have hC0:Mid (((w.alloc (O23 0 0 0 0 0 0 0 0 0 0 0 0 0 0 0 0 0 0 0 0)).alloc (O23 0 0 0 0 0 0 0 0 0 0 0 0 0 0 0 0 0 0 0 0)).setRow (w.heap.size+1) #[.int .i64 m,.int .i64 0,.int .i64 0,.int .i64 0,.int .i64 0,.int .i64 0,.int .i64 0,.int .i64 0,.int .i64 0,.int .i64 0,.int .i64 0,.int .i64 0,.int .i64 0,.int .i64 0,.int .i64 0,.int .i64 0,.int .i64 0,.int .i64 0,.int .i64 0,.int .i64 0]) (w.heap.size+1) 152 [] (⟨m,0,0,Mc.zeros,Mc.zeros,0⟩:Mc.Call).cells []:=Uw (Ah _ _ _);have HF:Hid (Mc.fill 0 (vs.drop 0) ⟨m,0,0,Mc.zeros,Mc.zeros,0⟩=Mc.newCall m vs):=rfl;generalize Mc.newCall m vs=N at *;have hSL:=fun c n v wr h hf=>Jd c n v (w.heap.size+1) 0 152 [] [] wr rfl hf h;go_enter Tryz.func84,Tryz.ntmps84;go_wp2_with (refine wpList_store_row (by rfl) 152 (.tmp 5) (.tmp 9) (by rfl) (w.heap.size+1) #[.int .i64 m,.int .i64 0,.int .i64 0,.int .i64 0,.int .i64 0,.int .i64 0,.int .i64 0,.int .i64 0,.int .i64 0,.int .i64 0,.int .i64 0,.int .i64 0,.int .i64 0,.int .i64 0,.int .i64 0,.int .i64 0,.int .i64 0,.int .i64 0,.int .i64 0,.int .i64 0] (by rfl) (by rfl) 152 _ (Ah w _ _) Tryz.infoCall (by rfl) (by simp[Value.oneCell']) ?_)
 generalize (((w.alloc (O23 0 0 0 0 0 0 0 0 0 0 0 0 0 0 0 0 0 0 0 0)).alloc (O23 0 0 0 0 0 0 0 0 0 0 0 0 0 0 0 0 0 0 0 0)).setRow (w.heap.size+1) #[.int .i64 m,.int .i64 0,.int .i64 0,.int .i64 0,.int .i64 0,.int .i64 0,.int .i64 0,.int .i64 0,.int .i64 0,.int .i64 0,.int .i64 0,.int .i64 0,.int .i64 0,.int .i64 0,.int .i64 0,.int .i64 0,.int .i64 0,.int .i64 0,.int .i64 0,.int .i64 0])=w1 at *
 go_loopw [12] (fun i wr=>∃ (k:Nat) (c:Mc.Call),k≤vs.length∧i=.int .i64 (k:Int)∧Hid (Mc.fill k (vs.drop k) c=N)∧Mc.Wf c∧Mid wr (w.heap.size+1) 152 [] c.cells []∧wr.heap[w.heap.size]?=some (O23 0 0 0 0 0 0 0 0 0 0 0 0 0 0 0 0 0 0 0 0)∧Below w.heap.size w wr)
  (fun i _=>vs.length-(intOf i).toNat)
 case atStart=>exact⟨0,_,by omega,rfl,HF,Vb m,hC0,hR0,hB0⟩
 case round =>
  clear HF hC0 hR0 hB0;obtain⟨k,c,hk,rfl,HF,hf,hC,hR,hB⟩:=hrel;by_cases hkn:k<vs.length
  ·obtain⟨g,hg,hglt,hcell⟩:=Jq hv (by omega);have y0:=hcell k hkn;have y1:wr.cell? ⟨g,k,none⟩=some (.int .i64 vs[k]):=by rw[hB.cell (p:=⟨g,k,none⟩) hglt];exact y0
   have hS:=hSL c (k:Int) vs[k] wr hC hf;have hf2:=Jh hf (k:Int) vs[k];have hd:vs.drop k=vs[k]::vs.drop (k+1):=by rw[List.drop_eq_getElem_cons hkn]
   have HF2:Hid (Mc.fill (k+1) (vs.drop (k+1)) (Mc.setLoc (k:Int) vs[k] c)=N):=by
    have:=Aa HF;rw[hd]at this;exact this
   have hkn':(k:Int)<(vs.length:Int):=by omega
   have hBs:=hB.size;generalize vs[k]=x at *;subst hg;clear HF hd y0 hcell hSL hC;go_wp2_with fail
   refine hS.mono ?_;rintro e w2 ⟨rfl,h2,hg2⟩;have hR2:=hg2.own hR (by omega);have hB2:Below w.heap.size w w2:=⟨(World.grownBy.os hg2).trans hB.os,(World.grownBy.tape hg2).trans hB.tape,(World.grownBy.output hg2).trans hB.output,Nat.le_trans hB.size hg2.size,fun j hj=>(hg2.blk (Nat.lt_of_lt_of_le hj hBs) (by omega)).trans (hB.block j hj)⟩;clear hg2 hS;go_wp2
   go_roundw
   case rel=>exact⟨k+1,_,by omega,by go_num,HF2,hf2,h2,hR2,hB2⟩
   case measure=>simp[intOf];omega
  ·have hkk:k=vs.length:=by omega
   subst hkk;have hN:=Aa HF;rw[List.drop_length,Abp]at hN;have hC':wr.heap[w.heap.size+1]?=some (.cells c.cells.toArray 152 (0,0)):=by
    have:=hC;unfold Mid at this
    simpa using this
   have h20:(Tryz.prog.info? 152).map (·.size)=some c.cells.toArray.size:=by rw[Tryz.infoCall];simp[hf.len]
   have hz:20=c.cells.toArray.size:=by simp[hf.len]
   have hall:=all_oneCell_toArray (Dt c);have HN:=Ac hN;clear hN HF hSL hC;generalize hcc:c.cells.toArray=cc at *;have HCC:=Ac hcc;clear hcc;go_wp2_with (first | (refine wpList_load_row (by rfl) 152 (.tmp 5) (by rfl) (w.heap.size+1) (by rfl) 152 cc (0,0) _ hC' Tryz.underlying152 (by rfl) h20 ?_) | (refine wpList_store_row (by rfl) 152 (.tmp 4) (.tmp 21) (by rfl) w.heap.size cc (by rfl) (by rfl) 152 _ hR h20 hz hall ?_))
   refine bodyPost_ret (results_cell_row Tryz.results84 _ _ w.heap.size 152 cc (0,0) _ (by rfl) (Uw hR) Tryz.underlying152 (by rfl) h20) rfl ?_;exact⟨by rw[← Aa HCC,Aa HN],Po hB (Nat.le_refl _) _⟩
def Bb:List (Int × List Int)→List Value→List Value
 | x::r,v::vs=>.int .i64 x.1::v::Bb r vs
 | _,_=>[]
theorem Mu:∀ (l:List (Int × List Int)) (vs:List Value),vs.length=l.length→(Bb l vs).length=l.length*2
 | [],[],_=>rfl
 | [],_::_,h=>by simp at h
 | _::_,[],h=>by simp at h
 | x::r,v::vs,h=>by simp only[Bb,List.length_cons];rw[Mu r vs (by simpa using h)];omega
theorem Pp:∀ (l:List (Int × List Int)) (vs:List Value),vs.length=l.length→∀ i,i<l.length→(Bb l vs)[i*2]?=some (.int .i64 (l.getD i (0,[])).1)∧(Bb l vs)[i*2+1]?=some (vs.getD i (.slice none 0 0))
 | [],_,_,i,h=>by simp at h
 | x::r,[],h,_,_=>by simp at h
 | x::r,v::vs,h,0,_=>⟨rfl,rfl⟩
 | x::r,v::vs,h,i+1,hi=>by
  obtain⟨a,b⟩:=Pp r vs (by simpa using h) i (by simpa using hi);rw[show (i+1)*2=i*2+1+1 by omega,Bb];exact⟨by simpa using a,by simpa using b⟩
theorem Ik:∀ (l:List (Int × List Int)) (vs:List Value),vs.length=l.length→∀ (x:Int × List Int) (v:Value),Bb (l++[x]) (vs++[v])=Bb l vs++[.int .i64 x.1,v]
 | [],[],_,_,_=>rfl
 | [],_::_,h,_,_=>by simp at h
 | _::_,[],h,_,_=>by simp at h
 | y::r,u::vs,h,x,v=>by simp only[List.cons_append,Bb];rw[Ik r vs (by simpa using h)]
theorem M8:∀ (l:List (Int × List Int)) (vs:List Value),vs.length=l.length→∀ (i:Nat) (c:Int) (fs:List Int) (v:Value),(l.getD i (0,[])).1=c→i<l.length→(Bb l vs).set (i*2+1) v=Bb (l.set i (c,fs)) (vs.set i v)
 | [],_,_,i,_,_,_,_,h=>by simp at h
 | x::r,[],h,_,_,_,_,_,_=>by simp at h
 | x::r,u::vs,_,0,c,fs,v,hc,_=>by
  have:x.1=c:=hc;simp[Bb,this]
 | x::r,u::vs,h,i+1,c,fs,v,hc,hi=>by
  rw[show (i+1)*2+1=(i*2+1)+1+1 by omega];simp only[Bb,List.set_cons_succ];rw[M8 r vs (by simpa using h) i c fs v (by simpa using hc) (by simpa using hi)]
theorem Kx:∀ (l l':List (Int × List Int)) (vs:List Value),l.map Prod.fst=l'.map Prod.fst→Bb l vs=Bb l' vs
 | [],[],_,_=>rfl
 | [],_::_,_,h=>by simp at h
 | _::_,[],_,h=>by simp at h
 | x::r,y::q,[],_=>rfl
 | x::r,y::q,v::vs,h=>by
  simp only[List.map_cons,List.cons.injEq]at h;simp only[Bb];rw[h.1,Kx r q vs h.2]
structure Mc.K where
 B:Nat
 ob:Nat
 w0:World
 wE:World
 ca:Option Addr
 cn:Nat
 cc:Nat
 ma:Option Addr
 mc:Nat
 tg:Nat
 tc:Nat
 ya:Option Addr
 yc:Nat
 bm:Nat
 bf:Nat
 T:List Int
 lf:List (Value × List (Int × Int))
 lms:List (Rd.Mth × MthV)
 entry:Int
 ia:Option Addr
 ic:Nat
 ins:List Int
 room:Int
 depth:Int
 fuel:Int
def Mc.K.E (k:Mc.K):Mc.E:=⟨k.T,k.lf.map Prod.snd,k.lms.map Prod.fst,k.ins,k.room,k.depth⟩
def IntR (w:World) (a:Option Addr) (l:List Int):Prop:=∀ i,i<l.length→∃ g o,a=some ⟨g,o,none⟩∧g<w.heap.size∧w.cell? ⟨g,o+i,none⟩=some (.int .i64 (l.getD i 0))
theorem IntR.below {w w':World}{a:Option Addr}{l:List Int} (h:IntR w a l) (hb:Below w.heap.size w w'):IntR w' a l:=fun i hi=>by
 obtain⟨g,o,e,hg,hc⟩:=h i hi;exact⟨g,o,e,Nat.lt_of_lt_of_le hg hb.size,by rw[hb.cell (p:=⟨g,o+i,none⟩) hg];exact hc⟩
structure Mc.K.Ok (k:Mc.K):Prop where
 tr:TreeIn k.w0 k.tg k.T
 tl:k.T.length≤1000
 fl:FldsIn k.w0 k.bf (.slice k.ya k.lf.length k.yc) k.lf
 f14:k.lf.length≤14
 ff:∀ p∈k.lf,p.2.length≤10
 ms:MthsIn k.wE k.bm (.slice k.ma k.lms.length k.mc) k.lms
 ml:k.lms.length≤1000
 cd:∀ p∈k.lms,p.1.code.length≤1000∧∀ x∈p.1.code,0≤x∧x≤255
 ps:∀ p∈k.lms,p.1.params.length≤10
 hn:∀ p∈k.lms,p.1.handlers.length≤1000∧∀ h∈p.1.handlers,0≤h.target∧h.target≤1000
 ins:IntR k.wE k.ia k.ins
 il:k.ins.length≤1000
 dep:1≤k.depth∧k.depth≤12
 rm:0≤k.room∧k.room≤30
 fu:0≤k.fuel∧k.fuel≤3000
 tB:k.tg≠k.B∧k.tg≠k.ob
 fB:∀ j,(Value.slice k.ya k.lf.length k.yc).ownBlock=some j→j≠k.B∧j≠k.ob
 fy:∀ p∈k.lf,∀ j,p.1.ownBlock=some j→j≠k.B∧j≠k.ob
 sz:k.wE.heap.size≤k.w0.heap.size
 Bs:k.B<k.w0.heap.size∧k.ob<k.w0.heap.size∧k.wE.heap.size≤k.B∧k.wE.heap.size≤k.ob
structure Mc.V where
 oa:Option Addr
 oc:Nat
 wa:Option Addr
 wc:Nat
 xa:Option Addr
 xc:Nat
 ov:List Value
def Mc.pre (k:Mc.K) (read ol:Nat) (v:Mc.V):List Value :=
 [.slice k.ca k.cn k.cc,.slice k.ma k.lms.length k.mc,.slice (some ⟨k.tg,0,none⟩) k.T.length k.tc,.slice k.ya k.lf.length k.yc,.int .i64 k.entry,.slice k.ia k.ins.length k.ic,.int .i64 k.room,.int .i64 k.depth,.int .i64 k.fuel,.int .i64 (read:Int),.slice v.oa ol v.oc,.int .i64 k.room]
def Mc.post (v:Mc.V) (wl xl:Nat) (ended:Bool) (status value:Int) (steps:Nat):List Value :=
 [.slice v.wa wl v.wc,.bool ended,.slice v.xa xl v.xc,.int .i64 status,.int .i64 value,.int .i64 (steps:Int)]
theorem Bj (k:Mc.K) (r o:Nat) (v:Mc.V):(Mc.pre k r o v).length=12:=rfl
theorem Cv (v:Mc.V) (wl xl:Nat) (e:Bool) (s x:Int) (st:Nat):(Mc.post v wl xl e s x st).length=6:=rfl
structure Mc.Rows (k:Mc.K) (O:List (Int × List Int)) (W:List Mc.Call) (X:List Int) (v:Mc.V) (w:World):Prop where
 objs:w.ownsRow k.wE.heap.size 215 2 (.slice v.oa O.length v.oc) O.length (Bb O v.ov)
 ovl:v.ov.length=O.length
 obk:∀ j,(Value.slice v.oa O.length v.oc).ownBlock=some j→j=k.ob∨k.w0.heap.size≤j
 flds:∀ i,i<O.length→IntsAt w k.w0.heap.size (v.ov.getD i (.slice none 0 0)) (O.getD i (0,[])).2
 wait:w.ownsRow k.w0.heap.size 152 20 (.slice v.wa W.length v.wc) W.length (W.flatMap Mc.Call.cells)
 wwf:∀ c∈W,Mc.Wf c
 out:IntsAt w k.w0.heap.size (.slice v.xa X.length v.xc) X
 nd:((Value.slice v.xa X.length v.xc::v.ov).filterMap Value.ownBlock).Nodup
 keep:∀ j,j<k.w0.heap.size→j≠k.B→j≠k.ob→w.heap[j]?=k.w0.heap[j]?
 low:Below k.wE.heap.size k.wE w
 szs:k.w0.heap.size≤w.heap.size
structure Mc.At (k:Mc.K) (S:Mc.S) (v:Mc.V) (w:World):Prop where
 blk:Mid w k.B 156 (Mc.pre k S.read S.objs.length v) S.now.cells (Mc.post v S.wait.length S.out.length S.ended S.status S.value S.steps)
 wf:Mc.Wf S.now
 rows:Mc.Rows k S.objs S.wait S.out v w
theorem Az {w:World}{b e size n:Nat}{t:TypeId}{u:Value}{xs cs:List Value}{B:Nat}{fr:Nat × Nat} (h:w.ownsRow b e size u n xs) (hB:w.heap[B]?=some (.cells cs.toArray t fr)) (hne:e≠t):∀ j,u.ownBlock=some j→j≠B:=by
 intro j hj e';obtain⟨_,⟨rfl,_⟩ | ⟨g,cap,cur,rfl,_,hg,_⟩⟩:=h
 ·simp[Value.ownBlock]at hj
 ·simp only[Value.ownBlock,Option.some.injEq]at hj;subst hj e';rw[hB]at hg;simp only[Option.some.injEq,Obj.cells.injEq]at hg;exact hne hg.2.1.symm
theorem Be {w w':World}{b e size n:Nat}{u:Value}{xs:List Value} (h:w.ownsRow b e size u n xs) (hk:∀ j,u.ownBlock=some j→w'.heap[j]?=w.heap[j]?):w'.ownsRow b e size u n xs:=by
 obtain⟨h1,h2|⟨g,cap,cur,hv,hb,hg,r⟩⟩:=h
 ·exact⟨h1,.inl h2⟩
 ·exact⟨h1,.inr ⟨g,cap,cur,hv,hb,(hk g (by rw[hv];rfl)).trans hg,r⟩⟩
theorem Mc.Rows.gr {k:Mc.K}{objs:List (Int × List Int)}{wait:List Mc.Call}{out:List Int}{v:Mc.V}{w w':World} (h:Mc.Rows k objs wait out v w) (ok:k.Ok) {cs:List Value} (hB:w.heap[k.B]?=some (.cells cs.toArray 156 (0,0))) (hg:Gr k.B w w'):Mc.Rows k objs wait out v w':=by
 have key:∀ {b e size n:Nat}{u:Value}{xs:List Value},w.ownsRow b e size u n xs→e≠156→w'.ownsRow b e size u n xs:=fun ho hne =>
  Be ho (fun j hj=>hg.blk (ho.lt j hj).2 (Az ho hB hne j hj))
 refine⟨key h.objs (by decide),h.ovl,h.obk,fun i hi=>key (h.flds i hi) (by decide),key h.wait (by decide),h.wwf,key h.out (by decide),h.nd,fun j h1 h2 h3=>?_,?_,Nat.le_trans h.szs hg.size⟩
 ·rw[hg.blk (Nat.lt_of_lt_of_le h1 h.szs) h2];exact h.keep j h1 h2 h3
 ·exact⟨(World.grownBy.os hg).trans h.low.os,(World.grownBy.tape hg).trans h.low.tape,(World.grownBy.output hg).trans h.low.output,Nat.le_trans h.low.size hg.size,
   fun j hj=>(hg.blk (Nat.lt_of_lt_of_le hj h.low.size) (by have:=ok.Bs;omega)).trans (h.low.block j hj)⟩
theorem Mc.At.now {k:Mc.K}{S:Mc.S}{v:Mc.V}{w w':World} (h:Mc.At k S v w) (ok:k.Ok) (hg:Gr k.B w w') {c:Mc.Call} (hf:Mc.Wf c)
  (hb:Mid w' k.B 156 (Mc.pre k S.read S.objs.length v) c.cells (Mc.post v S.wait.length S.out.length S.ended S.status S.value S.steps)):Mc.At k (S.withNow c) v w' :=
 ⟨hb,hf,h.rows.gr ok h.blk hg⟩
structure Mc.Sees (k:Mc.K) (S:Mc.S) (v:Mc.V) (w:World):Prop where
 c0:w.cell? ⟨k.B,0,none⟩=some (.slice k.ca k.cn k.cc)
 c1:w.cell? ⟨k.B,1,none⟩=some (.slice k.ma k.lms.length k.mc)
 c2:w.cell? ⟨k.B,2,none⟩=some (.slice (some ⟨k.tg,0,none⟩) k.T.length k.tc)
 c3:w.cell? ⟨k.B,3,none⟩=some (.slice k.ya k.lf.length k.yc)
 c4:w.cell? ⟨k.B,4,none⟩=some (.int .i64 k.entry)
 c5:w.cell? ⟨k.B,5,none⟩=some (.slice k.ia k.ins.length k.ic)
 c6:w.cell? ⟨k.B,6,none⟩=some (.int .i64 k.room)
 c7:w.cell? ⟨k.B,7,none⟩=some (.int .i64 k.depth)
 c8:w.cell? ⟨k.B,8,none⟩=some (.int .i64 k.fuel)
 c9:w.cell? ⟨k.B,9,none⟩=some (.int .i64 (S.read:Int))
 c10:w.cell? ⟨k.B,10,none⟩=some (.slice v.oa S.objs.length v.oc)
 c11:w.cell? ⟨k.B,11,none⟩=some (.int .i64 k.room)
 c12:w.cell? ⟨k.B,12,none⟩=some (.int .i64 S.now.meth)
 c13:w.cell? ⟨k.B,13,none⟩=some (.int .i64 (S.now.pos:Int))
 c14:w.cell? ⟨k.B,14,none⟩=some (.int .i64 (S.now.next:Int))
 c32:w.cell? ⟨k.B,32,none⟩=some (.slice v.wa S.wait.length v.wc)
 c33:w.cell? ⟨k.B,33,none⟩=some (.bool S.ended)
 c34:w.cell? ⟨k.B,34,none⟩=some (.slice v.xa S.out.length v.xc)
 c35:w.cell? ⟨k.B,35,none⟩=some (.int .i64 S.status)
 c36:w.cell? ⟨k.B,36,none⟩=some (.int .i64 S.value)
 c37:w.cell? ⟨k.B,37,none⟩=some (.int .i64 (S.steps:Int))
 fr:∀ j,w.frozen? ⟨k.B,j,none⟩=false
theorem Mid.tail {w:World}{B:Nat}{t:TypeId}{pre mid post:List Value} (h:Mid w B t pre mid post):Mid w B t (pre++mid) post []:=by
 unfold Mid at h ⊢;rw[h];simp
theorem Mid.untail {w:World}{B:Nat}{t:TypeId}{pre mid post:List Value} (h:Mid w B t (pre++mid) post []):Mid w B t pre mid post:=by
 unfold Mid at h ⊢;rw[h];simp
theorem Mid.front {w:World}{B:Nat}{t:TypeId}{pre mid post:List Value} (h:Mid w B t pre mid post):Mid w B t [] pre (mid++post):=by
 unfold Mid at h ⊢;rw[h];simp
theorem Mid.unfront {w:World}{B:Nat}{t:TypeId}{pre mid post:List Value} (h:Mid w B t [] pre (mid++post)):Mid w B t pre mid post:=by
 unfold Mid at h ⊢;rw[h];simp
theorem Mc.At.sees {k:Mc.K}{S:Mc.S}{v:Mc.V}{w:World} (h:Mc.At k S v w):Mc.Sees k S v w:=by
 have hp:=h.blk.front;have ht:=h.blk.tail;have hl:(Mc.pre k S.read S.objs.length v++S.now.cells).length=32:=by rw[List.length_append,Bj,h.wf.len]
 have fr:∀ j,j<12→w.cell? ⟨k.B,j,none⟩=(Mc.pre k S.read S.objs.length v)[j]?:=fun j hj=>by
  have:=hp.cell (o:=0) (j:=j) rfl (by rw[Bj];exact hj);rw[Nat.zero_add]at this;exact this
 have tl:∀ j,j<6→w.cell? ⟨k.B,32+j,none⟩=(Mc.post v S.wait.length S.out.length S.ended S.status S.value S.steps)[j]?:=fun j hj=>ht.cell hl (by rw[Cv];exact hj);have md:=h.blk.sees (o:=12) rfl h.wf;exact⟨fr 0 (by omega),fr 1 (by omega),fr 2 (by omega),fr 3 (by omega),fr 4 (by omega),fr 5 (by omega),fr 6 (by omega),fr 7 (by omega),fr 8 (by omega),fr 9 (by omega),fr 10 (by omega),fr 11 (by omega),md.m,md.p,md.n,
  tl 0 (by omega),tl 1 (by omega),tl 2 (by omega),tl 3 (by omega),tl 4 (by omega),tl 5 (by omega),fun j=>h.blk.free j⟩
theorem Mc.At.setPost {k:Mc.K}{S:Mc.S}{v:Mc.V}{w:World} (h:Mc.At k S v w) (ok:k.Ok) {j:Nat} (hj:j<6) (u:Value) {S':Mc.S}{v':Mc.V} (hnow:S'.now=S.now)
  (hpre:Mc.pre k S'.read S'.objs.length v'=Mc.pre k S.read S.objs.length v) (hpost:(Mc.post v S.wait.length S.out.length S.ended S.status S.value S.steps).set j u=Mc.post v' S'.wait.length S'.out.length S'.ended S'.status S'.value S'.steps)
  (hr:Mc.Rows k S'.objs S'.wait S'.out v' w):Mc.At k S' v' (w.setCell ⟨k.B,32+j,none⟩ u):=by
 have hl:(Mc.pre k S.read S.objs.length v++S.now.cells).length=32:=by rw[List.length_append,Bj,h.wf.len]
 refine⟨?_,by rw[hnow];exact h.wf,hr.gr ok h.blk ((Gr.refl _ _).setB _)⟩;rw[hpre,hnow,← hpost];exact(h.blk.tail.set hl (by rw[Cv];exact hj) u).untail
theorem Mc.At.setPre {k:Mc.K}{S:Mc.S}{v:Mc.V}{w:World} (h:Mc.At k S v w) (ok:k.Ok) {j:Nat} (hj:j<12) (u:Value) {S':Mc.S}{v':Mc.V} (hnow:S'.now=S.now)
  (hpre:(Mc.pre k S.read S.objs.length v).set j u=Mc.pre k S'.read S'.objs.length v') (hpost:Mc.post v' S'.wait.length S'.out.length S'.ended S'.status S'.value S'.steps=Mc.post v S.wait.length S.out.length S.ended S.status S.value S.steps)
  (hr:Mc.Rows k S'.objs S'.wait S'.out v' w):Mc.At k S' v' (w.setCell ⟨k.B,j,none⟩ u):=by
 refine⟨?_,by rw[hnow];exact h.wf,hr.gr ok h.blk ((Gr.refl _ _).setB _)⟩;have:=h.blk.front.set (o:=0) (j:=j) rfl (by rw[Bj];exact hj) u;rw[Nat.zero_add]at this;rw[← hpre,hnow,hpost];exact this.unfront
theorem Yn {k:Mc.K}{w:World}{pre post:List Value}{now:Mc.Call} (hM:Mid w k.B 156 pre now.cells post) (hl:pre.length=12) (hw:Mc.Wf now) (ok:k.Ok) {j:Nat} (hj:j<12) (u:Value) {S':Mc.S}{v':Mc.V} (hnow:S'.now=now)
  (hpre:pre.set j u=Mc.pre k S'.read S'.objs.length v') (hpost:Mc.post v' S'.wait.length S'.out.length S'.ended S'.status S'.value S'.steps=post) (hr:Mc.Rows k S'.objs S'.wait S'.out v' w):Mc.At k S' v' (w.setCell ⟨k.B,j,none⟩ u):=by
 refine⟨?_,by rw[hnow];exact hw,hr.gr ok hM ((Gr.refl _ _).setB _)⟩;have:=hM.front.set (o:=0) (j:=j) rfl (by rw[hl];exact hj) u;rw[Nat.zero_add]at this;rw[← hpre,hnow,hpost];exact this.unfront
theorem Gh {k:Mc.K}{w:World}{pre post:List Value}{now:Mc.Call} (hM:Mid w k.B 156 pre now.cells post) (hl:pre.length=12) (hl2:post.length=6) (hw:Mc.Wf now) (ok:k.Ok) {j:Nat} (hj:j<6) (u:Value) {S':Mc.S}{v':Mc.V} (hnow:S'.now=now)
  (hpre:Mc.pre k S'.read S'.objs.length v'=pre) (hpost:post.set j u=Mc.post v' S'.wait.length S'.out.length S'.ended S'.status S'.value S'.steps) (hr:Mc.Rows k S'.objs S'.wait S'.out v' w):Mc.At k S' v' (w.setCell ⟨k.B,32+j,none⟩ u):=by
 refine⟨?_,by rw[hnow];exact hw,hr.gr ok hM ((Gr.refl _ _).setB _)⟩;have hl':(pre++now.cells).length=32:=by rw[List.length_append,hl,hw.len]
 rw[hpre,hnow,← hpost];exact(hM.tail.set hl' (by omega) u).untail
theorem Mc.At.gr {k:Mc.K}{S:Mc.S}{v:Mc.V}{w w':World} (h:Mc.At k S v w) (ok:k.Ok) (hb:Below w.heap.size w w'):Mc.At k S v w' :=
 h.now ok (Gr.of_below (Gr.refl _ _) hb) h.wf (h.blk.below hb)
theorem Mc.Rows.tree {k:Mc.K}{objs:List (Int × List Int)}{wait:List Mc.Call}{out:List Int}{v:Mc.V}{w:World} (h:Mc.Rows k objs wait out v w) (ok:k.Ok):TreeIn w k.tg k.T:=by
 have hk:=h.keep k.tg ok.tr.1 ok.tB.1 ok.tB.2;exact⟨Nat.lt_of_lt_of_le ok.tr.1 h.szs,fun i hi=>by rw[World.cell?_of_block (a:=⟨k.tg,i,none⟩) hk];exact ok.tr.2 i hi⟩
theorem Mc.Rows.mths {k:Mc.K}{objs:List (Int × List Int)}{wait:List Mc.Call}{out:List Int}{v:Mc.V}{w:World} (h:Mc.Rows k objs wait out v w) (ok:k.Ok):MthsIn w k.bm (.slice k.ma k.lms.length k.mc) k.lms :=
 ok.ms.kp (Kp.of_below (e:=none) h.low) (by decide) (by decide) (by decide) (by decide) (by decide)
theorem Mc.Rows.ints {k:Mc.K}{objs:List (Int × List Int)}{wait:List Mc.Call}{out:List Int}{v:Mc.V}{w:World} (h:Mc.Rows k objs wait out v w) (ok:k.Ok):IntR w k.ia k.ins:=ok.ins.below h.low
theorem Mf (k:Mc.K) (S:Mc.S) (v:Mc.V) (st x:Int) (w:World) (ok:k.Ok) (h:Mc.At k S v w) :
  Calls Tryz.prog 85 #[.pointer (some ⟨k.B,0,none⟩),.int .i64 st,.int .i64 x] w fun e w'=>e=.returned (.tuple #[])∧Mc.At k (S.fin st x) v w':=by
 obtain⟨c0,c1,c2,c3,c4,c5,c6,c7,c8,c9,c10,c11,c12,c13,c14,c32,c33,c34,c35,c36,c37,fr⟩:=h.sees;have f33:=fr 33;have f35:=fr 35;have f36:=fr 36;have h1:Mc.At k ⟨S.read,S.objs,S.now,S.wait,S.ended,S.out,st,S.value,S.steps⟩ v (w.setCell ⟨k.B,35,none⟩ (.int .i64 st)):=h.setPost ok (j:=3) (by omega) _ rfl rfl rfl h.rows;have h2:Mc.At k ⟨S.read,S.objs,S.now,S.wait,S.ended,S.out,st,x,S.steps⟩ v ((w.setCell ⟨k.B,35,none⟩ (.int .i64 st)).setCell ⟨k.B,36,none⟩ (.int .i64 x)):=h1.setPost ok (j:=4) (by omega) _ rfl rfl rfl h1.rows;have h3:Mc.At k (S.fin st x) v (((w.setCell ⟨k.B,35,none⟩ (.int .i64 st)).setCell ⟨k.B,36,none⟩ (.int .i64 x)).setCell ⟨k.B,33,none⟩ (.bool true)):=h2.setPost ok (j:=1) (by omega) _ rfl rfl rfl h2.rows;clear c0 c1 c2 c3 c4 c5 c6 c7 c8 c9 c10 c11 c12 c13 c14 c32 c34 c37 fr h1 h2;go_enter Tryz.func85,Tryz.ntmps85;go_wp2
 go_end0
 exact⟨rfl,h3⟩
theorem Oj (w:World) (b:Nat):(⟨0,0,none,0,0,0,0,0,0,none,0,0,none,0,0,none,0,0⟩:PM).is Mc.noMeth w b :=
 ⟨rfl,rfl,rfl,rfl,rfl,rfl,rfl,World.ownsRow_nil _ _ _ _,rfl,World.ownsRow_nil _ _ _ _,rfl,World.ownsRow_nil _ _ _ _,rfl,[],rfl,World.ownsRow_nil _ _ _ _,fun p hp=>by simp at hp⟩
theorem Ec (k:Mc.K) (S:Mc.S) (v:Mc.V) (n:Int) (w:World) (ok:k.Ok) (h:Mc.At k S v w) :
  Calls Tryz.prog 131 #[.pointer (some ⟨k.B,0,none⟩),.int .i64 n] w fun e w'=>∃ m:PM,e=.returned m.val∧m.is (k.E.meth n) w' k.bm∧Below w.heap.size w w':=by
 obtain⟨c0,c1,c2,c3,c4,c5,c6,c7,c8,c9,c10,c11,c12,c13,c14,c32,c33,c34,c35,c36,c37,fr⟩:=h.sees;have hms:=h.rows.mths ok;have hml:=ok.ml;have hlt:=h.blk.lt;clear c0 c2 c3 c4 c5 c6 c7 c8 c9 c10 c11 c12 c13 c14 c32 c33 c34 c35 c36 c37 fr;unfold Mc.E.meth;have hEl:k.E.ms.length=k.lms.length:=by simp[Mc.K.E]
 rw[hEl];by_cases h0:n<0
 ·rw[if_pos h0];clear hms h;go_enter Tryz.func131,Tryz.ntmps131;go_wp2;refine bodyPost_ret (v:=.agg #[.int .i64 0,.int .i64 0,.slice none 0 0,.int .i64 0,.int .i64 0,.int .i64 0,.int .i64 0,.slice none 0 0,.slice none 0 0,.slice none 0 0]) (by simp[results,Tryz.results131,go_sem]) rfl ?_;exact⟨_,rfl,Oj _ _,by repeat (first | exact Below.refl _ _ | refine Below.alloc ?_ (by simp) _ | refine Below.setCell ?_ (by simp) _)⟩
 ·rw[if_neg h0];by_cases h1:(k.lms.length:Int)≤n
  ·rw[if_pos h1];clear hms h;go_enter Tryz.func131,Tryz.ntmps131;go_wp2;refine bodyPost_ret (v:=.agg #[.int .i64 0,.int .i64 0,.slice none 0 0,.int .i64 0,.int .i64 0,.int .i64 0,.int .i64 0,.slice none 0 0,.slice none 0 0,.slice none 0 0]) (by simp[results,Tryz.results131,go_sem]) rfl ?_;exact⟨_,rfl,Oj _ _,by repeat (first | exact Below.refl _ _ | refine Below.alloc ?_ (by simp) _ | refine Below.setCell ?_ (by simp) _)⟩
  ·rw[if_neg h1];obtain⟨i,rfl⟩:=Int.eq_ofNat_of_zero_le (show 0≤n by omega);have hi:i<k.lms.length:=by omega
   have e:k.E.ms.getD (i:Int).toNat Mc.noMeth=k.lms[i].1:=by
    rw[Int.toNat_natCast,List.getD_eq_getElem?_getD];simp[Mc.K.E,hi]
   rw[e];obtain⟨q,g,hg,hglt,Aw,hq⟩:=hms.mth hi;obtain⟨y0,y1,y2,y3,y4,y5,y6,y7,y8,y9⟩:=Fq Aw;rw[hg]at c1;have hi':(i:Int)<(k.lms.length:Int):=by omega
   generalize k.lms[i]=x at *;obtain⟨q1,q2,q3,q4,q5,q6,q7,q8,q9,qa,qb,qc,qd,qe,qf,qg,qh,qi⟩:=q;simp only at y0 y1 y2 y3 y4 y5 y6 y7 y8 y9;clear Aw hms h h0 h1 e hg hEl;go_enter Tryz.func131,Tryz.ntmps131;go_wp2;refine bodyPost_ret (v:=.agg #[.int .i64 q1,.int .i64 q2,.slice q3 q4 q5,.int .i64 q6,.int .i64 q7,.int .i64 q8,.int .i64 q9,.slice qa qb qc,.slice qd qe qf,.slice qg qh qi]) (by simp[results,Tryz.results131,go_sem]) rfl ?_;have hb:Below w.heap.size w (w.alloc (O12 q1 q2 q3 q4 q5 q6 q7 q8 q9 qa qb qc qd qe qf qg qh qi)):=QN _;exact⟨⟨q1,q2,q3,q4,q5,q6,q7,q8,q9,qa,qb,qc,qd,qe,qf,qg,qh,qi⟩,rfl,hq.below hb,hb⟩
end Go.Proofs.YtpcgnjolfahacaaGreat
