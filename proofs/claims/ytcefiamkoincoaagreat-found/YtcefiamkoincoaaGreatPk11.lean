/- a part of the proof in YtcefiamkoincoaaGreatFoundProof -/
import Derived.Laws.IdiomStrings
import Derived.Test.YtcefiamkoincoaaGreatPk10
set_option maxRecDepth 100000
set_option maxHeartbeats 40000000
set_option linter.unusedVariables false
set_option linter.unusedSimpArgs false
namespace Go.Proofs.YtcefiamkoincoaaGreat
open Go.RowKit
theorem Tryz.infoU8:(Tryz.prog.info? 5).map (fun i=>(i.zero,i.size,i.bytes))=some (some (.int .u8 0),1,1):=by kernel_rfl
def Wr.cs (l:List UInt8):List Value:=l.map fun b=>.int .u8 (b.toNat:Int)
theorem Wr.b_nat (x:Int):((Wr.b x).toNat:Int)=x % 256:=by
 unfold Wr.b;have h0:=Int.emod_nonneg x (show (256:Int) ≠ 0 by omega);have h1:=Int.emod_lt_of_pos x (show (0:Int) < 256 by omega);rw [UInt8.toNat_ofNat'];rw [Nat.mod_eq_of_lt (by omega)];omega
structure WG (n:Nat) (w w':World):Prop where
 bel:Below n w w'
 kp:∀ (k:Nat) (cs:Array Value) (t:TypeId),w.heap[k]?=some (.cells cs t (0,0))→t ≠ 5→t ≠ 99→w'.heap[k]?=some (.cells cs t (0,0))
theorem WG.refl (n:Nat) (w:World):WG n w w:=⟨Below.refl _ _,fun _ _ _ h _ _=>h⟩
theorem WG.trans {n:Nat}{a b c:World} (h:WG n a b) (k:WG n b c):WG n a c:=⟨h.bel.trans k.bel,fun i cs t hc h1 h2=>k.kp i cs t (h.kp i cs t hc h1 h2) h1 h2⟩
theorem WG.alloc {n:Nat}{a b:World} (h:WG n a b) (hn:n≤b.heap.size) (o:Obj):WG n a (b.alloc o) :=
 ⟨h.bel.alloc hn o,fun i cs t hc h1 h2=>by
  have:=h.kp i cs t hc h1 h2;rw [Below.heap_alloc b o i (lt_of_block this)];exact this⟩
def WrAt (w:World) (n B:Nat) (l:List UInt8):Prop:=∃ v,w.heap[B]?=some (.cells #[v] 99 (0,0))∧n≤B∧w.ownsRow n 5 1 v l.length (Wr.cs l)
theorem WrAt.alloc {w:World}{n B:Nat}{l:List UInt8} (h:WrAt w n B l) (o:Obj):WrAt (w.alloc o) n B l:=by
 obtain ⟨v,h1,h2,h3⟩:=h;exact ⟨v,by rw [Below.heap_alloc w o B (lt_of_block h1)];exact h1,h2,h3.alloc o⟩
theorem WrAt.lt {w:World}{n B:Nat}{l:List UInt8} (h:WrAt w n B l):n≤B∧B < w.heap.size:=by
 obtain ⟨v,h1,h2,_⟩:=h;exact ⟨h2,lt_of_block h1⟩
theorem WG.grown {n:Nat}{a b c:World}{v:Value}{m:Nat}{xs:List Value} (h:WG n a b) (hg:b.grownBy c v.ownBlock) (ho:b.ownsRow n 5 1 v m xs) (hn:n≤b.heap.size):WG n a c :=
 ⟨h.bel.grown hg hn (fun k e=>(ho.lt k e).1),fun k cs t hc h1 h2=>Kp.of_grown (b:=0) hg ho k cs t (Nat.zero_le _) (h.kp k cs t hc h1 h2) (by simpa using h1)⟩
theorem WG.set {n B i:Nat}{a b:World}{cs:Array Value} (h:WG n a b) (hB:b.heap[B]?=some (.cells cs 99 (0,0))) (hn:n≤B) (u:Value):WG n a (b.setCell ⟨B,i,none⟩ u) :=
 ⟨h.bel.setCell (by simpa using hn) u,fun k cs' t hc h1 h2=>Kp.set (b:=0) hB u k cs' t (Nat.zero_le _) (h.kp k cs' t hc h1 h2) (by simpa using h2)⟩
theorem Ch {n b size m:Nat}{t:TypeId}{v:Value}{xs:List Value}{w w':World} (h:w.ownsRow b t size v m xs) (hg:WG n w w') (h1:t ≠ 5) (h2:t ≠ 99):w'.ownsRow b t size v m xs:=by
 obtain ⟨e1,e2 | ⟨g,cap,cur,a,c,d,r⟩⟩:=h
 ·exact ⟨e1,.inl e2⟩
 ·exact ⟨e1,.inr ⟨g,cap,cur,a,c,hg.kp g cur t d h1 h2,r⟩⟩
theorem Wr.cs_app (l r:List UInt8):Wr.cs (l ++ r)=Wr.cs l ++ Wr.cs r:=by simp [Wr.cs]
theorem Wr.tys_len (l:List (Int × Int)):(Wr.tys l).length=2 * l.length:=by
 induction l with
 | nil=>rfl
 | cons x r ih=>simp [Wr.tys,Wr.ty] at ih ⊢;omega
theorem Be (n B:Nat) (l:List UInt8) (x:Int) (w:World) (hl:l.length≤100000) (hW:WrAt w n B l) :
  Calls Tryz.prog 43 #[.pointer (some ⟨B,0,none⟩),.int .i64 x] w fun e w'=>e=.returned (.tuple #[])∧WrAt w' n B (l ++ [Wr.b x])∧WG n w w':=by
 obtain ⟨v,hb,hnB,hown⟩:=hW;obtain ⟨i0,hi,hz0,hz1,hz2⟩:=info_parts Tryz.infoU8;have c0:=Ab hb 0;have f0:=Ag hb 0;have lB:=lt_of_block hb;simp at c0;obtain ⟨va,vc,rfl⟩:=Ae hown;go_enter Tryz.func43,Tryz.ntmps43;go_wp2_with (at_builtin;refine wpList_append_own _ rfl _ _ 97 rfl n 5 i0 _ 1 1 Tryz.underlying97 hi hz0 hz1 hz2 rfl (by decide) _ _ _ rfl (hown.alloc _) ⟨w.heap.size,0,none⟩ 1 1 [.int .u8 (x % 256)] rfl rfl ?c1 ?c2 ?c3 ?c4 ?c5 ?_)
 case c1=>exact Az _ _ _ _ rfl
 case c2=>intro u hu;simp at hu;subst hu;rfl
 case c3=>unfold maxLen;omega
 case c4=>omega
 case c5=>simp;omega
 intro v' w2 hown2 hgrow _;obtain ⟨va',vc',rfl⟩:=Ae hown2;have hb1:=Af hb (.cells #[.int .u8 (x % 256)] 5);have hown1:=hown.alloc (.cells #[.int .u8 (x % 256)] 5);have hG:=((WG.refl n w).alloc (by omega) (.cells #[.int .u8 (x % 256)] 5)).grown hgrow hown1 (by simp;omega);have hb2:w2.heap[B]?=some (.cells #[.slice va l.length vc] 99 (0,0)):=Kp.of_grown (b:=0) hgrow hown1 B _ _ (Nat.zero_le _) hb1 (by decide);have c2:=Ab hb2 0;have f2:=Ag hb2 0;have lB2:=lt_of_block hb2;simp at c2;clear c0 f0 lB;have hown3:(w2.setCell ⟨B,0,none⟩ (.slice va' (l.length+1) vc')).ownsRow n 5 1 (.slice va' (l.length+1) vc') (l ++ [Wr.b x]).length (Wr.cs (l ++ [Wr.b x])):=by
  have:w2.ownsRow n 5 1 (.slice va' (l.length+1) vc') (l ++ [Wr.b x]).length (Wr.cs (l ++ [Wr.b x])):=by
   rw [Wr.cs_app,List.length_append]
   simpa [Wr.cs,Wr.b_nat] using hown2
  exact Au this (Kp.set (b:=n) hb2 (.slice va' (l.length+1) vc')) (by decide)
 have hb3:(w2.setCell ⟨B,0,none⟩ (.slice va' (l.length+1) vc')).heap[B]?=some (.cells #[.slice va' (l.length+1) vc'] 99 (0,0)):=by rw [Ai hb2];rfl
 have hG3:=hG.set (i:=0) hb2 hnB (.slice va' (l.length+1) vc');go_wp2
 go_end0
 exact ⟨rfl,⟨_,hb3,hnB,hown3⟩,hG3⟩
theorem Ms (n B:Nat) (l:List UInt8) (k x:Int) (w:World) (hl:l.length+2≤100000) (hW:WrAt w n B l) :
  Calls Tryz.prog 82 #[.pointer (some ⟨B,0,none⟩),.agg #[.int .i64 k,.int .i64 x]] w fun e w'=>e=.returned (.tuple #[])∧WrAt w' n B (l ++ Wr.ty (k,x))∧WG n w w':=by
 have C0:=Ad w (.cells #[.int .i64 k,.int .i64 x] 39);have hlt:=hW.lt;have G0:=(WG.refl n w).alloc (by omega) (.cells #[.int .i64 k,.int .i64 x] 39);have hW0:=hW.alloc (.cells #[.int .i64 k,.int .i64 x] 39);go_enter Tryz.func82,Tryz.ntmps82
 (go_wp2_with fail);refine (Be n B l k _ (by omega) hW0).mono ?_;rintro e w1 ⟨rfl,hW1,hg1⟩
 have C1:=hg1.kp _ _ _ C0 (by decide) (by decide);have x1:=Ab C1 1;have l1:=lt_of_block C1;simp at x1
 (go_wp2_with fail);refine (Be n B (l ++ [Wr.b k]) x _ (by simp;omega) hW1).mono ?_;rintro e w2 ⟨rfl,hW2,hg2⟩
 go_wp2
 go_end0
 exact ⟨rfl,by simpa [Wr.ty] using hW2,(G0.trans hg1).trans hg2⟩
theorem Ly (n B b:Nat) (l:List UInt8) (ts:List (Int × Int)) (a:Option Addr) (m c:Nat) (w:World) (hl:l.length+2 * ts.length≤100000) (hW:WrAt w n B l) (hT:TysAt w b (.slice a m c) ts) :
  Calls Tryz.prog 44 #[.pointer (some ⟨B,0,none⟩),.slice a m c] w fun e w'=>e=.returned (.tuple #[])∧WrAt w' n B (l ++ Wr.tys ts)∧WG n w w':=by
 obtain ⟨xa,xc,hsh⟩:=Ae hT;simp only [Value.slice.injEq] at hsh;obtain ⟨rfl,hn1,rfl⟩:=hsh;subst hn1;go_enter Tryz.func44,Tryz.ntmps44;go_wp2
 go_loopw [8] (fun v wr=>∃ k:Nat,k≤ts.length∧v=.int .i64 (k:Int)∧WrAt wr n B (l ++ Wr.tys (ts.take k))∧WG n w wr)
  (fun v _=>ts.length - (intOf v).toNat)
 case atStart=>exact ⟨0,by omega,rfl,by simpa [Wr.tys] using hW,WG.refl n w⟩
 case round =>
  obtain ⟨k,hk,rfl,hWr,hG⟩:=hrel;have hlt:=hWr.lt;by_cases hkn:k < ts.length
  ·obtain ⟨g,hg,hglt,hbg,hcell⟩:=Am (Ch hT hG (by decide) (by decide)) (by omega);obtain ⟨e1,e2,e3⟩:=Bd ts k hkn;have x0:=hcell (k * 2) (by omega);have x1:=hcell (k * 2+1) (by omega);rw [e1] at x0;rw [e2] at x1;have hd:ts.take (k+1)=ts.take k ++ [ts[k]]:=by rw [List.take_succ_eq_append_getElem hkn]
   have hTL:(ts.take k).length=k:=by simp;omega
   generalize ts[k]=t at *;obtain ⟨t1,t2⟩:=t;simp only at x0 x1;have hTy:=Wr.tys_len (ts.take k);rw [hTL] at hTy;have HD:Hid (l ++ Wr.tys (ts.take (k+1))=l ++ Wr.tys (ts.take k) ++ Wr.ty (t1,t2)):=by unfold Hid;rw [hd];simp [Wr.tys]
   have hLL:(l ++ Wr.tys (ts.take k)).length+2≤100000:=by rw [List.length_append,hTy];omega
   generalize l ++ Wr.tys (ts.take k)=L at *;have hW1:=hWr.alloc (.cells #[.int .i64 t1,.int .i64 t2] 39);have hG1:=hG.alloc (by omega) (.cells #[.int .i64 t1,.int .i64 t2] 39);clear hcell e1 e2 e3 hd hbg hTL hTy;subst hg;go_wp2_with fail
   refine (Ms n B L t1 t2 _ hLL hW1).mono ?_;rintro e w2 ⟨rfl,hW2,hg2⟩;have hG2:=hG1.trans hg2;rw [← Aa HD] at hW2;clear x0 x1 hg2 hG1 hG hW1 hWr;go_wp2
   go_roundw
   case rel=>exact ⟨k+1,by omega,by go_num,hW2,hG2⟩
   case measure=>simp [intOf];omega
  ·have e:ts.take k=ts:=List.take_of_length_le (by omega);rw [e] at hWr;go_wp2
   go_end0
   exact ⟨rfl,hWr,hG⟩
theorem Eh (l:List Rd.Hnd) (k:Nat) (hk:k < l.length) (j:Nat) (hj:j < 4):(Bb l)[k * 4+j]?=[Value.int .i64 l[k].frm,.int .i64 l[k].til,.int .i64 l[k].target,.int .i64 l[k].cl][j]?∧k * 4+j < (Bb l).length:=by
 refine ⟨Eb (fun x:Rd.Hnd=>[Value.int .i64 x.frm,.int .i64 x.til,.int .i64 x.target,.int .i64 x.cl]) 4 (fun _=>rfl) l k hk j hj,?_⟩;unfold Bb;rw [Dp (fun x:Rd.Hnd=>[Value.int .i64 x.frm,.int .i64 x.til,.int .i64 x.target,.int .i64 x.cl]) 4 (fun _=>rfl) l];omega
theorem Wr.hs_len (l:List Rd.Hnd):(l.flatMap Wr.hnd).length=4 * l.length:=by
 induction l with
 | nil=>rfl
 | cons x r ih=>simp [Wr.hnd] at ih ⊢;omega
theorem N6 (n B b:Nat) (l:List UInt8) (hs:List Rd.Hnd) (a:Option Addr) (m c:Nat) (w:World) (hl:l.length+(Wr.hnds hs).length≤100000) (hW:WrAt w n B l) (hT:HndsAt w b (.slice a m c) hs) :
  Calls Tryz.prog 83 #[.pointer (some ⟨B,0,none⟩),.slice a m c] w fun e w'=>e=.returned (.tuple #[])∧WrAt w' n B (l ++ Wr.hnds hs)∧WG n w w':=by
 obtain ⟨xa,xc,hsh⟩:=Ae hT;simp only [Value.slice.injEq] at hsh;obtain ⟨rfl,hn1,rfl⟩:=hsh;subst hn1;unfold Wr.hnds at hl ⊢;rw [List.length_cons,Wr.hs_len] at hl;generalize hB0:Wr.b (hs.length:Int)=b0;have HB0:=Ac hB0;clear hB0;go_enter Tryz.func83,Tryz.ntmps83
 (go_wp2_with fail);refine (Be n B l (hs.length:Int) _ (by omega) hW).mono ?_;rintro e w1 ⟨rfl,hW1,hg1⟩
 rw [Aa HB0] at hW1;go_wp2
 go_loopw [12] (fun v wr=>∃ k:Nat,k≤hs.length∧v=.int .i64 (k:Int)∧WrAt wr n B (l ++ [b0] ++ (hs.take k).flatMap Wr.hnd)∧WG n w wr)
  (fun v _=>hs.length - (intOf v).toNat)
 case atStart=>exact ⟨0,by omega,rfl,by simpa using hW1,hg1⟩
 case round =>
  clear hW1 hg1;obtain ⟨k,hk,rfl,hWr,hG⟩:=hrel;have hlt:=hWr.lt;by_cases hkn:k < hs.length
  ·obtain ⟨g,hg,hglt,hbg,hcell⟩:=Am (Ch hT hG (by decide) (by decide)) (by omega);have x0:=(hcell _ (Eh hs k hkn 0 (by omega)).2).trans (Eh hs k hkn 0 (by omega)).1;have x1:=(hcell _ (Eh hs k hkn 1 (by omega)).2).trans (Eh hs k hkn 1 (by omega)).1;have x2:=(hcell _ (Eh hs k hkn 2 (by omega)).2).trans (Eh hs k hkn 2 (by omega)).1;have x3:=(hcell _ (Eh hs k hkn 3 (by omega)).2).trans (Eh hs k hkn 3 (by omega)).1;have hd:hs.take (k+1)=hs.take k ++ [hs[k]]:=by rw [List.take_succ_eq_append_getElem hkn]
   have hTy:=Wr.hs_len (hs.take k);have hTL:(hs.take k).length=k:=by simp;omega
   generalize hs[k]=t at *;obtain ⟨t1,t2,t3,t4⟩:=t;simp at x0 x1 x2 x3;rw [hTL] at hTy;have HD:Hid (l ++ [b0] ++ (hs.take (k+1)).flatMap Wr.hnd=l ++ [b0] ++ (hs.take k).flatMap Wr.hnd ++ [Wr.b t1] ++ [Wr.b t2] ++ [Wr.b t3] ++ [Wr.b t4]):=by unfold Hid;rw [hd];simp [Wr.hnd]
   have hLL:(l ++ [b0] ++ (hs.take k).flatMap Wr.hnd).length+4≤100000:=by rw [List.length_append,List.length_append,hTy];simp;omega
   generalize l ++ [b0] ++ (hs.take k).flatMap Wr.hnd=L at *;have hW1:=hWr.alloc (.cells #[.int .i64 t1,.int .i64 t2,.int .i64 t3,.int .i64 t4] 219);have C1:=Ad wr (.cells #[.int .i64 t1,.int .i64 t2,.int .i64 t3,.int .i64 t4] 219);have hG1:=hG.alloc (by omega) (.cells #[.int .i64 t1,.int .i64 t2,.int .i64 t3,.int .i64 t4] 219);clear hcell hd hbg hTL hTy;subst hg
   (go_wp2_with fail);refine (Be n B L t1 _ (by omega) hW1).mono ?_;rintro e w2 ⟨rfl,hW2,hg2⟩
   have C2:=hg2.kp _ _ _ C1 (by decide) (by decide);have y1:=Ab C2 1;have l2:=lt_of_block C2;simp at y1
   (go_wp2_with fail);refine (Be n B (L ++ [Wr.b t1]) t2 _ (by simp;omega) hW2).mono ?_;rintro e w3 ⟨rfl,hW3,hg3⟩
   have C3:=hg3.kp _ _ _ C2 (by decide) (by decide);have y2:=Ab C3 2;have l3:=lt_of_block C3;simp at y2
   (go_wp2_with fail);refine (Be n B (L ++ [Wr.b t1] ++ [Wr.b t2]) t3 _ (by simp;omega) hW3).mono ?_;rintro e w4 ⟨rfl,hW4,hg4⟩
   have C4:=hg4.kp _ _ _ C3 (by decide) (by decide);have y3:=Ab C4 3;have l4:=lt_of_block C4;simp at y3
   (go_wp2_with fail);refine (Be n B (L ++ [Wr.b t1] ++ [Wr.b t2] ++ [Wr.b t3]) t4 _ (by simp;omega) hW4).mono ?_;rintro e w5 ⟨rfl,hW5,hg5⟩
   have hG2:=(((hG1.trans hg2).trans hg3).trans hg4).trans hg5;rw [← Aa HD] at hW5;clear x0 x1 x2 x3 y1 y2 y3 l2 l3 l4 C1 C2 C3 C4 hg2 hg3 hg4 hg5 hG1 hG hW1 hW2 hW3 hW4 hWr;go_wp2
   go_roundw
   case rel=>exact ⟨k+1,by omega,by go_num,hW5,hG2⟩
   case measure=>simp [intOf];omega
  ·have e:hs.take k=hs:=List.take_of_length_le (by omega);rw [e] at hWr;go_wp2
   go_end0
   exact ⟨rfl,by simpa using hWr,hG⟩
theorem Gb (l:List (Rd.Mp × Value × Value)) (k:Nat) (hk:k < l.length) (j:Nat) (hj:j < 3):(Cn l)[k * 3+j]?=[Value.int .i64 l[k].1.place,l[k].2.1,l[k].2.2][j]?∧k * 3+j < (Cn l).length:=by
 refine ⟨Eb (fun x:Rd.Mp × Value × Value=>[Value.int .i64 x.1.place,x.2.1,x.2.2]) 3 (fun _=>rfl) l k hk j hj,?_⟩;unfold Cn;rw [Dp (fun x:Rd.Mp × Value × Value=>[Value.int .i64 x.1.place,x.2.1,x.2.2]) 3 (fun _=>rfl) l];omega
theorem Wr.ms_take (l:List (Rd.Mp × Value × Value)) (k:Nat) (hk:k < l.length) :
  (((l.take k).map Prod.fst).flatMap Wr.mp).length+(Wr.mp l[k].1).length≤((l.map Prod.fst).flatMap Wr.mp).length:=by
 have h:(l.map Prod.fst).flatMap Wr.mp=((l.take k).map Prod.fst).flatMap Wr.mp ++ (Wr.mp l[k].1 ++ ((l.drop (k+1)).map Prod.fst).flatMap Wr.mp):=by
  rw [← List.flatMap_cons,← List.map_cons,← List.drop_eq_getElem_cons hk,← List.flatMap_append,← List.map_append,List.take_append_drop]
 rw [h,List.length_append,List.length_append];omega
theorem Wr.mth_len (x:Rd.Mth):(Wr.mth x).length=8+2 * x.params.length+x.code.length+(Wr.hnds x.handlers).length+(Wr.mps x.maps).length:=by
 simp [Wr.mth,Wr.head,Wr.ty,Wr.tys_len];omega
theorem Wr.chunk_take {α:Type} (f:α→List UInt8) (l:List α) (k:Nat) (hk:k < l.length):((l.take k).flatMap f).length+(f l[k]).length≤(l.flatMap f).length:=by
 have h:l.flatMap f=(l.take k).flatMap f ++ (f l[k] ++ (l.drop (k+1)).flatMap f):=by
  rw [← List.flatMap_cons,← List.drop_eq_getElem_cons hk,← List.flatMap_append,List.take_append_drop]
 rw [h,List.length_append,List.length_append];omega
theorem ClssIn.wg {n b:Nat}{v:Value}{l:List (Rd.Cls × Value)}{w w':World} (h:ClssIn w b v l) (hg:WG n w w'):ClssIn w' b v l :=
 ⟨Ch h.1 hg (by decide) (by decide),fun p hp=>Ch (h.2 p hp) hg (by decide) (by decide)⟩
end Go.Proofs.YtcefiamkoincoaaGreat
