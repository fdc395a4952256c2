/- a part of the proof in YtcefiamkoincoaaGreatStableProof -/
import Derived.Laws.IdiomStrings
import Derived.Test.YtcefiamkoincoaaGreatPk05
set_option maxRecDepth 100000
set_option maxHeartbeats 40000000
namespace Go.Proofs.YtcefiamkoincoaaGreat
open Go.RowKit
theorem Tryz.infoU8:(Tryz.prog.info? 5).map (fun i=>(i.zero,i.size,i.bytes))=some (some (.int .u8 0),1,1):=by kernel_rfl
def Wr.cs (l:List UInt8):List Value:=l.map fun b=>.int .u8 (b.toNat:Int)
theorem Wr.b_nat (x:Int):((Wr.b x).toNat:Int)=x % 256:=by
 unfold Wr.b;have h0:=Int.emod_nonneg x (show (256:Int) ≠ 0 by omega);have h1:=Int.emod_lt_of_pos x (show (0:Int) < 256 by omega);rw [UInt8.toNat_ofNat'];rw [Nat.mod_eq_of_lt (by omega)];omega
structure WG (n:Nat) (w w':World):Prop where
 bel:Below n w w'
 kp:∀ (k:Nat) (cs:Array Value) (t:TypeId),w.heap[k]?=some (.cells cs t (0,0))→t ≠ 5→t ≠ 99→w'.heap[k]?=some (.cells cs t (0,0))
theorem WG.refl (n:Nat) (w:World):WG n w w:=⟨Below.refl _ _,fun _ _ _ h _ _=>h⟩
theorem WG.trans {n:Nat}{a b c:World} (h:WG n a b) (k:WG n b c):WG n a c:=⟨h.bel.trans k.bel,fun i cs t hc h1 h2=>k.kp i cs t (h.kp i cs t hc h1 h2) h1 h2⟩
theorem WG.alloc {n:Nat}{a b:World} (h:WG n a b) (hn:n≤b.heap.size) (o:Obj):WG n a (b.alloc o) :=
 ⟨h.bel.alloc hn o,fun i cs t hc h1 h2=>by
  have:=h.kp i cs t hc h1 h2;rw [Below.heap_alloc b o i (lt_of_block this)];exact this⟩
def WrAt (w:World) (n B:Nat) (l:List UInt8):Prop:=∃ v,w.heap[B]?=some (.cells #[v] 99 (0,0))∧n≤B∧w.ownsRow n 5 1 v l.length (Wr.cs l)
theorem WrAt.alloc {w:World}{n B:Nat}{l:List UInt8} (h:WrAt w n B l) (o:Obj):WrAt (w.alloc o) n B l:=by
 obtain ⟨v,h1,h2,h3⟩:=h;exact ⟨v,by rw [Below.heap_alloc w o B (lt_of_block h1)];exact h1,h2,h3.alloc o⟩
theorem WrAt.lt {w:World}{n B:Nat}{l:List UInt8} (h:WrAt w n B l):n≤B∧B < w.heap.size:=by
 obtain ⟨v,h1,h2,_⟩:=h;exact ⟨h2,lt_of_block h1⟩
theorem WG.grown {n:Nat}{a b c:World}{v:Value}{m:Nat}{xs:List Value} (h:WG n a b) (hg:b.grownBy c v.ownBlock) (ho:b.ownsRow n 5 1 v m xs) (hn:n≤b.heap.size):WG n a c :=
 ⟨h.bel.grown hg hn (fun k e=>(ho.lt k e).1),fun k cs t hc h1 h2=>Kp.of_grown (b:=0) hg ho k cs t (Nat.zero_le _) (h.kp k cs t hc h1 h2) (by simpa using h1)⟩
theorem WG.set {n B i:Nat}{a b:World}{cs:Array Value} (h:WG n a b) (hB:b.heap[B]?=some (.cells cs 99 (0,0))) (hn:n≤B) (u:Value):WG n a (b.setCell ⟨B,i,none⟩ u) :=
 ⟨h.bel.setCell (by simpa using hn) u,fun k cs' t hc h1 h2=>Kp.set (b:=0) hB u k cs' t (Nat.zero_le _) (h.kp k cs' t hc h1 h2) (by simpa using h2)⟩
theorem Av {n b size m:Nat}{t:TypeId}{v:Value}{xs:List Value}{w w':World} (h:w.ownsRow b t size v m xs) (hg:WG n w w') (h1:t ≠ 5) (h2:t ≠ 99):w'.ownsRow b t size v m xs:=by
 obtain ⟨e1,e2 | ⟨g,cap,cur,a,c,d,r⟩⟩:=h
 ·exact ⟨e1,.inl e2⟩
 ·exact ⟨e1,.inr ⟨g,cap,cur,a,c,hg.kp g cur t d h1 h2,r⟩⟩
theorem Wr.cs_app (l r:List UInt8):Wr.cs (l ++ r)=Wr.cs l ++ Wr.cs r:=by simp [Wr.cs]
theorem Wr.tys_len (l:List (Int × Int)):(Wr.tys l).length=2 * l.length:=by
 induction l with
 | nil=>rfl
 | cons x r ih=>simp [Wr.tys,Wr.ty] at ih ⊢;omega
theorem Ap (n B:Nat) (l:List UInt8) (x:Int) (w:World) (hl:l.length≤100000) (hW:WrAt w n B l) :
  Calls Tryz.prog 43 #[.pointer (some ⟨B,0,none⟩),.int .i64 x] w fun e w'=>e=.returned (.tuple #[])∧WrAt w' n B (l ++ [Wr.b x])∧WG n w w':=by
 obtain ⟨v,hb,hnB,hown⟩:=hW;obtain ⟨i0,hi,hz0,hz1,hz2⟩:=info_parts Tryz.infoU8;have c0:=Ab hb 0;have f0:=Ag hb 0;have lB:=lt_of_block hb;simp at c0;obtain ⟨va,vc,rfl⟩:=Af hown;go_enter Tryz.func43,Tryz.ntmps43;go_wp2_with (at_builtin;refine wpList_append_own _ rfl _ _ 97 rfl n 5 i0 _ 1 1 Tryz.underlying97 hi hz0 hz1 hz2 rfl (by decide) _ _ _ rfl (hown.alloc _) ⟨w.heap.size,0,none⟩ 1 1 [.int .u8 (x % 256)] rfl rfl ?c1 ?c2 ?c3 ?c4 ?c5 ?_)
 case c1=>exact Aw _ _ _ _ rfl
 case c2=>intro u hu;simp at hu;subst hu;rfl
 case c3=>unfold maxLen;omega
 case c4=>omega
 case c5=>simp;omega
 intro v' w2 hown2 hgrow _;obtain ⟨va',vc',rfl⟩:=Af hown2;have hb1:=Ae hb (.cells #[.int .u8 (x % 256)] 5);have hown1:=hown.alloc (.cells #[.int .u8 (x % 256)] 5);have hG:=((WG.refl n w).alloc (by omega) (.cells #[.int .u8 (x % 256)] 5)).grown hgrow hown1 (by simp;omega);have hb2:w2.heap[B]?=some (.cells #[.slice va l.length vc] 99 (0,0)):=Kp.of_grown (b:=0) hgrow hown1 B _ _ (Nat.zero_le _) hb1 (by decide);have c2:=Ab hb2 0;have f2:=Ag hb2 0;have lB2:=lt_of_block hb2;simp at c2;clear c0 f0 lB;have hown3:(w2.setCell ⟨B,0,none⟩ (.slice va' (l.length+1) vc')).ownsRow n 5 1 (.slice va' (l.length+1) vc') (l ++ [Wr.b x]).length (Wr.cs (l ++ [Wr.b x])):=by
  have:w2.ownsRow n 5 1 (.slice va' (l.length+1) vc') (l ++ [Wr.b x]).length (Wr.cs (l ++ [Wr.b x])):=by
   rw [Wr.cs_app,List.length_append]
   simpa [Wr.cs,Wr.b_nat] using hown2
  exact As this (Kp.set (b:=n) hb2 (.slice va' (l.length+1) vc')) (by decide)
 have hb3:(w2.setCell ⟨B,0,none⟩ (.slice va' (l.length+1) vc')).heap[B]?=some (.cells #[.slice va' (l.length+1) vc'] 99 (0,0)):=by rw [Al hb2];rfl
 have hG3:=hG.set (i:=0) hb2 hnB (.slice va' (l.length+1) vc');go_wp2
 go_end0
 exact ⟨rfl,⟨_,hb3,hnB,hown3⟩,hG3⟩
theorem Iu (n B:Nat) (l:List UInt8) (k x:Int) (w:World) (hl:l.length+2≤100000) (hW:WrAt w n B l) :
  Calls Tryz.prog 82 #[.pointer (some ⟨B,0,none⟩),.agg #[.int .i64 k,.int .i64 x]] w fun e w'=>e=.returned (.tuple #[])∧WrAt w' n B (l ++ Wr.ty (k,x))∧WG n w w':=by
 have C0:=Ad w (.cells #[.int .i64 k,.int .i64 x] 39);have hlt:=hW.lt;have G0:=(WG.refl n w).alloc (by omega) (.cells #[.int .i64 k,.int .i64 x] 39);have hW0:=hW.alloc (.cells #[.int .i64 k,.int .i64 x] 39);go_enter Tryz.func82,Tryz.ntmps82
 (go_wp2_with fail);refine (Ap n B l k _ (by omega) hW0).mono ?_;rintro e w1 ⟨rfl,hW1,hg1⟩
 have C1:=hg1.kp _ _ _ C0 (by decide) (by decide);have x1:=Ab C1 1;have l1:=lt_of_block C1;simp at x1
 (go_wp2_with fail);refine (Ap n B (l ++ [Wr.b k]) x _ (by simp;omega) hW1).mono ?_;rintro e w2 ⟨rfl,hW2,hg2⟩
 go_wp2
 go_end0
 exact ⟨rfl,by simpa [Wr.ty] using hW2,(G0.trans hg1).trans hg2⟩
theorem Dh (n B b:Nat) (l:List UInt8) (ts:List (Int × Int)) (a:Option Addr) (m c:Nat) (w:World) (hl:l.length+2 * ts.length≤100000) (hW:WrAt w n B l) (hT:TysAt w b (.slice a m c) ts) :
  Calls Tryz.prog 44 #[.pointer (some ⟨B,0,none⟩),.slice a m c] w fun e w'=>e=.returned (.tuple #[])∧WrAt w' n B (l ++ Wr.tys ts)∧WG n w w':=by
 obtain ⟨xa,xc,hsh⟩:=Af hT;simp only [Value.slice.injEq] at hsh;obtain ⟨rfl,hn1,rfl⟩:=hsh;subst hn1;go_enter Tryz.func44,Tryz.ntmps44;go_wp2
 go_loopw [8] (fun v wr=>∃ k:Nat,k≤ts.length∧v=.int .i64 (k:Int)∧WrAt wr n B (l ++ Wr.tys (ts.take k))∧WG n w wr)
  (fun v _=>ts.length - (intOf v).toNat)
 case atStart=>exact ⟨0,by omega,rfl,by simpa [Wr.tys] using hW,WG.refl n w⟩
 case round =>
  obtain ⟨k,hk,rfl,hWr,hG⟩:=hrel;have hlt:=hWr.lt;by_cases hkn:k < ts.length
  ·obtain ⟨g,hg,hglt,hbg,hcell⟩:=Ao (Av hT hG (by decide) (by decide)) (by omega);obtain ⟨e1,e2,e3⟩:=Cm ts k hkn;have x0:=hcell (k * 2) (by omega);have x1:=hcell (k * 2+1) (by omega);rw [e1] at x0;rw [e2] at x1;have hd:ts.take (k+1)=ts.take k ++ [ts[k]]:=by rw [List.take_succ_eq_append_getElem hkn]
   have hTL:(ts.take k).length=k:=by simp;omega
   generalize ts[k]=t at *;obtain ⟨t1,t2⟩:=t;simp only at x0 x1;have hTy:=Wr.tys_len (ts.take k);rw [hTL] at hTy;have HD:Hid (l ++ Wr.tys (ts.take (k+1))=l ++ Wr.tys (ts.take k) ++ Wr.ty (t1,t2)):=by unfold Hid;rw [hd];simp [Wr.tys]
   have hLL:(l ++ Wr.tys (ts.take k)).length+2≤100000:=by rw [List.length_append,hTy];omega
   generalize l ++ Wr.tys (ts.take k)=L at *;have hW1:=hWr.alloc (.cells #[.int .i64 t1,.int .i64 t2] 39);have hG1:=hG.alloc (by omega) (.cells #[.int .i64 t1,.int .i64 t2] 39);clear hcell e1 e2 e3 hd hbg hTL hTy;subst hg;go_wp2_with fail
   refine (Iu n B L t1 t2 _ hLL hW1).mono ?_;rintro e w2 ⟨rfl,hW2,hg2⟩;have hG2:=hG1.trans hg2;rw [← Aa HD] at hW2;clear x0 x1 hg2 hG1 hG hW1 hWr;go_wp2
   go_roundw
   case rel=>exact ⟨k+1,by omega,by go_num,hW2,hG2⟩
   case measure=>simp [intOf];omega
  ·have e:ts.take k=ts:=List.take_of_length_le (by omega);rw [e] at hWr;go_wp2
   go_end0
   exact ⟨rfl,hWr,hG⟩
theorem Du (l:List Rd.Hnd) (k:Nat) (hk:k < l.length) (j:Nat) (hj:j < 4):(A5 l)[k * 4+j]?=[Value.int .i64 l[k].frm,.int .i64 l[k].til,.int .i64 l[k].target,.int .i64 l[k].cl][j]?∧k * 4+j < (A5 l).length:=by
 refine ⟨Eg (fun x:Rd.Hnd=>[Value.int .i64 x.frm,.int .i64 x.til,.int .i64 x.target,.int .i64 x.cl]) 4 (fun _=>rfl) l k hk j hj,?_⟩;unfold A5;rw [Dt (fun x:Rd.Hnd=>[Value.int .i64 x.frm,.int .i64 x.til,.int .i64 x.target,.int .i64 x.cl]) 4 (fun _=>rfl) l];omega
theorem Wr.hs_len (l:List Rd.Hnd):(l.flatMap Wr.hnd).length=4 * l.length:=by
 induction l with
 | nil=>rfl
 | cons x r ih=>simp [Wr.hnd] at ih ⊢;omega
theorem Ht (n B b:Nat) (l:List UInt8) (hs:List Rd.Hnd) (a:Option Addr) (m c:Nat) (w:World) (hl:l.length+(Wr.hnds hs).length≤100000) (hW:WrAt w n B l) (hT:HndsAt w b (.slice a m c) hs) :
  Calls Tryz.prog 83 #[.pointer (some ⟨B,0,none⟩),.slice a m c] w fun e w'=>e=.returned (.tuple #[])∧WrAt w' n B (l ++ Wr.hnds hs)∧WG n w w':=by
 obtain ⟨xa,xc,hsh⟩:=Af hT;simp only [Value.slice.injEq] at hsh;obtain ⟨rfl,hn1,rfl⟩:=hsh;subst hn1;unfold Wr.hnds at hl ⊢;rw [List.length_cons,Wr.hs_len] at hl;generalize hB0:Wr.b (hs.length:Int)=b0;have HB0:=Ac hB0;clear hB0;go_enter Tryz.func83,Tryz.ntmps83
 (go_wp2_with fail);refine (Ap n B l (hs.length:Int) _ (by omega) hW).mono ?_;rintro e w1 ⟨rfl,hW1,hg1⟩
 rw [Aa HB0] at hW1;go_wp2
 go_loopw [12] (fun v wr=>∃ k:Nat,k≤hs.length∧v=.int .i64 (k:Int)∧WrAt wr n B (l ++ [b0] ++ (hs.take k).flatMap Wr.hnd)∧WG n w wr)
  (fun v _=>hs.length - (intOf v).toNat)
 case atStart=>exact ⟨0,by omega,rfl,by simpa using hW1,hg1⟩
 case round =>
  clear hW1 hg1;obtain ⟨k,hk,rfl,hWr,hG⟩:=hrel;have hlt:=hWr.lt;by_cases hkn:k < hs.length
  ·obtain ⟨g,hg,hglt,hbg,hcell⟩:=Ao (Av hT hG (by decide) (by decide)) (by omega);have x0:=(hcell _ (Du hs k hkn 0 (by omega)).2).trans (Du hs k hkn 0 (by omega)).1;have x1:=(hcell _ (Du hs k hkn 1 (by omega)).2).trans (Du hs k hkn 1 (by omega)).1;have x2:=(hcell _ (Du hs k hkn 2 (by omega)).2).trans (Du hs k hkn 2 (by omega)).1;have x3:=(hcell _ (Du hs k hkn 3 (by omega)).2).trans (Du hs k hkn 3 (by omega)).1;have hd:hs.take (k+1)=hs.take k ++ [hs[k]]:=by rw [List.take_succ_eq_append_getElem hkn]
   have hTy:=Wr.hs_len (hs.take k);have hTL:(hs.take k).length=k:=by simp;omega
   generalize hs[k]=t at *;obtain ⟨t1,t2,t3,t4⟩:=t;simp at x0 x1 x2 x3;rw [hTL] at hTy;have HD:Hid (l ++ [b0] ++ (hs.take (k+1)).flatMap Wr.hnd=l ++ [b0] ++ (hs.take k).flatMap Wr.hnd ++ [Wr.b t1] ++ [Wr.b t2] ++ [Wr.b t3] ++ [Wr.b t4]):=by unfold Hid;rw [hd];simp [Wr.hnd]
   have hLL:(l ++ [b0] ++ (hs.take k).flatMap Wr.hnd).length+4≤100000:=by rw [List.length_append,List.length_append,hTy];simp;omega
   generalize l ++ [b0] ++ (hs.take k).flatMap Wr.hnd=L at *;have hW1:=hWr.alloc (.cells #[.int .i64 t1,.int .i64 t2,.int .i64 t3,.int .i64 t4] 219);have C1:=Ad wr (.cells #[.int .i64 t1,.int .i64 t2,.int .i64 t3,.int .i64 t4] 219);have hG1:=hG.alloc (by omega) (.cells #[.int .i64 t1,.int .i64 t2,.int .i64 t3,.int .i64 t4] 219);clear hcell hd hbg hTL hTy;subst hg
   (go_wp2_with fail);refine (Ap n B L t1 _ (by omega) hW1).mono ?_;rintro e w2 ⟨rfl,hW2,hg2⟩
   have C2:=hg2.kp _ _ _ C1 (by decide) (by decide);have y1:=Ab C2 1;have l2:=lt_of_block C2;simp at y1
   (go_wp2_with fail);refine (Ap n B (L ++ [Wr.b t1]) t2 _ (by simp;omega) hW2).mono ?_;rintro e w3 ⟨rfl,hW3,hg3⟩
   have C3:=hg3.kp _ _ _ C2 (by decide) (by decide);have y2:=Ab C3 2;have l3:=lt_of_block C3;simp at y2
   (go_wp2_with fail);refine (Ap n B (L ++ [Wr.b t1] ++ [Wr.b t2]) t3 _ (by simp;omega) hW3).mono ?_;rintro e w4 ⟨rfl,hW4,hg4⟩
   have C4:=hg4.kp _ _ _ C3 (by decide) (by decide);have y3:=Ab C4 3;have l4:=lt_of_block C4;simp at y3
   (go_wp2_with fail);refine (Ap n B (L ++ [Wr.b t1] ++ [Wr.b t2] ++ [Wr.b t3]) t4 _ (by simp;omega) hW4).mono ?_;rintro e w5 ⟨rfl,hW5,hg5⟩
   have hG2:=(((hG1.trans hg2).trans hg3).trans hg4).trans hg5;rw [← Aa HD] at hW5;clear x0 x1 x2 x3 y1 y2 y3 l2 l3 l4 C1 C2 C3 C4 hg2 hg3 hg4 hg5 hG1 hG hW1 hW2 hW3 hW4 hWr;go_wp2
   go_roundw
   case rel=>exact ⟨k+1,by omega,by go_num,hW5,hG2⟩
   case measure=>simp [intOf];omega
  ·have e:hs.take k=hs:=List.take_of_length_le (by omega);rw [e] at hWr;go_wp2
   go_end0
   exact ⟨rfl,by simpa using hWr,hG⟩
theorem Bz (l:List (Rd.Mp × Value × Value)) (k:Nat) (hk:k < l.length) (j:Nat) (hj:j < 3):(Ch l)[k * 3+j]?=[Value.int .i64 l[k].1.place,l[k].2.1,l[k].2.2][j]?∧k * 3+j < (Ch l).length:=by
 refine ⟨Eg (fun x:Rd.Mp × Value × Value=>[Value.int .i64 x.1.place,x.2.1,x.2.2]) 3 (fun _=>rfl) l k hk j hj,?_⟩;unfold Ch;rw [Dt (fun x:Rd.Mp × Value × Value=>[Value.int .i64 x.1.place,x.2.1,x.2.2]) 3 (fun _=>rfl) l];omega
theorem Wr.ms_take (l:List (Rd.Mp × Value × Value)) (k:Nat) (hk:k < l.length) :
  (((l.take k).map Prod.fst).flatMap Wr.mp).length+(Wr.mp l[k].1).length≤((l.map Prod.fst).flatMap Wr.mp).length:=by
 have h:(l.map Prod.fst).flatMap Wr.mp=((l.take k).map Prod.fst).flatMap Wr.mp ++ (Wr.mp l[k].1 ++ ((l.drop (k+1)).map Prod.fst).flatMap Wr.mp):=by
  rw [← List.flatMap_cons,← List.map_cons,← List.drop_eq_getElem_cons hk,← List.flatMap_append,← List.map_append,List.take_append_drop]
 rw [h,List.length_append,List.length_append];omega
theorem Sy (n B b:Nat) (l:List UInt8) (ms:List (Rd.Mp × Value × Value)) (a:Option Addr) (m c:Nat) (w:World) (hl:l.length+(Wr.mps (ms.map Prod.fst)).length≤100000) (hW:WrAt w n B l) (hT:MpsIn w b (.slice a m c) ms) :
  Calls Tryz.prog 84 #[.pointer (some ⟨B,0,none⟩),.slice a m c] w fun e w'=>e=.returned (.tuple #[])∧WrAt w' n B (l ++ Wr.mps (ms.map Prod.fst))∧WG n w w':=by
 obtain ⟨xa,xc,hsh⟩:=Af hT.1;simp only [Value.slice.injEq] at hsh;obtain ⟨rfl,hn1,rfl⟩:=hsh;subst hn1;unfold Wr.mps at hl ⊢;rw [List.length_cons] at hl;rw [List.length_map];have hml:ms.length≤100000:=by
  have:∀ r:List (Rd.Mp × Value × Value),r.length≤((r.map Prod.fst).flatMap Wr.mp).length:=by
   intro r
   induction r with
   | nil=>simp
   | cons x r ih=>simp only [List.map_cons,List.flatMap_cons,List.length_append,List.length_cons,Wr.mp];omega
  have:=this ms;omega
 generalize hB0:Wr.b (ms.length:Int)=b0;have HB0:=Ac hB0;clear hB0;go_enter Tryz.func84,Tryz.ntmps84
 (go_wp2_with fail);refine (Ap n B l (ms.length:Int) _ (by omega) hW).mono ?_;rintro e w1 ⟨rfl,hW1,hg1⟩
 rw [Aa HB0] at hW1;go_wp2
 go_loopw [12] (fun v wr=>∃ k:Nat,k≤ms.length∧v=.int .i64 (k:Int)∧WrAt wr n B (l ++ [b0] ++ ((ms.take k).map Prod.fst).flatMap Wr.mp)∧WG n w wr)
  (fun v _=>ms.length - (intOf v).toNat)
 case atStart=>exact ⟨0,by omega,rfl,by simpa using hW1,hg1⟩
 case round =>
  clear hW1 hg1;obtain ⟨k,hk,rfl,hWr,hG⟩:=hrel;have hlt:=hWr.lt;by_cases hkn:k < ms.length
  ·obtain ⟨g,hg,hglt,hbg,hcell⟩:=Ao (Av hT.1 hG (by decide) (by decide)) (by omega);have x0:=(hcell _ (Bz ms k hkn 0 (by omega)).2).trans (Bz ms k hkn 0 (by omega)).1;have x1:=(hcell _ (Bz ms k hkn 1 (by omega)).2).trans (Bz ms k hkn 1 (by omega)).1;have x2:=(hcell _ (Bz ms k hkn 2 (by omega)).2).trans (Bz ms k hkn 2 (by omega)).1;have hd:ms.take (k+1)=ms.take k ++ [ms[k]]:=by rw [List.take_succ_eq_append_getElem hkn]
   have hbd:=Wr.ms_take ms k hkn;have hty:=hT.2 _ (List.getElem_mem hkn);generalize ms[k]=t at *;obtain ⟨⟨t1,t2,t3⟩,u2,u3⟩:=t;simp at x0 x1 x2;simp only at hty;obtain ⟨ty2,ty3⟩:=hty;obtain ⟨a2,c2,rfl⟩:=Af ty2;obtain ⟨a3,c3,rfl⟩:=Af ty3;simp only [Wr.mp,List.length_cons,List.length_append,Wr.tys_len] at hbd;have HD:Hid (l ++ [b0] ++ ((ms.take (k+1)).map Prod.fst).flatMap Wr.mp=l ++ [b0] ++ ((ms.take k).map Prod.fst).flatMap Wr.mp ++ [Wr.b t1] ++ Wr.tys t2 ++ [Wr.b (t3.length:Int)] ++ Wr.tys t3):=by unfold Hid;rw [hd];simp [Wr.mp]
   have hLL:(l ++ [b0] ++ ((ms.take k).map Prod.fst).flatMap Wr.mp).length+1+2 * t2.length+1+2 * t3.length≤100000:=by rw [List.length_append,List.length_append];simp only [List.length_cons,List.length_nil];omega
   generalize l ++ [b0] ++ ((ms.take k).map Prod.fst).flatMap Wr.mp=L at *;have hW1:=hWr.alloc (.cells #[.int .i64 t1,.slice a2 t2.length c2,.slice a3 t3.length c3] 218);have C1:=Ad wr (.cells #[.int .i64 t1,.slice a2 t2.length c2,.slice a3 t3.length c3] 218);have hG1:=hG.alloc (by omega) (.cells #[.int .i64 t1,.slice a2 t2.length c2,.slice a3 t3.length c3] 218);clear hcell hd hbg hbd;subst hg
   (go_wp2_with fail);refine (Ap n B L t1 _ (by omega) hW1).mono ?_;rintro e w2 ⟨rfl,hW2,hg2⟩
   have C2:=hg2.kp _ _ _ C1 (by decide) (by decide);have G2:=hG1.trans hg2;have y1:=Ab C2 1;have l2:=lt_of_block C2;simp at y1;go_wp2_with fail
   refine (Dh n B b (L ++ [Wr.b t1]) t2 a2 t2.length c2 _ (by simp;omega) hW2 (Av ty2 G2 (by decide) (by decide))).mono ?_;rintro e w3 ⟨rfl,hW3,hg3⟩;have C3:=hg3.kp _ _ _ C2 (by decide) (by decide);have G3:=G2.trans hg3;have y2:=Ab C3 2;have l3:=lt_of_block C3;simp at y2
   (go_wp2_with fail);refine (Ap n B (L ++ [Wr.b t1] ++ Wr.tys t2) (t3.length:Int) _ (by simp only [List.length_append,Wr.tys_len,List.length_cons,List.length_nil];omega) hW3).mono ?_;rintro e w4 ⟨rfl,hW4,hg4⟩
   have C4:=hg4.kp _ _ _ C3 (by decide) (by decide);have G4:=G3.trans hg4;have z2:=Ab C4 2;have l4:=lt_of_block C4;simp at z2;go_wp2_with fail
   refine (Dh n B b (L ++ [Wr.b t1] ++ Wr.tys t2 ++ [Wr.b (t3.length:Int)]) t3 a3 t3.length c3 _ (by simp only [List.length_append,Wr.tys_len,List.length_cons,List.length_nil];omega) hW4 (Av ty3 G4 (by decide) (by decide))).mono ?_;rintro e w5 ⟨rfl,hW5,hg5⟩;have G5:=G4.trans hg5;rw [← Aa HD] at hW5;clear x0 x1 x2 y1 y2 z2 l2 l3 l4 C1 C2 C3 C4 hg2 hg3 hg4 hg5 hG1 hG hW1 hW2 hW3 hW4 hWr G2 G3 G4;go_wp2
   go_roundw
   case rel=>exact ⟨k+1,by omega,by go_num,hW5,G5⟩
   case measure=>simp [intOf];omega
  ·have e:ms.take k=ms:=List.take_of_length_le (by omega);rw [e] at hWr;go_wp2
   go_end0
   exact ⟨rfl,by simpa using hWr,hG⟩
theorem MpsIn.wg {n b:Nat}{v:Value}{l:List (Rd.Mp × Value × Value)}{w w':World} (h:MpsIn w b v l) (hg:WG n w w'):MpsIn w' b v l :=
 ⟨Av h.1 hg (by decide) (by decide),fun p hp=>⟨Av (h.2 p hp).1 hg (by decide) (by decide),Av (h.2 p hp).2 hg (by decide) (by decide)⟩⟩
theorem Wr.mth_len (x:Rd.Mth):(Wr.mth x).length=8+2 * x.params.length+x.code.length+(Wr.hnds x.handlers).length+(Wr.mps x.maps).length:=by
 simp [Wr.mth,Wr.head,Wr.ty,Wr.tys_len];omega
theorem Ow (n B bb:Nat) (l:List UInt8) (m:PM) (x:Rd.Mth) (w:World) (hl:l.length+(Wr.mth x).length≤100000) (hW:WrAt w n B l) (hm:m.is x w bb) :
  Calls Tryz.prog 45 #[.pointer (some ⟨B,0,none⟩),m.val] w fun e w'=>e=.returned (.tuple #[])∧WrAt w' n B (l ++ Wr.mth x)∧WG n w w':=by
 rw [Wr.mth_len] at hl;generalize hR:l ++ Wr.mth x=R;unfold Wr.mth Wr.head at hR;obtain ⟨e1,e2,e3,e4,e5,e6,e7,hps,e8,hco,e9,hhs,e10,lm,hlm,hmp⟩:=hm;have hres:x.result=(m.r1,m.r2):=by rw [e3,e4]
 rw [hres,← e1,← e2,← e5,← e6] at hR;rw [← hlm] at hR hl;generalize x.params=ps at *;generalize x.code=co at *;generalize x.handlers=hs at *;clear hres e1 e2 e3 e4 e5 e6 e10 hlm x;obtain ⟨cl,nm,pa,pl,pc,r1,r2,lo,st,ca,cn,cc,ha,hl',hc,ma,ml,mc⟩:=m;simp only at hR hps hco hhs hmp e7 e8 e9;simp only [PM.val];subst e7 e8 e9;have HR:=Ac hR;clear hR;have hlt:=hW.lt;have tl:=Wr.tys_len ps;have tyl:(Wr.ty (r1,r2)).length=2:=rfl;have C0:=Ad w (.cells #[.int .i64 cl,.int .i64 nm,.slice pa ps.length pc,.int .i64 r1,.int .i64 r2,.int .i64 lo,.int .i64 st,.slice ca co.length cc,.slice ha hs.length hc,.slice ma ml mc] 94);have G0:=(WG.refl n w).alloc (by omega) (.cells #[.int .i64 cl,.int .i64 nm,.slice pa ps.length pc,.int .i64 r1,.int .i64 r2,.int .i64 lo,.int .i64 st,.slice ca co.length cc,.slice ha hs.length hc,.slice ma ml mc] 94);have hW0:=hW.alloc (.cells #[.int .i64 cl,.int .i64 nm,.slice pa ps.length pc,.int .i64 r1,.int .i64 r2,.int .i64 lo,.int .i64 st,.slice ca co.length cc,.slice ha hs.length hc,.slice ma ml mc] 94);go_enter Tryz.func45,Tryz.ntmps45
 (go_wp2_with fail);refine (Ap n B l cl _ (by omega) hW0).mono ?_;rintro e w1 ⟨rfl,hW1,hg1⟩
 have C1:=hg1.kp _ _ _ C0 (by decide) (by decide);have G1:=G0.trans hg1;have d1:=lt_of_block C1;have y1:=Ab C1 1;simp at y1;clear hW0 hW
 (go_wp2_with fail);refine (Ap n B (l ++ [Wr.b cl]) nm _ (by (simp;omega)) hW1).mono ?_;rintro e w2 ⟨rfl,hW2,hg2⟩
 have C2:=hg2.kp _ _ _ C1 (by decide) (by decide);have G2:=G1.trans hg2;have d2:=lt_of_block C2;have y2:=Ab C2 2;simp at y2;clear y1 hW1 d1
 (go_wp2_with fail);refine (Ap n B (l ++ [Wr.b cl] ++ [Wr.b nm]) (ps.length:Int) _ (by (simp;omega)) hW2).mono ?_;rintro e w3 ⟨rfl,hW3,hg3⟩
 have C3:=hg3.kp _ _ _ C2 (by decide) (by decide);have G3:=G2.trans hg3;have d3:=lt_of_block C3;have y3:=Ab C3 2;simp at y3;clear y2 hW2 d2;go_wp2_with fail
 refine (Dh n B bb (l ++ [Wr.b cl] ++ [Wr.b nm] ++ [Wr.b (ps.length:Int)]) ps pa ps.length pc _ (by (simp;omega)) hW3 (Av hps G3 (by decide) (by decide))).mono ?_;rintro e w4 ⟨rfl,hW4,hg4⟩;have C4:=hg4.kp _ _ _ C3 (by decide) (by decide);have G4:=G3.trans hg4;have d4:=lt_of_block C4;have y4:=Ab C4 3;have y5:=Ab C4 4;simp at y4 y5;clear y3 hW3 d3 hps;go_wp2_with fail
 refine (Iu n B (l ++ [Wr.b cl] ++ [Wr.b nm] ++ [Wr.b (ps.length:Int)] ++ Wr.tys ps) r1 r2 _ (by (simp;omega)) hW4).mono ?_;rintro e w5 ⟨rfl,hW5,hg5⟩;have C5:=hg5.kp _ _ _ C4 (by decide) (by decide);have G5:=G4.trans hg5;have d5:=lt_of_block C5;have y6:=Ab C5 5;simp at y6;clear y4 y5 hW4 d4
 (go_wp2_with fail);refine (Ap n B (l ++ [Wr.b cl] ++ [Wr.b nm] ++ [Wr.b (ps.length:Int)] ++ Wr.tys ps ++ Wr.ty (r1,r2)) lo _ (by (simp;omega)) hW5).mono ?_;rintro e w6 ⟨rfl,hW6,hg6⟩
 have C6:=hg6.kp _ _ _ C5 (by decide) (by decide);have G6:=G5.trans hg6;have d6:=lt_of_block C6;have y7:=Ab C6 6;simp at y7;clear y6 hW5 d5
 (go_wp2_with fail);refine (Ap n B (l ++ [Wr.b cl] ++ [Wr.b nm] ++ [Wr.b (ps.length:Int)] ++ Wr.tys ps ++ Wr.ty (r1,r2) ++ [Wr.b lo]) st _ (by (simp;omega)) hW6).mono ?_;rintro e w7 ⟨rfl,hW7,hg7⟩
 have C7:=hg7.kp _ _ _ C6 (by decide) (by decide);have G7:=G6.trans hg7;have d7:=lt_of_block C7;have y8:=Ab C7 7;simp at y8;clear y7 hW6 d6;have hco7:=Av hco G7 (by decide) (by decide);have hcl:co.length≤100000:=by omega
 (go_wp2_with fail);refine (Ap n B (l ++ [Wr.b cl] ++ [Wr.b nm] ++ [Wr.b (ps.length:Int)] ++ Wr.tys ps ++ Wr.ty (r1,r2) ++ [Wr.b lo] ++ [Wr.b st]) (co.length:Int) _ (by (simp;omega)) hW7).mono ?_;rintro e w8 ⟨rfl,hW8,hg8⟩
 have C8:=hg8.kp _ _ _ C7 (by decide) (by decide);have G8:=G7.trans hg8;have d8:=lt_of_block C8;have y9:=Ab C8 7;simp at y9;clear y8 hW7 d7 G0 G1 G2 G3 G4 G5 G6 G7 C0 C1 C2 C3 C4 C5 C6 C7 hg1 hg2 hg3 hg4 hg5 hg6 hg7 hg8 hco7;have hLL:(l ++ [Wr.b cl] ++ [Wr.b nm] ++ [Wr.b (ps.length:Int)] ++ Wr.tys ps ++ Wr.ty (r1,r2) ++ [Wr.b lo] ++ [Wr.b st] ++ [Wr.b (co.length:Int)]).length+co.length+(Wr.hnds hs).length+(Wr.mps (lm.map Prod.fst)).length≤100000:=by (simp;omega)
 have HR2:Hid ((l ++ [Wr.b cl] ++ [Wr.b nm] ++ [Wr.b (ps.length:Int)] ++ Wr.tys ps ++ Wr.ty (r1,r2) ++ [Wr.b lo] ++ [Wr.b st] ++ [Wr.b (co.length:Int)]) ++ co.map Wr.b ++ Wr.hnds hs ++ Wr.mps (lm.map Prod.fst)=R):=by
  unfold Hid;rw [← Aa HR]
  simp
 clear HR;generalize (l ++ [Wr.b cl] ++ [Wr.b nm] ++ [Wr.b (ps.length:Int)] ++ Wr.tys ps ++ Wr.ty (r1,r2) ++ [Wr.b lo] ++ [Wr.b st] ++ [Wr.b (co.length:Int)])=L at *;go_wp2
 go_loopw [43] (fun v wr=>∃ k:Nat,k≤co.length∧v=.int .i64 (k:Int)∧WrAt wr n B (L ++ (co.take k).map Wr.b)∧WG n w wr∧wr.heap[w.heap.size]?=some (.cells #[.int .i64 cl,.int .i64 nm,.slice pa ps.length pc,.int .i64 r1,.int .i64 r2,.int .i64 lo,.int .i64 st,.slice ca co.length cc,.slice ha hs.length hc,.slice ma ml mc] 94 (0,0)))
  (fun v _=>co.length - (intOf v).toNat)
 case atStart=>exact ⟨0,by omega,rfl,by simpa using hW8,G8,C8⟩
 case round =>
  clear hW8 G8 C8 d8;obtain ⟨k,hk,rfl,hWr,hG,hC⟩:=hrel;have dC:=lt_of_block hC;by_cases hkn:k < co.length
  ·obtain ⟨g,hg,hglt,hbg,hcell⟩:=Ao (Av hco hG (by decide) (by decide)) (by omega);have x0:=hcell k (by simpa using hkn);rw [List.getElem?_map,List.getElem?_eq_getElem hkn] at x0;have hd:co.take (k+1)=co.take k ++ [co[k]]:=by rw [List.take_succ_eq_append_getElem hkn]
   have hTL:(co.take k).length=k:=by simp;omega
   generalize co[k]=t at *;simp at x0;have HD:Hid (L ++ (co.take (k+1)).map Wr.b=L ++ (co.take k).map Wr.b ++ [Wr.b t]):=by unfold Hid;rw [hd];simp
   have hLk:(L ++ (co.take k).map Wr.b).length≤100000:=by rw [List.length_append,List.length_map,hTL];omega
   generalize L ++ (co.take k).map Wr.b=LK at *;clear hcell hd hbg hTL y9;subst hg;go_wp2_with fail
   refine (Ap n B LK t _ hLk hWr).mono ?_;rintro e w9 ⟨rfl,hW9,hg9⟩;have hG9:=hG.trans hg9;have hC9:=hg9.kp _ _ _ hC (by decide) (by decide);rw [← Aa HD] at hW9;clear x0 hg9 hG hWr hC;go_wp2
   go_roundw
   case rel=>exact ⟨k+1,by omega,by go_num,hW9,hG9,hC9⟩
   case measure=>simp [intOf];omega
  ·have e:co.take k=co:=List.take_of_length_le (by omega);rw [e] at hWr;have z7:=Ab hC 8;simp at z7;go_wp2_with fail
   refine (Ht n B bb (L ++ co.map Wr.b) hs ha hs.length hc _ (by (simp;omega)) hWr (Av hhs hG (by decide) (by decide))).mono ?_;rintro e w9 ⟨rfl,hW9,hg9⟩;have G9:=hG.trans hg9;have C9:=hg9.kp _ _ _ hC (by decide) (by decide);have z8:=Ab C9 9;have d9:=lt_of_block C9;simp at z8;go_wp2_with fail
   refine (Sy n B bb (L ++ co.map Wr.b ++ Wr.hnds hs) lm ma ml mc _ (by (simp;omega)) hW9 (hmp.wg G9)).mono ?_;rintro e w10 ⟨rfl,hW10,hg10⟩;go_wp2
   go_end0
   exact ⟨rfl,by rw [← Aa HR2];exact hW10,G9.trans hg10⟩
theorem Wr.chunk_take {α:Type} (f:α→List UInt8) (l:List α) (k:Nat) (hk:k < l.length):((l.take k).flatMap f).length+(f l[k]).length≤(l.flatMap f).length:=by
 have h:l.flatMap f=(l.take k).flatMap f ++ (f l[k] ++ (l.drop (k+1)).flatMap f):=by
  rw [← List.flatMap_cons,← List.drop_eq_getElem_cons hk,← List.flatMap_append,List.take_append_drop]
 rw [h,List.length_append,List.length_append];omega
theorem ClssIn.wg {n b:Nat}{v:Value}{l:List (Rd.Cls × Value)}{w w':World} (h:ClssIn w b v l) (hg:WG n w w'):ClssIn w' b v l :=
 ⟨Av h.1 hg (by decide) (by decide),fun p hp=>Av (h.2 p hp) hg (by decide) (by decide)⟩
theorem MthsIn.wg {n b:Nat}{v:Value}{l:List (Rd.Mth × MthV)}{w w':World} (h:MthsIn w b v l) (hg:WG n w w'):MthsIn w' b v l :=
 ⟨Av h.1 hg (by decide) (by decide),fun p hp=>by
  obtain ⟨a,c,d,q,hq,f⟩:=h.2 p hp;exact ⟨Av a hg (by decide) (by decide),Av c hg (by decide) (by decide),Av d hg (by decide) (by decide),q,hq,f.wg hg⟩⟩
theorem Sx (fa1 fa2:Option Addr) (fc1 fc2 bm:Nat) (lcs:List (Rd.Cls × Value)) (lms:List (Rd.Mth × MthV)) (w:World) (hl:(Wr.fil ⟨lcs.map Prod.fst,lms.map Prod.fst⟩).length≤100000)
  (hc6:lcs.length≤1000) (hm6:lms.length≤1000) (hcs:ClssIn w bm (.slice fa1 lcs.length fc1) lcs) (hms:MthsIn w bm (.slice fa2 lms.length fc2) lms) :
  Calls Tryz.prog 23 #[.agg #[.slice fa1 lcs.length fc1,.slice fa2 lms.length fc2]] w fun e w'=>e=.returned (.string ⟨(Wr.fil ⟨lcs.map Prod.fst,lms.map Prod.fst⟩).toArray⟩)∧Below w.heap.size w w':=by
 generalize hR:Wr.fil ⟨lcs.map Prod.fst,lms.map Prod.fst⟩=R at *;unfold Wr.fil Wr.front at hR;simp only [List.length_map,List.flatMap_map] at hR;generalize hC:lcs.flatMap (fun p=>Wr.cls p.1)=CB at *;generalize hM:lms.flatMap (fun p=>Wr.mth p.1)=MB at *;have HR:=Ac hR;have hRl:R.length=4+CB.length+MB.length:=by rw [← hR];simp;omega
 have HC:=Ac hC;have HM:=Ac hM;clear hR hC hM;have C0:=Aj w (.cells #[.slice fa1 lcs.length fc1,.slice fa2 lms.length fc2] 63) (.cells #[.slice none 0 0] 99);have D0:=Ai w (.cells #[.slice fa1 lcs.length fc1,.slice fa2 lms.length fc2] 63) (.cells #[.slice none 0 0] 99);have G0:=((WG.refl w.heap.size w).alloc (Nat.le_refl _) (.cells #[.slice fa1 lcs.length fc1,.slice fa2 lms.length fc2] 63)).alloc (by simp) (.cells #[.slice none 0 0] 99);have hW0:WrAt ((w.alloc (.cells #[.slice fa1 lcs.length fc1,.slice fa2 lms.length fc2] 63)).alloc (.cells #[.slice none 0 0] 99)) w.heap.size (w.heap.size+1) []:=⟨_,D0,by omega,World.ownsRow_nil _ _ _ _⟩;clear D0;go_enter Tryz.func23,Tryz.ntmps23
 (go_wp2_with fail);refine (Ap w.heap.size (w.heap.size+1) [] 83 _ (by simp) hW0).mono ?_;rintro e w1 ⟨rfl,hW1,hg1⟩
 have C1:=hg1.kp _ _ _ C0 (by decide) (by decide);have G1:=G0.trans hg1;clear hW0 hg1
 (go_wp2_with fail);refine (Ap w.heap.size (w.heap.size+1) ([] ++ [Wr.b 83]) 77 _ (by simp) hW1).mono ?_;rintro e w2 ⟨rfl,hW2,hg2⟩
 have C2:=hg2.kp _ _ _ C1 (by decide) (by decide);have G2:=G1.trans hg2;have x0:=Ab C2 0;have d2:=lt_of_block C2;simp at x0;clear hW1 hg2
 (go_wp2_with fail);refine (Ap w.heap.size (w.heap.size+1) ([] ++ [Wr.b 83] ++ [Wr.b 77]) (lcs.length:Int) _ (by simp) hW2).mono ?_;rintro e w3 ⟨rfl,hW3,hg3⟩
 have C3:=hg3.kp _ _ _ C2 (by decide) (by decide);have G3:=G2.trans hg3;have x1:=Ab C3 0;have d3:=lt_of_block C3;simp at x1;clear hW2 hg3 x0 C0 C1 C2 G0 G1 G2 d2;have HL:Hid ([] ++ [Wr.b 83] ++ [Wr.b 77] ++ [Wr.b (lcs.length:Int)]=[83,77,Wr.b (lcs.length:Int)]):=by unfold Hid;simp [Wr.b]
 generalize hL0:[] ++ [Wr.b 83] ++ [Wr.b 77] ++ [Wr.b (lcs.length:Int)]=L0 at *;have hLl:L0.length=3:=by rw [← hL0];simp
 clear hL0;go_wp2
 go_loopw [17] (fun v wr=>∃ k:Nat,k≤lcs.length∧v=.int .i64 (k:Int)∧WrAt wr w.heap.size (w.heap.size+1) (L0 ++ (lcs.take k).flatMap (fun p=>Wr.cls p.1))∧WG w.heap.size w wr∧wr.heap[w.heap.size]?=some (.cells #[.slice fa1 lcs.length fc1,.slice fa2 lms.length fc2] 63 (0,0)))
  (fun v _=>lcs.length - (intOf v).toNat)
 case atStart=>exact ⟨0,by omega,rfl,by simpa using hW3,G3,C3⟩
 case round =>
  clear hW3 G3 C3 d3 x1;obtain ⟨k,hk,rfl,hWr,hG,hC⟩:=hrel;have dC:=lt_of_block hC;have hlt:=hWr.lt;by_cases hkn:k < lcs.length
  ·have hcw:=hcs.wg hG;obtain ⟨g,hg,hglt,hbg,hcell⟩:=Ao hcw.1 (by omega);obtain ⟨e1,e2,e3⟩:=Ey lcs k hkn;have x0:=hcell (k * 2) (by omega);have x1:=hcell (k * 2+1) (by omega);rw [e1] at x0;rw [e2] at x1;have hty:=hcw.2 _ (List.getElem_mem hkn);have hd:lcs.take (k+1)=lcs.take k ++ [lcs[k]]:=by rw [List.take_succ_eq_append_getElem hkn]
   have hbd:=Wr.chunk_take (fun p:Rd.Cls × Value=>Wr.cls p.1) lcs k hkn;rw [Aa HC] at hbd;generalize lcs[k]=t at *;obtain ⟨⟨t1,t2⟩,u⟩:=t;simp only at x0 x1 hty;obtain ⟨ua,uc,rfl⟩:=Af hty;simp only [Wr.cls,List.length_cons,Wr.tys_len] at hbd;have HD:Hid (L0 ++ (lcs.take (k+1)).flatMap (fun p=>Wr.cls p.1)=L0 ++ (lcs.take k).flatMap (fun p=>Wr.cls p.1) ++ [Wr.b t1] ++ [Wr.b (t2.length:Int)] ++ Wr.tys t2):=by unfold Hid;rw [hd];simp [Wr.cls]
   have hLk:(L0 ++ (lcs.take k).flatMap (fun p=>Wr.cls p.1)).length+2+2 * t2.length≤100000:=by rw [List.length_append];simp only [Wr.cls];omega
   generalize L0 ++ (lcs.take k).flatMap (fun p=>Wr.cls p.1)=LK at *;have hW1:=hWr.alloc (.cells #[.int .i64 t1,.slice ua t2.length uc] 102);have K1:=Ad wr (.cells #[.int .i64 t1,.slice ua t2.length uc] 102);have G1:=hG.alloc (by omega) (.cells #[.int .i64 t1,.slice ua t2.length uc] 102);have G1':=(WG.refl w.heap.size wr).alloc (by omega) (.cells #[.int .i64 t1,.slice ua t2.length uc] 102);have C1:=Ae hC (.cells #[.int .i64 t1,.slice ua t2.length uc] 102);clear hcell e1 e2 e3 hd hbd hbg;subst hg
   (go_wp2_with fail);refine (Ap w.heap.size (w.heap.size+1) LK t1 _ (by omega) hW1).mono ?_;rintro e w2 ⟨rfl,hW2,hg2⟩
   have K2:=hg2.kp _ _ _ K1 (by decide) (by decide);have C2:=hg2.kp _ _ _ C1 (by decide) (by decide);have y1:=Ab K2 1;have l2:=lt_of_block K2;simp at y1
   (go_wp2_with fail);refine (Ap w.heap.size (w.heap.size+1) (LK ++ [Wr.b t1]) (t2.length:Int) _ (by (simp;omega)) hW2).mono ?_;rintro e w3 ⟨rfl,hW3,hg3⟩
   have K3:=hg3.kp _ _ _ K2 (by decide) (by decide);have C3:=hg3.kp _ _ _ C2 (by decide) (by decide);have z1:=Ab K3 1;have l3:=lt_of_block K3;simp at z1;have G3':=(G1'.trans hg2).trans hg3;go_wp2_with fail
   refine (Dh w.heap.size (w.heap.size+1) bm (LK ++ [Wr.b t1] ++ [Wr.b (t2.length:Int)]) t2 ua t2.length uc _ (by (simp;omega)) hW3 (Av hty G3' (by decide) (by decide))).mono ?_;rintro e w4 ⟨rfl,hW4,hg4⟩;have C4:=hg4.kp _ _ _ C3 (by decide) (by decide);have G4:=((G1.trans hg2).trans hg3).trans hg4;rw [← Aa HD] at hW4;clear x0 x1 y1 z1 l2 l3 K1 K2 K3 C1 C2 C3 hg2 hg3 hg4 G1 G1' G3' hG hW1 hW2 hW3 hWr hC hcw hty;go_wp2
   go_roundw
   case rel=>exact ⟨k+1,by omega,by go_num,hW4,G4,C4⟩
   case measure=>simp [intOf];omega
  ·have e:lcs.take k=lcs:=List.take_of_length_le (by omega);rw [e,Aa HC] at hWr;have z1:=Ab hC 1;simp at z1
   (go_wp2_with fail);refine (Ap w.heap.size (w.heap.size+1) (L0 ++ CB) (lms.length:Int) _ (by (simp;omega)) hWr).mono ?_;rintro e w4 ⟨rfl,hW4,hg4⟩
   have C4:=hg4.kp _ _ _ hC (by decide) (by decide);have G4:=hG.trans hg4;have y1:=Ab C4 1;have d4:=lt_of_block C4;simp at y1;clear hWr hG hC hg4 z1 dC hlt;have HRR:Hid (L0 ++ CB ++ [Wr.b (lms.length:Int)] ++ MB=R):=by unfold Hid;rw [← Aa HR,Aa HL]
   have hL1:(L0 ++ CB ++ [Wr.b (lms.length:Int)]).length=4+CB.length:=by simp [hLl];omega
   generalize L0 ++ CB ++ [Wr.b (lms.length:Int)]=L1 at *;go_wp2
   go_loopw [39] (fun v wr=>∃ k:Nat,k≤lms.length∧v=.int .i64 (k:Int)∧WrAt wr w.heap.size (w.heap.size+1) (L1 ++ (lms.take k).flatMap (fun p=>Wr.mth p.1))∧WG w.heap.size w wr)
    (fun v _=>lms.length - (intOf v).toNat)
   case atStart=>exact ⟨0,by omega,rfl,by simpa using hW4,G4⟩
   case round =>
    clear hW4 G4 C4 d4 y1 e hk hkn;obtain ⟨q,hk,rfl,hWr,hG⟩:=hrel;have hlt:=hWr.lt;by_cases hkn:q < lms.length
    ·obtain ⟨o,g,hg,hglt,hrow,his⟩:=(hms.wg hG).mth hkn;replace hrow:=Fk hrow;have hd:lms.take (q+1)=lms.take q ++ [lms[q]]:=by rw [List.take_succ_eq_append_getElem hkn]
     have hbd:=Wr.chunk_take (fun p:Rd.Mth × MthV=>Wr.mth p.1) lms q hkn;rw [Aa HM] at hbd;generalize lms[q]=t at *;obtain ⟨y,u⟩:=t;simp only at hbd his;have HD:Hid (L1 ++ (lms.take (q+1)).flatMap (fun p=>Wr.mth p.1)=L1 ++ (lms.take q).flatMap (fun p=>Wr.mth p.1) ++ Wr.mth y):=by unfold Hid;rw [hd];simp
     have hLk:(L1 ++ (lms.take q).flatMap (fun p=>Wr.mth p.1)).length+(Wr.mth y).length≤100000:=by rw [List.length_append];omega
     generalize L1 ++ (lms.take q).flatMap (fun p=>Wr.mth p.1)=LK at *;have HC:=fun w' hW' (h:Below _ _ w')=>Ow w.heap.size (w.heap.size+1) bm LK o y w' hLk hW' (his.below h);clear hd hbd his;obtain ⟨ocl,onm,opa,opl,opc,or1,or2,olo,ost,oca,ocn,occ,oha,ohl,ohc,oma,oml,omc⟩:=o;simp only [PM.val] at hrow HC;obtain ⟨y0,y1,y2,y3,y4,y5,y6,y7,y8,y9⟩:=hrow;have hW1:=hWr.alloc (.cells #[.int .i64 ocl,.int .i64 onm,.slice opa opl opc,.int .i64 or1,.int .i64 or2,.int .i64 olo,.int .i64 ost,.slice oca ocn occ,.slice oha ohl ohc,.slice oma oml omc] 94);have G1:=hG.alloc (by omega) (.cells #[.int .i64 ocl,.int .i64 onm,.slice opa opl opc,.int .i64 or1,.int .i64 or2,.int .i64 olo,.int .i64 ost,.slice oca ocn occ,.slice oha ohl ohc,.slice oma oml omc] 94);have hc:=HC _ hW1 ((Below.refl _ _).alloc (Nat.le_refl _) _);have HC2:=Ac hc;clear hc HC;subst hg;go_wp2_with fail
     refine (Aa HC2).mono ?_;rintro e w2 ⟨rfl,hW2,hg2⟩;have G2:=G1.trans hg2;rw [← Aa HD] at hW2;clear y0 y1 y2 y3 y4 y5 y6 y7 y8 y9 hg2 G1 hG hW1 hWr;go_wp2
     go_roundw
     case rel=>exact ⟨q+1,by omega,by go_num,hW2,G2⟩
     case measure=>simp [intOf];omega
    ·have e:lms.take q=lms:=List.take_of_length_le (by omega);rw [e,Aa HM,Aa HRR] at hWr;obtain ⟨v,hb,_,hown⟩:=hWr;obtain ⟨va,vc,rfl⟩:=Af hown;obtain ⟨g,hg,hglt,hbg,hcell⟩:=Ao hown (by omega);subst hg;have hk:(convert 97 9 (.slice (some ⟨g,0,none⟩) R.length vc)).run Tryz.prog wr=.ok (.string ⟨R.toArray⟩) wr:=by
      refine run_convert_bytes_back (P:=Tryz.prog) _ _ _ 5 _ vc R Tryz.underlying97 Tryz.underlying5 Tryz.underlying9 ?_;intro j hj;have hadd:(⟨g,0,none⟩:Addr).add j=⟨g,j,none⟩:=by unfold Addr.add;split <;> simp_all
      rw [hadd,hcell j (by simpa [Wr.cs] using hj)];simp [Wr.cs,hj]
     have x0:=Ab hb 0;have dB:=lt_of_block hb;simp at x0;clear hcell hbg hown;clear hRl;go_wp2;go_ret;exact ⟨rfl,hG.bel⟩
def MthV.bare (u:MthV):MthV:=⟨u.params,u.code,u.handlers,.slice none 0 0⟩
def Cx (l:List (Rd.Mth × MthV)):List (Rd.Mth × MthV):=l.map fun p=>(p.1.bare,p.2.bare)
theorem Ly (l:List (Rd.Mth × MthV)):(Cx l).length=l.length:=by simp [Cx]
theorem MthIn.bare {w:World}{b:Nat}{m:Rd.Mth}{u:MthV} (h:MthIn w b m u):MthIn w b m.bare u.bare:=by
 obtain ⟨a,c,d,_⟩:=h;exact ⟨a,c,d,[],rfl,World.ownsRow_nil _ _ _ _,by simp⟩
theorem Ko (fa1 fa2:Option Addr) (n1 fc1 fc2 bm:Nat) (lms:List (Rd.Mth × MthV)) (w:World) (hbm:bm≤w.heap.size) (hm6:lms.length≤1000) (hms:MthsIn w bm (.slice fa2 lms.length fc2) lms) :
  Calls Tryz.prog 24 #[.agg #[.slice fa1 n1 fc1,.slice fa2 lms.length fc2]] w fun e w' =>
   ∃ a c,e=.returned (.agg #[.slice fa1 n1 fc1,.slice a lms.length c])∧MthsIn w' bm (.slice a lms.length c) (Cx lms)∧Below w.heap.size w w':=by
 obtain ⟨j0,hj,hy0,hy1,hy2⟩:=info_parts Tryz.infoMethod;have HMS:∀ w',Below w.heap.size w w'→MthsIn w' bm (.slice fa2 lms.length fc2) lms:=fun w' h=>hms.kp (Kp.of_below (e:=none) h) (by decide) (by decide) (by decide) (by decide) (by decide);have HM':=Ac HMS;have hB0:=Ah w (.cells #[.slice fa1 n1 fc1,.slice fa2 lms.length fc2] 63) (.cells #[.slice none 0 0,.slice none 0 0] 63);have C0:=Aj w (.cells #[.slice fa1 n1 fc1,.slice fa2 lms.length fc2] 63) (.cells #[.slice none 0 0,.slice none 0 0] 63);have D0:=Ai w (.cells #[.slice fa1 n1 fc1,.slice fa2 lms.length fc2] 63) (.cells #[.slice none 0 0,.slice none 0 0] 63);clear HMS hms;go_enter Tryz.func24,Tryz.ntmps24;go_wp2
 go_loopw [3,9] (fun v i wr=>∃ k:Nat,k≤lms.length∧i=.int .i64 (k:Int)∧wr.ownsRow w.heap.size 94 10 v k (Be (Cx (lms.take k)))∧Below w.heap.size w wr ∧
   wr.heap[w.heap.size]?=some (.cells #[.slice fa1 n1 fc1,.slice fa2 lms.length fc2] 63 (0,0))∧wr.heap[w.heap.size+1]?=some (.cells #[.slice none 0 0,.slice none 0 0] 63 (0,0)))
  (fun _ i _=>lms.length - (intOf i).toNat)
 case atStart=>exact ⟨0,by omega,rfl,World.ownsRow_nil _ _ _ _,hB0,C0,D0⟩
 case round =>
  clear hB0 C0 D0;obtain ⟨k,hk,rfl,hown,hB,hC,hD⟩:=hrel;have hBs:=hB.size;have dC:=lt_of_block hC;have dD:=lt_of_block hD;obtain ⟨va,vc,rfl⟩:=Af hown;by_cases hkn:k < lms.length
  ·have hmr:=Aa HM' _ hB;obtain ⟨g,hg,hglt,hbg,hcell⟩:=Ao hmr.1 (by omega);have y0:=(hcell _ (Bt lms k hkn 0 (by omega)).2).trans (Bt lms k hkn 0 (by omega)).1;have y1:=(hcell _ (Bt lms k hkn 1 (by omega)).2).trans (Bt lms k hkn 1 (by omega)).1;have y2:=(hcell _ (Bt lms k hkn 2 (by omega)).2).trans (Bt lms k hkn 2 (by omega)).1;have y3:=(hcell _ (Bt lms k hkn 3 (by omega)).2).trans (Bt lms k hkn 3 (by omega)).1;have y4:=(hcell _ (Bt lms k hkn 4 (by omega)).2).trans (Bt lms k hkn 4 (by omega)).1;have y5:=(hcell _ (Bt lms k hkn 5 (by omega)).2).trans (Bt lms k hkn 5 (by omega)).1;have y6:=(hcell _ (Bt lms k hkn 6 (by omega)).2).trans (Bt lms k hkn 6 (by omega)).1;have y7:=(hcell _ (Bt lms k hkn 7 (by omega)).2).trans (Bt lms k hkn 7 (by omega)).1;have y8:=(hcell _ (Bt lms k hkn 8 (by omega)).2).trans (Bt lms k hkn 8 (by omega)).1;have y9:=(hcell _ (Bt lms k hkn 9 (by omega)).2).trans (Bt lms k hkn 9 (by omega)).1;obtain ⟨hp,hc',hh,q,hq,hm⟩:=hmr.2 _ (List.getElem_mem hkn);have hd:Cx (lms.take (k+1))=Cx (lms.take k) ++ [(lms[k].1.bare,lms[k].2.bare)]:=by rw [List.take_succ_eq_append_getElem hkn];unfold Cx;rw [List.map_append];rfl
   generalize lms[k]=t at *;obtain ⟨⟨cl,nm,ps,⟨r1,r2⟩,lo,st,co,hs,mp⟩,⟨up,uc,uh,um⟩⟩:=t;simp only at hp hc' hh hm hq;obtain ⟨pa,pc,rfl⟩:=Af hp;obtain ⟨ca,cc,rfl⟩:=Af hc';obtain ⟨ha,hc,rfl⟩:=Af hh;obtain ⟨ma,mc,rfl⟩:=Af hm.1;simp only [Bq] at y0 y1 y2 y3 y4 y5 y6 y7 y8 y9;simp at y0 y1 y2 y3 y4 y5 y6 y7 y8 y9;have HD:=Ac hd;clear hd hcell hp hc' hh hm hq hbg hmr;subst hg;have hown1:=hown.alloc (.cells #[.int .i64 cl,.int .i64 nm,.slice pa ps.length pc,.int .i64 r1,.int .i64 r2,.int .i64 lo,.int .i64 st,.slice ca co.length cc,.slice ha hs.length hc,.slice none 0 0] 94);have hB1:=hB.alloc hBs (.cells #[.int .i64 cl,.int .i64 nm,.slice pa ps.length pc,.int .i64 r1,.int .i64 r2,.int .i64 lo,.int .i64 st,.slice ca co.length cc,.slice ha hs.length hc,.slice none 0 0] 94);have C1:=Ae hC (.cells #[.int .i64 cl,.int .i64 nm,.slice pa ps.length pc,.int .i64 r1,.int .i64 r2,.int .i64 lo,.int .i64 st,.slice ca co.length cc,.slice ha hs.length hc,.slice none 0 0] 94);have D1:=Ae hD (.cells #[.int .i64 cl,.int .i64 nm,.slice pa ps.length pc,.int .i64 r1,.int .i64 r2,.int .i64 lo,.int .i64 st,.slice ca co.length cc,.slice ha hs.length hc,.slice none 0 0] 94);clear hown;go_wp2_with (at_builtin;refine wpList_append_own _ rfl _ _ 61 rfl w.heap.size 94 j0 _ 10 144 Tryz.underlying61 hj hy0 hy1 hy2 rfl (by decide) _ _ _ rfl (hown1.alloc _) ⟨wr.heap.size+1,0,none⟩ 1 1 [.int .i64 cl,.int .i64 nm,.slice pa ps.length pc,.int .i64 r1,.int .i64 r2,.int .i64 lo,.int .i64 st,.slice ca co.length cc,.slice ha hs.length hc,.slice none 0 0] rfl rfl ?d1 ?d2 ?d3 ?d4 ?d5 ?_)
   case d2=>exact ⟨rfl,rfl,rfl,rfl,rfl,rfl,rfl,rfl,rfl,rfl⟩
   case d3=>unfold maxLen;omega
   case d4=>omega
   case d5=>omega
   intro v' w2 hown2 hgrow _;have hB2:=(hB1.alloc (by simp;omega) _).grown hgrow (by simp;omega) (fun z hz=>(hown1.lt z hz).1);have hK:=(Kp.alloc (e:=some 94) (b:=0) _ _).trans (Kp.of_grown hgrow (hown1.alloc _));have C2:=hK _ _ _ (Nat.zero_le _) C1 (by decide);have D2:=hK _ _ _ (Nat.zero_le _) D1 (by decide);have hown3:w2.ownsRow w.heap.size 94 10 v' (k+1) (Be (Cx (lms.take (k+1)))):=by rw [Aa HD,Fv];exact hown2
   clear hown1 hown2 hgrow hB1 hK C1 D1 y0 y1 y2 y3 y4 y5 y6 y7 y8 y9 hB hC hD;go_wp2
   go_roundw
   case rel=>exact ⟨k+1,by omega,by go_num,hown3,hB2,C2,D2⟩
   case measure=>simp [intOf];omega
  ·have e:lms.take k=lms:=List.take_of_length_le (by omega);have e2:k=lms.length:=by omega
   subst e2;rw [e] at hown;have x0:=Ab hC 0;obtain ⟨z0,z1⟩:=cl2 hD;obtain ⟨q0,q1⟩:=fr2 hD;simp at x0 z0 z1;have hmr:=Aa HM' _ hB;have hres:MthsIn wr bm (.slice va lms.length vc) (Cx lms):=by
    refine ⟨by rw [Ly];exact Az hown hbm,?_⟩;intro p hp;unfold Cx at hp;rw [List.mem_map] at hp;obtain ⟨p',hp',rfl⟩:=hp;exact (hmr.2 p' hp').bare
   clear hmr;have k1:=(Kp.set (b:=bm) (i:=0) hD (.slice fa1 n1 fc1)).trans (Kp.set (i:=1) (Al (i:=0) hD (.slice fa1 n1 fc1)) (.slice va lms.length vc));have hres2:=hres.kp k1 (by decide) (by decide) (by decide) (by decide) (by decide);go_wp2_with fail
   refine bodyPost_ret (v:=.agg #[.slice fa1 n1 fc1,.slice va lms.length vc]) (by simp [results,Tryz.results24,go_sem,z0,z1]) rfl ?_;exact ⟨va,vc,rfl,hres2,(hB.setCell (by simp) _).setCell (by simp) _⟩
end Go.Proofs.YtcefiamkoincoaaGreat
