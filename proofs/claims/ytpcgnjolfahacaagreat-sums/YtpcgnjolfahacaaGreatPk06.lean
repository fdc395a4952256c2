/- a part of the proofs -/
import Derived.Laws.IdiomStrings
import Derived.Deep.RegionHeld
import Derived.Test.YtpcgnjolfahacaaGreatPk05
set_option maxRecDepth 100000
set_option maxHeartbeats 40000000
set_option linter.unusedVariables false
set_option linter.unusedSimpArgs false
namespace Go.Proofs.YtpcgnjolfahacaaGreat
open Go.RowKit
theorem Tryz.infoU8:(Tryz.prog.info? 5).map (fun i=>(i.zero,i.size,i.bytes))=some (some (.int .u8 0),1,1):=by kernel_rfl
def Ajg (l:List UInt8):List Value:=l.map fun b=>.int .u8 (b.toNat:Int)
theorem Akm (x:Int):((Afe x).toNat:Int)=x % 256:=by
 unfold Afe;have h0:=Int.emod_nonneg x (show (256:Int)≠0 by omega);have h1:=Int.emod_lt_of_pos x (show (0:Int)<256 by omega);rw[UInt8.toNat_ofNat'];rw[Nat.mod_eq_of_lt (by omega)];omega
structure WG (n:Nat) (w w':World):Prop where
 bel:Below n w w'
 kp:∀ (k:Nat) (cs:Array Value) (t:TypeId),w.heap[k]?=some (.cells cs t (0,0))→t≠5→t≠137→w'.heap[k]?=some (.cells cs t (0,0))
theorem WG.refl (n:Nat) (w:World):WG n w w:=⟨Below.refl _ _,fun _ _ _ h _ _=>h⟩
theorem WG.trans {n:Nat}{a b c:World} (h:WG n a b) (k:WG n b c):WG n a c:=⟨h.bel.trans k.bel,fun i cs t hc h1 h2=>k.kp i cs t (h.kp i cs t hc h1 h2) h1 h2⟩
theorem WG.alloc {n:Nat}{a b:World} (h:WG n a b) (hn:n≤b.heap.size) (o:Obj):WG n a (b.alloc o) :=
 ⟨h.bel.alloc hn o,fun i cs t hc h1 h2=>by
  have:=h.kp i cs t hc h1 h2;rw[Below.heap_alloc b o i (lt_of_block this)];exact this⟩
def WrAt (w:World) (n B:Nat) (l:List UInt8):Prop:=∃ v,w.heap[B]?=some (.cells #[v] 137 (0,0))∧n≤B∧w.ownsRow n 5 1 v l.length (Ajg l)
theorem WrAt.alloc {w:World}{n B:Nat}{l:List UInt8} (h:WrAt w n B l) (o:Obj):WrAt (w.alloc o) n B l:=by
 obtain⟨v,h1,h2,h3⟩:=h;exact⟨v,by rw[Below.heap_alloc w o B (lt_of_block h1)];exact h1,h2,h3.alloc o⟩
theorem WrAt.lt {w:World}{n B:Nat}{l:List UInt8} (h:WrAt w n B l):n≤B∧B<w.heap.size:=by
 obtain⟨v,h1,h2,_⟩:=h;exact⟨h2,lt_of_block h1⟩
theorem WG.grown {n:Nat}{a b c:World}{v:Value}{m:Nat}{xs:List Value} (h:WG n a b) (hg:b.grownBy c v.ownBlock) (ho:b.ownsRow n 5 1 v m xs) (hn:n≤b.heap.size):WG n a c :=
 ⟨h.bel.grown hg hn (fun k e=>(ho.lt k e).1),fun k cs t hc h1 h2=>Kp.of_grown (b:=0) hg ho k cs t (Nat.zero_le _) (h.kp k cs t hc h1 h2) (by simpa using h1)⟩
theorem WG.set {n B i:Nat}{a b:World}{cs:Array Value} (h:WG n a b) (hB:b.heap[B]?=some (.cells cs 137 (0,0))) (hn:n≤B) (u:Value):WG n a (b.setCell ⟨B,i,none⟩ u) :=
 ⟨h.bel.setCell (by simpa using hn) u,fun k cs' t hc h1 h2=>Kp.set (b:=0) hB u k cs' t (Nat.zero_le _) (h.kp k cs' t hc h1 h2) (by simpa using h2)⟩
theorem Ci {n b size m:Nat}{t:TypeId}{v:Value}{xs:List Value}{w w':World} (h:w.ownsRow b t size v m xs) (hg:WG n w w') (h1:t≠5) (h2:t≠137):w'.ownsRow b t size v m xs:=by
 obtain⟨e1,e2|⟨g,cap,cur,a,c,d,r⟩⟩:=h
 ·exact⟨e1,.inl e2⟩
 ·exact⟨e1,.inr ⟨g,cap,cur,a,c,hg.kp g cur t d h1 h2,r⟩⟩
theorem Akl (l r:List UInt8):Ajg (l++r)=Ajg l++Ajg r:=by simp[Ajg]
theorem Ahm (l:List (Int × Int)):(Afz l).length=2*l.length:=by
 induction l with
 | nil=>rfl
 | cons x r ih=>simp[Afz,Ahc]at ih ⊢;omega
theorem A8 (n B:Nat) (l:List UInt8) (x:Int) (w:World) (hl:l.length≤100000) (hW:WrAt w n B l) :
  Calls Tryz.prog 71 #[.pointer (some ⟨B,0,none⟩),.int .i64 x] w fun e w'=>e=.returned (.tuple #[])∧WrAt w' n B (l++[Afe x])∧WG n w w':=by
 obtain⟨v,hb,hnB,hown⟩:=hW;obtain⟨i0,hi,hz0,hz1,hz2⟩:=info_parts Tryz.infoU8;have c0:=Ab hb 0;have f0:=Ag hb 0;have lB:=lt_of_block hb;simp at c0;obtain⟨va,vc,rfl⟩:=Ae hown;go_enter Tryz.func71,Tryz.ntmps71;go_wp2_with (at_builtin;refine wpList_append_own _ rfl _ _ 120 rfl n 5 i0 _ 1 1 Tryz.underlying120 hi hz0 hz1 hz2 rfl (by decide) _ _ _ rfl (hown.alloc _) ⟨w.heap.size,0,none⟩ 1 1 [.int .u8 (x % 256)] rfl rfl ?c1 ?c2 ?c3 ?c4 ?c5 ?_)
 case c1=>exact Ar _ _ _ _ rfl
 case c2=>intro u hu;simp at hu;subst hu;rfl
 case c3=>unfold maxLen;omega
 case c4=>omega
 case c5=>simp;omega
 intro v' w2 hown2 hgrow _;obtain⟨va',vc',rfl⟩:=Ae hown2;have hb1:=Af hb (O14 (x % 256));have hown1:=hown.alloc (O14 (x % 256));have hG:=((WG.refl n w).alloc (by omega) (O14 (x % 256))).grown hgrow hown1 (by simp;omega);have hb2:w2.heap[B]?=some (O15 va l.length vc):=Kp.of_grown (b:=0) hgrow hown1 B _ _ (Nat.zero_le _) hb1 (by decide);have c2:=Ab hb2 0;have f2:=Ag hb2 0;have lB2:=lt_of_block hb2;simp at c2;clear c0 f0 lB;have hown3:(w2.setCell ⟨B,0,none⟩ (.slice va' (l.length+1) vc')).ownsRow n 5 1 (.slice va' (l.length+1) vc') (l++[Afe x]).length (Ajg (l++[Afe x])):=by
  have:w2.ownsRow n 5 1 (.slice va' (l.length+1) vc') (l++[Afe x]).length (Ajg (l++[Afe x])):=by
   rw[Akl,List.length_append]
   simpa[Ajg,Akm] using hown2
  exact Am this (Kp.set (b:=n) hb2 (.slice va' (l.length+1) vc')) (by decide)
 have hb3:(w2.setCell ⟨B,0,none⟩ (.slice va' (l.length+1) vc')).heap[B]?=some (O15 va' (l.length+1) vc'):=by rw[Al hb2];rfl
 have hG3:=hG.set (i:=0) hb2 hnB (.slice va' (l.length+1) vc');go_wp2
 go_end0
 exact⟨rfl,⟨_,hb3,hnB,hown3⟩,hG3⟩
theorem Nt (n B:Nat) (l:List UInt8) (k x:Int) (w:World) (hl:l.length+2≤100000) (hW:WrAt w n B l) :
  Calls Tryz.prog 114 #[.pointer (some ⟨B,0,none⟩),.agg #[.int .i64 k,.int .i64 x]] w fun e w'=>e=.returned (.tuple #[])∧WrAt w' n B (l++Ahc (k,x))∧WG n w w':=by
 have C0:=Ad w (O7 k x);have hlt:=hW.lt;have G0:=(WG.refl n w).alloc (by omega) (O7 k x);have hW0:=hW.alloc (O7 k x);go_enter Tryz.func114,Tryz.ntmps114
 (go_wp2_with fail);refine(A8 n B l k _ (by omega) hW0).mono ?_;rintro e w1 ⟨rfl,hW1,hg1⟩
 have C1:=hg1.kp _ _ _ C0 (by decide) (by decide);have x1:=Ab C1 1;have l1:=lt_of_block C1;simp at x1
 (go_wp2_with fail);refine(A8 n B (l++[Afe k]) x _ (by simp;omega) hW1).mono ?_;rintro e w2 ⟨rfl,hW2,hg2⟩
 go_wp2
 go_end0
 exact⟨rfl,by simpa[Ahc] using hW2,(G0.trans hg1).trans hg2⟩
theorem Nk (n B b:Nat) (l:List UInt8) (ts:List (Int × Int)) (a:Option Addr) (m c:Nat) (w:World) (hl:l.length+2*ts.length≤100000) (hW:WrAt w n B l) (hT:TysAt w b (.slice a m c) ts) :
  Calls Tryz.prog 72 #[.pointer (some ⟨B,0,none⟩),.slice a m c] w fun e w'=>e=.returned (.tuple #[])∧WrAt w' n B (l++Afz ts)∧WG n w w':=by
 obtain⟨xa,xc,hsh⟩:=Ae hT;simp only[Value.slice.injEq]at hsh;obtain⟨rfl,hn1,rfl⟩:=hsh;subst hn1;go_enter Tryz.func72,Tryz.ntmps72;go_wp2
 go_loopw [8] (fun v wr=>∃ k:Nat,k≤ts.length∧v=.int .i64 (k:Int)∧WrAt wr n B (l++Afz (ts.take k))∧WG n w wr)
  (fun v _=>ts.length-(intOf v).toNat)
 case atStart=>exact⟨0,by omega,rfl,by simpa[Afz] using hW,WG.refl n w⟩
 case round =>
  obtain⟨k,hk,rfl,hWr,hG⟩:=hrel;have hlt:=hWr.lt;by_cases hkn:k<ts.length
  ·obtain⟨g,hg,hglt,hbg,hcell⟩:=Ao (Ci hT hG (by decide) (by decide)) (by omega);obtain⟨e1,e2,e3⟩:=Db ts k hkn;have x0:=hcell (k*2) (by omega);have x1:=hcell (k*2+1) (by omega);rw[e1]at x0;rw[e2]at x1;have hd:ts.take (k+1)=ts.take k++[ts[k]]:=by rw[List.take_succ_eq_append_getElem hkn]
   have hTL:(ts.take k).length=k:=by simp;omega
   generalize ts[k]=t at *;obtain⟨t1,t2⟩:=t;simp only at x0 x1;have hTy:=Ahm (ts.take k);rw[hTL]at hTy;have HD:Hid (l++Afz (ts.take (k+1))=l++Afz (ts.take k)++Ahc (t1,t2)):=by unfold Hid;rw[hd];simp[Afz]
   have hLL:(l++Afz (ts.take k)).length+2≤100000:=by rw[List.length_append,hTy];omega
   generalize l++Afz (ts.take k)=L at *;have hW1:=hWr.alloc (O7 t1 t2);have hG1:=hG.alloc (by omega) (O7 t1 t2);clear hcell e1 e2 e3 hd hbg hTL hTy;subst hg;go_wp2_with fail
   refine(Nt n B L t1 t2 _ hLL hW1).mono ?_;rintro e w2 ⟨rfl,hW2,hg2⟩;have hG2:=hG1.trans hg2;rw[← Aa HD]at hW2;clear x0 x1 hg2 hG1 hG hW1 hWr;go_wp2
   go_roundw
   case rel=>exact⟨k+1,by omega,by go_num,hW2,hG2⟩
   case measure=>simp[intOf];omega
  ·have e:ts.take k=ts:=List.take_of_length_le (by omega);rw[e]at hWr;go_wp2
   go_end0
   exact⟨rfl,hWr,hG⟩
theorem Ep (l:List Rd.Hnd) (k:Nat) (hk:k<l.length) (j:Nat) (hj:j<4):(Aw l)[k*4+j]?=[Value.int .i64 l[k].frm,.int .i64 l[k].til,.int .i64 l[k].target,.int .i64 l[k].cl][j]?∧k*4+j<(Aw l).length:=by
 refine⟨Fp (fun x:Rd.Hnd=>[Value.int .i64 x.frm,.int .i64 x.til,.int .i64 x.target,.int .i64 x.cl]) 4 (fun _=>rfl) l k hk j hj,?_⟩;unfold Aw;rw[En (fun x:Rd.Hnd=>[Value.int .i64 x.frm,.int .i64 x.til,.int .i64 x.target,.int .i64 x.cl]) 4 (fun _=>rfl) l];omega
theorem Aj3 (l:List Rd.Hnd):(l.flatMap Aho).length=4*l.length:=by
 induction l with
 | nil=>rfl
 | cons x r ih=>simp[Aho]at ih ⊢;omega
theorem Qa (n B b:Nat) (l:List UInt8) (hs:List Rd.Hnd) (a:Option Addr) (m c:Nat) (w:World) (hl:l.length+(Ahj hs).length≤100000) (hW:WrAt w n B l) (hT:HndsAt w b (.slice a m c) hs) :
  Calls Tryz.prog 115 #[.pointer (some ⟨B,0,none⟩),.slice a m c] w fun e w'=>e=.returned (.tuple #[])∧WrAt w' n B (l++Ahj hs)∧WG n w w':=by
 obtain⟨xa,xc,hsh⟩:=Ae hT;simp only[Value.slice.injEq]at hsh;obtain⟨rfl,hn1,rfl⟩:=hsh;subst hn1;unfold Ahj at hl ⊢;rw[List.length_cons,Aj3]at hl;generalize hB0:Afe (hs.length:Int)=b0;have HB0:=Ac hB0;clear hB0;go_enter Tryz.func115,Tryz.ntmps115
 (go_wp2_with fail);refine(A8 n B l (hs.length:Int) _ (by omega) hW).mono ?_;rintro e w1 ⟨rfl,hW1,hg1⟩
 rw[Aa HB0]at hW1;go_wp2
 go_loopw [12] (fun v wr=>∃ k:Nat,k≤hs.length∧v=.int .i64 (k:Int)∧WrAt wr n B (l++[b0]++(hs.take k).flatMap Aho)∧WG n w wr)
  (fun v _=>hs.length-(intOf v).toNat)
 case atStart=>exact⟨0,by omega,rfl,by simpa using hW1,hg1⟩
 case round =>
  clear hW1 hg1;obtain⟨k,hk,rfl,hWr,hG⟩:=hrel;have hlt:=hWr.lt;by_cases hkn:k<hs.length
  ·obtain⟨g,hg,hglt,hbg,hcell⟩:=Ao (Ci hT hG (by decide) (by decide)) (by omega);have x0:=(hcell _ (Ep hs k hkn 0 (by omega)).2).trans (Ep hs k hkn 0 (by omega)).1;have x1:=(hcell _ (Ep hs k hkn 1 (by omega)).2).trans (Ep hs k hkn 1 (by omega)).1;have x2:=(hcell _ (Ep hs k hkn 2 (by omega)).2).trans (Ep hs k hkn 2 (by omega)).1;have x3:=(hcell _ (Ep hs k hkn 3 (by omega)).2).trans (Ep hs k hkn 3 (by omega)).1;have hd:hs.take (k+1)=hs.take k++[hs[k]]:=by rw[List.take_succ_eq_append_getElem hkn]
   have hTy:=Aj3 (hs.take k);have hTL:(hs.take k).length=k:=by simp;omega
   generalize hs[k]=t at *;obtain⟨t1,t2,t3,t4⟩:=t;simp at x0 x1 x2 x3;rw[hTL]at hTy;have HD:Hid (l++[b0]++(hs.take (k+1)).flatMap Aho=l++[b0]++(hs.take k).flatMap Aho++[Afe t1]++[Afe t2]++[Afe t3]++[Afe t4]):=by unfold Hid;rw[hd];simp[Aho]
   have hLL:(l++[b0]++(hs.take k).flatMap Aho).length+4≤100000:=by rw[List.length_append,List.length_append,hTy];simp;omega
   generalize l++[b0]++(hs.take k).flatMap Aho=L at *;have hW1:=hWr.alloc (O13 t1 t2 t3 t4);have C1:=Ad wr (O13 t1 t2 t3 t4);have hG1:=hG.alloc (by omega) (O13 t1 t2 t3 t4);clear hcell hd hbg hTL hTy;subst hg
   (go_wp2_with fail);refine(A8 n B L t1 _ (by omega) hW1).mono ?_;rintro e w2 ⟨rfl,hW2,hg2⟩
   have C2:=hg2.kp _ _ _ C1 (by decide) (by decide);have y1:=Ab C2 1;have l2:=lt_of_block C2;simp at y1
   (go_wp2_with fail);refine(A8 n B (L++[Afe t1]) t2 _ (by simp;omega) hW2).mono ?_;rintro e w3 ⟨rfl,hW3,hg3⟩
   have C3:=hg3.kp _ _ _ C2 (by decide) (by decide);have y2:=Ab C3 2;have l3:=lt_of_block C3;simp at y2
   (go_wp2_with fail);refine(A8 n B (L++[Afe t1]++[Afe t2]) t3 _ (by simp;omega) hW3).mono ?_;rintro e w4 ⟨rfl,hW4,hg4⟩
   have C4:=hg4.kp _ _ _ C3 (by decide) (by decide);have y3:=Ab C4 3;have l4:=lt_of_block C4;simp at y3
   (go_wp2_with fail);refine(A8 n B (L++[Afe t1]++[Afe t2]++[Afe t3]) t4 _ (by simp;omega) hW4).mono ?_;rintro e w5 ⟨rfl,hW5,hg5⟩
   have hG2:=(((hG1.trans hg2).trans hg3).trans hg4).trans hg5;rw[← Aa HD]at hW5;clear x0 x1 x2 x3 y1 y2 y3 l2 l3 l4 C1 C2 C3 C4 hg2 hg3 hg4 hg5 hG1 hG hW1 hW2 hW3 hW4 hWr;go_wp2
   go_roundw
   case rel=>exact⟨k+1,by omega,by go_num,hW5,hG2⟩
   case measure=>simp[intOf];omega
  ·have e:hs.take k=hs:=List.take_of_length_le (by omega);rw[e]at hWr;go_wp2
   go_end0
   exact⟨rfl,by simpa using hWr,hG⟩
theorem Gq (l:List (Rd.Mp × Value × Value)) (k:Nat) (hk:k<l.length) (j:Nat) (hj:j<3):(Cx l)[k*3+j]?=[Value.int .i64 l[k].1.place,l[k].2.1,l[k].2.2][j]?∧k*3+j<(Cx l).length:=by
 refine⟨Fp (fun x:Rd.Mp × Value × Value=>[Value.int .i64 x.1.place,x.2.1,x.2.2]) 3 (fun _=>rfl) l k hk j hj,?_⟩;unfold Cx;rw[En (fun x:Rd.Mp × Value × Value=>[Value.int .i64 x.1.place,x.2.1,x.2.2]) 3 (fun _=>rfl) l];omega
theorem Akk (l:List (Rd.Mp × Value × Value)) (k:Nat) (hk:k<l.length) :
  (((l.take k).map Prod.fst).flatMap Ag0).length+(Ag0 l[k].1).length≤((l.map Prod.fst).flatMap Ag0).length:=by
 have h:(l.map Prod.fst).flatMap Ag0=((l.take k).map Prod.fst).flatMap Ag0++(Ag0 l[k].1++((l.drop (k+1)).map Prod.fst).flatMap Ag0):=by
  rw[← List.flatMap_cons,← List.map_cons,← List.drop_eq_getElem_cons hk,← List.flatMap_append,← List.map_append,List.take_append_drop]
 rw[h,List.length_append,List.length_append];omega
theorem Ake (x:Rd.Mth):(Agl x).length=8+2*x.params.length+x.code.length+(Ahj x.handlers).length+(Aie x.maps).length:=by
 simp[Agl,Ai8,Ahc,Ahm];omega
theorem Aj2 {α:Type} (f:α→List UInt8) (l:List α) (k:Nat) (hk:k<l.length):((l.take k).flatMap f).length+(f l[k]).length≤(l.flatMap f).length:=by
 have h:l.flatMap f=(l.take k).flatMap f++(f l[k]++(l.drop (k+1)).flatMap f):=by
  rw[← List.flatMap_cons,← List.drop_eq_getElem_cons hk,← List.flatMap_append,List.take_append_drop]
 rw[h,List.length_append,List.length_append];omega
theorem ClssIn.wg {n b:Nat}{v:Value}{l:List (Rd.Cls × Value)}{w w':World} (h:ClssIn w b v l) (hg:WG n w w'):ClssIn w' b v l :=
 ⟨Ci h.1 hg (by decide) (by decide),fun p hp=>Ci (h.2 p hp) hg (by decide) (by decide)⟩
variable {ya:Option Addr}{yn yc:Nat}
theorem Gl {b size n:Nat}{e:TypeId}{a:Option Addr}{m c:Nat}{xs:List Value}{w:World} (h:w.ownsRow b e size (.slice a m c) n xs):n≤c:=by
 obtain⟨_,⟨h1,h2⟩|⟨g,cap,cur,h3,h4,h5,h6,_⟩⟩:=h
 ·omega
 ·simp only[Value.slice.injEq]at h3;omega
def Ajy (q:Int):Int × Int:=if 0≤q then (4,q) else (0,0)
theorem Aj1 {q:Int} (h:0≤q):Ajy q=(4,q):=if_pos h
theorem Tl (fa1 fa2:Option Addr) (fl1 fc1 fc2:Nat) (lms:List (Rd.Mth × MthV)) (T:List Int) (tg cap bm:Nat) (w:World) (hT:T.length≤1000) (hTr:TreeIn w tg T)
  (hm6:lms.length≤6) (hms:MthsIn w bm (.slice fa2 lms.length fc2) lms) (hpl:∀ p∈lms,p.1.params.length≤1000) :
  Calls Tryz.prog 106 #[.agg #[.slice fa1 fl1 fc1,.slice fa2 lms.length fc2],.agg #[.slice (some ⟨tg,0,none⟩) T.length cap,.slice ya yn yc]] w fun e w' =>
   e=.returned (.agg #[.int .i64 (Ajy (Ag7 T (lms.map Prod.fst) 0 (lms.map Prod.fst))).1,.int .i64 (Ajy (Ag7 T (lms.map Prod.fst) 0 (lms.map Prod.fst))).2,.int .i64 0])∧Below w.heap.size w w':=by
 generalize hq:Ag7 T (lms.map Prod.fst) 0 (lms.map Prod.fst)=q;have HQ:Hid (Ag7 T (lms.map Prod.fst) 0 ((lms.map Prod.fst).drop 0)=q):=hq;clear hq;have hB0:=Cb w (O1 fa1 fl1 fc1 fa2 lms.length fc2) (O2 (some ⟨tg,0,none⟩) T.length cap ya yn yc) (O8 0 0 0);have C0:=J8 w (O1 fa1 fl1 fc1 fa2 lms.length fc2) (O2 (some ⟨tg,0,none⟩) T.length cap ya yn yc) (O8 0 0 0);go_enter Tryz.func106,Tryz.ntmps106;go_wp2
 go_loopw [10] (fun v wr=>∃ k:Nat,k≤lms.length∧v=.int .i64 (k:Int)∧Hid (Ag7 T (lms.map Prod.fst) k ((lms.map Prod.fst).drop k)=q)∧Below w.heap.size w wr∧wr.heap[w.heap.size]?=some (O1 fa1 fl1 fc1 fa2 lms.length fc2) ∧
   wr.heap[w.heap.size+1]?=some (O2 (some ⟨tg,0,none⟩) T.length cap ya yn yc)∧wr.heap[w.heap.size+1+1]?=some (O8 0 0 0))
  (fun v _=>lms.length-(intOf v).toNat)
 case atStart=>exact⟨0,by omega,rfl,HQ,hB0,C0.1,C0.2.1,C0.2.2⟩
 case round =>
  clear HQ hB0 C0;obtain⟨k,hk,rfl,HQ,hB,CF,CT,CR⟩:=hrel;have hBs:=hB.size;by_cases hkn:k<lms.length
  ·have hmr:MthsIn wr bm (.slice fa2 lms.length fc2) lms:=hms.kp (Kp.of_below (e:=none) hB) (by decide) (by decide) (by decide) (by decide) (by decide);have kc:=Gl hmr.1;obtain⟨o,g,hg,hglt,hrow,his⟩:=hmr.mth hkn;replace hrow:=Fq hrow;have hpo:=hpl _ (List.getElem_mem hkn);have hd:(lms.map Prod.fst).drop k=lms[k].1::(lms.map Prod.fst).drop (k+1):=by
    rw[List.drop_eq_getElem_cons (by simpa using hkn)]
    simp
   have hr:=Aa HQ;rw[hd,Ag7]at hr;unfold Ajj at hr;have hHM:=fun w' (h:Below wr.heap.size wr w')=>Sv (ya:=ya) (yn:=yn) (yc:=yc) T (some ⟨tg,0,none⟩) cap bm o lms[k].1 w' (his.below h) hpo;have hBR:=fun w' (h:Below wr.heap.size wr w')=>N9 (ya:=ya) (yn:=yn) (yc:=yc) fa1 fa2 fl1 fc1 fc2 lms T tg cap bm o lms[k].1 w' (his.below h) hT (hTr.below (hB.trans (h.mono hBs))) hm6 (hmr.kp (Kp.of_below (e:=none) h) (by decide) (by decide) (by decide) (by decide) (by decide)) hpo hpl;have hlen:((lms.map Prod.fst).take k).length=k:=by simp;omega
   have hTW:=fun w' (h:Below wr.heap.size wr w')=>Wj ((lms.map Prod.fst).take k) fa2 fc2 o lms[k].1 w' his.cl his.nm (by omega) (by
    intro w'' h'' j hj;have hj':j<lms.length:=by omega
    have hb'':=h.trans (h''.mono h.size);obtain⟨o',g',hg',hglt',hrow',his'⟩:=(hmr.kp (Kp.of_below (e:=none) hb'') (by decide) (by decide) (by decide) (by decide) (by decide)).mth hj';refine⟨o',g',hg',hglt',hrow',?_,?_⟩
    ·rw[his'.cl];simp
    ·rw[his'.nm];simp)
   rw[hlen]at hTW;clear his hmr hd hlen;generalize Air T lms[k].1=A at *;generalize Ai3 ((lms.map Prod.fst).take k) lms[k].1=B at *;generalize Ah1 T (lms.map Prod.fst) lms[k].1=C at *;obtain⟨cl,nm,pa,pl,pc,r1,r2,lo,st,ca,cn,cc,ha,hl,hc,ma,ml,mc⟩:=o;simp only[PM.val]at hrow hHM hTW hBR;obtain⟨y0,y1,y2,y3,y4,y5,y6,y7,y8,y9⟩:=hrow;subst hg;have HHM:=Ac hHM;have HTW:=Ac hTW;have HBR:=Ac hBR;clear hHM hTW hBR HQ;have hX1:Below wr.heap.size wr (wr.alloc (O12 cl nm pa pl pc r1 r2 lo st ca cn cc ha hl hc ma ml mc)):=QN _;have CM1:=Ad wr (O12 cl nm pa pl pc r1 r2 lo st ca cn cc ha hl hc ma ml mc);have CF1:=Af CF (O12 cl nm pa pl pc r1 r2 lo st ca cn cc ha hl hc ma ml mc);have CT1:=Af CT (O12 cl nm pa pl pc r1 r2 lo st ca cn cc ha hl hc ma ml mc);have f0:(wr.alloc (O12 cl nm pa pl pc r1 r2 lo st ca cn cc ha hl hc ma ml mc)).cell? ⟨w.heap.size,0,none⟩=some (.slice fa1 fl1 fc1):=(Ab CF1 0).trans rfl;have f1:(wr.alloc (O12 cl nm pa pl pc r1 r2 lo st ca cn cc ha hl hc ma ml mc)).cell? ⟨w.heap.size,1,none⟩=some (.slice (some ⟨g,0,none⟩) lms.length fc2):=(Ab CF1 1).trans rfl;have t0:(wr.alloc (O12 cl nm pa pl pc r1 r2 lo st ca cn cc ha hl hc ma ml mc)).cell? ⟨w.heap.size+1,0,none⟩=some (.slice (some ⟨tg,0,none⟩) T.length cap):=(Ab CT1 0).trans rfl;have t1:(wr.alloc (O12 cl nm pa pl pc r1 r2 lo st ca cn cc ha hl hc ma ml mc)).cell? ⟨w.heap.size+1,1,none⟩=some (.slice ya yn yc):=(Ab CT1 1).trans rfl;have m0:(wr.alloc (O12 cl nm pa pl pc r1 r2 lo st ca cn cc ha hl hc ma ml mc)).cell? ⟨wr.heap.size,0,none⟩=some (.int .i64 cl):=(Ab CM1 0).trans rfl;have m1:(wr.alloc (O12 cl nm pa pl pc r1 r2 lo st ca cn cc ha hl hc ma ml mc)).cell? ⟨wr.heap.size,1,none⟩=some (.int .i64 nm):=(Ab CM1 1).trans rfl;have m2:(wr.alloc (O12 cl nm pa pl pc r1 r2 lo st ca cn cc ha hl hc ma ml mc)).cell? ⟨wr.heap.size,2,none⟩=some (.slice pa pl pc):=(Ab CM1 2).trans rfl;have m3:(wr.alloc (O12 cl nm pa pl pc r1 r2 lo st ca cn cc ha hl hc ma ml mc)).cell? ⟨wr.heap.size,3,none⟩=some (.int .i64 r1):=(Ab CM1 3).trans rfl;have m4:(wr.alloc (O12 cl nm pa pl pc r1 r2 lo st ca cn cc ha hl hc ma ml mc)).cell? ⟨wr.heap.size,4,none⟩=some (.int .i64 r2):=(Ab CM1 4).trans rfl;have m5:(wr.alloc (O12 cl nm pa pl pc r1 r2 lo st ca cn cc ha hl hc ma ml mc)).cell? ⟨wr.heap.size,5,none⟩=some (.int .i64 lo):=(Ab CM1 5).trans rfl;have m6:(wr.alloc (O12 cl nm pa pl pc r1 r2 lo st ca cn cc ha hl hc ma ml mc)).cell? ⟨wr.heap.size,6,none⟩=some (.int .i64 st):=(Ab CM1 6).trans rfl;have m7:(wr.alloc (O12 cl nm pa pl pc r1 r2 lo st ca cn cc ha hl hc ma ml mc)).cell? ⟨wr.heap.size,7,none⟩=some (.slice ca cn cc):=(Ab CM1 7).trans rfl;have m8:(wr.alloc (O12 cl nm pa pl pc r1 r2 lo st ca cn cc ha hl hc ma ml mc)).cell? ⟨wr.heap.size,8,none⟩=some (.slice ha hl hc):=(Ab CM1 8).trans rfl;have m9:(wr.alloc (O12 cl nm pa pl pc r1 r2 lo st ca cn cc ha hl hc ma ml mc)).cell? ⟨wr.heap.size,9,none⟩=some (.slice ma ml mc):=(Ab CM1 9).trans rfl;have lF:w.heap.size<(wr.alloc (O12 cl nm pa pl pc r1 r2 lo st ca cn cc ha hl hc ma ml mc)).heap.size:=lt_of_block CF1;have lT:w.heap.size+1<(wr.alloc (O12 cl nm pa pl pc r1 r2 lo st ca cn cc ha hl hc ma ml mc)).heap.size:=lt_of_block CT1;have lM:wr.heap.size<(wr.alloc (O12 cl nm pa pl pc r1 r2 lo st ca cn cc ha hl hc ma ml mc)).heap.size:=lt_of_block CM1;have kb:(k:Int)<(lms.length:Int):=by omega
   have kc':(k:Int)≤(fc2:Int):=by omega
   have x0:=Ab CF 1;simp at x0;cases A with
   | false =>
    have HE:Hid (q=(k:Int)):=by unfold Hid;rw[← hr];simp
    clear hr;go_wp2;refine wp_region_held_drew (S:=(fun w'=>w'.cell? ⟨w.heap.size,0,none⟩=some (.slice fa1 fl1 fc1)∧w'.cell? ⟨w.heap.size,1,none⟩=some (.slice (some ⟨g,0,none⟩) lms.length fc2)∧w'.cell? ⟨w.heap.size+1,0,none⟩=some (.slice (some ⟨tg,0,none⟩) T.length cap)∧w'.cell? ⟨w.heap.size+1,1,none⟩=some (.slice ya yn yc)∧w'.cell? ⟨wr.heap.size,0,none⟩=some (.int .i64 cl)∧w'.cell? ⟨wr.heap.size,1,none⟩=some (.int .i64 nm)∧w'.cell? ⟨wr.heap.size,2,none⟩=some (.slice pa pl pc)∧w'.cell? ⟨wr.heap.size,3,none⟩=some (.int .i64 r1)∧w'.cell? ⟨wr.heap.size,4,none⟩=some (.int .i64 r2)∧w'.cell? ⟨wr.heap.size,5,none⟩=some (.int .i64 lo)∧w'.cell? ⟨wr.heap.size,6,none⟩=some (.int .i64 st)∧w'.cell? ⟨wr.heap.size,7,none⟩=some (.slice ca cn cc)∧w'.cell? ⟨wr.heap.size,8,none⟩=some (.slice ha hl hc)∧w'.cell? ⟨wr.heap.size,9,none⟩=some (.slice ma ml mc))) (by kernel_rfl) ⟨f0,f1,t0,t1,m0,m1,m2,m3,m4,m5,m6,m7,m8,m9⟩ (fun hHeld=>?_);refine wpAnyH_take (i:=0) (oi:=⟨_,_,_,_,_,_⟩) (v:=.agg #[.slice (some ⟨tg,0,none⟩) T.length cap,.slice ya yn yc]) rfl (by kernel_rfl) (by kernel_rfl) (by kernel_rfl) (fun _ _ _ h=>h) (Or.inl ⟨by rfl,?_⟩) hHeld ?_
    ·intro w' hSw
     try dsimp only at hSw
     go_simp
    try simp only[QX]
    refine wpAnyH_take (i:=1) (oi:=⟨_,_,_,_,_,_⟩) (v:=.agg #[.int .i64 cl,.int .i64 nm,.slice pa pl pc,.int .i64 r1,.int .i64 r2,.int .i64 lo,.int .i64 st,.slice ca cn cc,.slice ha hl hc,.slice ma ml mc]) rfl (by kernel_rfl) (by kernel_rfl) (by kernel_rfl) (fun _ _ _ h=>h) (Or.inl ⟨by rfl,?_⟩) hHeld ?_
    ·intro w' hSw
     try dsimp only at hSw
     go_simp
    try simp only[QX]
    refine wpAnyH_ready (rs:=[2]) (by kernel_rfl) (by simp) ?_;refine AllReadyH.cons (o:=⟨_,_,_,_,_,_⟩) rfl (fun K hK=>?_) AllReadyH.nil
    go_simp
    refine(Aa HHM _ hX1.drew).mono ?_;rintro e w7 ⟨rfl,hb7⟩
    try dsimp only
    clear hHeld;refine hK.out _ _ ⟨QC hb7 lF f0,QC hb7 lF f1,QC hb7 lT t0,QC hb7 lT t1,QC hb7 lM m0,QC hb7 lM m1,QC hb7 lM m2,QC hb7 lM m3,QC hb7 lM m4,QC hb7 lM m5,QC hb7 lM m6,QC hb7 lM m7,QC hb7 lM m8,QC hb7 lM m9⟩ (fun hHeld=>?_);clear hK K
    try simp only[QX]
    refine wpAnyH_take (i:=3) (oi:=⟨_,_,_,_,_,_⟩) (v:=.bool true) rfl (by kernel_rfl) (by kernel_rfl) (by kernel_rfl) (fun _ _ _ h=>h) (Or.inl ⟨by rfl,?_⟩) hHeld ?_
    ·intro w' hSw
     try dsimp only at hSw
     go_simp
    try simp only[QX]
    refine wpAnyH_take (i:=4) (oi:=⟨_,_,_,_,_,_⟩) (v:=.bool true) rfl (by kernel_rfl) (by kernel_rfl) (by kernel_rfl) (fun _ _ _ h=>h) (Or.inl ⟨by rfl,?_⟩) hHeld ?_
    ·intro w' hSw
     try dsimp only at hSw
     go_simp
    try simp only[QX]
    refine wpAnyH_take (i:=5) (oi:=⟨_,_,_,_,_,_⟩) (v:=undef) rfl (by kernel_rfl) (by kernel_rfl) (by kernel_rfl) (fun _ _ _ h=>h) (Or.inr ⟨by rfl,rfl⟩) hHeld ?_
    try simp only[QX]
    refine wpAnyH_take (i:=6) (oi:=⟨_,_,_,_,_,_⟩) (v:=undef) rfl (by kernel_rfl) (by kernel_rfl) (by kernel_rfl) (fun _ _ _ h=>h) (Or.inr ⟨by rfl,rfl⟩) hHeld ?_
    try simp only[QX]
    refine wpAnyH_take (i:=7) (oi:=⟨_,_,_,_,_,_⟩) (v:=undef) rfl (by kernel_rfl) (by kernel_rfl) (by kernel_rfl) (fun _ _ _ h=>h) (Or.inr ⟨by rfl,rfl⟩) hHeld ?_
    try simp only[QX]
    refine wpAnyH_take (i:=8) (oi:=⟨_,_,_,_,_,_⟩) (v:=undef) rfl (by kernel_rfl) (by kernel_rfl) (by kernel_rfl) (fun _ _ _ h=>h) (Or.inr ⟨by rfl,rfl⟩) hHeld ?_
    try simp only[QX]
    refine wpAnyH_take (i:=9) (oi:=⟨_,_,_,_,_,_⟩) (v:=undef) rfl (by kernel_rfl) (by kernel_rfl) (by kernel_rfl) (fun _ _ _ h=>h) (Or.inr ⟨by rfl,rfl⟩) hHeld ?_
    try simp only[QX]
    refine wpAnyH_take (i:=10) (oi:=⟨_,_,_,_,_,_⟩) (v:=undef) rfl (by kernel_rfl) (by kernel_rfl) (by kernel_rfl) (fun _ _ _ h=>h) (Or.inr ⟨by rfl,rfl⟩) hHeld ?_
    try simp only[QX]
    refine wpAnyH_take (i:=11) (oi:=⟨_,_,_,_,_,_⟩) (v:=.bool true) rfl (by kernel_rfl) (by kernel_rfl) (by kernel_rfl) (fun _ _ _ h=>h) (Or.inl ⟨by rfl,?_⟩) hHeld ?_
    ·intro w' hSw
     try dsimp only at hSw
     go_simp
    try simp only[QX]
    refine wpAnyH_take (i:=12) (oi:=⟨_,_,_,_,_,_⟩) (v:=.bool true) rfl (by kernel_rfl) (by kernel_rfl) (by kernel_rfl) (fun _ _ _ h=>h) (Or.inl ⟨by rfl,?_⟩) hHeld ?_
    ·intro w' hSw
     try dsimp only at hSw
     go_simp
    try simp only[QX]
    refine wpAnyH_take (i:=13) (oi:=⟨_,_,_,_,_,_⟩) (v:=undef) rfl (by kernel_rfl) (by kernel_rfl) (by kernel_rfl) (fun _ _ _ h=>h) (Or.inr ⟨by rfl,rfl⟩) hHeld ?_
    try simp only[QX]
    refine wpAnyH_take (i:=14) (oi:=⟨_,_,_,_,_,_⟩) (v:=undef) rfl (by kernel_rfl) (by kernel_rfl) (by kernel_rfl) (fun _ _ _ h=>h) (Or.inr ⟨by rfl,rfl⟩) hHeld ?_
    try simp only[QX]
    refine wpAnyH_take (i:=15) (oi:=⟨_,_,_,_,_,_⟩) (v:=undef) rfl (by kernel_rfl) (by kernel_rfl) (by kernel_rfl) (fun _ _ _ h=>h) (Or.inr ⟨by rfl,rfl⟩) hHeld ?_
    try simp only[QX]
    refine wpAnyH_take (i:=16) (oi:=⟨_,_,_,_,_,_⟩) (v:=undef) rfl (by kernel_rfl) (by kernel_rfl) (by kernel_rfl) (fun _ _ _ h=>h) (Or.inr ⟨by rfl,rfl⟩) hHeld ?_
    try simp only[QX]
    refine wpAnyH_take (i:=17) (oi:=⟨_,_,_,_,_,_⟩) (v:=.bool true) rfl (by kernel_rfl) (by kernel_rfl) (by kernel_rfl) (fun _ _ _ h=>h) (Or.inl ⟨by rfl,?_⟩) hHeld ?_
    ·intro w' hSw
     try dsimp only at hSw
     go_simp
    try simp only[QX]
    refine wpAnyH_done (by kernel_rfl) ?_ _;have hX:=(hX1.drew).trans (hb7.mono (Nat.le_of_lt lM));have hBn:=hB.trans (hX.mono hBs);have CFn:=stay hX CF;have CTn:=stay hX CT;have CRn:=stay hX CR;clear hHeld f0 f1 t0 t1 m0 m1 m2 m3 m4 m5 m6 m7 m8 m9;obtain⟨z0,z1,z2⟩:=cl3 CRn;obtain⟨q0,q1,q2⟩:=fr3 CRn;have lR:=lt_of_block CRn;simp at z0 z1 z2;go_wp2_with fail
    refine bodyPost_ret (v:=.agg #[.int .i64 4,.int .i64 (k:Int),.int .i64 0]) (by simp[results,Tryz.results106,go_sem,z0,z1,z2]) rfl ?_;rw[Aa HE,Aj1 (by omega)];exact⟨rfl,((hBn.setCell (by simp;omega) _).setCell (by simp;omega) _).setCell (by simp;omega) _⟩
   | true =>
    cases B with
    | true =>
     have HE:Hid (q=(k:Int)):=by unfold Hid;rw[← hr];simp
     clear hr;go_wp2;refine wp_region_held_drew (S:=(fun w'=>w'.cell? ⟨w.heap.size,0,none⟩=some (.slice fa1 fl1 fc1)∧w'.cell? ⟨w.heap.size,1,none⟩=some (.slice (some ⟨g,0,none⟩) lms.length fc2)∧w'.cell? ⟨w.heap.size+1,0,none⟩=some (.slice (some ⟨tg,0,none⟩) T.length cap)∧w'.cell? ⟨w.heap.size+1,1,none⟩=some (.slice ya yn yc)∧w'.cell? ⟨wr.heap.size,0,none⟩=some (.int .i64 cl)∧w'.cell? ⟨wr.heap.size,1,none⟩=some (.int .i64 nm)∧w'.cell? ⟨wr.heap.size,2,none⟩=some (.slice pa pl pc)∧w'.cell? ⟨wr.heap.size,3,none⟩=some (.int .i64 r1)∧w'.cell? ⟨wr.heap.size,4,none⟩=some (.int .i64 r2)∧w'.cell? ⟨wr.heap.size,5,none⟩=some (.int .i64 lo)∧w'.cell? ⟨wr.heap.size,6,none⟩=some (.int .i64 st)∧w'.cell? ⟨wr.heap.size,7,none⟩=some (.slice ca cn cc)∧w'.cell? ⟨wr.heap.size,8,none⟩=some (.slice ha hl hc)∧w'.cell? ⟨wr.heap.size,9,none⟩=some (.slice ma ml mc))) (by kernel_rfl) ⟨f0,f1,t0,t1,m0,m1,m2,m3,m4,m5,m6,m7,m8,m9⟩ (fun hHeld=>?_);refine wpAnyH_take (i:=0) (oi:=⟨_,_,_,_,_,_⟩) (v:=.agg #[.slice (some ⟨tg,0,none⟩) T.length cap,.slice ya yn yc]) rfl (by kernel_rfl) (by kernel_rfl) (by kernel_rfl) (fun _ _ _ h=>h) (Or.inl ⟨by rfl,?_⟩) hHeld ?_
     ·intro w' hSw
      try dsimp only at hSw
      go_simp
     try simp only[QX]
     refine wpAnyH_take (i:=1) (oi:=⟨_,_,_,_,_,_⟩) (v:=.agg #[.int .i64 cl,.int .i64 nm,.slice pa pl pc,.int .i64 r1,.int .i64 r2,.int .i64 lo,.int .i64 st,.slice ca cn cc,.slice ha hl hc,.slice ma ml mc]) rfl (by kernel_rfl) (by kernel_rfl) (by kernel_rfl) (fun _ _ _ h=>h) (Or.inl ⟨by rfl,?_⟩) hHeld ?_
     ·intro w' hSw
      try dsimp only at hSw
      go_simp
     try simp only[QX]
     refine wpAnyH_ready (rs:=[2]) (by kernel_rfl) (by simp) ?_;refine AllReadyH.cons (o:=⟨_,_,_,_,_,_⟩) rfl (fun K hK=>?_) AllReadyH.nil
     go_simp
     refine(Aa HHM _ hX1.drew).mono ?_;rintro e w7 ⟨rfl,hb7⟩
     try dsimp only
     clear hHeld;refine hK.out _ _ ⟨QC hb7 lF f0,QC hb7 lF f1,QC hb7 lT t0,QC hb7 lT t1,QC hb7 lM m0,QC hb7 lM m1,QC hb7 lM m2,QC hb7 lM m3,QC hb7 lM m4,QC hb7 lM m5,QC hb7 lM m6,QC hb7 lM m7,QC hb7 lM m8,QC hb7 lM m9⟩ (fun hHeld=>?_);clear hK K
     try simp only[QX]
     refine wpAnyH_take (i:=3) (oi:=⟨_,_,_,_,_,_⟩) (v:=.bool false) rfl (by kernel_rfl) (by kernel_rfl) (by kernel_rfl) (fun _ _ _ h=>h) (Or.inl ⟨by rfl,?_⟩) hHeld ?_
     ·intro w' hSw
      try dsimp only at hSw
      go_simp
     try simp only[QX]
     refine wpAnyH_take (i:=4) (oi:=⟨_,_,_,_,_,_⟩) (v:=.bool false) rfl (by kernel_rfl) (by kernel_rfl) (by kernel_rfl) (fun _ _ _ h=>h) (Or.inl ⟨by rfl,?_⟩) hHeld ?_
     ·intro w' hSw
      try dsimp only at hSw
      go_simp
     try simp only[QX]
     refine wpAnyH_take (i:=5) (oi:=⟨_,_,_,_,_,_⟩) (v:=.pointer (some ⟨w.heap.size,1,none⟩)) rfl (by kernel_rfl) (by kernel_rfl) (by kernel_rfl) (fun _ _ _ h=>h) (Or.inl ⟨by rfl,?_⟩) hHeld ?_
     ·intro w' hSw
      try dsimp only at hSw
      go_simp
     try simp only[QX]
     refine wpAnyH_take (i:=6) (oi:=⟨_,_,_,_,_,_⟩) (v:=.slice (some ⟨g,0,none⟩) lms.length fc2) rfl (by kernel_rfl) (by kernel_rfl) (by kernel_rfl) (fun _ _ _ h=>h) (Or.inl ⟨by rfl,?_⟩) hHeld ?_
     ·intro w' hSw
      try dsimp only at hSw
      go_simp
     try simp only[QX]
     refine wpAnyH_take (i:=7) (oi:=⟨_,_,_,_,_,_⟩) (v:=.int .i64 (k:Int)) rfl (by kernel_rfl) (by kernel_rfl) (by kernel_rfl) (fun _ _ _ h=>h) (Or.inl ⟨by rfl,?_⟩) hHeld ?_
     ·intro w' hSw
      try dsimp only at hSw
      go_simp
     try simp only[QX]
     refine wpAnyH_take (i:=8) (oi:=⟨_,_,_,_,_,_⟩) (v:=.slice (some ⟨g,0,none⟩) k fc2) rfl (by kernel_rfl) (by kernel_rfl) (by kernel_rfl) (fun _ _ _ h=>h) (Or.inl ⟨by rfl,?_⟩) hHeld ?_
     ·intro w' hSw
      try dsimp only at hSw
      go_simp
     try simp only[QX]
     refine wpAnyH_take (i:=9) (oi:=⟨_,_,_,_,_,_⟩) (v:=.agg #[.int .i64 cl,.int .i64 nm,.slice pa pl pc,.int .i64 r1,.int .i64 r2,.int .i64 lo,.int .i64 st,.slice ca cn cc,.slice ha hl hc,.slice ma ml mc]) rfl (by kernel_rfl) (by kernel_rfl) (by kernel_rfl) (fun _ _ _ h=>h) (Or.inl ⟨by rfl,?_⟩) hHeld ?_
     ·intro w' hSw
      try dsimp only at hSw
      go_simp
     try simp only[QX]
     refine wpAnyH_ready (rs:=[10]) (by kernel_rfl) (by simp) ?_;refine AllReadyH.cons (o:=⟨_,_,_,_,_,_⟩) rfl (fun K hK=>?_) AllReadyH.nil
     go_simp
     refine(Aa HTW _ (hX1.drew.trans (hb7.mono (Nat.le_of_lt lM)))).mono ?_;rintro e w8 ⟨rfl,hb8⟩
     try dsimp only
     clear hHeld;refine hK.out _ _ ⟨QC hb8 (QL hb7 lF) (QC hb7 lF f0),QC hb8 (QL hb7 lF) (QC hb7 lF f1),QC hb8 (QL hb7 lT) (QC hb7 lT t0),QC hb8 (QL hb7 lT) (QC hb7 lT t1),QC hb8 (QL hb7 lM) (QC hb7 lM m0),QC hb8 (QL hb7 lM) (QC hb7 lM m1),QC hb8 (QL hb7 lM) (QC hb7 lM m2),QC hb8 (QL hb7 lM) (QC hb7 lM m3),QC hb8 (QL hb7 lM) (QC hb7 lM m4),QC hb8 (QL hb7 lM) (QC hb7 lM m5),QC hb8 (QL hb7 lM) (QC hb7 lM m6),QC hb8 (QL hb7 lM) (QC hb7 lM m7),QC hb8 (QL hb7 lM) (QC hb7 lM m8),QC hb8 (QL hb7 lM) (QC hb7 lM m9)⟩ (fun hHeld=>?_);clear hK K
     try simp only[QX]
     refine wpAnyH_take (i:=11) (oi:=⟨_,_,_,_,_,_⟩) (v:=.bool true) rfl (by kernel_rfl) (by kernel_rfl) (by kernel_rfl) (fun _ _ _ h=>h) (Or.inl ⟨by rfl,?_⟩) hHeld ?_
     ·intro w' hSw
      try dsimp only at hSw
      go_simp
     try simp only[QX]
     refine wpAnyH_take (i:=12) (oi:=⟨_,_,_,_,_,_⟩) (v:=.bool true) rfl (by kernel_rfl) (by kernel_rfl) (by kernel_rfl) (fun _ _ _ h=>h) (Or.inl ⟨by rfl,?_⟩) hHeld ?_
     ·intro w' hSw
      try dsimp only at hSw
      go_simp
     try simp only[QX]
     refine wpAnyH_take (i:=13) (oi:=⟨_,_,_,_,_,_⟩) (v:=undef) rfl (by kernel_rfl) (by kernel_rfl) (by kernel_rfl) (fun _ _ _ h=>h) (Or.inr ⟨by rfl,rfl⟩) hHeld ?_
     try simp only[QX]
     refine wpAnyH_take (i:=14) (oi:=⟨_,_,_,_,_,_⟩) (v:=undef) rfl (by kernel_rfl) (by kernel_rfl) (by kernel_rfl) (fun _ _ _ h=>h) (Or.inr ⟨by rfl,rfl⟩) hHeld ?_
     try simp only[QX]
     refine wpAnyH_take (i:=15) (oi:=⟨_,_,_,_,_,_⟩) (v:=undef) rfl (by kernel_rfl) (by kernel_rfl) (by kernel_rfl) (fun _ _ _ h=>h) (Or.inr ⟨by rfl,rfl⟩) hHeld ?_
     try simp only[QX]
     refine wpAnyH_take (i:=16) (oi:=⟨_,_,_,_,_,_⟩) (v:=undef) rfl (by kernel_rfl) (by kernel_rfl) (by kernel_rfl) (fun _ _ _ h=>h) (Or.inr ⟨by rfl,rfl⟩) hHeld ?_
     try simp only[QX]
     refine wpAnyH_take (i:=17) (oi:=⟨_,_,_,_,_,_⟩) (v:=.bool true) rfl (by kernel_rfl) (by kernel_rfl) (by kernel_rfl) (fun _ _ _ h=>h) (Or.inl ⟨by rfl,?_⟩) hHeld ?_
     ·intro w' hSw
      try dsimp only at hSw
      go_simp
     try simp only[QX]
     refine wpAnyH_done (by kernel_rfl) ?_ _;have hX:=((hX1.drew).trans (hb7.mono (Nat.le_of_lt lM))).trans (hb8.mono (Nat.le_trans (Nat.le_of_lt lM) hb7.size));have hBn:=hB.trans (hX.mono hBs);have CFn:=stay hX CF;have CTn:=stay hX CT;have CRn:=stay hX CR;clear hHeld f0 f1 t0 t1 m0 m1 m2 m3 m4 m5 m6 m7 m8 m9;obtain⟨z0,z1,z2⟩:=cl3 CRn;obtain⟨q0,q1,q2⟩:=fr3 CRn;have lR:=lt_of_block CRn;simp at z0 z1 z2;go_wp2_with fail
     refine bodyPost_ret (v:=.agg #[.int .i64 4,.int .i64 (k:Int),.int .i64 0]) (by simp[results,Tryz.results106,go_sem,z0,z1,z2]) rfl ?_;rw[Aa HE,Aj1 (by omega)];exact⟨rfl,((hBn.setCell (by simp;omega) _).setCell (by simp;omega) _).setCell (by simp;omega) _⟩
    | false =>
     cases C with
     | true =>
      have HE:Hid (q=(k:Int)):=by unfold Hid;rw[← hr];simp
      clear hr;go_wp2;refine wp_region_held_drew (S:=(fun w'=>w'.cell? ⟨w.heap.size,0,none⟩=some (.slice fa1 fl1 fc1)∧w'.cell? ⟨w.heap.size,1,none⟩=some (.slice (some ⟨g,0,none⟩) lms.length fc2)∧w'.cell? ⟨w.heap.size+1,0,none⟩=some (.slice (some ⟨tg,0,none⟩) T.length cap)∧w'.cell? ⟨w.heap.size+1,1,none⟩=some (.slice ya yn yc)∧w'.cell? ⟨wr.heap.size,0,none⟩=some (.int .i64 cl)∧w'.cell? ⟨wr.heap.size,1,none⟩=some (.int .i64 nm)∧w'.cell? ⟨wr.heap.size,2,none⟩=some (.slice pa pl pc)∧w'.cell? ⟨wr.heap.size,3,none⟩=some (.int .i64 r1)∧w'.cell? ⟨wr.heap.size,4,none⟩=some (.int .i64 r2)∧w'.cell? ⟨wr.heap.size,5,none⟩=some (.int .i64 lo)∧w'.cell? ⟨wr.heap.size,6,none⟩=some (.int .i64 st)∧w'.cell? ⟨wr.heap.size,7,none⟩=some (.slice ca cn cc)∧w'.cell? ⟨wr.heap.size,8,none⟩=some (.slice ha hl hc)∧w'.cell? ⟨wr.heap.size,9,none⟩=some (.slice ma ml mc))) (by kernel_rfl) ⟨f0,f1,t0,t1,m0,m1,m2,m3,m4,m5,m6,m7,m8,m9⟩ (fun hHeld=>?_);refine wpAnyH_take (i:=0) (oi:=⟨_,_,_,_,_,_⟩) (v:=.agg #[.slice (some ⟨tg,0,none⟩) T.length cap,.slice ya yn yc]) rfl (by kernel_rfl) (by kernel_rfl) (by kernel_rfl) (fun _ _ _ h=>h) (Or.inl ⟨by rfl,?_⟩) hHeld ?_
      ·intro w' hSw
       try dsimp only at hSw
       go_simp
      try simp only[QX]
      refine wpAnyH_take (i:=1) (oi:=⟨_,_,_,_,_,_⟩) (v:=.agg #[.int .i64 cl,.int .i64 nm,.slice pa pl pc,.int .i64 r1,.int .i64 r2,.int .i64 lo,.int .i64 st,.slice ca cn cc,.slice ha hl hc,.slice ma ml mc]) rfl (by kernel_rfl) (by kernel_rfl) (by kernel_rfl) (fun _ _ _ h=>h) (Or.inl ⟨by rfl,?_⟩) hHeld ?_
      ·intro w' hSw
       try dsimp only at hSw
       go_simp
      try simp only[QX]
      refine wpAnyH_ready (rs:=[2]) (by kernel_rfl) (by simp) ?_;refine AllReadyH.cons (o:=⟨_,_,_,_,_,_⟩) rfl (fun K hK=>?_) AllReadyH.nil
      go_simp
      refine(Aa HHM _ hX1.drew).mono ?_;rintro e w7 ⟨rfl,hb7⟩
      try dsimp only
      clear hHeld;refine hK.out _ _ ⟨QC hb7 lF f0,QC hb7 lF f1,QC hb7 lT t0,QC hb7 lT t1,QC hb7 lM m0,QC hb7 lM m1,QC hb7 lM m2,QC hb7 lM m3,QC hb7 lM m4,QC hb7 lM m5,QC hb7 lM m6,QC hb7 lM m7,QC hb7 lM m8,QC hb7 lM m9⟩ (fun hHeld=>?_);clear hK K
      try simp only[QX]
      refine wpAnyH_take (i:=3) (oi:=⟨_,_,_,_,_,_⟩) (v:=.bool false) rfl (by kernel_rfl) (by kernel_rfl) (by kernel_rfl) (fun _ _ _ h=>h) (Or.inl ⟨by rfl,?_⟩) hHeld ?_
      ·intro w' hSw
       try dsimp only at hSw
       go_simp
      try simp only[QX]
      refine wpAnyH_take (i:=4) (oi:=⟨_,_,_,_,_,_⟩) (v:=.bool false) rfl (by kernel_rfl) (by kernel_rfl) (by kernel_rfl) (fun _ _ _ h=>h) (Or.inl ⟨by rfl,?_⟩) hHeld ?_
      ·intro w' hSw
       try dsimp only at hSw
       go_simp
      try simp only[QX]
      refine wpAnyH_take (i:=5) (oi:=⟨_,_,_,_,_,_⟩) (v:=.pointer (some ⟨w.heap.size,1,none⟩)) rfl (by kernel_rfl) (by kernel_rfl) (by kernel_rfl) (fun _ _ _ h=>h) (Or.inl ⟨by rfl,?_⟩) hHeld ?_
      ·intro w' hSw
       try dsimp only at hSw
       go_simp
      try simp only[QX]
      refine wpAnyH_take (i:=6) (oi:=⟨_,_,_,_,_,_⟩) (v:=.slice (some ⟨g,0,none⟩) lms.length fc2) rfl (by kernel_rfl) (by kernel_rfl) (by kernel_rfl) (fun _ _ _ h=>h) (Or.inl ⟨by rfl,?_⟩) hHeld ?_
      ·intro w' hSw
       try dsimp only at hSw
       go_simp
      try simp only[QX]
      refine wpAnyH_take (i:=7) (oi:=⟨_,_,_,_,_,_⟩) (v:=.int .i64 (k:Int)) rfl (by kernel_rfl) (by kernel_rfl) (by kernel_rfl) (fun _ _ _ h=>h) (Or.inl ⟨by rfl,?_⟩) hHeld ?_
      ·intro w' hSw
       try dsimp only at hSw
       go_simp
      try simp only[QX]
      refine wpAnyH_take (i:=8) (oi:=⟨_,_,_,_,_,_⟩) (v:=.slice (some ⟨g,0,none⟩) k fc2) rfl (by kernel_rfl) (by kernel_rfl) (by kernel_rfl) (fun _ _ _ h=>h) (Or.inl ⟨by rfl,?_⟩) hHeld ?_
      ·intro w' hSw
       try dsimp only at hSw
       go_simp
      try simp only[QX]
      refine wpAnyH_take (i:=9) (oi:=⟨_,_,_,_,_,_⟩) (v:=.agg #[.int .i64 cl,.int .i64 nm,.slice pa pl pc,.int .i64 r1,.int .i64 r2,.int .i64 lo,.int .i64 st,.slice ca cn cc,.slice ha hl hc,.slice ma ml mc]) rfl (by kernel_rfl) (by kernel_rfl) (by kernel_rfl) (fun _ _ _ h=>h) (Or.inl ⟨by rfl,?_⟩) hHeld ?_
      ·intro w' hSw
       try dsimp only at hSw
       go_simp
      try simp only[QX]
      refine wpAnyH_ready (rs:=[10]) (by kernel_rfl) (by simp) ?_;refine AllReadyH.cons (o:=⟨_,_,_,_,_,_⟩) rfl (fun K hK=>?_) AllReadyH.nil
      go_simp
      refine(Aa HTW _ (hX1.drew.trans (hb7.mono (Nat.le_of_lt lM)))).mono ?_;rintro e w8 ⟨rfl,hb8⟩
      try dsimp only
      clear hHeld;refine hK.out _ _ ⟨QC hb8 (QL hb7 lF) (QC hb7 lF f0),QC hb8 (QL hb7 lF) (QC hb7 lF f1),QC hb8 (QL hb7 lT) (QC hb7 lT t0),QC hb8 (QL hb7 lT) (QC hb7 lT t1),QC hb8 (QL hb7 lM) (QC hb7 lM m0),QC hb8 (QL hb7 lM) (QC hb7 lM m1),QC hb8 (QL hb7 lM) (QC hb7 lM m2),QC hb8 (QL hb7 lM) (QC hb7 lM m3),QC hb8 (QL hb7 lM) (QC hb7 lM m4),QC hb8 (QL hb7 lM) (QC hb7 lM m5),QC hb8 (QL hb7 lM) (QC hb7 lM m6),QC hb8 (QL hb7 lM) (QC hb7 lM m7),QC hb8 (QL hb7 lM) (QC hb7 lM m8),QC hb8 (QL hb7 lM) (QC hb7 lM m9)⟩ (fun hHeld=>?_);clear hK K
      try simp only[QX]
      refine wpAnyH_take (i:=11) (oi:=⟨_,_,_,_,_,_⟩) (v:=.bool false) rfl (by kernel_rfl) (by kernel_rfl) (by kernel_rfl) (fun _ _ _ h=>h) (Or.inl ⟨by rfl,?_⟩) hHeld ?_
      ·intro w' hSw
       try dsimp only at hSw
       go_simp
      try simp only[QX]
      refine wpAnyH_take (i:=12) (oi:=⟨_,_,_,_,_,_⟩) (v:=.bool false) rfl (by kernel_rfl) (by kernel_rfl) (by kernel_rfl) (fun _ _ _ h=>h) (Or.inl ⟨by rfl,?_⟩) hHeld ?_
      ·intro w' hSw
       try dsimp only at hSw
       go_simp
      try simp only[QX]
      refine wpAnyH_take (i:=13) (oi:=⟨_,_,_,_,_,_⟩) (v:=.agg #[.slice fa1 fl1 fc1,.slice (some ⟨g,0,none⟩) lms.length fc2]) rfl (by kernel_rfl) (by kernel_rfl) (by kernel_rfl) (fun _ _ _ h=>h) (Or.inl ⟨by rfl,?_⟩) hHeld ?_
      ·intro w' hSw
       try dsimp only at hSw
       go_simp
      try simp only[QX]
      refine wpAnyH_take (i:=14) (oi:=⟨_,_,_,_,_,_⟩) (v:=.agg #[.slice (some ⟨tg,0,none⟩) T.length cap,.slice ya yn yc]) rfl (by kernel_rfl) (by kernel_rfl) (by kernel_rfl) (fun _ _ _ h=>h) (Or.inl ⟨by rfl,?_⟩) hHeld ?_
      ·intro w' hSw
       try dsimp only at hSw
       go_simp
      try simp only[QX]
      refine wpAnyH_take (i:=15) (oi:=⟨_,_,_,_,_,_⟩) (v:=.agg #[.int .i64 cl,.int .i64 nm,.slice pa pl pc,.int .i64 r1,.int .i64 r2,.int .i64 lo,.int .i64 st,.slice ca cn cc,.slice ha hl hc,.slice ma ml mc]) rfl (by kernel_rfl) (by kernel_rfl) (by kernel_rfl) (fun _ _ _ h=>h) (Or.inl ⟨by rfl,?_⟩) hHeld ?_
      ·intro w' hSw
       try dsimp only at hSw
       go_simp
      try simp only[QX]
      refine wpAnyH_ready (rs:=[16]) (by kernel_rfl) (by simp) ?_;refine AllReadyH.cons (o:=⟨_,_,_,_,_,_⟩) rfl (fun K hK=>?_) AllReadyH.nil
      go_simp
      refine(Aa HBR _ ((hX1.drew.trans (hb7.mono (Nat.le_of_lt lM))).trans (hb8.mono (Nat.le_trans (Nat.le_of_lt lM) hb7.size)))).mono ?_;rintro e w9 ⟨rfl,hb9⟩
      try dsimp only
      clear hHeld;refine hK.out _ _ ⟨QC hb9 (QL hb8 (QL hb7 lF)) (QC hb8 (QL hb7 lF) (QC hb7 lF f0)),QC hb9 (QL hb8 (QL hb7 lF)) (QC hb8 (QL hb7 lF) (QC hb7 lF f1)),QC hb9 (QL hb8 (QL hb7 lT)) (QC hb8 (QL hb7 lT) (QC hb7 lT t0)),QC hb9 (QL hb8 (QL hb7 lT)) (QC hb8 (QL hb7 lT) (QC hb7 lT t1)),QC hb9 (QL hb8 (QL hb7 lM)) (QC hb8 (QL hb7 lM) (QC hb7 lM m0)),QC hb9 (QL hb8 (QL hb7 lM)) (QC hb8 (QL hb7 lM) (QC hb7 lM m1)),QC hb9 (QL hb8 (QL hb7 lM)) (QC hb8 (QL hb7 lM) (QC hb7 lM m2)),QC hb9 (QL hb8 (QL hb7 lM)) (QC hb8 (QL hb7 lM) (QC hb7 lM m3)),QC hb9 (QL hb8 (QL hb7 lM)) (QC hb8 (QL hb7 lM) (QC hb7 lM m4)),QC hb9 (QL hb8 (QL hb7 lM)) (QC hb8 (QL hb7 lM) (QC hb7 lM m5)),QC hb9 (QL hb8 (QL hb7 lM)) (QC hb8 (QL hb7 lM) (QC hb7 lM m6)),QC hb9 (QL hb8 (QL hb7 lM)) (QC hb8 (QL hb7 lM) (QC hb7 lM m7)),QC hb9 (QL hb8 (QL hb7 lM)) (QC hb8 (QL hb7 lM) (QC hb7 lM m8)),QC hb9 (QL hb8 (QL hb7 lM)) (QC hb8 (QL hb7 lM) (QC hb7 lM m9))⟩ (fun hHeld=>?_);clear hK K
      try simp only[QX]
      refine wpAnyH_take (i:=17) (oi:=⟨_,_,_,_,_,_⟩) (v:=.bool true) rfl (by kernel_rfl) (by kernel_rfl) (by kernel_rfl) (fun _ _ _ h=>h) (Or.inl ⟨by rfl,?_⟩) hHeld ?_
      ·intro w' hSw
       try dsimp only at hSw
       go_simp
      try simp only[QX]
      refine wpAnyH_done (by kernel_rfl) ?_ _;have hX:=(((hX1.drew).trans (hb7.mono (Nat.le_of_lt lM))).trans (hb8.mono (Nat.le_trans (Nat.le_of_lt lM) hb7.size))).trans (hb9.mono (Nat.le_trans (Nat.le_trans (Nat.le_of_lt lM) hb7.size) hb8.size));have hBn:=hB.trans (hX.mono hBs);have CFn:=stay hX CF;have CTn:=stay hX CT;have CRn:=stay hX CR;clear hHeld f0 f1 t0 t1 m0 m1 m2 m3 m4 m5 m6 m7 m8 m9;obtain⟨z0,z1,z2⟩:=cl3 CRn;obtain⟨q0,q1,q2⟩:=fr3 CRn;have lR:=lt_of_block CRn;simp at z0 z1 z2;go_wp2_with fail
      refine bodyPost_ret (v:=.agg #[.int .i64 4,.int .i64 (k:Int),.int .i64 0]) (by simp[results,Tryz.results106,go_sem,z0,z1,z2]) rfl ?_;rw[Aa HE,Aj1 (by omega)];exact⟨rfl,((hBn.setCell (by simp;omega) _).setCell (by simp;omega) _).setCell (by simp;omega) _⟩
     | false =>
      have HG:Hid (Ag7 T (lms.map Prod.fst) (k+1) ((lms.map Prod.fst).drop (k+1))=q):=by unfold Hid;rw[← hr];simp
      clear hr;go_wp2;refine wp_region_held_drew (S:=(fun w'=>w'.cell? ⟨w.heap.size,0,none⟩=some (.slice fa1 fl1 fc1)∧w'.cell? ⟨w.heap.size,1,none⟩=some (.slice (some ⟨g,0,none⟩) lms.length fc2)∧w'.cell? ⟨w.heap.size+1,0,none⟩=some (.slice (some ⟨tg,0,none⟩) T.length cap)∧w'.cell? ⟨w.heap.size+1,1,none⟩=some (.slice ya yn yc)∧w'.cell? ⟨wr.heap.size,0,none⟩=some (.int .i64 cl)∧w'.cell? ⟨wr.heap.size,1,none⟩=some (.int .i64 nm)∧w'.cell? ⟨wr.heap.size,2,none⟩=some (.slice pa pl pc)∧w'.cell? ⟨wr.heap.size,3,none⟩=some (.int .i64 r1)∧w'.cell? ⟨wr.heap.size,4,none⟩=some (.int .i64 r2)∧w'.cell? ⟨wr.heap.size,5,none⟩=some (.int .i64 lo)∧w'.cell? ⟨wr.heap.size,6,none⟩=some (.int .i64 st)∧w'.cell? ⟨wr.heap.size,7,none⟩=some (.slice ca cn cc)∧w'.cell? ⟨wr.heap.size,8,none⟩=some (.slice ha hl hc)∧w'.cell? ⟨wr.heap.size,9,none⟩=some (.slice ma ml mc))) (by kernel_rfl) ⟨f0,f1,t0,t1,m0,m1,m2,m3,m4,m5,m6,m7,m8,m9⟩ (fun hHeld=>?_);refine wpAnyH_take (i:=0) (oi:=⟨_,_,_,_,_,_⟩) (v:=.agg #[.slice (some ⟨tg,0,none⟩) T.length cap,.slice ya yn yc]) rfl (by kernel_rfl) (by kernel_rfl) (by kernel_rfl) (fun _ _ _ h=>h) (Or.inl ⟨by rfl,?_⟩) hHeld ?_
      ·intro w' hSw
       try dsimp only at hSw
       go_simp
      try simp only[QX]
      refine wpAnyH_take (i:=1) (oi:=⟨_,_,_,_,_,_⟩) (v:=.agg #[.int .i64 cl,.int .i64 nm,.slice pa pl pc,.int .i64 r1,.int .i64 r2,.int .i64 lo,.int .i64 st,.slice ca cn cc,.slice ha hl hc,.slice ma ml mc]) rfl (by kernel_rfl) (by kernel_rfl) (by kernel_rfl) (fun _ _ _ h=>h) (Or.inl ⟨by rfl,?_⟩) hHeld ?_
      ·intro w' hSw
       try dsimp only at hSw
       go_simp
      try simp only[QX]
      refine wpAnyH_ready (rs:=[2]) (by kernel_rfl) (by simp) ?_;refine AllReadyH.cons (o:=⟨_,_,_,_,_,_⟩) rfl (fun K hK=>?_) AllReadyH.nil
      go_simp
      refine(Aa HHM _ hX1.drew).mono ?_;rintro e w7 ⟨rfl,hb7⟩
      try dsimp only
      clear hHeld;refine hK.out _ _ ⟨QC hb7 lF f0,QC hb7 lF f1,QC hb7 lT t0,QC hb7 lT t1,QC hb7 lM m0,QC hb7 lM m1,QC hb7 lM m2,QC hb7 lM m3,QC hb7 lM m4,QC hb7 lM m5,QC hb7 lM m6,QC hb7 lM m7,QC hb7 lM m8,QC hb7 lM m9⟩ (fun hHeld=>?_);clear hK K
      try simp only[QX]
      refine wpAnyH_take (i:=3) (oi:=⟨_,_,_,_,_,_⟩) (v:=.bool false) rfl (by kernel_rfl) (by kernel_rfl) (by kernel_rfl) (fun _ _ _ h=>h) (Or.inl ⟨by rfl,?_⟩) hHeld ?_
      ·intro w' hSw
       try dsimp only at hSw
       go_simp
      try simp only[QX]
      refine wpAnyH_take (i:=4) (oi:=⟨_,_,_,_,_,_⟩) (v:=.bool false) rfl (by kernel_rfl) (by kernel_rfl) (by kernel_rfl) (fun _ _ _ h=>h) (Or.inl ⟨by rfl,?_⟩) hHeld ?_
      ·intro w' hSw
       try dsimp only at hSw
       go_simp
      try simp only[QX]
      refine wpAnyH_take (i:=5) (oi:=⟨_,_,_,_,_,_⟩) (v:=.pointer (some ⟨w.heap.size,1,none⟩)) rfl (by kernel_rfl) (by kernel_rfl) (by kernel_rfl) (fun _ _ _ h=>h) (Or.inl ⟨by rfl,?_⟩) hHeld ?_
      ·intro w' hSw
       try dsimp only at hSw
       go_simp
      try simp only[QX]
      refine wpAnyH_take (i:=6) (oi:=⟨_,_,_,_,_,_⟩) (v:=.slice (some ⟨g,0,none⟩) lms.length fc2) rfl (by kernel_rfl) (by kernel_rfl) (by kernel_rfl) (fun _ _ _ h=>h) (Or.inl ⟨by rfl,?_⟩) hHeld ?_
      ·intro w' hSw
       try dsimp only at hSw
       go_simp
      try simp only[QX]
      refine wpAnyH_take (i:=7) (oi:=⟨_,_,_,_,_,_⟩) (v:=.int .i64 (k:Int)) rfl (by kernel_rfl) (by kernel_rfl) (by kernel_rfl) (fun _ _ _ h=>h) (Or.inl ⟨by rfl,?_⟩) hHeld ?_
      ·intro w' hSw
       try dsimp only at hSw
       go_simp
      try simp only[QX]
      refine wpAnyH_take (i:=8) (oi:=⟨_,_,_,_,_,_⟩) (v:=.slice (some ⟨g,0,none⟩) k fc2) rfl (by kernel_rfl) (by kernel_rfl) (by kernel_rfl) (fun _ _ _ h=>h) (Or.inl ⟨by rfl,?_⟩) hHeld ?_
      ·intro w' hSw
       try dsimp only at hSw
       go_simp
      try simp only[QX]
      refine wpAnyH_take (i:=9) (oi:=⟨_,_,_,_,_,_⟩) (v:=.agg #[.int .i64 cl,.int .i64 nm,.slice pa pl pc,.int .i64 r1,.int .i64 r2,.int .i64 lo,.int .i64 st,.slice ca cn cc,.slice ha hl hc,.slice ma ml mc]) rfl (by kernel_rfl) (by kernel_rfl) (by kernel_rfl) (fun _ _ _ h=>h) (Or.inl ⟨by rfl,?_⟩) hHeld ?_
      ·intro w' hSw
       try dsimp only at hSw
       go_simp
      try simp only[QX]
      refine wpAnyH_ready (rs:=[10]) (by kernel_rfl) (by simp) ?_;refine AllReadyH.cons (o:=⟨_,_,_,_,_,_⟩) rfl (fun K hK=>?_) AllReadyH.nil
      go_simp
      refine(Aa HTW _ (hX1.drew.trans (hb7.mono (Nat.le_of_lt lM)))).mono ?_;rintro e w8 ⟨rfl,hb8⟩
      try dsimp only
      clear hHeld;refine hK.out _ _ ⟨QC hb8 (QL hb7 lF) (QC hb7 lF f0),QC hb8 (QL hb7 lF) (QC hb7 lF f1),QC hb8 (QL hb7 lT) (QC hb7 lT t0),QC hb8 (QL hb7 lT) (QC hb7 lT t1),QC hb8 (QL hb7 lM) (QC hb7 lM m0),QC hb8 (QL hb7 lM) (QC hb7 lM m1),QC hb8 (QL hb7 lM) (QC hb7 lM m2),QC hb8 (QL hb7 lM) (QC hb7 lM m3),QC hb8 (QL hb7 lM) (QC hb7 lM m4),QC hb8 (QL hb7 lM) (QC hb7 lM m5),QC hb8 (QL hb7 lM) (QC hb7 lM m6),QC hb8 (QL hb7 lM) (QC hb7 lM m7),QC hb8 (QL hb7 lM) (QC hb7 lM m8),QC hb8 (QL hb7 lM) (QC hb7 lM m9)⟩ (fun hHeld=>?_);clear hK K
      try simp only[QX]
      refine wpAnyH_take (i:=11) (oi:=⟨_,_,_,_,_,_⟩) (v:=.bool false) rfl (by kernel_rfl) (by kernel_rfl) (by kernel_rfl) (fun _ _ _ h=>h) (Or.inl ⟨by rfl,?_⟩) hHeld ?_
      ·intro w' hSw
       try dsimp only at hSw
       go_simp
      try simp only[QX]
      refine wpAnyH_take (i:=12) (oi:=⟨_,_,_,_,_,_⟩) (v:=.bool false) rfl (by kernel_rfl) (by kernel_rfl) (by kernel_rfl) (fun _ _ _ h=>h) (Or.inl ⟨by rfl,?_⟩) hHeld ?_
      ·intro w' hSw
       try dsimp only at hSw
       go_simp
      try simp only[QX]
      refine wpAnyH_take (i:=13) (oi:=⟨_,_,_,_,_,_⟩) (v:=.agg #[.slice fa1 fl1 fc1,.slice (some ⟨g,0,none⟩) lms.length fc2]) rfl (by kernel_rfl) (by kernel_rfl) (by kernel_rfl) (fun _ _ _ h=>h) (Or.inl ⟨by rfl,?_⟩) hHeld ?_
      ·intro w' hSw
       try dsimp only at hSw
       go_simp
      try simp only[QX]
      refine wpAnyH_take (i:=14) (oi:=⟨_,_,_,_,_,_⟩) (v:=.agg #[.slice (some ⟨tg,0,none⟩) T.length cap,.slice ya yn yc]) rfl (by kernel_rfl) (by kernel_rfl) (by kernel_rfl) (fun _ _ _ h=>h) (Or.inl ⟨by rfl,?_⟩) hHeld ?_
      ·intro w' hSw
       try dsimp only at hSw
       go_simp
      try simp only[QX]
      refine wpAnyH_take (i:=15) (oi:=⟨_,_,_,_,_,_⟩) (v:=.agg #[.int .i64 cl,.int .i64 nm,.slice pa pl pc,.int .i64 r1,.int .i64 r2,.int .i64 lo,.int .i64 st,.slice ca cn cc,.slice ha hl hc,.slice ma ml mc]) rfl (by kernel_rfl) (by kernel_rfl) (by kernel_rfl) (fun _ _ _ h=>h) (Or.inl ⟨by rfl,?_⟩) hHeld ?_
      ·intro w' hSw
       try dsimp only at hSw
       go_simp
      try simp only[QX]
      refine wpAnyH_ready (rs:=[16]) (by kernel_rfl) (by simp) ?_;refine AllReadyH.cons (o:=⟨_,_,_,_,_,_⟩) rfl (fun K hK=>?_) AllReadyH.nil
      go_simp
      refine(Aa HBR _ ((hX1.drew.trans (hb7.mono (Nat.le_of_lt lM))).trans (hb8.mono (Nat.le_trans (Nat.le_of_lt lM) hb7.size)))).mono ?_;rintro e w9 ⟨rfl,hb9⟩
      try dsimp only
      clear hHeld;refine hK.out _ _ ⟨QC hb9 (QL hb8 (QL hb7 lF)) (QC hb8 (QL hb7 lF) (QC hb7 lF f0)),QC hb9 (QL hb8 (QL hb7 lF)) (QC hb8 (QL hb7 lF) (QC hb7 lF f1)),QC hb9 (QL hb8 (QL hb7 lT)) (QC hb8 (QL hb7 lT) (QC hb7 lT t0)),QC hb9 (QL hb8 (QL hb7 lT)) (QC hb8 (QL hb7 lT) (QC hb7 lT t1)),QC hb9 (QL hb8 (QL hb7 lM)) (QC hb8 (QL hb7 lM) (QC hb7 lM m0)),QC hb9 (QL hb8 (QL hb7 lM)) (QC hb8 (QL hb7 lM) (QC hb7 lM m1)),QC hb9 (QL hb8 (QL hb7 lM)) (QC hb8 (QL hb7 lM) (QC hb7 lM m2)),QC hb9 (QL hb8 (QL hb7 lM)) (QC hb8 (QL hb7 lM) (QC hb7 lM m3)),QC hb9 (QL hb8 (QL hb7 lM)) (QC hb8 (QL hb7 lM) (QC hb7 lM m4)),QC hb9 (QL hb8 (QL hb7 lM)) (QC hb8 (QL hb7 lM) (QC hb7 lM m5)),QC hb9 (QL hb8 (QL hb7 lM)) (QC hb8 (QL hb7 lM) (QC hb7 lM m6)),QC hb9 (QL hb8 (QL hb7 lM)) (QC hb8 (QL hb7 lM) (QC hb7 lM m7)),QC hb9 (QL hb8 (QL hb7 lM)) (QC hb8 (QL hb7 lM) (QC hb7 lM m8)),QC hb9 (QL hb8 (QL hb7 lM)) (QC hb8 (QL hb7 lM) (QC hb7 lM m9))⟩ (fun hHeld=>?_);clear hK K
      try simp only[QX]
      refine wpAnyH_take (i:=17) (oi:=⟨_,_,_,_,_,_⟩) (v:=.bool false) rfl (by kernel_rfl) (by kernel_rfl) (by kernel_rfl) (fun _ _ _ h=>h) (Or.inl ⟨by rfl,?_⟩) hHeld ?_
      ·intro w' hSw
       try dsimp only at hSw
       go_simp
      try simp only[QX]
      refine wpAnyH_done (by kernel_rfl) ?_ _;have hX:=(((hX1.drew).trans (hb7.mono (Nat.le_of_lt lM))).trans (hb8.mono (Nat.le_trans (Nat.le_of_lt lM) hb7.size))).trans (hb9.mono (Nat.le_trans (Nat.le_trans (Nat.le_of_lt lM) hb7.size) hb8.size));have hBn:=hB.trans (hX.mono hBs);have CFn:=stay hX CF;have CTn:=stay hX CT;have CRn:=stay hX CR;clear hHeld f0 f1 t0 t1 m0 m1 m2 m3 m4 m5 m6 m7 m8 m9;go_wp2
      go_roundw
      case rel=>exact⟨k+1,by omega,by go_num,HG,hBn,CFn,CTn,CRn⟩
      case measure=>simp[intOf];omega
  ·have HE:Hid (q = -1):=by unfold Hid;rw[← Aa HQ,List.drop_eq_nil_of_le (by simp;omega)];rfl
   have kb:¬ (k:Int)<(lms.length:Int):=by omega
   clear HQ;obtain⟨z0,z1,z2⟩:=cl3 CR;obtain⟨q0,q1,q2⟩:=fr3 CR;simp at z0 z1 z2;go_wp2_with fail
   refine bodyPost_ret (v:=.agg #[.int .i64 0,.int .i64 0,.int .i64 0]) (by simp[results,Tryz.results106,go_sem,z0,z1,z2]) rfl ?_;rw[Aa HE];exact⟨rfl,((hB.setCell (by simp;omega) _).setCell (by simp;omega) _).setCell (by simp;omega) _⟩
variable {ya:Option Addr}{yn yc:Nat}
theorem Sg (fa1 fa2:Option Addr) (fc1 fc2:Nat) (lcs:List (Rd.Cls × Value)) (lms:List (Rd.Mth × MthV)) (T:List Int) (tg cap bm:Nat) (w:World) (hT:T.length≤1000) (hTr:TreeIn w tg T)
  (hm6:lms.length≤6) (hc6:lcs.length≤6) (hcf:∀ p∈lcs,p.1.fields.length≤1000) (hcs:ClssIn w bm (.slice fa1 lcs.length fc1) lcs) (hms:MthsIn w bm (.slice fa2 lms.length fc2) lms) (hbd:∀ p∈lms,Aji p.1) :
  Calls Tryz.prog 107 #[.agg #[.slice fa1 lcs.length fc1,.slice fa2 lms.length fc2],.agg #[.slice (some ⟨tg,0,none⟩) T.length cap,.slice ya yn yc]] w fun e w' =>
   e=.returned (.agg #[.int .i64 (Agh T (Cd.fieldSum (lcs.map Prod.fst):Int) (lms.map fun p=>p.1.cl) 0 (lms.map Prod.fst)).1,.int .i64 (Agh T (Cd.fieldSum (lcs.map Prod.fst):Int) (lms.map fun p=>p.1.cl) 0 (lms.map Prod.fst)).2.1,
    .int .i64 (Agh T (Cd.fieldSum (lcs.map Prod.fst):Int) (lms.map fun p=>p.1.cl) 0 (lms.map Prod.fst)).2.2])∧Below w.heap.size w w':=by
 have hIB:=fun cl nm pa pl pc r1 r2 st ca ha ma cc hc mc (m:Rd.Mth) lmp w' (h:Below w.heap.size w w') h1 h2 h3 h4 h5 =>
  Wg fa1 fa2 fc1 fc2 tg cap ya yn yc cl nm pa pl pc r1 r2 st ca ha ma cc hc mc T bm lcs lms m lmp w' hT (hTr.below h) hm6 hc6 hcf (hcs.kp (Kp.of_below (e:=none) h) (by decide) (by decide)) (hms.kp (Kp.of_below (e:=none) h) (by decide) (by decide) (by decide) (by decide) (by decide)) h1 h2 h3 h4 h5
 generalize (Cd.fieldSum (lcs.map Prod.fst):Int)=nf at *;generalize (lms.map fun p=>p.1.cl)=ow at *;generalize hq:Agh T nf ow 0 (lms.map Prod.fst)=q;obtain⟨R1,R2,R3⟩:=q;have HQ:Hid (Agh T nf ow 0 ((lms.map Prod.fst).drop 0)=(R1,R2,R3)):=hq;have HIB:=Ac hIB;clear hq hIB;have hB0:=Cb w (O1 fa1 lcs.length fc1 fa2 lms.length fc2) (O2 (some ⟨tg,0,none⟩) T.length cap ya yn yc) (O8 0 0 0);have C0:=J8 w (O1 fa1 lcs.length fc1 fa2 lms.length fc2) (O2 (some ⟨tg,0,none⟩) T.length cap ya yn yc) (O8 0 0 0);go_enter Tryz.func107,Tryz.ntmps107;go_wp2
 go_loopw [11] (fun v wr=>∃ k:Nat,k≤lms.length∧v=.int .i64 (k:Int)∧Hid (Agh T nf ow k ((lms.map Prod.fst).drop k)=(R1,R2,R3))∧Below w.heap.size w wr∧wr.heap[w.heap.size]?=some (O1 fa1 lcs.length fc1 fa2 lms.length fc2) ∧
   wr.heap[w.heap.size+1]?=some (O2 (some ⟨tg,0,none⟩) T.length cap ya yn yc)∧wr.heap[w.heap.size+1+1]?=some (O8 0 0 0))
  (fun v _=>lms.length-(intOf v).toNat)
 case atStart=>exact⟨0,by omega,rfl,HQ,hB0,C0.1,C0.2.1,C0.2.2⟩
 case round =>
  clear HQ hB0 C0;obtain⟨k,hk,rfl,HQ,hB,CF,CT,CR⟩:=hrel;have hBs:=hB.size;by_cases hkn:k<lms.length
  ·have hmr:MthsIn wr bm (.slice fa2 lms.length fc2) lms:=hms.kp (Kp.of_below (e:=none) hB) (by decide) (by decide) (by decide) (by decide) (by decide);obtain⟨o,g,hg,hglt,hrow,his⟩:=hmr.mth hkn;replace hrow:=Fq hrow;have hmb:=hbd _ (List.getElem_mem hkn);have hd:(lms.map Prod.fst).drop k=lms[k].1::(lms.map Prod.fst).drop (k+1):=by
    rw[List.drop_eq_getElem_cons (by simpa using hkn)]
    simp
   have hr:=Aa HQ;rw[hd,Agh]at hr;clear hd;generalize lms[k].1=y at *;obtain⟨-,-,-,-,e5,-,-,-,e8,hco,e9,hhs,e10,lm,hlm,hmp⟩:=his;have e10':o.ml=lm.length:=by rw[e10,← hlm];simp
   obtain⟨cl,nm,pa,pl,pc,r1,r2,lo,st,ca,cn,cc,ha,hl,hc,ma,ml,mc⟩:=o;simp only at hrow e5 e8 e9 e10' hco hhs hmp;subst e5 e8 e9 e10';obtain⟨y0,y1,y2,y3,y4,y5,y6,y7,y8,y9⟩:=hrow;have hX1:Below wr.heap.size wr (wr.alloc (O12 cl nm pa pl pc r1 r2 y.locals st ca y.code.length cc ha y.handlers.length hc ma lm.length mc)):=QN _;have hc1:=Aa HIB cl nm pa pl pc r1 r2 st ca ha ma cc hc mc y lm _ (hB.trans (hX1.mono hBs)) hmb hlm (hco.kp (Kp.of_below (e:=none) hX1) (by decide)) (hhs.kp (Kp.of_below (e:=none) hX1) (by decide)) (hmp.kp (Kp.of_below (e:=none) hX1) (by decide) (by decide));simp only[PBd.val]at hc1;generalize hb:Ah0 T nf ow y=b at *;obtain⟨b1,b2⟩:=b;simp only at hc1 hr;have HC:=Ac hc1;clear hc1 hb hmr hmb e10 hlm hco hhs hmp HQ;subst hg;obtain⟨x0,x1⟩:=cl2 CF;obtain⟨t0,t1⟩:=cl2 CT;simp at x0 x1 t0 t1;have lF:=lt_of_block CF;have lT:=lt_of_block CT;have kb:(k:Int)<(lms.length:Int):=by omega
   by_cases h0:b1=0
   ·subst h0;have HG:Hid (Agh T nf ow (k+1) ((lms.map Prod.fst).drop (k+1))=(R1,R2,R3)):=by unfold Hid;rw[← hr];simp
    clear hr;go_wp2_with fail
    refine(Aa HC).mono ?_;rintro e w2 ⟨rfl,hb2⟩;have hX2:=(QB hX1 hb2).alloc (Nat.le_trans hX1.size hb2.size) (O8 0 0 b2);have hB2:=hB.trans (hX2.mono hBs);have CF2:=stay hX2 CF;have CT2:=stay hX2 CT;have CR2:=stay hX2 CR;clear hb2 hX1 hX2 y0 y1 y2 y3 y4 y5 y6 y7 y8 y9 x0 x1 t0 t1 lF lT CF CT CR hB;go_wp2
    go_roundw
    case rel=>exact⟨k+1,by omega,by go_num,HG,hB2,CF2,CT2,CR2⟩
    case measure=>simp[intOf];omega
   ·rw[if_pos h0]at hr;have HE:=Ac hr;have h0':(b1 != 0)=true:=by simpa using h0
    clear hr h0;go_wp2_with fail
    refine(Aa HC).mono ?_;rintro e w2 ⟨rfl,hb2⟩;have hX2:=QB hX1 hb2;have hB2:=hB.trans (hX2.mono hBs);have CR2:=stay hX2 CR;have lR:=lt_of_block CR2;have hB2s:=hB2.size;have hw2:=hX2.size;obtain⟨z0,z1,z2⟩:=cl3 CR2;obtain⟨q0,q1,q2⟩:=fr3 CR2;simp at z0 z1 z2;clear hb2 hX1 hX2 y0 y1 y2 y3 y4 y5 y6 y7 y8 y9 x0 x1 t0 t1 lF lT CF CT CR hB;go_wp2_with fail
    refine bodyPost_ret (v:=.agg #[.int .i64 b1,.int .i64 (k:Int),.int .i64 b2]) (by simp[results,Tryz.results107,go_sem,z0,z1,z2,lR]) rfl ?_;have e:=Aa HE;simp only[Prod.mk.injEq]at e;obtain⟨rfl,rfl,rfl⟩:=e;exact⟨rfl,(((hB2.setCell (by simp;omega) _).setCell (by simp;omega) _).setCell (by simp;omega) _).alloc (by simp;omega) _⟩
  ·have HE:Hid ((R1,R2,R3)=((0:Int),(0:Int),(0:Int))):=by unfold Hid;rw[← Aa HQ,List.drop_eq_nil_of_le (by simp;omega)];rfl
   have kb:¬ (k:Int)<(lms.length:Int):=by omega
   clear HQ;obtain⟨z0,z1,z2⟩:=cl3 CR;obtain⟨q0,q1,q2⟩:=fr3 CR;simp at z0 z1 z2;go_wp2_with fail
   refine bodyPost_ret (v:=.agg #[.int .i64 0,.int .i64 0,.int .i64 0]) (by simp[results,Tryz.results107,go_sem,z0,z1,z2]) rfl ?_;have e:=Aa HE;simp only[Prod.mk.injEq]at e;obtain⟨rfl,rfl,rfl⟩:=e;exact⟨rfl,((hB.setCell (by simp;omega) _).setCell (by simp;omega) _).setCell (by simp;omega) _⟩
end Go.Proofs.YtpcgnjolfahacaaGreat
