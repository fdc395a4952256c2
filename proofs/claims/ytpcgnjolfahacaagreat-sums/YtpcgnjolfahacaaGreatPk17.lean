/- a part of the proofs -/
import Derived.Test.YtpcgnjolfahacaaGreatPk16
set_option maxRecDepth 100000
set_option maxHeartbeats 40000000
set_option linter.unusedVariables false
set_option linter.unusedSimpArgs false
namespace Go.Proofs.YtpcgnjolfahacaaGreat
open Go.RowKit
theorem TyR.wg {n:Nat}{w w':World}{v:Value}{l:List (Int × Int)} (h:TyR w v l) (hg:WG n w w'):TyR w' v l:=by
 rcases h with h|⟨g,o,c,cur,hv,hb,h1,h2,h3⟩
 ·exact .inl h
 ·have hb':=hg.kp g cur _ hb (by decide) (by decide);refine .inr ⟨g,o,c,cur,hv,hb',h1,h2,fun j x hx=>?_⟩;rw[Ab hb',← Ab hb];exact h3 j x hx
theorem MpsR.wg {n b:Nat}{v:Value}{l:List (Rd.Mp × Value × Value)}{w w':World} (h:MpsR w b v l) (hg:WG n w w'):MpsR w' b v l :=
 ⟨Ci h.1 hg (by decide) (by decide),fun p hp=>⟨(h.2 p hp).1.wg hg,(h.2 p hp).2.wg hg⟩⟩
theorem Lo (n B:Nat) (l:List UInt8) (ts:List (Int × Int)) (a:Option Addr) (m c:Nat) (w:World) (hl:l.length+2*ts.length≤100000) (hW:WrAt w n B l) (hT:TyR w (.slice a m c) ts) :
  Calls Tryz.prog 72 #[.pointer (some ⟨B,0,none⟩),.slice a m c] w fun e w'=>e=.returned (.tuple #[])∧WrAt w' n B (l++Afz ts)∧WG n w w':=by
 obtain⟨hn1,-,-⟩:=hT.cap;subst hn1;go_enter Tryz.func72,Tryz.ntmps72;go_wp2
 go_loopw [8] (fun v wr=>∃ k:Nat,k≤ts.length∧v=.int .i64 (k:Int)∧WrAt wr n B (l++Afz (ts.take k))∧WG n w wr)
  (fun v _=>ts.length-(intOf v).toNat)
 case atStart=>exact⟨0,by omega,rfl,by simpa[Afz] using hW,WG.refl n w⟩
 case round =>
  obtain⟨k,hk,rfl,hWr,hG⟩:=hrel;have hlt:=hWr.lt;by_cases hkn:k<ts.length
  ·obtain⟨g,o,hg,hglt,hat⟩:=(hT.wg hG).at (by omega);obtain⟨x0,x1⟩:=hat k hkn;have hd:ts.take (k+1)=ts.take k++[ts[k]]:=by rw[List.take_succ_eq_append_getElem hkn]
   have hTL:(ts.take k).length=k:=by simp;omega
   generalize ts[k]=t at *;obtain⟨t1,t2⟩:=t;simp only at x0 x1;have hTy:=Ahm (ts.take k);rw[hTL]at hTy;have HD:Hid (l++Afz (ts.take (k+1))=l++Afz (ts.take k)++Ahc (t1,t2)):=by unfold Hid;rw[hd];simp[Afz]
   have hLL:(l++Afz (ts.take k)).length+2≤100000:=by rw[List.length_append,hTy];omega
   generalize l++Afz (ts.take k)=L at *;have hW1:=hWr.alloc (O7 t1 t2);have hG1:=hG.alloc (by omega) (O7 t1 t2);clear hat hd hTL hTy;subst hg;go_wp2_with fail
   refine(Nt n B L t1 t2 _ hLL hW1).mono ?_;rintro e w2 ⟨rfl,hW2,hg2⟩;have hG2:=hG1.trans hg2;rw[← Aa HD]at hW2;clear x0 x1 hg2 hG1 hG hW1 hWr;go_wp2
   go_roundw
   case rel=>exact⟨k+1,by omega,by go_num,hW2,hG2⟩
   case measure=>simp[intOf];omega
  ·have e:ts.take k=ts:=List.take_of_length_le (by omega);rw[e]at hWr;go_wp2
   go_end0
   exact⟨rfl,hWr,hG⟩
theorem V0 (n B b:Nat) (l:List UInt8) (ms:List (Rd.Mp × Value × Value)) (a:Option Addr) (m c:Nat) (w:World) (hl:l.length+(Aie (ms.map Prod.fst)).length≤100000) (hW:WrAt w n B l) (hT:MpsR w b (.slice a m c) ms) :
  Calls Tryz.prog 116 #[.pointer (some ⟨B,0,none⟩),.slice a m c] w fun e w'=>e=.returned (.tuple #[])∧WrAt w' n B (l++Aie (ms.map Prod.fst))∧WG n w w':=by
 obtain⟨xa,xc,hsh⟩:=Ae hT.1;simp only[Value.slice.injEq]at hsh;obtain⟨rfl,hn1,rfl⟩:=hsh;subst hn1;unfold Aie at hl ⊢;rw[List.length_cons]at hl;rw[List.length_map];have hml:ms.length≤100000:=by
  have:∀ r:List (Rd.Mp × Value × Value),r.length≤((r.map Prod.fst).flatMap Ag0).length:=by
   intro r
   induction r with
   | nil=>simp
   | cons x r ih=>simp only[List.map_cons,List.flatMap_cons,List.length_append,List.length_cons,Ag0];omega
  have:=this ms;omega
 generalize hB0:Afe (ms.length:Int)=b0;have HB0:=Ac hB0;clear hB0;go_enter Tryz.func116,Tryz.ntmps116
 (go_wp2_with fail);refine(A8 n B l (ms.length:Int) _ (by omega) hW).mono ?_;rintro e w1 ⟨rfl,hW1,hg1⟩
 rw[Aa HB0]at hW1;go_wp2
 go_loopw [12] (fun v wr=>∃ k:Nat,k≤ms.length∧v=.int .i64 (k:Int)∧WrAt wr n B (l++[b0]++((ms.take k).map Prod.fst).flatMap Ag0)∧WG n w wr)
  (fun v _=>ms.length-(intOf v).toNat)
 case atStart=>exact⟨0,by omega,rfl,by simpa using hW1,hg1⟩
 case round =>
  clear hW1 hg1;obtain⟨k,hk,rfl,hWr,hG⟩:=hrel;have hlt:=hWr.lt;by_cases hkn:k<ms.length
  ·obtain⟨g,hg,hglt,hbg,hcell⟩:=Ao (Ci hT.1 hG (by decide) (by decide)) (by omega);have x0:=(hcell _ (Gq ms k hkn 0 (by omega)).2).trans (Gq ms k hkn 0 (by omega)).1;have x1:=(hcell _ (Gq ms k hkn 1 (by omega)).2).trans (Gq ms k hkn 1 (by omega)).1;have x2:=(hcell _ (Gq ms k hkn 2 (by omega)).2).trans (Gq ms k hkn 2 (by omega)).1;have hd:ms.take (k+1)=ms.take k++[ms[k]]:=by rw[List.take_succ_eq_append_getElem hkn]
   have hbd:=Akk ms k hkn;have hty:=hT.2 _ (List.getElem_mem hkn);generalize ms[k]=t at *;obtain⟨⟨t1,t2,t3⟩,u2,u3⟩:=t;simp at x0 x1 x2;simp only at hty;obtain⟨ty2,ty3⟩:=hty;obtain⟨a2,c2,rfl⟩:=ty2.shape;obtain⟨a3,c3,rfl⟩:=ty3.shape;simp only[Ag0,List.length_cons,List.length_append,Ahm]at hbd;have HD:Hid (l++[b0]++((ms.take (k+1)).map Prod.fst).flatMap Ag0=l++[b0]++((ms.take k).map Prod.fst).flatMap Ag0++[Afe t1]++Afz t2++[Afe (t3.length:Int)]++Afz t3):=by unfold Hid;rw[hd];simp[Ag0]
   have hLL:(l++[b0]++((ms.take k).map Prod.fst).flatMap Ag0).length+1+2*t2.length+1+2*t3.length≤100000:=by rw[List.length_append,List.length_append];simp only[List.length_cons,List.length_nil];omega
   generalize l++[b0]++((ms.take k).map Prod.fst).flatMap Ag0=L at *;have hW1:=hWr.alloc (O11 t1 a2 t2.length c2 a3 t3.length c3);have C1:=Ad wr (O11 t1 a2 t2.length c2 a3 t3.length c3);have hG1:=hG.alloc (by omega) (O11 t1 a2 t2.length c2 a3 t3.length c3);clear hcell hd hbg hbd;subst hg
   (go_wp2_with fail);refine(A8 n B L t1 _ (by omega) hW1).mono ?_;rintro e w2 ⟨rfl,hW2,hg2⟩
   have C2:=hg2.kp _ _ _ C1 (by decide) (by decide);have G2:=hG1.trans hg2;have y1:=Ab C2 1;have l2:=lt_of_block C2;simp at y1;go_wp2_with fail
   refine(Lo n B (L++[Afe t1]) t2 a2 t2.length c2 _ (by simp;omega) hW2 (ty2.wg G2)).mono ?_;rintro e w3 ⟨rfl,hW3,hg3⟩;have C3:=hg3.kp _ _ _ C2 (by decide) (by decide);have G3:=G2.trans hg3;have y2:=Ab C3 2;have l3:=lt_of_block C3;simp at y2
   (go_wp2_with fail);refine(A8 n B (L++[Afe t1]++Afz t2) (t3.length:Int) _ (by simp only[List.length_append,Ahm,List.length_cons,List.length_nil];omega) hW3).mono ?_;rintro e w4 ⟨rfl,hW4,hg4⟩
   have C4:=hg4.kp _ _ _ C3 (by decide) (by decide);have G4:=G3.trans hg4;have z2:=Ab C4 2;have l4:=lt_of_block C4;simp at z2;go_wp2_with fail
   refine(Lo n B (L++[Afe t1]++Afz t2++[Afe (t3.length:Int)]) t3 a3 t3.length c3 _ (by simp only[List.length_append,Ahm,List.length_cons,List.length_nil];omega) hW4 (ty3.wg G4)).mono ?_;rintro e w5 ⟨rfl,hW5,hg5⟩;have G5:=G4.trans hg5;rw[← Aa HD]at hW5;clear x0 x1 x2 y1 y2 z2 l2 l3 l4 C1 C2 C3 C4 hg2 hg3 hg4 hg5 hG1 hG hW1 hW2 hW3 hW4 hWr G2 G3 G4;go_wp2
   go_roundw
   case rel=>exact⟨k+1,by omega,by go_num,hW5,G5⟩
   case measure=>simp[intOf];omega
  ·have e:ms.take k=ms:=List.take_of_length_le (by omega);rw[e]at hWr;go_wp2
   go_end0
   exact⟨rfl,by simpa using hWr,hG⟩
structure PM.isR (m:PM) (x:Rd.Mth) (w:World) (bb:Nat):Prop where
 cl:m.cl=x.cl
 nm:m.nm=x.name
 r1:m.r1=x.result.1
 r2:m.r2=x.result.2
 lo:m.lo=x.locals
 st:m.st=x.stack
 pl:m.pl=x.params.length
 ps:TysAt w bb (.slice m.pa m.pl m.pc) x.params
 cn:m.cn=x.code.length
 code:IntsAt w bb (.slice m.ca m.cn m.cc) x.code
 hl:m.hl=x.handlers.length
 hs:HndsAt w bb (.slice m.ha m.hl m.hc) x.handlers
 ml:m.ml=x.maps.length
 mp:∃ l,l.map Prod.fst=x.maps∧MpsR w bb (.slice m.ma m.ml m.mc) l
theorem PM.isR.below {m:PM}{x:Rd.Mth}{w w':World}{bb:Nat} (h:m.isR x w bb) (hb:Below w.heap.size w w'):m.isR x w' bb:=by
 obtain⟨h1,h2,h3,h4,h5,h6,h7,h8,h9,h10,h11,h12,h13,l,hl,h14⟩:=h;have hk:=Kp.of_below (e:=none) (b:=bb) hb;exact⟨h1,h2,h3,h4,h5,h6,h7,h8.kp hk (by decide),h9,h10.kp hk (by decide),h11,h12.kp hk (by decide),h13,l,hl,h14.below hb⟩
theorem R9 (n B bb:Nat) (l:List UInt8) (m:PM) (x:Rd.Mth) (w:World) (hl:l.length+(Agl x).length≤100000) (hW:WrAt w n B l) (hm:m.isR x w bb) :
  Calls Tryz.prog 73 #[.pointer (some ⟨B,0,none⟩),m.val] w fun e w'=>e=.returned (.tuple #[])∧WrAt w' n B (l++Agl x)∧WG n w w':=by
 rw[Ake]at hl;generalize hR:l++Agl x=R;unfold Agl Ai8 at hR;obtain⟨e1,e2,e3,e4,e5,e6,e7,hps,e8,hco,e9,hhs,e10,lm,hlm,hmp⟩:=hm;have hres:x.result=(m.r1,m.r2):=by rw[e3,e4]
 rw[hres,← e1,← e2,← e5,← e6]at hR;rw[← hlm]at hR hl;generalize x.params=ps at *;generalize x.code=co at *;generalize x.handlers=hs at *;clear hres e1 e2 e3 e4 e5 e6 e10 hlm x;obtain⟨cl,nm,pa,pl,pc,r1,r2,lo,st,ca,cn,cc,ha,hl',hc,ma,ml,mc⟩:=m;simp only at hR hps hco hhs hmp e7 e8 e9;simp only[PM.val];subst e7 e8 e9;have HR:=Ac hR;clear hR;have hlt:=hW.lt;have tl:=Ahm ps;have tyl:(Ahc (r1,r2)).length=2:=rfl;have C0:=Ad w (O12 cl nm pa ps.length pc r1 r2 lo st ca co.length cc ha hs.length hc ma ml mc);have G0:=(WG.refl n w).alloc (by omega) (O12 cl nm pa ps.length pc r1 r2 lo st ca co.length cc ha hs.length hc ma ml mc);have hW0:=hW.alloc (O12 cl nm pa ps.length pc r1 r2 lo st ca co.length cc ha hs.length hc ma ml mc);go_enter Tryz.func73,Tryz.ntmps73
 (go_wp2_with fail);refine(A8 n B l cl _ (by omega) hW0).mono ?_;rintro e w1 ⟨rfl,hW1,hg1⟩
 have C1:=hg1.kp _ _ _ C0 (by decide) (by decide);have G1:=G0.trans hg1;have d1:=lt_of_block C1;have y1:=Ab C1 1;simp at y1;clear hW0 hW
 (go_wp2_with fail);refine(A8 n B (l++[Afe cl]) nm _ (by (simp;omega)) hW1).mono ?_;rintro e w2 ⟨rfl,hW2,hg2⟩
 have C2:=hg2.kp _ _ _ C1 (by decide) (by decide);have G2:=G1.trans hg2;have d2:=lt_of_block C2;have y2:=Ab C2 2;simp at y2;clear y1 hW1 d1
 (go_wp2_with fail);refine(A8 n B (l++[Afe cl]++[Afe nm]) (ps.length:Int) _ (by (simp;omega)) hW2).mono ?_;rintro e w3 ⟨rfl,hW3,hg3⟩
 have C3:=hg3.kp _ _ _ C2 (by decide) (by decide);have G3:=G2.trans hg3;have d3:=lt_of_block C3;have y3:=Ab C3 2;simp at y3;clear y2 hW2 d2;go_wp2_with fail
 refine(Nk n B bb (l++[Afe cl]++[Afe nm]++[Afe (ps.length:Int)]) ps pa ps.length pc _ (by (simp;omega)) hW3 (Ci hps G3 (by decide) (by decide))).mono ?_;rintro e w4 ⟨rfl,hW4,hg4⟩;have C4:=hg4.kp _ _ _ C3 (by decide) (by decide);have G4:=G3.trans hg4;have d4:=lt_of_block C4;have y4:=Ab C4 3;have y5:=Ab C4 4;simp at y4 y5;clear y3 hW3 d3 hps;go_wp2_with fail
 refine(Nt n B (l++[Afe cl]++[Afe nm]++[Afe (ps.length:Int)]++Afz ps) r1 r2 _ (by (simp;omega)) hW4).mono ?_;rintro e w5 ⟨rfl,hW5,hg5⟩;have C5:=hg5.kp _ _ _ C4 (by decide) (by decide);have G5:=G4.trans hg5;have d5:=lt_of_block C5;have y6:=Ab C5 5;simp at y6;clear y4 y5 hW4 d4
 (go_wp2_with fail);refine(A8 n B (l++[Afe cl]++[Afe nm]++[Afe (ps.length:Int)]++Afz ps++Ahc (r1,r2)) lo _ (by (simp;omega)) hW5).mono ?_;rintro e w6 ⟨rfl,hW6,hg6⟩
 have C6:=hg6.kp _ _ _ C5 (by decide) (by decide);have G6:=G5.trans hg6;have d6:=lt_of_block C6;have y7:=Ab C6 6;simp at y7;clear y6 hW5 d5
 (go_wp2_with fail);refine(A8 n B (l++[Afe cl]++[Afe nm]++[Afe (ps.length:Int)]++Afz ps++Ahc (r1,r2)++[Afe lo]) st _ (by (simp;omega)) hW6).mono ?_;rintro e w7 ⟨rfl,hW7,hg7⟩
 have C7:=hg7.kp _ _ _ C6 (by decide) (by decide);have G7:=G6.trans hg7;have d7:=lt_of_block C7;have y8:=Ab C7 7;simp at y8;clear y7 hW6 d6;have hco7:=Ci hco G7 (by decide) (by decide);have hcl:co.length≤100000:=by omega
 (go_wp2_with fail);refine(A8 n B (l++[Afe cl]++[Afe nm]++[Afe (ps.length:Int)]++Afz ps++Ahc (r1,r2)++[Afe lo]++[Afe st]) (co.length:Int) _ (by (simp;omega)) hW7).mono ?_;rintro e w8 ⟨rfl,hW8,hg8⟩
 have C8:=hg8.kp _ _ _ C7 (by decide) (by decide);have G8:=G7.trans hg8;have d8:=lt_of_block C8;have y9:=Ab C8 7;simp at y9;clear y8 hW7 d7 G0 G1 G2 G3 G4 G5 G6 G7 C0 C1 C2 C3 C4 C5 C6 C7 hg1 hg2 hg3 hg4 hg5 hg6 hg7 hg8 hco7;have hLL:(l++[Afe cl]++[Afe nm]++[Afe (ps.length:Int)]++Afz ps++Ahc (r1,r2)++[Afe lo]++[Afe st]++[Afe (co.length:Int)]).length+co.length+(Ahj hs).length+(Aie (lm.map Prod.fst)).length≤100000:=by (simp;omega)
 have HR2:Hid ((l++[Afe cl]++[Afe nm]++[Afe (ps.length:Int)]++Afz ps++Ahc (r1,r2)++[Afe lo]++[Afe st]++[Afe (co.length:Int)])++co.map Afe++Ahj hs++Aie (lm.map Prod.fst)=R):=by
  unfold Hid;rw[← Aa HR]
  simp
 clear HR;generalize (l++[Afe cl]++[Afe nm]++[Afe (ps.length:Int)]++Afz ps++Ahc (r1,r2)++[Afe lo]++[Afe st]++[Afe (co.length:Int)])=L at *;go_wp2
 go_loopw [43] (fun v wr=>∃ k:Nat,k≤co.length∧v=.int .i64 (k:Int)∧WrAt wr n B (L++(co.take k).map Afe)∧WG n w wr∧wr.heap[w.heap.size]?=some (O12 cl nm pa ps.length pc r1 r2 lo st ca co.length cc ha hs.length hc ma ml mc))
  (fun v _=>co.length-(intOf v).toNat)
 case atStart=>exact⟨0,by omega,rfl,by simpa using hW8,G8,C8⟩
 case round =>
  clear hW8 G8 C8 d8;obtain⟨k,hk,rfl,hWr,hG,hC⟩:=hrel;have dC:=lt_of_block hC;by_cases hkn:k<co.length
  ·obtain⟨g,hg,hglt,hbg,hcell⟩:=Ao (Ci hco hG (by decide) (by decide)) (by omega);have x0:=hcell k (by simpa using hkn);rw[List.getElem?_map,List.getElem?_eq_getElem hkn]at x0;have hd:co.take (k+1)=co.take k++[co[k]]:=by rw[List.take_succ_eq_append_getElem hkn]
   have hTL:(co.take k).length=k:=by simp;omega
   generalize co[k]=t at *;simp at x0;have HD:Hid (L++(co.take (k+1)).map Afe=L++(co.take k).map Afe++[Afe t]):=by unfold Hid;rw[hd];simp
   have hLk:(L++(co.take k).map Afe).length≤100000:=by rw[List.length_append,List.length_map,hTL];omega
   generalize L++(co.take k).map Afe=LK at *;clear hcell hd hbg hTL y9;subst hg;go_wp2_with fail
   refine(A8 n B LK t _ hLk hWr).mono ?_;rintro e w9 ⟨rfl,hW9,hg9⟩;have hG9:=hG.trans hg9;have hC9:=hg9.kp _ _ _ hC (by decide) (by decide);rw[← Aa HD]at hW9;clear x0 hg9 hG hWr hC;go_wp2
   go_roundw
   case rel=>exact⟨k+1,by omega,by go_num,hW9,hG9,hC9⟩
   case measure=>simp[intOf];omega
  ·have e:co.take k=co:=List.take_of_length_le (by omega);rw[e]at hWr;have z7:=Ab hC 8;simp at z7;go_wp2_with fail
   refine(Qa n B bb (L++co.map Afe) hs ha hs.length hc _ (by (simp;omega)) hWr (Ci hhs hG (by decide) (by decide))).mono ?_;rintro e w9 ⟨rfl,hW9,hg9⟩;have G9:=hG.trans hg9;have C9:=hg9.kp _ _ _ hC (by decide) (by decide);have z8:=Ab C9 9;have d9:=lt_of_block C9;simp at z8;go_wp2_with fail
   refine(V0 n B bb (L++co.map Afe++Ahj hs) lm ma ml mc _ (by (simp;omega)) hW9 (hmp.wg G9)).mono ?_;rintro e w10 ⟨rfl,hW10,hg10⟩;go_wp2
   go_end0
   exact⟨rfl,by rw[← Aa HR2];exact hW10,G9.trans hg10⟩
def MthR (w:World) (b:Nat) (m:Rd.Mth) (u:MthV):Prop :=
 TysAt w b u.params m.params∧IntsAt w b u.code m.code∧HndsAt w b u.handlers m.handlers∧∃ l,l.map Prod.fst=m.maps∧MpsR w b u.maps l
def MthsR (w:World) (b:Nat) (v:Value) (l:List (Rd.Mth × MthV)):Prop :=
 w.ownsRow b 133 10 v l.length (Bx l)∧∀ p∈l,MthR w b p.1 p.2
theorem MthR.wg {n b:Nat}{m:Rd.Mth}{u:MthV}{w w':World} (h:MthR w b m u) (hg:WG n w w'):MthR w' b m u:=by
 obtain⟨a,c,d,q,hq,f⟩:=h;exact⟨Ci a hg (by decide) (by decide),Ci c hg (by decide) (by decide),Ci d hg (by decide) (by decide),q,hq,f.wg hg⟩
theorem MthsR.wg {n b:Nat}{v:Value}{l:List (Rd.Mth × MthV)}{w w':World} (h:MthsR w b v l) (hg:WG n w w'):MthsR w' b v l :=
 ⟨Ci h.1 hg (by decide) (by decide),fun p hp=>(h.2 p hp).wg hg⟩
theorem MthsR.mth {w:World}{b:Nat}{a:Option Addr}{n c:Nat}{l:List (Rd.Mth × MthV)} (h:MthsR w b (.slice a n c) l) {k:Nat} (hk:k<l.length) :
  ∃ (m:PM) (g:Nat),a=some ⟨g,0,none⟩∧g<w.heap.size∧(∀ j v,m.list[j]?=some v→w.cell? ⟨g,k*10+j,none⟩=some v)∧m.isR l[k].1 w b:=by
 obtain⟨hrow,hall⟩:=h;obtain⟨xa,xc,hsh⟩:=Ae hrow;simp only[Value.slice.injEq]at hsh;obtain⟨rfl,rfl,rfl⟩:=hsh;obtain⟨g,hg,hglt,_,hcell⟩:=Ao hrow (by omega);obtain⟨hp,hc,hh,lm,hlm,hm⟩:=hall _ (List.getElem_mem hk);have hat:=fun j hj=>Aaj l k hk j hj;generalize l[k]=x at *;obtain⟨x,u⟩:=x;obtain⟨up,uc,uh,um⟩:=u;simp only at hp hc hh hm hat;obtain⟨pa,pc,rfl⟩:=Ae hp;obtain⟨ca,cc,rfl⟩:=Ae hc;obtain⟨ha,hc',rfl⟩:=Ae hh;obtain⟨ma,mc,rfl⟩:=Ae hm.1;have hml:lm.length=x.maps.length:=by rw[← hlm];simp
 refine⟨⟨x.cl,x.name,pa,x.params.length,pc,x.result.1,x.result.2,x.locals,x.stack,ca,x.code.length,cc,ha,x.handlers.length,hc',ma,lm.length,mc⟩,g,hg,hglt,?_,⟨rfl,rfl,rfl,rfl,rfl,rfl,rfl,hp,rfl,hc,rfl,hh,hml,lm,hlm,hm⟩⟩;intro j v hv;have hj:j<10:=by
  have:=(List.getElem?_eq_some_iff.1 hv).1
  simpa[PM.list] using this
 obtain⟨e1,e2⟩:=hat j hj;rw[hcell _ e2,e1,← hv];rfl
theorem Vk (fa1 fa2:Option Addr) (fc1 fc2 bm:Nat) (lcs:List (Rd.Cls × Value)) (lms:List (Rd.Mth × MthV)) (w:World) (hl:(Agd ⟨lcs.map Prod.fst,lms.map Prod.fst⟩).length≤100000)
  (hc6:lcs.length≤1000) (hm6:lms.length≤1000) (hcs:ClssIn w bm (.slice fa1 lcs.length fc1) lcs) (hms:MthsR w bm (.slice fa2 lms.length fc2) lms) :
  Calls Tryz.prog 47 #[.agg #[.slice fa1 lcs.length fc1,.slice fa2 lms.length fc2]] w fun e w'=>e=.returned (.string ⟨(Agd ⟨lcs.map Prod.fst,lms.map Prod.fst⟩).toArray⟩)∧Below w.heap.size w w':=by
 generalize hR:Agd ⟨lcs.map Prod.fst,lms.map Prod.fst⟩=R at *;unfold Agd Ai0 at hR;simp only[List.length_map,List.flatMap_map]at hR;generalize hC:lcs.flatMap (fun p=>Aha p.1)=CB at *;generalize hM:lms.flatMap (fun p=>Agl p.1)=MB at *;have HR:=Ac hR;have hRl:R.length=4+CB.length+MB.length:=by rw[← hR];simp;omega
 have HC:=Ac hC;have HM:=Ac hM;clear hR hC hM;have C0:=Ak w (O1 fa1 lcs.length fc1 fa2 lms.length fc2) (O15 none 0 0);have D0:=Ah w (O1 fa1 lcs.length fc1 fa2 lms.length fc2) (O15 none 0 0);have G0:=((WG.refl w.heap.size w).alloc (Nat.le_refl _) (O1 fa1 lcs.length fc1 fa2 lms.length fc2)).alloc (by simp) (O15 none 0 0);have hW0:WrAt ((w.alloc (O1 fa1 lcs.length fc1 fa2 lms.length fc2)).alloc (O15 none 0 0)) w.heap.size (w.heap.size+1) []:=⟨_,D0,by omega,World.ownsRow_nil _ _ _ _⟩;clear D0;go_enter Tryz.func47,Tryz.ntmps47
 (go_wp2_with fail);refine(A8 w.heap.size (w.heap.size+1) [] 83 _ (by simp) hW0).mono ?_;rintro e w1 ⟨rfl,hW1,hg1⟩
 have C1:=hg1.kp _ _ _ C0 (by decide) (by decide);have G1:=G0.trans hg1;clear hW0 hg1
 (go_wp2_with fail);refine(A8 w.heap.size (w.heap.size+1) ([]++[Afe 83]) 77 _ (by simp) hW1).mono ?_;rintro e w2 ⟨rfl,hW2,hg2⟩
 have C2:=hg2.kp _ _ _ C1 (by decide) (by decide);have G2:=G1.trans hg2;have x0:=Ab C2 0;have d2:=lt_of_block C2;simp at x0;clear hW1 hg2
 (go_wp2_with fail);refine(A8 w.heap.size (w.heap.size+1) ([]++[Afe 83]++[Afe 77]) (lcs.length:Int) _ (by simp) hW2).mono ?_;rintro e w3 ⟨rfl,hW3,hg3⟩
 have C3:=hg3.kp _ _ _ C2 (by decide) (by decide);have G3:=G2.trans hg3;have x1:=Ab C3 0;have d3:=lt_of_block C3;simp at x1;clear hW2 hg3 x0 C0 C1 C2 G0 G1 G2 d2;have HL:Hid ([]++[Afe 83]++[Afe 77]++[Afe (lcs.length:Int)]=[83,77,Afe (lcs.length:Int)]):=by unfold Hid;simp[Afe]
 generalize hL0:[]++[Afe 83]++[Afe 77]++[Afe (lcs.length:Int)]=L0 at *;have hLl:L0.length=3:=by rw[← hL0];simp
 clear hL0;go_wp2
 go_loopw [17] (fun v wr=>∃ k:Nat,k≤lcs.length∧v=.int .i64 (k:Int)∧WrAt wr w.heap.size (w.heap.size+1) (L0++(lcs.take k).flatMap (fun p=>Aha p.1))∧WG w.heap.size w wr∧wr.heap[w.heap.size]?=some (O1 fa1 lcs.length fc1 fa2 lms.length fc2))
  (fun v _=>lcs.length-(intOf v).toNat)
 case atStart=>exact⟨0,by omega,rfl,by simpa using hW3,G3,C3⟩
 case round =>
  clear hW3 G3 C3 d3 x1;obtain⟨k,hk,rfl,hWr,hG,hC⟩:=hrel;have dC:=lt_of_block hC;have hlt:=hWr.lt;by_cases hkn:k<lcs.length
  ·have hcw:=hcs.wg hG;obtain⟨g,hg,hglt,hbg,hcell⟩:=Ao hcw.1 (by omega);obtain⟨e1,e2,e3⟩:=Hs lcs k hkn;have x0:=hcell (k*2) (by omega);have x1:=hcell (k*2+1) (by omega);rw[e1]at x0;rw[e2]at x1;have hty:=hcw.2 _ (List.getElem_mem hkn);have hd:lcs.take (k+1)=lcs.take k++[lcs[k]]:=by rw[List.take_succ_eq_append_getElem hkn]
   have hbd:=Aj2 (fun p:Rd.Cls × Value=>Aha p.1) lcs k hkn;rw[Aa HC]at hbd;generalize lcs[k]=t at *;obtain⟨⟨t1,t2⟩,u⟩:=t;simp only at x0 x1 hty;obtain⟨ua,uc,rfl⟩:=Ae hty;simp only[Aha,List.length_cons,Ahm]at hbd;have HD:Hid (L0++(lcs.take (k+1)).flatMap (fun p=>Aha p.1)=L0++(lcs.take k).flatMap (fun p=>Aha p.1)++[Afe t1]++[Afe (t2.length:Int)]++Afz t2):=by unfold Hid;rw[hd];simp[Aha]
   have hLk:(L0++(lcs.take k).flatMap (fun p=>Aha p.1)).length+2+2*t2.length≤100000:=by rw[List.length_append];simp only[Aha];omega
   generalize L0++(lcs.take k).flatMap (fun p=>Aha p.1)=LK at *;have hW1:=hWr.alloc (O5 t1 ua t2.length uc);have K1:=Ad wr (O5 t1 ua t2.length uc);have G1:=hG.alloc (by omega) (O5 t1 ua t2.length uc);have G1':=(WG.refl w.heap.size wr).alloc (by omega) (O5 t1 ua t2.length uc);have C1:=Af hC (O5 t1 ua t2.length uc);clear hcell e1 e2 e3 hd hbd hbg;subst hg
   (go_wp2_with fail);refine(A8 w.heap.size (w.heap.size+1) LK t1 _ (by omega) hW1).mono ?_;rintro e w2 ⟨rfl,hW2,hg2⟩
   have K2:=hg2.kp _ _ _ K1 (by decide) (by decide);have C2:=hg2.kp _ _ _ C1 (by decide) (by decide);have y1:=Ab K2 1;have l2:=lt_of_block K2;simp at y1
   (go_wp2_with fail);refine(A8 w.heap.size (w.heap.size+1) (LK++[Afe t1]) (t2.length:Int) _ (by (simp;omega)) hW2).mono ?_;rintro e w3 ⟨rfl,hW3,hg3⟩
   have K3:=hg3.kp _ _ _ K2 (by decide) (by decide);have C3:=hg3.kp _ _ _ C2 (by decide) (by decide);have z1:=Ab K3 1;have l3:=lt_of_block K3;simp at z1;have G3':=(G1'.trans hg2).trans hg3;go_wp2_with fail
   refine(Nk w.heap.size (w.heap.size+1) bm (LK++[Afe t1]++[Afe (t2.length:Int)]) t2 ua t2.length uc _ (by (simp;omega)) hW3 (Ci hty G3' (by decide) (by decide))).mono ?_;rintro e w4 ⟨rfl,hW4,hg4⟩;have C4:=hg4.kp _ _ _ C3 (by decide) (by decide);have G4:=((G1.trans hg2).trans hg3).trans hg4;rw[← Aa HD]at hW4;clear x0 x1 y1 z1 l2 l3 K1 K2 K3 C1 C2 C3 hg2 hg3 hg4 G1 G1' G3' hG hW1 hW2 hW3 hWr hC hcw hty;go_wp2
   go_roundw
   case rel=>exact⟨k+1,by omega,by go_num,hW4,G4,C4⟩
   case measure=>simp[intOf];omega
  ·have e:lcs.take k=lcs:=List.take_of_length_le (by omega);rw[e,Aa HC]at hWr;have z1:=Ab hC 1;simp at z1
   (go_wp2_with fail);refine(A8 w.heap.size (w.heap.size+1) (L0++CB) (lms.length:Int) _ (by (simp;omega)) hWr).mono ?_;rintro e w4 ⟨rfl,hW4,hg4⟩
   have C4:=hg4.kp _ _ _ hC (by decide) (by decide);have G4:=hG.trans hg4;have y1:=Ab C4 1;have d4:=lt_of_block C4;simp at y1;clear hWr hG hC hg4 z1 dC hlt;have HRR:Hid (L0++CB++[Afe (lms.length:Int)]++MB=R):=by unfold Hid;rw[← Aa HR,Aa HL]
   have hL1:(L0++CB++[Afe (lms.length:Int)]).length=4+CB.length:=by simp[hLl];omega
   generalize L0++CB++[Afe (lms.length:Int)]=L1 at *;go_wp2
   go_loopw [39] (fun v wr=>∃ k:Nat,k≤lms.length∧v=.int .i64 (k:Int)∧WrAt wr w.heap.size (w.heap.size+1) (L1++(lms.take k).flatMap (fun p=>Agl p.1))∧WG w.heap.size w wr)
    (fun v _=>lms.length-(intOf v).toNat)
   case atStart=>exact⟨0,by omega,rfl,by simpa using hW4,G4⟩
   case round =>
    clear hW4 G4 C4 d4 y1 e hk hkn;obtain⟨q,hk,rfl,hWr,hG⟩:=hrel;have hlt:=hWr.lt;by_cases hkn:q<lms.length
    ·obtain⟨o,g,hg,hglt,hrow,his⟩:=(hms.wg hG).mth hkn;replace hrow:=Fq hrow;have hd:lms.take (q+1)=lms.take q++[lms[q]]:=by rw[List.take_succ_eq_append_getElem hkn]
     have hbd:=Aj2 (fun p:Rd.Mth × MthV=>Agl p.1) lms q hkn;rw[Aa HM]at hbd;generalize lms[q]=t at *;obtain⟨y,u⟩:=t;simp only at hbd his;have HD:Hid (L1++(lms.take (q+1)).flatMap (fun p=>Agl p.1)=L1++(lms.take q).flatMap (fun p=>Agl p.1)++Agl y):=by unfold Hid;rw[hd];simp
     have hLk:(L1++(lms.take q).flatMap (fun p=>Agl p.1)).length+(Agl y).length≤100000:=by rw[List.length_append];omega
     generalize L1++(lms.take q).flatMap (fun p=>Agl p.1)=LK at *;have HC:=fun w' hW' (h:Below _ _ w')=>R9 w.heap.size (w.heap.size+1) bm LK o y w' hLk hW' (his.below h);clear hd hbd his;obtain⟨ocl,onm,opa,opl,opc,or1,or2,olo,ost,oca,ocn,occ,oha,ohl,ohc,oma,oml,omc⟩:=o;simp only[PM.val]at hrow HC;obtain⟨y0,y1,y2,y3,y4,y5,y6,y7,y8,y9⟩:=hrow;have hW1:=hWr.alloc (O12 ocl onm opa opl opc or1 or2 olo ost oca ocn occ oha ohl ohc oma oml omc);have G1:=hG.alloc (by omega) (O12 ocl onm opa opl opc or1 or2 olo ost oca ocn occ oha ohl ohc oma oml omc);have hc:=HC _ hW1 (QN _);have HC2:=Ac hc;clear hc HC;subst hg;go_wp2_with fail
     refine(Aa HC2).mono ?_;rintro e w2 ⟨rfl,hW2,hg2⟩;have G2:=G1.trans hg2;rw[← Aa HD]at hW2;clear y0 y1 y2 y3 y4 y5 y6 y7 y8 y9 hg2 G1 hG hW1 hWr;go_wp2
     go_roundw
     case rel=>exact⟨q+1,by omega,by go_num,hW2,G2⟩
     case measure=>simp[intOf];omega
    ·have e:lms.take q=lms:=List.take_of_length_le (by omega);rw[e,Aa HM,Aa HRR]at hWr;obtain⟨v,hb,_,hown⟩:=hWr;obtain⟨va,vc,rfl⟩:=Ae hown;obtain⟨g,hg,hglt,hbg,hcell⟩:=Ao hown (by omega);subst hg;have hk:(convert 120 9 (.slice (some ⟨g,0,none⟩) R.length vc)).run Tryz.prog wr=.ok (.string ⟨R.toArray⟩) wr:=by
      refine run_convert_bytes_back (P:=Tryz.prog) _ _ _ 5 _ vc R Tryz.underlying120 Tryz.underlying5 Tryz.underlying9 ?_;intro j hj;have hadd:(⟨g,0,none⟩:Addr).add j=⟨g,j,none⟩:=by unfold Addr.add;split<;>simp_all
      rw[hadd,hcell j (by simpa[Ajg] using hj)];simp[Ajg,hj]
     have x0:=Ab hb 0;have dB:=lt_of_block hb;simp at x0;clear hcell hbg hown;clear hRl;go_wp2;go_ret;exact⟨rfl,hG.bel⟩
def Rd.Mth.withMaps (m:Rd.Mth) (mp:List Rd.Mp):Rd.Mth:=⟨m.cl,m.name,m.params,m.result,m.locals,m.stack,m.code,m.handlers,mp⟩
def Af1 (FM:Rd.Mth→Option (List Rd.Mp)):List Rd.Mth→Option (List Rd.Mth)
 | []=>some []
 | m::r=>match FM m with
  | none=>none
  | some mp=>(Af1 FM r).map (m.withMaps mp :: ·)
def Aic (FM:Rd.Mth→Option (List Rd.Mp)):Nat→List Rd.Mth→Int
 | _,[]=>0
 | k,m::r=>if (FM m).isSome=true then Aic FM (k+1) r else (k:Int)
theorem TyR.kp0 {w w':World}{v:Value}{l:List (Int × Int)}{e:Option TypeId} (h:TyR w v l) (hk:Kp e 0 w w') (hne:some 31≠e):TyR w' v l:=by
 rcases h with h|⟨g,o,c,cur,hv,hb,h1,h2,h3⟩
 ·exact .inl h
 ·have hb':=hk g cur _ (Nat.zero_le _) hb hne;refine .inr ⟨g,o,c,cur,hv,hb',h1,h2,fun j x hx=>?_⟩;rw[Ab hb',← Ab hb];exact h3 j x hx
theorem Kp.up {w w':World}{e:Option TypeId} (hk:Kp e 0 w w') (b:Nat):Kp e b w w':=fun k cs t _ h1 h2=>hk k cs t (Nat.zero_le _) h1 h2
theorem MthR.kp {b:Nat}{m:Rd.Mth}{u:MthV}{w w':World} (h:MthR w b m u) {e:Option TypeId} (hk:Kp e 0 w w') (h1:some 31≠e) (h2:some 3≠e) (h3:some 267≠e) (h4:some 266≠e):MthR w' b m u:=by
 obtain⟨a,c,d,q,hq,f⟩:=h;exact⟨a.kp (hk.up b) h1,c.kp (hk.up b) h2,d.kp (hk.up b) h3,q,hq,Am f.1 (hk.up b) h4,fun p hp=>⟨(f.2 p hp).1.kp0 hk h1,(f.2 p hp).2.kp0 hk h1⟩⟩
theorem MthR.below {b:Nat}{m:Rd.Mth}{u:MthV}{w w':World} (h:MthR w b m u) (hb:Below w.heap.size w w'):MthR w' b m u :=
 h.kp (Kp.of_below (e:=none) hb) (by decide) (by decide) (by decide) (by decide)
theorem Aa0 (fa1 fa2:Option Addr) (fl1 fc1 fc2 bm:Nat) (lcs:List (Rd.Cls × Value)) (lms:List (Rd.Mth × MthV)) (FM:Rd.Mth→Option (List Rd.Mp)) (w:World) (hbm:bm≤w.heap.size) (hc6:lcs.length≤6) (hcs:ClssIn w bm (.slice fa1 fl1 fc1) lcs) (hm6:lms.length≤1000) (hms:MthsIn w bm (.slice fa2 lms.length fc2) lms)
  (hFd:∀ p∈lms,∀ (tg tc:Nat) (ya:Option Addr) (yn yc:Nat) (m:PM) w',Below w.heap.size w w'→TreeIn w' tg (Tr.tree (lcs.map Prod.fst))→w'.ownsRow w.heap.size 105 1 (.slice ya yn yc) (7+lcs.length) (Tr.fvals lcs)→m.is p.1 w' bm →
   Calls Tryz.prog 70 #[.agg #[.slice fa1 fl1 fc1,.slice fa2 lms.length fc2],.agg #[.slice (some ⟨tg,0,none⟩) (Tr.tree (lcs.map Prod.fst)).length tc,.slice ya yn yc],m.val] w' fun e w''=>∃ a n c,e=.returned (.tuple #[.slice a n c,.bool (FM p.1).isSome])∧(∀ mp,FM p.1=some mp→∃ ms,ms.map Prod.fst=mp∧MpsR w'' w'.heap.size (.slice a n c) ms)∧Below w'.heap.size w' w'') :
  Calls Tryz.prog 46 #[.agg #[.slice fa1 fl1 fc1,.slice fa2 lms.length fc2]] w fun e w'=>∃ ga gn gc ha hn hc,e=.returned (.tuple #[.agg #[.slice ga gn gc,.slice ha hn hc],.int .i64 (Aic FM 0 (lms.map Prod.fst)),.bool (Af1 FM (lms.map Prod.fst)).isSome]) ∧
   (∀ r,Af1 FM (lms.map Prod.fst)=some r→ga=fa1∧gn=fl1∧gc=fc1∧∃ l,l.map Prod.fst=r∧MthsR w' bm (.slice ha hn hc) l)∧Below w.heap.size w w':=by
 obtain⟨j0,hj,hy0,hy1,hy2⟩:=info_parts Tryz.infoMethod;have hTO:=fun w' (h:Below w.heap.size w w')=>Ev fa1 fa2 fl1 fc1 lms.length fc2 bm lcs w' hc6 (hcs.kp (Kp.of_below (e:=none) h) (by decide) (by decide));have HMS:Hid (∀ w',Below w.heap.size w w'→MthsIn w' bm (.slice fa2 lms.length fc2) lms):=fun w' h=>hms.kp (Kp.of_below (e:=none) h) (by decide) (by decide) (by decide) (by decide) (by decide);generalize hR1:Af1 FM (lms.map Prod.fst)=R1;generalize hR2:Aic FM 0 (lms.map Prod.fst)=R2;have HR1:Hid ((Af1 FM ((lms.map Prod.fst).drop 0)).map ([] ++ ·)=R1):=by unfold Hid;rw[← hR1];simp
 have HR2:Hid (Aic FM 0 ((lms.map Prod.fst).drop 0)=R2):=hR2;have HTO:=Ac hTO;have HFD:=Ac hFd;clear hTO hFd hR1 hR2 hcs hms;have hB0:=Ai w (O1 fa1 fl1 fc1 fa2 lms.length fc2) (O1 none 0 0 none 0 0);have F0:=Ak w (O1 fa1 fl1 fc1 fa2 lms.length fc2) (O1 none 0 0 none 0 0);have Z0:=Ah w (O1 fa1 fl1 fc1 fa2 lms.length fc2) (O1 none 0 0 none 0 0);have hsz0:((w.alloc (O1 fa1 fl1 fc1 fa2 lms.length fc2)).alloc (O1 none 0 0 none 0 0)).heap.size=w.heap.size+2:=by simp
 go_enter Tryz.func46,Tryz.ntmps46;go_wp2_with fail
 refine(Aa HTO _ hB0).mono ?_;rintro e w1 ⟨tg,tc,ya,yn,yc,rfl,hT1,hY1,htg,hb1⟩;generalize Tr.tree (lcs.map Prod.fst)=T at *;have hB1:=QB hB0 hb1;have hs1:=hB1.size;have lZ:=lt_of_block (stay hb1 Z0);have F1:=Af (stay hb1 F0) (O2 (some ⟨tg,0,none⟩) T.length tc ya yn yc);have Z1:=Af (stay hb1 Z0) (O2 (some ⟨tg,0,none⟩) T.length tc ya yn yc);have T1:=Ad w1 (O2 (some ⟨tg,0,none⟩) T.length tc ya yn yc);have hB2:=hB1.alloc hs1 (O2 (some ⟨tg,0,none⟩) T.length tc ya yn yc);have hT2:=hT1.below (QN (O2 (some ⟨tg,0,none⟩) T.length tc ya yn yc));have hY2:=A5 (Am hY1 (Kp.of_below (e:=none) (QN (O2 (some ⟨tg,0,none⟩) T.length tc ya yn yc))) (by decide)) (show w.heap.size≤_ by rw[hsz0];omega);clear hb1 F0 Z0 hT1 hY1 htg lZ hsz0
 go_upto_region 2 with fail
 generalize w1.alloc (O2 (some ⟨tg,0,none⟩) T.length tc ya yn yc)=W1 at *;have f1:=Ab F1 1;have lf1:=lt_of_block F1;simp at f1;go_wp2
 go_loopw [6,16] (fun v s wr=>∃ (q:Nat) (l:List (Rd.Mth × MthV)),q≤lms.length∧s=.int .i64 (q:Int)∧l.length=q∧Hid ((Af1 FM ((lms.map Prod.fst).drop q)).map (l.map Prod.fst ++ ·)=R1)∧Hid (Aic FM q ((lms.map Prod.fst).drop q)=R2) ∧
   wr.ownsRow W1.heap.size 133 10 v q (Bx l)∧Hid (∀ p∈l,MthR wr bm p.1 p.2)∧Below W1.heap.size W1 wr)
  (fun _ s _=>lms.length-(intOf s).toNat)
 case atStart=>exact⟨0,[],by omega,rfl,rfl,HR1,HR2,World.ownsRow_nil _ _ _ _,(fun p hp=>by simp at hp),Below.refl _ _⟩
 case round =>
  clear HR1 HR2 f1 hB1 hs1;obtain⟨q,l,hq,rfl,hll,HR1,HR2,hown,HL,hBW⟩:=hrel;have hB:=QB hB2 hBW;have CF:=stay hBW F1;have CZ:=stay hBW Z1;have CT:=stay hBW T1;have hTr:=hT2.below hBW;have hYr:=Am hY2 (Kp.of_below (e:=none) hBW) (by decide);have hWs:=hBW.size;have hBs:=hB.size;obtain⟨xa,xc,rfl⟩:=Ae hown;by_cases hkn:q<lms.length
  ·obtain⟨m,g,hg,hglt,Aw,hm,-⟩:=(Aa HMS _ hB).mth2 hkn;obtain⟨y0,y1,y2,y3,y4,y5,y6,y7,y8,y9⟩:=Fq Aw;have hd:(lms.map Prod.fst).drop q=lms[q].1::(lms.map Prod.fst).drop (q+1):=by rw[List.drop_eq_getElem_cons (by simpa using hkn)];simp
   have hr1:=Aa HR1;have hr2:=Aa HR2;rw[hd,Af1]at hr1;rw[hd,Aic]at hr2;have hfd:=fun tg tc ya yn yc m w'=>Aa HFD lms[q] (List.getElem_mem hkn) tg tc ya yn yc m w';generalize lms[q].1=x at *;have kb:(q:Int)<(lms.length:Int):=by omega
   have hmI:=hm;obtain⟨cl,nm,pa,pl,pc,r1,r2,lo,st,ca,cn,cc,ha,hl,hc,ma,ml,mc⟩:=m;simp only at y0 y1 y2 y3 y4 y5 y6 y7 y8 y9;have hBM:=hB.alloc hBs (O12 cl nm pa pl pc r1 r2 lo st ca cn cc ha hl hc ma ml mc);have hbM:Below wr.heap.size wr (wr.alloc (O12 cl nm pa pl pc r1 r2 lo st ca cn cc ha hl hc ma ml mc)):=QN _;have hf:=hfd tg tc ya yn yc ⟨cl,nm,pa,pl,pc,r1,r2,lo,st,ca,cn,cc,ha,hl,hc,ma,ml,mc⟩ _ hBM (hTr.below hbM) (Am hYr (Kp.of_below (e:=none) hbM) (by decide)) (hm.below hbM);simp only[PM.val]at hf;generalize hFM:FM x=fm at *;have HF:=Ac hf;have CF1:=Af CF (O12 cl nm pa pl pc r1 r2 lo st ca cn cc ha hl hc ma ml mc);have CZ1:=Af CZ (O12 cl nm pa pl pc r1 r2 lo st ca cn cc ha hl hc ma ml mc);have CT1:=Af CT (O12 cl nm pa pl pc r1 r2 lo st ca cn cc ha hl hc ma ml mc);have CM1:=Ad wr (O12 cl nm pa pl pc r1 r2 lo st ca cn cc ha hl hc ma ml mc);obtain⟨a0,a1⟩:=cl2 CF1;obtain⟨t0,t1⟩:=cl2 CT1;have lF:=lt_of_block CF1;have lT:=lt_of_block CT1;simp at a0 a1 t0 t1;have HR1':=Ac hr1;have HR2':=Ac hr2;clear hf hfd hd Aw HR1 HR2 hr1 hr2;cases fm with
   | none =>
    have e1:R1=none:=by rw[← Aa HR1'];rfl
    have e2:R2=(q:Int):=by rw[← Aa HR2'];rfl
    have HE1:=Ac e1;have HE2:=Ac e2;clear e1 e2 HR1' HR2';subst hg;go_wp2_with fail
    refine(Aa HF).mono ?_;rintro e w2 ⟨va,vn,vc,rfl,-,hb2⟩;have hB2:=QB hBM hb2;have CZ2:=stay hb2 CZ1;obtain⟨z0,z1⟩:=cl2 CZ2;obtain⟨q0,q1⟩:=fr2 CZ2;have lZ2:=lt_of_block CZ2;simp at z0 z1;go_wp2;refine bodyPost_ret (v:=.tuple #[.agg #[.slice none 0 0,.slice none 0 0],.int .i64 (q:Int),.bool false]) (by simp[results,Tryz.results46,go_sem,z0,z1]) rfl ?_;refine⟨none,0,0,none,0,0,by rw[Aa HE1,Aa HE2];rfl,fun r hr=>(by rw[Aa HE1]at hr;cases hr),?_⟩;exact(hB2.setCell (by simp) _).setCell (by simp) _
   | some mp =>
    have HR1n:Hid ((Af1 FM ((lms.map Prod.fst).drop (q+1))).map ((l.map Prod.fst++[x.withMaps mp]) ++ ·)=R1):=by
     unfold Hid;rw[← Aa HR1'];cases Af1 FM ((lms.map Prod.fst).drop (q+1)) with
     | none=>rfl
     | some r=>simp
    have HR2n:Hid (Aic FM (q+1) ((lms.map Prod.fst).drop (q+1))=R2):=by unfold Hid;rw[← Aa HR2',if_pos (by simp)]
    clear HR1' HR2';subst hg;go_wp2_with fail
    refine(Aa HF).mono ?_;rintro e w2 ⟨va,vn,vc,rfl,hmp,hb2⟩;obtain⟨ms,ems,hmr⟩:=hmp mp rfl;have hbr:Below wr.heap.size wr w2:=QB hbM hb2;have hB2:=hB.trans (hbr.mono hBs);have hs2:=hB2.size;have CM2:=stay hb2 CM1;have m9:=Ab CM2 9;have q9:=Ag CM2 9;have lM:=lt_of_block CM2;simp at m9;have hb3:Below wr.heap.size wr (w2.setCell ⟨wr.heap.size,9,none⟩ (.slice va vn vc)):=hbr.setCell (by simp) _;have k3:=Kp.set (b:=0) (i:=9) CM2 (.slice va vn vc);have CM3:(w2.setCell ⟨wr.heap.size,9,none⟩ (.slice va vn vc)).heap[wr.heap.size]?=some (O12 cl nm pa pl pc r1 r2 lo st ca cn cc ha hl hc va vn vc):=by rw[Al CM2];rfl
    have hM3:MthR (w2.setCell ⟨wr.heap.size,9,none⟩ (.slice va vn vc)) bm (x.withMaps mp) ⟨.slice pa pl pc,.slice ca cn cc,.slice ha hl hc,.slice va vn vc⟩:=by
     have h3:=hmI.below hb3;exact⟨h3.ps,h3.code,h3.hs,ms,ems,Av (Am hmr.1 (k3.up _) (by decide)) (by simp;omega),fun p hp=>⟨(hmr.2 p hp).1.kp0 k3 (by decide),(hmr.2 p hp).2.kp0 k3 (by decide)⟩⟩
    have Aw:Cl (x.withMaps mp) ⟨.slice pa pl pc,.slice ca cn cc,.slice ha hl hc,.slice va vn vc⟩=[.int .i64 cl,.int .i64 nm,.slice pa pl pc,.int .i64 r1,.int .i64 r2,.int .i64 lo,.int .i64 st,.slice ca cn cc,.slice ha hl hc,.slice va vn vc]:=by
     have e1:=hmI.cl;have e2:=hmI.nm;have e3:=hmI.r1;have e4:=hmI.r2;have e5:=hmI.lo;have e6:=hmI.st;simp only at e1 e2 e3 e4 e5 e6;simp[Cl,Rd.Mth.withMaps,e1,e2,e3,e4,e5,e6]
    have HCE:=Ac Aw;have hown3:=Am hown (Kp.of_below (e:=none) hb3) (by decide);have HL3:Hid (∀ p∈l++[(x.withMaps mp,(⟨.slice pa pl pc,.slice ca cn cc,.slice ha hl hc,.slice va vn vc⟩:MthV))],MthR (w2.setCell ⟨wr.heap.size,9,none⟩ (.slice va vn vc)) bm p.1 p.2):=fun p hp=>by
     rcases List.mem_append.1 hp with hp|hp
     ·exact(Aa HL p hp).below hb3
     ·rw[List.mem_singleton.1 hp];exact hM3
    have hB3:=hBW.trans (hb3.mono hWs);clear Aw hown HL hTr hYr hB hBW hbM hBM CF1 CZ1 CT1 CM1 CF CZ CT a0 a1 t0 t1 lF lT hmI hm hM3 hmr hmp k3 hB2 hbr hb2 HF
    go_upto_region 10 with fail
    clear m9 q9 lM CM2;generalize w2.setCell ⟨wr.heap.size,9,none⟩ (.slice va vn vc)=w3 at *;obtain⟨m0,m1,m2,m3,m4,m5,m6,m7,m8,m9⟩:=De CM3;have lM:=lt_of_block CM3;have hs3:=hB3.size;simp at m0 m1 m2 m3 m4 m5 m6 m7 m8 m9;go_wp2_with (at_builtin;refine wpList_append_own _ rfl _ _ 82 rfl W1.heap.size 133 j0 _ 10 144 Tryz.underlying82 hj hy0 hy1 hy2 rfl (by decide) _ _ _ rfl (hown3.alloc _) ⟨w3.heap.size,0,none⟩ 1 1 [.int .i64 cl,.int .i64 nm,.slice pa pl pc,.int .i64 r1,.int .i64 r2,.int .i64 lo,.int .i64 st,.slice ca cn cc,.slice ha hl hc,.slice va vn vc] rfl rfl ?d1 ?d2 ?d3 ?d4 ?d5 ?_)
    case d1=>exact Ar _ _ _ _ (by simp)
    case d2=>intro u hu;simp at hu;rcases hu with rfl | rfl | rfl | rfl | rfl | rfl | rfl | rfl | rfl | rfl<;>rfl
    case d3=>unfold maxLen;omega
    case d4=>omega
    case d5=>simp;omega
    intro v' w4 hown4 hgrow _;have hB4:=(hB3.alloc hs3 _).grown hgrow (by simp;omega) (fun z hz=>(hown3.lt z hz).1);have hK:=(Kp.alloc (e:=some 133) (b:=0) _ _).trans (Kp.of_grown hgrow (hown3.alloc _));have HL4:Hid (∀ p∈l++[(x.withMaps mp,(⟨.slice pa pl pc,.slice ca cn cc,.slice ha hl hc,.slice va vn vc⟩:MthV))],MthR w4 bm p.1 p.2):=fun p hp=>(Aa HL3 p hp).kp hK (by decide) (by decide) (by decide) (by decide);have hown5:w4.ownsRow W1.heap.size 133 10 v' (q+1) (Bx (l++[(x.withMaps mp,(⟨.slice pa pl pc,.slice ca cn cc,.slice ha hl hc,.slice va vn vc⟩:MthV))])):=by rw[Jl,Aa HCE];exact hown4
    have HR1n':Hid ((Af1 FM ((lms.map Prod.fst).drop (q+1))).map ((l++[(x.withMaps mp,(⟨.slice pa pl pc,.slice ca cn cc,.slice ha hl hc,.slice va vn vc⟩:MthV))]).map Prod.fst ++ ·)=R1):=by unfold Hid;rw[← Aa HR1n];simp
    clear hgrow hK hown3 hown4 HL3 hB3 CM3 m0 m1 m2 m3 m4 m5 m6 m7 m8 m9 lM HR1n;go_wp2
    go_roundw
    case rel=>exact⟨q+1,_,by omega,by go_num,by simp[hll],HR1n',HR2n,hown5,HL4,hB4⟩
    case measure=>simp[intOf];omega
  ·have kb:¬ (q:Int)<(lms.length:Int):=by omega
   have e1:R1=some (l.map Prod.fst):=by rw[← Aa HR1,List.drop_eq_nil_of_le (by simp;omega)];simp[Af1]
   have e2:R2=0:=by rw[← Aa HR2,List.drop_eq_nil_of_le (by simp;omega)];rfl
   have HE1:=Ac e1;have HE2:=Ac e2;have a0:=Ab CF 0;obtain⟨z0,z1⟩:=cl2 CZ;obtain⟨q0,q1⟩:=fr2 CZ;have lF:=lt_of_block CF;have lZ2:=lt_of_block CZ;simp at a0 z0 z1;have hres:MthsR wr bm (.slice xa q xc) l:=⟨by rw[hll];exact Av hown (by have:=hB2.size;omega),Aa HL⟩;have k1:=(Kp.set (b:=0) (i:=0) CZ (.slice fa1 fl1 fc1)).trans (Kp.set (i:=1) (Al (i:=0) CZ (.slice fa1 fl1 fc1)) (.slice xa q xc));have hres2:MthsR ((wr.setCell ⟨w.heap.size+1,0,none⟩ (.slice fa1 fl1 fc1)).setCell ⟨w.heap.size+1,1,none⟩ (.slice xa q xc)) bm (.slice xa q xc) l:=⟨Am hres.1 (k1.up bm) (by decide),fun p hp=>(hres.2 p hp).kp k1 (by decide) (by decide) (by decide) (by decide)⟩;clear e1 e2 HR1 HR2 hres k1;go_wp2;refine bodyPost_ret (v:=.tuple #[.agg #[.slice fa1 fl1 fc1,.slice xa q xc],.int .i64 0,.bool true]) (by simp[results,Tryz.results46,go_sem,z0,z1]) rfl ?_;exact⟨fa1,fl1,fc1,xa,q,xc,by rw[Aa HE1,Aa HE2];rfl,fun r hr=>⟨rfl,rfl,rfl,l,by rw[Aa HE1]at hr;exact Option.some.inj hr,hres2⟩,(hB.setCell (by simp) _).setCell (by simp) _⟩
def Ajs (cs:List Rd.Cls) (ms:List Rd.Mth) (m:Rd.Mth) (t:Afd):Prop:=(Afq cs ms m).Ok t∧t.sp.length=m.code.length
theorem Ab6 {cs:List Rd.Cls}{ms:List Rd.Mth} (k:Ahb cs ms) {m:Rd.Mth} (hm:m∈ms) (hc:0<m.code.length) {i:Cd.Ins} (hi:i∈Cd.readL m.code) {t:Afd} (ht:Ajs cs ms m t) (hl:i.place<(t.sp.length:Int)) (hr:(t.at i.place.toNat).ri=true) :
  Ahg (Tr.tree cs) m (t.at i.place.toNat).fr∧Ajs cs ms m (Agm (Afq cs ms m) (Afk cs ms m) i (t.at i.place.toNat).fr (t.calm i.place.toNat)):=by
 have gE:=Fo k hm hc;obtain⟨hL,_⟩:=Hi k hm;obtain⟨p,hp⟩:=hL i hi;have hq:i.place.toNat<t.sp.length:=by have:=hp.pl;omega
 have hx:=(ht.1 _ (Ag9 hq)).1 ((ht.1 _ (Ag9 hq)).2 hr);obtain⟨c1,c2,_⟩:=Ajk (K:=0) ht.1 hq hr;have le:=N6 gE hL i hi _ _ hx c1;exact⟨hx,le.ok,le.len.trans (c2.trans ht.2)⟩
theorem Te {cs:List Rd.Cls}{ms:List Rd.Mth} (k:Ahb cs ms) {m:Rd.Mth} (hmem:m∈ms) (hc:0<m.code.length) {lcs:List (Rd.Cls × Value)}{lms:List (Rd.Mth × MthV)}{b:PBd}{bm bb:Nat}{w0:World}
  (hAt:∀ w',Below w0.heap.size w0 w'→InsAt w' bb (.slice b.la b.L.length b.lc) b.L→Ajh cs ms lcs lms b m bm w') {S G gc:Nat} (hS:w0.heap.size≤S) (hG:w0.heap.size≤G) {t:Afd} (ht:Ajs cs ms m t) {w:World} (hB:Below w0.heap.size w0 w) (hI:InsAt w bb (.slice b.la b.L.length b.lc) b.L) (h:LsAt w S G b gc t) :
  Calls Tryz.prog 112 #[.pointer (some ⟨S,0,none⟩)] w fun e w'=>e=.returned (.bool ((Aff (Agm (Afq cs ms m) (Afk cs ms m)) (Cd.readL m.code) false t).2 && !(Aff (Agm (Afq cs ms m) (Afk cs ms m)) (Cd.readL m.code) false t).1.hop)) ∧
   LsAt w' S G b gc (Aff (Agm (Afq cs ms m) (Afk cs ms m)) (Cd.readL m.code) false t).1∧Ajs cs ms m (Aff (Agm (Afq cs ms m) (Afk cs ms m)) (Cd.readL m.code) false t).1∧Lw S G w w':=by
 have g:=k.mt m hmem;have h0:=hAt w hB hI;have eL:=h0.L;have eT:=h0.T;have est:b.st=m.stack:=h0.is.st;have ehl:b.hl=m.handlers.length:=h0.is.hl;have hlen:(Cd.readL m.code).length≤100000:=by rw[← eL];exact h0.ru.ll
 have hh4:=g.bd.hs;have h120:=g.bd.code;refine Xt b S G gc bb (Cd.readL m.code) _ (Ajs cs ms m) t w eL hlen h ht (fun i hi=>?_) (fun w' hk=>?_) (fun i hi t' ht' hl hr=>(Ab6 k hmem hc hi ht' hl hr).2) (fun i hi t' ht' hl hr v w' hk hL' hv=>?_)
 ·obtain⟨p,hp⟩:=(Hi k hmem).1 i hi;have:=hp.pl;omega
 ·have:=Jw hI h hk (by decide) (by decide);rw[← eL];exact this
 ·obtain⟨hx,_⟩:=Ab6 k hmem hc hi ht' hl hr;rw[Nd g]at hi;obtain⟨p,hp,rfl⟩:=List.mem_map.1 hi;have hpl:p<m.code.length:=Jr hp;have hI1:=Jw hI h hk (by decide) (by decide);have hB1:=hB.trans (hk.below hS hG hB.size);have at3:∀ w3,Lw S G w' w3→Ajh cs ms lcs lms b m bm w3:=fun w3 k3=>hAt w3 (hB1.trans (k3.below hS hG hB1.size)) (Jw hI1 hL' k3 (by decide) (by decide));have e1:((Cd.insAt m.code p).place).toNat=p:=by show ((p:Int)).toNat=p;omega
  rw[e1]at hL' hv hx ⊢;have hT:∀ w3,Lw S G w' w3→TreeIn w3 b.tg b.T:=fun w3 k3=>(at3 w3 k3).ru.tr;have hH:=fun w3 (hb:Below w'.heap.size w' w3)=>Yi b S G gc m.handlers bm (p:Int) (t'.calm p) v (t'.at p).fr w3 h0.ru.tl (fun w4 k4=>hT w4 ((Lw.of_below hb).trans k4)) ehl (by omega) (fun w4 k4=>(at3 w4 ((Lw.of_below hb).trans k4)).is.hs) (hL'.below hb) (hv.below hb);have:=Ya b S G gc p (Cd.insAt m.code p).op (Cd.insAt m.code p).n (t'.calm p) _ (Afk cs ms m (Cd.insAt m.code p) (t'.at p).fr) v w' h0.ru.tl hT (by omega) hL' hH (fun w3 k3=>Jo (at3 w3 k3) p v (t'.at p).fr hp (hv.lw k3) hx);rw[eT,est]at this;have el:=Vd (Tr.tree cs) m.stack m.handlers (Afk cs ms m) (Cd.insAt m.code p) (t'.at p).fr (t'.calm p);show Calls Tryz.prog 169 _ w' fun e w''=>e=.returned (.tuple #[])∧LsAt w'' S G b gc (Ah3 (Tr.tree cs) m.stack m.handlers (Afk cs ms m) (Cd.insAt m.code p) (t'.at p).fr (t'.calm p))∧Lw S G w' w'';rw[el];exact this
theorem Vz {cs:List Rd.Cls}{ms:List Rd.Mth} (k:Ahb cs ms) {a1 a2:Option Addr}{n1 c1 c2 bm:Nat}{lcs:List (Rd.Cls × Value)}{lms:List (Rd.Mth × MthV)}{w:World} (ec:lcs.map Prod.fst=cs) (hcl:ClssIn w bm (.slice a1 n1 c1) lcs) (em:lms.map Prod.fst=ms) (hml:MthsIn w bm (.slice a2 lms.length c2) lms)
  {x:Rd.Mth} (hmem:x∈ms) (hc:0<x.code.length) {tg tc:Nat}{ya:Option Addr}{yn yc:Nat}{m:PM}{w':World} (hb:Below w.heap.size w w') (htr:TreeIn w' tg (Tr.tree cs)) {b0:Nat} (hrow:w'.ownsRow b0 105 1 (.slice ya yn yc) (7+lcs.length) (Tr.fvals lcs)) (his:m.is x w' bm) :
  Calls Tryz.prog 70 #[.agg #[.slice a1 n1 c1,.slice a2 lms.length c2],.agg #[.slice (some ⟨tg,0,none⟩) (Tr.tree cs).length tc,.slice ya yn yc],m.val] w' fun e w''=>∃ a n c,e=.returned (.tuple #[.slice a n c,.bool (Af8 cs ms x).isSome])∧(∀ mp,Af8 cs ms x=some mp→∃ l,l.map Prod.fst=mp∧MpsR w'' w'.heap.size (.slice a n c) l)∧Below w'.heap.size w' w'':=by
 have g:=k.mt x hmem;have gE:=Fo k hmem hc;obtain⟨hL,hA⟩:=Hi k hmem;have hTl:=Br cs;have hl6:=k.l6;have hm6:=k.m6;have hl1:lcs.length=cs.length:=by rw[← ec];simp
 have hl2:lms.length=ms.length:=by rw[← em];simp
 have h120:=g.bd.code;have hlo:=g.rd.lo;have est:=his.st;have hpl:∀ i∈Cd.readL x.code,0≤i.place:=fun i hi=>by obtain⟨p,hp⟩:=hL i hi;have:=hp.pl;omega
 have i0:=Uq (Afq cs ms x);have il:(Aid (Afq cs ms x)).sp.length=(Afq cs ms x).n:=by simp[Aid]
 have ca:=Fu gE i0 il (x:=(Afq cs ms x).x0) ⟨gE.x0.lo,gE.x0.tl,gE.x0.ts⟩ 0;have h0:Ajs cs ms x (Afo (Tr.tree cs) m.st (Agc x) 0 ⟨List.replicate x.code.length Ahe,false⟩):=by
  rw[est];exact⟨ca.up.ok,ca.up.len.trans il⟩
 have hkk:=N6 gE hL;have hps:∀ t,Ajs cs ms x t→Ag3 (Tr.tree cs) x.locals.toNat x.stack (Ajx x.code) (Aix (Tr.tree cs) x.locals.toNat x.stack) t (Aff (Agm (Afq cs ms x) (Afk cs ms x)) (Cd.readL x.code) false t).1∧((Aff (Agm (Afq cs ms x) (Afk cs ms x)) (Cd.readL x.code) false t).2=true→false=false→Aia (Tr.tree cs) (Aix (Tr.tree cs) x.locals.toNat x.stack) (Aff (Agm (Afq cs ms x) (Afk cs ms x)) (Cd.readL x.code) false t).1<Aia (Tr.tree cs) (Aix (Tr.tree cs) x.locals.toNat x.stack) t):=fun t ht=>Ig (Cd.readL x.code) hpl hkk false ht.1;have hst:=fun w2 (h:Below w'.heap.size w' w2)=>(show Calls Tryz.prog 110 #[m.val] w2 fun e w''=>∃ u:FrV,e=.returned u.val∧u.is (Agc x) w''∧Below w2.heap.size w2 w'' from by
  have h2:=his.below h;have:=Mo m x.params x.locals.toNat w2 (by rw[h2.lo];omega) (by omega) (TyR.of_tys h2.ps) (by have:=g.bd.ps;omega);rw[h2.cl]at this;exact this)
 have hfind:=Zy a1 a2 n1 c1 lms.length c2 tg tc ya yn yc (Tr.tree cs) m x bm (Agc x) (Agm (Afq cs ms x) (Afk cs ms x)) (Ajs cs ms x) (Aia (Tr.tree cs) (Aix (Tr.tree cs) x.locals.toNat x.stack)) (Ajw (Tr.tree cs) (Aix (Tr.tree cs) x.locals.toNat x.stack) (Agm (Afq cs ms x) (Afk cs ms x)) (Cd.readL x.code)) w' (by omega) htr his (by omega) g.bd.code0 hst h0
  (fun t ht=>by
   have:=X8 (K:=Aix (Tr.tree cs) x.locals.toNat x.stack) hpl hkk ht.1;refine this.trans ?_;have hiff:((Aff (Agm (Afq cs ms x) (Afk cs ms x)) (Cd.readL x.code) false t).2=true∧(Aff (Agm (Afq cs ms x) (Afk cs ms x)) (Cd.readL x.code) false t).1.hop=false)↔((Aff (Agm (Afq cs ms x) (Afk cs ms x)) (Cd.readL x.code) false t).2 && !(Aff (Agm (Afq cs ms x) (Afk cs ms x)) (Cd.readL x.code) false t).1.hop)=true:=by simp
   simp only[hiff];rfl)
  (fun t ht h=>(hps t ht).2 (by simp at h;exact h.1) rfl)
  (fun la lc bb S G t w2 hB2 hS hG hI ht hLs=>by
   refine Te (lcs:=lcs) (lms:=lms) (bm:=bm) k hmem hc (fun w3 hB3 hI3=>?_) hS hG ht hB2 hI hLs;have hw3:=QB hb hB3;obtain⟨ya',yc',hsh⟩:=Ae hrow;simp only[Value.slice.injEq]at hsh;refine⟨k,ec,em,hmem,rfl,rfl,⟨rfl,by omega,?_,(by rw[Hf];exact hsh.2.1),(by rw[Hf];omega),?_,⟨?_,?_⟩,(by show (Tr.tree cs).length≤1000;omega),htr.below hB3,?_,Av hI3 (Nat.zero_le _)⟩,?_⟩
   ·exact(hml.kp (Kp.of_below (e:=none) hw3) (by decide) (by decide) (by decide) (by decide) (by decide)).mono (Nat.zero_le _)
   ·intro q hq;unfold Ahl at hq;rcases List.mem_append.1 hq with hq | hq
    ·rw[(List.mem_replicate.1 hq).2];simp
    ·obtain⟨c,hc',rfl⟩:=List.mem_map.1 hq;exact k.fn c.1 (by rw[← ec];exact List.mem_map.2 ⟨c,hc',rfl⟩)
   ·rw[Qz,Hf];exact Av (Am hrow (Kp.of_below (e:=none) hB3) (by decide)) (Nat.zero_le _)
   ·intro q hq;unfold Ahl at hq;rcases List.mem_append.1 hq with hq | hq
    ·rw[(List.mem_replicate.1 hq).2];exact TyR.nil _
    ·obtain⟨c,hc',rfl⟩:=List.mem_map.1 hq;exact TyR.of_tys ((hcl.kp (Kp.of_below (e:=none) hw3) (by decide) (by decide)).2 c hc')
   ·show (Cd.readL x.code).length≤100000;rw[Gw g.unread];have:=Jv x.code;omega
   ·have h3:=his.below hB3;have ecn:=h3.cn;obtain⟨cl,nm,pa,pl,pc,r1,r2,lo,st,ca,cn,cc,ha,hl',hc',ma,ml,mc⟩:=m;simp only at ecn;subst ecn;exact h3)
 refine hfind.mono ?_;rintro e w2 ⟨a,n,c,rfl,h2,h3⟩;rw[est]at h2 ⊢;change (Agg cs ms x).hop=false→∃ l,l.map Prod.fst=Af7 0 (Agg cs ms x).sp∧MpsR w2 w'.heap.size (.slice a n c) l at h2;refine⟨a,n,c,?_,fun mp hmp=>?_,h3⟩
 ·show Ending.returned (.tuple #[.slice a n c,.bool (!(Agg cs ms x).hop)])=_;unfold Af8;cases (Agg cs ms x).hop<;>rfl
 ·unfold Af8 at hmp;by_cases hh:(Agg cs ms x).hop=true
  ·rw[if_pos hh]at hmp;cases hmp
  ·rw[if_neg hh]at hmp;cases hmp;exact h2 (by simpa using hh)
theorem Wl {cs:List Rd.Cls}{ms:List Rd.Mth} (k:Ahb cs ms) (hcode:∀ m∈ms,0<m.code.length) {a1 a2:Option Addr}{n1 c1 n2 c2 bm:Nat}{lcs:List (Rd.Cls × Value)}{lms:List (Rd.Mth × MthV)}{w:World} (hbm:bm≤w.heap.size) (ec:lcs.map Prod.fst=cs) (hcl:ClssIn w bm (.slice a1 n1 c1) lcs) (em:lms.map Prod.fst=ms) (hml:MthsIn w bm (.slice a2 n2 c2) lms) :
  Calls Tryz.prog 46 #[.agg #[.slice a1 n1 c1,.slice a2 n2 c2]] w fun e w'=>∃ ga gn gc ha hn hc,e=.returned (.tuple #[.agg #[.slice ga gn gc,.slice ha hn hc],.int .i64 (Aic (Af8 cs ms) 0 ms),.bool (Af1 (Af8 cs ms) ms).isSome]) ∧
   (∀ r,Af1 (Af8 cs ms) ms=some r→ga=a1∧gn=n1∧gc=c1∧∃ l,l.map Prod.fst=r∧MthsR w' bm (.slice ha hn hc) l)∧Below w.heap.size w w':=by
 obtain⟨xa,xc,hsh⟩:=Ae hml.1;simp only[Value.slice.injEq]at hsh;obtain⟨rfl,rfl,rfl⟩:=hsh;have hl1:lcs.length=cs.length:=by rw[← ec];simp
 have hl2:lms.length=ms.length:=by rw[← em];simp
 have hl6:=k.l6;have hm6:=k.m6;have:=Aa0 a1 a2 n1 c1 c2 bm lcs lms (Af8 cs ms) w hbm (by omega) hcl (by omega) hml (fun p hp tg tc ya yn yc m w' hb htr hrow his=>by
  have hmem:p.1∈ms:=by rw[← em];exact List.mem_map.2 ⟨p,hp,rfl⟩
  rw[ec]at htr ⊢;exact Vz k ec hcl em hml hmem (hcode _ hmem) hb htr hrow his)
 rw[em]at this;exact this
theorem Gg:∀ (l:List Aik) (k:Nat) (q:Rd.Mp),q∈Af7 k l→∃ i p,l[i]?=some p∧p.wa=true∧q=⟨((k+i:Nat):Int),p.fr.locals,p.fr.stack⟩
 | [],_,_,h=>by simp[Af7]at h
 | p::r,k,q,h=>by
  unfold Af7 at h;by_cases hw:p.wa=true
  ·rw[if_pos hw]at h;rcases List.mem_cons.1 h with rfl | h
   ·exact⟨0,p,rfl,hw,rfl⟩
   ·obtain⟨i,p',h1,h2,h3⟩:=Gg r (k+1) q h;exact⟨i+1,p',h1,h2,by rw[h3,show k+1+i=k+(i+1) by omega]⟩
  ·rw[if_neg hw]at h;obtain⟨i,p',h1,h2,h3⟩:=Gg r (k+1) q h;exact⟨i+1,p',h1,h2,by rw[h3,show k+1+i=k+(i+1) by omega]⟩
theorem Nh:∀ (l:List Aik) (k:Nat),(Af7 k l).length≤l.length
 | [],_=>Nat.le_refl _
 | p::r,k=>by
  have:=Nh r (k+1);unfold Af7
  split<;>simp<;>omega
theorem I8 {E:Afj} (g:E.Good) {bh:Cd.Ins→Afb→Option Afb}{L:List Cd.Ins} (hL:∀ i∈L,∃ p,Aip E bh i p) (hA:∀ p∈E.ps,∃ i∈L,i.place=(p:Int)) (hh:(Af6 E bh L).hop=false) {q:Nat} (hw:((Af6 E bh L).at q).wa=true):((Af6 E bh L).at q).st=true∧E.I ((Af6 E bh L).at q).fr:=by
 obtain⟨ok,_,p3,_⟩:=Ip g hL hA;obtain⟨sol,_,aim⟩:=p3 hh;obtain⟨p,hp,hF,ha⟩:=(aim q).1 hw;have key:∃ z,(Af6 E bh L).F q=some z:=by
  cases e:(Af6 E bh L).F p with
  | none=>exact absurd e hF
  | some x =>
   have sat:=sol.sat p hp x e;rcases ha with ⟨h,hm,hc,rfl⟩ | ⟨hj,rfl⟩
   ·obtain⟨_,_,_,⟨z,hz,_⟩,_⟩:=sat.go _ _ _ (.hnd h hm hc);exact⟨z,hz⟩
   ·obtain⟨y,hy⟩:=sat.rl;obtain⟨_,_,_,⟨z,hz,_⟩,_⟩:=sat.go _ _ _ (.jmp y hy hj);exact⟨z,hz⟩
 obtain⟨z,hz⟩:=key;obtain⟨e1,_⟩:=Cy.1 hz;exact⟨e1,Dp ok e1⟩
theorem T6 {cs:List Rd.Cls}{ms:List Rd.Mth} (k:Ahb cs ms) {m:Rd.Mth} (hm:m∈ms) (hc:0<m.code.length) {mp:List Rd.Mp} (h:Af8 cs ms m=some mp):mp.length≤m.code.length∧∀ q∈mp,0≤q.place∧q.place<(m.code.length:Int)∧Ahg (Tr.tree cs) m ⟨q.locals,q.stack⟩:=by
 have gE:=Fo k hm hc;obtain⟨hL,hA⟩:=Hi k hm;unfold Af8 at h;by_cases hh:(Agg cs ms m).hop=true
 ·rw[if_pos hh]at h;cases h
 ·rw[if_neg hh]at h;cases h;have hlen:(Agg cs ms m).sp.length=m.code.length:=(Ip gE hL hA).2.1;refine⟨by have:=Nh (Agg cs ms m).sp 0;omega,fun q hq=>?_⟩;obtain⟨i,p,h1,h2,rfl⟩:=Gg _ _ _ hq;have hi:i<(Agg cs ms m).sp.length:=(List.getElem?_eq_some_iff.1 h1).1;have ea:(Agg cs ms m).at i=p:=by unfold Afd.at;rw[List.getD_eq_getElem?_getD,h1];rfl
  have hw:=I8 gE hL hA (show (Agg cs ms m).hop=false by simpa using hh) (q:=i) (by show ((Agg cs ms m).at i).wa=true;rw[ea];exact h2);have hI:Ahg (Tr.tree cs) m ((Agg cs ms m).at i).fr:=hw.2;rw[ea]at hI;exact⟨by simp only;omega,by simp only;omega,hI⟩
theorem Gf {FM:Rd.Mth→Option (List Rd.Mp)}:∀ (l r:List Rd.Mth),Af1 FM l=some r→r.length=l.length∧∀ y∈r,∃ m∈l,∃ mp,FM m=some mp∧y=m.withMaps mp
 | [],r,h=>by cases h;exact⟨rfl,fun y hy=>by simp at hy⟩
 | m::l,r,h=>by
  unfold Af1 at h;cases hf:FM m with
  | none=>rw[hf]at h;cases h
  | some mp =>
   rw[hf]at h;simp only at h;cases hr:Af1 FM l with
   | none=>rw[hr]at h;cases h
   | some r' =>
    rw[hr]at h;cases h;obtain⟨h1,h2⟩:=Gf l r' hr;refine⟨by simp[h1],fun y hy=>?_⟩;rcases List.mem_cons.1 hy with rfl | hy
    ·exact⟨m,by simp,mp,hf,rfl⟩
    ·obtain⟨m',h3,h4⟩:=h2 y hy;exact⟨m',by simp[h3],h4⟩
def Ai1 (s:List UInt8):List UInt8 × Int × Int :=
 if (Rf.formed s).1≠0 then ([],(Rf.formed s).1,(Rf.formed s).2.1)
 else match Af1 (Af8 (Rd.read s).1.classes (Rd.read s).1.methods) (Rd.read s).1.methods with
  | none=>([],10,Aic (Af8 (Rd.read s).1.classes (Rd.read s).1.methods) 0 (Rd.read s).1.methods)
  | some r=>(Agd ⟨(Rd.read s).1.classes,r⟩,0,0)
theorem H6 {s:List UInt8} (h:(Rf.formed s).1=0):(Rd.read s).2=0:=by
 rw[← Cf]at h;unfold Aga at h;by_cases h0:(Rd.read s).2≠0
 ·rw[if_pos h0]at h;exact absurd h h0
 ·simpa using h0
theorem Yj (s:ByteArray) (h:(Rf.formed s.data.toList).1=0) {r:List Rd.Mth} (hr:Af1 (Af8 (Rd.read s.data.toList).1.classes (Rd.read s.data.toList).1.methods) (Rd.read s.data.toList).1.methods=some r):(Agd ⟨(Rd.read s.data.toList).1.classes,r⟩).length≤100000:=by
 obtain⟨k,_,_⟩:=Cu _ h;have hcode:=Jx _ (H6 h);obtain⟨hm6,hmb⟩:=Hn s.data.toList;obtain⟨hc6,hcf⟩:=H9 s.data.toList;generalize (Rd.read s.data.toList).1=f at *;obtain⟨cs,ms⟩:=f;simp only at k hcode hm6 hmb hc6 hcf hr ⊢;obtain⟨e1,e2⟩:=Gf _ _ hr;unfold Agd Ai0;simp only[List.length_append,List.length_cons,List.length_nil];have h1:=Fg Aha 2002 cs (fun x hx=>by have:=hcf x hx;simp only[Aha,List.length_cons,Ahm];omega);have h2:=Fg Agl 5000 r (fun x hx=>by
  obtain⟨m,hm,mp,hmp,rfl⟩:=e2 x hx;obtain⟨f1,f2⟩:=T6 k hm (hcode m hm) hmp;have b:=hmb m hm;have g1:=b.ps;have g2:=b.code;have g3:=b.hs;have g:=k.mt m hm;have g4:=g.rd.lo;have g5:=g.rd.st;have h3:=Fg Ag0 34 mp (fun q hq=>by
   obtain⟨_,_,hP⟩:=f2 q hq;have l1:=hP.lo;have l2:=hP.hi;simp only at l1 l2;simp only[Ag0,List.length_cons,List.length_append,Ahm];omega)
  rw[Ake];simp only[Rd.Mth.withMaps,Ahj,Aie,List.length_cons,Aj3];omega)
 omega
theorem Sy (s:ByteArray) (w:World) (hs:s.size≤maxLen) :
  Calls Tryz.prog 14 #[.string s] w fun e w'=>e=.returned (.tuple #[.string ⟨(Ai1 s.data.toList).1.toArray⟩,.int .i64 (Ai1 s.data.toList).2.1,.int .i64 (Ai1 s.data.toList).2.2])∧Below w.heap.size w w':=by
 have hrd:=fun w=>On s w hs;have hfm:=Cf s.data.toList;have hsz:=fun h r hr=>Yj s h (r:=r) hr;have hgd:=fun h=>Cu s.data.toList h;have hcd:=fun h=>Jx s.data.toList (H6 h);obtain⟨hm6,-⟩:=Hn s.data.toList;obtain⟨hc6,-⟩:=H9 s.data.toList;rw[hfm]at hrd;unfold Ai1;generalize Rf.formed s.data.toList=P at *;generalize Rd.read s.data.toList=q at *;obtain⟨P1,P2,P3⟩:=P;obtain⟨⟨cs,ms⟩,er⟩:=q;simp only at hrd hsz hgd hcd hm6 hc6 ⊢;have HRD:=Ac hrd;clear hrd hfm;by_cases h1:P1=0
 ·subst h1;rw[if_neg (by simp)];obtain⟨k,-,-⟩:=hgd rfl;have hcode:=hcd rfl;have hsz':=hsz rfl;have hfi:=fun (a1 a2:Option Addr) (n1 c1 n2 c2 bm:Nat) (lcs:List (Rd.Cls × Value)) (lms:List (Rd.Mth × MthV)) (w':World) hbm ec hcl em hml=>Wl (a1:=a1) (a2:=a2) (n1:=n1) (c1:=c1) (n2:=n2) (c2:=c2) (bm:=bm) (lcs:=lcs) (lms:=lms) (w:=w') k hcode hbm ec hcl em hml;generalize hF:Af1 (Af8 cs ms) ms=FL at *;generalize Aic (Af8 cs ms) 0 ms=WH at *;have HFI:=Ac hfi;have HSZ:=Ac hsz';clear hgd hcd hsz hsz' hfi k hcode;cases FL with
  | none =>
   simp only;go_enter Tryz.func14,Tryz.ntmps14;go_wp2_with fail
   refine(Aa HRD _).mono ?_;rintro e w1 ⟨a1,n1,c1,a2,n2,c2,rfl,hok,hb1⟩;obtain⟨lcs,lms,hl1,hcs,hl2,hms⟩:=hok trivial;clear hok;have hs1:=hb1.size;have hB1:=(hb1.alloc hs1 (O1 a1 n1 c1 a2 n2 c2)).alloc (by simp;omega) (O8 0 P2 P3);have k1:Kp none w.heap.size w1 ((w1.alloc (O1 a1 n1 c1 a2 n2 c2)).alloc (O8 0 P2 P3)):=(Kp.alloc _ _).trans (Kp.alloc _ _);have hcs1:=hcs.kp k1 (by decide) (by decide);have hms1:=hms.kp k1 (by decide) (by decide) (by decide) (by decide) (by decide);have HF1:=Ac (Aa HFI a1 a2 n1 c1 n2 c2 w.heap.size lcs lms _ (by simp;omega) hl1 hcs1 hl2 hms1);clear hcs hms k1 hcs1 hms1;go_wp2_with fail
   refine(Aa HF1).mono ?_;rintro e w2 ⟨ga,gn,gc,ha,hn,hc,rfl,-,hb2⟩;have hB2:=QB hB1 hb2;go_wp2;refine bodyPost_ret (v:=.tuple #[.string ⟨#[]⟩,.int .i64 10,.int .i64 WH]) (by simp[results,Tryz.results14,go_sem]) rfl ?_;exact⟨rfl,hB2.alloc hB2.size _⟩
  | some r =>
   simp only;have hrl:=Aa HSZ r rfl;have e1:=(Gf _ _ hF).1;go_enter Tryz.func14,Tryz.ntmps14;go_wp2_with fail
   refine(Aa HRD _).mono ?_;rintro e w1 ⟨a1,n1,c1,a2,n2,c2,rfl,hok,hb1⟩;obtain⟨lcs,lms,hl1,hcs,hl2,hms⟩:=hok trivial;clear hok;have hs1:=hb1.size;have hB1:=(hb1.alloc hs1 (O1 a1 n1 c1 a2 n2 c2)).alloc (by simp;omega) (O8 0 P2 P3);have k1:Kp none w.heap.size w1 ((w1.alloc (O1 a1 n1 c1 a2 n2 c2)).alloc (O8 0 P2 P3)):=(Kp.alloc _ _).trans (Kp.alloc _ _);have hcs1:=hcs.kp k1 (by decide) (by decide);have hms1:=hms.kp k1 (by decide) (by decide) (by decide) (by decide) (by decide);have HF1:=Ac (Aa HFI a1 a2 n1 c1 n2 c2 w.heap.size lcs lms _ (by simp;omega) hl1 hcs1 hl2 hms1);clear hcs hms k1 hms1;go_wp2_with fail
   refine(Aa HF1).mono ?_;rintro e w2 ⟨ga,gn,gc,ha,hn,hc,rfl,hall,hb2⟩;obtain⟨rfl,rfl,rfl,l,hl,hmr⟩:=hall r rfl;have hB2:=QB hB1 hb2;have hs2:=hB2.size;have hcs2:=hcs1.kp (Kp.of_below (e:=none) hb2) (by decide) (by decide);obtain⟨xa,xc,hsh⟩:=Ae hcs2.1;simp only[Value.slice.injEq]at hsh;obtain⟨rfl,rfl,rfl⟩:=hsh;obtain⟨xa,xc,hsh⟩:=Ae hmr.1;simp only[Value.slice.injEq]at hsh;obtain⟨rfl,rfl,rfl⟩:=hsh;have hll1:lcs.length≤6:=by have:=congrArg List.length hl1;simp at this;omega
   have hll2:l.length≤6:=by have:=congrArg List.length hl;simp at this;omega
   have hbF:Below w2.heap.size w2 (w2.alloc (O1 ga lcs.length gc ha l.length hc)):=QN _;have hfil:(⟨lcs.map Prod.fst,l.map Prod.fst⟩:Rd.Fil)=⟨cs,r⟩:=by rw[hl1,hl]
   have hwr:=Vk ga ha gc hc w.heap.size lcs l (w2.alloc (O1 ga lcs.length gc ha l.length hc)) (by rw[hfil];exact hrl) (by omega) (by omega) (hcs2.kp (Kp.of_below (e:=none) hbF) (by decide) (by decide)) ⟨Am hmr.1 (Kp.of_below (e:=none) hbF) (by decide),fun p hp=>(hmr.2 p hp).below hbF⟩;rw[hfil]at hwr;have HWR:=Ac hwr;clear hwr hfil hcs1 hcs2 hmr hb2 hbF;go_wp2_with fail
   refine(Aa HWR).mono ?_;rintro e w3 ⟨rfl,hb3⟩;go_wp2;refine bodyPost_ret (v:=.tuple #[.string ⟨(Agd ⟨cs,r⟩).toArray⟩,.int .i64 0,.int .i64 0]) (by simp[results,Tryz.results14,go_sem]) rfl ?_;exact⟨rfl,(hB2.alloc hs2 _).trans (hb3.mono (by simp;omega))⟩
 ·rw[if_pos h1];have h1':(P1 != 0)=true:=by simpa using h1
  clear hgd hcd hsz;simp only;go_enter Tryz.func14,Tryz.ntmps14;go_wp2_with fail
  refine(Aa HRD _).mono ?_;rintro e w1 ⟨a1,n1,c1,a2,n2,c2,rfl,-,hb1⟩;have hs1:=hb1.size;have hB1:=(hb1.alloc hs1 (O1 a1 n1 c1 a2 n2 c2)).alloc (by simp;omega) (O8 P1 P2 P3);go_wp2
  go_quiet (fail)
  go_wp2;refine bodyPost_ret (v:=.tuple #[.string ⟨#[]⟩,.int .i64 P1,.int .i64 P2]) (by simp[results,Tryz.results14,go_sem]) rfl ?_;exact⟨rfl,Ba hB1⟩
end Go.Proofs.YtpcgnjolfahacaaGreat
