/- a part of the proof -/
import Derived.Test.YtcefiamkoincoaaGreatPk25
set_option maxRecDepth 100000
set_option maxHeartbeats 40000000
set_option linter.unusedVariables false
set_option linter.unusedSimpArgs false
namespace Go.Proofs.YtcefiamkoincoaaGreat
open Go.RowKit
def MthR (w:World) (b:Nat) (m:Rd.Mth) (u:MthV):Prop :=
 TysAt w b u.params m.params∧IntsAt w b u.code m.code∧HndsAt w b u.handlers m.handlers∧∃ l,l.map Prod.fst=m.maps∧MpsR w b u.maps l
def MthsR (w:World) (b:Nat) (v:Value) (l:List (Rd.Mth × MthV)):Prop :=
 w.ownsRow b 94 10 v l.length (Cb l)∧∀ p∈l,MthR w b p.1 p.2
theorem MthR.wg {n b:Nat}{m:Rd.Mth}{u:MthV}{w w':World} (h:MthR w b m u) (hg:WG n w w'):MthR w' b m u:=by
 obtain⟨a,c,d,q,hq,f⟩:=h;exact⟨Ch a hg (by decide) (by decide),Ch c hg (by decide) (by decide),Ch d hg (by decide) (by decide),q,hq,f.wg hg⟩
theorem MthsR.wg {n b:Nat}{v:Value}{l:List (Rd.Mth × MthV)}{w w':World} (h:MthsR w b v l) (hg:WG n w w'):MthsR w' b v l :=
 ⟨Ch h.1 hg (by decide) (by decide),fun p hp=>(h.2 p hp).wg hg⟩
theorem MthsR.mth {w:World}{b:Nat}{a:Option Addr}{n c:Nat}{l:List (Rd.Mth × MthV)} (h:MthsR w b (.slice a n c) l) {k:Nat} (hk:k<l.length) :
  ∃ (m:PM) (g:Nat),a=some ⟨g,0,none⟩∧g<w.heap.size∧(∀ j v,m.list[j]?=some v→w.cell? ⟨g,k*10+j,none⟩=some v)∧m.isR l[k].1 w b:=by
 obtain⟨hrow,hall⟩:=h;obtain⟨xa,xc,hsh⟩:=Af hrow;simp only[Value.slice.injEq]at hsh;obtain⟨rfl,rfl,rfl⟩:=hsh;obtain⟨g,hg,hglt,_,hcell⟩:=Ao hrow (by omega);obtain⟨hp,hc,hh,lm,hlm,hm⟩:=hall _ (List.getElem_mem hk);have hat:=fun j hj=>Ws l k hk j hj;generalize l[k]=x at *;obtain⟨x,u⟩:=x;obtain⟨up,uc,uh,um⟩:=u;simp only at hp hc hh hm hat;obtain⟨pa,pc,rfl⟩:=Af hp;obtain⟨ca,cc,rfl⟩:=Af hc;obtain⟨ha,hc',rfl⟩:=Af hh;obtain⟨ma,mc,rfl⟩:=Af hm.1;have hml:lm.length=x.maps.length:=by rw[← hlm];simp
 refine⟨⟨x.cl,x.name,pa,x.params.length,pc,x.result.1,x.result.2,x.locals,x.stack,ca,x.code.length,cc,ha,x.handlers.length,hc',ma,lm.length,mc⟩,g,hg,hglt,?_,⟨rfl,rfl,rfl,rfl,rfl,rfl,rfl,hp,rfl,hc,rfl,hh,hml,lm,hlm,hm⟩⟩;intro j v hv;have hj:j<10:=by
  have:=(List.getElem?_eq_some_iff.1 hv).1
  simpa[PM.list] using this
 obtain⟨e1,e2⟩:=hat j hj;rw[hcell _ e2,e1,← hv];rfl
theorem Rp (fa1 fa2:Option Addr) (fc1 fc2 bm:Nat) (lcs:List (Rd.Cls × Value)) (lms:List (Rd.Mth × MthV)) (w:World) (hl:(Adu ⟨lcs.map Prod.fst,lms.map Prod.fst⟩).length≤100000)
  (hc6:lcs.length≤1000) (hm6:lms.length≤1000) (hcs:ClssIn w bm (.slice fa1 lcs.length fc1) lcs) (hms:MthsR w bm (.slice fa2 lms.length fc2) lms) :
  Calls Tryz.prog 23 #[.agg #[.slice fa1 lcs.length fc1,.slice fa2 lms.length fc2]] w fun e w'=>e=.returned (.string ⟨(Adu ⟨lcs.map Prod.fst,lms.map Prod.fst⟩).toArray⟩)∧Below w.heap.size w w':=by
 generalize hR:Adu ⟨lcs.map Prod.fst,lms.map Prod.fst⟩=R at *;unfold Adu Aei at hR;simp only[List.length_map,List.flatMap_map]at hR;generalize hC:lcs.flatMap (fun p=>Acr p.1)=CB at *;generalize hM:lms.flatMap (fun p=>Aby p.1)=MB at *;have HR:=Ac hR;have hRl:R.length=4+CB.length+MB.length:=by rw[← hR];simp;omega
 have HC:=Ac hC;have HM:=Ac hM;clear hR hC hM;have C0:=Ah w (O1 fa1 lcs.length fc1 fa2 lms.length fc2) (O23 none 0 0);have D0:=Ag w (O1 fa1 lcs.length fc1 fa2 lms.length fc2) (O23 none 0 0);have G0:=((WG.refl w.heap.size w).alloc (Nat.le_refl _) (O1 fa1 lcs.length fc1 fa2 lms.length fc2)).alloc (by simp) (O23 none 0 0);have hW0:WrAt ((w.alloc (O1 fa1 lcs.length fc1 fa2 lms.length fc2)).alloc (O23 none 0 0)) w.heap.size (w.heap.size+1) []:=⟨_,D0,by omega,World.ownsRow_nil _ _ _ _⟩;clear D0;go_enter Tryz.func23,Tryz.ntmps23
 (go_wp2_with fail);refine(Bj w.heap.size (w.heap.size+1) [] 83 _ (by simp) hW0).mono ?_;rintro e w1 ⟨rfl,hW1,hg1⟩
 have C1:=hg1.kp _ _ _ C0 (by decide) (by decide);have G1:=G0.trans hg1;clear hW0 hg1
 (go_wp2_with fail);refine(Bj w.heap.size (w.heap.size+1) ([]++[Zw 83]) 77 _ (by simp) hW1).mono ?_;rintro e w2 ⟨rfl,hW2,hg2⟩
 have C2:=hg2.kp _ _ _ C1 (by decide) (by decide);have G2:=G1.trans hg2;have x0:=Ab C2 0;have d2:=lt_of_block C2;simp at x0;clear hW1 hg2
 (go_wp2_with fail);refine(Bj w.heap.size (w.heap.size+1) ([]++[Zw 83]++[Zw 77]) (lcs.length:Int) _ (by simp) hW2).mono ?_;rintro e w3 ⟨rfl,hW3,hg3⟩
 have C3:=hg3.kp _ _ _ C2 (by decide) (by decide);have G3:=G2.trans hg3;have x1:=Ab C3 0;have d3:=lt_of_block C3;simp at x1;clear hW2 hg3 x0 C0 C1 C2 G0 G1 G2 d2;have HL:Hid ([]++[Zw 83]++[Zw 77]++[Zw (lcs.length:Int)]=[83,77,Zw (lcs.length:Int)]):=by unfold Hid;simp[Zw]
 generalize hL0:[]++[Zw 83]++[Zw 77]++[Zw (lcs.length:Int)]=L0 at *;have hLl:L0.length=3:=by rw[← hL0];simp
 clear hL0;go_wp2
 go_loopw [17] (fun v wr=>∃ k:Nat,k≤lcs.length∧v=.int .i64 (k:Int)∧WrAt wr w.heap.size (w.heap.size+1) (L0++(lcs.take k).flatMap (fun p=>Acr p.1))∧WG w.heap.size w wr∧wr.heap[w.heap.size]?=some (O1 fa1 lcs.length fc1 fa2 lms.length fc2))
  (fun v _=>lcs.length-(intOf v).toNat)
 case atStart=>exact⟨0,by omega,rfl,by simpa using hW3,G3,C3⟩
 case round =>
  clear hW3 G3 C3 d3 x1;obtain⟨k,hk,rfl,hWr,hG,hC⟩:=hrel;have dC:=lt_of_block hC;have hlt:=hWr.lt;by_cases hkn:k<lcs.length
  ·have hcw:=hcs.wg hG;obtain⟨g,hg,hglt,hbg,hcell⟩:=Ao hcw.1 (by omega);obtain⟨e1,e2,e3⟩:=Cv lcs k hkn;have x0:=hcell (k*2) (by omega);have x1:=hcell (k*2+1) (by omega);rw[e1]at x0;rw[e2]at x1;have hty:=hcw.2 _ (List.getElem_mem hkn);have hd:lcs.take (k+1)=lcs.take k++[lcs[k]]:=by rw[List.take_succ_eq_append_getElem hkn]
   have hbd:=Aev (fun p:Rd.Cls × Value=>Acr p.1) lcs k hkn;rw[Aa HC]at hbd;generalize lcs[k]=t at *;obtain⟨⟨t1,t2⟩,u⟩:=t;simp only at x0 x1 hty;obtain⟨ua,uc,rfl⟩:=Af hty;simp only[Acr,List.length_cons,Abi]at hbd;have HD:Hid (L0++(lcs.take (k+1)).flatMap (fun p=>Acr p.1)=L0++(lcs.take k).flatMap (fun p=>Acr p.1)++[Zw t1]++[Zw (t2.length:Int)]++Aah t2):=by unfold Hid;rw[hd];simp[Acr]
   have hLk:(L0++(lcs.take k).flatMap (fun p=>Acr p.1)).length+2+2*t2.length≤100000:=by rw[List.length_append];simp only[Acr];omega
   generalize L0++(lcs.take k).flatMap (fun p=>Acr p.1)=LK at *;have hW1:=hWr.alloc (O5 t1 ua t2.length uc);have K1:=Ad wr (O5 t1 ua t2.length uc);have G1:=hG.alloc (by omega) (O5 t1 ua t2.length uc);have G1':=(WG.refl w.heap.size wr).alloc (by omega) (O5 t1 ua t2.length uc);have C1:=Aj hC (O5 t1 ua t2.length uc);clear hcell e1 e2 e3 hd hbd hbg;subst hg
   (go_wp2_with fail);refine(Bj w.heap.size (w.heap.size+1) LK t1 _ (by omega) hW1).mono ?_;rintro e w2 ⟨rfl,hW2,hg2⟩
   have K2:=hg2.kp _ _ _ K1 (by decide) (by decide);have C2:=hg2.kp _ _ _ C1 (by decide) (by decide);have y1:=Ab K2 1;have l2:=lt_of_block K2;simp at y1
   (go_wp2_with fail);refine(Bj w.heap.size (w.heap.size+1) (LK++[Zw t1]) (t2.length:Int) _ (by (simp;omega)) hW2).mono ?_;rintro e w3 ⟨rfl,hW3,hg3⟩
   have K3:=hg3.kp _ _ _ K2 (by decide) (by decide);have C3:=hg3.kp _ _ _ C2 (by decide) (by decide);have z1:=Ab K3 1;have l3:=lt_of_block K3;simp at z1;have G3':=(G1'.trans hg2).trans hg3;go_wp2_with fail
   refine(Kk w.heap.size (w.heap.size+1) bm (LK++[Zw t1]++[Zw (t2.length:Int)]) t2 ua t2.length uc _ (by (simp;omega)) hW3 (Ch hty G3' (by decide) (by decide))).mono ?_;rintro e w4 ⟨rfl,hW4,hg4⟩;have C4:=hg4.kp _ _ _ C3 (by decide) (by decide);have G4:=((G1.trans hg2).trans hg3).trans hg4;rw[← Aa HD]at hW4;clear x0 x1 y1 z1 l2 l3 K1 K2 K3 C1 C2 C3 hg2 hg3 hg4 G1 G1' G3' hG hW1 hW2 hW3 hWr hC hcw hty;go_wp2
   go_roundw
   case rel=>exact⟨k+1,by omega,by go_num,hW4,G4,C4⟩
   case measure=>simp[intOf];omega
  ·have e:lcs.take k=lcs:=List.take_of_length_le (by omega);rw[e,Aa HC]at hWr;have z1:=Ab hC 1;simp at z1
   (go_wp2_with fail);refine(Bj w.heap.size (w.heap.size+1) (L0++CB) (lms.length:Int) _ (by (simp;omega)) hWr).mono ?_;rintro e w4 ⟨rfl,hW4,hg4⟩
   have C4:=hg4.kp _ _ _ hC (by decide) (by decide);have G4:=hG.trans hg4;have y1:=Ab C4 1;have d4:=lt_of_block C4;simp at y1;clear hWr hG hC hg4 z1 dC hlt;have HRR:Hid (L0++CB++[Zw (lms.length:Int)]++MB=R):=by unfold Hid;rw[← Aa HR,Aa HL]
   have hL1:(L0++CB++[Zw (lms.length:Int)]).length=4+CB.length:=by simp[hLl];omega
   generalize L0++CB++[Zw (lms.length:Int)]=L1 at *;go_wp2
   go_loopw [39] (fun v wr=>∃ k:Nat,k≤lms.length∧v=.int .i64 (k:Int)∧WrAt wr w.heap.size (w.heap.size+1) (L1++(lms.take k).flatMap (fun p=>Aby p.1))∧WG w.heap.size w wr)
    (fun v _=>lms.length-(intOf v).toNat)
   case atStart=>exact⟨0,by omega,rfl,by simpa using hW4,G4⟩
   case round =>
    clear hW4 G4 C4 d4 y1 e hk hkn;obtain⟨q,hk,rfl,hWr,hG⟩:=hrel;have hlt:=hWr.lt;by_cases hkn:q<lms.length
    ·obtain⟨o,g,hg,hglt,hrow,his⟩:=(hms.wg hG).mth hkn;replace hrow:=Hy hrow;have hd:lms.take (q+1)=lms.take q++[lms[q]]:=by rw[List.take_succ_eq_append_getElem hkn]
     have hbd:=Aev (fun p:Rd.Mth × MthV=>Aby p.1) lms q hkn;rw[Aa HM]at hbd;generalize lms[q]=t at *;obtain⟨y,u⟩:=t;simp only at hbd his;have HD:Hid (L1++(lms.take (q+1)).flatMap (fun p=>Aby p.1)=L1++(lms.take q).flatMap (fun p=>Aby p.1)++Aby y):=by unfold Hid;rw[hd];simp
     have hLk:(L1++(lms.take q).flatMap (fun p=>Aby p.1)).length+(Aby y).length≤100000:=by rw[List.length_append];omega
     generalize L1++(lms.take q).flatMap (fun p=>Aby p.1)=LK at *;have HC:=fun w' hW' (h:Below _ _ w')=>Nd w.heap.size (w.heap.size+1) bm LK o y w' hLk hW' (his.below h);clear hd hbd his;obtain⟨ocl,onm,opa,opl,opc,or1,or2,olo,ost,oca,ocn,occ,oha,ohl,ohc,oma,oml,omc⟩:=o;simp only[PM.val]at hrow HC;obtain⟨y0,y1,y2,y3,y4,y5,y6,y7,y8,y9⟩:=hrow;have hW1:=hWr.alloc (O20 ocl onm opa opl opc or1 or2 olo ost oca ocn occ oha ohl ohc oma oml omc);have G1:=hG.alloc (by omega) (O20 ocl onm opa opl opc or1 or2 olo ost oca ocn occ oha ohl ohc oma oml omc);have hc:=HC _ hW1 (QN _);have HC2:=Ac hc;clear hc HC;subst hg;go_wp2_with fail
     refine(Aa HC2).mono ?_;rintro e w2 ⟨rfl,hW2,hg2⟩;have G2:=G1.trans hg2;rw[← Aa HD]at hW2;clear y0 y1 y2 y3 y4 y5 y6 y7 y8 y9 hg2 G1 hG hW1 hWr;go_wp2
     go_roundw
     case rel=>exact⟨q+1,by omega,by go_num,hW2,G2⟩
     case measure=>simp[intOf];omega
    ·have e:lms.take q=lms:=List.take_of_length_le (by omega);rw[e,Aa HM,Aa HRR]at hWr;obtain⟨v,hb,_,hown⟩:=hWr;obtain⟨va,vc,rfl⟩:=Af hown;obtain⟨g,hg,hglt,hbg,hcell⟩:=Ao hown (by omega);subst hg;have hk:(convert 97 9 (.slice (some ⟨g,0,none⟩) R.length vc)).run Tryz.prog wr=.ok (.string ⟨R.toArray⟩) wr:=by
      refine run_convert_bytes_back (P:=Tryz.prog) _ _ _ 5 _ vc R Tryz.underlying97 Tryz.underlying5 Tryz.underlying9 ?_;intro j hj;have hadd:(⟨g,0,none⟩:Addr).add j=⟨g,j,none⟩:=by unfold Addr.add;split<;>simp_all
      rw[hadd,hcell j (by simpa[Ad4] using hj)];simp[Ad4,hj]
     have x0:=Ab hb 0;have dB:=lt_of_block hb;simp at x0;clear hcell hbg hown;clear hRl;go_wp2;go_ret;exact⟨rfl,hG.bel⟩
def Rd.Mth.withMaps (m:Rd.Mth) (mp:List Rd.Mp):Rd.Mth:=⟨m.cl,m.name,m.params,m.result,m.locals,m.stack,m.code,m.handlers,mp⟩
def Aas (FM:Rd.Mth→Option (List Rd.Mp)):List Rd.Mth→Option (List Rd.Mth)
 | []=>some []
 | m::r=>match FM m with
  | none=>none
  | some mp=>(Aas FM r).map (m.withMaps mp :: ·)
def Ach (FM:Rd.Mth→Option (List Rd.Mp)):Nat→List Rd.Mth→Int
 | _,[]=>0
 | k,m::r=>if (FM m).isSome=true then Ach FM (k+1) r else (k:Int)
theorem TyR.kp0 {w w':World}{v:Value}{l:List (Int × Int)}{e:Option TypeId} (h:TyR w v l) (hk:Kp e 0 w w') (hne:some 39≠e):TyR w' v l:=by
 rcases h with h|⟨g,o,c,cur,hv,hb,h1,h2,h3⟩
 ·exact .inl h
 ·have hb':=hk g cur _ (Nat.zero_le _) hb hne;refine .inr ⟨g,o,c,cur,hv,hb',h1,h2,fun j x hx=>?_⟩;rw[Ab hb',← Ab hb];exact h3 j x hx
theorem Kp.up {w w':World}{e:Option TypeId} (hk:Kp e 0 w w') (b:Nat):Kp e b w w':=fun k cs t _ h1 h2=>hk k cs t (Nat.zero_le _) h1 h2
theorem MthR.kp {b:Nat}{m:Rd.Mth}{u:MthV}{w w':World} (h:MthR w b m u) {e:Option TypeId} (hk:Kp e 0 w w') (h1:some 39≠e) (h2:some 3≠e) (h3:some 219≠e) (h4:some 218≠e):MthR w' b m u:=by
 obtain⟨a,c,d,q,hq,f⟩:=h;exact⟨a.kp (hk.up b) h1,c.kp (hk.up b) h2,d.kp (hk.up b) h3,q,hq,Av f.1 (hk.up b) h4,fun p hp=>⟨(f.2 p hp).1.kp0 hk h1,(f.2 p hp).2.kp0 hk h1⟩⟩
theorem MthR.below {b:Nat}{m:Rd.Mth}{u:MthV}{w w':World} (h:MthR w b m u) (hb:Below w.heap.size w w'):MthR w' b m u :=
 h.kp (Kp.of_below (e:=none) hb) (by decide) (by decide) (by decide) (by decide)
theorem Wp (fa1 fa2:Option Addr) (fl1 fc1 fc2 bm:Nat) (lcs:List (Rd.Cls × Value)) (lms:List (Rd.Mth × MthV)) (FM:Rd.Mth→Option (List Rd.Mp)) (w:World) (hbm:bm≤w.heap.size) (hc6:lcs.length≤6) (hcs:ClssIn w bm (.slice fa1 fl1 fc1) lcs) (hm6:lms.length≤1000) (hms:MthsIn w bm (.slice fa2 lms.length fc2) lms)
  (hFd:∀ p∈lms,∀ (tg tc:Nat) (ya:Option Addr) (yn yc:Nat) (m:PM) w',Below w.heap.size w w'→TreeIn w' tg (Tr.tree (lcs.map Prod.fst))→w'.ownsRow w.heap.size 48 1 (.slice ya yn yc) (7+lcs.length) (Tr.fvals lcs)→m.is p.1 w' bm →
   Calls Tryz.prog 42 #[.agg #[.slice fa1 fl1 fc1,.slice fa2 lms.length fc2],.agg #[.slice (some ⟨tg,0,none⟩) (Tr.tree (lcs.map Prod.fst)).length tc,.slice ya yn yc],m.val] w' fun e w''=>∃ a n c,e=.returned (.tuple #[.slice a n c,.bool (FM p.1).isSome])∧(∀ mp,FM p.1=some mp→∃ ms,ms.map Prod.fst=mp∧MpsR w'' w'.heap.size (.slice a n c) ms)∧Below w'.heap.size w' w'') :
  Calls Tryz.prog 22 #[.agg #[.slice fa1 fl1 fc1,.slice fa2 lms.length fc2]] w fun e w'=>∃ ga gn gc ha hn hc,e=.returned (.tuple #[.agg #[.slice ga gn gc,.slice ha hn hc],.int .i64 (Ach FM 0 (lms.map Prod.fst)),.bool (Aas FM (lms.map Prod.fst)).isSome]) ∧
   (∀ r,Aas FM (lms.map Prod.fst)=some r→ga=fa1∧gn=fl1∧gc=fc1∧∃ l,l.map Prod.fst=r∧MthsR w' bm (.slice ha hn hc) l)∧Below w.heap.size w w':=by
 obtain⟨j0,hj,hy0,hy1,hy2⟩:=info_parts Tryz.infoMethod;have hTO:=fun w' (h:Below w.heap.size w w')=>Hu fa1 fa2 fl1 fc1 lms.length fc2 bm lcs w' hc6 (hcs.kp (Kp.of_below (e:=none) h) (by decide) (by decide));have HMS:Hid (∀ w',Below w.heap.size w w'→MthsIn w' bm (.slice fa2 lms.length fc2) lms):=fun w' h=>hms.kp (Kp.of_below (e:=none) h) (by decide) (by decide) (by decide) (by decide) (by decide);generalize hR1:Aas FM (lms.map Prod.fst)=R1;generalize hR2:Ach FM 0 (lms.map Prod.fst)=R2;have HR1:Hid ((Aas FM ((lms.map Prod.fst).drop 0)).map ([] ++ ·)=R1):=by unfold Hid;rw[← hR1];simp
 have HR2:Hid (Ach FM 0 ((lms.map Prod.fst).drop 0)=R2):=hR2;have HTO:=Ac hTO;have HFD:=Ac hFd;clear hTO hFd hR1 hR2 hcs hms;have hB0:=Ak w (O1 fa1 fl1 fc1 fa2 lms.length fc2) (O1 none 0 0 none 0 0);have F0:=Ah w (O1 fa1 fl1 fc1 fa2 lms.length fc2) (O1 none 0 0 none 0 0);have Z0:=Ag w (O1 fa1 fl1 fc1 fa2 lms.length fc2) (O1 none 0 0 none 0 0);have hsz0:((w.alloc (O1 fa1 fl1 fc1 fa2 lms.length fc2)).alloc (O1 none 0 0 none 0 0)).heap.size=w.heap.size+2:=by simp
 go_enter Tryz.func22,Tryz.ntmps22;go_wp2_with fail
 refine(Aa HTO _ hB0).mono ?_;rintro e w1 ⟨tg,tc,ya,yn,yc,rfl,hT1,hY1,htg,hb1⟩;generalize Tr.tree (lcs.map Prod.fst)=T at *;have hB1:=QB hB0 hb1;have hs1:=hB1.size;have lZ:=lt_of_block (stay hb1 Z0);have F1:=Aj (stay hb1 F0) (O2 (some ⟨tg,0,none⟩) T.length tc ya yn yc);have Z1:=Aj (stay hb1 Z0) (O2 (some ⟨tg,0,none⟩) T.length tc ya yn yc);have T1:=Ad w1 (O2 (some ⟨tg,0,none⟩) T.length tc ya yn yc);have hB2:=hB1.alloc hs1 (O2 (some ⟨tg,0,none⟩) T.length tc ya yn yc);have hT2:=hT1.below (QN (O2 (some ⟨tg,0,none⟩) T.length tc ya yn yc));have hY2:=Bo (Av hY1 (Kp.of_below (e:=none) (QN (O2 (some ⟨tg,0,none⟩) T.length tc ya yn yc))) (by decide)) (show w.heap.size≤_ by rw[hsz0];omega);clear hb1 F0 Z0 hT1 hY1 htg lZ hsz0
 go_upto_region 2 with fail
 generalize w1.alloc (O2 (some ⟨tg,0,none⟩) T.length tc ya yn yc)=W1 at *;have f1:=Ab F1 1;have lf1:=lt_of_block F1;simp at f1;go_wp2
 go_loopw [6,16] (fun v s wr=>∃ (q:Nat) (l:List (Rd.Mth × MthV)),q≤lms.length∧s=.int .i64 (q:Int)∧l.length=q∧Hid ((Aas FM ((lms.map Prod.fst).drop q)).map (l.map Prod.fst ++ ·)=R1)∧Hid (Ach FM q ((lms.map Prod.fst).drop q)=R2) ∧
   wr.ownsRow W1.heap.size 94 10 v q (Cb l)∧Hid (∀ p∈l,MthR wr bm p.1 p.2)∧Below W1.heap.size W1 wr)
  (fun _ s _=>lms.length-(intOf s).toNat)
 case atStart=>exact⟨0,[],by omega,rfl,rfl,HR1,HR2,World.ownsRow_nil _ _ _ _,(fun p hp=>by simp at hp),Below.refl _ _⟩
 case round =>
  clear HR1 HR2 f1 hB1 hs1;obtain⟨q,l,hq,rfl,hll,HR1,HR2,hown,HL,hBW⟩:=hrel;have hB:=QB hB2 hBW;have CF:=stay hBW F1;have CZ:=stay hBW Z1;have CT:=stay hBW T1;have hTr:=hT2.below hBW;have hYr:=Av hY2 (Kp.of_below (e:=none) hBW) (by decide);have hWs:=hBW.size;have hBs:=hB.size;obtain⟨xa,xc,rfl⟩:=Af hown;by_cases hkn:q<lms.length
  ·obtain⟨m,g,hg,hglt,Bb,hm,-⟩:=(Aa HMS _ hB).mth2 hkn;obtain⟨y0,y1,y2,y3,y4,y5,y6,y7,y8,y9⟩:=Hy Bb;have hd:(lms.map Prod.fst).drop q=lms[q].1::(lms.map Prod.fst).drop (q+1):=by rw[List.drop_eq_getElem_cons (by simpa using hkn)];simp
   have hr1:=Aa HR1;have hr2:=Aa HR2;rw[hd,Aas]at hr1;rw[hd,Ach]at hr2;have hfd:=fun tg tc ya yn yc m w'=>Aa HFD lms[q] (List.getElem_mem hkn) tg tc ya yn yc m w';generalize lms[q].1=x at *;have kb:(q:Int)<(lms.length:Int):=by omega
   have hmI:=hm;obtain⟨cl,nm,pa,pl,pc,r1,r2,lo,st,ca,cn,cc,ha,hl,hc,ma,ml,mc⟩:=m;simp only at y0 y1 y2 y3 y4 y5 y6 y7 y8 y9;have hBM:=hB.alloc hBs (O20 cl nm pa pl pc r1 r2 lo st ca cn cc ha hl hc ma ml mc);have hbM:Below wr.heap.size wr (wr.alloc (O20 cl nm pa pl pc r1 r2 lo st ca cn cc ha hl hc ma ml mc)):=QN _;have hf:=hfd tg tc ya yn yc ⟨cl,nm,pa,pl,pc,r1,r2,lo,st,ca,cn,cc,ha,hl,hc,ma,ml,mc⟩ _ hBM (hTr.below hbM) (Av hYr (Kp.of_below (e:=none) hbM) (by decide)) (hm.below hbM);simp only[PM.val]at hf;generalize hFM:FM x=fm at *;have HF:=Ac hf;have CF1:=Aj CF (O20 cl nm pa pl pc r1 r2 lo st ca cn cc ha hl hc ma ml mc);have CZ1:=Aj CZ (O20 cl nm pa pl pc r1 r2 lo st ca cn cc ha hl hc ma ml mc);have CT1:=Aj CT (O20 cl nm pa pl pc r1 r2 lo st ca cn cc ha hl hc ma ml mc);have CM1:=Ad wr (O20 cl nm pa pl pc r1 r2 lo st ca cn cc ha hl hc ma ml mc);obtain⟨a0,a1⟩:=cl2 CF1;obtain⟨t0,t1⟩:=cl2 CT1;have lF:=lt_of_block CF1;have lT:=lt_of_block CT1;simp at a0 a1 t0 t1;have HR1':=Ac hr1;have HR2':=Ac hr2;clear hf hfd hd Bb HR1 HR2 hr1 hr2;cases fm with
   | none =>
    have e1:R1=none:=by rw[← Aa HR1'];rfl
    have e2:R2=(q:Int):=by rw[← Aa HR2'];rfl
    have HE1:=Ac e1;have HE2:=Ac e2;clear e1 e2 HR1' HR2';subst hg;go_wp2_with fail
    refine(Aa HF).mono ?_;rintro e w2 ⟨va,vn,vc,rfl,-,hb2⟩;have hB2:=QB hBM hb2;have CZ2:=stay hb2 CZ1;obtain⟨z0,z1⟩:=cl2 CZ2;obtain⟨q0,q1⟩:=fr2 CZ2;have lZ2:=lt_of_block CZ2;simp at z0 z1;go_wp2;refine bodyPost_ret (v:=.tuple #[.agg #[.slice none 0 0,.slice none 0 0],.int .i64 (q:Int),.bool false]) (by simp[results,Tryz.results22,go_sem,z0,z1]) rfl ?_;refine⟨none,0,0,none,0,0,by rw[Aa HE1,Aa HE2];rfl,fun r hr=>(by rw[Aa HE1]at hr;cases hr),?_⟩;exact(hB2.setCell (by simp) _).setCell (by simp) _
   | some mp =>
    have HR1n:Hid ((Aas FM ((lms.map Prod.fst).drop (q+1))).map ((l.map Prod.fst++[x.withMaps mp]) ++ ·)=R1):=by
     unfold Hid;rw[← Aa HR1'];cases Aas FM ((lms.map Prod.fst).drop (q+1)) with
     | none=>rfl
     | some r=>simp
    have HR2n:Hid (Ach FM (q+1) ((lms.map Prod.fst).drop (q+1))=R2):=by unfold Hid;rw[← Aa HR2',if_pos (by simp)]
    clear HR1' HR2';subst hg;go_wp2_with fail
    refine(Aa HF).mono ?_;rintro e w2 ⟨va,vn,vc,rfl,hmp,hb2⟩;obtain⟨ms,ems,hmr⟩:=hmp mp rfl;have hbr:Below wr.heap.size wr w2:=QB hbM hb2;have hB2:=hB.trans (hbr.mono hBs);have hs2:=hB2.size;have CM2:=stay hb2 CM1;have m9:=Ab CM2 9;have q9:=Ae CM2 9;have lM:=lt_of_block CM2;simp at m9;have hb3:Below wr.heap.size wr (w2.setCell ⟨wr.heap.size,9,none⟩ (.slice va vn vc)):=hbr.setCell (by simp) _;have k3:=Kp.set (b:=0) (i:=9) CM2 (.slice va vn vc);have CM3:(w2.setCell ⟨wr.heap.size,9,none⟩ (.slice va vn vc)).heap[wr.heap.size]?=some (O20 cl nm pa pl pc r1 r2 lo st ca cn cc ha hl hc va vn vc):=by rw[Ai CM2];rfl
    have hM3:MthR (w2.setCell ⟨wr.heap.size,9,none⟩ (.slice va vn vc)) bm (x.withMaps mp) ⟨.slice pa pl pc,.slice ca cn cc,.slice ha hl hc,.slice va vn vc⟩:=by
     have h3:=hmI.below hb3;exact⟨h3.ps,h3.code,h3.hs,ms,ems,Ba (Av hmr.1 (k3.up _) (by decide)) (by simp;omega),fun p hp=>⟨(hmr.2 p hp).1.kp0 k3 (by decide),(hmr.2 p hp).2.kp0 k3 (by decide)⟩⟩
    have Bb:Cj (x.withMaps mp) ⟨.slice pa pl pc,.slice ca cn cc,.slice ha hl hc,.slice va vn vc⟩=[.int .i64 cl,.int .i64 nm,.slice pa pl pc,.int .i64 r1,.int .i64 r2,.int .i64 lo,.int .i64 st,.slice ca cn cc,.slice ha hl hc,.slice va vn vc]:=by
     have e1:=hmI.cl;have e2:=hmI.nm;have e3:=hmI.r1;have e4:=hmI.r2;have e5:=hmI.lo;have e6:=hmI.st;simp only at e1 e2 e3 e4 e5 e6;simp[Cj,Rd.Mth.withMaps,e1,e2,e3,e4,e5,e6]
    have HCE:=Ac Bb;have hown3:=Av hown (Kp.of_below (e:=none) hb3) (by decide);have HL3:Hid (∀ p∈l++[(x.withMaps mp,(⟨.slice pa pl pc,.slice ca cn cc,.slice ha hl hc,.slice va vn vc⟩:MthV))],MthR (w2.setCell ⟨wr.heap.size,9,none⟩ (.slice va vn vc)) bm p.1 p.2):=fun p hp=>by
     rcases List.mem_append.1 hp with hp|hp
     ·exact(Aa HL p hp).below hb3
     ·rw[List.mem_singleton.1 hp];exact hM3
    have hB3:=hBW.trans (hb3.mono hWs);clear Bb hown HL hTr hYr hB hBW hbM hBM CF1 CZ1 CT1 CM1 CF CZ CT a0 a1 t0 t1 lF lT hmI hm hM3 hmr hmp k3 hB2 hbr hb2 HF
    go_upto_region 10 with fail
    clear m9 q9 lM CM2;generalize w2.setCell ⟨wr.heap.size,9,none⟩ (.slice va vn vc)=w3 at *;obtain⟨m0,m1,m2,m3,m4,m5,m6,m7,m8,m9⟩:=Dc CM3;have lM:=lt_of_block CM3;have hs3:=hB3.size;simp at m0 m1 m2 m3 m4 m5 m6 m7 m8 m9;go_wp2_with (at_builtin;refine wpList_append_own _ rfl _ _ 61 rfl W1.heap.size 94 j0 _ 10 144 Tryz.underlying61 hj hy0 hy1 hy2 rfl (by decide) _ _ _ rfl (hown3.alloc _) ⟨w3.heap.size,0,none⟩ 1 1 [.int .i64 cl,.int .i64 nm,.slice pa pl pc,.int .i64 r1,.int .i64 r2,.int .i64 lo,.int .i64 st,.slice ca cn cc,.slice ha hl hc,.slice va vn vc] rfl rfl ?d1 ?d2 ?d3 ?d4 ?d5 ?_)
    case d1=>exact Au _ _ _ _ (by simp)
    case d2=>intro u hu;simp at hu;rcases hu with rfl | rfl | rfl | rfl | rfl | rfl | rfl | rfl | rfl | rfl<;>rfl
    case d3=>unfold maxLen;omega
    case d4=>omega
    case d5=>simp;omega
    intro v' w4 hown4 hgrow _;have hB4:=(hB3.alloc hs3 _).grown hgrow (by simp;omega) (fun z hz=>(hown3.lt z hz).1);have hK:=(Kp.alloc (e:=some 94) (b:=0) _ _).trans (Kp.of_grown hgrow (hown3.alloc _));have HL4:Hid (∀ p∈l++[(x.withMaps mp,(⟨.slice pa pl pc,.slice ca cn cc,.slice ha hl hc,.slice va vn vc⟩:MthV))],MthR w4 bm p.1 p.2):=fun p hp=>(Aa HL3 p hp).kp hK (by decide) (by decide) (by decide) (by decide);have hown5:w4.ownsRow W1.heap.size 94 10 v' (q+1) (Cb (l++[(x.withMaps mp,(⟨.slice pa pl pc,.slice ca cn cc,.slice ha hl hc,.slice va vn vc⟩:MthV))])):=by rw[Ig,Aa HCE];exact hown4
    have HR1n':Hid ((Aas FM ((lms.map Prod.fst).drop (q+1))).map ((l++[(x.withMaps mp,(⟨.slice pa pl pc,.slice ca cn cc,.slice ha hl hc,.slice va vn vc⟩:MthV))]).map Prod.fst ++ ·)=R1):=by unfold Hid;rw[← Aa HR1n];simp
    clear hgrow hK hown3 hown4 HL3 hB3 CM3 m0 m1 m2 m3 m4 m5 m6 m7 m8 m9 lM HR1n;go_wp2
    go_roundw
    case rel=>exact⟨q+1,_,by omega,by go_num,by simp[hll],HR1n',HR2n,hown5,HL4,hB4⟩
    case measure=>simp[intOf];omega
  ·have kb:¬ (q:Int)<(lms.length:Int):=by omega
   have e1:R1=some (l.map Prod.fst):=by rw[← Aa HR1,List.drop_eq_nil_of_le (by simp;omega)];simp[Aas]
   have e2:R2=0:=by rw[← Aa HR2,List.drop_eq_nil_of_le (by simp;omega)];rfl
   have HE1:=Ac e1;have HE2:=Ac e2;have a0:=Ab CF 0;obtain⟨z0,z1⟩:=cl2 CZ;obtain⟨q0,q1⟩:=fr2 CZ;have lF:=lt_of_block CF;have lZ2:=lt_of_block CZ;simp at a0 z0 z1;have hres:MthsR wr bm (.slice xa q xc) l:=⟨by rw[hll];exact Ba hown (by have:=hB2.size;omega),Aa HL⟩;have k1:=(Kp.set (b:=0) (i:=0) CZ (.slice fa1 fl1 fc1)).trans (Kp.set (i:=1) (Ai (i:=0) CZ (.slice fa1 fl1 fc1)) (.slice xa q xc));have hres2:MthsR ((wr.setCell ⟨w.heap.size+1,0,none⟩ (.slice fa1 fl1 fc1)).setCell ⟨w.heap.size+1,1,none⟩ (.slice xa q xc)) bm (.slice xa q xc) l:=⟨Av hres.1 (k1.up bm) (by decide),fun p hp=>(hres.2 p hp).kp k1 (by decide) (by decide) (by decide) (by decide)⟩;clear e1 e2 HR1 HR2 hres k1;go_wp2;refine bodyPost_ret (v:=.tuple #[.agg #[.slice fa1 fl1 fc1,.slice xa q xc],.int .i64 0,.bool true]) (by simp[results,Tryz.results22,go_sem,z0,z1]) rfl ?_;exact⟨fa1,fl1,fc1,xa,q,xc,by rw[Aa HE1,Aa HE2];rfl,fun r hr=>⟨rfl,rfl,rfl,l,by rw[Aa HE1]at hr;exact Option.some.inj hr,hres2⟩,(hB.setCell (by simp) _).setCell (by simp) _⟩
def Aej (cs:List Rd.Cls) (ms:List Rd.Mth) (m:Rd.Mth) (t:Zv):Prop:=(Aa4 cs ms m).Ok t∧t.sp.length=m.code.length
theorem Xf {cs:List Rd.Cls}{ms:List Rd.Mth} (k:Ace cs ms) {m:Rd.Mth} (hm:m∈ms) (hc:0<m.code.length) {i:Cd.Ins} (hi:i∈Cd.readL m.code) {t:Zv} (ht:Aej cs ms m t) (hl:i.place<(t.sp.length:Int)) (hr:(t.at i.place.toNat).ri=true) :
  Ad7 (Tr.tree cs) m (t.at i.place.toNat).fr∧Aej cs ms m (Abc (Aa4 cs ms m) (Aaq cs ms m) i (t.at i.place.toNat).fr (t.calm i.place.toNat)):=by
 have gE:=Ep k hm hc;obtain⟨hL,_⟩:=Gb k hm;obtain⟨p,hp⟩:=hL i hi;have hq:i.place.toNat<t.sp.length:=by have:=hp.pl;omega
 have hx:=(ht.1 _ (Abx hq)).1 ((ht.1 _ (Abx hq)).2 hr);obtain⟨c1,c2,_⟩:=Ad8 (K:=0) ht.1 hq hr;have le:=Lm gE hL i hi _ _ hx c1;exact⟨hx,le.ok,le.len.trans (c2.trans ht.2)⟩
theorem Pq {cs:List Rd.Cls}{ms:List Rd.Mth} (k:Ace cs ms) {m:Rd.Mth} (hmem:m∈ms) (hc:0<m.code.length) {lcs:List (Rd.Cls × Value)}{lms:List (Rd.Mth × MthV)}{b:PBd}{bm bb:Nat}{w0:World}
  (hAt:∀ w',Below w0.heap.size w0 w'→InsAt w' bb (.slice b.la b.L.length b.lc) b.L→Ae9 cs ms lcs lms b m bm w') {S G gc:Nat} (hS:w0.heap.size≤S) (hG:w0.heap.size≤G) {t:Zv} (ht:Aej cs ms m t) {w:World} (hB:Below w0.heap.size w0 w) (hI:InsAt w bb (.slice b.la b.L.length b.lc) b.L) (h:LsAt w S G b gc t) :
  Calls Tryz.prog 80 #[.pointer (some ⟨S,0,none⟩)] w fun e w'=>e=.returned (.bool ((Zz (Abc (Aa4 cs ms m) (Aaq cs ms m)) (Cd.readL m.code) false t).2 && !(Zz (Abc (Aa4 cs ms m) (Aaq cs ms m)) (Cd.readL m.code) false t).1.hop)) ∧
   LsAt w' S G b gc (Zz (Abc (Aa4 cs ms m) (Aaq cs ms m)) (Cd.readL m.code) false t).1∧Aej cs ms m (Zz (Abc (Aa4 cs ms m) (Aaq cs ms m)) (Cd.readL m.code) false t).1∧Lw S G w w':=by
 have g:=k.mt m hmem;have h0:=hAt w hB hI;have eL:=h0.L;have eT:=h0.T;have est:b.st=m.stack:=h0.is.st;have ehl:b.hl=m.handlers.length:=h0.is.hl;have hlen:(Cd.readL m.code).length≤100000:=by rw[← eL];exact h0.ru.ll
 have hh4:=g.bd.hs;have h120:=g.bd.code;refine Ti b S G gc bb (Cd.readL m.code) _ (Aej cs ms m) t w eL hlen h ht (fun i hi=>?_) (fun w' hk=>?_) (fun i hi t' ht' hl hr=>(Xf k hmem hc hi ht' hl hr).2) (fun i hi t' ht' hl hr v w' hk hL' hv=>?_)
 ·obtain⟨p,hp⟩:=(Gb k hmem).1 i hi;have:=hp.pl;omega
 ·have:=Ia hI h hk (by decide) (by decide);rw[← eL];exact this
 ·obtain⟨hx,_⟩:=Xf k hmem hc hi ht' hl hr;rw[Kt g]at hi;obtain⟨p,hp,rfl⟩:=List.mem_map.1 hi;have hpl:p<m.code.length:=Mg hp;have hI1:=Ia hI h hk (by decide) (by decide);have hB1:=hB.trans (hk.below hS hG hB.size);have at3:∀ w3,Lw S G w' w3→Ae9 cs ms lcs lms b m bm w3:=fun w3 k3=>hAt w3 (hB1.trans (k3.below hS hG hB1.size)) (Ia hI1 hL' k3 (by decide) (by decide));have e1:((Cd.insAt m.code p).place).toNat=p:=by show ((p:Int)).toNat=p;omega
  rw[e1]at hL' hv hx ⊢;have hT:∀ w3,Lw S G w' w3→TreeIn w3 b.tg b.T:=fun w3 k3=>(at3 w3 k3).ru.tr;have hH:=fun w3 (hb:Below w'.heap.size w' w3)=>Tu b S G gc m.handlers bm (p:Int) (t'.calm p) v (t'.at p).fr w3 h0.ru.tl (fun w4 k4=>hT w4 ((Lw.of_below hb).trans k4)) ehl (by omega) (fun w4 k4=>(at3 w4 ((Lw.of_below hb).trans k4)).is.hs) (hL'.below hb) (hv.below hb);have:=Ug b S G gc p (Cd.insAt m.code p).op (Cd.insAt m.code p).n (t'.calm p) _ (Aaq cs ms m (Cd.insAt m.code p) (t'.at p).fr) v w' h0.ru.tl hT (by omega) hL' hH (fun w3 k3=>Od (at3 w3 k3) p v (t'.at p).fr hp (hv.lw k3) hx);rw[eT,est]at this;have el:=Sw (Tr.tree cs) m.stack m.handlers (Aaq cs ms m) (Cd.insAt m.code p) (t'.at p).fr (t'.calm p);show Calls Tryz.prog 127 _ w' fun e w''=>e=.returned (.tuple #[])∧LsAt w'' S G b gc (Acz (Tr.tree cs) m.stack m.handlers (Aaq cs ms m) (Cd.insAt m.code p) (t'.at p).fr (t'.calm p))∧Lw S G w' w'';rw[el];exact this
theorem Sh {cs:List Rd.Cls}{ms:List Rd.Mth} (k:Ace cs ms) {a1 a2:Option Addr}{n1 c1 c2 bm:Nat}{lcs:List (Rd.Cls × Value)}{lms:List (Rd.Mth × MthV)}{w:World} (ec:lcs.map Prod.fst=cs) (hcl:ClssIn w bm (.slice a1 n1 c1) lcs) (em:lms.map Prod.fst=ms) (hml:MthsIn w bm (.slice a2 lms.length c2) lms)
  {x:Rd.Mth} (hmem:x∈ms) (hc:0<x.code.length) {tg tc:Nat}{ya:Option Addr}{yn yc:Nat}{m:PM}{w':World} (hb:Below w.heap.size w w') (htr:TreeIn w' tg (Tr.tree cs)) {b0:Nat} (hrow:w'.ownsRow b0 48 1 (.slice ya yn yc) (7+lcs.length) (Tr.fvals lcs)) (his:m.is x w' bm) :
  Calls Tryz.prog 42 #[.agg #[.slice a1 n1 c1,.slice a2 lms.length c2],.agg #[.slice (some ⟨tg,0,none⟩) (Tr.tree cs).length tc,.slice ya yn yc],m.val] w' fun e w''=>∃ a n c,e=.returned (.tuple #[.slice a n c,.bool (Aaw cs ms x).isSome])∧(∀ mp,Aaw cs ms x=some mp→∃ l,l.map Prod.fst=mp∧MpsR w'' w'.heap.size (.slice a n c) l)∧Below w'.heap.size w' w'':=by
 have g:=k.mt x hmem;have gE:=Ep k hmem hc;obtain⟨hL,hA⟩:=Gb k hmem;have hTl:=Cc cs;have hl6:=k.l6;have hm6:=k.m6;have hl1:lcs.length=cs.length:=by rw[← ec];simp
 have hl2:lms.length=ms.length:=by rw[← em];simp
 have h120:=g.bd.code;have hlo:=g.rd.lo;have est:=his.st;have hpl:∀ i∈Cd.readL x.code,0≤i.place:=fun i hi=>by obtain⟨p,hp⟩:=hL i hi;have:=hp.pl;omega
 have i0:=Qo (Aa4 cs ms x);have il:(Ac8 (Aa4 cs ms x)).sp.length=(Aa4 cs ms x).n:=by simp[Ac8]
 have ca:=Fe gE i0 il (x:=(Aa4 cs ms x).x0) ⟨gE.x0.lo,gE.x0.tl,gE.x0.ts⟩ 0;have h0:Aej cs ms x (Aaf (Tr.tree cs) m.st (Aco x) 0 ⟨List.replicate x.code.length Ab4,false⟩):=by
  rw[est];exact⟨ca.up.ok,ca.up.len.trans il⟩
 have hkk:=Lm gE hL;have hps:∀ t,Aej cs ms x t→Abp (Tr.tree cs) x.locals.toNat x.stack (Ae2 x.code) (Acv (Tr.tree cs) x.locals.toNat x.stack) t (Zz (Abc (Aa4 cs ms x) (Aaq cs ms x)) (Cd.readL x.code) false t).1∧((Zz (Abc (Aa4 cs ms x) (Aaq cs ms x)) (Cd.readL x.code) false t).2=true→false=false→Ac4 (Tr.tree cs) (Acv (Tr.tree cs) x.locals.toNat x.stack) (Zz (Abc (Aa4 cs ms x) (Aaq cs ms x)) (Cd.readL x.code) false t).1<Ac4 (Tr.tree cs) (Acv (Tr.tree cs) x.locals.toNat x.stack) t):=fun t ht=>Hk (Cd.readL x.code) hpl hkk false ht.1;have hst:=fun w2 (h:Below w'.heap.size w' w2)=>(show Calls Tryz.prog 78 #[m.val] w2 fun e w''=>∃ u:FrV,e=.returned u.val∧u.is (Aco x) w''∧Below w2.heap.size w2 w'' from by
  have h2:=his.below h;have:=Sm m x.params x.locals.toNat w2 (by rw[h2.lo];omega) (by omega) (TyR.of_tys h2.ps) (by have:=g.bd.ps;omega);rw[h2.cl]at this;exact this)
 have hfind:=Vb a1 a2 n1 c1 lms.length c2 tg tc ya yn yc (Tr.tree cs) m x bm (Aco x) (Abc (Aa4 cs ms x) (Aaq cs ms x)) (Aej cs ms x) (Ac4 (Tr.tree cs) (Acv (Tr.tree cs) x.locals.toNat x.stack)) (Aeq (Tr.tree cs) (Acv (Tr.tree cs) x.locals.toNat x.stack) (Abc (Aa4 cs ms x) (Aaq cs ms x)) (Cd.readL x.code)) w' (by omega) htr his (by omega) g.bd.code0 hst h0
  (fun t ht=>by
   have:=Tq (K:=Acv (Tr.tree cs) x.locals.toNat x.stack) hpl hkk ht.1;refine this.trans ?_;have hiff:((Zz (Abc (Aa4 cs ms x) (Aaq cs ms x)) (Cd.readL x.code) false t).2=true∧(Zz (Abc (Aa4 cs ms x) (Aaq cs ms x)) (Cd.readL x.code) false t).1.hop=false)↔((Zz (Abc (Aa4 cs ms x) (Aaq cs ms x)) (Cd.readL x.code) false t).2 && !(Zz (Abc (Aa4 cs ms x) (Aaq cs ms x)) (Cd.readL x.code) false t).1.hop)=true:=by simp
   simp only[hiff];rfl)
  (fun t ht h=>(hps t ht).2 (by simp at h;exact h.1) rfl)
  (fun la lc bb S G t w2 hB2 hS hG hI ht hLs=>by
   refine Pq (lcs:=lcs) (lms:=lms) (bm:=bm) k hmem hc (fun w3 hB3 hI3=>?_) hS hG ht hB2 hI hLs;have hw3:=QB hb hB3;obtain⟨ya',yc',hsh⟩:=Af hrow;simp only[Value.slice.injEq]at hsh;refine⟨k,ec,em,hmem,rfl,rfl,⟨rfl,by omega,?_,(by rw[Nq];exact hsh.2.1),(by rw[Nq];omega),?_,⟨?_,?_⟩,(by show (Tr.tree cs).length≤1000;omega),htr.below hB3,?_,Ba hI3 (Nat.zero_le _)⟩,?_⟩
   ·exact(hml.kp (Kp.of_below (e:=none) hw3) (by decide) (by decide) (by decide) (by decide) (by decide)).mono (Nat.zero_le _)
   ·intro q hq;unfold Ad3 at hq;rcases List.mem_append.1 hq with hq | hq
    ·rw[(List.mem_replicate.1 hq).2];simp
    ·obtain⟨c,hc',rfl⟩:=List.mem_map.1 hq;exact k.fn c.1 (by rw[← ec];exact List.mem_map.2 ⟨c,hc',rfl⟩)
   ·rw[Yv,Nq];exact Ba (Av hrow (Kp.of_below (e:=none) hB3) (by decide)) (Nat.zero_le _)
   ·intro q hq;unfold Ad3 at hq;rcases List.mem_append.1 hq with hq | hq
    ·rw[(List.mem_replicate.1 hq).2];exact TyR.nil _
    ·obtain⟨c,hc',rfl⟩:=List.mem_map.1 hq;exact TyR.of_tys ((hcl.kp (Kp.of_below (e:=none) hw3) (by decide) (by decide)).2 c hc')
   ·show (Cd.readL x.code).length≤100000;rw[Nf g.unread];have:=Mb x.code;omega
   ·have h3:=his.below hB3;have ecn:=h3.cn;obtain⟨cl,nm,pa,pl,pc,r1,r2,lo,st,ca,cn,cc,ha,hl',hc',ma,ml,mc⟩:=m;simp only at ecn;subst ecn;exact h3)
 refine hfind.mono ?_;rintro e w2 ⟨a,n,c,rfl,h2,h3⟩;rw[est]at h2 ⊢;change (Aba cs ms x).hop=false→∃ l,l.map Prod.fst=Aav 0 (Aba cs ms x).sp∧MpsR w2 w'.heap.size (.slice a n c) l at h2;refine⟨a,n,c,?_,fun mp hmp=>?_,h3⟩
 ·show Ending.returned (.tuple #[.slice a n c,.bool (!(Aba cs ms x).hop)])=_;unfold Aaw;cases (Aba cs ms x).hop<;>rfl
 ·unfold Aaw at hmp;by_cases hh:(Aba cs ms x).hop=true
  ·rw[if_pos hh]at hmp;cases hmp
  ·rw[if_neg hh]at hmp;cases hmp;exact h2 (by simpa using hh)
theorem Rk {cs:List Rd.Cls}{ms:List Rd.Mth} (k:Ace cs ms) (hcode:∀ m∈ms,0<m.code.length) {a1 a2:Option Addr}{n1 c1 n2 c2 bm:Nat}{lcs:List (Rd.Cls × Value)}{lms:List (Rd.Mth × MthV)}{w:World} (hbm:bm≤w.heap.size) (ec:lcs.map Prod.fst=cs) (hcl:ClssIn w bm (.slice a1 n1 c1) lcs) (em:lms.map Prod.fst=ms) (hml:MthsIn w bm (.slice a2 n2 c2) lms) :
  Calls Tryz.prog 22 #[.agg #[.slice a1 n1 c1,.slice a2 n2 c2]] w fun e w'=>∃ ga gn gc ha hn hc,e=.returned (.tuple #[.agg #[.slice ga gn gc,.slice ha hn hc],.int .i64 (Ach (Aaw cs ms) 0 ms),.bool (Aas (Aaw cs ms) ms).isSome]) ∧
   (∀ r,Aas (Aaw cs ms) ms=some r→ga=a1∧gn=n1∧gc=c1∧∃ l,l.map Prod.fst=r∧MthsR w' bm (.slice ha hn hc) l)∧Below w.heap.size w w':=by
 obtain⟨xa,xc,hsh⟩:=Af hml.1;simp only[Value.slice.injEq]at hsh;obtain⟨rfl,rfl,rfl⟩:=hsh;have hl1:lcs.length=cs.length:=by rw[← ec];simp
 have hl2:lms.length=ms.length:=by rw[← em];simp
 have hl6:=k.l6;have hm6:=k.m6;have:=Wp a1 a2 n1 c1 c2 bm lcs lms (Aaw cs ms) w hbm (by omega) hcl (by omega) hml (fun p hp tg tc ya yn yc m w' hb htr hrow his=>by
  have hmem:p.1∈ms:=by rw[← em];exact List.mem_map.2 ⟨p,hp,rfl⟩
  rw[ec]at htr ⊢;exact Sh k ec hcl em hml hmem (hcode _ hmem) hb htr hrow his)
 rw[em]at this;exact this
theorem Hq:∀ (l:List Ac7) (k:Nat) (q:Rd.Mp),q∈Aav k l→∃ i p,l[i]?=some p∧p.wa=true∧q=⟨((k+i:Nat):Int),p.fr.locals,p.fr.stack⟩
 | [],_,_,h=>by simp[Aav]at h
 | p::r,k,q,h=>by
  unfold Aav at h;by_cases hw:p.wa=true
  ·rw[if_pos hw]at h;rcases List.mem_cons.1 h with rfl | h
   ·exact⟨0,p,rfl,hw,rfl⟩
   ·obtain⟨i,p',h1,h2,h3⟩:=Hq r (k+1) q h;exact⟨i+1,p',h1,h2,by rw[h3,show k+1+i=k+(i+1) by omega]⟩
  ·rw[if_neg hw]at h;obtain⟨i,p',h1,h2,h3⟩:=Hq r (k+1) q h;exact⟨i+1,p',h1,h2,by rw[h3,show k+1+i=k+(i+1) by omega]⟩
theorem Ku:∀ (l:List Ac7) (k:Nat),(Aav k l).length≤l.length
 | [],_=>Nat.le_refl _
 | p::r,k=>by
  have:=Ku r (k+1);unfold Aav
  split<;>simp<;>omega
theorem M9 {E:Zx} (g:E.Good) {bh:Cd.Ins→Zt→Option Zt}{L:List Cd.Ins} (hL:∀ i∈L,∃ p,Adf E bh i p) (hA:∀ p∈E.ps,∃ i∈L,i.place=(p:Int)) (hh:(Aan E bh L).hop=false) {q:Nat} (hw:((Aan E bh L).at q).wa=true):((Aan E bh L).at q).st=true∧E.I ((Aan E bh L).at q).fr:=by
 obtain⟨ok,_,p3,_⟩:=Fo g hL hA;obtain⟨sol,_,aim⟩:=p3 hh;obtain⟨p,hp,hF,ha⟩:=(aim q).1 hw;have key:∃ z,(Aan E bh L).F q=some z:=by
  cases e:(Aan E bh L).F p with
  | none=>exact absurd e hF
  | some x =>
   have sat:=sol.sat p hp x e;rcases ha with ⟨h,hm,hc,rfl⟩ | ⟨hj,rfl⟩
   ·obtain⟨_,_,_,⟨z,hz,_⟩,_⟩:=sat.go _ _ _ (.hnd h hm hc);exact⟨z,hz⟩
   ·obtain⟨y,hy⟩:=sat.rl;obtain⟨_,_,_,⟨z,hz,_⟩,_⟩:=sat.go _ _ _ (.jmp y hy hj);exact⟨z,hz⟩
 obtain⟨z,hz⟩:=key;obtain⟨e1,_⟩:=Ct.1 hz;exact⟨e1,Dl ok e1⟩
theorem Jf {cs:List Rd.Cls}{ms:List Rd.Mth} (k:Ace cs ms) {m:Rd.Mth} (hm:m∈ms) (hc:0<m.code.length) {mp:List Rd.Mp} (h:Aaw cs ms m=some mp):mp.length≤m.code.length∧∀ q∈mp,0≤q.place∧q.place<(m.code.length:Int)∧Ad7 (Tr.tree cs) m ⟨q.locals,q.stack⟩:=by
 have gE:=Ep k hm hc;obtain⟨hL,hA⟩:=Gb k hm;unfold Aaw at h;by_cases hh:(Aba cs ms m).hop=true
 ·rw[if_pos hh]at h;cases h
 ·rw[if_neg hh]at h;cases h;have hlen:(Aba cs ms m).sp.length=m.code.length:=(Fo gE hL hA).2.1;refine⟨by have:=Ku (Aba cs ms m).sp 0;omega,fun q hq=>?_⟩;obtain⟨i,p,h1,h2,rfl⟩:=Hq _ _ _ hq;have hi:i<(Aba cs ms m).sp.length:=(List.getElem?_eq_some_iff.1 h1).1;have ea:(Aba cs ms m).at i=p:=by unfold Zv.at;rw[List.getD_eq_getElem?_getD,h1];rfl
  have hw:=M9 gE hL hA (show (Aba cs ms m).hop=false by simpa using hh) (q:=i) (by show ((Aba cs ms m).at i).wa=true;rw[ea];exact h2);have hI:Ad7 (Tr.tree cs) m ((Aba cs ms m).at i).fr:=hw.2;rw[ea]at hI;exact⟨by simp only;omega,by simp only;omega,hI⟩
theorem Fp {FM:Rd.Mth→Option (List Rd.Mp)}:∀ (l r:List Rd.Mth),Aas FM l=some r→r.length=l.length∧∀ y∈r,∃ m∈l,∃ mp,FM m=some mp∧y=m.withMaps mp
 | [],r,h=>by cases h;exact⟨rfl,fun y hy=>by simp at hy⟩
 | m::l,r,h=>by
  unfold Aas at h;cases hf:FM m with
  | none=>rw[hf]at h;cases h
  | some mp =>
   rw[hf]at h;simp only at h;cases hr:Aas FM l with
   | none=>rw[hr]at h;cases h
   | some r' =>
    rw[hr]at h;cases h;obtain⟨h1,h2⟩:=Fp l r' hr;refine⟨by simp[h1],fun y hy=>?_⟩;rcases List.mem_cons.1 hy with rfl | hy
    ·exact⟨m,by simp,mp,hf,rfl⟩
    ·obtain⟨m',h3,h4⟩:=h2 y hy;exact⟨m',by simp[h3],h4⟩
def Acw (s:List UInt8):List UInt8 × Int × Int :=
 if (Rf.formed s).1≠0 then ([],(Rf.formed s).1,(Rf.formed s).2.1)
 else match Aas (Aaw (Rd.read s).1.classes (Rd.read s).1.methods) (Rd.read s).1.methods with
  | none=>([],10,Ach (Aaw (Rd.read s).1.classes (Rd.read s).1.methods) 0 (Rd.read s).1.methods)
  | some r=>(Adu ⟨(Rd.read s).1.classes,r⟩,0,0)
theorem D8 {s:List UInt8} (h:(Rf.formed s).1=0):(Rd.read s).2=0:=by
 rw[← Gt]at h;unfold Acq at h;by_cases h0:(Rd.read s).2≠0
 ·rw[if_pos h0]at h;exact absurd h h0
 ·simpa using h0
theorem Vo (s:ByteArray) (h:(Rf.formed s.data.toList).1=0) {r:List Rd.Mth} (hr:Aas (Aaw (Rd.read s.data.toList).1.classes (Rd.read s.data.toList).1.methods) (Rd.read s.data.toList).1.methods=some r):(Adu ⟨(Rd.read s.data.toList).1.classes,r⟩).length≤100000:=by
 obtain⟨k,_,_⟩:=Dz _ h;have hcode:=Fh _ (D8 h);obtain⟨hm6,hmb⟩:=Gi s.data.toList;obtain⟨hc6,hcf⟩:=Gy s.data.toList;generalize (Rd.read s.data.toList).1=f at *;obtain⟨cs,ms⟩:=f;simp only at k hcode hm6 hmb hc6 hcf hr ⊢;obtain⟨e1,e2⟩:=Fp _ _ hr;unfold Adu Aei;simp only[List.length_append,List.length_cons,List.length_nil];have h1:=Iw Acr 2002 cs (fun x hx=>by have:=hcf x hx;simp only[Acr,List.length_cons,Abi];omega);have h2:=Iw Aby 5000 r (fun x hx=>by
  obtain⟨m,hm,mp,hmp,rfl⟩:=e2 x hx;obtain⟨f1,f2⟩:=Jf k hm (hcode m hm) hmp;have b:=hmb m hm;have g1:=b.ps;have g2:=b.code;have g3:=b.hs;have g:=k.mt m hm;have g4:=g.rd.lo;have g5:=g.rd.st;have h3:=Iw Abr 34 mp (fun q hq=>by
   obtain⟨_,_,hP⟩:=f2 q hq;have l1:=hP.lo;have l2:=hP.hi;simp only at l1 l2;simp only[Abr,List.length_cons,List.length_append,Abi];omega)
  rw[Ae4];simp only[Rd.Mth.withMaps,Adb,Ab7,List.length_cons,Aew];omega)
 omega
theorem Py (s:ByteArray) (w:World) (hs:s.size≤maxLen) :
  Calls Tryz.prog 9 #[.string s] w fun e w'=>e=.returned (.tuple #[.string ⟨(Acw s.data.toList).1.toArray⟩,.int .i64 (Acw s.data.toList).2.1,.int .i64 (Acw s.data.toList).2.2])∧Below w.heap.size w w':=by
 have hrd:=fun w=>Ul s w hs;have hfm:=Gt s.data.toList;have hsz:=fun h r hr=>Vo s h (r:=r) hr;have hgd:=fun h=>Dz s.data.toList h;have hcd:=fun h=>Fh s.data.toList (D8 h);obtain⟨hm6,-⟩:=Gi s.data.toList;obtain⟨hc6,-⟩:=Gy s.data.toList;rw[hfm]at hrd;unfold Acw;generalize Rf.formed s.data.toList=P at *;generalize Rd.read s.data.toList=q at *;obtain⟨P1,P2,P3⟩:=P;obtain⟨⟨cs,ms⟩,er⟩:=q;simp only at hrd hsz hgd hcd hm6 hc6 ⊢;have HRD:=Ac hrd;clear hrd hfm;by_cases h1:P1=0
 ·subst h1;rw[if_neg (by simp)];obtain⟨k,-,-⟩:=hgd rfl;have hcode:=hcd rfl;have hsz':=hsz rfl;have hfi:=fun (a1 a2:Option Addr) (n1 c1 n2 c2 bm:Nat) (lcs:List (Rd.Cls × Value)) (lms:List (Rd.Mth × MthV)) (w':World) hbm ec hcl em hml=>Rk (a1:=a1) (a2:=a2) (n1:=n1) (c1:=c1) (n2:=n2) (c2:=c2) (bm:=bm) (lcs:=lcs) (lms:=lms) (w:=w') k hcode hbm ec hcl em hml;generalize hF:Aas (Aaw cs ms) ms=FL at *;generalize Ach (Aaw cs ms) 0 ms=WH at *;have HFI:=Ac hfi;have HSZ:=Ac hsz';clear hgd hcd hsz hsz' hfi k hcode;cases FL with
  | none =>
   simp only;go_enter Tryz.func9,Tryz.ntmps9;go_wp2_with fail
   refine(Aa HRD _).mono ?_;rintro e w1 ⟨a1,n1,c1,a2,n2,c2,rfl,hok,hb1⟩;obtain⟨lcs,lms,hl1,hcs,hl2,hms⟩:=hok trivial;clear hok;have hs1:=hb1.size;have hB1:=(hb1.alloc hs1 (O1 a1 n1 c1 a2 n2 c2)).alloc (by simp;omega) (O8 0 P2 P3);have k1:Kp none w.heap.size w1 ((w1.alloc (O1 a1 n1 c1 a2 n2 c2)).alloc (O8 0 P2 P3)):=(Kp.alloc _ _).trans (Kp.alloc _ _);have hcs1:=hcs.kp k1 (by decide) (by decide);have hms1:=hms.kp k1 (by decide) (by decide) (by decide) (by decide) (by decide);have HF1:=Ac (Aa HFI a1 a2 n1 c1 n2 c2 w.heap.size lcs lms _ (by simp;omega) hl1 hcs1 hl2 hms1);clear hcs hms k1 hcs1 hms1;go_wp2_with fail
   refine(Aa HF1).mono ?_;rintro e w2 ⟨ga,gn,gc,ha,hn,hc,rfl,-,hb2⟩;have hB2:=QB hB1 hb2;go_wp2;refine bodyPost_ret (v:=.tuple #[.string ⟨#[]⟩,.int .i64 10,.int .i64 WH]) (by simp[results,Tryz.results9,go_sem]) rfl ?_;exact⟨rfl,hB2.alloc hB2.size _⟩
  | some r =>
   simp only;have hrl:=Aa HSZ r rfl;have e1:=(Fp _ _ hF).1;go_enter Tryz.func9,Tryz.ntmps9;go_wp2_with fail
   refine(Aa HRD _).mono ?_;rintro e w1 ⟨a1,n1,c1,a2,n2,c2,rfl,hok,hb1⟩;obtain⟨lcs,lms,hl1,hcs,hl2,hms⟩:=hok trivial;clear hok;have hs1:=hb1.size;have hB1:=(hb1.alloc hs1 (O1 a1 n1 c1 a2 n2 c2)).alloc (by simp;omega) (O8 0 P2 P3);have k1:Kp none w.heap.size w1 ((w1.alloc (O1 a1 n1 c1 a2 n2 c2)).alloc (O8 0 P2 P3)):=(Kp.alloc _ _).trans (Kp.alloc _ _);have hcs1:=hcs.kp k1 (by decide) (by decide);have hms1:=hms.kp k1 (by decide) (by decide) (by decide) (by decide) (by decide);have HF1:=Ac (Aa HFI a1 a2 n1 c1 n2 c2 w.heap.size lcs lms _ (by simp;omega) hl1 hcs1 hl2 hms1);clear hcs hms k1 hms1;go_wp2_with fail
   refine(Aa HF1).mono ?_;rintro e w2 ⟨ga,gn,gc,ha,hn,hc,rfl,hall,hb2⟩;obtain⟨rfl,rfl,rfl,l,hl,hmr⟩:=hall r rfl;have hB2:=QB hB1 hb2;have hs2:=hB2.size;have hcs2:=hcs1.kp (Kp.of_below (e:=none) hb2) (by decide) (by decide);obtain⟨xa,xc,hsh⟩:=Af hcs2.1;simp only[Value.slice.injEq]at hsh;obtain⟨rfl,rfl,rfl⟩:=hsh;obtain⟨xa,xc,hsh⟩:=Af hmr.1;simp only[Value.slice.injEq]at hsh;obtain⟨rfl,rfl,rfl⟩:=hsh;have hll1:lcs.length≤6:=by have:=congrArg List.length hl1;simp at this;omega
   have hll2:l.length≤6:=by have:=congrArg List.length hl;simp at this;omega
   have hbF:Below w2.heap.size w2 (w2.alloc (O1 ga lcs.length gc ha l.length hc)):=QN _;have hfil:(⟨lcs.map Prod.fst,l.map Prod.fst⟩:Rd.Fil)=⟨cs,r⟩:=by rw[hl1,hl]
   have hwr:=Rp ga ha gc hc w.heap.size lcs l (w2.alloc (O1 ga lcs.length gc ha l.length hc)) (by rw[hfil];exact hrl) (by omega) (by omega) (hcs2.kp (Kp.of_below (e:=none) hbF) (by decide) (by decide)) ⟨Av hmr.1 (Kp.of_below (e:=none) hbF) (by decide),fun p hp=>(hmr.2 p hp).below hbF⟩;rw[hfil]at hwr;have HWR:=Ac hwr;clear hwr hfil hcs1 hcs2 hmr hb2 hbF;go_wp2_with fail
   refine(Aa HWR).mono ?_;rintro e w3 ⟨rfl,hb3⟩;go_wp2;refine bodyPost_ret (v:=.tuple #[.string ⟨(Adu ⟨cs,r⟩).toArray⟩,.int .i64 0,.int .i64 0]) (by simp[results,Tryz.results9,go_sem]) rfl ?_;exact⟨rfl,(hB2.alloc hs2 _).trans (hb3.mono (by simp;omega))⟩
 ·rw[if_pos h1];have h1':(P1 != 0)=true:=by simpa using h1
  clear hgd hcd hsz;simp only;go_enter Tryz.func9,Tryz.ntmps9;go_wp2_with fail
  refine(Aa HRD _).mono ?_;rintro e w1 ⟨a1,n1,c1,a2,n2,c2,rfl,-,hb1⟩;have hs1:=hb1.size;have hB1:=(hb1.alloc hs1 (O1 a1 n1 c1 a2 n2 c2)).alloc (by simp;omega) (O8 P1 P2 P3);go_wp2
  go_quiet (fail)
  go_wp2;refine bodyPost_ret (v:=.tuple #[.string ⟨#[]⟩,.int .i64 P1,.int .i64 P2]) (by simp[results,Tryz.results9,go_sem]) rfl ?_;exact⟨rfl,Bg hB1⟩
theorem Ky (la lb:List (Int × Int)) (a1 a2:Option Addr) (c1 c2:Nat) (w:World) (ha:TyR w (.slice a1 la.length c1) la) (hb:TyR w (.slice a2 lb.length c2) lb) (hl:la.length≤1000) (hl2:lb.length≤1000) :
  Calls Tryz.prog 53 #[.slice a1 la.length c1,.slice a2 lb.length c2] w fun e w'=>e=.returned (.bool (decide (la=lb)))∧Below w.heap.size w w':=by
 by_cases hlen:la.length=lb.length
 ·generalize hr:decide (la=lb)=r;have HR:Hid (decide (la.drop 0=lb.drop 0)=r):=hr;clear hr;have hlen':((la.length:Int) != (lb.length:Int))=false:=by simp;omega
  have HHL:=Ac hlen;clear hlen;go_enter Tryz.func53,Tryz.ntmps53;go_wp2
  go_loopw [5] (fun v wr=>∃ k:Nat,k≤la.length∧v=.int .i64 (k:Int)∧Hid (decide (la.drop k=lb.drop k)=r)∧Below w.heap.size w wr)
   (fun v _=>la.length-(intOf v).toNat)
  case atStart=>exact⟨0,by omega,rfl,HR,Below.refl _ _⟩
  case round =>
   clear HR;obtain⟨k,hk,rfl,HR,hB⟩:=hrel;by_cases hkn:k<la.length
   ·have hkn2:k<lb.length:=by have:=Aa HHL;omega
    obtain⟨g,o,hg,hglt,hat⟩:=(ha.below hB).at (by omega);obtain⟨g2,o2,hg2,hglt2,hat2⟩:=(hb.below hB).at (by omega);obtain⟨u0,u1⟩:=hat k hkn;obtain⟨v0,v1⟩:=hat2 k hkn2;have hr:=Aa HR;rw[Gc hkn hkn2]at hr;generalize la[k]=x at *;generalize lb[k]=y at *;obtain⟨x1,x2⟩:=x;obtain⟨y1,y2⟩:=y;simp only[Prod.mk.injEq]at u0 u1 v0 v1 hr;have kb1:(k:Int)<(la.length:Int):=by omega
    have kb2:(k:Int)<(lb.length:Int):=by omega
    have HRR:=Ac hr;clear hr HR hat hat2;subst hg hg2;by_cases hxy:x1=y1∧x2=y2
    ·obtain⟨rfl,rfl⟩:=hxy;have HF:Hid (decide (la.drop (k+1)=lb.drop (k+1))=r):=by unfold Hid;rw[← Aa HRR];simp
     clear HRR;go_wp2
     go_region
     all_goals
      go_wp2
      go_roundw
      case rel=>exact⟨k+1,by omega,by go_num,HF,hB.drew⟩
      case measure=>simp[intOf];omega
    ·have hr2:r=false:=by rw[← Aa HRR];simp[hxy]
     have HF:=Ac hr2;clear HRR hr2;by_cases h1:x1=y1
     ·subst h1;have h2:¬ x2=y2:=fun h=>hxy ⟨rfl,h⟩;clear hxy;go_wp2
      go_region
      all_goals
       go_wp2;go_ret;exact⟨by rw[Aa HF];rfl,hB.drew⟩
     ·clear hxy;go_wp2
      go_region
      all_goals
       go_wp2;go_ret;exact⟨by rw[Aa HF];rfl,hB.drew⟩
   ·have hr2:r=true:=by
     rw[← Aa HR,List.drop_eq_nil_of_le (by omega),List.drop_eq_nil_of_le (by have:=Aa HHL;omega)];rfl
    have HF:=Ac hr2;have kb1:¬ (k:Int)<(la.length:Int):=by omega
    clear hr2 HR;go_wp2;go_ret;exact⟨by rw[Aa HF];rfl,hB⟩
 ·have hne:la≠lb:=fun h=>hlen (by rw[h]);have hd:decide (la=lb)=false:=by simp[hne]
  rw[hd];have hlen':((la.length:Int) != (lb.length:Int))=true:=by simp;omega
  clear hlen hne;go_enter Tryz.func53,Tryz.ntmps53;go_wp2;go_ret;exact⟨rfl,Below.refl _ _⟩
def RFv.joinsAs (f:RFv) (T:List Int) (w:World):Prop:=∀ a b:Int × Int,Tr.Arg T a.1 a.2→Tr.Arg T b.1 b.2→∀ w',Below w.heap.size w w' →
 Calls Tryz.prog 103 #[f.val,.agg #[.int .i64 a.1,.int .i64 a.2],.agg #[.int .i64 b.1,.int .i64 b.2]] w' fun e w''=>e=.returned (.agg #[.int .i64 (Tr.joinT T a b).1,.int .i64 (Tr.joinT T a b).2])∧Below w'.heap.size w' w''
theorem RFv.joinsAs.below {f:RFv}{T:List Int}{w w':World} (h:f.joinsAs T w) (hb:Below w.heap.size w w'):f.joinsAs T w':=fun a b ha hb' w'' h'=>h a b ha hb' w'' (hb.trans (h'.mono hb.size))
theorem RFl.joinsAs {f:RFl}{w:World} (hf:f.ok w) (hT:Tr.Ok f.T):f.v.joinsAs f.T w:=fun a b ha hb w' h=>by
 have:=Te f.a1 f.a2 f.c1 f.ms.length f.c2 f.bb f.l a.1 a.2 b.1 b.2 w' (by have:=hf.1;omega) (hf.below h).2.2.2.2.1;rw[show Al f.l=f.T from rfl,Tr.rjoin_eq hT (a:=(a.1,a.2)) (b:=(b.1,b.2)) ha hb]at this;exact this
theorem Hi {w w':World}{k1 k2 k3 o1 o2:Nat}{u0 u1 u2 u3 u4 u5:Value} (l1:k1<w.heap.size) (l2:k2<w.heap.size) (l3:k3<w.heap.size)
  (h:w.cell? ⟨k1,0,none⟩=some u0∧w.cell? ⟨k1,1,none⟩=some u1∧w.cell? ⟨k2,o1,none⟩=some u2∧w.cell? ⟨k2,o1+1,none⟩=some u3∧w.cell? ⟨k3,o2,none⟩=some u4∧w.cell? ⟨k3,o2+1,none⟩=some u5) (hb:Below w.heap.size w w') :
  w'.cell? ⟨k1,0,none⟩=some u0∧w'.cell? ⟨k1,1,none⟩=some u1∧w'.cell? ⟨k2,o1,none⟩=some u2∧w'.cell? ⟨k2,o1+1,none⟩=some u3∧w'.cell? ⟨k3,o2,none⟩=some u4∧w'.cell? ⟨k3,o2+1,none⟩=some u5 :=
 ⟨QC hb l1 h.1,QC hb l1 h.2.1,QC hb l2 h.2.2.1,QC hb l2 h.2.2.2.1,QC hb l3 h.2.2.2.2.1,QC hb l3 h.2.2.2.2.2⟩
theorem Jb (f:RFv) (T:List Int) (a b:List (Int × Int)) (aa ab:Option Addr) (an ac bn bc:Nat) (w:World) (hJ:f.joinsAs T w) (ha:TyR w (.slice aa an ac) a) (hb:TyR w (.slice ab bn bc) b) (hA:∀ t∈a,Tr.Arg T t.1 t.2) (hBb:∀ t∈b,Tr.Arg T t.1 t.2) (hal:a.length≤1000) (hne:a.length=b.length) :
  Calls Tryz.prog 181 #[f.val,.slice aa an ac,.slice ab bn bc] w fun e w'=>∃ ja jc,e=.returned (.slice ja a.length jc)∧TyR w' (.slice ja a.length jc) (List.zipWith (Tr.joinT T) a b)∧Below w.heap.size w w':=by
 obtain⟨e1,-,-⟩:=ha.cap;obtain⟨e2,-,-⟩:=hb.cap;subst e1 e2;obtain⟨i0,hi,hz0,hz1,hz2⟩:=info_parts Tryz.infoType;obtain⟨fa1,fl,fc1,fa2,fm,fc2⟩:=f;have HJ:=Ac hJ;have HA:=Ac hA;have HBb:=Ac hBb;clear hJ hA hBb;simp only[RFv.val];have hB0:Below w.heap.size w (w.alloc (O11 fa1 fl fc1 fa2 fm fc2)):=QN _;have T0:=Ad w (O11 fa1 fl fc1 fa2 fm fc2);have HNE:=Ac hne;clear hne;go_enter Tryz.func181,Tryz.ntmps181;go_wp2
 go_loopw [7,8] (fun v i wr=>∃ k:Nat,k≤a.length∧i=.int .i64 (k:Int)∧wr.ownsRow (w.heap.size+1) 39 2 v k (Am (List.zipWith (Tr.joinT T) (a.take k) (b.take k)))∧Below w.heap.size w wr∧wr.heap[w.heap.size]?=some (O11 fa1 fl fc1 fa2 fm fc2))
  (fun _ i _=>a.length-(intOf i).toNat)
 case atStart=>exact⟨0,by omega,rfl,World.ownsRow_nil _ _ _ _,hB0,T0⟩
 case round =>
  clear hB0 T0;obtain⟨k,hk,rfl,hown,hB,hC⟩:=hrel;have hBs:=hB.size;have hne:=Aa HNE;obtain⟨ua,uc,rfl⟩:=Af hown;by_cases hkn:k<a.length
  ·have hkb:k<b.length:=by omega
   obtain⟨g,o,rfl,hg,hat⟩:=(ha.below hB).at (by omega);obtain⟨g2,o2,rfl,hg2,hat2⟩:=(hb.below hB).at (by omega);obtain⟨x0,x1⟩:=hat k hkn;obtain⟨y0,y1⟩:=hat2 k hkb;have hd:=Ns (Tr.joinT T) a b k hkn hkb;have hc:=fun w' (h:Below w.heap.size w w')=>Aa HJ a[k] b[k] (Aa HA _ (List.getElem_mem hkn)) (Aa HBb _ (List.getElem_mem hkb)) w' h;generalize a[k]=s at *;generalize b[k]=t at *;obtain⟨s1,s2⟩:=s;obtain⟨t1,t2⟩:=t;simp only[RFv.val]at x0 x1 y0 y1 hc;have f0:=(Ab hC 0);have f1:=(Ab hC 1);simp at f0 f1;generalize Tr.joinT T (s1,s2) (t1,t2)=j at *;obtain⟨j1,j2⟩:=j;simp only at hc;have HC:=Ac hc;have HD:=Ac hd;have kb:(k:Int)<(a.length:Int):=by omega
   have kb2:(k:Int)<(b.length:Int):=by omega
   have hb1:Below wr.heap.size wr wr.drew:=(Below.refl _ _).drew;have hBX:Below w.heap.size w wr.drew:=hB.drew;have lF:w.heap.size<wr.drew.heap.size:=lt_of_block hC;have lP:g<wr.drew.heap.size:=hg;have lG:g2<wr.drew.heap.size:=hg2;have hF6:wr.drew.cell? ⟨w.heap.size,0,none⟩=some (.slice fa1 fl fc1)∧wr.drew.cell? ⟨w.heap.size,1,none⟩=some (.slice fa2 fm fc2)∧wr.drew.cell? ⟨g,o+k*2,none⟩=some (.int .i64 s1)∧wr.drew.cell? ⟨g,o+k*2+1,none⟩=some (.int .i64 s2)∧wr.drew.cell? ⟨g2,o2+k*2,none⟩=some (.int .i64 t1)∧wr.drew.cell? ⟨g2,o2+k*2+1,none⟩=some (.int .i64 t2):=⟨f0,f1,x0,x1,y0,y1⟩;have Z0:(wr.alloc (O7 0 0)).drew.heap[wr.heap.size]?=some (O7 0 0):=Ad wr _;have hBZ:Below wr.drew.heap.size wr.drew (wr.alloc (O7 0 0)).drew:=⟨rfl,rfl,rfl,(show wr.heap.size≤(wr.alloc (O7 0 0)).heap.size by simp),fun k hk=>(((Below.refl _ wr).alloc (Nat.le_refl _) (O7 0 0)).block k hk)⟩;have lZ:wr.drew.heap.size≤(wr.alloc (O7 0 0)).drew.heap.size:=hBZ.size;have hBX2:Below w.heap.size w (wr.alloc (O7 0 0)).drew:=(hB.alloc hBs _).drew;clear hat hat2 hc hne hd
   go_upto_region 5 with fail
   go_cut [9] from 10 to 35 (fun s9 wx=>∃ jb,s9=.pointer (some ⟨jb,0,none⟩)∧wx.heap[jb]?=some (O7 j1 j2)∧Below wr.heap.size wr wx)
   case first =>
    go_wp2
    go_region_held3 (fun w'=>w'.cell? ⟨w.heap.size,0,none⟩=some (.slice fa1 fl fc1)∧w'.cell? ⟨w.heap.size,1,none⟩=some (.slice fa2 fm fc2)∧w'.cell? ⟨g,o+k*2,none⟩=some (.int .i64 s1)∧w'.cell? ⟨g,o+k*2+1,none⟩=some (.int .i64 s2)∧w'.cell? ⟨g2,o2+k*2,none⟩=some (.int .i64 t1)∧w'.cell? ⟨g2,o2+k*2+1,none⟩=some (.int .i64 t2))
     (first | (with_reducible exact hF6) | (with_reducible exact Hi lF lP lG hF6 hb7) | (with_reducible exact Hi lF lP lG hF6 (hb7.alloc hb7.size _)) | (with_reducible exact Hi lF lP lG hF6 hBZ) | (with_reducible exact Hi lF lP lG hF6 (hBZ.trans (hb7.mono lZ))) | (with_reducible exact Hi lF lP lG hF6 ((hBZ.trans (hb7.mono lZ)).setCell (Nat.le_refl _) _)) | (with_reducible exact Hi lF lP lG hF6 (((hBZ.trans (hb7.mono lZ)).setCell (Nat.le_refl _) _).setCell (Nat.le_refl _) _)))
     (first | (go_at_call 103;refine(Aa HC _ (by first | (with_reducible exact hBX) | (with_reducible exact hBX2))).mono ?_;rintro e w7 ⟨rfl,hb7⟩;try (have Z7:=stay hb7 Z0;have z0':=Ab Z7 0;have z1':=Ab Z7 1;have q0':=Ae Z7 0;have q1':=Ae Z7 1;simp at z0' z1')))
    all_goals
     go_wp2
     go_meet
    ·exact⟨_,rfl,Ad w7 _,(hb1.trans hb7).alloc hb7.size _⟩
    ·exact⟨_,rfl,Es Z7 _ _,(((hb1.trans hBZ).trans (hb7.mono lZ)).setCell (Nat.le_refl _) _).setCell (Nat.le_refl _) _⟩
   case rest =>
    obtain⟨jb,rfl,JB,hbx⟩:=hcut;have hBx:=hB.trans (hbx.mono hBs);have hsx:=hBx.size;have hCx:=stay hbx hC;have hownx:=Av hown (Kp.of_below (e:=none) hbx) (by decide);have j0:=Ab JB 0;have j1':=Ab JB 1;have lJ:=lt_of_block JB;simp at j0 j1';clear hbx hown hB hBs hC f0 f1 x0 x1 y0 y1 hF6 lF lP lG Z0 hBZ lZ hBX2 hBX hb1 hg hg2;go_wp2_with (at_builtin;refine wpList_append_own _ rfl _ _ 48 rfl (w.heap.size+1) 39 i0 _ 2 16 Tryz.underlying48 hi hz0 hz1 hz2 rfl (by decide) _ _ _ rfl (hownx.alloc _) ⟨wc.heap.size,0,none⟩ 1 1 [.int .i64 j1,.int .i64 j2] rfl rfl ?c1 ?c2 ?c3 ?c4 ?c5 ?_)
    case c1=>exact Au _ _ _ _ rfl
    case c2=>intro u hu;simp at hu;rcases hu with rfl | rfl<;>rfl
    case c3=>unfold maxLen;omega
    case c4=>omega
    case c5=>simp;omega
    intro v' w2 hown2 hgrow _;have hB2:=(hBx.alloc hsx (O7 j1 j2)).grown hgrow (by simp;omega) (fun j hj=>by have:=(hownx.lt j hj).1;omega);have hC2:=(hgrow.block _ (by simp;omega) (fun hh=>by have:=(hownx.lt _ hh.symm).1;omega)).trans (Aj hCx (O7 j1 j2));have hown3:w2.ownsRow (w.heap.size+1) 39 2 v' (k+1) (Am (List.zipWith (Tr.joinT T) (a.take (k+1)) (b.take (k+1)))):=by rw[Aa HD,Bs];exact hown2
    clear hgrow hown2 hownx hCx hBx JB j0 j1';go_wp2
    go_roundw
    case rel=>exact⟨k+1,by omega,by go_num,hown3,hB2,hC2⟩
    case measure=>simp[intOf];omega
  ·have kb:¬ (k:Int)<(a.length:Int):=by omega
   have ek:k=a.length:=by omega
   subst ek;clear hne;go_wp2;go_ret;refine⟨ua,uc,rfl,?_,hB⟩;have:=Bl (l:=List.zipWith (Tr.joinT T) (a.take a.length) (b.take a.length)) (n:=a.length) hown (by have:=Aa HNE;simp;omega);have e1:a.take a.length=a:=List.take_of_length_le (Nat.le_refl _);have e2:b.take a.length=b:=List.take_of_length_le (by have:=Aa HNE;omega);rw[e1,e2]at this;exact this
end Go.Proofs.YtcefiamkoincoaaGreat
