/- a part of the proof in YtcefiamkoincoaaGreatFoundProof -/
import Derived.Test.YtcefiamkoincoaaGreatPk00
set_option maxRecDepth 100000
set_option maxHeartbeats 40000000
set_option linter.unusedVariables false
set_option linter.unusedSimpArgs false
namespace Go.Proofs.YtcefiamkoincoaaGreat
open Go.RowKit
theorem Tryz.infoClass:(Tryz.prog.info? 102).map (fun i=>(i.zero,i.size,i.bytes))=some (some (.agg #[.int .i64 0,.slice none 0 0]),2,32):=by kernel_rfl
theorem Tryz.infoMethod:(Tryz.prog.info? 94).map (fun i=>(i.zero,i.size,i.bytes))=some (some (.agg #[.int .i64 0,.int .i64 0,.slice none 0 0,.int .i64 0,.int .i64 0,.int .i64 0,.int .i64 0,.slice none 0 0,.slice none 0 0,.slice none 0 0]),10,144):=by kernel_rfl
theorem Kh (s:ByteArray) (B:Nat) (t:Rd.St) (w:World) (hs:s.size≤maxLen) (hR:RdAt w B s t) :
  Calls Tryz.prog 72 #[.pointer (some ⟨B,0,none⟩)] w fun e w' =>
   ∃ a1 n1 c1 a2 n2 c2 l1 l2,e=.returned (.agg #[.slice a1 n1 c1,.slice a2 n2 c2])∧l1.map Prod.fst=(Rd.fil s.data.toList t).1.classes∧ClssIn w' w.heap.size (.slice a1 n1 c1) l1 ∧
    l2.map Prod.fst=(Rd.fil s.data.toList t).1.methods∧MthsIn w' w.heap.size (.slice a2 n2 c2) l2∧RdAt w' B s (Rd.fil s.data.toList t).2∧Gr B w w':=by
 have hlt:=hR.lt;obtain ⟨i0,hi,hz0,hz1,hz2⟩:=info_parts Tryz.infoClass;obtain ⟨j0,hj,hy0,hy1,hy2⟩:=info_parts Tryz.infoMethod;unfold Rd.fil;dsimp only;generalize hq1:Rd.ex s.data.toList 83 t=q1;generalize hq2:Rd.ex s.data.toList 77 q1=q2;generalize hq3:Rd.cn s.data.toList 0 6 q2=q3;generalize hq4:Rd.rep (Rd.cls s.data.toList) q3.1.toNat q3.2=q4;generalize hq5:Rd.cn s.data.toList 1 6 q4.2=q5;have b3:=Rd.cn_bd s.data.toList 0 6 q2 (by omega);rw [hq3] at b3;obtain ⟨b30,b31⟩:=b3;have b5:=Rd.cn_bd s.data.toList 1 6 q4.2 (by omega);rw [hq5] at b5;obtain ⟨b50,b51⟩:=b5;have Q4:=Ac hq4;have Q5:=Ac hq5;have Q1:=Ac hq1;have Q2:=Ac hq2;have Q3:=Ac hq3;clear hq1 hq2 hq3 hq4 hq5;have n1:w.heap.size+1 ≠ B:=by omega
 have n0:w.heap.size ≠ B:=by omega
 go_enter Tryz.func72,Tryz.ntmps72;go_wp2_with fail
 refine (Lx s B 83 t _ hs ((hR.alloc _).alloc _)).mono ?_;rw [Aa Q1];rintro e w1 ⟨rfl,hR1,hg1⟩;have G1:=(((Gr.refl B w).alloc _).alloc _).trans hg1;have B1:=hg1.own (Ah w _ _) n1;have C1:=hg1.own (Ak w _ _) n0;go_wp2_with fail
 refine (Lx s B 77 q1 _ hs hR1).mono ?_;rw [Aa Q2];rintro e w2 ⟨rfl,hR2,hg2⟩;have G2:=G1.trans hg2;have B2:=hg2.own B1 n1;have C2:=hg2.own C1 n0;go_wp2_with fail
 refine (Cb s B 0 6 q2 _ hs hR2).mono ?_;rw [Aa Q3];rintro e w3 ⟨rfl,hR3,hg3⟩;have G3:=G2.trans hg3;have B3:=hg3.own B2 n1;have C3:=hg3.own C2 n0;clear G1 G2 B1 B2 C1 C2 hg1 hg2 hg3 hR1 hR2;go_wp2
 go_loopw [5] (fun i wr=>∃ (k:Nat) (l:List (Rd.Cls × Value)) (v:Value),(k:Int)≤q3.1∧i=.int .i64 k∧l.length=k∧l.map Prod.fst=(Rd.rep (Rd.cls s.data.toList) k q3.2).1∧ClssIn wr w.heap.size v l ∧
   wr.heap[w.heap.size+1]?=some (.cells #[v,.slice none 0 0] 63 (0,0))∧wr.heap[w.heap.size]?=some (.cells #[.slice none 0 0,.slice none 0 0] 63 (0,0)) ∧
   RdAt wr B s (Rd.rep (Rd.cls s.data.toList) k q3.2).2∧Gr B w wr)
  (fun i _=>q3.1.toNat - (intOf i).toNat)
 case atStart=>exact ⟨0,[],_,by omega,rfl,rfl,rfl,⟨World.ownsRow_nil _ _ _ _,by simp⟩,B3,C3,hR3,G3⟩
 case round =>
  obtain ⟨k,l,v,hk,rfl,hlen,hmap,hcs,hB,hC,hRr,hgr⟩:=hrel;have hsz:=hgr.size;by_cases hkn:(k:Int) < q3.1
  ·generalize hp:Rd.rep (Rd.cls s.data.toList) k q3.2=p at *;generalize hq:Rd.cls s.data.toList p.2=q;have HP:=Ac hp;have HQ:=Ac hq;have HLen:=Ac hlen;have HMap:=Ac hmap;clear hp hq hlen hmap;go_wp2_with fail
   refine (Vo s B p.2 _ hs hRr).mono ?_;rw [Aa HQ];rintro e w4 ⟨u,rfl,ht,hR4,hg4⟩;obtain ⟨ua,uc,rfl⟩:=Ae ht;have hB4:=hg4.own hB n1;have hC4:=hg4.own hC n0;have G4:=hgr.trans hg4;have hsz4:=G4.size;obtain ⟨va,vc,rfl⟩:=Ae hcs.1;have hcs4:=hcs.kp (Kp.of_gr (e:=none) hg4 hlt) (by decide) (by decide);have ht4:=ht.mono hsz;have x0:=Ab hB4 0;have f0:=Ag hB4 0;have hlt1:=lt_of_block hB4;have HCs:=Ac hcs4.2;have hown:=hcs4.1;simp at x0;clear ht hcs hcs4;go_wp2_with (at_builtin;refine wpList_append_own _ rfl _ _ 60 rfl w.heap.size 102 i0 _ 2 32 Tryz.underlying60 hi hz0 hz1 hz2 rfl (by decide) _ _ _ rfl ((hown.alloc _).alloc _) ⟨w4.heap.size+1,0,none⟩ 1 1 [.int .i64 q.1.above,.slice ua q.1.fields.length uc] rfl rfl ?c1 ?c2 ?c3 ?c4 ?c5 ?_)
   case c1=>exact Az _ _ _ _ (by simp)
   case c2=>intro u hu;simp at hu;rcases hu with rfl | rfl <;> rfl
   case c3=>have:=Aa HLen;unfold maxLen;omega
   case c4=>have:=Aa HLen;omega
   case c5=>simp;omega
   intro v' w5 hown2 hgrow _;obtain ⟨va',vc',rfl⟩:=Ae hown2;have hR5:=((hR4.alloc _).alloc _).grown hgrow (Hs hown hlt);have hG5:=((G4.alloc _).alloc _).grown hgrow (Hu hown);have hK:=((Kp.alloc (e:=some 102) (b:=0) _ _).trans (Kp.alloc _ _)).trans (Kp.of_grown hgrow ((hown.alloc _).alloc _));have hB5:=hK _ _ _ (Nat.zero_le _) hB4 (by decide);have hC5:=hK _ _ _ (Nat.zero_le _) hC4 (by decide);have x1:=Ab hB5 0;have f1:=Ag hB5 0;simp at x1;have hK':Kp (some 102) w.heap.size w4 w5:=fun k cs t _ hc ht=>hK k cs t (Nat.zero_le _) hc ht;have hcs5:ClssIn (w5.setCell ⟨w.heap.size+1,0,none⟩ (.slice va' (l.length+1) vc')) w.heap.size (.slice va' (l.length+1) vc') (l ++ [(q.1,.slice ua q.1.fields.length uc)]):=by
    have hset:=Kp.set (b:=w.heap.size) (i:=0) hB5 (.slice va' (l.length+1) vc');refine ⟨?_,?_⟩
    ·rw [Jq,List.length_append];exact Au hown2 hset (by decide)
    ·intro p hp;rw [List.mem_append] at hp;rcases hp with hp | hp
     ·exact ((Aa HCs p hp).kp hK' (by decide)).kp hset (by decide)
     ·simp only [List.mem_singleton] at hp;subst hp;exact (ht4.kp hK' (by decide)).kp hset (by decide)
   have e1:(Rd.rep (Rd.cls s.data.toList) (k+1) q3.2)=(p.1 ++ [q.1],q.2):=by simp only [Rd.rep,Aa HP,Aa HQ]
   have HE:=Ac e1;have HB:=Ai (i:=0) hB5 (.slice va' (l.length+1) vc');have HC:=As hC5 (p:=⟨w.heap.size+1,0,none⟩) (by simp) (.slice va' (l.length+1) vc');have HK:=Ac hK;have HK':=Ac hK';clear e1 hgrow hown hown2 hRr hR4 hg4 G4 hgr x0 f0 hK hK' ht4 hB hC hB4 hC4;go_wp2
   go_roundw
   case rel=>exact ⟨k+1,_,_,by omega,by go_num,by rw [List.length_append,Aa HLen];rfl,by rw [Aa HE,List.map_append,Aa HMap];rfl,hcs5,HB,HC,by rw [Aa HE];exact hR5.set (by simp;omega) _,hG5.set (.inl (by simp)) _⟩
   case measure=>simp [intOf];omega
  ·have e:k=q3.1.toNat:=by omega
   subst e;clear hR3 G3 B3 C3;rw [Aa Q4] at hmap hRr;have HMap:=Ac hmap;clear hmap hlen;obtain ⟨va,vc,rfl⟩:=Ae hcs.1;go_wp2_with fail
   refine (Cb s B 1 6 q4.2 _ hs hRr).mono ?_;rw [Aa Q5];rintro e w4 ⟨rfl,hR4,hg4⟩;have G4:=hgr.trans hg4;have B4:=hg4.own hB n1;have C4:=hg4.own hC n0;have hcs4:=hcs.kp (Kp.of_gr (e:=none) hg4 hlt) (by decide) (by decide);clear hB hC hcs hgr hg4 hRr hk hsz;go_wp2
   go_loopw [8] (fun i wr=>∃ (k:Nat) (m:List (Rd.Mth × MthV)) (v:Value),(k:Int)≤q5.1∧i=.int .i64 k∧m.length=k∧m.map Prod.fst=(Rd.rep (Rd.mth s.data.toList) k q5.2).1∧MthsIn wr w.heap.size v m ∧
     ClssIn wr w.heap.size (.slice va l.length vc) l ∧
     wr.heap[w.heap.size+1]?=some (.cells #[.slice va l.length vc,v] 63 (0,0))∧wr.heap[w.heap.size]?=some (.cells #[.slice none 0 0,.slice none 0 0] 63 (0,0)) ∧
     RdAt wr B s (Rd.rep (Rd.mth s.data.toList) k q5.2).2∧Gr B w wr)
    (fun i _=>q5.1.toNat - (intOf i).toNat)
   case atStart=>exact ⟨0,[],_,by omega,rfl,rfl,rfl,⟨World.ownsRow_nil _ _ _ _,by simp⟩,hcs4,B4,C4,hR4,G4⟩
   case round =>
    clear hcs4 B4 C4 hR4 G4;obtain ⟨k,m,v,hk,rfl,hlen,hmap,hms,hcs,hB,hC,hRr,hgr⟩:=hrel;have hsz:=hgr.size;by_cases hkn:(k:Int) < q5.1
    ·generalize hp:Rd.rep (Rd.mth s.data.toList) k q5.2=p at *;generalize hq:Rd.mth s.data.toList p.2=q;have HP:=Ac hp;have HQ:=Ac hq;have HLen:=Ac hlen;have HMap2:=Ac hmap;clear hp hq hlen hmap;obtain ⟨vb,vd,rfl⟩:=Ae hms.1;go_wp2_with fail
     refine (Sd s B p.2 _ hs hRr).mono ?_;rw [Aa HQ];rintro e w4 ⟨a1,m1,d1,a2,m2,d2,a3,m3,d3,a4,m4,d4,rfl,ht,hR4,hg4⟩;have hB4:=hg4.own hB n1;have hC4:=hg4.own hC n0;have G4:=hgr.trans hg4;have hsz4:=G4.size;have hms4:=hms.kp (Kp.of_gr (e:=none) hg4 hlt) (by decide) (by decide) (by decide) (by decide) (by decide);have hcs4:=hcs.kp (Kp.of_gr (e:=none) hg4 hlt) (by decide) (by decide);have ht4:=ht.mono hsz;have x0:=Ab hB4 1;have f0:=Ag hB4 1;have hlt1:=lt_of_block hB4;have HMs:=Ac hms4.2;have hown:=hms4.1;simp at x0;clear ht hms hms4 hcs;go_wp2_with (at_builtin;refine wpList_append_own _ rfl _ _ 61 rfl w.heap.size 94 j0 _ 10 144 Tryz.underlying61 hj hy0 hy1 hy2 rfl (by decide) _ _ _ rfl ((hown.alloc _).alloc _) ⟨w4.heap.size+1,0,none⟩ 1 1 (Cc q.1 ⟨.slice a1 m1 d1,.slice a2 m2 d2,.slice a3 m3 d3,.slice a4 m4 d4⟩) rfl rfl ?d1 ?d2 ?d3 ?d4 ?d5 ?_)
     case d1=>exact Az _ _ _ _ (by simp)
     case d2=>intro u hu;simp [Cc] at hu;rcases hu with rfl | rfl | rfl | rfl | rfl | rfl | rfl | rfl | rfl | rfl <;> rfl
     case d3=>have:=Aa HLen;unfold maxLen;omega
     case d4=>have:=Aa HLen;omega
     case d5=>simp;omega
     intro v' w5 hown2 hgrow _;obtain ⟨va',vc',rfl⟩:=Ae hown2;have hR5:=((hR4.alloc _).alloc _).grown hgrow (Hs hown hlt);have hG5:=((G4.alloc _).alloc _).grown hgrow (Hu hown);have hK:=((Kp.alloc (e:=some 94) (b:=0) _ _).trans (Kp.alloc _ _)).trans (Kp.of_grown hgrow ((hown.alloc _).alloc _));have hB5:=hK _ _ _ (Nat.zero_le _) hB4 (by decide);have hC5:=hK _ _ _ (Nat.zero_le _) hC4 (by decide);have x1:=Ab hB5 1;have f1:=Ag hB5 1;simp at x1;have hK':Kp (some 94) w.heap.size w4 w5:=fun k cs t _ hc ht=>hK k cs t (Nat.zero_le _) hc ht;have hset:=Kp.set (b:=w.heap.size) (i:=1) hB5 (.slice va' (m.length+1) vc');have hms5:MthsIn (w5.setCell ⟨w.heap.size+1,1,none⟩ (.slice va' (m.length+1) vc')) w.heap.size (.slice va' (m.length+1) vc') (m ++ [(q.1,⟨.slice a1 m1 d1,.slice a2 m2 d2,.slice a3 m3 d3,.slice a4 m4 d4⟩)]):=by
      refine ⟨?_,?_⟩
      ·rw [Jd,List.length_append];exact Au hown2 hset (by decide)
      ·intro p hp;rw [List.mem_append] at hp;rcases hp with hp | hp
       ·exact ((Aa HMs p hp).kp hK' (by decide) (by decide) (by decide) (by decide)).kp hset (by decide) (by decide) (by decide) (by decide)
       ·simp only [List.mem_singleton] at hp;subst hp;exact (ht4.kp hK' (by decide) (by decide) (by decide) (by decide)).kp hset (by decide) (by decide) (by decide) (by decide)
     have hcs5:=(hcs4.kp hK' (by decide) (by decide)).kp hset (by decide) (by decide);have e1:(Rd.rep (Rd.mth s.data.toList) (k+1) q5.2)=(p.1 ++ [q.1],q.2):=by simp only [Rd.rep,Aa HP,Aa HQ]
     have HE:=Ac e1;have HB:=Ai (i:=1) hB5 (.slice va' (m.length+1) vc');have HC:=As hC5 (p:=⟨w.heap.size+1,1,none⟩) (by simp) (.slice va' (m.length+1) vc');clear e1 hgrow hown hown2 hRr hR4 hg4 G4 hgr x0 f0 hK hK' ht4 hB hC hB4 hC4 hset hcs4;go_wp2
     go_roundw
     case rel=>exact ⟨k+1,_,_,by omega,by go_num,by rw [List.length_append,Aa HLen];rfl,by rw [Aa HE,List.map_append,Aa HMap2];rfl,hms5,hcs5,HB,HC,by rw [Aa HE];exact hR5.set (by simp;omega) _,hG5.set (.inl (by simp)) _⟩
     case measure=>simp [intOf];omega
    ·have e:k=q5.1.toNat:=by omega
     subst e;obtain ⟨vb,vd,rfl⟩:=Ae hms.1;clear hlen;obtain ⟨x0,x1⟩:=cl2 hB;obtain ⟨y0,y1⟩:=cl2 hC;obtain ⟨g0,g1⟩:=fr2 hC;simp at x0 x1 y0 y1;go_wp2_with fail
     refine bodyPost_ret (v:=.agg #[.slice va l.length vc,.slice vb m.length vd]) (by simp [results,Tryz.results72,go_sem,y0,y1]) rfl ?_;have k1:=(Kp.set (b:=w.heap.size) (i:=0) hC (.slice va l.length vc)).trans (Kp.set (i:=1) (Ai (i:=0) hC (.slice va l.length vc)) (.slice vb m.length vd));refine ⟨_,_,_,_,_,_,rfl,l,Aa HMap,hcs.kp k1 (by decide) (by decide),m,hmap,hms.kp k1 (by decide) (by decide) (by decide) (by decide) (by decide),?_,?_⟩
     ·exact (hRr.set (by simp;omega) _).set (by simp;omega) _
     ·exact (hgr.set (.inl (by simp)) _).set (.inl (by simp)) _
def Rd.read (s:List UInt8):Rd.Fil × Int :=
 if 15000 < s.length then (⟨[],[]⟩,1)
 else if (Rd.fil s ⟨0,false⟩).2.bad=true∨(Rd.fil s ⟨0,false⟩).2.pos ≠ s.length then (⟨[],[]⟩,2)
 else ((Rd.fil s ⟨0,false⟩).1,0)
theorem Ya (s:ByteArray) (w:World) (hs:s.size≤maxLen) :
  Calls Tryz.prog 39 #[.string s] w fun e w' =>
   ∃ a1 n1 c1 a2 n2 c2,e=.returned (.tuple #[.agg #[.slice a1 n1 c1,.slice a2 n2 c2],.int .i64 (Rd.read s.data.toList).2]) ∧
    Ua w' w.heap.size (.slice a1 n1 c1) (Rd.read s.data.toList).1.classes∧Ug w' w.heap.size (.slice a2 n2 c2) (Rd.read s.data.toList).1.methods∧Below w.heap.size w w':=by
 have hlen:s.data.toList.length=s.size:=by simp
 unfold Rd.read;rw [hlen];have hnil1:∀ w':World,Ua w' w.heap.size (.slice none 0 0) []:=fun w'=>⟨[],rfl,World.ownsRow_nil _ _ _ _,by simp⟩;have hnil2:∀ w':World,Ug w' w.heap.size (.slice none 0 0) []:=fun w'=>⟨[],rfl,World.ownsRow_nil _ _ _ _,by simp⟩;have HN1:=Ac hnil1;have HN2:=Ac hnil2;clear hnil1 hnil2;by_cases h1:15000 < s.size
 ·rw [if_pos h1];have h1':(15000:Int) < (s.size:Int):=by omega
  go_enter Tryz.func39,Tryz.ntmps39;go_wp2;refine bodyPost_ret (v:=.tuple #[.agg #[.slice none 0 0,.slice none 0 0],.int .i64 1]) (by simp [results,Tryz.results39,go_sem]) rfl ?_;exact ⟨none,0,0,none,0,0,rfl,Aa HN1 _,Aa HN2 _,(Below.refl _ _).alloc (Nat.le_refl _) _⟩
 ·rw [if_neg h1];generalize hq:Rd.fil s.data.toList ⟨0,false⟩=q;have HQ:=Ac hq;clear hq;have h1':¬ (15000:Int) < (s.size:Int):=by omega
  have hR:RdAt ((w.alloc (.cells #[.slice none 0 0,.slice none 0 0] 63)).alloc (.cells #[.string s,.int .i64 0,.bool false] 139)) (w.heap.size+1) s ⟨0,false⟩:=Ah w _ _;cases hbad:q.2.bad with
  | true =>
   rw [if_pos (.inl rfl)];have Hb:=Ac hbad;clear hbad;go_enter Tryz.func39,Tryz.ntmps39;go_wp2_with fail
   refine (Kh s (w.heap.size+1) ⟨0,false⟩ _ hs hR).mono ?_;rw [Aa HQ];rintro e w1 ⟨a1,n1,c1,a2,n2,c2,l1,l2,rfl,hm1,hc1,hm2,hc2,hR1,hg1⟩;have hC1:=hg1.own (Ak w _ _) (by omega);obtain ⟨x0,x1,x2,f0,f1,f2⟩:=hR1.cells;rw [Aa Hb] at x2;obtain ⟨y0,y1⟩:=cl2 hC1;obtain ⟨g0,g1⟩:=fr2 hC1;simp at y0 y1;have hs1:=hg1.size;simp at hs1;have lt0:=lt_of_block hC1;have lt1:=hR1.lt;have hbl:Below w.heap.size w w1:=((((Gr.refl (w.heap.size+1) w).alloc _).alloc _).trans hg1).below (by omega);have HM1:=Ac hm1;have HM2:=Ac hm2;clear hm1 hm2;go_wp2_with fail
   refine bodyPost_ret (v:=.tuple #[.agg #[.slice none 0 0,.slice none 0 0],.int .i64 2]) (by simp [results,Tryz.results39,go_sem,y0,y1,lt0]) rfl ?_;exact ⟨none,0,0,none,0,0,rfl,Aa HN1 _,Aa HN2 _,((hbl.setCell (by simp) _).setCell (by simp) _).alloc (by simp;omega) _⟩
  | false =>
   have Hb:=Ac hbad;clear hbad;by_cases hpos:q.2.pos=s.size
   ·rw [if_neg (by simp [hpos])];have hp1:((q.2.pos:Int) != (s.size:Int))=false:=by simp [hpos]
    clear hpos;go_enter Tryz.func39,Tryz.ntmps39;go_wp2_with fail
    refine (Kh s (w.heap.size+1) ⟨0,false⟩ _ hs hR).mono ?_;rw [Aa HQ];rintro e w1 ⟨a1,n1,c1,a2,n2,c2,l1,l2,rfl,hm1,hc1,hm2,hc2,hR1,hg1⟩;have hC1:=hg1.own (Ak w _ _) (by omega);obtain ⟨x0,x1,x2,f0,f1,f2⟩:=hR1.cells;rw [Aa Hb] at x2;obtain ⟨y0,y1⟩:=cl2 hC1;obtain ⟨g0,g1⟩:=fr2 hC1;simp at y0 y1;have hs1:=hg1.size;simp at hs1;have lt0:=lt_of_block hC1;have lt1:=hR1.lt;have hbl:Below w.heap.size w w1:=((((Gr.refl (w.heap.size+1) w).alloc _).alloc _).trans hg1).below (by omega);have HM1:=Ac hm1;have HM2:=Ac hm2;clear hm1 hm2;go_wp2_with fail
    refine bodyPost_ret (v:=.tuple #[.agg #[.slice a1 n1 c1,.slice a2 n2 c2],.int .i64 0]) (by simp [results,Tryz.results39,go_sem,y0,y1,lt0]) rfl ?_;have k1:=((Kp.set (b:=w.heap.size) (i:=0) hC1 (.slice a1 n1 c1)).trans (Kp.set (i:=1) (Ai (i:=0) hC1 (.slice a1 n1 c1)) (.slice a2 n2 c2))).trans (Kp.alloc _ (.cells #[.slice a1 n1 c1,.slice a2 n2 c2] 63));refine ⟨_,_,_,_,_,_,rfl,⟨l1,Aa HM1,?_⟩,⟨l2,Aa HM2,?_⟩,((hbl.setCell (by simp) _).setCell (by simp) _).alloc (by simp;omega) _⟩
    ·exact (hc1.mono (by simp;omega)).kp k1 (by decide) (by decide)
    ·exact (hc2.mono (by simp;omega)).kp k1 (by decide) (by decide) (by decide) (by decide) (by decide)
   ·rw [if_pos (.inr hpos)];have hp1:((q.2.pos:Int) != (s.size:Int))=true:=by simp;omega
    clear hpos;go_enter Tryz.func39,Tryz.ntmps39;go_wp2_with fail
    refine (Kh s (w.heap.size+1) ⟨0,false⟩ _ hs hR).mono ?_;rw [Aa HQ];rintro e w1 ⟨a1,n1,c1,a2,n2,c2,l1,l2,rfl,hm1,hc1,hm2,hc2,hR1,hg1⟩;have hC1:=hg1.own (Ak w _ _) (by omega);obtain ⟨x0,x1,x2,f0,f1,f2⟩:=hR1.cells;rw [Aa Hb] at x2;obtain ⟨y0,y1⟩:=cl2 hC1;obtain ⟨g0,g1⟩:=fr2 hC1;simp at y0 y1;have hs1:=hg1.size;simp at hs1;have lt0:=lt_of_block hC1;have lt1:=hR1.lt;have hbl:Below w.heap.size w w1:=((((Gr.refl (w.heap.size+1) w).alloc _).alloc _).trans hg1).below (by omega);have HM1:=Ac hm1;have HM2:=Ac hm2;clear hm1 hm2;go_wp2_with fail
    refine bodyPost_ret (v:=.tuple #[.agg #[.slice none 0 0,.slice none 0 0],.int .i64 2]) (by simp [results,Tryz.results39,go_sem,y0,y1,lt0]) rfl ?_;exact ⟨none,0,0,none,0,0,rfl,Aa HN1 _,Aa HN2 _,((hbl.setCell (by simp) _).setCell (by simp) _).alloc (by simp;omega) _⟩
end Go.Proofs.YtcefiamkoincoaaGreat
namespace Go.Proofs.YtcefiamkoincoaaGreat.Tr
def ov (l:List Int) (c:Int):Int:=if c < 0 then -1 else if (l.length:Int)≤c then -1 else l.getD c.toNat 0
def upTo (l:List Int) (high:Int):Nat→Int→Bool
 | 0,_=>false
 | n+1,pos=>if pos = -1 then false else if pos=high then true else upTo l high n (ov l pos)
def below (l:List Int) (low high:Int):Bool:=upTo l high l.length (ov l low)
def hasB (l:List Int) (c:Int):Bool:=decide (0≤c) && decide (c < (l.length:Int))
def plainB (l:List Int) (k n:Int):Bool:=if k=1 then n == 0 else if k=3 then hasB l n else false
def settledB (l:List Int) (k n:Int):Bool:=if k=0∨k=2 then n == 0 else plainB l k n
def fitsB (l:List Int) (k n k' n':Int):Bool :=
 if k=k'∧n=n' then true else if k'=0 then true else if k' ≠ 3 then false else if k=2 then true else if k=3 then below l n n' else false
def meetTo (l:List Int) (b:Int):Nat→Int→Int
 | 0,_=>0
 | n+1,a=>if a=b then a else if below l b a=true then a else meetTo l b n (ov l a)
def meet (l:List Int) (a b:Int):Int:=meetTo l b l.length a
def joinT (l:List Int) (a b:Int × Int):Int × Int :=
 if fitsB l a.1 a.2 b.1 b.2=true then b
 else if fitsB l b.1 b.2 a.1 a.2=true then a
 else if a.1 ≠ 3 then (0,0)
 else if b.1 ≠ 3 then (0,0)
 else (3,meet l a.2 b.2)
def allPlainB (l:List Int) (fs:List (Int × Int)):Bool:=fs.all fun f=>plainB l f.1 f.2
end Go.Proofs.YtcefiamkoincoaaGreat.Tr
namespace Go.Proofs.YtcefiamkoincoaaGreat
open Go.RowKit
variable {ya:Option Addr}{yn yc:Nat}
def TreeIn (w:World) (g:Nat) (l:List Int):Prop:=g < w.heap.size∧∀ i,i < l.length→w.cell? ⟨g,i,none⟩=some (.int .i64 (l.getD i 0))
theorem TreeIn.below {w w':World}{g:Nat}{l:List Int} (h:TreeIn w g l) (hb:Below w.heap.size w w'):TreeIn w' g l :=
 ⟨Nat.lt_of_lt_of_le h.1 hb.size,fun i hi=>by rw [hb.cell (p:=⟨g,i,none⟩) h.1];exact h.2 i hi⟩
theorem TreeIn.alloc {w:World}{g:Nat}{l:List Int} (h:TreeIn w g l) (o:Obj):TreeIn (w.alloc o) g l:=h.below ((Below.refl _ _).alloc (Nat.le_refl _) _)
theorem Kk (l:List Int) (g cap:Nat) (c:Int) (w:World) (hT:TreeIn w g l) :
  Calls Tryz.prog 178 #[.agg #[.slice (some ⟨g,0,none⟩) l.length cap,.slice ya yn yc],.int .i64 c] w fun e w'=>e=.returned (.int .i64 (Tr.ov l c))∧Below w.heap.size w w':=by
 unfold Tr.ov;by_cases h1:c < 0
 ·rw [if_pos h1];go_enter Tryz.func178,Tryz.ntmps178;go_wp2;go_ret;exact ⟨rfl,(Below.refl _ _).alloc (Nat.le_refl _) _⟩
 ·rw [if_neg h1];by_cases h2:(l.length:Int)≤c
  ·rw [if_pos h2];go_enter Tryz.func178,Tryz.ntmps178;go_wp2;go_ret;exact ⟨rfl,(Below.refl _ _).alloc (Nat.le_refl _) _⟩
  ·rw [if_neg h2];obtain ⟨i,rfl⟩:=Int.eq_ofNat_of_zero_le (show 0≤c by omega);have hi:i < l.length:=by omega
   have hc:=(hT.alloc (.cells #[.slice (some ⟨g,0,none⟩) l.length cap,.slice ya yn yc] 89)).2 i hi;have hg:=hT.1;go_enter Tryz.func178,Tryz.ntmps178;go_wp2;go_ret;exact ⟨rfl,(Below.refl _ _).alloc (Nat.le_refl _) _⟩
theorem Mn (l:List Int) (a:Option Addr) (cap:Nat) (c:Int) (w:World) :
  Calls Tryz.prog 161 #[.agg #[.slice a l.length cap,.slice ya yn yc],.int .i64 c] w fun e w'=>e=.returned (.bool (Tr.hasB l c))∧Below w.heap.size w w':=by
 unfold Tr.hasB;by_cases h1:0≤c
 ·go_enter Tryz.func161,Tryz.ntmps161;go_wp2;go_ret;exact ⟨by simp [h1],(Below.refl _ _).alloc (Nat.le_refl _) _⟩
 ·go_enter Tryz.func161,Tryz.ntmps161;go_wp2;go_ret;exact ⟨by simp;omega,(Below.refl _ _).alloc (Nat.le_refl _) _⟩
theorem V0 {l:List Int}{high pos:Int}{n:Nat} (h1:pos ≠ -1) (h2:pos ≠ high):Tr.upTo l high (n+1) pos=Tr.upTo l high n (Tr.ov l pos):=by
 simp [Tr.upTo,h1,h2]
theorem Wm {l:List Int}{high pos:Int}{n:Nat} (h1:pos ≠ -1) (h2:pos=high):Tr.upTo l high (n+1) pos=true:=by
 subst h2;simp [Tr.upTo,h1]
theorem W3 {l:List Int}{high pos:Int}{n:Nat} (h1:pos = -1):Tr.upTo l high n pos=false:=by
 cases n <;> simp [Tr.upTo,h1]
theorem Il (l:List Int) (g cap:Nat) (low high:Int) (w:World) (hl:l.length≤1000) (hT:TreeIn w g l) :
  Calls Tryz.prog 133 #[.agg #[.slice (some ⟨g,0,none⟩) l.length cap,.slice ya yn yc],.int .i64 low,.int .i64 high] w fun e w'=>e=.returned (.bool (Tr.below l low high))∧Below w.heap.size w w':=by
 unfold Tr.below;generalize hr:Tr.upTo l high l.length (Tr.ov l low)=r;have HR:=Ac hr;clear hr;have hg:=hT.1;have hT0:=hT.alloc (.cells #[.slice (some ⟨g,0,none⟩) l.length cap,.slice ya yn yc] 89);have hb0:Below w.heap.size w (w.alloc (.cells #[.slice (some ⟨g,0,none⟩) l.length cap,.slice ya yn yc] 89)):=(Below.refl _ _).alloc (Nat.le_refl _) _;have hx0:=Ad w (.cells #[.slice (some ⟨g,0,none⟩) l.length cap,.slice ya yn yc] 89);go_enter Tryz.func133,Tryz.ntmps133;go_wp2_with fail
 refine (Kk l g cap low _ hT0).mono ?_;rintro e w1 ⟨rfl,hb1⟩;have hB1:Below w.heap.size w w1:=hb0.trans (hb1.mono (by simp));have hx1:w1.heap[w.heap.size]?=some (.cells #[.slice (some ⟨g,0,none⟩) l.length cap,.slice ya yn yc] 89 (0,0)):=(hb1.block _ (by simp)).trans hx0;clear hb0 hb1 hx0 hT0;go_wp2
 go_loopw [7,8] (fun p i wr=>∃ (k:Nat) (q:Int),k≤l.length∧i=.int .i64 k∧p=.int .i64 q∧Hid (Tr.upTo l high (l.length - k) q=r)∧Below w.heap.size w wr ∧
   wr.heap[w.heap.size]?=some (.cells #[.slice (some ⟨g,0,none⟩) l.length cap,.slice ya yn yc] 89 (0,0)))
  (fun _ i _=>l.length - (intOf i).toNat)
 case atStart=>exact ⟨0,_,by omega,rfl,rfl,HR,hB1,hx1⟩
 case round =>
  clear hB1 hx1 HR;obtain ⟨k,q,hk,rfl,rfl,HR,hB,hx⟩:=hrel;obtain ⟨c0,c1⟩:=cl2 hx;simp at c0 c1;by_cases hkn:k < l.length
  ·by_cases h1:q = -1
   ·have h1':(q != -1)=false:=by simp [h1]
    have hf:r=false:=by rw [← Aa HR];exact W3 h1
    have HF:=Ac hf;have H1:=Ac h1;clear hf h1;go_wp2;go_ret;exact ⟨by rw [Aa HF];rfl,hB⟩
   ·have h1':(q != -1)=true:=by simp [h1]
    by_cases h2:q=high
    ·have h2':(q == high)=true:=by simp [h2]
     have hf:r=true:=by rw [← Aa HR,show l.length - k=(l.length - k - 1)+1 by omega];exact Wm h1 h2
     have HF:=Ac hf;have H1:=Ac h1;have H2:=Ac h2;clear hf h1 h2;go_wp2;go_ret;exact ⟨by rw [Aa HF];rfl,hB⟩
    ·have h2':(q == high)=false:=by simp [h2]
     have HF:Hid (Tr.upTo l high (l.length - (k+1)) (Tr.ov l q)=r):=by
      unfold Hid;rw [← Aa HR,show l.length - k=(l.length - (k+1))+1 by omega,V0 h1 h2]
     have H1:=Ac h1;have H2:=Ac h2;clear h1 h2;have hTr:=hT.below hB;go_wp2_with fail
     refine (Kk l g cap q _ hTr).mono ?_;rintro e w2 ⟨rfl,hb2⟩;have hB2:Below w.heap.size w w2:=QB hB hb2;have hx2:=(hb2.block _ (lt_of_block hx)).trans hx;clear hb2 hB hx hTr;go_wp2
     go_roundw
     case rel=>exact ⟨k+1,_,by omega,by go_num,rfl,HF,hB2,hx2⟩
     case measure=>simp [intOf];omega
  ·have hf:r=false:=by rw [← Aa HR,show l.length - k=0 by omega];rfl
   have HF:=Ac hf;clear hf;go_wp2;go_ret;exact ⟨by rw [Aa HF];rfl,hB⟩
variable {ya:Option Addr}{yn yc:Nat}
theorem Aj (w:World) (o o':Obj):Below w.heap.size w ((w.alloc o).alloc o'):=((Below.refl _ _).alloc (Nat.le_refl _) _).alloc (by simp) _
theorem Ba (w:World) (o o' o'':Obj):Below w.heap.size w (((w.alloc o).alloc o').alloc o''):=(((Below.refl _ _).alloc (Nat.le_refl _) _).alloc (by simp) _).alloc (by simp;omega) _
theorem Ff (l:List Int) (a:Option Addr) (cap:Nat) (k n:Int) (w:World) :
  Calls Tryz.prog 159 #[.agg #[.slice a l.length cap,.slice ya yn yc],.agg #[.int .i64 k,.int .i64 n]] w fun e w'=>e=.returned (.bool (Tr.plainB l k n))∧Below w.heap.size w w':=by
 unfold Tr.plainB;by_cases h1:k=1
 ·rw [if_pos h1];have h1':(k == 1)=true:=by simp [h1]
  clear h1;go_enter Tryz.func159,Tryz.ntmps159;go_wp2;go_ret;exact ⟨rfl,Aj _ _ _⟩
 ·rw [if_neg h1];have h1':(k == 1)=false:=by simp [h1]
  clear h1;by_cases h3:k=3
  ·rw [if_pos h3];have h3':(k == 3)=true:=by simp [h3]
   clear h3;go_enter Tryz.func159,Tryz.ntmps159;go_wp2_with fail
   refine (Mn l a cap n _).mono ?_;rintro e w1 ⟨rfl,hb⟩;go_wp2;go_ret;exact ⟨rfl,(Aj _ _ _).trans (hb.mono (by simp;omega))⟩
  ·rw [if_neg h3];have h3':(k == 3)=false:=by simp [h3]
   clear h3;go_enter Tryz.func159,Tryz.ntmps159;go_wp2;go_ret;exact ⟨rfl,Aj _ _ _⟩
theorem N4 (l:List Int) (a:Option Addr) (cap:Nat) (k n:Int) (w:World) :
  Calls Tryz.prog 177 #[.agg #[.slice a l.length cap,.slice ya yn yc],.agg #[.int .i64 k,.int .i64 n]] w fun e w'=>e=.returned (.bool (Tr.settledB l k n))∧Below w.heap.size w w':=by
 unfold Tr.settledB;by_cases h1:k=0
 ·rw [if_pos (.inl h1)];have h1':(k == 0)=true:=by simp [h1]
  clear h1;go_enter Tryz.func177,Tryz.ntmps177;go_wp2;go_ret;exact ⟨rfl,Aj _ _ _⟩
 ·by_cases h2:k=2
  ·rw [if_pos (.inr h2)];have h1':(k == 0)=false:=by simp [h1]
   have h2':(k == 2)=true:=by simp [h2]
   clear h1 h2;go_enter Tryz.func177,Tryz.ntmps177;go_wp2;go_ret;exact ⟨rfl,Aj _ _ _⟩
  ·rw [if_neg (by omega)];have h1':(k == 0)=false:=by simp [h1]
   have h2':(k == 2)=false:=by simp [h2]
   clear h1 h2;go_enter Tryz.func177,Tryz.ntmps177;go_wp2_with fail
   refine (Ff l a cap k n _).mono ?_;rintro e w1 ⟨rfl,hb⟩;go_wp2;go_ret;exact ⟨rfl,(Aj _ _ _).trans (hb.mono (by simp;omega))⟩
theorem Bv (l:List Int) (g cap:Nat) (k n k' n':Int) (w:World) (hl:l.length≤1000) (hT:TreeIn w g l) :
  Calls Tryz.prog 87 #[.agg #[.slice (some ⟨g,0,none⟩) l.length cap,.slice ya yn yc],.agg #[.int .i64 k,.int .i64 n],.agg #[.int .i64 k',.int .i64 n']] w fun e w'=>e=.returned (.bool (Tr.fitsB l k n k' n'))∧Below w.heap.size w w':=by
 unfold Tr.fitsB;by_cases h1:k=k'∧n=n'
 ·rw [if_pos h1];obtain ⟨rfl,rfl⟩:=h1;go_enter Tryz.func87,Tryz.ntmps87;go_wp2;go_ret;exact ⟨rfl,Ba _ _ _ _⟩
 ·rw [if_neg h1];by_cases h2:k'=0
  ·rw [if_pos h2];subst h2;by_cases h0:k=0
   ·subst h0;have hn:¬ n=n':=fun hn=>h1 ⟨rfl,hn⟩;clear h1;go_enter Tryz.func87,Tryz.ntmps87;go_wp2;go_ret;exact ⟨rfl,Ba _ _ _ _⟩
   ·clear h1;go_enter Tryz.func87,Tryz.ntmps87;go_wp2;go_ret;exact ⟨rfl,Ba _ _ _ _⟩
  ·rw [if_neg h2];by_cases h3:k'=3
   ·rw [if_neg (by omega)];subst h3;by_cases h4:k=2
    ·rw [if_pos h4];subst h4;clear h1 h2;go_enter Tryz.func87,Tryz.ntmps87;go_wp2;go_ret;exact ⟨rfl,Ba _ _ _ _⟩
    ·rw [if_neg h4];by_cases h5:k=3
     ·rw [if_pos h5];subst h5;have hn:¬ n=n':=fun hn=>h1 ⟨rfl,hn⟩;clear h1 h2 h4;go_enter Tryz.func87,Tryz.ntmps87;go_wp2_with fail
      refine (Il l g cap n n' _ hl (hT.below (Ba _ _ _ _))).mono ?_;rintro e w1 ⟨rfl,hb⟩;go_wp2;go_ret;exact ⟨rfl,(Ba _ _ _ _).trans (hb.mono (by simp;omega))⟩
     ·rw [if_neg h5];have h4':(k == 2)=false:=by simp [h4]
      have h5':(k == 3)=false:=by simp [h5]
      clear h1 h2 h4;go_enter Tryz.func87,Tryz.ntmps87;go_wp2;go_ret;exact ⟨rfl,Ba _ _ _ _⟩
   ·rw [if_pos h3];have h2':(k' == 0)=false:=by simp [h2]
    have h3':(k' != 3)=true:=by simp [h3]
    by_cases h0:k=k'
    ·subst h0;have hn:¬ n=n':=fun hn=>h1 ⟨rfl,hn⟩;clear h1 h2 h3;go_enter Tryz.func87,Tryz.ntmps87;go_wp2;go_ret;exact ⟨rfl,Ba _ _ _ _⟩
    ·clear h1 h2 h3;go_enter Tryz.func87,Tryz.ntmps87;go_wp2;go_ret;exact ⟨rfl,Ba _ _ _ _⟩
variable {ya:Option Addr}{yn yc:Nat}
def Tr.within (l:List Int) (a b:Int):Bool:=(a == b) || Tr.below l a b
theorem Sb {l:List Int}{a b:Int}{n:Nat} (h:Tr.within l b a=true):Tr.meetTo l b (n+1) a=a:=by
 unfold Tr.within at h;by_cases h1:a=b
 ·simp [Tr.meetTo,h1]
 ·have h2:Tr.below l b a=true:=by
   have h3:(b == a)=false:=by simp;omega
   rw [h3] at h;simpa using h
  simp [Tr.meetTo,h2]
theorem Uu {l:List Int}{a b:Int}{n:Nat} (h:Tr.within l b a=false):Tr.meetTo l b (n+1) a=Tr.meetTo l b n (Tr.ov l a):=by
 unfold Tr.within at h;simp only [Bool.or_eq_false_iff,beq_eq_false_iff_ne,ne_eq] at h;have h1:¬ a=b:=fun e=>h.1 e.symm;simp [Tr.meetTo,h1,h.2]
theorem Fz (l:List Int) (g cap:Nat) (a b:Int) (w:World) (hl:l.length≤1000) (hT:TreeIn w g l) :
  Calls Tryz.prog 180 #[.agg #[.slice (some ⟨g,0,none⟩) l.length cap,.slice ya yn yc],.int .i64 a,.int .i64 b] w fun e w'=>e=.returned (.bool (Tr.within l a b))∧Below w.heap.size w w':=by
 have hB1:Below w.heap.size w (w.alloc (.cells #[.slice (some ⟨g,0,none⟩) l.length cap,.slice ya yn yc] 89)):=(Below.refl _ _).alloc (Nat.le_refl _) _;unfold Tr.within;by_cases h:a=b
 ·subst h;rw [beq_self_eq_true,Bool.true_or];have h':(a == a)=true:=by simp
  go_enter Tryz.func180,Tryz.ntmps180;go_wp2;go_ret;exact ⟨rfl,hB1⟩
 ·have h':(a == b)=false:=by simp [h]
  rw [h',Bool.false_or];generalize hlow:Tr.below l a b=r;have HL:=Ac hlow;clear h hlow;go_enter Tryz.func180,Tryz.ntmps180;go_wp2_with fail
  refine (Il l g cap a b _ hl (hT.below hB1)).mono ?_;rw [Aa HL];rintro e w2 ⟨rfl,hb2⟩;go_wp2;go_ret;exact ⟨rfl,hB1.trans (hb2.mono (by simp))⟩
theorem Wk (l:List Int) (g cap:Nat) (a b:Int) (w:World) (hl:l.length≤1000) (hT:TreeIn w g l) :
  Calls Tryz.prog 143 #[.agg #[.slice (some ⟨g,0,none⟩) l.length cap,.slice ya yn yc],.int .i64 a,.int .i64 b] w fun e w'=>e=.returned (.int .i64 (Tr.meet l a b))∧Below w.heap.size w w':=by
 unfold Tr.meet;generalize hr:Tr.meetTo l b l.length a=r;have HR:=Ac hr;clear hr;have hg:=hT.1;have hB1:Below w.heap.size w (w.alloc (.cells #[.slice (some ⟨g,0,none⟩) l.length cap,.slice ya yn yc] 89)):=(Below.refl _ _).alloc (Nat.le_refl _) _;have hx1:=Ad w (.cells #[.slice (some ⟨g,0,none⟩) l.length cap,.slice ya yn yc] 89);go_enter Tryz.func143,Tryz.ntmps143;go_wp2
 go_loopw [1,7] (fun p i wr=>∃ (k:Nat) (q:Int),k≤l.length∧i=.int .i64 k∧p=.int .i64 q∧Hid (Tr.meetTo l b (l.length - k) q=r)∧Below w.heap.size w wr ∧
   wr.heap[w.heap.size]?=some (.cells #[.slice (some ⟨g,0,none⟩) l.length cap,.slice ya yn yc] 89 (0,0)))
  (fun _ i _=>l.length - (intOf i).toNat)
 case atStart=>exact ⟨0,_,by omega,rfl,rfl,HR,hB1,hx1⟩
 case round =>
  clear hB1 hx1 HR;obtain ⟨k,q,hk,rfl,rfl,HR,hB,hx⟩:=hrel;obtain ⟨c0,c1⟩:=cl2 hx;simp at c0 c1;have hTr:=hT.below hB;have hBs:=hB.size;by_cases hkn:k < l.length
  ·cases hlow:Tr.within l b q with
   | true =>
    have hf:r=q:=by rw [← Aa HR,show l.length - k=(l.length - k - 1)+1 by omega];exact Sb hlow
    have HF:=Ac hf;have HL:=Ac hlow;clear hf hlow;go_wp2_with fail
    refine (Fz l g cap b q _ hl hTr).mono ?_;rw [Aa HL];rintro e w2 ⟨rfl,hb2⟩;go_wp2;go_ret;exact ⟨by rw [Aa HF];rfl,hB.trans (hb2.mono hBs)⟩
   | false =>
    have HF:Hid (Tr.meetTo l b (l.length - (k+1)) (Tr.ov l q)=r):=by
     unfold Hid;rw [← Aa HR,show l.length - k=(l.length - (k+1))+1 by omega,Uu hlow]
    have HL:=Ac hlow;clear hlow;go_wp2_with fail
    refine (Fz l g cap b q _ hl hTr).mono ?_;rw [Aa HL];rintro e w2 ⟨rfl,hb2⟩;have hB2:=hB.trans (hb2.mono hBs);have hx2:=(hb2.block _ (lt_of_block hx)).trans hx;have hT2:=hT.below hB2;obtain ⟨c2,c3⟩:=cl2 hx2;simp at c2 c3;clear hb2 hB hx hTr c0 c1;go_wp2_with fail
    refine (Kk l g cap q _ hT2).mono ?_;rintro e w3 ⟨rfl,hb3⟩;have hB3:=QB hB2 hb3;have hx3:=(hb3.block _ (lt_of_block hx2)).trans hx2;clear hb3 hB2 hx2 hT2 c2 c3;go_wp2
    go_roundw
    case rel=>exact ⟨k+1,_,by omega,by go_num,rfl,HF,hB3,hx3⟩
    case measure=>simp [intOf];omega
  ·have hf:r=0:=by rw [← Aa HR,show l.length - k=0 by omega];rfl
   have HF:=Ac hf;clear hf;go_wp2;go_ret;exact ⟨by rw [Aa HF];rfl,hB⟩
theorem Co (w:World) (o o' o'' o3:Obj):Below w.heap.size w ((((w.alloc o).alloc o').alloc o'').alloc o3):=(Ba w o o' o'').alloc (by simp;omega) _
theorem Bp (w:World) (o0 o1 o2 o3:Obj):((((w.alloc o0).alloc o1).alloc o2).alloc o3).heap[w.heap.size]?=some o0∧((((w.alloc o0).alloc o1).alloc o2).alloc o3).heap[w.heap.size+1]?=some o1 ∧
  ((((w.alloc o0).alloc o1).alloc o2).alloc o3).heap[w.heap.size+1+1]?=some o2∧((((w.alloc o0).alloc o1).alloc o2).alloc o3).heap[w.heap.size+1+1+1]?=some o3:=by
 refine ⟨?_,?_,?_,?_⟩
 ·rw [Below.heap_alloc _ _ _ (by first | (simp;done) | (simp;omega)),Below.heap_alloc _ _ _ (by first | (simp;done) | (simp;omega)),Below.heap_alloc _ _ _ (by first | (simp;done) | (simp;omega))];exact Ad w o0
 ·rw [Below.heap_alloc _ _ _ (by first | (simp;done) | (simp;omega)),Below.heap_alloc _ _ _ (by first | (simp;done) | (simp;omega))];simpa using Ad (w.alloc o0) o1
 ·rw [Below.heap_alloc _ _ _ (by first | (simp;done) | (simp;omega))];simpa using Ad ((w.alloc o0).alloc o1) o2
 ·simpa using Ad (((w.alloc o0).alloc o1).alloc o2) o3
theorem stay {w w':World}{k:Nat}{o:Obj} (hb:Below w.heap.size w w') (h:w.heap[k]?=some o):w'.heap[k]?=some o:=(hb.block k (lt_of_block h)).trans h
theorem Va (l:List Int) (g cap:Nat) (k n k' n':Int) (w:World) (hl:l.length≤1000) (hT:TreeIn w g l) :
  Calls Tryz.prog 102 #[.agg #[.slice (some ⟨g,0,none⟩) l.length cap,.slice ya yn yc],.agg #[.int .i64 k,.int .i64 n],.agg #[.int .i64 k',.int .i64 n']] w fun e w' =>
   e=.returned (.agg #[.int .i64 (Tr.joinT l (k,n) (k',n')).1,.int .i64 (Tr.joinT l (k,n) (k',n')).2])∧Below w.heap.size w w':=by
 unfold Tr.joinT;dsimp only;cases h1:Tr.fitsB l k n k' n' with
 | true =>
  rw [if_pos rfl];have H1:=Ac h1;clear h1;go_enter Tryz.func102,Tryz.ntmps102;go_wp2_with fail
  refine (Bv l g cap _ _ _ _ _ hl (hT.below (Co _ _ _ _ _))).mono ?_;rw [Aa H1];rintro e w1 ⟨rfl,hb1⟩;have C1:=stay hb1 (Bp w _ _ _ _).2.1;have C2:=stay hb1 (Bp w _ _ _ _).2.2.1;have C3:=stay hb1 (Bp w _ _ _ _).2.2.2;have hB1:=(Co w _ _ _ _).trans (hb1.mono (by simp;omega));obtain ⟨a0,a1⟩:=cl2 C1;obtain ⟨b0,b1⟩:=cl2 C2;obtain ⟨r0,r1⟩:=cl2 C3;obtain ⟨q0,q1⟩:=fr2 C3;simp at a0 a1 b0 b1 r0 r1;go_wp2_with fail
  refine bodyPost_ret (v:=.agg #[.int .i64 k',.int .i64 n']) (by simp [results,Tryz.results102,go_sem,r0,r1]) rfl ?_;exact ⟨rfl,(hB1.setCell (by simp;omega) _).setCell (by simp;omega) _⟩
 | false =>
  rw [if_neg (by simp)];have H1:=Ac h1;clear h1;cases h2:Tr.fitsB l k' n' k n with
  | true =>
   rw [if_pos rfl];have H2:=Ac h2;clear h2;go_enter Tryz.func102,Tryz.ntmps102;go_wp2_with fail
   refine (Bv l g cap _ _ _ _ _ hl (hT.below (Co _ _ _ _ _))).mono ?_;rw [Aa H1];rintro e w1 ⟨rfl,hb1⟩;have C1:=stay hb1 (Bp w _ _ _ _).2.1;have C2:=stay hb1 (Bp w _ _ _ _).2.2.1;have C3:=stay hb1 (Bp w _ _ _ _).2.2.2;have hB1:=(Co w _ _ _ _).trans (hb1.mono (by simp;omega));obtain ⟨a0,a1⟩:=cl2 C1;obtain ⟨b0,b1⟩:=cl2 C2;obtain ⟨r0,r1⟩:=cl2 C3;obtain ⟨q0,q1⟩:=fr2 C3;simp at a0 a1 b0 b1 r0 r1;have C0:=stay hb1 (Bp w _ _ _ _).1;obtain ⟨t0,t9⟩:=cl2 C0;simp at t0 t9;go_wp2_with fail
   clear a0 a1 b0 b1 r0 r1 q0 q1 t0 t9;refine (Bv l g cap _ _ _ _ _ hl (hT.below hB1)).mono ?_;rw [Aa H2];rintro e w2 ⟨rfl,hb2⟩;have hB2:=QB hB1 hb2;have D0:=stay hb2 C0;have D1:=stay hb2 C1;have D2:=stay hb2 C2;have D3:=stay hb2 C3;obtain ⟨a0,a1⟩:=cl2 D1;obtain ⟨b0,b1⟩:=cl2 D2;obtain ⟨r0,r1⟩:=cl2 D3;obtain ⟨q0,q1⟩:=fr2 D3;obtain ⟨t0,t9⟩:=cl2 D0;simp at a0 a1 b0 b1 r0 r1 t0 t9;clear C0 C1 C2 C3;go_wp2_with fail
   refine bodyPost_ret (v:=.agg #[.int .i64 k,.int .i64 n]) (by simp [results,Tryz.results102,go_sem,r0,r1]) rfl ?_;exact ⟨rfl,(hB2.setCell (by simp;omega) _).setCell (by simp;omega) _⟩
  | false =>
   rw [if_neg (by simp)];have H2:=Ac h2;clear h2;by_cases h3:k=3
   ·rw [if_neg (by omega)];subst h3;by_cases h4:k'=3
    ·rw [if_neg (by omega)];subst h4;go_enter Tryz.func102,Tryz.ntmps102;go_wp2_with fail
     refine (Bv l g cap _ _ _ _ _ hl (hT.below (Co _ _ _ _ _))).mono ?_;rw [Aa H1];rintro e w1 ⟨rfl,hb1⟩;have C1:=stay hb1 (Bp w _ _ _ _).2.1;have C2:=stay hb1 (Bp w _ _ _ _).2.2.1;have C3:=stay hb1 (Bp w _ _ _ _).2.2.2;have hB1:=(Co w _ _ _ _).trans (hb1.mono (by simp;omega));obtain ⟨a0,a1⟩:=cl2 C1;obtain ⟨b0,b1⟩:=cl2 C2;obtain ⟨r0,r1⟩:=cl2 C3;obtain ⟨q0,q1⟩:=fr2 C3;simp at a0 a1 b0 b1 r0 r1;have C0:=stay hb1 (Bp w _ _ _ _).1;obtain ⟨t0,t9⟩:=cl2 C0;simp at t0 t9;go_wp2_with fail
     clear a0 a1 b0 b1 r0 r1 q0 q1 t0 t9;refine (Bv l g cap _ _ _ _ _ hl (hT.below hB1)).mono ?_;rw [Aa H2];rintro e w2 ⟨rfl,hb2⟩;have hB2:=QB hB1 hb2;have D0:=stay hb2 C0;have D1:=stay hb2 C1;have D2:=stay hb2 C2;have D3:=stay hb2 C3;obtain ⟨a0,a1⟩:=cl2 D1;obtain ⟨b0,b1⟩:=cl2 D2;obtain ⟨r0,r1⟩:=cl2 D3;obtain ⟨q0,q1⟩:=fr2 D3;obtain ⟨t0,t9⟩:=cl2 D0;simp at a0 a1 b0 b1 r0 r1 t0 t9;clear C0 C1 C2 C3;go_wp2_with fail
     clear a0 a1 b0 b1 r0 r1 q0 q1 t0 t9;refine (Wk l g cap n n' _ hl (hT.below hB2)).mono ?_;rintro e w3 ⟨rfl,hb3⟩;have hB3:=QB hB2 hb3;have E3:=stay hb3 D3;obtain ⟨r0,r1⟩:=cl2 E3;obtain ⟨q0,q1⟩:=fr2 E3;simp at r0 r1;go_wp2_with fail
     refine bodyPost_ret (v:=.agg #[.int .i64 3,.int .i64 (Tr.meet l n n')]) (by simp [results,Tryz.results102,go_sem,r0,r1]) rfl ?_;exact ⟨rfl,(hB3.setCell (by simp;omega) _).setCell (by simp;omega) _⟩
    ·rw [if_pos h4];have h4':(k' != 3)=true:=by simp [h4]
     clear h4;go_enter Tryz.func102,Tryz.ntmps102;go_wp2_with fail
     refine (Bv l g cap _ _ _ _ _ hl (hT.below (Co _ _ _ _ _))).mono ?_;rw [Aa H1];rintro e w1 ⟨rfl,hb1⟩;have C1:=stay hb1 (Bp w _ _ _ _).2.1;have C2:=stay hb1 (Bp w _ _ _ _).2.2.1;have C3:=stay hb1 (Bp w _ _ _ _).2.2.2;have hB1:=(Co w _ _ _ _).trans (hb1.mono (by simp;omega));obtain ⟨a0,a1⟩:=cl2 C1;obtain ⟨b0,b1⟩:=cl2 C2;obtain ⟨r0,r1⟩:=cl2 C3;obtain ⟨q0,q1⟩:=fr2 C3;simp at a0 a1 b0 b1 r0 r1;have C0:=stay hb1 (Bp w _ _ _ _).1;obtain ⟨t0,t9⟩:=cl2 C0;simp at t0 t9;go_wp2_with fail
     clear a0 a1 b0 b1 r0 r1 q0 q1 t0 t9;refine (Bv l g cap _ _ _ _ _ hl (hT.below hB1)).mono ?_;rw [Aa H2];rintro e w2 ⟨rfl,hb2⟩;have hB2:=QB hB1 hb2;have D0:=stay hb2 C0;have D1:=stay hb2 C1;have D2:=stay hb2 C2;have D3:=stay hb2 C3;obtain ⟨a0,a1⟩:=cl2 D1;obtain ⟨b0,b1⟩:=cl2 D2;obtain ⟨r0,r1⟩:=cl2 D3;obtain ⟨q0,q1⟩:=fr2 D3;obtain ⟨t0,t9⟩:=cl2 D0;simp at a0 a1 b0 b1 r0 r1 t0 t9;clear C0 C1 C2 C3;go_wp2_with fail
     refine bodyPost_ret (v:=.agg #[.int .i64 0,.int .i64 0]) (by simp [results,Tryz.results102,go_sem,r0,r1]) rfl ?_;exact ⟨rfl,(hB2.setCell (by simp;omega) _).setCell (by simp;omega) _⟩
   ·rw [if_pos h3];have h3':(k != 3)=true:=by simp [h3]
    clear h3;go_enter Tryz.func102,Tryz.ntmps102;go_wp2_with fail
    refine (Bv l g cap _ _ _ _ _ hl (hT.below (Co _ _ _ _ _))).mono ?_;rw [Aa H1];rintro e w1 ⟨rfl,hb1⟩;have C1:=stay hb1 (Bp w _ _ _ _).2.1;have C2:=stay hb1 (Bp w _ _ _ _).2.2.1;have C3:=stay hb1 (Bp w _ _ _ _).2.2.2;have hB1:=(Co w _ _ _ _).trans (hb1.mono (by simp;omega));obtain ⟨a0,a1⟩:=cl2 C1;obtain ⟨b0,b1⟩:=cl2 C2;obtain ⟨r0,r1⟩:=cl2 C3;obtain ⟨q0,q1⟩:=fr2 C3;simp at a0 a1 b0 b1 r0 r1;have C0:=stay hb1 (Bp w _ _ _ _).1;obtain ⟨t0,t9⟩:=cl2 C0;simp at t0 t9;go_wp2_with fail
    clear a0 a1 b0 b1 r0 r1 q0 q1 t0 t9;refine (Bv l g cap _ _ _ _ _ hl (hT.below hB1)).mono ?_;rw [Aa H2];rintro e w2 ⟨rfl,hb2⟩;have hB2:=QB hB1 hb2;have D0:=stay hb2 C0;have D1:=stay hb2 C1;have D2:=stay hb2 C2;have D3:=stay hb2 C3;obtain ⟨a0,a1⟩:=cl2 D1;obtain ⟨b0,b1⟩:=cl2 D2;obtain ⟨r0,r1⟩:=cl2 D3;obtain ⟨q0,q1⟩:=fr2 D3;obtain ⟨t0,t9⟩:=cl2 D0;simp at a0 a1 b0 b1 r0 r1 t0 t9;clear C0 C1 C2 C3;go_wp2_with fail
    refine bodyPost_ret (v:=.agg #[.int .i64 0,.int .i64 0]) (by simp [results,Tryz.results102,go_sem,r0,r1]) rfl ?_;exact ⟨rfl,(hB2.setCell (by simp;omega) _).setCell (by simp;omega) _⟩
def Tr.given:List Int:=[-1,0,1,1,1,1,1]
def Tr.tree (cs:List Rd.Cls):List Int:=Tr.given ++ cs.map Rd.Cls.above
theorem Ca (cs:List Rd.Cls):(Tr.tree cs).length=7+cs.length:=by simp [Tr.tree,Tr.given];omega
def Tr.fvals (l:List (Rd.Cls × Value)):List Value:=List.replicate 7 (.slice none 0 0) ++ l.map Prod.snd
theorem Tryz.infoTys:(Tryz.prog.info? 48).map (fun i=>(i.zero,i.size,i.bytes))=some (some (.slice none 0 0),1,24):=by kernel_rfl
theorem Vn (w:World) (b g:Nat) (t:TypeId) (hg:w.heap.size=g) (hb:b≤g) (u:Value):(w.alloc (.cells #[u,u,u,u,u,u,u] t)).ownsRow b t 1 (.slice (some ⟨g,0,none⟩) 7 7) 7 (List.replicate 7 u) :=
 ⟨rfl,.inr ⟨g,7,#[u,u,u,u,u,u,u],rfl,hb,by rw [← hg];exact Ad w _,by omega,by unfold maxLen;omega,rfl,rfl⟩⟩
theorem Kp.set2 {e:TypeId}{b i j:Nat}{w:World}{g:Nat}{cs:Array Value} (h:w.heap[g]?=some (.cells cs e (0,0))) (u u':Value):Kp (some e) b w ((w.setCell ⟨g,i,none⟩ u).setCell ⟨g,j,none⟩ u'):=by
 intro k cs' t hk hc ht;have h1:=Kp.set (b:=b) (i:=i) h u k cs' t hk hc ht;rw [Below.heap_setCell _ _ _ _ ?_];exact h1;intro hk;simp only at hk;subst hk;rw [hc] at h;simp at h;exact ht (by rw [h.2])
def Fg:Value→Nat | .slice _ n _=>n | _=>0
theorem Yo (w:World) (b g:Nat) (u v:Value) (t:TypeId) (hg:w.heap.size=g) (hb:b≤g):(w.alloc (.cells #[u,v] t)).ownsRow b t 1 (.slice (some ⟨g,0,none⟩) 2 2) 2 [u,v] :=
 ⟨rfl,.inr ⟨g,2,#[u,v],rfl,hb,by rw [← hg];exact Ad w _,by omega,by unfold maxLen;omega,rfl,rfl⟩⟩
theorem Am {b size n:Nat}{e:TypeId}{a:Option Addr}{m c:Nat}{xs:List Value}{w:World} (h:w.ownsRow b e size (.slice a m c) n xs) (hn:0 < n) :
  ∃ g,a=some ⟨g,0,none⟩∧g < w.heap.size∧b≤g∧∀ j,j < xs.length→w.cell? ⟨g,j,none⟩=xs[j]?:=by
 obtain ⟨h1,⟨_,h2⟩ | ⟨g,cap,cur,h3,h4,h5,h6,h7,h8,h9⟩⟩:=h
 ·omega
 ·simp only [Value.slice.injEq] at h3;refine ⟨g,h3.1,lt_of_block h5,h4,fun j hj=>?_⟩;rw [Ab h5,← h9,List.getElem?_take,if_pos (by omega)]
  simp
theorem Cs (l:List (Rd.Cls × Value)) (k:Nat) (h:k < l.length):(Bw l)[k * 2]?=some (.int .i64 l[k].1.above)∧(Bw l)[k * 2+1]?=some l[k].2∧k * 2+1 < (Bw l).length:=by
 induction l generalizing k with
 | nil=>simp at h
 | cons x r ih =>
  cases k with
  | zero=>simp [Bw]
  | succ j =>
   have hj:j < r.length:=by simpa using h
   obtain ⟨p,q,z⟩:=ih j hj;have e:Bw (x :: r)=.int .i64 x.1.above :: x.2 :: Bw r:=by simp [Bw]
   rw [e,show (j+1) * 2=j * 2+1+1 by omega];refine ⟨by simpa using p,by simpa using q,by simp;omega⟩
theorem Fx (a1 a2:Option Addr) (n1 c1 n2 c2 b:Nat) (l:List (Rd.Cls × Value)) (w:World) (hl:l.length≤6) (hc:ClssIn w b (.slice a1 n1 c1) l) :
  Calls Tryz.prog 41 #[.agg #[.slice a1 n1 c1,.slice a2 n2 c2]] w fun e w' =>
   ∃ g cap ya yn yc,e=.returned (.agg #[.slice (some ⟨g,0,none⟩) (Tr.tree (l.map Prod.fst)).length cap,.slice ya yn yc])∧TreeIn w' g (Tr.tree (l.map Prod.fst))∧w'.ownsRow w.heap.size 48 1 (.slice ya yn yc) (7+l.length) (Tr.fvals l)∧w.heap.size≤g∧Below w.heap.size w w':=by
 obtain ⟨xa,xc,hsh⟩:=Ae hc.1;simp only [Value.slice.injEq] at hsh;obtain ⟨rfl,hn1,rfl⟩:=hsh;subst hn1;obtain ⟨i0,hi,hz0,hz1,hz2⟩:=info_parts Tryz.infoInt;obtain ⟨j0,hj,hy0,hy1,hy2⟩:=info_parts Tryz.infoTys;have hmk:∀ w:World,(Instr.makeSlice 87 (.int .i64 7) (.int .i64 7)).run Tryz.prog w=.ok (.slice (some ⟨w.heap.size,0,none⟩) 7 7) (w.alloc (.cells #[.slice none 0 0,.slice none 0 0,.slice none 0 0,.slice none 0 0,.slice none 0 0,.slice none 0 0,.slice none 0 0] 48)):=fun _=>by kernel_rfl
 go_enter Tryz.func41,Tryz.ntmps41;go_wp2
 go_loopw [3] (fun v wr=>∃ k:Nat,2≤k∧k≤7∧wr.ownsRow (w.heap.size+1+1) 3 1 v k ((Tr.given.take k).map (Value.int .i64))∧Fg v=k∧Below (w.heap.size+1+1) ((w.alloc (.cells #[.slice a1 l.length c1,.slice a2 n2 c2] 63)).alloc (.cells #[.slice none 0 0,.slice none 0 0] 89)) wr)
  (fun v _=>7 - Fg v)
 case atStart =>
  refine ⟨2,by omega,by omega,?_,rfl,(Below.refl _ _).alloc (by simp) _⟩;exact Yo ((w.alloc (.cells #[.slice a1 l.length c1,.slice a2 n2 c2] 63)).alloc (.cells #[.slice none 0 0,.slice none 0 0] 89)) (w.heap.size+1+1) (w.heap.size+1+1) (.int .i64 (-1)) (.int .i64 0) 3 (by simp) (Nat.le_refl _)
 case round =>
  obtain ⟨k,hk0,hk1,hown,hlen,hbl⟩:=hrel;obtain ⟨va,vc,rfl⟩:=Ae hown;clear hlen;have hsz:=hbl.size;simp at hsz;by_cases hkn:k < 7
  ·go_wp2_with (at_builtin;refine wpList_append_own _ rfl _ _ 34 rfl (w.heap.size+1+1) 3 i0 _ 1 8 Tryz.underlying34 hi hz0 hz1 hz2 rfl (by decide) _ _ _ rfl (hown.alloc _) ⟨wr.heap.size,0,none⟩ 1 1 [.int .i64 1] rfl rfl ?c1 ?c2 ?c3 ?c4 ?c5 ?_)
   case c1=>exact Az _ _ _ _ rfl
   case c2=>intro u hu;simp at hu;subst hu;rfl
   case c3=>unfold maxLen;omega
   case c4=>omega
   case c5=>simp;omega
   intro v' w2 hown2 hgrow _;obtain ⟨va',vc',rfl⟩:=Ae hown2;have hown3:w2.ownsRow (w.heap.size+1+1) 3 1 (.slice va' (k+1) vc') (k+1) ((Tr.given.take (k+1)).map (Value.int .i64)):=by
    have e:(Tr.given.take (k+1))=Tr.given.take k ++ [1]:=by
     match k,hk0,hkn with
     | 2,_,_=>rfl
     | 3,_,_=>rfl
     | 4,_,_=>rfl
     | 5,_,_=>rfl
     | 6,_,_=>rfl
    rw [e,List.map_append]
    simpa using hown2
   have hbl2:=(hbl.alloc (by omega) (.cells #[.int .i64 1] 3)).grown hgrow (by simp;omega) (fun j hj=>(hown.lt j hj).1);clear hgrow hown hown2 hbl;go_wp2
   go_roundw
   case rel=>exact ⟨k+1,by omega,by omega,hown3,rfl,hbl2⟩
   case measure=>simp [Fg];omega
  ·obtain rfl:k=7:=by omega
   have hB:Below w.heap.size w wr:=(Aj w _ _).trans (hbl.mono (by omega));have hf0:=(hbl.block w.heap.size (by omega)).trans (Ak w _ _);have hf0':=(Below.heap_alloc wr (.cells #[.slice none 0 0,.slice none 0 0,.slice none 0 0,.slice none 0 0,.slice none 0 0,.slice none 0 0,.slice none 0 0] 48) _ (lt_of_block hf0)).trans hf0;have x0:=Ab hf0' 0;simp at x0;have hbl1:=hbl.alloc (by omega) (.cells #[.slice none 0 0,.slice none 0 0,.slice none 0 0,.slice none 0 0,.slice none 0 0,.slice none 0 0,.slice none 0 0] 48);have hfs:(wr.alloc (.cells #[.slice none 0 0,.slice none 0 0,.slice none 0 0,.slice none 0 0,.slice none 0 0,.slice none 0 0,.slice none 0 0] 48)).ownsRow (w.heap.size+1+1) 48 1 (.slice (some ⟨wr.heap.size,0,none⟩) 7 7) 7 (List.replicate 7 (.slice none 0 0)):=Vn wr _ _ _ rfl (by omega) _;have hown1:=hown.alloc (.cells #[.slice none 0 0,.slice none 0 0,.slice none 0 0,.slice none 0 0,.slice none 0 0,.slice none 0 0,.slice none 0 0] 48);clear hown hbl;go_wp2
   go_loopw [3,4,18] (fun v u i w3=>∃ k:Nat,k≤l.length∧i=.int .i64 k∧w3.ownsRow (w.heap.size+1+1) 3 1 v (7+k) ((Tr.given ++ ((l.map Prod.fst).take k).map Rd.Cls.above).map (Value.int .i64)) ∧
     w3.ownsRow (w.heap.size+1+1) 48 1 u (7+k) (List.replicate 7 (.slice none 0 0) ++ (l.map Prod.snd).take k) ∧
     Below (w.heap.size+1+1) ((w.alloc (.cells #[.slice a1 l.length c1,.slice a2 n2 c2] 63)).alloc (.cells #[.slice none 0 0,.slice none 0 0] 89)) w3)
    (fun _ _ i _=>l.length - (intOf i).toNat)
   case atStart=>exact ⟨0,by omega,rfl,by simpa [Tr.given] using hown1,by simpa using hfs,hbl1⟩
   case round =>
    clear hown1 hbl1 hB hf0 hf0' x0 hsz hfs;obtain ⟨k,hk,rfl,hown,hfs,hbl⟩:=hrel;obtain ⟨va,vc,rfl⟩:=Ae hown;obtain ⟨za,zc,rfl⟩:=Ae hfs;have hsz:=hbl.size;simp at hsz;have hB:Below w.heap.size w wr:=(Aj w _ _).trans (hbl.mono (by omega));by_cases hkn:k < l.length
    ·obtain ⟨g,hg,hglt,_,hcell⟩:=Am (Au hc.1 (Kp.of_below (e:=none) hB) (by decide)) (by omega);obtain ⟨e1,e2,e3⟩:=Cs l k hkn;have x0:=hcell (k * 2) (by omega);have x1:=hcell (k * 2+1) (by omega);rw [e1] at x0;rw [e2] at x1;obtain ⟨ua,uc,hu⟩:=Ae (hc.2 _ (List.getElem_mem hkn));rw [hu] at x1;generalize hab:l[k].1.above=ab at *;have HAb:Hid (List.map Rd.Cls.above [l[k].1]=[ab]):=by unfold Hid;simp [hab]
     have HA:Hid ((l.map Prod.fst).take (k+1)=(l.map Prod.fst).take k ++ [l[k].1]):=by
      unfold Hid;rw [List.take_succ_eq_append_getElem (by simpa using hkn)]
      simp
     have HB:Hid ((l.map Prod.snd).take (k+1)=(l.map Prod.snd).take k ++ [.slice ua l[k].1.fields.length uc]):=by
      unfold Hid;rw [List.take_succ_eq_append_getElem (by simpa using hkn),← hu]
      simp
     generalize l[k].1.fields.length=fl at *;clear hcell e1 e2 e3 hab hu;subst hg;generalize hxs:((Tr.given ++ ((l.map Prod.fst).take k).map Rd.Cls.above).map (Value.int .i64))=xs at hown;have HXS:=Ac hxs;clear hxs;generalize hys:(List.replicate 7 (Value.slice none 0 0) ++ (l.map Prod.snd).take k)=ys at hfs;have HYS:=Ac hys;clear hys;go_wp2_with (at_builtin;refine wpList_append_own _ rfl _ _ 34 rfl (w.heap.size+1+1) 3 i0 _ 1 8 Tryz.underlying34 hi hz0 hz1 hz2 rfl (by decide) _ _ _ rfl ((hown.alloc _).alloc _) ⟨wr.heap.size+1,0,none⟩ 1 1 [.int .i64 ab] rfl rfl ?d1 ?d2 ?d3 ?d4 ?d5 ?_)
     case d1=>exact Az _ _ _ _ (by simp)
     case d2=>intro u hu;simp at hu;subst hu;rfl
     case d3=>unfold maxLen;omega
     case d4=>omega
     case d5=>simp;omega
     intro v' w2 hown2 hgrow _;have hown3:w2.ownsRow (w.heap.size+1+1) 3 1 v' (7+(k+1)) ((Tr.given ++ ((l.map Prod.fst).take (k+1)).map Rd.Cls.above).map (Value.int .i64)):=by
      have e:((Tr.given ++ ((l.map Prod.fst).take (k+1)).map Rd.Cls.above).map (Value.int .i64))=((Tr.given ++ ((l.map Prod.fst).take k).map Rd.Cls.above).map (Value.int .i64)) ++ [.int .i64 ab]:=by
       rw [Aa HA,List.map_append (f:=Rd.Cls.above),Aa HAb];simp only [List.map_append,List.append_assoc];rfl
      rw [e,Aa HXS];exact hown2
     have hbl2:=((hbl.alloc (by omega) _).alloc (by simp;omega) _).grown hgrow (by simp;omega) (fun j hj=>(hown.lt j hj).1);have hfs2:=Au ((hfs.alloc (.cells #[.int .i64 ab,.slice ua fl uc] 102)).alloc (.cells #[.int .i64 ab] 3)) (Kp.of_grown (b:=w.heap.size+1+1) hgrow ((hown.alloc _).alloc _)) (by decide);have hcl:w2.heap[wr.heap.size]?=some (.cells #[.int .i64 ab,.slice ua fl uc] 102 (0,0)):=Kp.of_grown (b:=0) hgrow ((hown.alloc _).alloc _) _ _ _ (Nat.zero_le _) ((Below.heap_alloc _ _ _ (by simp)).trans (Ad wr _)) (by decide);have y1:=Ab hcl 1;have ly:=lt_of_block hcl;simp at y1;clear hgrow hown hown2 hbl hfs;have hs2:=hbl2.size;simp at hs2;go_wp2_with (at_builtin;refine wpList_append_own _ rfl _ _ 87 rfl (w.heap.size+1+1) 48 j0 _ 1 24 Tryz.underlying87 hj hy0 hy1 hy2 rfl (by decide) _ _ _ rfl (hfs2.alloc _) ⟨w2.heap.size,0,none⟩ 1 1 [.slice ua fl uc] rfl rfl ?d1 ?d2 ?d3 ?d4 ?d5 ?_)
     case d1=>exact Az _ _ _ _ (by simp)
     case d2=>intro u hu;simp at hu;subst hu;rfl
     case d3=>unfold maxLen;omega
     case d4=>omega
     case d5=>simp;omega
     intro v'' w3 hfs3 hgrow3 _;have hown4:=Au (hown3.alloc (.cells #[.slice ua fl uc] 48)) (Kp.of_grown (b:=w.heap.size+1+1) hgrow3 (hfs2.alloc _)) (by decide);have hfs4:w3.ownsRow (w.heap.size+1+1) 48 1 v'' (7+(k+1)) (List.replicate 7 (.slice none 0 0) ++ (l.map Prod.snd).take (k+1)):=by
      rw [Aa HB,← List.append_assoc,Aa HYS];exact hfs3
     have hbl3:=(hbl2.alloc (by omega) _).grown hgrow3 (by simp;omega) (fun j hj=>(hfs2.lt j hj).1);clear hgrow3 hown3 hfs2 hfs3 hbl2;go_wp2
     go_roundw
     case rel=>exact ⟨k+1,by omega,by go_num,hown4,hfs4,hbl3⟩
     case measure=>simp [intOf];omega
    ·obtain rfl:k=l.length:=by omega
     have hr0:=(hbl.block (w.heap.size+1) (by omega)).trans (Ah w _ _);obtain ⟨x0,x1⟩:=cl2 hr0;obtain ⟨f0,f1⟩:=fr2 hr0;simp at x0 x1;have ht:((l.map Prod.fst).take l.length)=l.map Prod.fst:=List.take_of_length_le (by simp);rw [ht] at hown;have ht2:((l.map Prod.snd).take l.length)=l.map Prod.snd:=List.take_of_length_le (by simp);rw [ht2] at hfs;obtain ⟨g,hva,hglt,hgb,hcell⟩:=Am hown (by omega);subst hva;have HC:=Ac hcell;clear hcell;go_wp2_with fail
     refine bodyPost_ret (v:=.agg #[.slice (some ⟨g,0,none⟩) (7+l.length) vc,.slice za (7+l.length) zc]) (by simp [results,Tryz.results41,go_sem,x0,x1]) rfl ?_;refine ⟨g,vc,za,7+l.length,zc,by rw [Ca,List.length_map],⟨by simpa using hglt,fun i hi=>?_⟩,?_,by omega,(hB.setCell (by simp) _).setCell (by simp) _⟩
     ·rw [World.cell?_of_block (w:=wr) ((Below.heap_setCell _ _ _ g (by simp;omega)).trans (Below.heap_setCell wr _ _ g (by simp;omega)))];have hi':i < ((Tr.tree (l.map Prod.fst)).map (Value.int .i64)).length:=by simpa using hi
      have h2:=Aa HC i hi';have h3:((Tr.tree (l.map Prod.fst)).map (Value.int .i64))[i]?=some (.int .i64 ((Tr.tree (l.map Prod.fst)).getD i 0)):=by
       rw [List.getElem?_map,List.getD_eq_getElem?_getD,List.getElem?_eq_getElem hi];rfl
      rw [h2];exact h3
     ·exact Au (A8 hfs (by omega)) (Kp.set2 hr0 _ _) (by decide)
end Go.Proofs.YtcefiamkoincoaaGreat
