/- a part of the proofs -/
import Derived.Laws.MakeOwn
import Derived.Test.YtpcgnjolfahacaaGreatPk15
set_option maxRecDepth 100000
set_option maxHeartbeats 40000000
set_option linter.unusedVariables false
set_option linter.unusedSimpArgs false
namespace Go.Proofs.YtpcgnjolfahacaaGreat
open Go.RowKit
theorem Xt (b:PBd) (S G gc bb:Nat) (L:List Cd.Ins) (lk:Cd.Ins→Afb→Afd→Afd) (OK:Afd→Prop) (s:Afd) (w:World) (eL:b.L=L) (hLl:L.length≤100000) (h:LsAt w S G b gc s) (h0:OK s) (hp:∀ i∈L,0≤i.place)
  (hIn:∀ w',Lw S G w w'→InsAt w' bb (.slice b.la L.length b.lc) L)
  (hOK:∀ i∈L,∀ t:Afd,OK t→i.place<(t.sp.length:Int)→(t.at i.place.toNat).ri=true→OK (lk i (t.at i.place.toNat).fr (t.calm i.place.toNat)))
  (hLk:∀ i∈L,∀ t:Afd,OK t→i.place<(t.sp.length:Int)→(t.at i.place.toNat).ri=true→∀ (v:FrV) w',Lw S G w w'→LsAt w' S G b gc (t.calm i.place.toNat)→v.is (t.at i.place.toNat).fr w' →
   Calls Tryz.prog 169 #[.pointer (some ⟨S,0,none⟩),.agg #[.int .i64 i.place,.int .i64 i.op,.int .i64 i.n],v.val] w' fun e w''=>e=.returned (.tuple #[])∧LsAt w'' S G b gc (lk i (t.at i.place.toNat).fr (t.calm i.place.toNat))∧Lw S G w' w'') :
  Calls Tryz.prog 112 #[.pointer (some ⟨S,0,none⟩)] w fun e w'=>e=.returned (.bool ((Aff lk L false s).2 && !(Aff lk L false s).1.hop))∧LsAt w' S G b gc (Aff lk L false s).1∧OK (Aff lk L false s).1∧Lw S G w w':=by
 generalize hr:Aff lk L false s=R;have HR:Hid (Aff lk (L.drop 0) false s=R):=hr;have x12:=Ab h.blk 12;have hSlt:S<w.heap.size:=lt_of_block h.blk;have hGlt:G<w.heap.size:=(h.free 0).2;simp at x12;rw[eL]at x12;have HIN:=hIn;generalize b.la=la at x12 HIN;generalize b.lc=lc at x12 HIN;have HIN':=Ac HIN;have HOK:=Ac hOK;have HLK:=Ac hLk;have HP:=Ac hp;have H0:=Ac h0;clear hr hIn HIN hOK hLk hp h0 eL;go_enter Tryz.func112,Tryz.ntmps112;go_wp2
 go_loopw [3,12] (fun s3 s12 wr=>∃ (q:Nat) (t:Afd) (bo:Bool),q≤L.length∧s3=.bool bo∧s12=.int .i64 (q:Int)∧Hid (Aff lk (L.drop q) bo t=R)∧LsAt wr S G b gc t∧Hid (OK t)∧Lw S G w wr)
  (fun _ v _=>L.length-(intOf v).toNat)
 case atStart=>exact⟨0,s,false,by omega,rfl,rfl,HR,h,H0,Lw.refl _ _ _⟩
 case round =>
  clear HR h H0 x12;obtain⟨q,t,bo,hq,rfl,rfl,HR,L1,HO,K1⟩:=hrel;have hKs:=K1.size;by_cases hkn:q<L.length
  ·obtain⟨g,hg,hglt,_,hcell⟩:=Ao (Aa HIN' _ K1) (by omega);obtain⟨t1,t2,t3,t4⟩:=Hx L q hkn;have y0:=(hcell (q*3) (by omega)).trans t1;have y1:=(hcell (q*3+1) (by omega)).trans t2;have y2:=(hcell (q*3+2) (by omega)).trans t3;have hmem:=List.getElem_mem hkn;have hd:L.drop q=L[q]::L.drop (q+1):=List.drop_eq_getElem_cons hkn;have hr:=Aa HR;rw[hd,Aff]at hr;have hpi:=Aa HP _ hmem;have hok:=Aa HOK _ hmem t (Aa HO);have hlk:=Aa HLK _ hmem t (Aa HO);generalize L[q]=ins at *;obtain⟨ip,op,n⟩:=ins;simp only at y0 y1 y2 hr hpi hok hlk;obtain⟨p,rfl⟩:∃ p:Nat,ip=(p:Int):=⟨ip.toNat,by omega⟩;simp only[Int.toNat_natCast]at hr hok hlk;subst hg;have kb:(q:Int)<(L.length:Int):=by omega
   have hbI:Below wr.heap.size wr (wr.alloc (O9 (p:Int) op n)):=QN _;have L2:=L1.below hbI;have K2:=K1.trans (Lw.of_below hbI);have CI2:=Ad wr (O9 (p:Int) op n);have HOI:=Ac hok;have HLI:=Ac hlk;have HRR:=Ac hr;have hlen:=L1.len;have hcap:=L1.cap;clear hok hlk hr hd hcell HR t1 t2 t3 t4 hbI;have i0:=Ab CI2 0;have x28:=Ab L2.blk 28;have lS:=lt_of_block L2.blk;have lI:=lt_of_block CI2;simp at i0 x28;by_cases c1:t.sp.length≤p
   ·have d1:decide (t.sp.length≤p)=true:=decide_eq_true c1;have c1':(t.sp.length:Int)≤(p:Int):=by omega
    have HG:Hid (Aff lk (L.drop (q+1)) bo t=R):=by unfold Hid;rw[← Aa HRR,if_pos (.inl c1')]
    go_wp2
    go_quiet (fail)
    rename_i nq;have hbq:Below (wr.alloc (O9 (p:Int) op n)).heap.size (wr.alloc (O9 (p:Int) op n)) ((wr.alloc (O9 (p:Int) op n)).drewN nq):=Ba (Below.refl _ _);have L3:=L2.below hbq;have K3:=K2.trans (Lw.of_below hbq);go_wp2
    go_roundw
    case rel=>exact⟨q+1,t,bo,by omega,rfl,by go_num,HG,L3,HO,K3⟩
    case measure=>simp[intOf];omega
   ·have d1:decide (t.sp.length≤p)=false:=decide_eq_false c1;have kp:(p:Int)<(t.sp.length:Int):=by omega
    obtain⟨u,hu,z0,z1,z2,z3,z4⟩:=L2.at (i:=p) (by omega);obtain⟨ua,un,uc,va,vn,vc⟩:=u;simp only at z0 z1;have lG:=(L2.free 0).2;cases c2:(t.at p).ri with
    | false =>
     have HG:Hid (Aff lk (L.drop (q+1)) bo t=R):=by unfold Hid;rw[← Aa HRR,if_pos (.inr c2)]
     rw[c2]at z3;go_wp2
     go_quiet (fail)
     rename_i nq;have hbq:Below (wr.alloc (O9 (p:Int) op n)).heap.size (wr.alloc (O9 (p:Int) op n)) ((wr.alloc (O9 (p:Int) op n)).drewN nq):=Ba (Below.refl _ _);have L3:=L2.below hbq;have K3:=K2.trans (Lw.of_below hbq);go_wp2
     go_roundw
     case rel=>exact⟨q+1,t,bo,by omega,rfl,by go_num,HG,L3,HO,K3⟩
     case measure=>simp[intOf];omega
    | true =>
     have HG:Hid (Aff lk (L.drop (q+1)) true (lk ⟨(p:Int),op,n⟩ (t.at p).fr (t.calm p))=R):=by unfold Hid;rw[← Aa HRR,if_neg (fun h=>h.elim (fun h=>by omega) (fun h=>by rw[c2]at h;cases h))]
     have HO2:=Ac (Aa HOI kp c2);have HL2:=Ac (Aa HLI kp c2);rw[c2]at z3;go_wp2
     go_quiet (fail)
     rename_i nq;have hbq:Below (wr.alloc (O9 (p:Int) op n)).heap.size (wr.alloc (O9 (p:Int) op n)) ((wr.alloc (O9 (p:Int) op n)).drewN nq):=Ba (Below.refl _ _);have L3:=L2.below hbq;have K3:=K2.trans (Lw.of_below hbq);have CI3:=stay hbq CI2;clear L2 K2 CI2 hbq i0 x28 z0 z1 z2 z3 z4 hu lS lI lG HOI HLI HRR L1 K1;go_wp2;generalize (wr.alloc (O9 (p:Int) op n)).drewN nq=w3 at *;have i0:=Ab CI3 0;have x28:=Ab L3.blk 28;have lS:=lt_of_block L3.blk;have lI:=lt_of_block CI3;obtain⟨u,hu,z0,z1,z2,z3,z4⟩:=L3.at (i:=p) (by omega);obtain⟨f3,lG⟩:=L3.free (p*5+3);rw[c2]at z3;simp at i0 x28;obtain⟨g4,k4⟩:=L3.ri (q:=p) (by omega) false
     go_region
     have hd:Below (w3.setCell ⟨G,p*5+3,none⟩ (.bool false)).heap.size (w3.setCell ⟨G,p*5+3,none⟩ (.bool false)) (w3.setCell ⟨G,p*5+3,none⟩ (.bool false)).drew:=(Below.refl _ _).drew;have k4':=k4.trans (Lw.of_below hd);have L4:LsAt (w3.setCell ⟨G,p*5+3,none⟩ (.bool false)).drew S G b gc (t.calm p):=g4.below hd;have K4:=K3.trans k4';have CI4:=k4'.stay CI3 (by omega) (by omega);clear L3 K3 CI3 i0 x28 lS lI u hu z0 z1 z2 z3 z4 f3 lG g4 k4 k4' hd;generalize (w3.setCell ⟨G,p*5+3,none⟩ (.bool false)).drew=w4 at *;have i0:=Ab CI4 0;have x28:=Ab L4.blk 28;have lS:=lt_of_block L4.blk;have lI:=lt_of_block CI4;have ec:(t.calm p).sp.length=t.sp.length:=by simp[Afd.calm]
     obtain⟨u,hu,z0,z1,-,-,-⟩:=L4.at (i:=p) (by omega);have ef:((t.calm p).at p).fr=(t.at p).fr:=by unfold Afd.calm;rw[Ib t p _ (by omega),if_pos rfl]
     rw[ef]at hu;rw[Array.getElem?_eq_getElem (by simp)]at x28;simp only[ec]at x28;obtain⟨ua,un,uc,va,vn,vc⟩:=u;obtain⟨-,lG⟩:=L4.free 0;simp at i0 x28 z0 z1;go_wp2
     go_region
     have hd:Below w4.heap.size w4 (w4.alloc (O18 ua un uc va vn vc)).drew:=(QN _).drew;have L5:=L4.below hd;have K5:=K4.trans (Lw.of_below hd);have CI5:=stay hd CI4;have CC5:(w4.alloc (O18 ua un uc va vn vc)).drew.heap[w4.heap.size]?=some (O18 ua un uc va vn vc):=Ad w4 _;have hu5:=hu.below hd;clear L4 K4 CI4 i0 x28 lS lI hu z0 z1 lG hd ec ef;generalize (w4.alloc (O18 ua un uc va vn vc)).drew=w5 at *;have hl:=Aa HL2 ⟨ua,un,uc,va,vn,vc⟩ w5 K5 L5 hu5;simp only[FrV.val]at hl;have HL5:=Ac hl;obtain⟨i0,i1,i2⟩:=cl3 CI5;have c0:=Ab CC5 0;have c1':=Ab CC5 1;have lI:=lt_of_block CI5;have lC:=lt_of_block CC5;simp at i0 i1 i2 c0 c1';clear hl HL2;go_wp2_with fail
     refine(Aa HL5).mono ?_;rintro e w6 ⟨rfl,L6,K6⟩;have K7:=K5.trans K6;clear L5 K5 K6 CI5 CC5 hu5 i0 i1 i2 c0 c1' lI lC;go_wp2
     go_roundw
     case rel=>exact⟨q+1,_,true,by omega,rfl,by go_num,HG,L6,HO2,K7⟩
     case measure=>simp[intOf];omega
  ·have kb:¬ (q:Int)<(L.length:Int):=by omega
   have e:(t,bo)=R:=by rw[← Aa HR,List.drop_eq_nil_of_le (by omega)];rfl
   subst e;clear HR;have x29:=Ab L1.blk 29;have lS:=lt_of_block L1.blk;simp at x29;cases bo with
   | false =>
    go_wp2;go_ret;exact⟨rfl,L1,Aa HO,K1⟩
   | true =>
    go_wp2;go_ret;exact⟨by simp,L1,Aa HO,K1⟩
def MpsR (w:World) (b:Nat) (v:Value) (l:List (Rd.Mp × Value × Value)):Prop :=
 w.ownsRow b 266 3 v l.length (Cx l)∧∀ p∈l,TyR w p.2.1 p.1.locals∧TyR w p.2.2 p.1.stack
theorem MpsR.below {w w':World}{b:Nat}{v:Value}{l:List (Rd.Mp × Value × Value)} (h:MpsR w b v l) (hb:Below w.heap.size w w'):MpsR w' b v l :=
 ⟨Am h.1 (Kp.of_below (e:=none) hb) (by decide),fun p hp=>⟨(h.2 p hp).1.below hb,(h.2 p hp).2.below hb⟩⟩
theorem Ty (k:Nat) (p:Aik):∀ (l:List Aik),Af7 k (l++[p])=Af7 k l++Af7 (k+l.length) [p]:=by
 intro l
 induction l generalizing k with
 | nil=>rfl
 | cons x r ih =>
  simp only[List.cons_append,Af7,ih,List.length_cons];rw[show k+1+r.length=k+(r.length+1) by omega]
  split<;>rfl
theorem Ta (s:Afd) (k:Nat) (hk:k<s.sp.length):Af7 0 (s.sp.take (k+1))=Af7 0 (s.sp.take k)++(if (s.at k).wa=true then [⟨(k:Int),(s.at k).fr.locals,(s.at k).fr.stack⟩] else []):=by
 have e:s.sp.take (k+1)=s.sp.take k++[s.at k]:=by
  rw[List.take_succ_eq_append_getElem hk];unfold Afd.at;rw[List.getD_eq_getElem?_getD,List.getElem?_eq_getElem hk];rfl
 rw[e,Ty,List.length_take,Nat.zero_add,Nat.min_eq_left (by omega)];rfl
theorem Yw (b:PBd) (S G gc:Nat) (s:Afd) (w:World) (h:LsAt w S G b gc s) :
  Calls Tryz.prog 113 #[.pointer (some ⟨S,0,none⟩)] w fun e w'=>∃ a n c ms,e=.returned (.slice a n c)∧ms.map Prod.fst=Af7 0 s.sp∧MpsR w' w.heap.size (.slice a n c) ms∧Below w.heap.size w w':=by
 obtain⟨i0,hi,hz0,hz1,hz2⟩:=info_parts Tryz.infoMap;have x28:=Ab h.blk 28;have lS:=lt_of_block h.blk;have lG:=(h.free 0).2;have hlen:=h.len;have hcap:=h.cap;simp at x28;have hat:=fun i hi=>h.at (i:=i) hi;generalize hR:Af7 0 s.sp=R;have HR:=Ac hR;have HAT:=Ac hat;clear h hR hat;go_enter Tryz.func113,Tryz.ntmps113;go_wp2
 go_loopw [3,11] (fun v i wr=>∃ (k:Nat) (ms:List (Rd.Mp × Value × Value)),k≤s.sp.length∧i=.int .i64 (k:Int)∧ms.length≤k∧Hid (ms.map Prod.fst=Af7 0 (s.sp.take k))∧wr.ownsRow w.heap.size 266 3 v ms.length (Cx ms)∧Hid (∀ p∈ms,TyR w p.2.1 p.1.locals∧TyR w p.2.2 p.1.stack)∧Below w.heap.size w wr)
  (fun _ i _=>s.sp.length-(intOf i).toNat)
 case atStart=>exact⟨0,[],by omega,rfl,Nat.le_refl _,rfl,World.ownsRow_nil _ _ _ _,(fun p hp=>by simp at hp),Below.refl _ _⟩
 case round =>
  clear x28;obtain⟨k,ms,hk,rfl,hml,HM,hown,HT,hB⟩:=hrel;have hBs:=hB.size;obtain⟨ma,mc,rfl⟩:=Ae hown;by_cases hkn:k<s.sp.length
  ·obtain⟨u,hu,z0,z1,z2,z3,z4⟩:=Aa HAT k hkn;obtain⟨ua,un,uc,va,vn,vc⟩:=u;have hmt:=Ta s k hkn;have hlo:=hu.lo;have hst:=hu.st;simp only at z0 z1 hlo hst;replace z0:=(hB.cell (p:=⟨G,k*5,none⟩) lG).trans z0;replace z1:=(hB.cell (p:=⟨G,k*5+1,none⟩) lG).trans z1;replace z2:=(hB.cell (p:=⟨G,k*5+2,none⟩) lG).trans z2;replace z3:=(hB.cell (p:=⟨G,k*5+3,none⟩) lG).trans z3;replace z4:=(hB.cell (p:=⟨G,k*5+4,none⟩) lG).trans z4;clear hu;generalize (s.at k).wa=wa at *;generalize (s.at k).st=st at *;generalize (s.at k).ri=ri at *;generalize (s.at k).fr=fr at *;have kb:(k:Int)<(s.sp.length:Int):=by omega
   have lG2:G<wr.heap.size:=by omega
   cases wa with
   | false =>
    have HM2:Hid (ms.map Prod.fst=Af7 0 (s.sp.take (k+1))):=by unfold Hid;rw[Aa HM,hmt];simp
    have hB2:=hB.alloc hBs (O22 ua un uc va vn vc st ri false);have hown2:=hown.alloc (O22 ua un uc va vn vc st ri false);clear hmt;go_wp2
    go_roundw
    case rel=>exact⟨k+1,ms,by omega,by go_num,by omega,HM2,hown2,HT,hB2⟩
    case measure=>simp[intOf];omega
   | true =>
    have HM2:Hid ((ms++[((⟨(k:Int),fr.locals,fr.stack⟩:Rd.Mp),Value.slice ua un uc,Value.slice va vn vc)]).map Prod.fst=Af7 0 (s.sp.take (k+1))):=by unfold Hid;rw[List.map_append,Aa HM,hmt];simp
    have HT2:Hid (∀ p∈ms++[((⟨(k:Int),fr.locals,fr.stack⟩:Rd.Mp),Value.slice ua un uc,Value.slice va vn vc)],TyR w p.2.1 p.1.locals∧TyR w p.2.2 p.1.stack):=fun p hp=>by
     rcases List.mem_append.1 hp with hp|hp
     ·exact Aa HT p hp
     ·rw[List.mem_singleton.1 hp];exact⟨hlo,hst⟩
    have hB2:=hB.alloc hBs (O22 ua un uc va vn vc st ri true);have hown2:=hown.alloc (O22 ua un uc va vn vc st ri true);clear hmt;go_wp2_with (at_builtin;refine wpList_append_own _ rfl _ _ 131 rfl w.heap.size 266 i0 _ 3 56 Tryz.underlying131 hi hz0 hz1 hz2 rfl (by decide) _ _ _ rfl (hown2.alloc _) ⟨wr.heap.size+1,0,none⟩ 1 1 [.int .i64 (k:Int),.slice ua un uc,.slice va vn vc] rfl rfl ?c1 ?c2 ?c3 ?c4 ?c5 ?_)
    case c1=>exact Ar _ _ _ _ (by simp)
    case c2=>intro u hu;simp at hu;rcases hu with rfl | rfl | rfl<;>rfl
    case c3=>unfold maxLen;omega
    case c4=>omega
    case c5=>simp;omega
    intro v' w5 hown5 hgrow _;have hB5:=(hB2.alloc hB2.size (O11 (k:Int) ua un uc va vn vc)).grown hgrow (by simp;omega) (fun j hj=>(hown2.lt j hj).1);have hown6:w5.ownsRow w.heap.size 266 3 v' (ms++[((⟨(k:Int),fr.locals,fr.stack⟩:Rd.Mp),Value.slice ua un uc,Value.slice va vn vc)]).length (Cx (ms++[((⟨(k:Int),fr.locals,fr.stack⟩:Rd.Mp),Value.slice ua un uc,Value.slice va vn vc)])):=by rw[Ku,List.length_append];exact hown5
    clear hgrow hown hown2 hown5 hB hB2;go_wp2
    go_roundw
    case rel=>exact⟨k+1,_,by omega,by go_num,by simp;omega,HM2,hown6,HT2,hB5⟩
    case measure=>simp[intOf];omega
  ·have kb:¬ (k:Int)<(s.sp.length:Int):=by omega
   have e:ms.map Prod.fst=R:=by rw[Aa HM,List.take_of_length_le (by omega),Aa HR]
   have HE:=Ac e;clear e;go_wp2;go_ret;exact⟨_,_,_,rfl,ms,Aa HE,⟨hown,fun p hp=>⟨(Aa HT p hp).1.below hB,(Aa HT p hp).2.below hB⟩⟩,hB⟩
theorem Tryz.infoSpot:(Tryz.prog.info? 260).map (fun i=>(i.zero,i.size,i.bytes))=some (some (.agg #[.slice none 0 0,.slice none 0 0,.bool false,.bool false,.bool false]),5,56):=by kernel_rfl
def Afg (n:Nat):Array Value:=madeCells (Value.agg #[.slice none 0 0,.slice none 0 0,.bool false,.bool false,.bool false]).cells (n*5)
theorem Aa5 (n:Nat) (hn:n≤1000) (w:World):(Instr.makeSlice 185 (.int .i64 (n:Int)) (.int .i64 (n:Int))).run Tryz.prog w=.ok (.slice (some ⟨w.heap.size,0,none⟩) n n) (w.alloc (.cells (Afg n) 260)):=by
 obtain⟨i0,hi,hz0,hz1,hz2⟩:=info_parts Tryz.infoSpot;have:=run_make w 185 260 i0 _ Tryz.underlying185 hi hz0 .i64 .i64 (n:Int) (n:Int) (by omega) (Int.le_refl _) (by rw[hz2];omega) (by omega);rw[hz1]at this
 simpa[Afg] using this
theorem Ac1 (n:Nat):(Afg n).size=n*5:=by simp[Afg,madeCells]
theorem Mk (n i j:Nat) (hi:i<n) (hj:j<5):(Afg n)[i*5+j]?=(#[.slice none 0 0,.slice none 0 0,.bool false,.bool false,.bool false]:Array Value)[j]?:=by
 have hl:i*5+j<n*5:=by omega
 have hm:(i*5+j) % 5=j:=by omega
 unfold Afg madeCells;have hj':j=0∨j=1∨j=2∨j=3∨j=4:=by omega
 rcases hj' with rfl|rfl|rfl|rfl|rfl
 all_goals
  simp only[Value.cells,Array.getElem?_map];rw[Array.getElem?_eq_getElem (by simpa using hl)];simp[hm]
theorem LsAt.made {w:World}{S G:Nat}{b:PBd}{n:Nat} (h1:w.heap[S]?=some (O21 (some ⟨b.tg,0,none⟩) b.T.length b.tc b.ya b.yn b.yc b.cl b.nm b.pa b.pl b.pc b.r1 b.r2 b.lo b.st b.ca b.cn b.cc b.ha b.hl b.hc b.ma b.ml b.mc b.la b.L.length b.lc b.fa1 b.fl1 b.fc1 b.fa2 b.fl2 b.fc2 (some ⟨b.tg,0,none⟩) b.T.length b.tc b.ya b.yn b.yc b.cl b.nm b.pa b.pl b.pc b.r1 b.r2 b.lo b.st b.ca b.cn b.cc b.ha b.hl b.hc b.ma b.ml b.mc b.la b.L.length b.lc (some ⟨G,0,none⟩) n n false)) (h2:w.heap[G]?=some (.cells (Afg n) 260 (0,0))) (hne:S≠G) (hn:n≤1000):LsAt w S G b n ⟨List.replicate n Ahe,false⟩:=by
 refine⟨by simpa using h1,⟨_,h2,by simpa using Ac1 n,fun i hi=>?_⟩,hne,by simpa using hn,by simp;omega⟩;have hi':i<n:=by simpa using hi
 have e:(⟨List.replicate n Ahe,false⟩:Afd).at i=Ahe:=by
  unfold Afd.at;rw[List.getD_eq_getElem?_getD,List.getElem?_replicate,if_pos hi'];rfl
 rw[e];exact⟨⟨none,0,0,none,0,0⟩,⟨Mk n i 0 hi' (by omega),Mk n i 1 hi' (by omega),Mk n i 2 hi' (by omega),Mk n i 3 hi' (by omega),Mk n i 4 hi' (by omega)⟩,⟨TyR.nil _,TyR.nil _,Nat.zero_le _,Nat.zero_le _⟩⟩
abbrev Afl:Obj:=.cells #[.slice none 0 0,.slice none 0 0,.int .i64 0,.int .i64 0,.slice none 0 0,.int .i64 0,.int .i64 0,.int .i64 0,.int .i64 0,.slice none 0 0,.slice none 0 0,.slice none 0 0,.slice none 0 0,.slice none 0 0,.slice none 0 0,.slice none 0 0,.slice none 0 0,.int .i64 0,.int .i64 0,.slice none 0 0,.int .i64 0,.int .i64 0,.int .i64 0,.int .i64 0,.slice none 0 0,.slice none 0 0,.slice none 0 0,.slice none 0 0,.slice none 0 0,.bool false] 187
theorem Tryz.infoSearch:(Tryz.prog.info? 187).map (·.size)=some 30:=by kernel_rfl
theorem Fy {w:World}{k:Nat}{cs cs':Array Value}{t t':TypeId} (h:w.heap[k]?=some (.cells cs t (0,0))) (h':w.heap[k]?=some (.cells cs' t' (0,0))) (hne:t≠t'):False:=by
 rw[h]at h';simp only[Option.some.injEq,Obj.cells.injEq]at h';exact hne h'.2.1
theorem Jw {w w':World}{S G:Nat}{b:PBd}{gc:Nat}{s:Afd}{bb size m:Nat}{t:TypeId}{v:Value}{xs:List Value} (h:w.ownsRow bb t size v m xs) (hl:LsAt w S G b gc s) (hk:Lw S G w w') (h1:t≠187) (h2:t≠260):w'.ownsRow bb t size v m xs:=by
 obtain⟨e1,e2|⟨g,cap,cur,a,c,d,r⟩⟩:=h
 ·exact⟨e1,.inl e2⟩
 ·obtain⟨cs,hG,_⟩:=hl.spt;exact⟨e1,.inr ⟨g,cap,cur,a,c,hk.stay d (fun e=>by subst e;exact Fy d hl.blk h1) (fun e=>by subst e;exact Fy d hG h2),r⟩⟩
theorem TyR.uniq {w:World}{a:Option Addr}{n c:Nat}{l l':List (Int × Int)} (h:TyR w (.slice a n c) l) (h':TyR w (.slice a n c) l'):l=l':=by
 obtain⟨e1,-,-⟩:=h.cap;obtain⟨e2,-,-⟩:=h'.cap;have el:l.length=l'.length:=by omega
 by_cases hz:l.length=0
 ·rw[List.eq_nil_of_length_eq_zero hz,List.eq_nil_of_length_eq_zero (l:=l') (by omega)]
 ·obtain⟨g,o,ha,_,hat⟩:=h.at (by omega);obtain⟨g',o',ha',_,hat'⟩:=h'.at (by omega);rw[ha]at ha';simp only[Option.some.injEq,Addr.mk.injEq,and_true]at ha';obtain⟨rfl,rfl⟩:=ha';refine List.ext_getElem el (fun i h1 h2=>?_);obtain⟨x0,x1⟩:=hat i h1;obtain⟨y0,y1⟩:=hat' i h2;rw[x0]at y0;rw[x1]at y1;simp only[Option.some.injEq,Value.int.injEq,true_and]at y0 y1;exact Prod.ext y0 y1
theorem LsAt.uniq {w:World}{S G:Nat}{b:PBd}{gc:Nat}{s s':Afd} (h:LsAt w S G b gc s) (h':LsAt w S G b gc s'):s=s':=by
 have e:=h.blk.symm.trans h'.blk;simp only[Option.some.injEq,Obj.cells.injEq,Array.mk.injEq,List.cons.injEq,Value.slice.injEq,Value.bool.injEq,true_and,and_true]at e;obtain⟨el,eh⟩:=e;obtain⟨sp,hop⟩:=s;obtain⟨sp',hop'⟩:=s';simp only at el eh;subst eh
 congr 1
 refine List.ext_getElem el (fun i h1 h2=>?_);obtain⟨v,hv,x0,x1,x2,x3,x4⟩:=h.at (i:=i) h1;obtain⟨v',hv',y0,y1,y2,y3,y4⟩:=h'.at (i:=i) h2;have a1:(⟨sp,hop⟩:Afd).at i=sp[i]:=by unfold Afd.at;rw[List.getD_eq_getElem?_getD,List.getElem?_eq_getElem h1];rfl
 have a2:(⟨sp',hop⟩:Afd).at i=sp'[i]:=by unfold Afd.at;rw[List.getD_eq_getElem?_getD,List.getElem?_eq_getElem h2];rfl
 rw[a1]at hv x2 x3 x4;rw[a2]at hv' y2 y3 y4;rw[x0]at y0;rw[x1]at y1;rw[x2]at y2;rw[x3]at y3;rw[x4]at y4;simp only[Option.some.injEq,Value.slice.injEq,Value.bool.injEq]at y0 y1 y2 y3 y4;obtain⟨la,ln,lc,sa,sn,sc⟩:=v;obtain⟨la',ln',lc',sa',sn',sc'⟩:=v';simp only at y0 y1;obtain⟨rfl,rfl,rfl⟩:=y0;obtain⟨rfl,rfl,rfl⟩:=y1;have l1:=hv.lo.uniq hv'.lo;have l2:=hv.st.uniq hv'.st;generalize sp[i]=p at *;generalize sp'[i]=p' at *;obtain⟨⟨pl,ps⟩,a,c,d⟩:=p;obtain⟨⟨pl',ps'⟩,a',c',d'⟩:=p';simp only at l1 l2 y2 y3 y4;subst l1 l2 y2 y3 y4;rfl
theorem Akn (mu:Afd→Nat) (S G:Nat) (b:PBd) (gc:Nat):∃ M:Value→World→Nat,(∀ w t,LsAt w S G b gc t→M (.bool true) w=mu t+1)∧∀ w,M (.bool false) w=0:=by
 have dec:∀ (v:Value) (w:World),∃ n:Nat,(∀ t,LsAt w S G b gc t→v=.bool true→n=mu t+1)∧(v=.bool false→n=0):=fun v w=>by
  by_cases hv:v=.bool true
  ·by_cases h:∃ t,LsAt w S G b gc t
   ·obtain⟨t,ht⟩:=h;exact⟨mu t+1,fun t' ht' _=>by rw[ht.uniq ht'],fun e=>by rw[hv]at e;simp at e⟩
   ·exact⟨0,fun t ht _=>absurd ⟨t,ht⟩ h,fun _=>rfl⟩
  ·exact⟨0,fun _ _ e=>absurd e hv,fun _=>rfl⟩
 exact⟨fun v w=>Classical.choose (dec v w),fun w t ht=>(Classical.choose_spec (dec (.bool true) w)).1 t ht rfl,fun w=>(Classical.choose_spec (dec (.bool false) w)).2 rfl⟩
theorem Zy (fa1 fa2:Option Addr) (fl1 fc1 fl2 fc2 tg tc:Nat) (ya:Option Addr) (yn yc:Nat) (T:List Int) (m:PM) (x:Rd.Mth) (bm:Nat) (x0:Afb) (lk:Cd.Ins→Afb→Afd→Afd) (OK:Afd→Prop) (mu:Afd→Nat) (done:Afd→Afd) (w:World)
  (hl:T.length≤1000) (hT:TreeIn w tg T) (hm:m.is x w bm) (hc1:x.code.length≤1000) (hc0:∀ y∈x.code,0≤y)
  (hSt:∀ w',Below w.heap.size w w'→Calls Tryz.prog 110 #[m.val] w' fun e w''=>∃ u:FrV,e=.returned u.val∧u.is x0 w''∧Below w'.heap.size w' w'')
  (h0:OK (Afo T m.st x0 0 ⟨List.replicate x.code.length Ahe,false⟩))
  (hdone:∀ t,OK t→done t=if ((Aff lk (Cd.readL x.code) false t).2 && !(Aff lk (Cd.readL x.code) false t).1.hop)=true then done (Aff lk (Cd.readL x.code) false t).1 else (Aff lk (Cd.readL x.code) false t).1)
  (hmu:∀ t,OK t→((Aff lk (Cd.readL x.code) false t).2 && !(Aff lk (Cd.readL x.code) false t).1.hop)=true→mu (Aff lk (Cd.readL x.code) false t).1<mu t)
  (hRd:∀ la lc bb S G t w',Below w.heap.size w w'→w.heap.size≤S→w.heap.size≤G→InsAt w' bb (.slice la (Cd.readL x.code).length lc) (Cd.readL x.code)→OK t →
   LsAt w' S G ⟨fa1,fl1,fc1,fa2,fl2,fc2,tg,tc,ya,yn,yc,m.cl,m.nm,m.pa,m.pl,m.pc,m.r1,m.r2,m.lo,m.st,m.ca,x.code.length,m.cc,m.ha,m.hl,m.hc,m.ma,m.ml,m.mc,la,lc,T,Cd.readL x.code⟩ x.code.length t →
   Calls Tryz.prog 112 #[.pointer (some ⟨S,0,none⟩)] w' fun e w''=>e=.returned (.bool ((Aff lk (Cd.readL x.code) false t).2 && !(Aff lk (Cd.readL x.code) false t).1.hop)) ∧
    LsAt w'' S G ⟨fa1,fl1,fc1,fa2,fl2,fc2,tg,tc,ya,yn,yc,m.cl,m.nm,m.pa,m.pl,m.pc,m.r1,m.r2,m.lo,m.st,m.ca,x.code.length,m.cc,m.ha,m.hl,m.hc,m.ma,m.ml,m.mc,la,lc,T,Cd.readL x.code⟩ x.code.length (Aff lk (Cd.readL x.code) false t).1∧OK (Aff lk (Cd.readL x.code) false t).1∧Lw S G w' w'') :
  Calls Tryz.prog 70 #[.agg #[.slice fa1 fl1 fc1,.slice fa2 fl2 fc2],.agg #[.slice (some ⟨tg,0,none⟩) T.length tc,.slice ya yn yc],m.val] w fun e w'=>∃ a n c,e=.returned (.tuple #[.slice a n c,.bool (!(done (Afo T m.st x0 0 ⟨List.replicate x.code.length Ahe,false⟩)).hop)]) ∧
   ((done (Afo T m.st x0 0 ⟨List.replicate x.code.length Ahe,false⟩)).hop=false→∃ ms,ms.map Prod.fst=Af7 0 (done (Afo T m.st x0 0 ⟨List.replicate x.code.length Ahe,false⟩)).sp∧MpsR w' w.heap.size (.slice a n c) ms)∧Below w.heap.size w w':=by
 have hcn:=hm.cn;obtain⟨cl,nm,pa,pl,pc,r1,r2,lo,st,ca,cn,cc,ha,hl',hc,ma,ml,mc⟩:=m;simp only[PM.val,FrV.val]at *;subst hcn;have hrd:=fun w' (h:Below w.heap.size w w')=>Ju x.code ca cc bm w' hc1 hc0 (hm.below h).code;have hmk:=fun w'=>Aa5 x.code.length hc1 w';have hfo:=fun la lc w'=>Rc ⟨fa1,fl1,fc1,fa2,fl2,fc2,tg,tc,ya,yn,yc,cl,nm,pa,pl,pc,r1,r2,lo,st,ca,x.code.length,cc,ha,hl',hc,ma,ml,mc,la,lc,T,Cd.readL x.code⟩ w';have har:=fun la lc S G s v y w' hT' h hv=>Io ⟨fa1,fl1,fc1,fa2,fl2,fc2,tg,tc,ya,yn,yc,cl,nm,pa,pl,pc,r1,r2,lo,st,ca,x.code.length,cc,ha,hl',hc,ma,ml,mc,la,lc,T,Cd.readL x.code⟩ S G x.code.length s v y 0 w' hl hT' h hv;simp only[PBd.val]at hfo har hrd;generalize hR:done (Afo T st x0 0 ⟨List.replicate x.code.length Ahe,false⟩)=R;have HR:=Ac hR;have HFO':=Ac hfo;have HRD:=Ac hrd;have HAR:=Ac har;have HST:=Ac hSt;have HRN:=Ac hRd;have HDN:=Ac hdone;have HMU:=Ac hmu;have H0:=Ac h0;clear hR hfo hrd har hSt hRd hdone hmu h0 hm hc0 hl;have hB0:=Cb w (O1 fa1 fl1 fc1 fa2 fl2 fc2) (O2 (some ⟨tg,0,none⟩) T.length tc ya yn yc) (O12 cl nm pa pl pc r1 r2 lo st ca x.code.length cc ha hl' hc ma ml mc);obtain⟨F0,T0,M0⟩:=J8 w (O1 fa1 fl1 fc1 fa2 fl2 fc2) (O2 (some ⟨tg,0,none⟩) T.length tc ya yn yc) (O12 cl nm pa pl pc r1 r2 lo st ca x.code.length cc ha hl' hc ma ml mc);go_enter Tryz.func70,Tryz.ntmps70;go_wp2_with fail
 refine(Aa HRD _ hB0).mono ?_;rintro e w2 ⟨la,lc,rfl,hI2',hb2⟩;obtain⟨bb,hI2⟩:∃ bb,InsAt w2 bb (.slice la (Cd.readL x.code).length lc) (Cd.readL x.code):=⟨_,hI2'⟩;clear hI2';have hB2:=QB hB0 hb2;have CF2:=stay hb2 F0;have CT2:=stay hb2 T0;have CM2:=stay hb2 M0;have hd2:Below w2.heap.size w2 w2.drew:=(Below.refl _ _).drew;have HFO:=Ac (Aa HFO' la lc);clear F0 T0 M0 hB0 hb2 HFO'
 go_upto_region 2 with fail
 go_cut [11] from 12 (fun s11 wx=>∃ S G,s11=.pointer (some ⟨S,0,none⟩)∧wx.heap[S]?=some (O21 (some ⟨tg,0,none⟩) T.length tc ya yn yc cl nm pa pl pc r1 r2 lo st ca x.code.length cc ha hl' hc ma ml mc la (Cd.readL x.code).length lc fa1 fl1 fc1 fa2 fl2 fc2 (some ⟨tg,0,none⟩) T.length tc ya yn yc cl nm pa pl pc r1 r2 lo st ca x.code.length cc ha hl' hc ma ml mc la (Cd.readL x.code).length lc (some ⟨G,0,none⟩) x.code.length x.code.length false)∧wx.heap[G]?=some (.cells (Afg x.code.length) 260 (0,0))∧S≠G∧w2.heap.size≤S∧w2.heap.size≤G∧Below w2.heap.size w2 wx)
 case first =>
  go_wp2;refine wp_region_held_drew (S:=(fun w'=>(w'.cell? ⟨w.heap.size,0,none⟩=some (.slice fa1 fl1 fc1)∧w'.cell? ⟨w.heap.size,1,none⟩=some (.slice fa2 fl2 fc2))∧(w'.cell? ⟨w.heap.size+1,0,none⟩=some (.slice (some ⟨tg,0,none⟩) T.length tc)∧w'.cell? ⟨w.heap.size+1,1,none⟩=some (.slice ya yn yc))∧w'.cell? ⟨w.heap.size+1+1,0,none⟩=some (.int .i64 cl)∧w'.cell? ⟨w.heap.size+1+1,1,none⟩=some (.int .i64 nm)∧w'.cell? ⟨w.heap.size+1+1,2,none⟩=some (.slice pa pl pc)∧w'.cell? ⟨w.heap.size+1+1,3,none⟩=some (.int .i64 r1)∧w'.cell? ⟨w.heap.size+1+1,4,none⟩=some (.int .i64 r2)∧w'.cell? ⟨w.heap.size+1+1,5,none⟩=some (.int .i64 lo)∧w'.cell? ⟨w.heap.size+1+1,6,none⟩=some (.int .i64 st)∧w'.cell? ⟨w.heap.size+1+1,7,none⟩=some (.slice ca x.code.length cc)∧w'.cell? ⟨w.heap.size+1+1,8,none⟩=some (.slice ha hl' hc)∧w'.cell? ⟨w.heap.size+1+1,9,none⟩=some (.slice ma ml mc))) (by kernel_rfl) (Au CF2 CT2 CM2) (fun hHeld=>?_);refine wpAnyH_take (i:=0) (oi:=⟨_,_,_,_,_,_⟩) (v:=.agg #[.slice (some ⟨tg,0,none⟩) T.length tc,.slice ya yn yc]) rfl (by kernel_rfl) (by kernel_rfl) (by kernel_rfl) (fun _ _ _ h=>h) (Or.inl ⟨by rfl,?_⟩) hHeld ?_
  ·intro w' hSw
   try dsimp only at hSw
   go_simp
  try simp only[QX]
  refine wpAnyH_take (i:=1) (oi:=⟨_,_,_,_,_,_⟩) (v:=.agg #[.int .i64 cl,.int .i64 nm,.slice pa pl pc,.int .i64 r1,.int .i64 r2,.int .i64 lo,.int .i64 st,.slice ca x.code.length cc,.slice ha hl' hc,.slice ma ml mc]) rfl (by kernel_rfl) (by kernel_rfl) (by kernel_rfl) (fun _ _ _ h=>h) (Or.inl ⟨by rfl,?_⟩) hHeld ?_
  ·intro w' hSw
   try dsimp only at hSw
   go_simp
  try simp only[QX]
  refine wpAnyH_take (i:=2) (oi:=⟨_,_,_,_,_,_⟩) (v:=.slice la (Cd.readL x.code).length lc) rfl (by kernel_rfl) (by kernel_rfl) (by kernel_rfl) (fun _ _ _ h=>h) (Or.inl ⟨by rfl,?_⟩) hHeld ?_
  ·intro w' hSw
   try dsimp only at hSw
   go_simp
  try simp only[QX]
  refine wpAnyH_take (i:=3) (oi:=⟨_,_,_,_,_,_⟩) (v:=.agg #[.slice fa1 fl1 fc1,.slice fa2 fl2 fc2]) rfl (by kernel_rfl) (by kernel_rfl) (by kernel_rfl) (fun _ _ _ h=>h) (Or.inl ⟨by rfl,?_⟩) hHeld ?_
  ·intro w' hSw
   try dsimp only at hSw
   go_simp
  try simp only[QX]
  refine wpAnyH_take (i:=4) (oi:=⟨_,_,_,_,_,_⟩) (v:=.agg #[.slice (some ⟨tg,0,none⟩) T.length tc,.slice ya yn yc]) rfl (by kernel_rfl) (by kernel_rfl) (by kernel_rfl) (fun _ _ _ h=>h) (Or.inl ⟨by rfl,?_⟩) hHeld ?_
  ·intro w' hSw
   try dsimp only at hSw
   go_simp
  try simp only[QX]
  refine wpAnyH_take (i:=5) (oi:=⟨_,_,_,_,_,_⟩) (v:=.agg #[.int .i64 cl,.int .i64 nm,.slice pa pl pc,.int .i64 r1,.int .i64 r2,.int .i64 lo,.int .i64 st,.slice ca x.code.length cc,.slice ha hl' hc,.slice ma ml mc]) rfl (by kernel_rfl) (by kernel_rfl) (by kernel_rfl) (fun _ _ _ h=>h) (Or.inl ⟨by rfl,?_⟩) hHeld ?_
  ·intro w' hSw
   try dsimp only at hSw
   go_simp
  try simp only[QX]
  refine wpAnyH_take (i:=6) (oi:=⟨_,_,_,_,_,_⟩) (v:=.slice la (Cd.readL x.code).length lc) rfl (by kernel_rfl) (by kernel_rfl) (by kernel_rfl) (fun _ _ _ h=>h) (Or.inl ⟨by rfl,?_⟩) hHeld ?_
  ·intro w' hSw
   try dsimp only at hSw
   go_simp
  try simp only[QX]
  refine wpAnyH_take (i:=8) (oi:=⟨_,_,_,_,_,_⟩) (v:=.pointer (some ⟨w.heap.size+1+1,7,none⟩)) rfl (by kernel_rfl) (by kernel_rfl) (by kernel_rfl) (fun _ _ _ h=>h) (Or.inl ⟨by rfl,?_⟩) hHeld ?_
  ·intro w' hSw
   try dsimp only at hSw
   go_simp
  try simp only[QX]
  refine wpAnyH_take (i:=9) (oi:=⟨_,_,_,_,_,_⟩) (v:=.slice ca x.code.length cc) rfl (by kernel_rfl) (by kernel_rfl) (by kernel_rfl) (fun _ _ _ h=>h) (Or.inl ⟨by rfl,?_⟩) hHeld ?_
  ·intro w' hSw
   try dsimp only at hSw
   go_simp
  try simp only[QX]
  refine wpAnyH_take (i:=10) (oi:=⟨_,_,_,_,_,_⟩) (v:=.int .i64 (x.code.length:Int)) rfl (by kernel_rfl) (by kernel_rfl) (by kernel_rfl) (fun _ _ _ h=>h) (Or.inl ⟨by rfl,?_⟩) hHeld ?_
  ·intro w' hSw
   try dsimp only at hSw
   go_simp
  try simp only[QX]
  refine wpAnyH_ready (rs:=[7,11,13]) (by kernel_rfl) (by simp) ?_;refine AllReadyH.cons (o:=⟨_,_,_,_,_,_⟩) rfl (fun K hK=>?_) (AllReadyH.cons (o:=⟨_,_,_,_,_,_⟩) rfl (fun K hK=>?_) (AllReadyH.cons (o:=⟨_,_,_,_,_,_⟩) rfl (fun K hK=>?_) AllReadyH.nil))
  ·go_simp
   refine(Aa HFO _).mono ?_;rintro e w5 ⟨rfl,hb5⟩;have hx5:Below w2.heap.size w2 w5:=(hd2).trans (hb5.mono (hd2).size)
   try dsimp only
   clear hHeld;refine hK.out _ _ (Au (stay (hx5) CF2) (stay (hx5) CT2) (stay (hx5) CM2)) (fun hHeld=>?_);clear hK K
   try simp only[QX]
   refine wpAnyH_ready (rs:=[11,13]) (by kernel_rfl) (by simp) ?_;refine AllReadyH.cons (o:=⟨_,_,_,_,_,_⟩) rfl (fun K hK=>?_) (AllReadyH.cons (o:=⟨_,_,_,_,_,_⟩) rfl (fun K hK=>?_) AllReadyH.nil)
   ·go_simp
    clear hHeld;refine hK.out _ _ (Au (stay ((hx5).alloc (hx5).size (.cells (Afg x.code.length) 260)) CF2) (stay ((hx5).alloc (hx5).size (.cells (Afg x.code.length) 260)) CT2) (stay ((hx5).alloc (hx5).size (.cells (Afg x.code.length) 260)) CM2)) (fun hHeld=>?_);clear hK K
    try simp only[QX]
    refine wpAnyH_take (i:=12) (oi:=⟨_,_,_,_,_,_⟩) (v:=.agg #[.slice (some ⟨tg,0,none⟩) T.length tc,.slice ya yn yc,.int .i64 cl,.int .i64 nm,.slice pa pl pc,.int .i64 r1,.int .i64 r2,.int .i64 lo,.int .i64 st,.slice ca x.code.length cc,.slice ha hl' hc,.slice ma ml mc,.slice la (Cd.readL x.code).length lc,.slice fa1 fl1 fc1,.slice fa2 fl2 fc2,.slice (some ⟨tg,0,none⟩) T.length tc,.slice ya yn yc,.int .i64 cl,.int .i64 nm,.slice pa pl pc,.int .i64 r1,.int .i64 r2,.int .i64 lo,.int .i64 st,.slice ca x.code.length cc,.slice ha hl' hc,.slice ma ml mc,.slice la (Cd.readL x.code).length lc,.slice (some ⟨w5.heap.size,0,none⟩) x.code.length x.code.length,.bool false]) rfl (by kernel_rfl) (by kernel_rfl) (by kernel_rfl) (fun _ _ _ h=>h) (Or.inl ⟨by rfl,?_⟩) hHeld ?_
    ·intro w' hSw
     try dsimp only at hSw
     go_simp
    try simp only[QX]
    refine wpAnyH_ready (rs:=[13]) (by kernel_rfl) (by simp) ?_;refine AllReadyH.cons (o:=⟨_,_,_,_,_,_⟩) rfl (fun K hK=>?_) AllReadyH.nil
    go_simp
    clear hHeld;refine hK.out _ _ (Au (stay (((hx5).alloc (hx5).size (.cells (Afg x.code.length) 260)).alloc ((hx5).alloc (hx5).size (.cells (Afg x.code.length) 260)).size Afl) CF2) (stay (((hx5).alloc (hx5).size (.cells (Afg x.code.length) 260)).alloc ((hx5).alloc (hx5).size (.cells (Afg x.code.length) 260)).size Afl) CT2) (stay (((hx5).alloc (hx5).size (.cells (Afg x.code.length) 260)).alloc ((hx5).alloc (hx5).size (.cells (Afg x.code.length) 260)).size Afl) CM2)) (fun hHeld=>?_);clear hK K
    try simp only[QX]
    have HPB:(((((w5).alloc (.cells (Afg x.code.length) 260))).alloc Afl)).heap[w5.heap.size+1]?=some Afl:=Ah w5 (.cells (Afg x.code.length) 260) Afl;have HGB:(((((w5).alloc (.cells (Afg x.code.length) 260))).alloc Afl)).heap[w5.heap.size]?=some (.cells (Afg x.code.length) 260 (0,0)):=Af (Ad w5 (.cells (Afg x.code.length) 260)) _;have hne:w5.heap.size+1≠w5.heap.size:=fun e=>by rw[e]at HPB;exact Fy HPB HGB (by decide)
    have hxx:Below w2.heap.size w2 (((((w5).alloc (.cells (Afg x.code.length) 260))).alloc Afl)):=((hx5).alloc (hx5).size (.cells (Afg x.code.length) 260)).alloc ((hx5).alloc (hx5).size (.cells (Afg x.code.length) 260)).size Afl;have hla:w2.heap.size≤w5.heap.size+1:=by have:=((hx5).alloc (hx5).size (.cells (Afg x.code.length) 260)).size;(try simp at this ⊢)<;>(try omega)
    have hlg:w2.heap.size≤w5.heap.size:=(hx5).size;refine wpAnyH_ready (rs:=[14]) (by kernel_rfl) (by simp) ?_;refine AllReadyH.cons (o:=⟨_,_,_,_,_,_⟩) rfl (fun K hK=>?_) AllReadyH.nil;refine Ay (by rfl) 187 _ _ (by rfl) (w5.heap.size+1) #[.slice (some ⟨tg,0,none⟩) T.length tc,.slice ya yn yc,.int .i64 cl,.int .i64 nm,.slice pa pl pc,.int .i64 r1,.int .i64 r2,.int .i64 lo,.int .i64 st,.slice ca x.code.length cc,.slice ha hl' hc,.slice ma ml mc,.slice la (Cd.readL x.code).length lc,.slice fa1 fl1 fc1,.slice fa2 fl2 fc2,.slice (some ⟨tg,0,none⟩) T.length tc,.slice ya yn yc,.int .i64 cl,.int .i64 nm,.slice pa pl pc,.int .i64 r1,.int .i64 r2,.int .i64 lo,.int .i64 st,.slice ca x.code.length cc,.slice ha hl' hc,.slice ma ml mc,.slice la (Cd.readL x.code).length lc,.slice (some ⟨w5.heap.size,0,none⟩) x.code.length x.code.length,.bool false] (by rfl) (by rfl) 187 _ HPB Tryz.infoSearch (by rfl) (by simp[Value.oneCell']) ?_;clear hHeld;refine hK.out _ _ (Au ((Aj (by have:=lt_of_block CF2;omega)).trans (stay hxx CF2)) ((Aj (by have:=lt_of_block CT2;omega)).trans (stay hxx CT2)) ((Aj (by have:=lt_of_block CM2;omega)).trans (stay hxx CM2))) (fun hHeld=>?_);clear hK K
    try simp only[Act.put]
    refine wpAnyH_done (by kernel_rfl) ?_ _;go_wp2
    go_meet
    case rel=>exact⟨w5.heap.size+1,w5.heap.size,rfl,Ce HPB,(Aj (fun e=>hne e.symm)).trans HGB,hne,hla,hlg,Dc hxx hla _⟩
   ·go_simp
    clear hHeld;refine hK.out _ _ (Au (stay ((hx5).alloc (hx5).size Afl) CF2) (stay ((hx5).alloc (hx5).size Afl) CT2) (stay ((hx5).alloc (hx5).size Afl) CM2)) (fun hHeld=>?_);clear hK K
    try simp only[QX]
    refine wpAnyH_ready (rs:=[11]) (by kernel_rfl) (by simp) ?_;refine AllReadyH.cons (o:=⟨_,_,_,_,_,_⟩) rfl (fun K hK=>?_) AllReadyH.nil
    go_simp
    clear hHeld;refine hK.out _ _ (Au (stay (((hx5).alloc (hx5).size Afl).alloc ((hx5).alloc (hx5).size Afl).size (.cells (Afg x.code.length) 260)) CF2) (stay (((hx5).alloc (hx5).size Afl).alloc ((hx5).alloc (hx5).size Afl).size (.cells (Afg x.code.length) 260)) CT2) (stay (((hx5).alloc (hx5).size Afl).alloc ((hx5).alloc (hx5).size Afl).size (.cells (Afg x.code.length) 260)) CM2)) (fun hHeld=>?_);clear hK K
    try simp only[QX]
    refine wpAnyH_take (i:=12) (oi:=⟨_,_,_,_,_,_⟩) (v:=.agg #[.slice (some ⟨tg,0,none⟩) T.length tc,.slice ya yn yc,.int .i64 cl,.int .i64 nm,.slice pa pl pc,.int .i64 r1,.int .i64 r2,.int .i64 lo,.int .i64 st,.slice ca x.code.length cc,.slice ha hl' hc,.slice ma ml mc,.slice la (Cd.readL x.code).length lc,.slice fa1 fl1 fc1,.slice fa2 fl2 fc2,.slice (some ⟨tg,0,none⟩) T.length tc,.slice ya yn yc,.int .i64 cl,.int .i64 nm,.slice pa pl pc,.int .i64 r1,.int .i64 r2,.int .i64 lo,.int .i64 st,.slice ca x.code.length cc,.slice ha hl' hc,.slice ma ml mc,.slice la (Cd.readL x.code).length lc,.slice (some ⟨w5.heap.size+1,0,none⟩) x.code.length x.code.length,.bool false]) rfl (by kernel_rfl) (by kernel_rfl) (by kernel_rfl) (fun _ _ _ h=>h) (Or.inl ⟨by rfl,?_⟩) hHeld ?_
    ·intro w' hSw
     try dsimp only at hSw
     go_simp
    try simp only[QX]
    have HPB:(((((w5).alloc Afl)).alloc (.cells (Afg x.code.length) 260))).heap[w5.heap.size]?=some Afl:=Af (Ad w5 Afl) _;have HGB:(((((w5).alloc Afl)).alloc (.cells (Afg x.code.length) 260))).heap[w5.heap.size+1]?=some (.cells (Afg x.code.length) 260 (0,0)):=Ah w5 Afl (.cells (Afg x.code.length) 260);have hne:w5.heap.size≠w5.heap.size+1:=fun e=>by rw[e]at HPB;exact Fy HPB HGB (by decide)
    have hxx:Below w2.heap.size w2 (((((w5).alloc Afl)).alloc (.cells (Afg x.code.length) 260))):=((hx5).alloc (hx5).size Afl).alloc ((hx5).alloc (hx5).size Afl).size (.cells (Afg x.code.length) 260);have hla:w2.heap.size≤w5.heap.size:=(hx5).size;have hlg:w2.heap.size≤w5.heap.size+1:=by have:=((hx5).alloc (hx5).size Afl).size;(try simp at this ⊢)<;>(try omega)
    refine wpAnyH_ready (rs:=[14]) (by kernel_rfl) (by simp) ?_;refine AllReadyH.cons (o:=⟨_,_,_,_,_,_⟩) rfl (fun K hK=>?_) AllReadyH.nil;refine Ay (by rfl) 187 _ _ (by rfl) (w5.heap.size) #[.slice (some ⟨tg,0,none⟩) T.length tc,.slice ya yn yc,.int .i64 cl,.int .i64 nm,.slice pa pl pc,.int .i64 r1,.int .i64 r2,.int .i64 lo,.int .i64 st,.slice ca x.code.length cc,.slice ha hl' hc,.slice ma ml mc,.slice la (Cd.readL x.code).length lc,.slice fa1 fl1 fc1,.slice fa2 fl2 fc2,.slice (some ⟨tg,0,none⟩) T.length tc,.slice ya yn yc,.int .i64 cl,.int .i64 nm,.slice pa pl pc,.int .i64 r1,.int .i64 r2,.int .i64 lo,.int .i64 st,.slice ca x.code.length cc,.slice ha hl' hc,.slice ma ml mc,.slice la (Cd.readL x.code).length lc,.slice (some ⟨w5.heap.size+1,0,none⟩) x.code.length x.code.length,.bool false] (by rfl) (by rfl) 187 _ HPB Tryz.infoSearch (by rfl) (by simp[Value.oneCell']) ?_;clear hHeld;refine hK.out _ _ (Au ((Aj (by have:=lt_of_block CF2;omega)).trans (stay hxx CF2)) ((Aj (by have:=lt_of_block CT2;omega)).trans (stay hxx CT2)) ((Aj (by have:=lt_of_block CM2;omega)).trans (stay hxx CM2))) (fun hHeld=>?_);clear hK K
    try simp only[Act.put]
    refine wpAnyH_done (by kernel_rfl) ?_ _;go_wp2
    go_meet
    case rel=>exact⟨w5.heap.size,w5.heap.size+1,rfl,Ce HPB,(Aj (fun e=>hne e.symm)).trans HGB,hne,hla,hlg,Dc hxx hla _⟩
  ·go_simp
   clear hHeld;refine hK.out _ _ (Au (stay ((hd2).alloc (hd2).size (.cells (Afg x.code.length) 260)) CF2) (stay ((hd2).alloc (hd2).size (.cells (Afg x.code.length) 260)) CT2) (stay ((hd2).alloc (hd2).size (.cells (Afg x.code.length) 260)) CM2)) (fun hHeld=>?_);clear hK K
   try simp only[QX]
   refine wpAnyH_ready (rs:=[7,13]) (by kernel_rfl) (by simp) ?_;refine AllReadyH.cons (o:=⟨_,_,_,_,_,_⟩) rfl (fun K hK=>?_) (AllReadyH.cons (o:=⟨_,_,_,_,_,_⟩) rfl (fun K hK=>?_) AllReadyH.nil)
   ·go_simp
    refine(Aa HFO _).mono ?_;rintro e w5 ⟨rfl,hb5⟩;have hx5:Below w2.heap.size w2 w5:=((hd2).alloc (hd2).size (.cells (Afg x.code.length) 260)).trans (hb5.mono ((hd2).alloc (hd2).size (.cells (Afg x.code.length) 260)).size)
    try dsimp only
    clear hHeld;refine hK.out _ _ (Au (stay (hx5) CF2) (stay (hx5) CT2) (stay (hx5) CM2)) (fun hHeld=>?_);clear hK K
    try simp only[QX]
    refine wpAnyH_take (i:=12) (oi:=⟨_,_,_,_,_,_⟩) (v:=.agg #[.slice (some ⟨tg,0,none⟩) T.length tc,.slice ya yn yc,.int .i64 cl,.int .i64 nm,.slice pa pl pc,.int .i64 r1,.int .i64 r2,.int .i64 lo,.int .i64 st,.slice ca x.code.length cc,.slice ha hl' hc,.slice ma ml mc,.slice la (Cd.readL x.code).length lc,.slice fa1 fl1 fc1,.slice fa2 fl2 fc2,.slice (some ⟨tg,0,none⟩) T.length tc,.slice ya yn yc,.int .i64 cl,.int .i64 nm,.slice pa pl pc,.int .i64 r1,.int .i64 r2,.int .i64 lo,.int .i64 st,.slice ca x.code.length cc,.slice ha hl' hc,.slice ma ml mc,.slice la (Cd.readL x.code).length lc,.slice (some ⟨w2.heap.size,0,none⟩) x.code.length x.code.length,.bool false]) rfl (by kernel_rfl) (by kernel_rfl) (by kernel_rfl) (fun _ _ _ h=>h) (Or.inl ⟨by rfl,?_⟩) hHeld ?_
    ·intro w' hSw
     try dsimp only at hSw
     go_simp
    try simp only[QX]
    refine wpAnyH_ready (rs:=[13]) (by kernel_rfl) (by simp) ?_;refine AllReadyH.cons (o:=⟨_,_,_,_,_,_⟩) rfl (fun K hK=>?_) AllReadyH.nil
    go_simp
    clear hHeld;refine hK.out _ _ (Au (stay ((hx5).alloc (hx5).size Afl) CF2) (stay ((hx5).alloc (hx5).size Afl) CT2) (stay ((hx5).alloc (hx5).size Afl) CM2)) (fun hHeld=>?_);clear hK K
    try simp only[QX]
    have HPB:(((w5).alloc Afl)).heap[w5.heap.size]?=some Afl:=Ad w5 Afl;have HGB:(((w5).alloc Afl)).heap[w2.heap.size]?=some (.cells (Afg x.code.length) 260 (0,0)):=Af (stay hb5 (Ad w2.drew (.cells (Afg x.code.length) 260))) _;have hne:w5.heap.size≠w2.heap.size:=fun e=>by rw[e]at HPB;exact Fy HPB HGB (by decide)
    have hxx:Below w2.heap.size w2 (((w5).alloc Afl)):=(hx5).alloc (hx5).size Afl;have hla:w2.heap.size≤w5.heap.size:=(hx5).size;have hlg:w2.heap.size≤w2.heap.size:=(hd2).size;refine wpAnyH_ready (rs:=[14]) (by kernel_rfl) (by simp) ?_;refine AllReadyH.cons (o:=⟨_,_,_,_,_,_⟩) rfl (fun K hK=>?_) AllReadyH.nil;refine Ay (by rfl) 187 _ _ (by rfl) (w5.heap.size) #[.slice (some ⟨tg,0,none⟩) T.length tc,.slice ya yn yc,.int .i64 cl,.int .i64 nm,.slice pa pl pc,.int .i64 r1,.int .i64 r2,.int .i64 lo,.int .i64 st,.slice ca x.code.length cc,.slice ha hl' hc,.slice ma ml mc,.slice la (Cd.readL x.code).length lc,.slice fa1 fl1 fc1,.slice fa2 fl2 fc2,.slice (some ⟨tg,0,none⟩) T.length tc,.slice ya yn yc,.int .i64 cl,.int .i64 nm,.slice pa pl pc,.int .i64 r1,.int .i64 r2,.int .i64 lo,.int .i64 st,.slice ca x.code.length cc,.slice ha hl' hc,.slice ma ml mc,.slice la (Cd.readL x.code).length lc,.slice (some ⟨w2.heap.size,0,none⟩) x.code.length x.code.length,.bool false] (by rfl) (by rfl) 187 _ HPB Tryz.infoSearch (by rfl) (by simp[Value.oneCell']) ?_;clear hHeld;refine hK.out _ _ (Au ((Aj (by have:=lt_of_block CF2;omega)).trans (stay hxx CF2)) ((Aj (by have:=lt_of_block CT2;omega)).trans (stay hxx CT2)) ((Aj (by have:=lt_of_block CM2;omega)).trans (stay hxx CM2))) (fun hHeld=>?_);clear hK K
    try simp only[Act.put]
    refine wpAnyH_done (by kernel_rfl) ?_ _;go_wp2
    go_meet
    case rel=>exact⟨w5.heap.size,w2.heap.size,rfl,Ce HPB,(Aj (fun e=>hne e.symm)).trans HGB,hne,hla,hlg,Dc hxx hla _⟩
   ·go_simp
    clear hHeld;refine hK.out _ _ (Au (stay (((hd2).alloc (hd2).size (.cells (Afg x.code.length) 260)).alloc ((hd2).alloc (hd2).size (.cells (Afg x.code.length) 260)).size Afl) CF2) (stay (((hd2).alloc (hd2).size (.cells (Afg x.code.length) 260)).alloc ((hd2).alloc (hd2).size (.cells (Afg x.code.length) 260)).size Afl) CT2) (stay (((hd2).alloc (hd2).size (.cells (Afg x.code.length) 260)).alloc ((hd2).alloc (hd2).size (.cells (Afg x.code.length) 260)).size Afl) CM2)) (fun hHeld=>?_);clear hK K
    try simp only[QX]
    refine wpAnyH_ready (rs:=[7]) (by kernel_rfl) (by simp) ?_;refine AllReadyH.cons (o:=⟨_,_,_,_,_,_⟩) rfl (fun K hK=>?_) AllReadyH.nil
    go_simp
    refine(Aa HFO _).mono ?_;rintro e w5 ⟨rfl,hb5⟩;have hx5:Below w2.heap.size w2 w5:=(((hd2).alloc (hd2).size (.cells (Afg x.code.length) 260)).alloc ((hd2).alloc (hd2).size (.cells (Afg x.code.length) 260)).size Afl).trans (hb5.mono (((hd2).alloc (hd2).size (.cells (Afg x.code.length) 260)).alloc ((hd2).alloc (hd2).size (.cells (Afg x.code.length) 260)).size Afl).size)
    try dsimp only
    clear hHeld;refine hK.out _ _ (Au (stay (hx5) CF2) (stay (hx5) CT2) (stay (hx5) CM2)) (fun hHeld=>?_);clear hK K
    try simp only[QX]
    refine wpAnyH_take (i:=12) (oi:=⟨_,_,_,_,_,_⟩) (v:=.agg #[.slice (some ⟨tg,0,none⟩) T.length tc,.slice ya yn yc,.int .i64 cl,.int .i64 nm,.slice pa pl pc,.int .i64 r1,.int .i64 r2,.int .i64 lo,.int .i64 st,.slice ca x.code.length cc,.slice ha hl' hc,.slice ma ml mc,.slice la (Cd.readL x.code).length lc,.slice fa1 fl1 fc1,.slice fa2 fl2 fc2,.slice (some ⟨tg,0,none⟩) T.length tc,.slice ya yn yc,.int .i64 cl,.int .i64 nm,.slice pa pl pc,.int .i64 r1,.int .i64 r2,.int .i64 lo,.int .i64 st,.slice ca x.code.length cc,.slice ha hl' hc,.slice ma ml mc,.slice la (Cd.readL x.code).length lc,.slice (some ⟨w2.heap.size,0,none⟩) x.code.length x.code.length,.bool false]) rfl (by kernel_rfl) (by kernel_rfl) (by kernel_rfl) (fun _ _ _ h=>h) (Or.inl ⟨by rfl,?_⟩) hHeld ?_
    ·intro w' hSw
     try dsimp only at hSw
     go_simp
    try simp only[QX]
    have HPB:(w5).heap[w2.heap.size+1]?=some Afl:=stay hb5 (Ah w2.drew (.cells (Afg x.code.length) 260) Afl);have HGB:(w5).heap[w2.heap.size]?=some (.cells (Afg x.code.length) 260 (0,0)):=stay hb5 (Af (Ad w2.drew (.cells (Afg x.code.length) 260)) _);have hne:w2.heap.size+1≠w2.heap.size:=fun e=>by rw[e]at HPB;exact Fy HPB HGB (by decide)
    have hxx:Below w2.heap.size w2 (w5):=hx5;have hla:w2.heap.size≤w2.heap.size+1:=by have:=((hd2).alloc (hd2).size (.cells (Afg x.code.length) 260)).size;(try simp at this ⊢)<;>(try omega)
    have hlg:w2.heap.size≤w2.heap.size:=(hd2).size;refine wpAnyH_ready (rs:=[14]) (by kernel_rfl) (by simp) ?_;refine AllReadyH.cons (o:=⟨_,_,_,_,_,_⟩) rfl (fun K hK=>?_) AllReadyH.nil;refine Ay (by rfl) 187 _ _ (by rfl) (w2.heap.size+1) #[.slice (some ⟨tg,0,none⟩) T.length tc,.slice ya yn yc,.int .i64 cl,.int .i64 nm,.slice pa pl pc,.int .i64 r1,.int .i64 r2,.int .i64 lo,.int .i64 st,.slice ca x.code.length cc,.slice ha hl' hc,.slice ma ml mc,.slice la (Cd.readL x.code).length lc,.slice fa1 fl1 fc1,.slice fa2 fl2 fc2,.slice (some ⟨tg,0,none⟩) T.length tc,.slice ya yn yc,.int .i64 cl,.int .i64 nm,.slice pa pl pc,.int .i64 r1,.int .i64 r2,.int .i64 lo,.int .i64 st,.slice ca x.code.length cc,.slice ha hl' hc,.slice ma ml mc,.slice la (Cd.readL x.code).length lc,.slice (some ⟨w2.heap.size,0,none⟩) x.code.length x.code.length,.bool false] (by rfl) (by rfl) 187 _ HPB Tryz.infoSearch (by rfl) (by simp[Value.oneCell']) ?_;clear hHeld;refine hK.out _ _ (Au ((Aj (by have:=lt_of_block CF2;omega)).trans (stay hxx CF2)) ((Aj (by have:=lt_of_block CT2;omega)).trans (stay hxx CT2)) ((Aj (by have:=lt_of_block CM2;omega)).trans (stay hxx CM2))) (fun hHeld=>?_);clear hK K
    try simp only[Act.put]
    refine wpAnyH_done (by kernel_rfl) ?_ _;go_wp2
    go_meet
    case rel=>exact⟨w2.heap.size+1,w2.heap.size,rfl,Ce HPB,(Aj (fun e=>hne e.symm)).trans HGB,hne,hla,hlg,Dc hxx hla _⟩
  ·go_simp
   clear hHeld;refine hK.out _ _ (Au (stay ((hd2).alloc (hd2).size Afl) CF2) (stay ((hd2).alloc (hd2).size Afl) CT2) (stay ((hd2).alloc (hd2).size Afl) CM2)) (fun hHeld=>?_);clear hK K
   try simp only[QX]
   refine wpAnyH_ready (rs:=[7,11]) (by kernel_rfl) (by simp) ?_;refine AllReadyH.cons (o:=⟨_,_,_,_,_,_⟩) rfl (fun K hK=>?_) (AllReadyH.cons (o:=⟨_,_,_,_,_,_⟩) rfl (fun K hK=>?_) AllReadyH.nil)
   ·go_simp
    refine(Aa HFO _).mono ?_;rintro e w5 ⟨rfl,hb5⟩;have hx5:Below w2.heap.size w2 w5:=((hd2).alloc (hd2).size Afl).trans (hb5.mono ((hd2).alloc (hd2).size Afl).size)
    try dsimp only
    clear hHeld;refine hK.out _ _ (Au (stay (hx5) CF2) (stay (hx5) CT2) (stay (hx5) CM2)) (fun hHeld=>?_);clear hK K
    try simp only[QX]
    refine wpAnyH_ready (rs:=[11]) (by kernel_rfl) (by simp) ?_;refine AllReadyH.cons (o:=⟨_,_,_,_,_,_⟩) rfl (fun K hK=>?_) AllReadyH.nil
    go_simp
    clear hHeld;refine hK.out _ _ (Au (stay ((hx5).alloc (hx5).size (.cells (Afg x.code.length) 260)) CF2) (stay ((hx5).alloc (hx5).size (.cells (Afg x.code.length) 260)) CT2) (stay ((hx5).alloc (hx5).size (.cells (Afg x.code.length) 260)) CM2)) (fun hHeld=>?_);clear hK K
    try simp only[QX]
    refine wpAnyH_take (i:=12) (oi:=⟨_,_,_,_,_,_⟩) (v:=.agg #[.slice (some ⟨tg,0,none⟩) T.length tc,.slice ya yn yc,.int .i64 cl,.int .i64 nm,.slice pa pl pc,.int .i64 r1,.int .i64 r2,.int .i64 lo,.int .i64 st,.slice ca x.code.length cc,.slice ha hl' hc,.slice ma ml mc,.slice la (Cd.readL x.code).length lc,.slice fa1 fl1 fc1,.slice fa2 fl2 fc2,.slice (some ⟨tg,0,none⟩) T.length tc,.slice ya yn yc,.int .i64 cl,.int .i64 nm,.slice pa pl pc,.int .i64 r1,.int .i64 r2,.int .i64 lo,.int .i64 st,.slice ca x.code.length cc,.slice ha hl' hc,.slice ma ml mc,.slice la (Cd.readL x.code).length lc,.slice (some ⟨w5.heap.size,0,none⟩) x.code.length x.code.length,.bool false]) rfl (by kernel_rfl) (by kernel_rfl) (by kernel_rfl) (fun _ _ _ h=>h) (Or.inl ⟨by rfl,?_⟩) hHeld ?_
    ·intro w' hSw
     try dsimp only at hSw
     go_simp
    try simp only[QX]
    have HPB:(((w5).alloc (.cells (Afg x.code.length) 260))).heap[w2.heap.size]?=some Afl:=Af (stay hb5 (Ad w2.drew Afl)) _;have HGB:(((w5).alloc (.cells (Afg x.code.length) 260))).heap[w5.heap.size]?=some (.cells (Afg x.code.length) 260 (0,0)):=Ad w5 (.cells (Afg x.code.length) 260);have hne:w2.heap.size≠w5.heap.size:=fun e=>by rw[e]at HPB;exact Fy HPB HGB (by decide)
    have hxx:Below w2.heap.size w2 (((w5).alloc (.cells (Afg x.code.length) 260))):=(hx5).alloc (hx5).size (.cells (Afg x.code.length) 260);have hla:w2.heap.size≤w2.heap.size:=(hd2).size;have hlg:w2.heap.size≤w5.heap.size:=(hx5).size;refine wpAnyH_ready (rs:=[14]) (by kernel_rfl) (by simp) ?_;refine AllReadyH.cons (o:=⟨_,_,_,_,_,_⟩) rfl (fun K hK=>?_) AllReadyH.nil;refine Ay (by rfl) 187 _ _ (by rfl) (w2.heap.size) #[.slice (some ⟨tg,0,none⟩) T.length tc,.slice ya yn yc,.int .i64 cl,.int .i64 nm,.slice pa pl pc,.int .i64 r1,.int .i64 r2,.int .i64 lo,.int .i64 st,.slice ca x.code.length cc,.slice ha hl' hc,.slice ma ml mc,.slice la (Cd.readL x.code).length lc,.slice fa1 fl1 fc1,.slice fa2 fl2 fc2,.slice (some ⟨tg,0,none⟩) T.length tc,.slice ya yn yc,.int .i64 cl,.int .i64 nm,.slice pa pl pc,.int .i64 r1,.int .i64 r2,.int .i64 lo,.int .i64 st,.slice ca x.code.length cc,.slice ha hl' hc,.slice ma ml mc,.slice la (Cd.readL x.code).length lc,.slice (some ⟨w5.heap.size,0,none⟩) x.code.length x.code.length,.bool false] (by rfl) (by rfl) 187 _ HPB Tryz.infoSearch (by rfl) (by simp[Value.oneCell']) ?_;clear hHeld;refine hK.out _ _ (Au ((Aj (by have:=lt_of_block CF2;omega)).trans (stay hxx CF2)) ((Aj (by have:=lt_of_block CT2;omega)).trans (stay hxx CT2)) ((Aj (by have:=lt_of_block CM2;omega)).trans (stay hxx CM2))) (fun hHeld=>?_);clear hK K
    try simp only[Act.put]
    refine wpAnyH_done (by kernel_rfl) ?_ _;go_wp2
    go_meet
    case rel=>exact⟨w2.heap.size,w5.heap.size,rfl,Ce HPB,(Aj (fun e=>hne e.symm)).trans HGB,hne,hla,hlg,Dc hxx hla _⟩
   ·go_simp
    clear hHeld;refine hK.out _ _ (Au (stay (((hd2).alloc (hd2).size Afl).alloc ((hd2).alloc (hd2).size Afl).size (.cells (Afg x.code.length) 260)) CF2) (stay (((hd2).alloc (hd2).size Afl).alloc ((hd2).alloc (hd2).size Afl).size (.cells (Afg x.code.length) 260)) CT2) (stay (((hd2).alloc (hd2).size Afl).alloc ((hd2).alloc (hd2).size Afl).size (.cells (Afg x.code.length) 260)) CM2)) (fun hHeld=>?_);clear hK K
    try simp only[QX]
    refine wpAnyH_ready (rs:=[7]) (by kernel_rfl) (by simp) ?_;refine AllReadyH.cons (o:=⟨_,_,_,_,_,_⟩) rfl (fun K hK=>?_) AllReadyH.nil
    go_simp
    refine(Aa HFO _).mono ?_;rintro e w5 ⟨rfl,hb5⟩;have hx5:Below w2.heap.size w2 w5:=(((hd2).alloc (hd2).size Afl).alloc ((hd2).alloc (hd2).size Afl).size (.cells (Afg x.code.length) 260)).trans (hb5.mono (((hd2).alloc (hd2).size Afl).alloc ((hd2).alloc (hd2).size Afl).size (.cells (Afg x.code.length) 260)).size)
    try dsimp only
    clear hHeld;refine hK.out _ _ (Au (stay (hx5) CF2) (stay (hx5) CT2) (stay (hx5) CM2)) (fun hHeld=>?_);clear hK K
    try simp only[QX]
    refine wpAnyH_take (i:=12) (oi:=⟨_,_,_,_,_,_⟩) (v:=.agg #[.slice (some ⟨tg,0,none⟩) T.length tc,.slice ya yn yc,.int .i64 cl,.int .i64 nm,.slice pa pl pc,.int .i64 r1,.int .i64 r2,.int .i64 lo,.int .i64 st,.slice ca x.code.length cc,.slice ha hl' hc,.slice ma ml mc,.slice la (Cd.readL x.code).length lc,.slice fa1 fl1 fc1,.slice fa2 fl2 fc2,.slice (some ⟨tg,0,none⟩) T.length tc,.slice ya yn yc,.int .i64 cl,.int .i64 nm,.slice pa pl pc,.int .i64 r1,.int .i64 r2,.int .i64 lo,.int .i64 st,.slice ca x.code.length cc,.slice ha hl' hc,.slice ma ml mc,.slice la (Cd.readL x.code).length lc,.slice (some ⟨w2.heap.size+1,0,none⟩) x.code.length x.code.length,.bool false]) rfl (by kernel_rfl) (by kernel_rfl) (by kernel_rfl) (fun _ _ _ h=>h) (Or.inl ⟨by rfl,?_⟩) hHeld ?_
    ·intro w' hSw
     try dsimp only at hSw
     go_simp
    try simp only[QX]
    have HPB:(w5).heap[w2.heap.size]?=some Afl:=stay hb5 (Af (Ad w2.drew Afl) _);have HGB:(w5).heap[w2.heap.size+1]?=some (.cells (Afg x.code.length) 260 (0,0)):=stay hb5 (Ah w2.drew Afl (.cells (Afg x.code.length) 260));have hne:w2.heap.size≠w2.heap.size+1:=fun e=>by rw[e]at HPB;exact Fy HPB HGB (by decide)
    have hxx:Below w2.heap.size w2 (w5):=hx5;have hla:w2.heap.size≤w2.heap.size:=(hd2).size;have hlg:w2.heap.size≤w2.heap.size+1:=by have:=((hd2).alloc (hd2).size Afl).size;(try simp at this ⊢)<;>(try omega)
    refine wpAnyH_ready (rs:=[14]) (by kernel_rfl) (by simp) ?_;refine AllReadyH.cons (o:=⟨_,_,_,_,_,_⟩) rfl (fun K hK=>?_) AllReadyH.nil;refine Ay (by rfl) 187 _ _ (by rfl) (w2.heap.size) #[.slice (some ⟨tg,0,none⟩) T.length tc,.slice ya yn yc,.int .i64 cl,.int .i64 nm,.slice pa pl pc,.int .i64 r1,.int .i64 r2,.int .i64 lo,.int .i64 st,.slice ca x.code.length cc,.slice ha hl' hc,.slice ma ml mc,.slice la (Cd.readL x.code).length lc,.slice fa1 fl1 fc1,.slice fa2 fl2 fc2,.slice (some ⟨tg,0,none⟩) T.length tc,.slice ya yn yc,.int .i64 cl,.int .i64 nm,.slice pa pl pc,.int .i64 r1,.int .i64 r2,.int .i64 lo,.int .i64 st,.slice ca x.code.length cc,.slice ha hl' hc,.slice ma ml mc,.slice la (Cd.readL x.code).length lc,.slice (some ⟨w2.heap.size+1,0,none⟩) x.code.length x.code.length,.bool false] (by rfl) (by rfl) 187 _ HPB Tryz.infoSearch (by rfl) (by simp[Value.oneCell']) ?_;clear hHeld;refine hK.out _ _ (Au ((Aj (by have:=lt_of_block CF2;omega)).trans (stay hxx CF2)) ((Aj (by have:=lt_of_block CT2;omega)).trans (stay hxx CT2)) ((Aj (by have:=lt_of_block CM2;omega)).trans (stay hxx CM2))) (fun hHeld=>?_);clear hK K
    try simp only[Act.put]
    refine wpAnyH_done (by kernel_rfl) ?_ _;go_wp2
    go_meet
    case rel=>exact⟨w2.heap.size,w2.heap.size+1,rfl,Ce HPB,(Aj (fun e=>hne e.symm)).trans HGB,hne,hla,hlg,Dc hxx hla _⟩
 case rest =>
  obtain⟨S,G,rfl,hS,hG,hne,hSl,hGl,hb3⟩:=hcut;have hB3:=QB hB2 hb3;have hs2:=hB2.size;have L3:=LsAt.made (b:=⟨fa1,fl1,fc1,fa2,fl2,fc2,tg,tc,ya,yn,yc,cl,nm,pa,pl,pc,r1,r2,lo,st,ca,x.code.length,cc,ha,hl',hc,ma,ml,mc,la,lc,T,Cd.readL x.code⟩) hS hG hne hc1;have CM3:=stay hb3 CM2;have hI3:=hI2.kp (Kp.of_below (e:=none) hb3) (by decide);have hSw:w.heap.size≤S:=by omega
  have hGw:w.heap.size≤G:=by omega
  clear hS hG CF2 CT2 CM2 hd2 HFO hB2 hb3 hI2 hne;obtain⟨m0,m1,m2,m3,m4,m5,m6,m7,m8,m9⟩:=De CM3;have lM:=lt_of_block CM3;simp at m0 m1 m2 m3 m4 m5 m6 m7 m8 m9;go_wp2_with fail
  refine(Aa HST _ hB3).mono ?_;rintro e w4 ⟨u,rfl,hu4,hb4⟩;obtain⟨ua,un,uc,va,vn,vc⟩:=u;have hbC:Below wc.heap.size wc (w4.alloc (O18 ua un uc va vn vc)):=hb4.alloc hb4.size _;have L4:=L3.below hbC;have hB4:=QB hB3 hbC;have hI4:=hI3.kp (Kp.of_below (e:=none) hbC) (by decide);have hu5:=hu4.below (QN (O18 ua un uc va vn vc));have CC4:=Ad w4 (O18 ua un uc va vn vc);have ha4:=Aa HAR la lc S G _ ⟨ua,un,uc,va,vn,vc⟩ x0 _ (hT.below hB4) L4 hu5;simp only[FrV.val]at ha4;have HA4:=Ac ha4;obtain⟨c0,c1⟩:=cl2 CC4;have lC:=lt_of_block CC4;simp at c0 c1;clear ha4 L3 CM3 hI3 hu4 hb4 hbC m0 m1 m2 m3 m4 m5 m6 m7 m8 m9 lM;go_wp2_with fail
  refine(Aa HA4).mono ?_;rintro e w5 ⟨rfl,L5,K5⟩;have hI5:InsAt w5 bb (.slice la (Cd.readL x.code).length lc) (Cd.readL x.code):=Jw hI4 L4 K5 (by decide) (by decide);have hB5:=hB4.trans (K5.below hSw hGw hB4.size);clear L4 K5 hI4 hu5 CC4 c0 c1 lC HA4 HAR HST;generalize Afo T st x0 0 ⟨List.replicate x.code.length Ahe,false⟩=t0 at *;obtain⟨ME,hM1,hM2⟩:=Akn mu S G ⟨fa1,fl1,fc1,fa2,fl2,fc2,tg,tc,ya,yn,yc,cl,nm,pa,pl,pc,r1,r2,lo,st,ca,x.code.length,cc,ha,hl',hc,ma,ml,mc,la,lc,T,Cd.readL x.code⟩ x.code.length;have HM1:=Ac hM1;have HM2:=Ac hM2;clear hM1 hM2;go_wp2
  go_loopw [13] (fun s13 wr=>∃ (t:Afd) (ag:Bool),s13=.bool ag∧Hid (OK t)∧Hid ((if ag=true then done t else t)=R) ∧
    LsAt wr S G ⟨fa1,fl1,fc1,fa2,fl2,fc2,tg,tc,ya,yn,yc,cl,nm,pa,pl,pc,r1,r2,lo,st,ca,x.code.length,cc,ha,hl',hc,ma,ml,mc,la,lc,T,Cd.readL x.code⟩ x.code.length t∧InsAt wr bb (.slice la (Cd.readL x.code).length lc) (Cd.readL x.code)∧Below w.heap.size w wr∧True)
   (fun s13 wr=>ME s13 wr)
  case atStart=>exact⟨t0,true,rfl,H0,by unfold Hid;rw[if_pos rfl];exact Aa HR,L5,hI5,hB5,trivial⟩
  case round =>
   clear L5 hI5 hB5 H0 HR;obtain⟨t,ag,rfl,HO,HT,L6,hI6,hB6,-⟩:=hrel;cases ag with
   | true =>
    have hrn:=Aa HRN la lc bb S G t _ hB6 hSw hGw hI6 (Aa HO) L6;have hdn:=Aa HDN t (Aa HO);have hmu:=Aa HMU t (Aa HO);have hM0:=Aa HM1 _ _ L6;have hr:=Aa HT;rw[if_pos rfl,hdn]at hr;generalize hP:Aff lk (Cd.readL x.code) false t=P at *;obtain⟨P1,P2⟩:=P;simp only at hrn hr hmu;generalize (P2 && !P1.hop)=ag at *;have HRN2:=Ac hrn;have HT2:Hid ((if ag=true then done P1 else P1)=R):=hr
    have HMU2:=Ac hmu;have HM0:=Ac hM0;clear hrn hdn hmu hr hP HT hM0;go_wp2_with fail
    refine(Aa HRN2).mono ?_;rintro e w7 ⟨rfl,L7,HO7,K7⟩;have hI7:InsAt w7 bb (.slice la (Cd.readL x.code).length lc) (Cd.readL x.code):=Jw hI6 L6 K7 (by decide) (by decide);have hB7:=hB6.trans (K7.below hSw hGw hB6.size);have HO7':=Ac HO7;clear L6 hI6 hB6 K7 HO HO7;go_wp2
    go_roundw
    case rel=>exact⟨P1,ag,rfl,HO7',HT2,L7,hI7,hB7,trivial⟩
    case measure =>
     rw[Aa HM0];cases ag with
     | false=>rw[Aa HM2];omega
     | true=>rw[Aa HM1 _ _ L7];have:=Aa HMU2 rfl;omega
   | false =>
    have hr:t=R:=by have:=Aa HT;simpa using this
    subst hr;have x29:=Ab L6.blk 29;have lS6:=lt_of_block L6.blk;simp at x29;clear HT;cases hh:t.hop with
    | true =>
     rw[hh]at x29;have HH:=Ac hh;clear hh;go_wp2;refine bodyPost_ret (v:=.tuple #[.slice none 0 0,.bool false]) (by simp[results,Tryz.results70,go_sem]) rfl ?_;exact⟨none,0,0,by rw[Aa HH];rfl,fun h=>(by rw[Aa HH]at h;cases h),hB6⟩
    | false =>
     rw[hh]at x29;have HH:=Ac hh;have hmp:=Yw _ S G _ t _ L6;have HMP:=Ac hmp;clear hh hmp;go_wp2_with fail
     refine(Aa HMP).mono ?_;rintro e w8 ⟨a,n,c,ms,rfl,hms,hmr,hb8⟩;go_wp2;refine bodyPost_ret (v:=.tuple #[.slice a n c,.bool true]) (by simp[results,Tryz.results70,go_sem]) rfl ?_;have hs6:=hB6.size;exact⟨a,n,c,by rw[Aa HH];rfl,fun _=>⟨ms,hms,Av hmr.1 hs6,hmr.2⟩,hB6.trans (hb8.mono hs6)⟩
end Go.Proofs.YtpcgnjolfahacaaGreat
