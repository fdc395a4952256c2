/- a part of the proof -/
import Derived.Test.YtcefiamkoincoaaGreatPk01
set_option maxRecDepth 100000
set_option maxHeartbeats 40000000
set_option linter.unusedVariables false
set_option linter.unusedSimpArgs false
namespace Go.Proofs.YtcefiamkoincoaaGreat
open Go.RowKit
def Tr.given:List Int:=[-1,0,1,1,1,1,1]
def Tr.tree (cs:List Rd.Cls):List Int:=Tr.given++cs.map Rd.Cls.above
theorem Cc (cs:List Rd.Cls):(Tr.tree cs).length=7+cs.length:=by simp[Tr.tree,Tr.given];omega
def Tr.fvals (l:List (Rd.Cls × Value)):List Value:=List.replicate 7 (.slice none 0 0)++l.map Prod.snd
theorem Tryz.infoTys:(Tryz.prog.info? 48).map (fun i=>(i.zero,i.size,i.bytes))=some (some (.slice none 0 0),1,24):=by kernel_rfl
theorem Um (w:World) (b g:Nat) (t:TypeId) (hg:w.heap.size=g) (hb:b≤g) (u:Value):(w.alloc (.cells #[u,u,u,u,u,u,u] t)).ownsRow b t 1 (.slice (some ⟨g,0,none⟩) 7 7) 7 (List.replicate 7 u) :=
 ⟨rfl,.inr ⟨g,7,#[u,u,u,u,u,u,u],rfl,hb,by rw[← hg];exact Ad w _,by omega,by unfold maxLen;omega,rfl,rfl⟩⟩
theorem Kp.set2 {e:TypeId}{b i j:Nat}{w:World}{g:Nat}{cs:Array Value} (h:w.heap[g]?=some (.cells cs e (0,0))) (u u':Value):Kp (some e) b w ((w.setCell ⟨g,i,none⟩ u).setCell ⟨g,j,none⟩ u'):=by
 intro k cs' t hk hc ht;have h1:=Kp.set (b:=b) (i:=i) h u k cs' t hk hc ht;rw[Below.heap_setCell _ _ _ _ ?_];exact h1;intro hk;simp only at hk;subst hk;rw[hc]at h;simp at h;exact ht (by rw[h.2])
def Dk:Value→Nat | .slice _ n _=>n | _=>0
theorem Ye (w:World) (b g:Nat) (u v:Value) (t:TypeId) (hg:w.heap.size=g) (hb:b≤g):(w.alloc (.cells #[u,v] t)).ownsRow b t 1 (.slice (some ⟨g,0,none⟩) 2 2) 2 [u,v] :=
 ⟨rfl,.inr ⟨g,2,#[u,v],rfl,hb,by rw[← hg];exact Ad w _,by omega,by unfold maxLen;omega,rfl,rfl⟩⟩
theorem Ao {b size n:Nat}{e:TypeId}{a:Option Addr}{m c:Nat}{xs:List Value}{w:World} (h:w.ownsRow b e size (.slice a m c) n xs) (hn:0<n) :
  ∃ g,a=some ⟨g,0,none⟩∧g<w.heap.size∧b≤g∧∀ j,j<xs.length→w.cell? ⟨g,j,none⟩=xs[j]?:=by
 obtain⟨h1,⟨_,h2⟩|⟨g,cap,cur,h3,h4,h5,h6,h7,h8,h9⟩⟩:=h
 ·omega
 ·simp only[Value.slice.injEq]at h3;refine⟨g,h3.1,lt_of_block h5,h4,fun j hj=>?_⟩;rw[Ab h5,← h9,List.getElem?_take,if_pos (by omega)]
  simp
theorem Cv (l:List (Rd.Cls × Value)) (k:Nat) (h:k<l.length):(By l)[k*2]?=some (.int .i64 l[k].1.above)∧(By l)[k*2+1]?=some l[k].2∧k*2+1<(By l).length:=by
 induction l generalizing k with
 | nil=>simp at h
 | cons x r ih =>
  cases k with
  | zero=>simp[By]
  | succ j =>
   have hj:j<r.length:=by simpa using h
   obtain⟨p,q,z⟩:=ih j hj;have e:By (x::r)=.int .i64 x.1.above::x.2::By r:=by simp[By]
   rw[e,show (j+1)*2=j*2+1+1 by omega];refine⟨by simpa using p,by simpa using q,by simp;omega⟩
theorem Hu (a1 a2:Option Addr) (n1 c1 n2 c2 b:Nat) (l:List (Rd.Cls × Value)) (w:World) (hl:l.length≤6) (hc:ClssIn w b (.slice a1 n1 c1) l) :
  Calls Tryz.prog 41 #[.agg #[.slice a1 n1 c1,.slice a2 n2 c2]] w fun e w' =>
   ∃ g cap ya yn yc,e=.returned (.agg #[.slice (some ⟨g,0,none⟩) (Tr.tree (l.map Prod.fst)).length cap,.slice ya yn yc])∧TreeIn w' g (Tr.tree (l.map Prod.fst))∧w'.ownsRow w.heap.size 48 1 (.slice ya yn yc) (7+l.length) (Tr.fvals l)∧w.heap.size≤g∧Below w.heap.size w w':=by
 obtain⟨xa,xc,hsh⟩:=Af hc.1;simp only[Value.slice.injEq]at hsh;obtain⟨rfl,hn1,rfl⟩:=hsh;subst hn1;obtain⟨i0,hi,hz0,hz1,hz2⟩:=info_parts Tryz.infoInt;obtain⟨j0,hj,hy0,hy1,hy2⟩:=info_parts Tryz.infoTys;have hmk:∀ w:World,(Instr.makeSlice 87 (.int .i64 7) (.int .i64 7)).run Tryz.prog w=.ok (.slice (some ⟨w.heap.size,0,none⟩) 7 7) (w.alloc (O3 none 0 0 none 0 0 none 0 0 none 0 0 none 0 0 none 0 0 none 0 0)):=fun _=>by kernel_rfl
 go_enter Tryz.func41,Tryz.ntmps41;go_wp2
 go_loopw [3] (fun v wr=>∃ k:Nat,2≤k∧k≤7∧wr.ownsRow (w.heap.size+1+1) 3 1 v k ((Tr.given.take k).map (Value.int .i64))∧Dk v=k∧Below (w.heap.size+1+1) ((w.alloc (O1 a1 l.length c1 a2 n2 c2)).alloc (O2 none 0 0 none 0 0)) wr)
  (fun v _=>7-Dk v)
 case atStart =>
  refine⟨2,by omega,by omega,?_,rfl,(Below.refl _ _).alloc (by simp) _⟩;exact Ye ((w.alloc (O1 a1 l.length c1 a2 n2 c2)).alloc (O2 none 0 0 none 0 0)) (w.heap.size+1+1) (w.heap.size+1+1) (.int .i64 (-1)) (.int .i64 0) 3 (by simp) (Nat.le_refl _)
 case round =>
  obtain⟨k,hk0,hk1,hown,hlen,hbl⟩:=hrel;obtain⟨va,vc,rfl⟩:=Af hown;clear hlen;have hsz:=hbl.size;simp at hsz;by_cases hkn:k<7
  ·go_wp2_with (at_builtin;refine wpList_append_own _ rfl _ _ 34 rfl (w.heap.size+1+1) 3 i0 _ 1 8 Tryz.underlying34 hi hz0 hz1 hz2 rfl (by decide) _ _ _ rfl (hown.alloc _) ⟨wr.heap.size,0,none⟩ 1 1 [.int .i64 1] rfl rfl ?c1 ?c2 ?c3 ?c4 ?c5 ?_)
   case c1=>exact Au _ _ _ _ rfl
   case c2=>intro u hu;simp at hu;subst hu;rfl
   case c3=>unfold maxLen;omega
   case c4=>omega
   case c5=>simp;omega
   intro v' w2 hown2 hgrow _;obtain⟨va',vc',rfl⟩:=Af hown2;have hown3:w2.ownsRow (w.heap.size+1+1) 3 1 (.slice va' (k+1) vc') (k+1) ((Tr.given.take (k+1)).map (Value.int .i64)):=by
    have e:(Tr.given.take (k+1))=Tr.given.take k++[1]:=by
     match k,hk0,hkn with
     | 2,_,_=>rfl
     | 3,_,_=>rfl
     | 4,_,_=>rfl
     | 5,_,_=>rfl
     | 6,_,_=>rfl
    rw[e,List.map_append]
    simpa using hown2
   have hbl2:=(hbl.alloc (by omega) (O4 1)).grown hgrow (by simp;omega) (fun j hj=>(hown.lt j hj).1);clear hgrow hown hown2 hbl;go_wp2
   go_roundw
   case rel=>exact⟨k+1,by omega,by omega,hown3,rfl,hbl2⟩
   case measure=>simp[Dk];omega
  ·obtain rfl:k=7:=by omega
   have hB:Below w.heap.size w wr:=(Ak w _ _).trans (hbl.mono (by omega));have hf0:=(hbl.block w.heap.size (by omega)).trans (Ah w _ _);have hf0':=(Below.heap_alloc wr (O3 none 0 0 none 0 0 none 0 0 none 0 0 none 0 0 none 0 0 none 0 0) _ (lt_of_block hf0)).trans hf0;have x0:=Ab hf0' 0;simp at x0;have hbl1:=hbl.alloc (by omega) (O3 none 0 0 none 0 0 none 0 0 none 0 0 none 0 0 none 0 0 none 0 0);have hfs:(wr.alloc (O3 none 0 0 none 0 0 none 0 0 none 0 0 none 0 0 none 0 0 none 0 0)).ownsRow (w.heap.size+1+1) 48 1 (.slice (some ⟨wr.heap.size,0,none⟩) 7 7) 7 (List.replicate 7 (.slice none 0 0)):=Um wr _ _ _ rfl (by omega) _;have hown1:=hown.alloc (O3 none 0 0 none 0 0 none 0 0 none 0 0 none 0 0 none 0 0 none 0 0);clear hown hbl;go_wp2
   go_loopw [3,4,18] (fun v u i w3=>∃ k:Nat,k≤l.length∧i=.int .i64 k∧w3.ownsRow (w.heap.size+1+1) 3 1 v (7+k) ((Tr.given++((l.map Prod.fst).take k).map Rd.Cls.above).map (Value.int .i64)) ∧
     w3.ownsRow (w.heap.size+1+1) 48 1 u (7+k) (List.replicate 7 (.slice none 0 0)++(l.map Prod.snd).take k) ∧
     Below (w.heap.size+1+1) ((w.alloc (O1 a1 l.length c1 a2 n2 c2)).alloc (O2 none 0 0 none 0 0)) w3)
    (fun _ _ i _=>l.length-(intOf i).toNat)
   case atStart=>exact⟨0,by omega,rfl,by simpa[Tr.given] using hown1,by simpa using hfs,hbl1⟩
   case round =>
    clear hown1 hbl1 hB hf0 hf0' x0 hsz hfs;obtain⟨k,hk,rfl,hown,hfs,hbl⟩:=hrel;obtain⟨va,vc,rfl⟩:=Af hown;obtain⟨za,zc,rfl⟩:=Af hfs;have hsz:=hbl.size;simp at hsz;have hB:Below w.heap.size w wr:=(Ak w _ _).trans (hbl.mono (by omega));by_cases hkn:k<l.length
    ·obtain⟨g,hg,hglt,_,hcell⟩:=Ao (Av hc.1 (Kp.of_below (e:=none) hB) (by decide)) (by omega);obtain⟨e1,e2,e3⟩:=Cv l k hkn;have x0:=hcell (k*2) (by omega);have x1:=hcell (k*2+1) (by omega);rw[e1]at x0;rw[e2]at x1;obtain⟨ua,uc,hu⟩:=Af (hc.2 _ (List.getElem_mem hkn));rw[hu]at x1;generalize hab:l[k].1.above=ab at *;have HAb:Hid (List.map Rd.Cls.above [l[k].1]=[ab]):=by unfold Hid;simp[hab]
     have HA:Hid ((l.map Prod.fst).take (k+1)=(l.map Prod.fst).take k++[l[k].1]):=by
      unfold Hid;rw[List.take_succ_eq_append_getElem (by simpa using hkn)]
      simp
     have HB:Hid ((l.map Prod.snd).take (k+1)=(l.map Prod.snd).take k++[.slice ua l[k].1.fields.length uc]):=by
      unfold Hid;rw[List.take_succ_eq_append_getElem (by simpa using hkn),← hu]
      simp
     generalize l[k].1.fields.length=fl at *;clear hcell e1 e2 e3 hab hu;subst hg;generalize hxs:((Tr.given++((l.map Prod.fst).take k).map Rd.Cls.above).map (Value.int .i64))=xs at hown;have HXS:=Ac hxs;clear hxs;generalize hys:(List.replicate 7 (Value.slice none 0 0)++(l.map Prod.snd).take k)=ys at hfs;have HYS:=Ac hys;clear hys;go_wp2_with (at_builtin;refine wpList_append_own _ rfl _ _ 34 rfl (w.heap.size+1+1) 3 i0 _ 1 8 Tryz.underlying34 hi hz0 hz1 hz2 rfl (by decide) _ _ _ rfl ((hown.alloc _).alloc _) ⟨wr.heap.size+1,0,none⟩ 1 1 [.int .i64 ab] rfl rfl ?d1 ?d2 ?d3 ?d4 ?d5 ?_)
     case d1=>exact Au _ _ _ _ (by simp)
     case d2=>intro u hu;simp at hu;subst hu;rfl
     case d3=>unfold maxLen;omega
     case d4=>omega
     case d5=>simp;omega
     intro v' w2 hown2 hgrow _;have hown3:w2.ownsRow (w.heap.size+1+1) 3 1 v' (7+(k+1)) ((Tr.given++((l.map Prod.fst).take (k+1)).map Rd.Cls.above).map (Value.int .i64)):=by
      have e:((Tr.given++((l.map Prod.fst).take (k+1)).map Rd.Cls.above).map (Value.int .i64))=((Tr.given++((l.map Prod.fst).take k).map Rd.Cls.above).map (Value.int .i64))++[.int .i64 ab]:=by
       rw[Aa HA,List.map_append (f:=Rd.Cls.above),Aa HAb];simp only[List.map_append,List.append_assoc];rfl
      rw[e,Aa HXS];exact hown2
     have hbl2:=((hbl.alloc (by omega) _).alloc (by simp;omega) _).grown hgrow (by simp;omega) (fun j hj=>(hown.lt j hj).1);have hfs2:=Av ((hfs.alloc (O5 ab ua fl uc)).alloc (O4 ab)) (Kp.of_grown (b:=w.heap.size+1+1) hgrow ((hown.alloc _).alloc _)) (by decide);have hcl:w2.heap[wr.heap.size]?=some (O5 ab ua fl uc):=Kp.of_grown (b:=0) hgrow ((hown.alloc _).alloc _) _ _ _ (Nat.zero_le _) ((Below.heap_alloc _ _ _ (by simp)).trans (Ad wr _)) (by decide);have y1:=Ab hcl 1;have ly:=lt_of_block hcl;simp at y1;clear hgrow hown hown2 hbl hfs;have hs2:=hbl2.size;simp at hs2;go_wp2_with (at_builtin;refine wpList_append_own _ rfl _ _ 87 rfl (w.heap.size+1+1) 48 j0 _ 1 24 Tryz.underlying87 hj hy0 hy1 hy2 rfl (by decide) _ _ _ rfl (hfs2.alloc _) ⟨w2.heap.size,0,none⟩ 1 1 [.slice ua fl uc] rfl rfl ?d1 ?d2 ?d3 ?d4 ?d5 ?_)
     case d1=>exact Au _ _ _ _ (by simp)
     case d2=>intro u hu;simp at hu;subst hu;rfl
     case d3=>unfold maxLen;omega
     case d4=>omega
     case d5=>simp;omega
     intro v'' w3 hfs3 hgrow3 _;have hown4:=Av (hown3.alloc (O6 ua fl uc)) (Kp.of_grown (b:=w.heap.size+1+1) hgrow3 (hfs2.alloc _)) (by decide);have hfs4:w3.ownsRow (w.heap.size+1+1) 48 1 v'' (7+(k+1)) (List.replicate 7 (.slice none 0 0)++(l.map Prod.snd).take (k+1)):=by
      rw[Aa HB,← List.append_assoc,Aa HYS];exact hfs3
     have hbl3:=(hbl2.alloc (by omega) _).grown hgrow3 (by simp;omega) (fun j hj=>(hfs2.lt j hj).1);clear hgrow3 hown3 hfs2 hfs3 hbl2;go_wp2
     go_roundw
     case rel=>exact⟨k+1,by omega,by go_num,hown4,hfs4,hbl3⟩
     case measure=>simp[intOf];omega
    ·obtain rfl:k=l.length:=by omega
     have hr0:=(hbl.block (w.heap.size+1) (by omega)).trans (Ag w _ _);obtain⟨x0,x1⟩:=cl2 hr0;obtain⟨f0,f1⟩:=fr2 hr0;simp at x0 x1;have ht:((l.map Prod.fst).take l.length)=l.map Prod.fst:=List.take_of_length_le (by simp);rw[ht]at hown;have ht2:((l.map Prod.snd).take l.length)=l.map Prod.snd:=List.take_of_length_le (by simp);rw[ht2]at hfs;obtain⟨g,hva,hglt,hgb,hcell⟩:=Ao hown (by omega);subst hva;have HC:=Ac hcell;clear hcell;go_wp2_with fail
     refine bodyPost_ret (v:=.agg #[.slice (some ⟨g,0,none⟩) (7+l.length) vc,.slice za (7+l.length) zc]) (by simp[results,Tryz.results41,go_sem,x0,x1]) rfl ?_;refine⟨g,vc,za,7+l.length,zc,by rw[Cc,List.length_map],⟨by simpa using hglt,fun i hi=>?_⟩,?_,by omega,(hB.setCell (by simp) _).setCell (by simp) _⟩
     ·rw[World.cell?_of_block (w:=wr) ((Below.heap_setCell _ _ _ g (by simp;omega)).trans (Below.heap_setCell wr _ _ g (by simp;omega)))];have hi':i<((Tr.tree (l.map Prod.fst)).map (Value.int .i64)).length:=by simpa using hi
      have h2:=Aa HC i hi';have h3:((Tr.tree (l.map Prod.fst)).map (Value.int .i64))[i]?=some (.int .i64 ((Tr.tree (l.map Prod.fst)).getD i 0)):=by
       rw[List.getElem?_map,List.getD_eq_getElem?_getD,List.getElem?_eq_getElem hi];rfl
      rw[h2];exact h3
     ·exact Av (Ba hfs (by omega)) (Kp.set2 hr0 _ _) (by decide)
variable {ya:Option Addr}{yn yc:Nat}
theorem Az (l:List (Int × Int)) (k:Nat) (h:k<l.length):(Am l)[k*2]?=some (.int .i64 l[k].1)∧(Am l)[k*2+1]?=some (.int .i64 l[k].2)∧k*2+1<(Am l).length:=by
 induction l generalizing k with
 | nil=>simp at h
 | cons x r ih =>
  cases k with
  | zero=>simp[Am]
  | succ j =>
   have hj:j<r.length:=by simpa using h
   obtain⟨p,q,z⟩:=ih j hj;have e:Am (x::r)=.int .i64 x.1 :: .int .i64 x.2::Am r:=by simp[Am]
   rw[e,show (j+1)*2=j*2+1+1 by omega];refine⟨by simpa using p,by simpa using q,by simp;omega⟩
theorem Cl {l:List Int}{x:Int × Int}{r:List (Int × Int)}:Tr.allPlainB l (x::r)=(Tr.plainB l x.1 x.2&&Tr.allPlainB l r):=by simp[Tr.allPlainB]
theorem Gf (l:List Int) (a:Option Addr) (cap:Nat) (fa:Option Addr) (fn fc b:Nat) (fs:List (Int × Int)) (w:World) (hfl:fs.length≤1000) (hT:TysAt w b (.slice fa fn fc) fs) :
  Calls Tryz.prog 116 #[.agg #[.slice a l.length cap,.slice ya yn yc],.slice fa fn fc] w fun e w'=>e=.returned (.bool (Tr.allPlainB l fs))∧Below w.heap.size w w':=by
 obtain⟨xa,xc,hsh⟩:=Af hT;simp only[Value.slice.injEq]at hsh;obtain⟨rfl,hn1,rfl⟩:=hsh;subst hn1;generalize hr:Tr.allPlainB l fs=r;have HR:Hid (Tr.allPlainB l (fs.drop 0)=r):=by unfold Hid;simpa using hr
 clear hr;have hB1:Below w.heap.size w (w.alloc (O2 a l.length cap ya yn yc)):=QN _;have hx1:=Ad w (O2 a l.length cap ya yn yc);go_enter Tryz.func116,Tryz.ntmps116;go_wp2
 go_loopw [9] (fun i wr=>∃ k:Nat,k≤fs.length∧i=.int .i64 k∧Hid (Tr.allPlainB l (fs.drop k)=r)∧Below w.heap.size w wr ∧
   wr.heap[w.heap.size]?=some (O2 a l.length cap ya yn yc))
  (fun i _=>fs.length-(intOf i).toNat)
 case atStart=>exact⟨0,by omega,rfl,HR,hB1,hx1⟩
 case round =>
  clear hB1 hx1 HR;obtain⟨k,hk,rfl,HR,hB,hx⟩:=hrel;have hBs:=hB.size;by_cases hkn:k<fs.length
  ·obtain⟨g,hg,hglt,hbg,hcell⟩:=Ao (Av hT (Kp.of_below (e:=none) hB) (by decide)) (by omega);obtain⟨e1,e2,e3⟩:=Az fs k hkn;have x0:=hcell (k*2) (by omega);have x1:=hcell (k*2+1) (by omega);rw[e1]at x0;rw[e2]at x1;have hd:fs.drop k=fs[k]::fs.drop (k+1):=List.drop_eq_getElem_cons hkn;have hr:=Aa HR;rw[hd,Cl]at hr;generalize hf1:fs[k].1=f1 at *;generalize hf2:fs[k].2=f2 at *;obtain⟨c0,c1⟩:=cl2 hx;have lx:=lt_of_block hx;simp at c0 c1;clear hcell e1 e2 e3 hf1 hf2 hd hbg;subst hg;cases hp:Tr.plainB l f1 f2 with
   | true =>
    have HF:Hid (Tr.allPlainB l (fs.drop (k+1))=r):=by unfold Hid;rw[← hr,hp];simp
    have HP:=Ac hp;clear hp hr;go_wp2_with fail
    refine(Fb l a cap f1 f2 _).mono ?_;rw[Aa HP];rintro e w2 ⟨rfl,hb2⟩;have hB2:Below w.heap.size w w2:=(hB.alloc hBs _).trans (hb2.mono (by simp;omega));have hx2:=stay hb2 ((Below.heap_alloc wr (O7 f1 f2) _ lx).trans hx);clear hb2 hB hx c0 c1 x0 x1 lx;go_wp2
    go_roundw
    case rel=>exact⟨k+1,by omega,by go_num,HF,hB2,hx2⟩
    case measure=>simp[intOf];omega
   | false =>
    have hf:r=false:=by rw[← hr,hp];simp
    have HF:=Ac hf;have HP:=Ac hp;clear hp hr hf;go_wp2_with fail
    refine(Fb l a cap f1 f2 _).mono ?_;rw[Aa HP];rintro e w2 ⟨rfl,hb2⟩;have hB2:Below w.heap.size w w2:=(hB.alloc hBs _).trans (hb2.mono (by simp;omega));go_wp2;go_ret;exact⟨by rw[Aa HF];rfl,hB2⟩
  ·have hf:r=true:=by rw[← Aa HR,List.drop_eq_nil_of_le (by omega)];rfl
   have HF:=Ac hf;clear hf;go_wp2;go_ret;exact⟨by rw[Aa HF];rfl,hB⟩
def Tr.inCl (l:List Int):Nat→List Rd.Cls→Int × Int
 | _,[]=>(0,0)
 | k,c::r=>if 7+(k:Int)≤c.above then (3,7+(k:Int)) else if Tr.allPlainB l c.fields=false then (3,7+(k:Int)) else Tr.inCl l (k+1) r
theorem My (a1 a2:Option Addr) (n1 c1 n2 c2 b:Nat) (l:List (Rd.Cls × Value)) (w:World) (hl:l.length≤6) (hfl:∀ p∈l,p.1.fields.length≤1000) (hc:ClssIn w b (.slice a1 n1 c1) l) :
  Calls Tryz.prog 73 #[.agg #[.slice a1 n1 c1,.slice a2 n2 c2]] w fun e w' =>
   e=.returned (.agg #[.int .i64 (Tr.inCl (Tr.tree (l.map Prod.fst)) 0 (l.map Prod.fst)).1,.int .i64 (Tr.inCl (Tr.tree (l.map Prod.fst)) 0 (l.map Prod.fst)).2,.int .i64 0])∧Below w.heap.size w w':=by
 obtain⟨xa,xc,hsh⟩:=Af hc.1;simp only[Value.slice.injEq]at hsh;obtain⟨rfl,hn1,rfl⟩:=hsh;subst hn1;generalize ht:Tr.tree (l.map Prod.fst)=T;generalize hr:Tr.inCl T 0 (l.map Prod.fst)=r;have HT:=Ac ht;have HR:Hid (Tr.inCl T 0 ((l.map Prod.fst).drop 0)=r):=by unfold Hid;simpa using hr
 clear hr ht;have hB0:=Ak w (O1 a1 l.length c1 a2 n2 c2) (O8 0 0 0);go_enter Tryz.func73,Tryz.ntmps73;go_wp2_with fail
 refine(Hu a1 a2 l.length c1 n2 c2 b l _ hl (hc.kp (Kp.of_below (e:=none) hB0) (by decide) (by decide))).mono ?_;rw[Aa HT];rintro e w1 ⟨g,cap,ya,yn,yc,rfl,hTr,hFs,hg,hb1⟩;clear hFs;have hB1:=hB0.trans (hb1.mono (by simp;omega));have hf:=stay hb1 (Ah w _ _);have hres:=stay hb1 (Ag w _ _);have lt1:=lt_of_block hres;have x0:=Ab hf 0;simp at x0;have lt0:=lt_of_block hf;have ht1:=Ad w1 (O2 (some ⟨g,0,none⟩) T.length cap ya yn yc);have hb0:Below w.heap.size w (w1.alloc (O2 (some ⟨g,0,none⟩) T.length cap ya yn yc)):=hB1.alloc hB1.size _;have hres1:=(Below.heap_alloc w1 (O2 (some ⟨g,0,none⟩) T.length cap ya yn yc) _ lt1).trans hres;clear hf hres hB1 hb1;go_wp2
 go_loopw [12] (fun i wr=>∃ k:Nat,k≤l.length∧i=.int .i64 k∧Hid (Tr.inCl T k ((l.map Prod.fst).drop k)=r)∧Below w.heap.size w wr ∧
   wr.heap[w1.heap.size]?=some (O2 (some ⟨g,0,none⟩) T.length cap ya yn yc)∧wr.heap[w.heap.size+1]?=some (O8 0 0 0))
  (fun i _=>l.length-(intOf i).toNat)
 case atStart=>exact⟨0,by omega,rfl,HR,hb0,ht1,hres1⟩
 case round =>
  clear hb0 ht1 hres1 HR x0;obtain⟨k,hk,rfl,HR,hB,htr,hres⟩:=hrel;have hBs:=hB.size;have lt2:=lt_of_block htr;have lt3:=lt_of_block hres;by_cases hkn:k<l.length
  ·have hcr:=hc.kp (Kp.of_below (e:=none) hB) (by decide) (by decide);obtain⟨g',hg',hglt,hbg,hcell⟩:=Ao hcr.1 (by omega);obtain⟨e1,e2,e3⟩:=Cv l k hkn;have x0:=hcell (k*2) (by omega);have x1:=hcell (k*2+1) (by omega);rw[e1]at x0;rw[e2]at x1;have hfk:=hfl _ (List.getElem_mem hkn);have htk:=hcr.2 _ (List.getElem_mem hkn);obtain⟨ua,uc,hu⟩:=Af htk;rw[hu]at x1 htk;have hd:(l.map Prod.fst).drop k=l[k].1::(l.map Prod.fst).drop (k+1):=by
    rw[List.drop_eq_getElem_cons (by simpa using hkn)]
    simp
   have hr:=Aa HR;rw[hd,Tr.inCl]at hr;generalize hcl:l[k].1=cl at *;obtain⟨c0,c1⟩:=cl2 htr;simp at c0 c1;clear hcell e1 e2 e3 hcl hd hbg hu hcr;subst hg';by_cases h1:7+(k:Int)≤cl.above
   ·rw[if_pos h1]at hr;have HF:=Ac hr;clear hr;obtain⟨y0,y1,y2⟩:=cl3 hres;obtain⟨f0,f1,f2⟩:=fr3 hres;simp at y0 y1 y2;go_wp2;refine bodyPost_ret (v:=.agg #[.int .i64 3,.int .i64 (7+(k:Int)),.int .i64 0]) (by simp[results,Tryz.results73,go_sem,y0,y1,y2,lt3]) rfl ?_;exact⟨by rw[← Aa HF],(((hB.setCell (by simp) _).setCell (by simp) _).setCell (by simp) _).alloc (by simp;omega) _⟩
   ·rw[if_neg h1]at hr;cases hp:Tr.allPlainB T cl.fields with
    | true =>
     rw[hp,if_neg (by simp)]at hr;have HF:=Ac hr;have HP:=Ac hp;clear hr hp;go_wp2_with fail
     refine(Gf T (some ⟨g,0,none⟩) cap ua cl.fields.length uc b cl.fields _ hfk (htk.kp (Kp.alloc (e:=none) _ _) (by decide))).mono ?_;rw[Aa HP];rintro e w2 ⟨rfl,hb2⟩;have hB2:Below w.heap.size w w2:=(hB.alloc hBs _).trans (hb2.mono (by simp;omega));have htr2:=stay hb2 ((Below.heap_alloc wr (O5 cl.above ua cl.fields.length uc) _ lt2).trans htr);have hres2:=stay hb2 ((Below.heap_alloc wr (O5 cl.above ua cl.fields.length uc) _ lt3).trans hres);clear hb2 hB htr hres x0 x1 c0 c1;go_wp2
     go_roundw
     case rel=>exact⟨k+1,by omega,by go_num,HF,hB2,htr2,hres2⟩
     case measure=>simp[intOf];omega
    | false =>
     rw[hp,if_pos rfl]at hr;have HF:=Ac hr;have HP:=Ac hp;clear hr hp;go_wp2_with fail
     refine(Gf T (some ⟨g,0,none⟩) cap ua cl.fields.length uc b cl.fields _ hfk (htk.kp (Kp.alloc (e:=none) _ _) (by decide))).mono ?_;rw[Aa HP];rintro e w2 ⟨rfl,hb2⟩;have hB2:Below w.heap.size w w2:=(hB.alloc hBs _).trans (hb2.mono (by simp;omega));have htr2:=stay hb2 ((Below.heap_alloc wr (O5 cl.above ua cl.fields.length uc) _ lt2).trans htr);have hres2:=stay hb2 ((Below.heap_alloc wr (O5 cl.above ua cl.fields.length uc) _ lt3).trans hres);obtain⟨y0,y1,y2⟩:=cl3 hres2;obtain⟨f0,f1,f2⟩:=fr3 hres2;simp at y0 y1 y2;go_wp2;refine bodyPost_ret (v:=.agg #[.int .i64 3,.int .i64 (7+(k:Int)),.int .i64 0]) (by simp[results,Tryz.results73,go_sem,y0,y1,y2]) rfl ?_;exact⟨by rw[← Aa HF],((hB2.setCell (by simp) _).setCell (by simp) _).setCell (by simp) _⟩
  ·have hf:r=(0,0):=by rw[← Aa HR,List.drop_eq_nil_of_le (by simp;omega)];rfl
   have HF:=Ac hf.symm;clear hf;obtain⟨y0,y1,y2⟩:=cl3 hres;obtain⟨f0,f1,f2⟩:=fr3 hres;simp at y0 y1 y2;go_wp2;refine bodyPost_ret (v:=.agg #[.int .i64 0,.int .i64 0,.int .i64 0]) (by simp[results,Tryz.results73,go_sem,y0,y1,y2]) rfl ?_;exact⟨by rw[← Aa HF],((hB.setCell (by simp) _).setCell (by simp) _).setCell (by simp) _⟩
theorem Eg {α:Type} (P:α→Prop) (f:Rd.St→α × Rd.St) (h:∀ t,P (f t).1) (n:Nat) (t:Rd.St):∀ x∈(Rd.rep f n t).1,P x:=by
 induction n with
 | zero=>simp[Rd.rep]
 | succ k ih =>
  intro x hx;simp only[Rd.rep,List.mem_append,List.mem_singleton]at hx;rcases hx with hx | hx
  ·exact ih x hx
  ·rw[hx];exact h _
theorem Gy (s:List UInt8):(Rd.read s).1.classes.length≤6∧∀ c∈(Rd.read s).1.classes,c.fields.length≤1000:=by
 unfold Rd.read
 split
 ·simp
 ·split
  ·simp
  ·simp only[Rd.fil];refine⟨?_,?_⟩
   ·rw[Rd.rep_len];have:=Rd.cn_bd s 0 6 (Rd.ex s 77 (Rd.ex s 83 ⟨0,false⟩)) (by omega);omega
   ·refine Eg _ _ (fun t=>?_) _ _;simp only[Rd.cls];rw[tys_len];have:=Rd.cn_bd s 0 4 (Rd.nx s t).2 (by omega);omega
theorem Em (w:World) (o0 o1 o2:Obj):(((w.alloc o0).alloc o1).alloc o2).heap[w.heap.size]?=some o0∧(((w.alloc o0).alloc o1).alloc o2).heap[w.heap.size+1]?=some o1 ∧
  (((w.alloc o0).alloc o1).alloc o2).heap[w.heap.size+1+1]?=some o2:=by
 refine⟨?_,?_,?_⟩
 ·rw[Below.heap_alloc _ _ _ (by first | (simp;done) | (simp;omega)),Below.heap_alloc _ _ _ (by first | (simp;done) | (simp;omega))];exact Ad w o0
 ·rw[Below.heap_alloc _ _ _ (by first | (simp;done) | (simp;omega))];simpa using Ad (w.alloc o0) o1
 ·simpa using Ad ((w.alloc o0).alloc o1) o2
theorem Aj {w:World}{k:Nat}{o:Obj} (h:w.heap[k]?=some o) (o':Obj):(w.alloc o').heap[k]?=some o:=(Below.heap_alloc w o' k (lt_of_block h)).trans h
end Go.Proofs.YtcefiamkoincoaaGreat
namespace Go.Proofs.YtcefiamkoincoaaGreat.Tr
def Ok (l:List Int):Prop:=0<l.length∧l.getD 0 0 = -1∧∀ i,0<i→i<l.length→0≤l.getD i 0∧l.getD i 0<(i:Int)
def itr (l:List Int):Nat→Int→Int
 | 0,a=>a
 | k+1,a=>itr l k (ov l a)
theorem Yj (l:List Int) (i j:Nat) (a:Int):itr l (i+j) a=itr l j (itr l i a):=by
 induction i generalizing a with
 | zero=>simp[itr]
 | succ k ih=>rw[show k+1+j=(k+j)+1 by omega];simp[itr,ih]
theorem Ut (l:List Int) (a:Int) (h:a<0):ov l a = -1:=by simp[ov,h]
theorem Qv (l:List Int) (k:Nat):itr l k (-1) = -1:=by
 induction k with
 | zero=>rfl
 | succ j ih=>simp[itr,Ut l (-1) (by omega),ih]
theorem Iv {l:List Int} (h:Ok l) {a:Int} (ha:0≤a):ov l a<a∧-1≤ov l a:=by
 unfold ov;rw[if_neg (by omega)]
 split
 ·omega
 ·by_cases h0:a.toNat=0
  ·rw[h0,h.2.1];omega
  ·have:=h.2.2 a.toNat (by omega) (by omega);omega
theorem Ik {l:List Int} (h:Ok l) {a:Int} (ha:0<a) (hl:a<(l.length:Int)):0≤ov l a:=by
 unfold ov;rw[if_neg (by omega),if_neg (by omega)];exact(h.2.2 a.toNat (by omega) (by omega)).1
theorem Nv {l:List Int} (h:Ok l) (m:Nat) (a:Int) (hr:0≤itr l m a):itr l m a+(m:Int)≤a:=by
 induction m generalizing a with
 | zero=>simp[itr]
 | succ k ih =>
  simp only[itr]at hr ⊢;have h1:=ih (ov l a) hr;by_cases ha:0≤a
  ·have:=Iv h ha;omega
  ·rw[Ut l a (by omega),Qv]at hr;omega
theorem Vy (l:List Int) (high:Int) (n:Nat) (pos:Int) (hh:0≤high):upTo l high n pos=true↔∃ j,j<n∧itr l j pos=high:=by
 induction n generalizing pos with
 | zero=>simp[upTo]
 | succ k ih =>
  unfold upTo;by_cases h1:pos = -1
  ·rw[if_pos h1]
   constructor
   ·intro h;cases h
   ·rintro ⟨j,_,hj⟩;rw[h1,Qv]at hj;omega
  ·rw[if_neg h1];by_cases h2:pos=high
   ·rw[if_pos h2];exact⟨fun _=>⟨0,by omega,h2⟩,fun _=>rfl⟩
   ·rw[if_neg h2,ih]
    constructor
    ·rintro ⟨j,hj,e⟩;exact⟨j+1,by omega,e⟩
    ·rintro ⟨j,hj,e⟩;cases j with
     | zero=>exact absurd e h2
     | succ i=>exact⟨i,by omega,e⟩
theorem Dr {l:List Int} (h:Ok l) {a b:Int} (hb:0≤b) (hl:a<(l.length:Int)):below l a b=true↔∃ j,itr l (j+1) a=b:=by
 unfold below;rw[Vy l b _ _ hb]
 constructor
 ·rintro ⟨j,_,e⟩;exact⟨j,e⟩
 ·rintro ⟨j,e⟩;have:=Nv h (j+1) a (by omega);exact⟨j,by omega,e⟩
theorem below_lt {l:List Int} (h:Ok l) {a b:Int} (hb:0≤b) (hl:a<(l.length:Int)) (hab:below l a b=true):b<a:=by
 obtain⟨j,e⟩:=(Dr h hb hl).1 hab;have:=Nv h (j+1) a (by omega);omega
theorem Ey {l:List Int} (h:Ok l) {a b c:Int} (hb:0≤b) (hc:0≤c) (hl:a<(l.length:Int)) (h1:below l a b=true) (h2:below l b c=true):below l a c=true:=by
 have hba:=below_lt h hb hl h1;obtain⟨i,e⟩:=(Dr h hb hl).1 h1;obtain⟨j,f⟩:=(Dr h hc (by omega)).1 h2;refine(Dr h hc hl).2 ⟨i+1+j,?_⟩;rw[show i+1+j+1=(i+1)+(j+1) by omega,Yj,e,f]
theorem Ge {l:List Int} (h:Ok l) {a:Int} (ha:0<a) (hl:a<(l.length:Int)):below l a (ov l a)=true :=
 (Dr h (Ik h ha hl) hl).2 ⟨0,rfl⟩
theorem Qz {l:List Int} (h:Ok l) (n:Nat):∀ {a:Int},a.toNat≤n→0<a→a<(l.length:Int)→below l a 0=true:=by
 induction n with
 | zero=>intro a h1 h2 _;omega
 | succ k ih =>
  intro a h1 ha hl;have hu:=Ge h ha hl;have h3:=Iv h (show 0≤a by omega);have h4:=Ik h ha hl;by_cases h0:ov l a=0
  ·rw[h0]at hu;exact hu
  ·exact Ey h h4 (by omega) hl hu (ih (by omega) (by omega) (by omega))
theorem Kh {l:List Int} (h:Ok l) {a c:Int} (ha:0≤a) (hc:0≤c) (hl:a<(l.length:Int)) (hac:below l a c=true):c=ov l a∨below l (ov l a) c=true:=by
 obtain⟨j,e⟩:=(Dr h hc hl).1 hac;have hov:=Iv h ha;cases j with
 | zero=>left;exact e.symm
 | succ i=>right;exact(Dr h hc (by omega)).2 ⟨i,e⟩
theorem fits_iff (l:List Int) (k n k' n':Int):fitsB l k n k' n'=true↔(k=k'∧n=n')∨k'=0∨(k'=3∧k=2)∨(k'=3∧k=3∧below l n n'=true):=by
 unfold fitsB;by_cases h1:k=k'∧n=n'
 ·rw[if_pos h1];simp[h1]
 ·rw[if_neg h1];by_cases h2:k'=0
  ·rw[if_pos h2];simp[h2]
  ·rw[if_neg h2];by_cases h3:k'=3
   ·rw[if_neg (by omega)];by_cases h4:k=2
    ·rw[if_pos h4];simp[h3,h4]
    ·rw[if_neg h4];by_cases h5:k=3
     ·rw[if_pos h5]
      constructor
      ·intro hb;exact .inr (.inr (.inr ⟨h3,h5,hb⟩))
      ·rintro (⟨a,b⟩ | a|⟨a,b⟩|⟨a,b,c⟩)
       ·exact absurd ⟨a,b⟩ h1
       ·exact absurd a h2
       ·exact absurd b h4
       ·exact c
     ·rw[if_neg h5]
      constructor
      ·intro hb;cases hb
      ·rintro (⟨a,b⟩ | a|⟨a,b⟩|⟨a,b,c⟩)
       ·exact absurd ⟨a,b⟩ h1
       ·exact absurd a h2
       ·exact absurd b h4
       ·exact absurd b h5
   ·rw[if_pos h3]
    constructor
    ·intro hb;cases hb
    ·rintro (⟨a,b⟩ | a|⟨a,b⟩|⟨a,b,c⟩)
     ·exact absurd ⟨a,b⟩ h1
     ·exact absurd a h2
     ·exact absurd a h3
     ·exact absurd a h3
def Arg (l:List Int) (k n:Int):Prop:=(k=0∧n=0)∨(k=1∧n=0)∨(k=2∧n=0)∨(k=3∧0≤n∧n<(l.length:Int))∨(k=4∧0≤n∧n<120)
theorem fits_refl (l:List Int) (k n:Int):fitsB l k n k n=true:=(fits_iff l k n k n).2 (.inl ⟨rfl,rfl⟩)
theorem fits_anti {l:List Int} (h:Ok l) {k n k' n':Int} (ha:Arg l k n) (hb:Arg l k' n') (h1:fitsB l k n k' n'=true) (h2:fitsB l k' n' k n=true):k=k'∧n=n':=by
 rcases(fits_iff ..).1 h1 with e | e|⟨e1,e2⟩|⟨e1,e2,e3⟩
 ·exact e
 ·rcases(fits_iff ..).1 h2 with f | f|⟨f1,f2⟩|⟨f1,f2,f3⟩
  ·exact⟨f.1.symm,f.2.symm⟩
  ·unfold Arg at ha hb;omega
  ·omega
  ·omega
 ·rcases(fits_iff ..).1 h2 with f | f|⟨f1,f2⟩|⟨f1,f2,f3⟩<;>omega
 ·rcases(fits_iff ..).1 h2 with f | f|⟨f1,f2⟩|⟨f1,f2,f3⟩
  ·exact⟨f.1.symm,f.2.symm⟩
  ·omega
  ·omega
  ·have g1:=below_lt h (by unfold Arg at hb;omega) (by unfold Arg at ha;omega) e3;have g2:=below_lt h (by unfold Arg at ha;omega) (by unfold Arg at hb;omega) f3;omega
theorem fits_trans {l:List Int} (h:Ok l) {k n k' n' k2 n2:Int} (ha:Arg l k n) (hb:Arg l k' n') (hc:Arg l k2 n2) (h1:fitsB l k n k' n'=true) (h2:fitsB l k' n' k2 n2=true):fitsB l k n k2 n2=true:=by
 rcases(fits_iff ..).1 h2 with ⟨rfl,rfl⟩ | f|⟨f1,f2⟩|⟨f1,f2,f3⟩
 ·exact h1
 ·exact(fits_iff ..).2 (.inr (.inl f))
 ·rcases(fits_iff ..).1 h1 with ⟨rfl,rfl⟩ | e|⟨e1,e2⟩|⟨e1,e2,e3⟩
  ·exact h2
  ·omega
  ·omega
  ·omega
 ·rcases(fits_iff ..).1 h1 with ⟨rfl,rfl⟩ | e|⟨e1,e2⟩|⟨e1,e2,e3⟩
  ·exact h2
  ·omega
  ·exact(fits_iff ..).2 (.inr (.inr (.inl ⟨f1,e2⟩)))
  ·refine(fits_iff ..).2 (.inr (.inr (.inr ⟨f1,e2,?_⟩)));exact Ey h (by unfold Arg at hb;omega) (by unfold Arg at hc;omega) (by unfold Arg at ha;omega) e3 f3
def At (l:List Int) (b a:Int):Prop:=a=b∨below l b a=true
theorem Pc {l:List Int} (h:Ok l) {b:Int} (hb:0≤b) (hbl:b<(l.length:Int)) (n:Nat):∀ {a:Int},0≤a→a<(l.length:Int)→a<(n:Int) →
  (0≤meetTo l b n a∧meetTo l b n a<(l.length:Int))∧At l a (meetTo l b n a)∧At l b (meetTo l b n a)∧∀ c,0≤c→At l a c→At l b c→At l (meetTo l b n a) c:=by
 induction n with
 | zero=>intro a h0 _ h2;omega
 | succ k ih =>
  intro a h0 hl hn;unfold meetTo;by_cases h1:a=b
  ·rw[if_pos h1];exact⟨⟨h0,hl⟩,.inl rfl,.inl h1,fun c _ hc _=>hc⟩
  ·rw[if_neg h1];by_cases h2:below l b a=true
   ·rw[if_pos h2];exact⟨⟨h0,hl⟩,.inl rfl,.inr h2,fun c _ hc _=>hc⟩
   ·rw[if_neg h2];have hz:0<a:=by
     rcases Int.lt_or_le 0 a with g | g
     ·exact g
     ·exfalso
      have ea:a=0:=by omega
      subst ea;exact h2 (Qz h b.toNat (Nat.le_refl _) (by omega) hbl)
    have u1:=Iv h h0;have u2:=Ik h hz hl;obtain⟨g1,g2,g3,g4⟩:=ih u2 (by omega) (by omega);refine⟨g1,?_,g3,?_⟩
    ·rcases g2 with g | g
     ·right;rw[g];exact Ge h hz hl
     ·right;exact Ey h u2 g1.1 hl (Ge h hz hl) g
    ·intro c hc ca cb;refine g4 c hc ?_ cb;rcases ca with ca | ca
     ·subst ca;rcases cb with cb | cb
      ·exact absurd cb h1
      ·exact absurd cb h2
     ·rcases Kh h h0 hc hl ca with e | e
      ·exact .inl e
      ·exact .inr e
theorem T7 {l:List Int} (h:Ok l) {a b:Int} (ha:0≤a) (hal:a<(l.length:Int)) (hb:0≤b) (hbl:b<(l.length:Int)) :
  (0≤meet l a b∧meet l a b<(l.length:Int))∧At l a (meet l a b)∧At l b (meet l a b)∧∀ c,0≤c→At l a c→At l b c→At l (meet l a b) c :=
 Pc h hb hbl l.length ha hal hal
theorem Gg {l:List Int}{a b:Int}:fitsB l 3 a 3 b=true↔At l a b:=by
 rw[fits_iff];unfold At
 constructor
 ·rintro (⟨_,e⟩ | e|⟨_,e⟩|⟨_,_,e⟩)
  ·exact .inl e.symm
  ·omega
  ·omega
  ·exact .inr e
 ·rintro (e | e)
  ·exact .inl ⟨rfl,e.symm⟩
  ·exact .inr (.inr (.inr ⟨rfl,rfl,e⟩))
theorem join_spec {l:List Int} (h:Ok l) {k n k' n':Int} (ha:Arg l k n) (hb:Arg l k' n') :
  Arg l (joinT l (k,n) (k',n')).1 (joinT l (k,n) (k',n')).2 ∧
  fitsB l k n (joinT l (k,n) (k',n')).1 (joinT l (k,n) (k',n')).2=true∧fitsB l k' n' (joinT l (k,n) (k',n')).1 (joinT l (k,n) (k',n')).2=true ∧
  ∀ k2 n2,Arg l k2 n2→fitsB l k n k2 n2=true→fitsB l k' n' k2 n2=true→fitsB l (joinT l (k,n) (k',n')).1 (joinT l (k,n) (k',n')).2 k2 n2=true:=by
 unfold joinT;dsimp only;by_cases h1:fitsB l k n k' n'=true
 ·rw[if_pos h1];exact⟨hb,h1,fits_refl _ _ _,fun _ _ _ _ g=>g⟩
 ·rw[if_neg h1];by_cases h2:fitsB l k' n' k n=true
  ·rw[if_pos h2];exact⟨ha,fits_refl _ _ _,h2,fun _ _ _ g _=>g⟩
  ·rw[if_neg h2];have top:∀ k n,fitsB l k n 0 0=true:=fun k n=>(fits_iff ..).2 (.inr (.inl rfl));by_cases hk:k=3
   ·rw[if_neg (by omega)];by_cases hk':k'=3
    ·rw[if_neg (by omega)];subst hk hk';obtain⟨g1,g2,g3,g4⟩:=T7 h (a:=n) (b:=n') (by unfold Arg at ha;omega) (by unfold Arg at ha;omega) (by unfold Arg at hb;omega) (by unfold Arg at hb;omega);refine⟨.inr (.inr (.inr (.inl ⟨rfl,g1.1,g1.2⟩))),Gg.2 g2,Gg.2 g3,?_⟩;intro k2 n2 hc c1 c2;rcases(fits_iff ..).1 c1 with ⟨rfl,rfl⟩ | e | ⟨e1,e2⟩ | ⟨rfl,e2,e3⟩
     ·exact absurd c2 h2
     ·subst e;exact(fits_iff ..).2 (.inr (.inl rfl))
     ·omega
     ·exact Gg.2 (g4 n2 (by unfold Arg at hc;omega) (Gg.1 c1) (Gg.1 c2))
    ·rw[if_pos hk'];refine⟨.inl ⟨rfl,rfl⟩,top _ _,top _ _,?_⟩;intro k2 n2 hc c1 c2;rcases(fits_iff ..).1 c2 with ⟨rfl,rfl⟩ | e | ⟨e1,e2⟩ | ⟨e1,e2,e3⟩
     ·exact absurd c1 h1
     ·subst e;exact(fits_iff ..).2 (.inr (.inl rfl))
     ·exact absurd ((fits_iff l k' n' k n).2 (.inr (.inr (.inl ⟨hk,e2⟩)))) h2
     ·omega
   ·rw[if_pos hk];refine⟨.inl ⟨rfl,rfl⟩,top _ _,top _ _,?_⟩;intro k2 n2 hc c1 c2;rcases(fits_iff ..).1 c1 with ⟨rfl,rfl⟩ | e | ⟨e1,e2⟩ | ⟨e1,e2,e3⟩
    ·exact absurd c2 h2
    ·subst e;exact(fits_iff ..).2 (.inr (.inl rfl))
    ·rcases(fits_iff ..).1 c2 with ⟨rfl,rfl⟩ | f|⟨f1,f2⟩|⟨f1,f2,f3⟩
     ·exact absurd c1 h1
     ·omega
     ·exfalso
      unfold Arg at ha hb;exact h1 ((fits_iff l k n k' n').2 (.inl ⟨by omega,by omega⟩))
     ·exact absurd ((fits_iff l k n k' n').2 (.inr (.inr (.inl ⟨f2,e2⟩)))) h1
    ·omega
theorem join_comm {l:List Int} (h:Ok l) {k n k' n':Int} (ha:Arg l k n) (hb:Arg l k' n'):joinT l (k,n) (k',n')=joinT l (k',n') (k,n):=by
 obtain⟨a1,a2,a3,a4⟩:=join_spec h ha hb;obtain⟨b1,b2,b3,b4⟩:=join_spec h hb ha;have:=fits_anti h a1 b1 (a4 _ _ b1 b3 b2) (b4 _ _ a1 a3 a2);exact Prod.ext this.1 this.2
end Go.Proofs.YtcefiamkoincoaaGreat.Tr
namespace Go.Proofs.YtcefiamkoincoaaGreat.Rf
open Go.Proofs.YtcefiamkoincoaaGreat (Rd.St Rd.nx Rd.cn Rd.ex Rd.ty Rd.tys Rd.cls Rd.codes Rd.hnd Rd.hnds Rd.mp Rd.mps Rd.mth Rd.fil)
def at' (s:List UInt8) (i:Int):Int:=if i<0 then -1 else if (s.length:Int)≤i then -1 else ((s[i.toNat]?.getD 0).toNat:Int)
def cnt (s:List UInt8) (i least most:Int):Int:=if at' s i<least then -1 else if most<at' s i then -1 else at' s i
def rep {α:Type} (f:Int→α × Int):Nat→Int→List α × Int
 | 0,i=>([],i)
 | k+1,i=>if (rep f k i).2<0 then ([],-1) else if (f (rep f k i).2).2<0 then ([],-1) else ((rep f k i).1++[(f (rep f k i).2).1],(f (rep f k i).2).2)
def ty (s:List UInt8) (i:Int):(Int × Int) × Int:=((at' s i,at' s (i+1)),i+2)
def tys (s:List UInt8) (i:Int):Nat→List (Int × Int)
 | 0=>[]
 | k+1=>tys s i k++[(at' s (i+2*(k:Int)),at' s (i+2*(k:Int)+1))]
def cls (s:List UInt8) (i:Int):Rd.Cls × Int :=
 if cnt s (i+1) 0 4<0 then (⟨0,[]⟩,-1) else (⟨at' s i,tys s (i+2) (cnt s (i+1) 0 4).toNat⟩,i+2+2*cnt s (i+1) 0 4)
def hndAt (s:List UInt8) (i:Int):Rd.Hnd:=⟨at' s i,at' s (i+1),at' s (i+2),at' s (i+3)⟩
def hndTo (s:List UInt8) (i:Int):Nat→List Rd.Hnd
 | 0=>[]
 | k+1=>hndTo s i k++[hndAt s (i+1+4*(k:Int))]
def hnds (s:List UInt8) (i:Int):List Rd.Hnd × Int :=
 if cnt s i 0 4<0 then ([],-1) else if (s.length:Int)<i+1+4*cnt s i 0 4 then ([],-1) else (hndTo s i (cnt s i 0 4).toNat,i+1+4*cnt s i 0 4)
def mp (s:List UInt8) (L H i:Int):Rd.Mp × Int :=
 if cnt s (i+1+2*L) 0 H<0 then (⟨0,[],[]⟩,-1)
 else (⟨at' s i,tys s (i+1) L.toNat,tys s (i+2+2*L) (cnt s (i+1+2*L) 0 H).toNat⟩,i+2+2*L+2*cnt s (i+1+2*L) 0 H)
def mps (s:List UInt8) (i L H:Int):List Rd.Mp × Int :=
 if cnt s i 0 64<0 then ([],-1) else rep (mp s L H) (cnt s i 0 64).toNat (i+1)
def codeTo (s:List UInt8) (i:Int):Nat→List Int
 | 0=>[]
 | k+1=>codeTo s i k++[at' s (i+(k:Int))]
structure Mth where
 m:Rd.Mth
 mapsAt:Int
 fin:Int
def mth (s:List UInt8) (i:Int):Mth × Int :=
 let p:=cnt s (i+2) 0 4
 if p<0 then (⟨⟨0,0,[],(0,0),0,0,[],[],[]⟩,0,0⟩,-1)
 else
  let j:=i+3+2*p
  let l:=cnt s (j+2) 0 8
  let h:=cnt s (j+3) 0 8
  let n:=cnt s (j+4) 1 120
  if l<0 then (⟨⟨0,0,[],(0,0),0,0,[],[],[]⟩,0,0⟩,-1)
  else if h<0 then (⟨⟨0,0,[],(0,0),0,0,[],[],[]⟩,0,0⟩,-1)
  else if n<0 then (⟨⟨0,0,[],(0,0),0,0,[],[],[]⟩,0,0⟩,-1)
  else if (s.length:Int)<j+5+n then (⟨⟨0,0,[],(0,0),0,0,[],[],[]⟩,0,0⟩,-1)
  else
   let hs:=hnds s (j+5+n)
   if hs.2<0 then (⟨⟨0,0,[],(0,0),0,0,[],[],[]⟩,0,0⟩,-1)
   else
    let ms:=mps s hs.2 l h
    (⟨⟨at' s i,at' s (i+1),tys s (i+3) p.toNat,(at' s j,at' s (j+1)),l,h,codeTo s (j+5) n.toNat,hs.1,ms.1⟩,hs.2,ms.2⟩,ms.2)
def fil (s:List UInt8):List Rd.Cls × List Mth × Int :=
 if at' s 0≠83 then ([],[],-1)
 else if at' s 1≠77 then ([],[],-1)
 else if cnt s 2 0 6<0 then ([],[],-1)
 else
  let cs:=rep (cls s) (cnt s 2 0 6).toNat 3
  if cs.2<0 then ([],[],-1)
  else if cnt s cs.2 1 6<0 then ([],[],-1)
  else
   let ms:=rep (mth s) (cnt s cs.2 1 6).toNat (cs.2+1)
   if ms.2<0 then ([],[],-1) else (cs.1,ms.1,ms.2)
def Lnk {α β:Type} (g:β→α) (n:Nat) (r:α × Rd.St) (x:β × Int):Prop :=
 (0≤x.2∧x.2≤(n:Int)∧r.1=g x.1∧r.2=⟨x.2.toNat,false⟩)∨((x.2<0∨(n:Int)<x.2)∧r.2.bad=true)
theorem Hv {s:List UInt8}{i:Int} (h0:0≤i) (h1:i<(s.length:Int)):Rd.nx s ⟨i.toNat,false⟩=(at' s i,⟨(i+1).toNat,false⟩):=by
 unfold Rd.nx at';rw[if_neg (by simp),if_neg (by simp only;omega),if_neg (by omega),if_neg (by omega)];rw[show (i+1).toNat=i.toNat+1 by omega]
theorem at_out {s:List UInt8}{i:Int} (h1:(s.length:Int)≤i):at' s i = -1:=by
 unfold at'
 split
 ·rfl
 ·rfl
theorem Hm {s:List UInt8}{i:Int} (h1:(s.length:Int)≤i):Rd.nx s ⟨i.toNat,false⟩=(0,⟨i.toNat,true⟩):=by
 unfold Rd.nx;rw[if_neg (by simp),if_pos (by simp only;omega)]
theorem at_bd (s:List UInt8) (i:Int):-1≤at' s i∧at' s i≤255:=by
 unfold at'
 split
 ·omega
 ·split
  ·omega
  ·have:=(s[i.toNat]?.getD 0).toNat_lt;omega
theorem cnt_bd (s:List UInt8) (i a b:Int) (hb:-1≤b):-1≤cnt s i a b∧cnt s i a b≤b:=by
 have:=at_bd s i;unfold cnt
 split
 ·omega
 ·split<;>omega
theorem Cm {s:List UInt8}{i a b:Int} (h:(s.length:Int)≤i) (ha:0≤a):cnt s i a b = -1:=by
 unfold cnt;rw[at_out h,if_pos (by omega)]
theorem Bk (s:List UInt8) (p:Nat):(Rd.nx s ⟨p,true⟩).2.bad=true:=by simp[Rd.nx]
theorem Ar (t:Rd.St) (h:t.bad=true):∃ p,t=⟨p,true⟩:=⟨t.pos,by cases t;simp_all⟩
theorem D7 {s:List UInt8}{i:Int} (h0:0≤i) (h1:i≤(s.length:Int)):Lnk id s.length (Rd.nx s ⟨i.toNat,false⟩) (at' s i,i+1):=by
 by_cases h:i<(s.length:Int)
 ·left
  rw[Hv h0 h];exact⟨by simp only;omega,by simp only;omega,rfl,rfl⟩
 ·right
  rw[Hm (by omega)];exact⟨.inr (by simp only;omega),rfl⟩
theorem Dy {s:List UInt8}{i a b:Int} (h0:0≤i) (h1:i≤(s.length:Int)) (ha:0≤a) :
  (0≤cnt s i a b∧i<(s.length:Int)∧Rd.cn s a b ⟨i.toNat,false⟩=(cnt s i a b,⟨(i+1).toNat,false⟩))∨(cnt s i a b<0∧(Rd.cn s a b ⟨i.toNat,false⟩).2.bad=true):=by
 by_cases h:i<(s.length:Int)
 ·have hb:=at_bd s i;have ha0:0≤at' s i:=by unfold at';rw[if_neg (by omega),if_neg (by omega)];omega
  unfold Rd.cn cnt;rw[Hv h0 h];by_cases c1:at' s i<a
  ·right;rw[if_pos c1,if_pos c1];exact⟨by omega,rfl⟩
  ·rw[if_neg c1,if_neg c1];by_cases c2:b<at' s i
   ·right;rw[if_pos c2,if_pos c2];exact⟨by omega,rfl⟩
   ·left;rw[if_neg c2,if_neg c2];exact⟨ha0,h,rfl⟩
 ·right
  refine⟨by rw[Cm (by omega) ha];omega,?_⟩;unfold Rd.cn;rw[Hm (by omega)]
  split
  ·rfl
  ·split<;>rfl
theorem Bu (s:List UInt8) (a b:Int) (p:Nat):(Rd.cn s a b ⟨p,true⟩).2.bad=true:=by
 unfold Rd.cn
 split
 ·rfl
 ·split
  ·rfl
  ·exact Bk s p
theorem Fv {α β:Type}{g:β→α}{n:Nat}{f:Rd.St→α × Rd.St}{F:Int→β × Int} (H1:∀ i:Int,0≤i→i≤(n:Int)→Lnk g n (f ⟨i.toNat,false⟩) (F i))
  (H2:∀ p,(f ⟨p,true⟩).2.bad=true) (H3:∀ i:Int,(n:Int)<i→(F i).2<0∨(n:Int)<(F i).2) (k:Nat) (i:Int) (h0:0≤i) (h1:i≤(n:Int)) :
  Lnk (List.map g) n (Rd.rep f k ⟨i.toNat,false⟩) (rep F k i):=by
 induction k with
 | zero=>left;exact⟨h0,h1,rfl,rfl⟩
 | succ k ih =>
  unfold Rd.rep rep;rcases ih with ⟨a0,a1,a2,a3⟩ | ⟨b0,b1⟩
  ·rw[if_neg (by omega),a2,a3];rcases H1 _ a0 a1 with ⟨c0,c1,c2,c3⟩ | ⟨d0,d1⟩
   ·left
    rw[if_neg (by omega)];exact⟨c0,c1,by simp[c2],c3⟩
   ·right
    refine⟨?_,d1⟩
    split
    ·left;simp
    ·exact d0
  ·right
   refine⟨?_,?_⟩
   ·split
    ·left;simp
    ·split
     ·left;simp
     ·rcases b0 with b0 | b0
      ·omega
      ·rcases H3 _ b0 with e | e
       ·omega
       ·right;exact e
   ·obtain⟨p,hp⟩:=Ar _ b1;rw[hp];exact H2 p
theorem Di {α:Type}{f:Rd.St→α × Rd.St} (H2:∀ p,(f ⟨p,true⟩).2.bad=true) (k:Nat) (p:Nat):(Rd.rep f k ⟨p,true⟩).2.bad=true:=by
 induction k with
 | zero=>rfl
 | succ k ih =>
  unfold Rd.rep;obtain⟨q,hq⟩:=Ar _ ih;simp only;rw[hq];exact H2 q
end Go.Proofs.YtcefiamkoincoaaGreat.Rf
