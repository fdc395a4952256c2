/- a part of the proofs -/
import Derived.Test.YtpcgnjolfahacaaGreatPk20
set_option maxRecDepth 100000
set_option maxHeartbeats 40000000
set_option linter.unusedVariables false
set_option linter.unusedSimpArgs false
namespace Go.Proofs.YtpcgnjolfahacaaGreat
open Go.RowKit
theorem Dw (k:Mc.K) (S:Mc.S) (v:Mc.V) (w:World) (ok:k.Ok) (h:Mc.At k S v w) :
  Calls Tryz.prog 240 #[.pointer (some ⟨k.B,12,none⟩)] w fun e w'=>e=.returned (.int .i64 S.top)∧Mc.At k S.popped v w' :=
 (Bl S.now k.B 12 156 _ _ w rfl h.wf h.blk).mono fun _ _ ⟨he,hM,hg⟩=>⟨he,h.now ok hg (Ax h.wf) hM⟩
theorem Dz (k:Mc.K) (S:Mc.S) (v:Mc.V) (x:Int) (w:World) (ok:k.Ok) (h:Mc.At k S v w) :
  Calls Tryz.prog 238 #[.pointer (some ⟨k.B,12,none⟩),.int .i64 x] w fun e w'=>e=.returned (.tuple #[])∧Mc.At k (S.push x) v w' :=
 (Cr S.now x k.B 12 156 _ _ w rfl h.wf h.blk).mono fun _ _ ⟨he,hM,hg⟩=>⟨he,h.now ok hg (Cw h.wf x) hM⟩
theorem Mc.Rows.addX {k:Mc.K}{objs:List (Int × List Int)}{wait:List Mc.Call}{out:List Int}{v:Mc.V}{w w':World} (h:Mc.Rows k objs wait out v w) (ok:k.Ok) {cs:List Value} (hB:w.heap[k.B]?=some (.cells cs.toArray 156 (0,0))) {x:Int}{xa:Option Addr}{xc:Nat}
  (ho:w'.ownsRow k.w0.heap.size 3 1 (.slice xa (out.length+1) xc) (out.length+1) (out.map (Value.int .i64)++[.int .i64 x])) (hg:w.grownBy w' (Value.slice v.xa out.length v.xc).ownBlock)
  (hat:(Value.slice xa (out.length+1) xc).ownBlock=(Value.slice v.xa out.length v.xc).ownBlock∨(Value.slice xa (out.length+1) xc).ownBlock=some w.heap.size) :
  Mc.Rows k objs wait (out++[x]) ⟨v.oa,v.oc,v.wa,v.wc,xa,xc,v.ov⟩ w'∧w'.heap[k.B]?=w.heap[k.B]?:=by
 have hob:=h.out;have hblk:∀ g,(Value.slice v.xa out.length v.xc).ownBlock=some g→∃ cs:List Value,w.heap[g]?=some (.cells cs.toArray 3 (0,0)):=fun g hgo=>by
  obtain⟨_,⟨hv,_⟩|⟨g',cap,cur,hv,_,hg,_⟩⟩:=hob
  ·rw[hv]at hgo;simp[Value.ownBlock]at hgo
  ·rw[hv]at hgo;simp only[Value.ownBlock,Option.some.injEq]at hgo;subst hgo;exact⟨cur.toList,by simpa using hg⟩
 have other:∀ {b e size n:Nat}{x:Value}{xs:List Value},w.ownsRow b e size x n xs→e≠3→w'.ownsRow b e size x n xs:=fun hr he=>Be hr (fun q hq=>hg.block q (hr.lt q hq).2 (fun e=>by
  obtain⟨cs,hc⟩:=hblk q e.symm;exact Az hr hc he q hq rfl))
 have hBs:=ok.Bs;have hol:=h.ovl;have hbB:w'.heap[k.B]?=w.heap[k.B]?:=hg.block k.B (lt_of_block hB) (fun e=>Az hob hB (by decide) k.B e.symm rfl);refine⟨⟨other h.objs (by decide),h.ovl,h.obk,fun q hq=>?_,other h.wait (by decide),h.wwf,?_,?_,fun q h1 h2 h3=>?_,?_,Nat.le_trans h.szs hg.size⟩,hbB⟩
 ·exact Be (h.flds q hq) (fun j hj=>hg.block j ((h.flds q hq).lt j hj).2 (fun e=>h.out_ne hq hj e.symm))
 ·unfold IntsAt;rw[List.length_append,List.length_singleton,List.map_append];exact ho
 ·rw[List.length_append,List.length_singleton];rcases hat with e | e
  ·have:(Value.slice xa (out.length+1) xc::v.ov).filterMap Value.ownBlock=(Value.slice v.xa out.length v.xc::v.ov).filterMap Value.ownBlock:=by
    simp only[List.filterMap_cons,e]
   show ((Value.slice xa (out.length+1) xc::v.ov).filterMap Value.ownBlock).Nodup;rw[this];exact h.nd
  ·show ((Value.slice xa (out.length+1) xc::v.ov).filterMap Value.ownBlock).Nodup;rw[List.filterMap_cons_some e];have hn:=h.nd;refine List.nodup_cons.2 ⟨fun hm=>?_,?_⟩
   ·obtain⟨u,hu,hu'⟩:=List.mem_filterMap.1 hm;obtain⟨i,hi,rfl⟩:=List.getElem_of_mem hu;have hi':i<objs.length:=by omega
    have e2:v.ov.getD i (.slice none 0 0)=v.ov[i]:=by rw[List.getD_eq_getElem?_getD,List.getElem?_eq_getElem hi];rfl
    have:=((h.flds i hi').lt w.heap.size (by rw[e2];exact hu')).2;omega
   ·cases hx:(Value.slice v.xa out.length v.xc).ownBlock with
    | none=>rw[List.filterMap_cons_none hx]at hn;exact hn
    | some y=>rw[List.filterMap_cons_some hx]at hn;exact(List.nodup_cons.1 hn).2
 ·rw[hg.block q (Nat.lt_of_lt_of_le h1 h.szs) (fun e=>by have:=(hob.lt q e.symm).1;omega)];exact h.keep q h1 h2 h3
 ·exact⟨hg.os.trans h.low.os,hg.tape.trans h.low.tape,hg.output.trans h.low.output,Nat.le_trans h.low.size hg.size,
   fun q hq=>(hg.block q (Nat.lt_of_lt_of_le hq h.low.size) (fun e=>by have:=(hob.lt q e.symm).1;have:=ok.sz;omega)).trans (h.low.block q hq)⟩
theorem Abx (k:Mc.K) (S:Mc.S) (v:Mc.V) (w:World) (ok:k.Ok) (h:Mc.At k S v w) (hol:S.out.length≤100000) :
  Calls Tryz.prog 197 #[.pointer (some ⟨k.B,0,none⟩)] w fun e w'=>e=.returned (.tuple #[])∧∃ v',Mc.At k (Mc.outp S) v' w':=by
 have hP:=Dw k S v w ok h;obtain⟨i0,hi,hz0,hz1,hz2⟩:=info_parts Tryz.infoInt;have e:Mc.outp S=⟨S.popped.read,S.popped.objs,S.popped.now,S.popped.wait,S.popped.ended,S.out++[S.top],S.popped.status,S.popped.value,S.popped.steps⟩:=rfl;rw[e];generalize S.top=x at *;clear h e;go_enter Tryz.func197,Tryz.ntmps197;go_wp2_with fail
 refine hP.mono ?_;rintro e w1 ⟨rfl,h1⟩;have c34:w1.cell? ⟨k.B,34,none⟩=some (.slice v.xa S.out.length v.xc):=h1.sees.c34;have f34:=h1.sees.fr 34;have hbl:=h1.rows.szs;have hob1:w1.ownsRow k.w0.heap.size 3 1 (.slice v.xa S.out.length v.xc) S.out.length (S.out.map (Value.int .i64)):=h1.rows.out;have H1:=Ac h1;clear h1 hP;go_wp2_with (at_builtin;refine wpList_append_own_at _ rfl _ _ 26 rfl k.w0.heap.size 3 i0 _ 1 8 Tryz.underlying26 hi hz0 hz1 hz2 rfl (by decide) _ _ _ rfl (hob1.alloc _) ⟨w1.heap.size,0,none⟩ 1 1 [.int .i64 x] rfl rfl ?c1 ?c2 ?c3 ?c4 ?c5 ?_)
 case c1=>exact Ar _ _ _ _ rfl
 case c2=>intro u hu;simp at hu;subst hu;rfl
 case c3=>unfold maxLen;omega
 case c4=>omega
 case c5=>simp;omega
 intro v' w2 hown2 hgrow _ hat;obtain⟨xa,xc,rfl⟩:=Ae hown2;have h2:=(Aa H1).gr ok (QN (O4 x));have hat':(Value.slice xa (S.out.length+1) xc).ownBlock=(Value.slice v.xa S.out.length v.xc).ownBlock∨(Value.slice xa (S.out.length+1) xc).ownBlock=some (w1.alloc (O4 x)).heap.size:=by simpa using hat
 obtain⟨hR,hBB⟩:=h2.rows.addX ok h2.blk hown2 hgrow hat';have hM:Mid w2 k.B 156 (Mc.pre k S.popped.read S.popped.objs.length v) S.popped.now.cells (Mc.post v S.popped.wait.length S.popped.out.length S.popped.ended S.popped.status S.popped.value S.popped.steps):=hBB.trans h2.blk;have hl32:(Mc.pre k S.popped.read S.popped.objs.length v++S.popped.now.cells).length=32:=by rw[List.length_append,Bj,h2.wf.len]
 have hM0:=hM.tail.cell (j:=2) hl32 (by rw[Cv];omega);have hM1:=hM.free 34;have e34:(Mc.post v S.popped.wait.length S.popped.out.length S.popped.ended S.popped.status S.popped.value S.popped.steps)[2]?=some (.slice v.xa S.out.length v.xc):=rfl;rw[e34]at hM0;simp only[Nat.reduceAdd]at hM0;have HM:=Ac hM;have HR:=Ac hR;have HW:=Ac h2.wf;clear hM hR h2 H1 hown2 hgrow hat hat' hBB hob1 e34 hl32;go_wp2
 go_end0
 refine⟨rfl,⟨v.oa,v.oc,v.wa,v.wc,xa,xc,v.ov⟩,?_⟩;exact Gh (j:=2) (Aa HM) (Bj _ _ _ _) (Cv _ _ _ _ _ _ _) (Aa HW) ok (by omega) _ rfl rfl (by simp[Mc.post,Mc.S.popped,Mc.S.withNow]) (Aa HR)
theorem Ads (k:Mc.K) (S:Mc.S) (v:Mc.V) (w:World) (ok:k.Ok) (h:Mc.At k S v w) (hrl:S.read≤100000) :
  Calls Tryz.prog 196 #[.pointer (some ⟨k.B,0,none⟩)] w fun e w'=>e=.returned (.tuple #[])∧Mc.At k (Mc.inp k.E S) v w':=by
 have c9:=h.sees.c9;have c5:=h.sees.c5;have f9:=h.sees.fr 9;have hil:=ok.il;have hins:=h.rows.ints ok;unfold Mc.inp;have eI:k.E.ins=k.ins:=rfl;rw[eI];have d0:decide ((0:Int)≤(S.read:Int))=true:=by simp
 by_cases hr:S.read<k.ins.length
 ·rw[if_pos hr];obtain⟨g,o,hg,hglt,hc⟩:=hins S.read hr;have d1:decide ((S.read:Int)<(k.ins.length:Int))=true:=by simpa using hr
  have d2:decide (S.read<k.ins.length)=true:=by simpa using hr
  have hr':(S.read:Int)<(k.ins.length:Int):=by omega
  rw[hg]at c5;generalize k.ins.getD S.read 0=x at *;have h1:∀ n,Mc.At k ⟨S.read+1,S.objs,S.now,S.wait,S.ended,S.out,S.status,S.value,S.steps⟩ v ((w.drewN n).setCell ⟨k.B,9,none⟩ (.int .i64 ((S.read:Int)+1))):=fun n=>(h.drewN ok n).setPre ok (j:=9) (by omega) _ rfl rfl rfl (h.drewN ok n).rows;have hP:∀ n,_:=fun n=>Dz k _ v x _ ok (h1 n);have HP:=Ac hP;clear h hins eI h1 hP;go_enter Tryz.func196,Tryz.ntmps196;go_wp2
  go_quiet (fail)
  go_wp2
  go_quiet (fail)
  go_wp2_with fail
  refine(Aa HP _).mono ?_;rintro e w1 ⟨rfl,h2⟩;go_wp2
  go_end0
  exact⟨rfl,h2⟩
 ·rw[if_neg hr];have d1:decide ((S.read:Int)<(k.ins.length:Int))=false:=by simpa using hr
  have d2:decide (S.read<k.ins.length)=false:=by simpa using hr
  have hr':¬ (S.read:Int)<(k.ins.length:Int):=by omega
  have hP:∀ n1,_:=fun n1=>Dz k _ v 0 _ ok (h.drewN ok n1);have HP:=Ac hP;clear h hins eI hP;go_enter Tryz.func196,Tryz.ntmps196;go_wp2
  go_quiet (fail)
  go_wp2_with fail
  refine(Aa HP _).mono ?_;rintro e w1 ⟨rfl,h2⟩;go_wp2
  go_end0
  exact⟨rfl,h2⟩
theorem Tg (k:Mc.K) (S:Mc.S) (v:Mc.V) (op:Int) (w:World) (ok:k.Ok) (h:Mc.At k S v w) :
  Calls Tryz.prog 189 #[.pointer (some ⟨k.B,0,none⟩),.int .i64 op] w fun e w'=>e=.returned (.tuple #[])∧∃ v',Mc.At k (Mc.reckon k.E op S) v' w':=by
 have hP:=Dw k S v w ok h;have hQ:=fun w h=>Dw k S.popped v w ok h;have hR:=fun w=>Qi op S.popped.top S.top w;have hU:=fun x w h=>Dz k S.popped.popped v x w ok h;have hT:=fun w h=>Bg k S.popped.popped v 2 w ok h (by omega) (by omega);unfold Mc.reckon;generalize S.popped.top=x at *;generalize S.top=y at *;clear h;cases hr:Mc.reckoned op x y with
 | none =>
  rw[hr]at hR;simp only[Option.getD_none,Option.isSome_none]at hR;clear hr;go_enter Tryz.func189,Tryz.ntmps189;go_wp2_with fail
  refine hP.mono ?_;rintro e w1 ⟨rfl,h1⟩;go_wp2_with fail
  refine(hQ _ h1).mono ?_;rintro e w2 ⟨rfl,h2⟩;go_wp2_with fail
  refine(hR _).mono ?_;rintro e w3 ⟨rfl,rfl⟩;go_wp2_with fail
  refine(hT _ h2).mono ?_;rintro e w4 ⟨rfl,v',h4⟩;go_wp2;refine bodyPost_ret (v:=.tuple #[]) (by simp[results,Tryz.results189,go_sem]) rfl ?_;exact⟨rfl,v',h4⟩
 | some z =>
  rw[hr]at hR;simp only[Option.getD_some,Option.isSome_some]at hR;clear hr;go_enter Tryz.func189,Tryz.ntmps189;go_wp2_with fail
  refine hP.mono ?_;rintro e w1 ⟨rfl,h1⟩;go_wp2_with fail
  refine(hQ _ h1).mono ?_;rintro e w2 ⟨rfl,h2⟩;go_wp2_with fail
  refine(hR _).mono ?_;rintro e w3 ⟨rfl,rfl⟩;go_wp2_with fail
  refine(hU z _ h2).mono ?_;rintro e w4 ⟨rfl,h4⟩;go_wp2
  go_end0
  exact⟨rfl,v,h4⟩
theorem M7 (k:Mc.K) (S:Mc.S) (v:Mc.V) (w:World) (ok:k.Ok) (h:Mc.At k S v w) :
  Calls Tryz.prog 195 #[.pointer (some ⟨k.B,0,none⟩)] w fun e w'=>e=.returned (.tuple #[])∧∃ v',Mc.At k (Mc.throwTaken k.E S) v' w':=by
 have hP:=Dw k S v w ok h;have hT:=fun w h=>Bg k S.popped v 3 w ok h (by omega) (by omega);have hU:=fun w h=>Nc k S.popped v S.top w ok h;unfold Mc.throwTaken;generalize S.top=x at *;clear h;by_cases hx:x=0
 ·rw[if_pos hx];subst hx;go_enter Tryz.func195,Tryz.ntmps195;go_wp2_with fail
  refine hP.mono ?_;rintro e w1 ⟨rfl,h1⟩;go_wp2_with fail
  refine(hT _ h1).mono ?_;rintro e w4 ⟨rfl,v',h4⟩;go_wp2;refine bodyPost_ret (v:=.tuple #[]) (by simp[results,Tryz.results195,go_sem]) rfl ?_;exact⟨rfl,v',h4⟩
 ·rw[if_neg hx];have hx':(x==0)=false:=by simp[hx]
  clear hx;go_enter Tryz.func195,Tryz.ntmps195;go_wp2_with fail
  refine hP.mono ?_;rintro e w1 ⟨rfl,h1⟩;go_wp2_with fail
  refine(hU _ h1).mono ?_;rintro e w4 ⟨rfl,v',h4⟩;go_wp2
  go_end0
  exact⟨rfl,v',h4⟩
theorem Tm (k:Mc.K) (S:Mc.S) (v:Mc.V) (cl:Int) (w:World) (ok:k.Ok) (h:Mc.At k S v w) (hol:S.objs.length≤1000) :
  Calls Tryz.prog 243 #[.pointer (some ⟨k.B,0,none⟩),.int .i64 cl] w fun e w'=>e=.returned (.tuple #[])∧∃ v',Mc.At k (Mc.create k.E cl S) v' w':=by
 unfold Mc.create;have eR:k.E.room=k.room:=rfl;rw[eR];clear eR;by_cases hr:k.room≤(S.objs.length:Int)-5
 ·rw[if_pos hr];have hA:=Se k S v cl w ok h hol hr;have hT:=fun w h=>Bg k S v 5 w ok h (by omega) (by omega);clear h hr;go_enter Tryz.func243,Tryz.ntmps243;go_wp2_with fail
  refine hA.mono ?_;rintro e w1 ⟨rfl,h1⟩;go_wp2_with fail
  refine(hT _ h1).mono ?_;rintro e w4 ⟨rfl,v',h4⟩;go_wp2;refine bodyPost_ret (v:=.tuple #[]) (by simp[results,Tryz.results243,go_sem]) rfl ?_;exact⟨rfl,v',h4⟩
 ·rw[if_neg hr];have hA:=Aag k S v cl w ok h hol hr;have hT:=fun v w h=>Dz k (S.withObjs (S.objs++[(cl,[])])) v ((S.objs.length:Int)+1) w ok h;clear h hr;go_enter Tryz.func243,Tryz.ntmps243;go_wp2_with fail
  refine hA.mono ?_;rintro e w1 ⟨rfl,v1,h1⟩;go_wp2_with fail
  refine(hT v1 _ h1).mono ?_;rintro e w4 ⟨rfl,h4⟩;go_wp2
  go_end0
  exact⟨rfl,v1,h4⟩
theorem TyR.at2 {w w':World}{v:Value}{l:List (Int × Int)} (h:TyR w v l) (hk:∀ j,v.ownBlock=some j→w'.heap[j]?=w.heap[j]?):TyR w' v l:=by
 rcases h with h|⟨g,o,c,cur,hv,hg,h1,h2,h3⟩
 ·exact .inl h
 ·have e:=hk g (by rw[hv];rfl);exact .inr ⟨g,o,c,cur,hv,e.trans hg,h1,h2,fun j x hx=>by rw[World.cell?_of_block (a:=⟨g,o+j,none⟩) e];exact h3 j x hx⟩
theorem TyR.blk_lt {w:World}{v:Value}{l:List (Int × Int)} (h:TyR w v l) {j:Nat} (hj:v.ownBlock=some j):j<w.heap.size:=by
 rcases h with ⟨rfl,_⟩|⟨g,o,c,cur,hv,hg,_⟩
 ·simp[Value.ownBlock]at hj
 ·rw[hv]at hj;simp only[Value.ownBlock,Option.some.injEq]at hj;rw[← hj];exact lt_of_block hg
theorem Mc.Rows.fldsIn {k:Mc.K}{objs:List (Int × List Int)}{wait:List Mc.Call}{out:List Int}{v:Mc.V}{w:World} (h:Mc.Rows k objs wait out v w) (ok:k.Ok):FldsIn w k.bf (.slice k.ya k.lf.length k.yc) k.lf:=by
 obtain⟨a,b⟩:=ok.fl;refine⟨Be a (fun j hj=>h.keep j (a.lt j hj).2 (ok.fB j hj).1 (ok.fB j hj).2),fun p hp=>(b p hp).at2 (fun j hj=>?_)⟩;obtain⟨x,y⟩:=ok.fy p hp j hj;exact h.keep j ((b p hp).blk_lt hj) x y
theorem Rj (n:Int):∀ (fs:List (List (Int × Int))) (c f:Int),(∀ l∈fs,l.length≤10)→0≤c→(Afr n fs c f).1≤c+fs.length∧-1≤(Afr n fs c f).1∧0≤(Afr n fs c f).2∧(Afr n fs c f).2≤10
 | [],c,f,_,hc=>by simp[Afr];omega
 | l::r,c,f,h,hc=>by
  unfold Afr;have hl:=h l (by simp)
  split
  ·rename_i hh;obtain⟨h1,h2⟩:=hh;simp only[List.length_cons];omega
  ·have:=Rj n r (c+1) (f+(l.length:Int)) (fun x hx=>h x (by simp[hx])) (by omega);simp only[List.length_cons];omega
theorem Oq (T:List Int) (tg tc:Nat) (l:List (Value × List (Int × Int))) (bb:Nat) (ya:Option Addr) (yc:Nat) (n:Int) (w:World) (hl:l.length≤14) (hTl:T.length≤1000) (hn:0≤n∧n≤100000) (hf:∀ p∈l,p.2.length≤10) (hT:TreeIn w tg T) (hF:FldsIn w bb (.slice ya l.length yc) l) :
  Calls Tryz.prog 281 #[.agg #[.slice (some ⟨tg,0,none⟩) T.length tc,.slice ya l.length yc],.int .i64 n] w fun e w'=>e=.returned (.int .i64 (Mc.slot T (l.map Prod.snd) n))∧Below w.heap.size w w':=by
 have hO:=fun w' (h:Below w.heap.size w w')=>Oy (aa:=some ⟨tg,0,none⟩) (an:=T.length) (ac:=tc) l bb ya yc n w' (by omega) hn (fun p hp=>by have:=hf p hp;omega) (hF.below h);have hW:=fun c w' (h:Below w.heap.size w w')=>Uu (aa:=some ⟨tg,0,none⟩) (an:=T.length) (ac:=tc) l bb ya yc c w' (by omega) (hF.below h);have hA:=fun c w' (h:Below w.heap.size w w')=>Hh T tg tc l bb ya yc c w' hl hTl (fun p hp=>by have:=hf p hp;omega) (hT.below h) (hF.below h);have hob:=Rj n (l.map Prod.snd) 0 0 (fun x hx=>by obtain⟨p,hp,rfl⟩:=List.mem_map.1 hx;exact hf p hp) (by omega);have hal:∀ c,(Afm T (l.map Prod.snd) c).length≤1000*14:=fun c=>by
  have:=Dk T (l.map Prod.snd) c (fun p hp=>by obtain⟨q,hq,rfl⟩:=List.mem_map.1 hp;have:=hf q hq;omega) (l.map Prod.snd).length;unfold Afm;rw[List.length_map]at this ⊢;omega
 have hwl:∀ c,(Aig (l.map Prod.snd) c).length≤10:=fun c=>by
  unfold Aig
  split
  ·simp
  ·rw[List.getD_eq_getElem?_getD];cases hg:(l.map Prod.snd)[c.toNat]? with
   | none=>simp
   | some x =>
    obtain⟨p,hp,rfl⟩:=List.mem_map.1 (List.mem_of_getElem? hg);exact hf p hp
 unfold Mc.slot;generalize Afr n (l.map Prod.snd) 0 0=oo at *;obtain⟨oc,oi⟩:=oo;simp only at hO hob ⊢;obtain⟨-,b1,b2,b3⟩:=hob;have hB0:Below w.heap.size w (w.alloc (O2 (some ⟨tg,0,none⟩) T.length tc ya l.length yc)):=QN _;have hC0:=Ad w (O2 (some ⟨tg,0,none⟩) T.length tc ya l.length yc);by_cases h1:oc = -1
 ·rw[if_pos h1];subst h1;clear hW hA hal hwl;go_enter Tryz.func281,Tryz.ntmps281;go_wp2_with fail
  refine(hO _ hB0).mono ?_;rintro e w1 ⟨rfl,hb1⟩;have hB1:=QB hB0 hb1;go_wp2;go_ret;exact⟨rfl,hB1⟩
 ·rw[if_neg h1];have h1':(oc == -1)=false:=by simp[h1]
  have ha2:=hal oc;have hw2:=hwl oc;have hA2:=hA oc;have hW2:=hW oc;clear h1 hal hwl hA hW;generalize Afm T (l.map Prod.snd) oc=FA at *;generalize Aig (l.map Prod.snd) oc=FO at *;go_enter Tryz.func281,Tryz.ntmps281;go_wp2_with fail
  refine(hO _ hB0).mono ?_;rintro e w1 ⟨rfl,hb1⟩;have hB1:=QB hB0 hb1;have C1:=stay hb1 hC0;obtain⟨t0,t1⟩:=cl2 C1;simp at t0 t1;go_wp2_with fail
  refine(hA2 _ hB1).mono ?_;rintro e w2 ⟨xa,xc,rfl,-,hb2⟩;have hB2:=QB hB1 hb2;have C2:=stay hb2 C1;obtain⟨u0,u1⟩:=cl2 C2;simp at u0 u1;go_wp2_with fail
  refine(hW2 _ hB2).mono ?_;rintro e w3 ⟨za,zc,rfl,-,hb3⟩;have hB3:=QB hB2 hb3;go_wp2;go_ret;exact⟨rfl,hB3⟩
theorem Xs (k:Mc.K) (S:Mc.S) (v:Mc.V) (cl:Int) (w:World) (ok:k.Ok) (h:Mc.At k S v w) :
  Calls Tryz.prog 247 #[.pointer (some ⟨k.B,0,none⟩),.int .i64 cl] w fun e w'=>e=.returned (.tuple #[])∧∃ v',Mc.At k (Mc.cast k.E cl S) v' w':=by
 have hP:=Dw k S v w ok h;have hC:=fun w h=>Gz k S.popped v S.top w h;have hU:=fun w h=>Dz k S.popped v S.top w ok h;have hT:=fun w h=>Bg k S.popped v 4 w ok h (by omega) (by omega);have hTl:=ok.tl;unfold Mc.cast;have eT:k.E.T=k.T:=rfl;have eO:S.popped.objs=S.objs:=rfl;rw[eT];rw[eO]at hC;generalize S.top=x at *;generalize Mc.classOf x S.objs=c at *;have hWi:=fun w hT=>Df (ya:=k.ya) (yn:=k.lf.length) (yc:=k.yc) k.T k.tg k.tc c cl w hTl hT;clear h eT eO;by_cases hx:x=0
 ·rw[if_pos hx];subst hx;clear hWi hT;go_enter Tryz.func247,Tryz.ntmps247;go_wp2_with fail
  refine hP.mono ?_;rintro e w1 ⟨rfl,h1⟩;go_wp2_with fail
  refine(hC _ h1).mono ?_;rintro e w2 ⟨rfl,rfl⟩;go_wp2_with fail
  refine(hU _ h1).mono ?_;rintro e w3 ⟨rfl,h3⟩;go_wp2
  go_end0
  exact⟨rfl,v,h3⟩
 ·rw[if_neg hx];have hx':(x != 0)=true:=by simp[hx]
  clear hx;generalize Tr.within k.T c cl=b at *;cases b with
  | true =>
   rw[if_pos rfl];clear hT;go_enter Tryz.func247,Tryz.ntmps247;go_wp2_with fail
   refine hP.mono ?_;rintro e w1 ⟨rfl,h1⟩;go_wp2_with fail
   refine(hC _ h1).mono ?_;rintro e w2 ⟨rfl,rfl⟩;have c2:=h1.sees.c2;have c3:=h1.sees.c3;go_wp2_with fail
   refine(hWi _ (h1.rows.tree ok)).mono ?_;rintro e w3 ⟨rfl,hb3⟩;go_wp2_with fail
   refine(hU _ (h1.gr ok hb3)).mono ?_;rintro e w4 ⟨rfl,h4⟩;go_wp2
   go_end0
   exact⟨rfl,v,h4⟩
  | false =>
   rw[if_neg (by simp)];clear hU;go_enter Tryz.func247,Tryz.ntmps247;go_wp2_with fail
   refine hP.mono ?_;rintro e w1 ⟨rfl,h1⟩;go_wp2_with fail
   refine(hC _ h1).mono ?_;rintro e w2 ⟨rfl,rfl⟩;have c2:=h1.sees.c2;have c3:=h1.sees.c3;go_wp2_with fail
   refine(hWi _ (h1.rows.tree ok)).mono ?_;rintro e w3 ⟨rfl,hb3⟩;go_wp2_with fail
   refine(hT _ (h1.gr ok hb3)).mono ?_;rintro e w4 ⟨rfl,v',h4⟩;go_wp2;refine bodyPost_ret (v:=.tuple #[]) (by simp[results,Tryz.results247,go_sem]) rfl ?_;exact⟨rfl,v',h4⟩
theorem Qm (k:Mc.K) (S:Mc.S) (v:Mc.V) (n:Int) (w:World) (ok:k.Ok) (h:Mc.At k S v w) (hn:0≤n∧n≤100000) :
  Calls Tryz.prog 245 #[.pointer (some ⟨k.B,0,none⟩),.int .i64 n] w fun e w'=>e=.returned (.tuple #[])∧∃ v',Mc.At k (Mc.getField k.E n S) v' w':=by
 have hP:=Dw k S v w ok h;have hT:=fun w h=>Bg k S.popped v 3 w ok h (by omega) (by omega);have hSl:=fun w hT hF=>Oq k.T k.tg k.tc k.lf k.bf k.ya k.yc n w ok.f14 ok.tl hn ok.ff hT hF;have hG:=fun s w h=>Aaq k S.popped v S.top s w h;have hU:=fun x w h=>Dz k S.popped v x w ok h;unfold Mc.getField;have eE:Mc.slot k.E.T k.E.FL n=Mc.slot k.T (k.lf.map Prod.snd) n:=rfl;have eO:S.popped.objs=S.objs:=rfl;rw[eE];rw[eO]at hG;generalize S.top=x at *;generalize Mc.slot k.T (k.lf.map Prod.snd) n=sl at *;clear h eE eO;by_cases hx:x=0
 ·rw[if_pos hx];subst hx;clear hSl hG hU;go_enter Tryz.func245,Tryz.ntmps245;go_wp2_with fail
  refine hP.mono ?_;rintro e w1 ⟨rfl,h1⟩;go_wp2_with fail
  refine(hT _ h1).mono ?_;rintro e w4 ⟨rfl,v',h4⟩;go_wp2;refine bodyPost_ret (v:=.tuple #[]) (by simp[results,Tryz.results245,go_sem]) rfl ?_;exact⟨rfl,v',h4⟩
 ·rw[if_neg hx];have hx':(x==0)=false:=by simp[hx]
  clear hx hT;have hG2:=hG sl;clear hG;generalize Mc.getF x sl S.objs=y at *;go_enter Tryz.func245,Tryz.ntmps245;go_wp2_with fail
  refine hP.mono ?_;rintro e w1 ⟨rfl,h1⟩;have c2:=h1.sees.c2;have c3:=h1.sees.c3;go_wp2_with fail
  refine(hSl _ (h1.rows.tree ok) (h1.rows.fldsIn ok)).mono ?_;rintro e w2 ⟨rfl,hb2⟩;go_wp2_with fail
  refine(hG2 _ (h1.gr ok hb2)).mono ?_;rintro e w3 ⟨rfl,rfl⟩;go_wp2_with fail
  refine(hU _ _ (h1.gr ok hb2)).mono ?_;rintro e w4 ⟨rfl,h4⟩;go_wp2
  go_end0
  exact⟨rfl,v,h4⟩
theorem Qb (k:Mc.K) (S:Mc.S) (v:Mc.V) (n:Int) (w:World) (ok:k.Ok) (h:Mc.At k S v w) (hn:0≤n∧n≤100000) :
  Calls Tryz.prog 246 #[.pointer (some ⟨k.B,0,none⟩),.int .i64 n] w fun e w'=>e=.returned (.tuple #[])∧∃ v',Mc.At k (Mc.putField k.E n S) v' w':=by
 have hP:=Dw k S v w ok h;have hQ:=fun w h=>Dw k S.popped v w ok h;have hT:=fun w h=>Bg k S.popped.popped v 3 w ok h (by omega) (by omega);have hSl:=fun w hT hF=>Oq k.T k.tg k.tc k.lf k.bf k.ya k.yc n w ok.f14 ok.tl hn ok.ff hT hF;have hG:=fun s w h=>Aaz k S.popped.popped v S.popped.top s S.top w ok h;unfold Mc.putField;have eE:Mc.slot k.E.T k.E.FL n=Mc.slot k.T (k.lf.map Prod.snd) n:=rfl;have eO:S.popped.popped.objs=S.objs:=rfl;rw[eE];rw[eO]at hG;generalize S.popped.top=x at *;generalize S.top=y at *;generalize Mc.slot k.T (k.lf.map Prod.snd) n=sl at *;clear h eE eO;by_cases hx:x=0
 ·rw[if_pos hx];subst hx;clear hSl hG;go_enter Tryz.func246,Tryz.ntmps246;go_wp2_with fail
  refine hP.mono ?_;rintro e w1 ⟨rfl,h1⟩;go_wp2_with fail
  refine(hQ _ h1).mono ?_;rintro e w2 ⟨rfl,h2⟩;go_wp2_with fail
  refine(hT _ h2).mono ?_;rintro e w4 ⟨rfl,v',h4⟩;go_wp2;refine bodyPost_ret (v:=.tuple #[]) (by simp[results,Tryz.results246,go_sem]) rfl ?_;exact⟨rfl,v',h4⟩
 ·rw[if_neg hx];have hx':(x==0)=false:=by simp[hx]
  clear hx hT;have hG2:=hG sl;clear hG;go_enter Tryz.func246,Tryz.ntmps246;go_wp2_with fail
  refine hP.mono ?_;rintro e w1 ⟨rfl,h1⟩;go_wp2_with fail
  refine(hQ _ h1).mono ?_;rintro e w2 ⟨rfl,h2⟩;have c2:=h2.sees.c2;have c3:=h2.sees.c3;go_wp2_with fail
  refine(hSl _ (h2.rows.tree ok) (h2.rows.fldsIn ok)).mono ?_;rintro e w3 ⟨rfl,hb3⟩;go_wp2_with fail
  refine(hG2 _ (h2.gr ok hb3)).mono ?_;rintro e w4 ⟨rfl,h4⟩;go_wp2
  go_end0
  exact⟨rfl,v,h4⟩
structure Mc.Fresh (k:Mc.K) (S:Mc.S) (v:Mc.V) (w:World) (g n:Nat) (l:List Int):Prop where
 ints:IntsAt w k.w0.heap.size (.slice (some ⟨g,0,none⟩) n n) l
 ne:∀ x∈(Value.slice v.xa S.out.length v.xc::v.ov),x.ownBlock≠some g
 nB:g≠k.B
 len:l.length=n
theorem Jf (k:Mc.K) (S:Mc.S) (v:Mc.V) (la:Option Addr) (n lc:Nat) (w:World) (ok:k.Ok) (h:Mc.At k S v w) (hn:n≤1000) :
  Calls Tryz.prog 248 #[.pointer (some ⟨k.B,12,none⟩),.slice la n lc] w fun e w'=>e=.returned (.slice (some ⟨w.heap.size,0,none⟩) n n)∧Mc.Fresh k S v w' w.heap.size n (Mc.popsV n S)∧Mc.At k (Mc.popsS n S) v w'∧Gr k.B w w':=by
 refine(Td S.now la n lc k.B 12 156 _ _ w rfl h.wf hn h.blk).mono fun e w' ⟨he,hI,hM,hg⟩=>⟨he,⟨Av hI h.rows.szs,?_,?_,Hg n S.now⟩,h.now ok hg (Nq n h.wf) hM,hg⟩
 ·intro x hx hc;rcases List.mem_cons.1 hx with rfl | hx
  ·have:=(h.rows.out.lt _ hc).2;omega
  ·obtain⟨i,hi,rfl⟩:=List.getElem_of_mem hx;have hi':i<S.objs.length:=by have:=h.rows.ovl;omega
   have e2:v.ov.getD i (.slice none 0 0)=v.ov[i]:=by rw[List.getD_eq_getElem?_getD,List.getElem?_eq_getElem hi];rfl
   have:=((h.rows.flds i hi').lt _ (by rw[e2];exact hc)).2;omega
 ·have:=h.blk.lt;omega
theorem Mc.Fresh.gr {k:Mc.K}{S:Mc.S}{v:Mc.V}{w w':World}{g n:Nat}{l:List Int} (h:Mc.Fresh k S v w g n l) (hg:Gr k.B w w'):Mc.Fresh k S v w' g n l :=
 ⟨Be h.ints (fun j hj=>by
  have:g=j:=by simpa[Value.ownBlock] using hj
  exact hg.blk (h.ints.lt j hj).2 (by rw[← this];exact h.nB)),h.ne,h.nB,h.len⟩
theorem Nx (k:Mc.K) (S:Mc.S) (v:Mc.V) (cl:Int) (w:World) (ok:k.Ok) (h:Mc.At k S v w) :
  Calls Tryz.prog 244 #[.pointer (some ⟨k.B,0,none⟩),.int .i64 cl] w fun e w'=>e=.returned (.tuple #[])∧∃ v',Mc.At k (Mc.setFields k.E cl S) v' w':=by
 have c2:=h.sees.c2;have c3:=h.sees.c3;have hF:=Hh k.T k.tg k.tc k.lf k.bf k.ya k.yc cl w ok.f14 ok.tl (fun p hp=>by have:=ok.ff p hp;omega) (h.rows.tree ok) (h.rows.fldsIn ok);have hfl:(Afm k.T (k.lf.map Prod.snd) cl).length≤140:=by
  have:=Dk k.T (k.lf.map Prod.snd) cl (fun p hp=>by obtain⟨q,hq,rfl⟩:=List.mem_map.1 hp;have:=ok.ff q hq;omega);have key:∀ d,d≤14→(Af3 k.T (k.lf.map Prod.snd) cl d).length≤10*d:=by
   intro d hd;clear this
   induction d with
   | zero=>simp[Af3]
   | succ d ih =>
    rw[Af3,List.length_append];have h1:=ih (by omega);have h2:(if Tr.within k.T cl (d:Int)=true then (k.lf.map Prod.snd).getD d [] else []).length≤10:=by
     split
     ·rw[List.getD_eq_getElem?_getD];cases hg:(k.lf.map Prod.snd)[d]? with
      | none=>simp
      | some x =>
       obtain⟨p,hp,rfl⟩:=List.mem_map.1 (List.mem_of_getElem? hg);exact ok.ff p hp
     ·simp
    omega
  have:=key (k.lf.map Prod.snd).length (by rw[List.length_map];exact ok.f14);unfold Afm;rw[List.length_map]at this ⊢;have:=ok.f14;omega
 unfold Mc.setFields;have eE:Afm k.E.T k.E.FL cl=Afm k.T (k.lf.map Prod.snd) cl:=rfl;rw[eE];generalize Afm k.T (k.lf.map Prod.snd) cl=FL at *;have hP:=fun w la lc h=>Jf k S v la FL.length lc w ok h (by omega);have HA:=Ac h;clear h eE;generalize hsv:Mc.popsV FL.length S=vs at *;have eO:(Mc.popsS FL.length S).popped.objs=S.objs:=rfl;rw[← eO];have eX:(Mc.popsS FL.length S).out=S.out:=rfl;generalize hS1:Mc.popsS FL.length S=S1 at *;clear hsv hS1 eO;generalize hr:S1.top=r at *;have HRR:=Ac hr;clear hr;have hSt:=fun fa fc w h hu hfr=>Abj k S1.popped v r fa fc vs w ok h hu hfr;go_enter Tryz.func244,Tryz.ntmps244;go_wp2_with fail
 refine hF.mono ?_;rintro e w1 ⟨xa,xc,rfl,-,hb1⟩;have h1:=(Aa HA).gr ok hb1;go_wp2_with fail
 refine(hP _ _ _ h1).mono ?_;rintro e w2 ⟨rfl,hfr,h2,-⟩;have hPp:=Bl S1.now k.B 12 156 _ _ w2 rfl h2.wf h2.blk;go_wp2_with fail
 refine hPp.mono ?_;rintro e w3 ⟨rfl,hM3,hg3⟩;have h3:Mc.At k S1.popped v w3:=h2.now ok hg3 (Ax h2.wf) hM3;have hfr3:=hfr.gr hg3;have hvl:=hfr.len;have hu:IntsAt w3 k.w0.heap.size (.slice (some ⟨w1.heap.size,0,none⟩) vs.length FL.length) vs:=by rw[hvl];exact hfr3.ints
 have hne:∀ q,(Value.slice (some ⟨w1.heap.size,0,none⟩) vs.length FL.length).ownBlock=some q→∀ x∈(Value.slice v.xa S1.popped.out.length v.xc::v.ov),x.ownBlock≠some q:=fun q hq x hx=>by
  have:w1.heap.size=q:=by simpa[Value.ownBlock] using hq
  rw[← this];exact hfr.ne x (by rw[← eX];exact hx)
 have hS2:=hSt _ _ _ h3 hu hne;rw[hvl]at hS2;have e5:(Mc.pop S1.now).1=r:=Aa HRR;rw[e5];go_wp2_with fail
 refine hS2.mono ?_;rintro e w4 ⟨rfl,v',h4⟩;go_wp2
 go_end0
 exact⟨rfl,v',h4⟩
theorem P4 (k:Mc.K) (S:Mc.S) (v:Mc.V) (w:World) (h:Mc.At k S v w) (h0:S.wait=[]) :
  Calls Tryz.prog 252 #[.pointer (some ⟨k.B,0,none⟩)] w fun e w'=>e=.returned (.bool false)∧w'=w:=by
 have c32:=h.sees.c32;rw[h0]at c32;simp at c32;clear h0;go_enter Tryz.func252,Tryz.ntmps252;go_wp2;go_ret;exact⟨rfl,rfl⟩
theorem Ql (k:Mc.K) (S:Mc.S) (v:Mc.V) (w:World) (ok:k.Ok) (h:Mc.At k S v w) :
  Calls Tryz.prog 194 #[.pointer (some ⟨k.B,0,none⟩)] w fun e w'=>e=.returned (.tuple #[])∧∃ v',Mc.At k (Mc.giveBack k.E S) v' w':=by
 have hm:=Ec k S v S.now.meth w ok h;have c12:=h.sees.c12;have HP:Hid (∀ w,Mc.At k S v w→Calls Tryz.prog 240 #[.pointer (some ⟨k.B,12,none⟩)] w fun e w'=>e=.returned (.int .i64 S.top)∧Mc.At k S.popped v w'∧Gr k.B w w'):=fun w h =>
  (Bl S.now k.B 12 156 _ _ w rfl h.wf h.blk).mono fun e w' ⟨he,hM,hg⟩=>⟨he,h.now ok hg (Ax h.wf) hM,hg⟩
 have HA:=Ac h;unfold Mc.giveBack;generalize k.E.meth S.now.meth=M at *;have hE0:=fun S w h hw=>P4 k S v w h hw;have hE1:=fun S W c w h hw=>J3 k S v W c w ok h hw;have hF:=fun S x w h=>Mf k S v 0 x w ok h;have hU:=fun S x w h=>Dz k S v x w ok h;have HM:=Ac hm;have HE0:=Ac hE0;have HE1:=Ac hE1;have HF:=Ac hF;have HU:=Ac hU;clear hm h hE0 hE1 hF hU;have ew:S.popped.wait=S.wait:=rfl;by_cases hres:M.result.1=0
 ·rw[if_pos hres];unfold Mc.backTo;cases hw:S.wait.getLast? with
  | none =>
   have hw0:S.wait=[]:=by simpa using hw
   simp only;have e:(if M.result.1=1 then (0:Int) else 0)=0:=by split<;>rfl
   rw[e];clear e hw;go_enter Tryz.func194,Tryz.ntmps194;go_wp2_with fail
   refine(Aa HM).mono ?_;rintro e w1 ⟨m,rfl,hM,hb1⟩;have hr1:=hM.r1;have h1:=(Aa HA).gr ok hb1;obtain⟨m1,m2,m3,m4,m5,m6,m7,m8,m9,ma,mb,mc,md,me,mf,mg,mh,mi⟩:=m;simp only at hr1;rw[hres]at hr1;subst hr1;simp only[PM.val];have hfd:∀ w:World,(Instr.field 133 (.agg #[.int .i64 m1,.int .i64 m2,.slice m3 m4 m5,.int .i64 0,.int .i64 m7,.int .i64 m8,.int .i64 m9,.slice ma mb mc,.slice md me mf,.slice mg mh mi]) 3).run Tryz.prog w=.ok (.agg #[.int .i64 0,.int .i64 m7]) w:=fun _=>by kernel_rfl
   have h2:=h1.gr ok (QN (O7 0 m7));have hK:=Ad w1 (O7 0 m7);have hKB:w1.heap.size≠k.B:=by have:=h1.blk.lt;omega
   clear hM hb1 h1 HM;have y0:=Ab hK 0;simp at y0;go_wp2_with fail
   refine(Aa HE0 _ _ h2 hw0).mono ?_;rintro e w3 ⟨rfl,rfl⟩;go_wp2_with fail
   refine(Aa HF _ _ _ h2).mono ?_;rintro e w4 ⟨rfl,h4⟩;go_wp2
   go_end0
   exact⟨rfl,v,h4⟩
  | some c =>
   have hw0:S.wait=S.wait.dropLast++[c]:=by
    obtain⟨ys,e⟩:=List.getLast?_eq_some_iff.1 hw;rw[e];simp
   simp only;rw[if_pos hres];generalize S.wait.dropLast=W at *;have HW0:=Ac hw0;clear hw hw0;go_enter Tryz.func194,Tryz.ntmps194;go_wp2_with fail
   refine(Aa HM).mono ?_;rintro e w1 ⟨m,rfl,hM,hb1⟩;have hr1:=hM.r1;have h1:=(Aa HA).gr ok hb1;obtain⟨m1,m2,m3,m4,m5,m6,m7,m8,m9,ma,mb,mc,md,me,mf,mg,mh,mi⟩:=m;simp only at hr1;rw[hres]at hr1;subst hr1;simp only[PM.val];have hfd:∀ w:World,(Instr.field 133 (.agg #[.int .i64 m1,.int .i64 m2,.slice m3 m4 m5,.int .i64 0,.int .i64 m7,.int .i64 m8,.int .i64 m9,.slice ma mb mc,.slice md me mf,.slice mg mh mi]) 3).run Tryz.prog w=.ok (.agg #[.int .i64 0,.int .i64 m7]) w:=fun _=>by kernel_rfl
   have h2:=h1.gr ok (QN (O7 0 m7));have hK:=Ad w1 (O7 0 m7);have hKB:w1.heap.size≠k.B:=by have:=h1.blk.lt;omega
   clear hM hb1 h1 HM;go_wp2_with fail
   refine(Aa HE1 _ _ _ _ h2 (Aa HW0)).mono ?_;rintro e w3 ⟨rfl,h3⟩;go_wp2
   go_end0
   exact⟨rfl,v,h3⟩
 ·rw[if_neg hres];have hres':(M.result.1 != 0)=true:=by simpa using hres
  unfold Mc.backTo;rw[ew];cases hw:S.wait.getLast? with
  | none =>
   have hw0:S.popped.wait=[]:=by rw[ew];simpa using hw
   simp only;clear hw;by_cases h1r:M.result.1=1
   ·rw[if_pos h1r];have HH1:=Ac h1r;clear hres h1r;go_enter Tryz.func194,Tryz.ntmps194;go_wp2_with fail
    refine(Aa HM).mono ?_;rintro e w1 ⟨m,rfl,hM,hb1⟩;have hr1:=hM.r1;have h1:=(Aa HA).gr ok hb1;obtain⟨m1,m2,m3,m4,m5,m6,m7,m8,m9,ma,mb,mc,md,me,mf,mg,mh,mi⟩:=m;simp only at hr1;rw[Aa HH1]at hr1 hres';subst hr1;simp only[PM.val];have hfd:∀ w:World,(Instr.field 133 (.agg #[.int .i64 m1,.int .i64 m2,.slice m3 m4 m5,.int .i64 1,.int .i64 m7,.int .i64 m8,.int .i64 m9,.slice ma mb mc,.slice md me mf,.slice mg mh mi]) 3).run Tryz.prog w=.ok (.agg #[.int .i64 1,.int .i64 m7]) w:=fun _=>by kernel_rfl
    have h2:=h1.gr ok (QN (O7 1 m7));have hK:=Ad w1 (O7 1 m7);have hKB:w1.heap.size≠k.B:=by have:=h1.blk.lt;omega
    clear hM hb1 h1 HM;go_wp2_with fail
    refine(Aa HP _ h2).mono ?_;rintro e w3 ⟨rfl,h3,hg3⟩;have hK3:=hg3.own hK hKB;have y0:=Ab hK3 0;simp at y0;go_wp2_with fail
    refine(Aa HE0 _ _ h3 hw0).mono ?_;rintro e w4 ⟨rfl,rfl⟩;go_wp2_with fail
    refine(Aa HF _ _ _ h3).mono ?_;rintro e w5 ⟨rfl,h5⟩;go_wp2
    go_end0
    exact⟨rfl,v,h5⟩
   ·rw[if_neg h1r];have h1r':(M.result.1==1)=false:=by simpa using h1r
    clear hres h1r;go_enter Tryz.func194,Tryz.ntmps194;go_wp2_with fail
    refine(Aa HM).mono ?_;rintro e w1 ⟨m,rfl,hM,hb1⟩;have hr1:=hM.r1;have h1:=(Aa HA).gr ok hb1;obtain⟨m1,m2,m3,m4,m5,m6,m7,m8,m9,ma,mb,mc,md,me,mf,mg,mh,mi⟩:=m;simp only at hr1;rw[← hr1]at hres' h1r';clear hr1;simp only[PM.val];have hfd:∀ w:World,(Instr.field 133 (.agg #[.int .i64 m1,.int .i64 m2,.slice m3 m4 m5,.int .i64 m6,.int .i64 m7,.int .i64 m8,.int .i64 m9,.slice ma mb mc,.slice md me mf,.slice mg mh mi]) 3).run Tryz.prog w=.ok (.agg #[.int .i64 m6,.int .i64 m7]) w:=fun _=>by kernel_rfl
    have h2:=h1.gr ok (QN (O7 m6 m7));have hK:=Ad w1 (O7 m6 m7);have hKB:w1.heap.size≠k.B:=by have:=h1.blk.lt;omega
    clear hM hb1 h1 HM;go_wp2_with fail
    refine(Aa HP _ h2).mono ?_;rintro e w3 ⟨rfl,h3,hg3⟩;have hK3:=hg3.own hK hKB;have y0:=Ab hK3 0;simp at y0;go_wp2_with fail
    refine(Aa HE0 _ _ h3 hw0).mono ?_;rintro e w4 ⟨rfl,rfl⟩;go_wp2_with fail
    refine(Aa HF _ _ _ h3).mono ?_;rintro e w5 ⟨rfl,h5⟩;go_wp2
    go_end0
    exact⟨rfl,v,h5⟩
  | some c =>
   have hw0:S.popped.wait=S.wait.dropLast++[c]:=by
    obtain⟨ys,e⟩:=List.getLast?_eq_some_iff.1 hw;rw[ew,e];simp
   simp only;rw[if_neg hres];generalize S.wait.dropLast=W at *;have HW0:=Ac hw0;clear hw hw0 hres;go_enter Tryz.func194,Tryz.ntmps194;go_wp2_with fail
   refine(Aa HM).mono ?_;rintro e w1 ⟨m,rfl,hM,hb1⟩;have hr1:=hM.r1;have h1:=(Aa HA).gr ok hb1;obtain⟨m1,m2,m3,m4,m5,m6,m7,m8,m9,ma,mb,mc,md,me,mf,mg,mh,mi⟩:=m;simp only at hr1;rw[← hr1]at hres';clear hr1;simp only[PM.val];have hfd:∀ w:World,(Instr.field 133 (.agg #[.int .i64 m1,.int .i64 m2,.slice m3 m4 m5,.int .i64 m6,.int .i64 m7,.int .i64 m8,.int .i64 m9,.slice ma mb mc,.slice md me mf,.slice mg mh mi]) 3).run Tryz.prog w=.ok (.agg #[.int .i64 m6,.int .i64 m7]) w:=fun _=>by kernel_rfl
   have h2:=h1.gr ok (QN (O7 m6 m7));have hK:=Ad w1 (O7 m6 m7);have hKB:w1.heap.size≠k.B:=by have:=h1.blk.lt;omega
   clear hM hb1 h1 HM;go_wp2_with fail
   refine(Aa HP _ h2).mono ?_;rintro e w3 ⟨rfl,h3,hg3⟩;go_wp2_with fail
   refine(Aa HE1 _ _ _ _ h3 (Aa HW0)).mono ?_;rintro e w4 ⟨rfl,h4⟩;go_wp2_with fail
   refine(Aa HU _ S.top _ h4).mono ?_;rintro e w5 ⟨rfl,h5⟩;go_wp2
   go_end0
   exact⟨rfl,v,h5⟩
theorem Tryz.infoCall3:(Tryz.prog.info? 152).map (fun i=>(i.zero,i.size,i.bytes))=some (some (.agg #[.int .i64 0,.int .i64 0,.int .i64 0,.int .i64 0,.int .i64 0,.int .i64 0,.int .i64 0,.int .i64 0,.int .i64 0,.int .i64 0,.int .i64 0,.int .i64 0,.int .i64 0,.int .i64 0,.int .i64 0,.int .i64 0,.int .i64 0,.int .i64 0,.int .i64 0,.int .i64 0]),20,160):=by kernel_rfl
theorem Abu (a0 a1 a2 a3 a4 a5 a6 a7 a8 a9 b0 b1 b2 b3 b4 b5 b6 b7 b8 b9:Value) (w:World) :
  (Instr.buildSlice 154 1 #[(0,.agg #[a0,a1,a2,a3,a4,a5,a6,a7,a8,a9,b0,b1,b2,b3,b4,b5,b6,b7,b8,b9])]).run Tryz.prog w=.ok (.slice (some ⟨w.heap.size,0,none⟩) 1 1) (w.alloc (.cells #[a0,a1,a2,a3,a4,a5,a6,a7,a8,a9,b0,b1,b2,b3,b4,b5,b6,b7,b8,b9] 152)):=by kernel_rfl
theorem Aez (c:Array Value) (h:c.size=20):∃ a0 a1 a2 a3 a4 a5 a6 a7 a8 a9 b0 b1 b2 b3 b4 b5 b6 b7 b8 b9,c = #[a0,a1,a2,a3,a4,a5,a6,a7,a8,a9,b0,b1,b2,b3,b4,b5,b6,b7,b8,b9]:=by
 obtain⟨l⟩:=c;have h':l.length=20:=h
 match l,h' with
 | [a0,a1,a2,a3,a4,a5,a6,a7,a8,a9,b0,b1,b2,b3,b4,b5,b6,b7,b8,b9],_=>exact⟨a0,a1,a2,a3,a4,a5,a6,a7,a8,a9,b0,b1,b2,b3,b4,b5,b6,b7,b8,b9,rfl⟩
theorem Ze (c:Array Value) (h:c.size=20) (w:World):(Instr.buildSlice 154 1 #[(0,.agg c)]).run Tryz.prog w=.ok (.slice (some ⟨w.heap.size,0,none⟩) 1 1) (w.alloc (.cells c 152)):=by
 obtain⟨a0,a1,a2,a3,a4,a5,a6,a7,a8,a9,b0,b1,b2,b3,b4,b5,b6,b7,b8,b9,rfl⟩:=Aez c h;exact Abu _ _ _ _ _ _ _ _ _ _ _ _ _ _ _ _ _ _ _ _ w
theorem Pc {w:World}{g:Nat}{cs:List Value}{t:TypeId} (hb:w.heap[g]?=some (.cells cs.toArray t (0,0))):∀ j u,cs[j]?=some u→w.cell? ((⟨g,0,none⟩:Addr).add j)=some u:=fun j u hu=>by
 rw[Addr.add_mid,Nat.zero_add,Ab hb];simpa using hu
theorem Kj {ops:Array Oper}{o:Oper}{a:Act}{w:World}{K:Act→World→Prop}{Q:Exit→Act→World→Prop}{E:Prop} (hg:o.guard=none) (x:Operand) (hop:o.op=.buildSlice 154 1 #[(0,x)])
  (c:Array Value) (hc:c.size=20) (hx:a.eval x=.agg c) (h:K (a.put o.dst (.slice (some ⟨w.heap.size,0,none⟩) 1 1)) (w.alloc (.cells c 152))) :
  if Region.wanted o (yielded ops a.tmps)=true then Oper.wp Tryz.prog o a w K Q else E:=by
 have hw:Region.wanted o (yielded ops a.tmps)=true:=by simp[Region.wanted,hg]
 rw[if_pos hw];have hm:=Ze c hc w;unfold Oper.wp execOp;simp only[hop,List.map_toArray,List.map_cons,List.map_nil,hx,Sem.run_bind,hm,Result.andThen_ok,Sem.run_pure];exact h
theorem Mc.Rows.addW {k:Mc.K}{objs:List (Int × List Int)}{W:List Mc.Call}{out:List Int}{v:Mc.V}{w w':World} (h:Mc.Rows k objs W out v w) (ok:k.Ok) {cs:List Value} (hB:w.heap[k.B]?=some (.cells cs.toArray 156 (0,0))) {c:Mc.Call} (hc:Mc.Wf c) {wa:Option Addr}{wc:Nat}
  (ho:w'.ownsRow k.w0.heap.size 152 20 (.slice wa (W.length+1) wc) (W.length+1) (W.flatMap Mc.Call.cells++c.cells)) (hg:w.grownBy w' (Value.slice v.wa W.length v.wc).ownBlock) :
  Mc.Rows k objs (W++[c]) out ⟨v.oa,v.oc,wa,wc,v.xa,v.xc,v.ov⟩ w'∧w'.heap[k.B]?=w.heap[k.B]?:=by
 have hob:=h.wait;have hblk:∀ g,(Value.slice v.wa W.length v.wc).ownBlock=some g→∃ cs:List Value,w.heap[g]?=some (.cells cs.toArray 152 (0,0)):=fun g hgo=>by
  obtain⟨_,⟨hv,_⟩|⟨g',cap,cur,hv,_,hg,_⟩⟩:=hob
  ·rw[hv]at hgo;simp[Value.ownBlock]at hgo
  ·rw[hv]at hgo;simp only[Value.ownBlock,Option.some.injEq]at hgo;subst hgo;exact⟨cur.toList,by simpa using hg⟩
 have other:∀ {b e size n:Nat}{x:Value}{xs:List Value},w.ownsRow b e size x n xs→e≠152→w'.ownsRow b e size x n xs:=fun hr he=>Be hr (fun q hq=>hg.block q (hr.lt q hq).2 (fun e=>by
  obtain⟨cs,hc⟩:=hblk q e.symm;exact Az hr hc he q hq rfl))
 have hBs:=ok.Bs;have hbB:w'.heap[k.B]?=w.heap[k.B]?:=hg.block k.B (lt_of_block hB) (fun e=>Az hob hB (by decide) k.B e.symm rfl);refine⟨⟨other h.objs (by decide),h.ovl,h.obk,fun q hq=>other (h.flds q hq) (by decide),?_,fun x hx=>?_,other h.out (by decide),h.nd,fun q h1 h2 h3=>?_,?_,Nat.le_trans h.szs hg.size⟩,hbB⟩
 ·rw[List.length_append,List.length_singleton,List.flatMap_append]
  simpa using ho
 ·rcases List.mem_append.1 hx with hx|hx
  ·exact h.wwf x hx
  ·rw[List.mem_singleton.1 hx];exact hc
 ·rw[hg.block q (Nat.lt_of_lt_of_le h1 h.szs) (fun e=>by have:=(hob.lt q e.symm).1;omega)];exact h.keep q h1 h2 h3
 ·exact⟨hg.os.trans h.low.os,hg.tape.trans h.low.tape,hg.output.trans h.low.output,Nat.le_trans h.low.size hg.size,
   fun q hq=>(hg.block q (Nat.lt_of_lt_of_le hq h.low.size) (fun e=>by have:=(hob.lt q e.symm).1;have:=ok.sz;omega)).trans (h.low.block q hq)⟩
theorem Qg (k:Mc.K) (S:Mc.S) (v:Mc.V) (m:Int) (x:Value) (w:World) (ok:k.Ok) (h:Mc.At k S v w) (hx:∃ a n c,x=.slice a n c) (hw:S.wait.length≤1000) (hd:k.depth≤(S.wait.length:Int)+1) :
  Calls Tryz.prog 249 #[.pointer (some ⟨k.B,0,none⟩),.int .i64 m,x] w fun e w'=>e=.returned (.tuple #[])∧∃ v',Mc.At k (Mc.throwGiven k.E 6 S) v' w':=by
 obtain⟨xa,xn,xc,rfl⟩:=hx;have c32:=h.sees.c32;have c7:=h.sees.c7;have hT:∀ n,_:=fun n=>Bg k S v 6 _ ok (h.drewN ok n) (by omega) (by omega);have HT:=Ac hT;clear h hT;go_enter Tryz.func249,Tryz.ntmps249;go_wp2
 go_quiet (fail)
 go_wp2_with fail
 refine(Aa HT _).mono ?_;rintro e w1 ⟨rfl,v',h1⟩;go_wp2;refine bodyPost_ret (v:=.tuple #[]) (by simp[results,Tryz.results249,go_sem]) rfl ?_;exact⟨rfl,v',h1⟩
theorem P9 (k:Mc.K) (S:Mc.S) (v:Mc.V) (m:Int) (xa:Option Addr) (xc bb:Nat) (vs:List Int) (w:World) (ok:k.Ok) (h:Mc.At k S v w) (hx:IntsAt w bb (.slice xa vs.length xc) vs) (hvl:vs.length≤1000) (hxo:∀ j,(Value.slice xa vs.length xc).ownBlock=some j→j≠k.B∧(Value.slice v.wa S.wait.length v.wc).ownBlock≠some j) (hw:S.wait.length≤1000) (hd:¬ k.depth≤(S.wait.length:Int)+1) :
  Calls Tryz.prog 249 #[.pointer (some ⟨k.B,0,none⟩),.int .i64 m,.slice xa vs.length xc] w fun e w'=>e=.returned (.tuple #[])∧∃ v',Mc.At k (S.opened (Mc.newCall m vs)) v' w':=by
 have c32:=h.sees.c32;have c7:=h.sees.c7;obtain⟨i0,hi,hz0,hz1,hz2⟩:=info_parts Tryz.infoCall3;have hf:=h.wf;have hcl:S.now.cells.toArray.size=20:=by simp[hf.len]
 have h20:(Tryz.prog.info? 152).map (·.size)=some S.now.cells.length:=by rw[Tryz.infoCall];simp[hf.len]
 have hmk:=fun w=>Ze S.now.cells.toArray hcl w;have HA:Hid (∀ n,Mc.At k S v (w.drewN n)):=fun n=>h.drewN ok n;have HX:=Ac hx;have HXO:=Ac hxo;have hNC:=fun w hx=>Kh m xa xc vs bb w hvl hx;have HNC:=Ac hNC;clear h hx hxo hNC;go_enter Tryz.func249,Tryz.ntmps249;go_wp2
 go_quiet (fail)
 rename_i nq;have h1:=Aa HA nq;have hrg:(w.drewN nq).rangeAt k.B 12 S.now.cells:=h1.blk.range rfl;have c32':=h1.sees.c32;have hR1:=h1.rows.wait;have HX1:Hid (IntsAt (w.drewN nq) bb (.slice xa vs.length xc) vs):=Aa HX;have H1:=Ac h1;have hsz:=h1.rows.szs;have hBlt:=h1.blk.lt;clear HX HA h1 c32 c7;generalize w.drewN nq=wd at *;go_wp2;refine wp_region_held_drew (S:=(fun w'=>w'.rangeAt k.B 12 S.now.cells)) (by kernel_rfl) hrg (fun hHeld=>?_);refine wpAnyH_take (i:=0) (oi:=⟨_,_,_,_,_,_⟩) (v:=.pointer (some ⟨k.B,0,none⟩)) rfl (by kernel_rfl) (by kernel_rfl) (by kernel_rfl) (fun _ _ _ h=>h) (Or.inl ⟨by rfl,?_⟩) hHeld ?_
 ·intro w' hSw
  try dsimp only at hSw
  go_simp
 try simp only[QX]
 refine wpAnyH_take (i:=1) (oi:=⟨_,_,_,_,_,_⟩) (v:=.pointer (some ⟨k.B,0,none⟩)) rfl (by kernel_rfl) (by kernel_rfl) (by kernel_rfl) (fun _ _ _ h=>h) (Or.inl ⟨by rfl,?_⟩) hHeld ?_
 ·intro w' hSw
  try dsimp only at hSw
  go_simp
 try simp only[QX]
 refine wpAnyH_take (i:=2) (oi:=⟨_,_,_,_,_,_⟩) (v:=.pointer (some ⟨k.B,0,none⟩)) rfl (by kernel_rfl) (by kernel_rfl) (by kernel_rfl) (fun _ _ _ h=>h) (Or.inl ⟨by rfl,?_⟩) hHeld ?_
 ·intro w' hSw
  try dsimp only at hSw
  go_simp
 try simp only[QX]
 refine wpAnyH_take (i:=3) (oi:=⟨_,_,_,_,_,_⟩) (v:=.pointer (some ⟨k.B,32,none⟩)) rfl (by kernel_rfl) (by kernel_rfl) (by kernel_rfl) (fun _ _ _ h=>h) (Or.inl ⟨by rfl,?_⟩) hHeld ?_
 ·intro w' hSw
  try dsimp only at hSw
  go_simp
 try simp only[QX]
 refine wpAnyH_take (i:=5) (oi:=⟨_,_,_,_,_,_⟩) (v:=.pointer (some ⟨k.B,0,none⟩)) rfl (by kernel_rfl) (by kernel_rfl) (by kernel_rfl) (fun _ _ _ h=>h) (Or.inl ⟨by rfl,?_⟩) hHeld ?_
 ·intro w' hSw
  try dsimp only at hSw
  go_simp
 try simp only[QX]
 refine wpAnyH_take (i:=6) (oi:=⟨_,_,_,_,_,_⟩) (v:=.pointer (some ⟨k.B,0,none⟩)) rfl (by kernel_rfl) (by kernel_rfl) (by kernel_rfl) (fun _ _ _ h=>h) (Or.inl ⟨by rfl,?_⟩) hHeld ?_
 ·intro w' hSw
  try dsimp only at hSw
  go_simp
 try simp only[QX]
 refine wpAnyH_take (i:=7) (oi:=⟨_,_,_,_,_,_⟩) (v:=.pointer (some ⟨k.B,12,none⟩)) rfl (by kernel_rfl) (by kernel_rfl) (by kernel_rfl) (fun _ _ _ h=>h) (Or.inl ⟨by rfl,?_⟩) hHeld ?_
 ·intro w' hSw
  try dsimp only at hSw
  go_simp
 try simp only[QX]
 refine wpAnyH_take (i:=8) (oi:=⟨_,_,_,_,_,_⟩) (v:=.agg S.now.cells.toArray) rfl (by kernel_rfl) (by kernel_rfl) (by kernel_rfl) (fun _ _ _ h=>h) (yieldsIf_load_mid (by rfl) 152 (.tmp 27) (by rfl) k.B 12 (by rfl) S.now.cells _ (fun _ hS=>hS) Tryz.underlying152 (by rfl) h20) hHeld ?_
 try simp only[QX]
 refine wpAnyH_ready (rs:=[4,9]) (by kernel_rfl) (by simp) ?_;refine AllReadyH.cons (o:=⟨_,_,_,_,_,_⟩) rfl (fun K hK=>?_) (AllReadyH.cons (o:=⟨_,_,_,_,_,_⟩) rfl (fun K hK=>?_) AllReadyH.nil)
 ·go_simp
  clear hHeld;refine hK.out _ _ hrg (fun hHeld=>?_);clear hK K
  try simp only[QX]
  refine wpAnyH_ready (rs:=[9]) (by kernel_rfl) (by simp) ?_;refine AllReadyH.cons (o:=⟨_,_,_,_,_,_⟩) rfl (fun K hK=>?_) AllReadyH.nil;refine Kj (by rfl) _ (by rfl) S.now.cells.toArray hcl (by rfl) ?_;clear hHeld;refine hK.out _ _ (World.rangeAt_alloc hrg _) (fun hHeld=>?_);clear hK K
  try simp only[QX]
  refine wpAnyH_ready (rs:=[10]) (by kernel_rfl) (by simp) ?_;refine AllReadyH.cons (o:=⟨_,_,_,_,_,_⟩) rfl (fun K hK=>?_) AllReadyH.nil;refine Bv (by rfl) _ _ _ (by rfl) k.w0.heap.size 152 i0 _ 20 160 Tryz.underlying154 hi hz0 hz1 hz2 rfl (by omega) _ _ _ (by rfl) (Be hR1 (fun j hj=>Below.heap_alloc _ _ _ (hR1.lt j hj).2)) ⟨wd.heap.size,0,none⟩ 1 1 S.now.cells (by rfl) (by simp[hf.len]) (Pc (Ad wd.drew (.cells S.now.cells.toArray 152))) (Dt S.now) (by unfold maxLen;omega) (by omega) (by simp;omega) ?_;intro v' w2 hown2 hgrow hat;obtain⟨wa',wc',rfl⟩:=Ae hown2;have hbA:Below wd.heap.size wd (wd.drew.alloc (.cells S.now.cells.toArray 152)):=(Below.refl _ _).drew.alloc (Nat.le_refl _) _;have hA1:=(Aa H1).gr ok hbA;obtain⟨hRr,hBB⟩:=hA1.rows.addW ok hA1.blk hf hown2 hgrow;have hM:=(show Mid w2 k.B 156 _ _ _ from hBB.trans hA1.blk);have hrg2:w2.rangeAt k.B 12 S.now.cells:=hM.range rfl;have z0:=hM.tail.cell (o:=32) (j:=0) (by rw[List.length_append,Bj,hf.len]) (by rw[Cv];omega);have zf:=hM.free 32;have z0':w2.cell? ⟨k.B,32,none⟩=some (.slice v.wa S.wait.length v.wc):=z0;have hX2:IntsAt w2 bb (.slice xa vs.length xc) vs:=Be (Aa HX1) (fun j hj=>(hgrow.block j (by have:=((Aa HX1).lt j hj).2;simp;omega) (fun e=>(Aa HXO j hj).2 e.symm)).trans (Below.heap_alloc _ _ _ ((Aa HX1).lt j hj).2));have hA2:Mc.At k ⟨S.read,S.objs,S.now,S.wait++[S.now],S.ended,S.out,S.status,S.value,S.steps⟩ ⟨v.oa,v.oc,wa',wc',v.xa,v.xc,v.ov⟩ (w2.setCell ⟨k.B,32,none⟩ (.slice wa' (S.wait.length+1) wc')):=Gh (j:=0) hM (Bj _ _ _ _) (Cv _ _ _ _ _ _ _) hf ok (by omega) _ rfl rfl (by simp[Mc.post]) hRr;have hX3:IntsAt (w2.setCell ⟨k.B,32,none⟩ (.slice wa' (S.wait.length+1) wc')) bb (.slice xa vs.length xc) vs:=Be hX2 (fun j hj=>Below.heap_setCell _ _ _ _ (by simpa using (Aa HXO j hj).1));have HA2:=Ac hA2;have HX3:=Ac hX3;have hrg3:(w2.setCell ⟨k.B,32,none⟩ (.slice wa' (S.wait.length+1) wc')).rangeAt k.B 12 S.now.cells:=hA2.blk.range rfl;clear hown2 hgrow hat hbA hA1 hRr hBB hM z0 hX2 hA2 hX3 hHeld;refine hK.out _ _ hrg2 (fun hHeld=>?_);clear hK K
  try simp only[QX]
  refine wpAnyH_take (i:=11) (oi:=⟨_,_,_,_,_,_⟩) (v:=.pointer (some ⟨k.B,0,none⟩)) rfl (by kernel_rfl) (by kernel_rfl) (by kernel_rfl) (fun _ _ _ h=>h) (Or.inl ⟨by rfl,?_⟩) hHeld ?_
  ·intro w' hSw
   try dsimp only at hSw
   go_simp
  try simp only[QX]
  refine wpAnyH_take (i:=12) (oi:=⟨_,_,_,_,_,_⟩) (v:=.pointer (some ⟨k.B,32,none⟩)) rfl (by kernel_rfl) (by kernel_rfl) (by kernel_rfl) (fun _ _ _ h=>h) (Or.inl ⟨by rfl,?_⟩) hHeld ?_
  ·intro w' hSw
   try dsimp only at hSw
   go_simp
  try simp only[QX]
  refine wpAnyH_ready (rs:=[13]) (by kernel_rfl) (by simp) ?_;refine AllReadyH.cons (o:=⟨_,_,_,_,_,_⟩) rfl (fun K hK=>?_) AllReadyH.nil
  go_simp
  clear hHeld;refine hK.out _ _ hrg3 (fun hHeld=>?_);clear hK K
  try simp only[QX]
  refine wpAnyH_done (by kernel_rfl) ?_ _;clear hrg hrg2 hrg3 c32' hR1 H1 HX1;generalize hW3:w2.setCell ⟨k.B,32,none⟩ (.slice wa' (S.wait.length+1) wc')=w3 at *;clear hW3;go_wp2_with fail
  refine(Aa HNC _ (Aa HX3)).mono ?_;rintro e w4 ⟨rfl,hb4⟩;have hA4:=(Aa HA2).gr ok hb4;have hnf:=Gj m vs;have hth:w4.there k.B 12 (Mc.newCall m vs).cells.toArray.size:=hA4.blk.there (o:=12) rfl (by rw[hA4.wf.len];simp[hnf.len]);have hn20:(Tryz.prog.info? 152).map (·.size)=some (Mc.newCall m vs).cells.toArray.size:=by rw[Tryz.infoCall];simp[hnf.len]
  have hall:=all_oneCell_toArray (Dt (Mc.newCall m vs));have hMn:=Es (Mc.newCall m vs).cells _ _ _ w4 (by rw[hA4.wf.len,hnf.len]) hA4.blk;rw[Bj]at hMn;have hAn:=hA4.now ok (Fv k.B (Mc.newCall m vs).cells 12 w4) hnf hMn;have HAN:=Ac hAn;clear hAn hMn hA4 HA2 HX3 HNC;go_wp2_with (refine wpList_store_mid (by rfl) 152 (.tmp 38) (.tmp 36) (by rfl) k.B 12 (Mc.newCall m vs).cells.toArray (by rfl) (by rfl) hth hn20 hall ?_)
  go_end0
  exact⟨rfl,_,Aa HAN⟩
 ·refine Kj (by rfl) _ (by rfl) S.now.cells.toArray hcl (by rfl) ?_;clear hHeld;refine hK.out _ _ (World.rangeAt_alloc hrg _) (fun hHeld=>?_);clear hK K
  try simp only[QX]
  refine wpAnyH_ready (rs:=[4]) (by kernel_rfl) (by simp) ?_;refine AllReadyH.cons (o:=⟨_,_,_,_,_,_⟩) rfl (fun K hK=>?_) AllReadyH.nil
  go_simp
  clear hHeld;refine hK.out _ _ (World.rangeAt_alloc hrg _) (fun hHeld=>?_);clear hK K
  try simp only[QX]
  refine wpAnyH_ready (rs:=[10]) (by kernel_rfl) (by simp) ?_;refine AllReadyH.cons (o:=⟨_,_,_,_,_,_⟩) rfl (fun K hK=>?_) AllReadyH.nil;refine Bv (by rfl) _ _ _ (by rfl) k.w0.heap.size 152 i0 _ 20 160 Tryz.underlying154 hi hz0 hz1 hz2 rfl (by omega) _ _ _ (by rfl) (Be hR1 (fun j hj=>Below.heap_alloc _ _ _ (hR1.lt j hj).2)) ⟨wd.heap.size,0,none⟩ 1 1 S.now.cells (by rfl) (by simp[hf.len]) (Pc (Ad wd.drew (.cells S.now.cells.toArray 152))) (Dt S.now) (by unfold maxLen;omega) (by omega) (by simp;omega) ?_;intro v' w2 hown2 hgrow hat;obtain⟨wa',wc',rfl⟩:=Ae hown2;have hbA:Below wd.heap.size wd (wd.drew.alloc (.cells S.now.cells.toArray 152)):=(Below.refl _ _).drew.alloc (Nat.le_refl _) _;have hA1:=(Aa H1).gr ok hbA;obtain⟨hRr,hBB⟩:=hA1.rows.addW ok hA1.blk hf hown2 hgrow;have hM:=(show Mid w2 k.B 156 _ _ _ from hBB.trans hA1.blk);have hrg2:w2.rangeAt k.B 12 S.now.cells:=hM.range rfl;have z0:=hM.tail.cell (o:=32) (j:=0) (by rw[List.length_append,Bj,hf.len]) (by rw[Cv];omega);have zf:=hM.free 32;have z0':w2.cell? ⟨k.B,32,none⟩=some (.slice v.wa S.wait.length v.wc):=z0;have hX2:IntsAt w2 bb (.slice xa vs.length xc) vs:=Be (Aa HX1) (fun j hj=>(hgrow.block j (by have:=((Aa HX1).lt j hj).2;simp;omega) (fun e=>(Aa HXO j hj).2 e.symm)).trans (Below.heap_alloc _ _ _ ((Aa HX1).lt j hj).2));have hA2:Mc.At k ⟨S.read,S.objs,S.now,S.wait++[S.now],S.ended,S.out,S.status,S.value,S.steps⟩ ⟨v.oa,v.oc,wa',wc',v.xa,v.xc,v.ov⟩ (w2.setCell ⟨k.B,32,none⟩ (.slice wa' (S.wait.length+1) wc')):=Gh (j:=0) hM (Bj _ _ _ _) (Cv _ _ _ _ _ _ _) hf ok (by omega) _ rfl rfl (by simp[Mc.post]) hRr;have hX3:IntsAt (w2.setCell ⟨k.B,32,none⟩ (.slice wa' (S.wait.length+1) wc')) bb (.slice xa vs.length xc) vs:=Be hX2 (fun j hj=>Below.heap_setCell _ _ _ _ (by simpa using (Aa HXO j hj).1));have HA2:=Ac hA2;have HX3:=Ac hX3;have hrg3:(w2.setCell ⟨k.B,32,none⟩ (.slice wa' (S.wait.length+1) wc')).rangeAt k.B 12 S.now.cells:=hA2.blk.range rfl;clear hown2 hgrow hat hbA hA1 hRr hBB hM z0 hX2 hA2 hX3 hHeld;refine hK.out _ _ hrg2 (fun hHeld=>?_);clear hK K
  try simp only[QX]
  refine wpAnyH_take (i:=11) (oi:=⟨_,_,_,_,_,_⟩) (v:=.pointer (some ⟨k.B,0,none⟩)) rfl (by kernel_rfl) (by kernel_rfl) (by kernel_rfl) (fun _ _ _ h=>h) (Or.inl ⟨by rfl,?_⟩) hHeld ?_
  ·intro w' hSw
   try dsimp only at hSw
   go_simp
  try simp only[QX]
  refine wpAnyH_take (i:=12) (oi:=⟨_,_,_,_,_,_⟩) (v:=.pointer (some ⟨k.B,32,none⟩)) rfl (by kernel_rfl) (by kernel_rfl) (by kernel_rfl) (fun _ _ _ h=>h) (Or.inl ⟨by rfl,?_⟩) hHeld ?_
  ·intro w' hSw
   try dsimp only at hSw
   go_simp
  try simp only[QX]
  refine wpAnyH_ready (rs:=[13]) (by kernel_rfl) (by simp) ?_;refine AllReadyH.cons (o:=⟨_,_,_,_,_,_⟩) rfl (fun K hK=>?_) AllReadyH.nil
  go_simp
  clear hHeld;refine hK.out _ _ hrg3 (fun hHeld=>?_);clear hK K
  try simp only[QX]
  refine wpAnyH_done (by kernel_rfl) ?_ _;clear hrg hrg2 hrg3 c32' hR1 H1 HX1;generalize hW3:w2.setCell ⟨k.B,32,none⟩ (.slice wa' (S.wait.length+1) wc')=w3 at *;clear hW3;go_wp2_with fail
  refine(Aa HNC _ (Aa HX3)).mono ?_;rintro e w4 ⟨rfl,hb4⟩;have hA4:=(Aa HA2).gr ok hb4;have hnf:=Gj m vs;have hth:w4.there k.B 12 (Mc.newCall m vs).cells.toArray.size:=hA4.blk.there (o:=12) rfl (by rw[hA4.wf.len];simp[hnf.len]);have hn20:(Tryz.prog.info? 152).map (·.size)=some (Mc.newCall m vs).cells.toArray.size:=by rw[Tryz.infoCall];simp[hnf.len]
  have hall:=all_oneCell_toArray (Dt (Mc.newCall m vs));have hMn:=Es (Mc.newCall m vs).cells _ _ _ w4 (by rw[hA4.wf.len,hnf.len]) hA4.blk;rw[Bj]at hMn;have hAn:=hA4.now ok (Fv k.B (Mc.newCall m vs).cells 12 w4) hnf hMn;have HAN:=Ac hAn;clear hAn hMn hA4 HA2 HX3 HNC;go_wp2_with (refine wpList_store_mid (by rfl) 152 (.tmp 38) (.tmp 36) (by rfl) k.B 12 (Mc.newCall m vs).cells.toArray (by rfl) (by rfl) hth hn20 hall ?_)
  go_end0
  exact⟨rfl,_,Aa HAN⟩
theorem Mc.K.Ok.pm {k:Mc.K} (ok:k.Ok) (n:Int):(k.E.meth n).params.length≤10:=by
 unfold Mc.E.meth
 split
 ·simp[Mc.noMeth]
 ·split
  ·simp[Mc.noMeth]
  ·rename_i h0 h1;have hl:k.E.ms.length=k.lms.length:=by simp[Mc.K.E]
   have hi:n.toNat<k.lms.length:=by omega
   have e:k.E.ms.getD n.toNat Mc.noMeth=k.lms[n.toNat].1:=by
    rw[List.getD_eq_getElem?_getD];simp[Mc.K.E,hi]
   rw[e];exact ok.ps _ (List.getElem_mem hi)
theorem Pq (k:Mc.K) (S:Mc.S) (v:Mc.V) (m:Int) (xa:Option Addr) (xc:Nat) (vs:List Int) (w:World) (ok:k.Ok) (h:Mc.At k S v w) (hx:IntsAt w k.w0.heap.size (.slice xa vs.length xc) vs) (hvl:vs.length≤1000) (hw:S.wait.length≤1000) :
  Calls Tryz.prog 249 #[.pointer (some ⟨k.B,0,none⟩),.int .i64 m,.slice xa vs.length xc] w fun e w'=>e=.returned (.tuple #[])∧∃ v',Mc.At k (Mc.openCall k.E m vs S) v' w':=by
 unfold Mc.openCall;have eD:k.E.depth=k.depth:=rfl;rw[eD];by_cases hd:k.depth≤(S.wait.length:Int)+1
 ·rw[if_pos hd];exact Qg k S v m _ w ok h ⟨_,_,_,rfl⟩ hw hd
 ·rw[if_neg hd];refine P9 k S v m xa xc _ vs w ok h hx hvl (fun j hj=>⟨Az hx h.blk (by decide) j hj,fun hc=>?_⟩) hw hd;obtain⟨_,⟨hv,_⟩ | ⟨g',cap,cur,hv,_,hg,_⟩⟩:=h.rows.wait
  ·rw[hv]at hc;simp[Value.ownBlock]at hc
  ·rw[hv]at hc;simp only[Value.ownBlock,Option.some.injEq]at hc;subst hc;have hg':w.heap[g']?=some (.cells cur.toList.toArray 152 (0,0)):=by simpa using hg
   exact Az hx hg' (by decide) g' hj rfl
theorem Xu (k:Mc.K) (S:Mc.S) (v:Mc.V) (n:Int) (w:World) (ok:k.Ok) (h:Mc.At k S v w) (hw:S.wait.length≤1000) :
  Calls Tryz.prog 192 #[.pointer (some ⟨k.B,0,none⟩),.int .i64 n] w fun e w'=>e=.returned (.tuple #[])∧∃ v',Mc.At k (Mc.call k.E n S) v' w':=by
 have hm:=Ec k S v n w ok h;have hpl:=ok.pm n;unfold Mc.call;generalize k.E.meth n=M at *;have HO:Hid (∀ w xa xc,Mc.At k (Mc.popsS M.params.length S) v w→IntsAt w k.w0.heap.size (.slice xa M.params.length xc) (Mc.popsV M.params.length S)→Calls Tryz.prog 249 #[.pointer (some ⟨k.B,0,none⟩),.int .i64 n,.slice xa M.params.length xc] w fun e w'=>e=.returned (.tuple #[])∧∃ v',Mc.At k (Mc.openCall k.E n (Mc.popsV M.params.length S) (Mc.popsS M.params.length S)) v' w'):=by
  intro w xa xc h hx;have hl:(Mc.popsV M.params.length S).length=M.params.length:=Hg _ _;have:=Pq k (Mc.popsS M.params.length S) v n xa xc (Mc.popsV M.params.length S) w ok h (by rw[hl];exact hx) (by omega) hw;rw[hl]at this;exact this
 have HPA:Hid (∀ w la lc,Mc.At k S v w→Calls Tryz.prog 248 #[.pointer (some ⟨k.B,12,none⟩),.slice la M.params.length lc] w fun e w'=>e=.returned (.slice (some ⟨w.heap.size,0,none⟩) M.params.length M.params.length)∧Mc.Fresh k S v w' w.heap.size M.params.length (Mc.popsV M.params.length S)∧Mc.At k (Mc.popsS M.params.length S) v w'∧Gr k.B w w'):=by
  intro w la lc h;exact Jf k S v la M.params.length lc w ok h (by omega)
 have HA:=Ac h;have HM:=Ac hm;have hlt:=h.blk.lt;clear h hm;go_enter Tryz.func192,Tryz.ntmps192;go_wp2_with fail
 refine(Aa HM).mono ?_;rintro e w1 ⟨m,rfl,hM,hb1⟩;have h1:=(Aa HA).gr ok hb1;have hpl1:=hM.pl;obtain⟨m1,m2,m3,m4,m5,m6,m7,m8,m9,ma,mb,mc,md,me,mf,mg,mh,mi⟩:=m;simp only at hpl1;subst hpl1;simp only[PM.val];have h2:=h1.gr ok (QN (O12 m1 m2 m3 M.params.length m5 m6 m7 m8 m9 ma mb mc md me mf mg mh mi));have CQ:=Ad w1 (O12 m1 m2 m3 M.params.length m5 m6 m7 m8 m9 ma mb mc md me mf mg mh mi);have hQB:w1.heap.size≠k.B:=by have:=h1.blk.lt;omega
 have q2:=(Ab CQ 2).trans (show _=some (.slice m3 M.params.length m5) from rfl);have H2:=Ac h2;clear HM hM hb1 h1 h2 HA;go_wp2;generalize w1.alloc (O12 m1 m2 m3 M.params.length m5 m6 m7 m8 m9 ma mb mc md me mf mg mh mi)=wA at *
 go_region_held3 (fun w'=>w'.cell? ⟨w1.heap.size,2,none⟩=some (.slice m3 M.params.length m5))
  (first | exact q2 | exact(Ab (hg7.own (show wA.drew.heap[_]?=_ from CQ) hQB) 2).trans rfl)
  (first | (go_at_call 248;refine(Aa HPA _ _ _ ((Aa H2).drew ok)).mono ?_;rintro e w7 ⟨rfl,hF7,hA7,hg7⟩))
 clear q2 CQ;go_wp2_with fail
 refine(Aa HO _ _ _ hA7 hF7.ints).mono ?_;rintro e w8 ⟨rfl,v',h8⟩;go_wp2
 go_end0
 exact⟨rfl,v',h8⟩
end Go.Proofs.YtpcgnjolfahacaaGreat
