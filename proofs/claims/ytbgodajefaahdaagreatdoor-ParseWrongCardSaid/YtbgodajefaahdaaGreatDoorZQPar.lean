/-
  Parts of this proof: The map of the links that were met. The contract of the closure of checkLinks.
-/
import Derived.Test.YtbgodajefaahdaaGreatDoorZQScp
import Derived.DeepKeys4
import Derived.Test.YtbgodajefaahdaaGreatDoorZQFnd
set_option linter.unusedVariables false
open Go.Lib (hid)
namespace Go.Proofs.YtbgodajefaahdaaGreatDoor.Md
open Go.RowKit Go.Maps
open Go.Proofs.YtbgodajefaahdaaGreatDoor.Na (bs bs_len)
set_option maxHeartbeats 2000000
set_option maxRecDepth 100000
theorem laidOutP:laidOutB Tryz.prog=true:=by kernel_rfl
theorem rowP:(157:TypeId)<Tryz.prog.types.size:=of_decide_eq_true (by kernel_rfl)
theorem wideP:(match Tryz.prog.underlying 157 with|some (.array _ _)|some (.struct _)=>true|_=>false)=true:=by rw[Tryz.underlying157]
theorem lawK:Keyed Tryz.prog 157:=Keyed.of_law (deep_law_laid laidOutP (m:=2) (by omega) rowP (by kernel_rfl) wideP)
theorem ktP:Tryz.prog.keyType 157=true:=by kernel_rfl
theorem tsP:∃n,Tryz.prog.types.size+1=n+1+1:=⟨Tryz.prog.types.size-1,by have h:(157:Nat)<Tryz.prog.types.size:=rowP;omega⟩
theorem cosP:Tryz.prog.cellsOf 9=1:=by kernel_rfl
theorem coP:Tryz.prog.cellsOf 157=2:=by kernel_rfl
def keyP (p:List UInt8×List UInt8):Lit:=.string (keyBytes [.string p.1,.string p.2])
theorem key_pair {a b:ByteArray} (ha:a.size<=1000000000) (hb:b.size<=1000000000):keyOf Tryz.prog 157 (.agg #[.string a,.string b])=some (keyP (bs a,bs b)):=by
 obtain⟨n,hn⟩:=tsP;have hf:(Value.agg #[.string a,.string b]).formed Tryz.prog 157=true:=by
  simp[Value.formed,Tryz.underlying157,coP]
 unfold keyOf;rw[Tryz.underlying157,ktP,hf,hn];have h1:a.size<=maxLen:=by unfold maxLen;omega
 have h2:b.size<=maxLen:=by unfold maxLen;omega
 simp[Program.keyLits,Tryz.underlying157,Tryz.underlying9,coP,cosP,Value.cells,List.range_succ,h1,h2]
 rfl
theorem keyP_lit (p:List UInt8×List UInt8):WideAt.IsKeyLit (keyP p):=by unfold keyP;simp[WideAt.IsKeyLit]
def Shr (p:List UInt8×List UInt8):Prop:=p.1.length<=1000000000/\p.2.length<=1000000000
theorem keyP_inj {p q:List UInt8×List UInt8} (hp:Shr p) (hq:Shr q) (h:keyP p=keyP q):p=q:=by
 have e:∀l:List UInt8,bs ⟨l.toArray⟩=l:=fun l=>by unfold bs;simp
 have k1:=key_pair (a:=⟨p.1.toArray⟩) (b:=⟨p.2.toArray⟩) (by have:=hp.1;show p.1.toArray.size<=_;simpa using this) (by have:=hp.2;show p.2.toArray.size<=_;simpa using this);have k2:=key_pair (a:=⟨q.1.toArray⟩) (b:=⟨q.2.toArray⟩) (by have:=hq.1;show q.1.toArray.size<=_;simpa using this) (by have:=hq.2;show q.2.toArray.size<=_;simpa using this);rw[e,e] at k1 k2;have h3:=lawK.inj k1 (by rw[k2];show some (keyP q)=some (keyP p);rw[h]);injection h3 with h3;have h4:=congrArg Array.toList h3;simp only[List.cons.injEq,and_true] at h4;obtain⟨h5,h6⟩:=h4;injection h5 with h5;injection h6 with h6;have g1:=congrArg bs h5;have g2:=congrArg bs h6;rw[e,e] at g1 g2;exact Prod.ext g1 g2
def Pcp (b:Nat) (acc:List (List UInt8×List UInt8)) (w:World):Prop:=w.ownsMap Tryz.prog 157 (plainElem Tryz.prog 4) b acc.length (Da (acc.map keyP))/\∀p∈acc,Shr p
theorem Pcp.on {b:Nat} {acc:List (List UInt8×List UInt8)} {w w2:World} (h:Pcp b acc w) (hb:Below w.heap.size w w2):Pcp b acc w2:=⟨own_kept h.1 hb,h.2⟩
theorem Pcp.lt {b:Nat} {acc:List (List UInt8×List UInt8)} {w:World} (h:Pcp b acc w):b<w.heap.size:=World.ownsMap.lt h.1
theorem keysP_lit (acc:List (List UInt8×List UInt8)):∀k∈acc.map keyP,WideAt.IsKeyLit k:=fun k hk=>by obtain⟨y,-,rfl⟩:=List.mem_map.1 hk;exact keyP_lit y
theorem mem_keyP {p:List UInt8×List UInt8} {acc:List (List UInt8×List UInt8)} (hp:Shr p) (ha:∀q∈acc,Shr q):keyP p∈acc.map keyP↔p∈acc:=by
 rw[List.mem_map];constructor
 · rintro⟨y,hy,e⟩;rw[← keyP_inj (ha y hy) hp e];exact hy
 · intro h;exact⟨p,h,rfl⟩
theorem look_pair {w:World} {b:Nat} {acc:List (List UInt8×List UInt8)} {x y:ByteArray} (h:Pcp b acc w) (hx:x.size<=1000000000) (hy:y.size<=1000000000) :
 (Instr.lookup 155 (.map (some b)) (.agg #[.string x,.string y]) false).run Tryz.prog w=.ok (.bool (decide ((bs x,bs y)∈acc))) w:=by
 obtain⟨v,ps,hrun,hv⟩:=World.ownsMap.lookup (t:=155) h.1 lawK Tryz.underlying155 (zero_bool w) (plainElem_bool Tryz.underlying4 false) (key_pair hx hy);obtain⟨c,rfl,hc⟩:=plain_bool hv;simp only[Prod.mk.injEq] at hc;have:=Da_look (keysP_lit acc) hc.1;rw[mem_keyP ⟨by rw[bs_len];exact hx,by rw[bs_len];exact hy⟩ h.2] at this;rw[hrun];by_cases g:(bs x,bs y)∈acc
 · rw[decide_eq_true g,this.2 g]
 · rw[decide_eq_false g]
   cases c with
   | true=>exact absurd (this.1 rfl) g
   | false=>rfl
end Go.Proofs.YtbgodajefaahdaaGreatDoor.Md
namespace Go.Proofs.YtbgodajefaahdaaGreatDoor.Md
open Go.RowKit Go.Maps
open Go.Proofs.YtbgodajefaahdaaGreatDoor.Na (bs bs_len)
open Go.Proofs.YtbgodajefaahdaaGreatDoor.Ex (Lo Gives block_lt)
attribute [local go_sem] cLnk0 cLnk1 cLnk2
set_option maxHeartbeats 4000000
def StepP (b:Nat) (r:Int×List (List UInt8×List UInt8)) (w:World) (e:Ending) (w':World):Prop:=e=.returned (.int .i64 r.1)/\Pcp b r.2 w'/\But b w w'
theorem lnk5 {si:List Ste} {l:Lnk} {acc:List (List UInt8×List UInt8)} (h:siteI si l.fr<0∨siteI si l.tt<0):stepK si acc l=(5,acc):=by unfold stepK lnkT;rw[if_pos h];rfl
theorem lnk1 {si:List Ste} {l:Lnk} {acc:List (List UInt8×List UInt8)} (h:¬(siteI si l.fr<0∨siteI si l.tt<0)) (h1:l.fr=l.tt):stepK si acc l=(1,acc):=by unfold stepK lnkT;rw[if_neg h,if_pos h1];rfl
theorem lnk2 {si:List Ste} {l:Lnk} {acc:List (List UInt8×List UInt8)} (h:¬(siteI si l.fr<0∨siteI si l.tt<0)) (h1:¬l.fr=l.tt) (h2:btw 1 l.de 1000000000=false):stepK si acc l=(2,acc):=by unfold stepK lnkT;rw[if_neg h,if_neg h1,h2];rfl
theorem lnk4 {si:List Ste} {l:Lnk} {acc:List (List UInt8×List UInt8)} (h:¬(siteI si l.fr<0∨siteI si l.tt<0)) (h1:¬l.fr=l.tt) (h2:btw 1 l.de 1000000000=true) (h3:lnkK l∈acc):stepK si acc l=(4,acc):=by unfold stepK lnkT;rw[if_neg h,if_neg h1,h2];simp[h3]
theorem lnk0 {si:List Ste} {l:Lnk} {acc:List (List UInt8×List UInt8)} (h:¬(siteI si l.fr<0∨siteI si l.tt<0)) (h1:¬l.fr=l.tt) (h2:btw 1 l.de 1000000000=true) (h3:¬lnkK l∈acc):stepK si acc l=(0,acc++[lnkK l]):=by unfold stepK lnkT;rw[if_neg h,if_neg h1,h2];simp[h3]
theorem zFH_1 {p:Prop} (h:p:=by
 go_wp2_with fail;go_ret;exact⟨rfl,HS.out.on bl,But.of bl⟩
 ):p:=h
theorem zFH_0 {p:Prop} (h:p:=by
 go_enter Tryz.func76,Tryz.ntmps76;go_wp2_with fail;refine(S1.out _ bl).mono ?_;rintro e v1 ⟨rfl,hb1⟩;obtain⟨q1,q2,q3,q4,q5,q6,q7⟩:=FY.out v1 bl;go_wp2_with fail;clear q1 q2 q3 q4 q5 q6 q7;refine(S2.out _ bl).mono ?_;rintro e v2 ⟨rfl,hb2⟩;obtain⟨q1,q2,q3,q4,q5,q6,q7⟩:=FY.out v2 bl;exact zFH_1
 ):p:=h
set_option maxRecDepth 100000 in
theorem clo_Lnk (x:Lnk) (M:Mdl) (PM:PMdl) (b B1 B2:Nat) (acc:List (List UInt8×List UInt8)) (w:World) (hS:Pcp b acc w) (hn:acc.length<=100000) (hx1:x.fr.size<=1000000000) (hx2:x.tt.size<=1000000000)
 (hv:w.cell? ⟨B1,0,none⟩=some (.map (some b))) (hB2:Box w B2 27 (cMdl M PM)) (hsi:Rw 13 RSte (Lo w.heap.size) w M.si PM.sip PM.sim) :
 Calls Tryz.prog 76 #[.agg (cLnk x),.pointer (some ⟨B2,0,none⟩),.pointer (some ⟨B1,0,none⟩)] w (StepP b (stepK M.si acc x) w):=by
 have HS:=hid hS;have HV:=hid hv;have HB:=hid hB2;have HI:=hid hsi;have FX:=far2 (w:=w) 73 157 (cLnk x) #[.string x.fr,.string x.tt];obtain⟨n4,hn4⟩:∃n:Nat,4=n:=⟨_,rfl⟩
 have hsz4:∀w,(sizeOf 27).run Tryz.prog w=.ok n4 w:=fun w=>by rw[Tryz.sizeOf27,hn4]
 have HN4:=hid hn4;have FY:Hid (∀W,Below ((w.alloc (.cells (cLnk x) 73)).alloc (.cells #[.string x.fr,.string x.tt] 157)).heap.size ((w.alloc (.cells (cLnk x) 73)).alloc (.cells #[.string x.fr,.string x.tt] 157)) W->W.cell? ⟨w.heap.size,0,none⟩=some (.string x.fr)/\W.cell? ⟨w.heap.size,1,none⟩=some (.string x.tt)/\W.cell? ⟨w.heap.size,2,none⟩=some (.int .i64 x.de)/\W.cell? ⟨w.heap.size+1,0,none⟩=some (.string x.fr)/\W.cell? ⟨w.heap.size+1,1,none⟩=some (.string x.tt)/\W.cell? ⟨B1,0,none⟩=some (.map (some b))/\(loadCellsFrom ⟨B2,0,none⟩ 0 n4 #[]).run Tryz.prog W=.ok (cMdl M PM) W):=hid fun W hb=>by
  have q:=FX.out W hb;have hW:Below w.heap.size w W:=bl;exact⟨q.1.get (cLnk0 x),q.1.get (cLnk1 x),q.1.get (cLnk2 x),q.2.get rfl,q.2.get rfl,(hW.cell (p:=⟨B1,0,none⟩) (block_lt HV.out)).trans HV.out,(HB.out.on hW).cell.ldN HN4.out⟩
 have ld:=(HB.out.on (show Below w.heap.size w ((w.alloc (.cells (cLnk x) 73)).alloc (.cells #[.string x.fr,.string x.tt] 157)) by exact bl)).cell.ldN HN4.out;obtain⟨i1,h1⟩:∃v,siteI M.si x.fr=v:=⟨_,rfl⟩
 obtain⟨i2,h2⟩:∃v,siteI M.si x.tt=v:=⟨_,rfl⟩
 obtain⟨r,hr⟩:∃v,btw 1 x.de 1000000000=v:=⟨_,rfl⟩
 have S1:=hid (fun W (hW:Below w.heap.size w W)=>(show Calls Tryz.prog 77 #[.agg (cMdl M PM),.string x.fr] W (Gives (.int .i64 i1) W) by rw[← h1];exact site_any M PM x.fr W (HI.out.on RSte.map hW)));have S2:=hid (fun W (hW:Below w.heap.size w W)=>(show Calls Tryz.prog 77 #[.agg (cMdl M PM),.string x.tt] W (Gives (.int .i64 i2) W) by rw[← h2];exact site_any M PM x.tt W (HI.out.on RSte.map hW)));have CB:=hid (fun W=>between_gives hr W);by_cases g1:i1<0
 · rw[lnk5 (.inl (by rw[h1];exact g1))];have d1:=decide_eq_true g1;clear hS hv hB2 hsi hn4 h1 h2 hr;go_enter Tryz.func76,Tryz.ntmps76;go_wp2_with fail;refine(S1.out _ bl).mono ?_;rintro e v1 ⟨rfl,hb1⟩;exact zFH_1
 have d1:=decide_eq_false g1;by_cases g2:i2<0
 · rw[lnk5 (.inr (by rw[h2];exact g2))];have d2:=decide_eq_true g2;clear hS hv hB2 hsi hn4 h1 h2 hr;exact zFH_0
 have d2:=decide_eq_false g2;have h0:¬(siteI M.si x.fr<0∨siteI M.si x.tt<0):=by rw[h1,h2];omega
 by_cases g3:x.fr=x.tt
 · rw[lnk1 h0 g3];have u3:(x.fr.toList==x.tt.toList)=true:=by rw[tx_eq];exact decide_eq_true g3
   clear hS hv hB2 hsi hn4 h1 h2 hr h0 g3;exact zFH_0
 have u3:(x.fr.toList==x.tt.toList)=false:=by rw[tx_eq];exact decide_eq_false g3
 cases r with
 | false=>
  rw[lnk2 h0 g3 hr];clear hS hv hB2 hsi hn4 h1 h2 hr h0 g3;go_enter Tryz.func76,Tryz.ntmps76;go_wp2_with fail;refine(S1.out _ bl).mono ?_;rintro e v1 ⟨rfl,hb1⟩;obtain⟨q1,q2,q3,q4,q5,q6,q7⟩:=FY.out v1 bl;go_wp2_with fail;clear q1 q2 q3 q4 q5 q6 q7;refine(S2.out _ bl).mono ?_;rintro e v2 ⟨rfl,hb2⟩;obtain⟨q1,q2,q3,q4,q5,q6,q7⟩:=FY.out v2 bl;go_wp2_with fail;refine(CB.out _).mono ?_;rintro e v3 ⟨rfl,rfl⟩;exact zFH_1
 | true=>
  have hl:=fun W (hW:Pcp b acc W)=>look_pair hW hx1 hx2;by_cases g4:(bs x.fr,bs x.tt)∈acc
  · rw[lnk4 h0 g3 hr g4];rw[decide_eq_true g4] at hl;have HLK:=hid hl;clear hS hv hB2 hsi hn4 h1 h2 hr h0 g3 g4 hl;go_enter Tryz.func76,Tryz.ntmps76;go_wp2_with fail;refine(S1.out _ bl).mono ?_;rintro e v1 ⟨rfl,hb1⟩;obtain⟨q1,q2,q3,q4,q5,q6,q7⟩:=FY.out v1 bl;go_wp2_with fail;clear q1 q2 q3 q4 q5 q6 q7;refine(S2.out _ bl).mono ?_;rintro e v2 ⟨rfl,hb2⟩;obtain⟨q1,q2,q3,q4,q5,q6,q7⟩:=FY.out v2 bl;have hl:=HLK.out v2 (HS.out.on bl);go_wp2_with fail;refine(CB.out _).mono ?_;rintro e v3 ⟨rfl,rfl⟩;exact zFH_1
  · rw[lnk0 h0 g3 hr g4];rw[decide_eq_false g4] at hl;have HLK:=hid hl;have hkey:=key_pair hx1 hx2;have HSH:Hid (Shr (lnkK x)):=hid ⟨by show(bs x.fr).length<=_;rw[bs_len];exact hx1,by show(bs x.tt).length<=_;rw[bs_len];exact hx2⟩;clear hS hv hB2 hsi hn4 h1 h2 hr h0 g3 g4 hl;go_enter Tryz.func76,Tryz.ntmps76;go_wp2_with fail;refine(S1.out _ bl).mono ?_;rintro e v1 ⟨rfl,hb1⟩;obtain⟨q1,q2,q3,q4,q5,q6,q7⟩:=FY.out v1 bl;go_wp2_with fail;clear q1 q2 q3 q4 q5 q6 q7;refine(S2.out _ bl).mono ?_;rintro e v2 ⟨rfl,hb2⟩;obtain⟨q1,q2,q3,q4,q5,q6,q7⟩:=FY.out v2 bl;have HS2:=hid (HS.out.on (show Below w.heap.size w v2 by exact bl));have hl:=HLK.out v2 HS2.out;have HB2:Hid (Below w.heap.size w v2):=hid bl;go_wp2_with fail;refine(CB.out _).mono ?_;rintro e v3 ⟨rfl,rfl⟩;go_wp2_with (at_mapUpdate;refine wpList_mapUpdate_own _ rfl _ _ _ 155 rfl 157 4 lawK Tryz.underlying155 _ b acc.length _ rfl HS2.out.1 (by unfold maxLen;omega) _ _ _ rfl rfl hkey _ [] (plainElem_bool Tryz.underlying4 true) ?_)
    intro w3 hown3 hgrow3;have HO3:=hid hown3;rw[Da_snoc] at HO3;have HG:=hid hgrow3;clear hown3 hgrow3 hl q1 q2 q3 q4 q5 q6 q7;go_wp2_with fail;go_ret;refine⟨rfl,⟨?_,fun p hp=>?_⟩,(But.of HB2.out).trans ⟨HG.out.os,HG.out.tape,HG.out.output,HG.out.size,fun k hk hne=>HG.out.block k hk (fun e=>hne (Option.some.inj e))⟩⟩
    · show World.ownsMap _ _ _ _ b (acc++[lnkK x]).length (Da ((acc++[lnkK x]).map keyP))
      rw[List.map_append,List.length_append];exact HO3.out
    · rcases List.mem_append.1 hp with hp|hp
      · exact HS2.out.2 p hp
      · rw[List.mem_singleton.1 hp];exact HSH.out
end Go.Proofs.YtbgodajefaahdaaGreatDoor.Md
