/- Known runs: what some functions on sets of sizes give, each run by the kernel. -/
import Derived.Test.YtgdnhmilhpnbjaaDoorKnMemo
namespace Go.Proofs.YtgdnhmilhpnbjaaDoor.Kn
open Go Go.Rv
def raised0 : Memo := ⟨67, 346981303267425022, [(w [0,0,0,0,0,0,216172782113783808,0,0,0,0,0,0,0,0,0,0,0,0,0,0,0,0,0,0,0,0,0,0,0,0,0,0,0,0,0,0,0,0,0,0,0,0,0]), (i 40)], (w [0,0,0,0,0,0,0,12884901888,0,0,0,0,0,0,0,0,0,0,0,0,0,0,0,0,0,0,0,0,0,0,0,0,0,0,0,0,0,0,0,0,0,0,0,0])⟩
theorem raised0_ok : raised0.Ok Tryd.prog := memo_of rfl own0 600 (by kernel_rfl) (by kernel_rfl) (by kernel_rfl)
def raised1 : Memo := ⟨67, 1349001636158587190, [(w [0,0,0,0,0,0,0,12884901888,0,0,0,0,0,0,0,0,0,0,0,0,0,0,0,0,0,0,0,0,0,0,0,0,0,0,0,0,0,0,0,0,0,0,0,0]), (i 1)], (w [0,0,0,0,0,0,0,25769803776,0,0,0,0,0,0,0,0,0,0,0,0,0,0,0,0,0,0,0,0,0,0,0,0,0,0,0,0,0,0,0,0,0,0,0,0])⟩
theorem raised1_ok : raised1.Ok Tryd.prog := memo_of rfl own0 600 (by kernel_rfl) (by kernel_rfl) (by kernel_rfl)
def raised2 : Memo := ⟨67, 73213138751778175, [(w [0,0,0,0,0,0,0,30064771072,0,0,0,0,0,0,0,0,0,0,0,0,0,0,0,0,0,0,0,0,0,0,0,0,0,0,0,0,0,0,0,0,0,0,0,0]), (i 2)], (w [0,0,0,0,0,0,0,120259084288,0,0,0,0,0,0,0,0,0,0,0,0,0,0,0,0,0,0,0,0,0,0,0,0,0,0,0,0,0,0,0,0,0,0,0,0])⟩
theorem raised2_ok : raised2.Ok Tryd.prog := memo_of rfl own0 600 (by kernel_rfl) (by kernel_rfl) (by kernel_rfl)
def raised3 : Memo := ⟨67, 1641854191165699885, [(w [0,0,0,0,0,0,0,133143986176,0,0,0,0,0,0,0,0,0,0,0,0,0,0,0,0,0,0,0,0,0,0,0,0,0,0,0,0,0,0,0,0,0,0,0,0]), (i 4)], (w [0,0,0,0,0,0,0,2130303778816,0,0,0,0,0,0,0,0,0,0,0,0,0,0,0,0,0,0,0,0,0,0,0,0,0,0,0,0,0,0,0,0,0,0,0,0])⟩
theorem raised3_ok : raised3.Ok Tryd.prog := memo_of rfl own0 600 (by kernel_rfl) (by kernel_rfl) (by kernel_rfl)
def raised4 : Memo := ⟨67, 732873110452418735, [(w [0,0,0,0,0,0,0,2194728288256,0,0,0,0,0,0,0,0,0,0,0,0,0,0,0,0,0,0,0,0,0,0,0,0,0,0,0,0,0,0,0,0,0,0,0,0]), (i 8)], (w [0,0,0,0,0,0,0,561850441793536,0,0,0,0,0,0,0,0,0,0,0,0,0,0,0,0,0,0,0,0,0,0,0,0,0,0,0,0,0,0,0,0,0,0,0,0])⟩
theorem raised4_ok : raised4.Ok Tryd.prog := memo_of rfl own0 600 (by kernel_rfl) (by kernel_rfl) (by kernel_rfl)
def raised5 : Memo := ⟨67, 215221142305197601, [(w [0,0,0,0,0,0,0,562945658454016,0,0,0,0,0,0,0,0,0,0,0,0,0,0,0,0,0,0,0,0,0,0,0,0,0,0,0,0,0,0,0,0,0,0,0,0]), (i 5)], (w [0,0,0,0,0,0,0,18014261070528512,0,0,0,0,0,0,0,0,0,0,0,0,0,0,0,0,0,0,0,0,0,0,0,0,0,0,0,0,0,0,0,0,0,0,0,0])⟩
theorem raised5_ok : raised5.Ok Tryd.prog := memo_of rfl own0 600 (by kernel_rfl) (by kernel_rfl) (by kernel_rfl)
def raised6 : Memo := ⟨67, 1794982277193358981, [(w [0,0,0,0,0,0,0,4503595332403200,0,0,0,0,0,0,0,0,0,0,0,0,0,0,0,0,0,0,0,0,0,0,0,0,0,0,0,0,0,0,0,0,0,0,0,0]), (i 40)], (w [0,0,0,0,0,0,0,0,268435200,0,0,0,0,0,0,0,0,0,0,0,0,0,0,0,0,0,0,0,0,0,0,0,0,0,0,0,0,0,0,0,0,0,0,0])⟩
theorem raised6_ok : raised6.Ok Tryd.prog := memo_of rfl own0 600 (by kernel_rfl) (by kernel_rfl) (by kernel_rfl)
def raised7 : Memo := ⟨67, 61517935833980458, [(w [0,0,0,0,0,0,0,0,268435200,0,0,0,0,0,0,0,0,0,0,0,0,0,0,0,0,0,0,0,0,0,0,0,0,0,0,0,0,0,0,0,0,0,0,0]), (i 1)], (w [0,0,0,0,0,0,0,0,536870400,0,0,0,0,0,0,0,0,0,0,0,0,0,0,0,0,0,0,0,0,0,0,0,0,0,0,0,0,0,0,0,0,0,0,0])⟩
theorem raised7_ok : raised7.Ok Tryd.prog := memo_of rfl own0 600 (by kernel_rfl) (by kernel_rfl) (by kernel_rfl)
def raised8 : Memo := ⟨67, 1310714130155133928, [(w [0,0,0,0,0,0,0,0,536870656,0,0,0,0,0,0,0,0,0,0,0,0,0,0,0,0,0,0,0,0,0,0,0,0,0,0,0,0,0,0,0,0,0,0,0]), (i 2)], (w [0,0,0,0,0,0,0,0,2147482624,0,0,0,0,0,0,0,0,0,0,0,0,0,0,0,0,0,0,0,0,0,0,0,0,0,0,0,0,0,0,0,0,0,0,0])⟩
theorem raised8_ok : raised8.Ok Tryd.prog := memo_of rfl own0 600 (by kernel_rfl) (by kernel_rfl) (by kernel_rfl)
def raised9 : Memo := ⟨67, 1888362268440972891, [(w [0,0,0,0,0,0,0,0,2147483392,0,0,0,0,0,0,0,0,0,0,0,0,0,0,0,0,0,0,0,0,0,0,0,0,0,0,0,0,0,0,0,0,0,0,0]), (i 4)], (w [0,0,0,0,0,0,0,0,34359734272,0,0,0,0,0,0,0,0,0,0,0,0,0,0,0,0,0,0,0,0,0,0,0,0,0,0,0,0,0,0,0,0,0,0,0])⟩
theorem raised9_ok : raised9.Ok Tryd.prog := memo_of rfl own0 600 (by kernel_rfl) (by kernel_rfl) (by kernel_rfl)
def raised10 : Memo := ⟨67, 1912109988089282360, [(w [0,0,0,0,0,0,0,0,34359738112,0,0,0,0,0,0,0,0,0,0,0,0,0,0,0,0,0,0,0,0,0,0,0,0,0,0,0,0,0,0,0,0,0,0,0]), (i 8)], (w [0,0,0,0,0,0,0,0,8796092956672,0,0,0,0,0,0,0,0,0,0,0,0,0,0,0,0,0,0,0,0,0,0,0,0,0,0,0,0,0,0,0,0,0,0,0])⟩
theorem raised10_ok : raised10.Ok Tryd.prog := memo_of rfl own0 600 (by kernel_rfl) (by kernel_rfl) (by kernel_rfl)
def raised11 : Memo := ⟨67, 1453960704788374984, [(w [0,0,0,0,0,0,0,0,8796093021952,0,0,0,0,0,0,0,0,0,0,0,0,0,0,0,0,0,0,0,0,0,0,0,0,0,0,0,0,0,0,0,0,0,0,0]), (i 5)], (w [0,0,0,0,0,0,0,0,281474976702464,0,0,0,0,0,0,0,0,0,0,0,0,0,0,0,0,0,0,0,0,0,0,0,0,0,0,0,0,0,0,0,0,0,0,0])⟩
theorem raised11_ok : raised11.Ok Tryd.prog := memo_of rfl own0 600 (by kernel_rfl) (by kernel_rfl) (by kernel_rfl)
def raised12 : Memo := ⟨67, 1986895884861991737, [(w [0,0,0,0,0,0,0,4294967296,0,0,0,0,0,0,0,0,0,0,0,0,0,0,0,0,0,0,0,0,0,0,0,0,0,0,0,0,0,0,0,0,0,0,0,0]), (i 40)], (w [0,0,0,0,0,0,0,0,256,0,0,0,0,0,0,0,0,0,0,0,0,0,0,0,0,0,0,0,0,0,0,0,0,0,0,0,0,0,0,0,0,0,0,0])⟩
theorem raised12_ok : raised12.Ok Tryd.prog := memo_of rfl own0 600 (by kernel_rfl) (by kernel_rfl) (by kernel_rfl)
def raised13 : Memo := ⟨67, 1187678258487173013, [(w [0,0,0,0,0,0,0,0,256,0,0,0,0,0,0,0,0,0,0,0,0,0,0,0,0,0,0,0,0,0,0,0,0,0,0,0,0,0,0,0,0,0,0,0]), (i 1)], (w [0,0,0,0,0,0,0,0,512,0,0,0,0,0,0,0,0,0,0,0,0,0,0,0,0,0,0,0,0,0,0,0,0,0,0,0,0,0,0,0,0,0,0,0])⟩
theorem raised13_ok : raised13.Ok Tryd.prog := memo_of rfl own0 600 (by kernel_rfl) (by kernel_rfl) (by kernel_rfl)
def raised14 : Memo := ⟨67, 1257191766247825087, [(w [0,0,0,0,0,0,0,0,768,0,0,0,0,0,0,0,0,0,0,0,0,0,0,0,0,0,0,0,0,0,0,0,0,0,0,0,0,0,0,0,0,0,0,0]), (i 2)], (w [0,0,0,0,0,0,0,0,3072,0,0,0,0,0,0,0,0,0,0,0,0,0,0,0,0,0,0,0,0,0,0,0,0,0,0,0,0,0,0,0,0,0,0,0])⟩
theorem raised14_ok : raised14.Ok Tryd.prog := memo_of rfl own0 600 (by kernel_rfl) (by kernel_rfl) (by kernel_rfl)
def raised15 : Memo := ⟨67, 1674272812811737527, [(w [0,0,0,0,0,0,0,0,3840,0,0,0,0,0,0,0,0,0,0,0,0,0,0,0,0,0,0,0,0,0,0,0,0,0,0,0,0,0,0,0,0,0,0,0]), (i 4)], (w [0,0,0,0,0,0,0,0,61440,0,0,0,0,0,0,0,0,0,0,0,0,0,0,0,0,0,0,0,0,0,0,0,0,0,0,0,0,0,0,0,0,0,0,0])⟩
theorem raised15_ok : raised15.Ok Tryd.prog := memo_of rfl own0 600 (by kernel_rfl) (by kernel_rfl) (by kernel_rfl)
def raised16 : Memo := ⟨67, 792521707235210487, [(w [0,0,0,0,0,0,0,0,65280,0,0,0,0,0,0,0,0,0,0,0,0,0,0,0,0,0,0,0,0,0,0,0,0,0,0,0,0,0,0,0,0,0,0,0]), (i 8)], (w [0,0,0,0,0,0,0,0,16711680,0,0,0,0,0,0,0,0,0,0,0,0,0,0,0,0,0,0,0,0,0,0,0,0,0,0,0,0,0,0,0,0,0,0,0])⟩
theorem raised16_ok : raised16.Ok Tryd.prog := memo_of rfl own0 600 (by kernel_rfl) (by kernel_rfl) (by kernel_rfl)
def raised17 : Memo := ⟨67, 763893948644025420, [(w [0,0,0,0,0,0,0,0,16776960,0,0,0,0,0,0,0,0,0,0,0,0,0,0,0,0,0,0,0,0,0,0,0,0,0,0,0,0,0,0,0,0,0,0,0]), (i 5)], (w [0,0,0,0,0,0,0,0,536862720,0,0,0,0,0,0,0,0,0,0,0,0,0,0,0,0,0,0,0,0,0,0,0,0,0,0,0,0,0,0,0,0,0,0,0])⟩
theorem raised17_ok : raised17.Ok Tryd.prog := memo_of rfl own0 600 (by kernel_rfl) (by kernel_rfl) (by kernel_rfl)
def raised18 : Memo := ⟨67, 422111256996102516, [(w [0,0,0,0,0,0,18446744073709486080,4503599627370495,0,0,0,0,0,0,0,0,0,0,0,0,0,0,0,0,0,0,0,0,0,0,0,0,0,0,0,0,0,0,0,0,0,0,0,0]), (i 40)], (w [0,0,0,0,0,0,18374686479671623680,18446744073709551615,268435455,0,0,0,0,0,0,0,0,0,0,0,0,0,0,0,0,0,0,0,0,0,0,0,0,0,0,0,0,0,0,0,0,0,0,0])⟩
theorem raised18_ok : raised18.Ok Tryd.prog := memo_of rfl own0 600 (by kernel_rfl) (by kernel_rfl) (by kernel_rfl)
def raised19 : Memo := ⟨67, 2240910651872709807, [(w [0,0,0,0,0,0,18374686479671623680,18446744073709551615,268435455,0,0,0,0,0,0,0,0,0,0,0,0,0,0,0,0,0,0,0,0,0,0,0,0,0,0,0,0,0,0,0,0,0,0,0]), (i 1)], (w [0,0,0,0,0,0,18302628885633695744,18446744073709551615,536870911,0,0,0,0,0,0,0,0,0,0,0,0,0,0,0,0,0,0,0,0,0,0,0,0,0,0,0,0,0,0,0,0,0,0,0])⟩
theorem raised19_ok : raised19.Ok Tryd.prog := memo_of rfl own0 600 (by kernel_rfl) (by kernel_rfl) (by kernel_rfl)
def raised20 : Memo := ⟨67, 1184263836980169326, [(w [0,0,0,0,0,0,18374686479671623680,18446744073709551615,536870911,0,0,0,0,0,0,0,0,0,0,0,0,0,0,0,0,0,0,0,0,0,0,0,0,0,0,0,0,0,0,0,0,0,0,0]), (i 2)], (w [0,0,0,0,0,0,18158513697557839872,18446744073709551615,2147483647,0,0,0,0,0,0,0,0,0,0,0,0,0,0,0,0,0,0,0,0,0,0,0,0,0,0,0,0,0,0,0,0,0,0,0])⟩
theorem raised20_ok : raised20.Ok Tryd.prog := memo_of rfl own0 600 (by kernel_rfl) (by kernel_rfl) (by kernel_rfl)
def raised21 : Memo := ⟨67, 1761911975266008289, [(w [0,0,0,0,0,0,18374686479671623680,18446744073709551615,2147483647,0,0,0,0,0,0,0,0,0,0,0,0,0,0,0,0,0,0,0,0,0,0,0,0,0,0,0,0,0,0,0,0,0,0,0]), (i 4)], (w [0,0,0,0,0,0,17293822569102704640,18446744073709551615,34359738367,0,0,0,0,0,0,0,0,0,0,0,0,0,0,0,0,0,0,0,0,0,0,0,0,0,0,0,0,0,0,0,0,0,0,0])⟩
theorem raised21_ok : raised21.Ok Tryd.prog := memo_of rfl own0 600 (by kernel_rfl) (by kernel_rfl) (by kernel_rfl)
def raised22 : Memo := ⟨67, 1785659694914317758, [(w [0,0,0,0,0,0,18374686479671623680,18446744073709551615,34359738367,0,0,0,0,0,0,0,0,0,0,0,0,0,0,0,0,0,0,0,0,0,0,0,0,0,0,0,0,0,0,0,0,0,0,0]), (i 8)], (w [0,0,0,0,0,0,0,18446744073709551615,8796093022207,0,0,0,0,0,0,0,0,0,0,0,0,0,0,0,0,0,0,0,0,0,0,0,0,0,0,0,0,0,0,0,0,0,0,0])⟩
theorem raised22_ok : raised22.Ok Tryd.prog := memo_of rfl own0 600 (by kernel_rfl) (by kernel_rfl) (by kernel_rfl)
def raised23 : Memo := ⟨67, 1327510411613410382, [(w [0,0,0,0,0,0,18374686479671623680,18446744073709551615,8796093022207,0,0,0,0,0,0,0,0,0,0,0,0,0,0,0,0,0,0,0,0,0,0,0,0,0,0,0,0,0,0,0,0,0,0,0]), (i 5)], (w [0,0,0,0,0,0,16140901064495857664,18446744073709551615,281474976710655,0,0,0,0,0,0,0,0,0,0,0,0,0,0,0,0,0,0,0,0,0,0,0,0,0,0,0,0,0,0,0,0,0,0,0])⟩
theorem raised23_ok : raised23.Ok Tryd.prog := memo_of rfl own0 600 (by kernel_rfl) (by kernel_rfl) (by kernel_rfl)
def raised24 : Memo := ⟨67, 1579995577958151018, [(w [0,0,0,0,0,0,18374686479671623680,4503599627370495,0,0,0,0,0,0,0,0,0,0,0,0,0,0,0,0,0,0,0,0,0,0,0,0,0,0,0,0,0,0,0,0,0,0,0,0]), (i 40)], (w [0,0,0,0,0,0,0,18446744069414584320,268435455,0,0,0,0,0,0,0,0,0,0,0,0,0,0,0,0,0,0,0,0,0,0,0,0,0,0,0,0,0,0,0,0,0,0,0])⟩
theorem raised24_ok : raised24.Ok Tryd.prog := memo_of rfl own0 600 (by kernel_rfl) (by kernel_rfl) (by kernel_rfl)
def raised25 : Memo := ⟨67, 150054341894223819, [(w [0,0,0,0,0,0,0,18446744069414584320,268435455,0,0,0,0,0,0,0,0,0,0,0,0,0,0,0,0,0,0,0,0,0,0,0,0,0,0,0,0,0,0,0,0,0,0,0]), (i 1)], (w [0,0,0,0,0,0,0,18446744065119617024,536870911,0,0,0,0,0,0,0,0,0,0,0,0,0,0,0,0,0,0,0,0,0,0,0,0,0,0,0,0,0,0,0,0,0,0,0])⟩
theorem raised25_ok : raised25.Ok Tryd.prog := memo_of rfl own0 600 (by kernel_rfl) (by kernel_rfl) (by kernel_rfl)
def raised26 : Memo := ⟨67, 1399250536215377289, [(w [0,0,0,0,0,0,0,18446744069414584320,536870911,0,0,0,0,0,0,0,0,0,0,0,0,0,0,0,0,0,0,0,0,0,0,0,0,0,0,0,0,0,0,0,0,0,0,0]), (i 2)], (w [0,0,0,0,0,0,0,18446744056529682432,2147483647,0,0,0,0,0,0,0,0,0,0,0,0,0,0,0,0,0,0,0,0,0,0,0,0,0,0,0,0,0,0,0,0,0,0,0])⟩
theorem raised26_ok : raised26.Ok Tryd.prog := memo_of rfl own0 600 (by kernel_rfl) (by kernel_rfl) (by kernel_rfl)
def raised27 : Memo := ⟨67, 1976898674501216252, [(w [0,0,0,0,0,0,0,18446744069414584320,2147483647,0,0,0,0,0,0,0,0,0,0,0,0,0,0,0,0,0,0,0,0,0,0,0,0,0,0,0,0,0,0,0,0,0,0,0]), (i 4)], (w [0,0,0,0,0,0,0,18446744004990074880,34359738367,0,0,0,0,0,0,0,0,0,0,0,0,0,0,0,0,0,0,0,0,0,0,0,0,0,0,0,0,0,0,0,0,0,0,0])⟩
theorem raised27_ok : raised27.Ok Tryd.prog := memo_of rfl own0 600 (by kernel_rfl) (by kernel_rfl) (by kernel_rfl)
def raised28 : Memo := ⟨67, 2000646394149525721, [(w [0,0,0,0,0,0,0,18446744069414584320,34359738367,0,0,0,0,0,0,0,0,0,0,0,0,0,0,0,0,0,0,0,0,0,0,0,0,0,0,0,0,0,0,0,0,0,0,0]), (i 8)], (w [0,0,0,0,0,0,0,18446742974197923840,8796093022207,0,0,0,0,0,0,0,0,0,0,0,0,0,0,0,0,0,0,0,0,0,0,0,0,0,0,0,0,0,0,0,0,0,0,0])⟩
theorem raised28_ok : raised28.Ok Tryd.prog := memo_of rfl own0 600 (by kernel_rfl) (by kernel_rfl) (by kernel_rfl)
def raised29 : Memo := ⟨67, 1542497110848618345, [(w [0,0,0,0,0,0,0,18446744069414584320,8796093022207,0,0,0,0,0,0,0,0,0,0,0,0,0,0,0,0,0,0,0,0,0,0,0,0,0,0,0,0,0,0,0,0,0,0,0]), (i 5)], (w [0,0,0,0,0,0,0,18446743936270598144,281474976710655,0,0,0,0,0,0,0,0,0,0,0,0,0,0,0,0,0,0,0,0,0,0,0,0,0,0,0,0,0,0,0,0,0,0,0])⟩
theorem raised29_ok : raised29.Ok Tryd.prog := memo_of rfl own0 600 (by kernel_rfl) (by kernel_rfl) (by kernel_rfl)
def raiseds : List Memo := [raised0, raised1, raised2, raised3, raised4, raised5, raised6, raised7, raised8, raised9, raised10, raised11, raised12, raised13, raised14, raised15, raised16, raised17, raised18, raised19, raised20, raised21, raised22, raised23, raised24, raised25, raised26, raised27, raised28, raised29]
theorem raiseds_ok : ∀ e ∈ raiseds, e.Ok Tryd.prog ∧ e.g = 67 := by
  intro e he
  simp only [raiseds, List.mem_cons, List.not_mem_nil, or_false] at he
  rcases he with rfl | rfl | rfl | rfl | rfl | rfl | rfl | rfl | rfl | rfl | rfl | rfl | rfl | rfl | rfl | rfl | rfl | rfl | rfl | rfl | rfl | rfl | rfl | rfl | rfl | rfl | rfl | rfl | rfl | rfl
  · exact ⟨raised0_ok, rfl⟩
  · exact ⟨raised1_ok, rfl⟩
  · exact ⟨raised2_ok, rfl⟩
  · exact ⟨raised3_ok, rfl⟩
  · exact ⟨raised4_ok, rfl⟩
  · exact ⟨raised5_ok, rfl⟩
  · exact ⟨raised6_ok, rfl⟩
  · exact ⟨raised7_ok, rfl⟩
  · exact ⟨raised8_ok, rfl⟩
  · exact ⟨raised9_ok, rfl⟩
  · exact ⟨raised10_ok, rfl⟩
  · exact ⟨raised11_ok, rfl⟩
  · exact ⟨raised12_ok, rfl⟩
  · exact ⟨raised13_ok, rfl⟩
  · exact ⟨raised14_ok, rfl⟩
  · exact ⟨raised15_ok, rfl⟩
  · exact ⟨raised16_ok, rfl⟩
  · exact ⟨raised17_ok, rfl⟩
  · exact ⟨raised18_ok, rfl⟩
  · exact ⟨raised19_ok, rfl⟩
  · exact ⟨raised20_ok, rfl⟩
  · exact ⟨raised21_ok, rfl⟩
  · exact ⟨raised22_ok, rfl⟩
  · exact ⟨raised23_ok, rfl⟩
  · exact ⟨raised24_ok, rfl⟩
  · exact ⟨raised25_ok, rfl⟩
  · exact ⟨raised26_ok, rfl⟩
  · exact ⟨raised27_ok, rfl⟩
  · exact ⟨raised28_ok, rfl⟩
  · exact ⟨raised29_ok, rfl⟩
end Go.Proofs.YtgdnhmilhpnbjaaDoor.Kn
