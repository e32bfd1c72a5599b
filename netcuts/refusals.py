"""The numbers that stand for refusals."""

OUT_OF_BOUNDS = -1
LEADS_ELSEWHERE = -6
SIDES_CROSS = -6
