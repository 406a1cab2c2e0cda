"""Words grown by rules. The calls are asked through grownwords.desk.answers."""
