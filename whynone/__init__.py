"""Reasons that are checked: the program is asked through whynone.desk.answers."""
