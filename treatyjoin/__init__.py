"""Who joins a treaty, if each state would join if others do."""
