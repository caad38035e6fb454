"""messageways: messages with choices, judged for all arguments."""
